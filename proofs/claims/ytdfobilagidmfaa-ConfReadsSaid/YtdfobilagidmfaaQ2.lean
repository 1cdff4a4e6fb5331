/- Texts put together: Ref3, Cf2, Itr, Adr1, Cg1. -/
import Derived.Test.YtdfobilagidmfaaQ1
import Derived.Test.YtdfobilagidmfaaRows
import Derived.WalkSpells
import Derived.WalkLawsBesides
import Derived.Lib.Hide
import Derived.Deep.LoopGhost
import Derived.BigRegion
import Derived.Laws.OwnMore
import Derived.Lib.OthersKept
import Derived.Deep.RegionHeld
namespace Go.Proofs.Ytdfobilagidmfaa
open Go.RowKit

theorem ret_i64' {a b : Int} (h : a = b) : Ending.returned (.int .i64 a) = .returned (.int .i64 b) := by rw [h]

theorem str_at (s : ByteArray) (k : Nat) (h : k < s.size) : s.data.toList.drop k = s[k] :: s.data.toList.drop (k + 1) := by
  rw [List.drop_eq_getElem_cons (by simpa using h)]; rfl

set_option maxHeartbeats 1000000 in
theorem number_any (s : ByteArray) (most : Int) (w : World) (hs : s.size ≤ maxLen) :
    Calls Try.prog 70 #[.string s, .int .i64 most] w fun e w' => e = .returned (.int .i64 (numI s.data.toList most)) ∧ w = w' := by
  unfold maxLen at hs
  have hlen : s.data.toList.length = s.size := by simp
  have s0 : (0 : Int) ≤ s.size := by omega
  have s1 : (s.size : Int) ≤ 9223372036854775807 := by omega
  by_cases hz : s.size < 1
  · have hr := Lib.hid (numI_shape (l := s.data.toList) most (.inl (by omega)))
    have b1 : (s.size : Int) < 1 := by omega
    rw [hr.out]
    clear hlen hz hs
    go_enter Try.func70, Try.ntmps70
    go_wp2
    go_ret
    exact ⟨rfl, rfl⟩
  by_cases h9 : 9 < s.size
  · have hr := Lib.hid (numI_shape (l := s.data.toList) most (.inr (.inl (by omega))))
    have b1 : (1 : Int) ≤ s.size := by omega
    have b2 : (9 : Int) < s.size := by omega
    rw [hr.out]
    clear hlen hz hs h9
    go_enter Try.func70, Try.ntmps70
    go_wp2
    go_ret
    exact ⟨rfl, rfl⟩
  have b1 : (1 : Int) ≤ s.size := by omega
  have b2 : (s.size : Int) ≤ 9 := by omega
  have hpos : 0 < s.size := by omega
  have h0 : s.data.toList[0]? = some s[0] := by
    rw [List.getElem?_eq_getElem (by omega)]; rfl
  obtain ⟨x, hx⟩ : ∃ x, Hid (s[0] = x) := ⟨_, Lib.hid rfl⟩
  rw [hx.out] at h0
  by_cases h1 : s.size = 1
  · have hsh' : ¬ (s.data.toList.length < 1 ∨ 9 < s.data.toList.length ∨ (1 < s.data.toList.length ∧ s.data.toList[0]? = some 48)) := by omega
    have b3 : decide ((1 : Int) < s.size) = false := decide_eq_false (by omega)
    have H1 := Lib.hid h1
    clear h1 h0 hx hz h9
    go_enter Try.func70, Try.ntmps70
    go_wp2
    go_loop [5, 6] (fun n i => ∃ k v : Nat, k ≤ s.size ∧ i = .int .i64 k ∧ n = .int .i64 v ∧ numGo (s.data.toList.drop k) v = numGo s.data.toList 0 ∧ v < 10 ^ k) (fun _ i => s.size - (intOf i).toNat)
    case atStart => exact ⟨0, 0, by omega, rfl, rfl, by rw [List.drop_zero], by simp⟩
    case round =>
      obtain ⟨k, v, hk, rfl, rfl, hv, hb⟩ := hrel
      have hb9 : (10 : Nat) ^ k ≤ 10 ^ 9 := Nat.pow_le_pow_right (by omega) (by omega)
      have v0 : (0 : Int) ≤ v := by omega
      have v1 : (v : Int) < 1000000000 := by omega
      by_cases hlt : k < s.size
      · have hat := str_at s k hlt
        have hpow : (10 : Nat) ^ (k + 1) = 10 * 10 ^ k := by rw [Nat.pow_succ]; omega
        obtain ⟨c, hc⟩ : ∃ c, Hid (s[k] = c) := ⟨_, Lib.hid rfl⟩
        have hcl := c.toNat_lt
        have hg : numGo (s.data.toList.drop k) v = if c.toNat < 48 ∨ 57 < c.toNat then none else numGo (s.data.toList.drop (k + 1)) (10 * v + (c.toNat - 48)) := by
          rw [hat, hc.out]; rfl
        have k0 : (0 : Int) ≤ k := by omega
        have k1 : (k : Int) < s.size := by omega
        have c0 : (0 : Int) ≤ c.toNat := by omega
        have c1 : (c.toNat : Int) < 256 := by omega
        by_cases hd : c.toNat < 48
        · have hn := Lib.hid (numI_none (l := s.data.toList) most (by rw [← hv, hg, if_pos (.inl hd)]))
          have d0 : (c.toNat : Int) < 48 := by omega
          have e := hc.out
          clear hv hat hg hb hb9 hpow hc
          go_wp2
          go_ret
          exact ⟨ret_i64' hn.out.symm, rfl⟩
        · by_cases hd2 : 57 < c.toNat
          · have hn := Lib.hid (numI_none (l := s.data.toList) most (by rw [← hv, hg, if_pos (.inr hd2)]))
            have d0 : (48 : Int) ≤ c.toNat := by omega
            have d1 : (57 : Int) < c.toNat := by omega
            have e := hc.out
            clear hv hat hg hb hb9 hpow hc
            go_wp2
            go_ret
            exact ⟨ret_i64' hn.out.symm, rfl⟩
          · have hn : Hid (numGo (s.data.toList.drop (k + 1)) (10 * v + (c.toNat - 48)) = numGo s.data.toList 0) := Lib.hid (by rw [← hv, hg, if_neg (by omega)])
            have d0 : (48 : Int) ≤ c.toNat := by omega
            have d1 : decide ((57 : Int) < c.toNat) = false := decide_eq_false (by omega)
            have d2 : decide ((c.toNat : Int) < 48) = false := decide_eq_false (by omega)
            have hb' : 10 * v + (c.toNat - 48) < 10 ^ (k + 1) := by omega
            have HB := Lib.hid hb'
            have e := hc.out
            clear hv hat hg hb hb9 hpow hc hb'
            go_wp2
            go_round
            case rel => exact ⟨k + 1, 10 * v + (c.toNat - 48), by omega, by go_num, by go_num, hn.out, HB.out⟩
            case measure => simp [intOf]; omega
      · obtain rfl : k = s.size := by omega
        rw [List.drop_of_length_le (by omega)] at hv
        have hn := Lib.hid (numI_some (l := s.data.toList) most v hsh' hv.symm)
        by_cases hm : most < (v : Int)
        · have hn' : Hid (numI s.data.toList most = -1) := Lib.hid (by rw [hn.out, if_pos hm])
          clear hv hb hb9 hn
          go_wp2
          go_ret
          exact ⟨ret_i64' hn'.out.symm, rfl⟩
        · have hn' : Hid (numI s.data.toList most = v) := Lib.hid (by rw [hn.out, if_neg hm])
          have hm' : decide (most < (v : Int)) = false := decide_eq_false (by omega)
          clear hv hb hb9 hn hm
          go_wp2
          go_ret
          exact ⟨ret_i64' hn'.out.symm, rfl⟩
  · have b3 : (1 : Int) < s.size := by omega
    by_cases h48 : x.toNat = 48
    · have hr := Lib.hid (numI_shape (l := s.data.toList) most (.inr (.inr ⟨by omega, by rw [h0]; congr 1; exact UInt8.toNat_inj.1 h48⟩)))
      rw [hr.out]
      have e := hx.out
      have b4 : (x.toNat : Int) = 48 := by omega
      clear hlen hz hs h9 h1 h0 hx h48
      go_enter Try.func70, Try.ntmps70
      go_wp2
      go_ret
      exact ⟨rfl, rfl⟩
    · have hsh' : ¬ (s.data.toList.length < 1 ∨ 9 < s.data.toList.length ∨ (1 < s.data.toList.length ∧ s.data.toList[0]? = some 48)) := by
        rw [h0]
        have : ¬ (some x = some (48 : UInt8)) := fun h => h48 (by rw [Option.some.inj h]; rfl)
        rintro (h | h | h)
        · omega
        · omega
        · exact this h.2
      have e := hx.out
      have b4 : ((x.toNat : Int) == 48) = false := beq_eq_false_iff_ne.2 (by omega)
      clear h1 h0 hx hz h9 h48
      go_enter Try.func70, Try.ntmps70
      go_wp2
      go_loop [5, 6] (fun n i => ∃ k v : Nat, k ≤ s.size ∧ i = .int .i64 k ∧ n = .int .i64 v ∧ numGo (s.data.toList.drop k) v = numGo s.data.toList 0 ∧ v < 10 ^ k) (fun _ i => s.size - (intOf i).toNat)
      case atStart => exact ⟨0, 0, by omega, rfl, rfl, by rw [List.drop_zero], by simp⟩
      case round =>
        obtain ⟨k, v, hk, rfl, rfl, hv, hb⟩ := hrel
        have hb9 : (10 : Nat) ^ k ≤ 10 ^ 9 := Nat.pow_le_pow_right (by omega) (by omega)
        have v0 : (0 : Int) ≤ v := by omega
        have v1 : (v : Int) < 1000000000 := by omega
        by_cases hlt : k < s.size
        · have hat := str_at s k hlt
          have hpow : (10 : Nat) ^ (k + 1) = 10 * 10 ^ k := by rw [Nat.pow_succ]; omega
          obtain ⟨c, hc⟩ : ∃ c, Hid (s[k] = c) := ⟨_, Lib.hid rfl⟩
          have hcl := c.toNat_lt
          have hg : numGo (s.data.toList.drop k) v = if c.toNat < 48 ∨ 57 < c.toNat then none else numGo (s.data.toList.drop (k + 1)) (10 * v + (c.toNat - 48)) := by
            rw [hat, hc.out]; rfl
          have k0 : (0 : Int) ≤ k := by omega
          have k1 : (k : Int) < s.size := by omega
          have c0 : (0 : Int) ≤ c.toNat := by omega
          have c1 : (c.toNat : Int) < 256 := by omega
          by_cases hd : c.toNat < 48
          · have hn := Lib.hid (numI_none (l := s.data.toList) most (by rw [← hv, hg, if_pos (.inl hd)]))
            have d0 : (c.toNat : Int) < 48 := by omega
            have e := hc.out
            clear hv hat hg hb hb9 hpow hc
            go_wp2
            go_ret
            exact ⟨ret_i64' hn.out.symm, rfl⟩
          · by_cases hd2 : 57 < c.toNat
            · have hn := Lib.hid (numI_none (l := s.data.toList) most (by rw [← hv, hg, if_pos (.inr hd2)]))
              have d0 : (48 : Int) ≤ c.toNat := by omega
              have d1 : (57 : Int) < c.toNat := by omega
              have e := hc.out
              clear hv hat hg hb hb9 hpow hc
              go_wp2
              go_ret
              exact ⟨ret_i64' hn.out.symm, rfl⟩
            · have hn : Hid (numGo (s.data.toList.drop (k + 1)) (10 * v + (c.toNat - 48)) = numGo s.data.toList 0) := Lib.hid (by rw [← hv, hg, if_neg (by omega)])
              have d0 : (48 : Int) ≤ c.toNat := by omega
              have d1 : decide ((57 : Int) < c.toNat) = false := decide_eq_false (by omega)
              have d2 : decide ((c.toNat : Int) < 48) = false := decide_eq_false (by omega)
              have hb' : 10 * v + (c.toNat - 48) < 10 ^ (k + 1) := by omega
              have HB := Lib.hid hb'
              have e := hc.out
              clear hv hat hg hb hb9 hpow hc hb'
              go_wp2
              go_round
              case rel => exact ⟨k + 1, 10 * v + (c.toNat - 48), by omega, by go_num, by go_num, hn.out, HB.out⟩
              case measure => simp [intOf]; omega
        · obtain rfl : k = s.size := by omega
          rw [List.drop_of_length_le (by omega)] at hv
          have hn := Lib.hid (numI_some (l := s.data.toList) most v hsh' hv.symm)
          by_cases hm : most < (v : Int)
          · have hn' : Hid (numI s.data.toList most = -1) := Lib.hid (by rw [hn.out, if_pos hm])
            clear hv hb hb9 hn
            go_wp2
            go_ret
            exact ⟨ret_i64' hn'.out.symm, rfl⟩
          · have hn' : Hid (numI s.data.toList most = v) := Lib.hid (by rw [hn.out, if_neg hm])
            have hm' : decide (most < (v : Int)) = false := decide_eq_false (by omega)
            clear hv hb hb9 hn hm
            go_wp2
            go_ret
            exact ⟨ret_i64' hn'.out.symm, rfl⟩

/-- Bytes as a string's value. -/
def strv (l : List UInt8) : Value := .string ⟨l.toArray⟩
theorem str_more (last : List UInt8) (s : ByteArray) (k : Nat) (h : k < s.size) : ((⟨last.toArray⟩ : ByteArray) ++ s.extract k (k + 1)) = ⟨(last ++ [s[k]]).toArray⟩ := by
  apply ByteArray.ext
  rw [ByteArray.data_append, ByteArray.data_extract]
  apply Array.ext'
  simp only [Array.toList_append, Array.toList_extract, List.extract_eq_take_drop]
  have e : (s.data.toList.drop k).take (k + 1 - k) = [s[k]] := by
    rw [str_at s k h]; simp
  rw [e]
theorem take_str (s : ByteArray) (k : Nat) (h : k < s.size) : s.data.toList.take (k + 1) = s.data.toList.take k ++ [s[k]] := by
  rw [List.take_succ_eq_append_getElem (by simpa using h)]; rfl
theorem Try.info_str : (Try.prog.info? 9).map (fun i => (i.zero, i.size, i.bytes)) = some (some (.string ⟨#[]⟩), 1, 16) := by kernel_rfl

set_option maxHeartbeats 1000000 in
theorem cut_big (s : ByteArray) (b : UInt8) (w : World) (hs : s.size ≤ 100000) :
    Calls Try.prog 43 #[.string s, .int .u8 (b.toNat : Int)] w fun e w' => ∃ v, e = .returned v ∧ w'.ownsRow w.heap.size 9 1 v (cutF b s.data.toList).length ((cutF b s.data.toList).map strv) ∧ Below w.heap.size w w' := by
  obtain ⟨i0, hi, hz0, hz1, hz2⟩ := info_parts Try.info_str
  have s1 : (s.size : Int) ≤ 100000 := by omega
  have hb0 : (0 : Int) ≤ b.toNat := by omega
  have hb1 : (b.toNat : Int) < 256 := by have := b.toNat_lt; omega
  have hstart : (w.alloc (.cells #[.string ⟨#[]⟩] 9)).ownsRow w.heap.size 9 1 (.slice (some ⟨w.heap.size, 0, none⟩) 1 1) 1 (([[]] : List (List UInt8)).map strv) :=
    ⟨rfl, .inr ⟨w.heap.size, 1, _, rfl, Nat.le_refl _, heap_alloc_new w _, Nat.le_refl _, by unfold maxLen; omega, rfl, rfl⟩⟩
  have bel0 : Below w.heap.size w (w.alloc (.cells #[.string ⟨#[]⟩] 9)) := (Below.refl _ _).alloc (Nat.le_refl _) _
  go_enter Try.func43, Try.ntmps43
  go_wp2
  go_loopw [5, 6] (fun v i wr => ∃ (k : Nat) (v0 : Value), v0 = v ∧ k ≤ s.size ∧ i = .int .i64 k ∧ wr.ownsRow w.heap.size 9 1 v (cutF b (s.data.toList.take k)).length ((cutF b (s.data.toList.take k)).map strv) ∧ Below w.heap.size w wr) (fun _ i _ => s.size - (intOf i).toNat)
  case atStart => exact ⟨0, _, rfl, by omega, rfl, hstart, bel0⟩
  case round =>
    obtain ⟨k, v, rfl, hk, rfl, hown, bel⟩ := hrel
    by_cases hlt : k < s.size
    · have htk := take_str s k hlt
      have hlen := cutF_len b (s.data.toList.take k)
      have hne := cutF_ne b (s.data.toList.take k)
      have hpc := cutF_piece b (s.data.toList.take k)
      have hcl : (s.data.toList.take k).length ≤ k := List.length_take_le _ _
      have hsn : cutF b (s.data.toList.take (k + 1)) = cutStep b (cutF b (s.data.toList.take k)) s[k] := by rw [htk, cutF_snoc]
      generalize cutF b (s.data.toList.take k) = ls at *
      obtain ⟨c, hc⟩ : ∃ c, Hid (s[k] = c) := ⟨_, Lib.hid rfl⟩
      rw [hc.out] at hsn
      have k0 : (0 : Int) ≤ k := by omega
      have k1 : (k : Int) < s.size := by omega
      by_cases hcb : c = b
      · obtain rfl := hcb
        have hsn2 : Hid (cutF c (s.data.toList.take (k + 1)) = ls ++ [[]]) := Lib.hid (by rw [hsn]; exact if_pos rfl)
        have e := hc.out
        have hls : ls.length ≤ 100001 := by omega
        clear hsn htk hcl hne hc hpc
        go_wp2_with (at_builtin; refine wpList_append_own _ rfl (.tmp 19) (.tmp 20) 47 rfl w.heap.size 9 i0 (.string ⟨#[]⟩) 1 16 Try.underlying47 hi hz0 hz1 hz2 rfl (by decide) _ _ _ rfl (hown.alloc _) ⟨wr.heap.size, 0, none⟩ 1 1 [.string ⟨#[]⟩] rfl rfl ?c1 ?c2 ?c3 ?c4 ?c5 ?_)
        case c1 => exact cell_one_new _ _ _
        case c2 => intro u hu; rw [List.mem_singleton.1 hu]; rfl
        case c3 => unfold maxLen; omega
        case c4 => omega
        case c5 => have := bel.size; simp; omega
        intro v' w1 hown1 hg1 _
        have bel1 : Below w.heap.size w w1 := (bel.alloc bel.size _).grown hg1 (by have := bel.size; simp; omega) (fun k h => (hown.lt k h).1)
        have hown2 : w1.ownsRow w.heap.size 9 1 v' (ls ++ [[]]).length ((ls ++ [[]]).map strv) := by rw [List.map_append, List.length_append]; exact hown1
        clear hown hown1 hg1 bel
        go_wp2
        go_roundw
        case rel => exact ⟨k + 1, _, rfl, by omega, by go_num, by rw [hsn2.out]; exact hown2, bel1⟩
        case measure => simp [intOf]; omega
      · obtain ⟨init, last, hil⟩ : ∃ init last, ls = init ++ [last] := ⟨ls.dropLast, ls.getLast hne, (List.dropLast_concat_getLast hne).symm⟩
        subst hil
        have hsn2 : Hid (cutF b (s.data.toList.take (k + 1)) = init ++ [last ++ [c]]) := Lib.hid (by rw [hsn]; unfold cutStep; rw [if_neg hcb]; simp)
        have e := hc.out
        have hcb' : ((c.toNat : Int) == (b.toNat : Int)) = false := beq_eq_false_iff_ne.2 (fun h => hcb (UInt8.toNat_inj.1 (by omega)))
        have hm : init.length ≤ 100000 := by simp at hlen; omega
        have hmore := str_more last s k hlt
        rw [hc.out] at hmore
        have hll := hpc last (by simp)
        have hadd : ∀ W, (Op.stringOp .add ⟨last.toArray⟩ (s.extract k (k + 1))).run Try.prog W = .ok (.string ⟨(last ++ [c]).toArray⟩) W := fun W => by
          rw [run_string_add_sum W _ _ (by simp [ByteArray.size_extract]; show last.toArray.size + _ ≤ _; simp; omega), hmore]
        obtain ⟨m, hmm⟩ : ∃ m, Hid (init.length = m) := ⟨_, Lib.hid rfl⟩
        have hown' : wr.ownsRow w.heap.size 9 1 v (m + 1) ((init ++ [last]).map strv) := by rw [← hmm.out]; simpa using hown
        rcases hown'.2 with ⟨_, h0⟩ | ⟨g, cap, _, rfl, hgb, _, hcap, _⟩
        · omega
        have hcell := hown'.cellAt m (by omega)
        have hx : ((init ++ [last]).map strv)[m]? = some (.string ⟨last.toArray⟩) := by
          rw [← hmm.out, List.getElem?_map, List.getElem?_append_right (Nat.le_refl _)]; simp [strv]
        rw [hx] at hcell
        have hfz := hown'.frozenAt m
        have hst := (hown'.stored m (.string ⟨(last ++ [c]).toArray⟩)).1
        have hset : ((init ++ [last]).map strv).set m (.string ⟨(last ++ [c]).toArray⟩) = (init ++ [last ++ [c]]).map strv := by
          rw [← hmm.out]; simp [strv]
        rw [hset] at hst
        have hst2 : (wr.setCell ⟨g, m, none⟩ (.string ⟨(last ++ [c]).toArray⟩)).drew.ownsRow w.heap.size 9 1 (.slice (some ⟨g, 0, none⟩) (m + 1) cap) (m + 1) ((init ++ [last ++ [c]]).map strv) := hst.drew
        have bel2 : Below w.heap.size w (wr.setCell ⟨g, m, none⟩ (.string ⟨(last ++ [c]).toArray⟩)).drew := (bel.setCell hgb _).drew
        have m0 : (0 : Int) ≤ m := by omega
        have m1 : (m : Int) ≤ 100000 := by have := hmm.out; omega
        clear hown hown' hst hset hx hsn htk hcl hne hc hmore hcb hlen hcap hpc hll
        go_wp2
        go_region
        have hst3 : (wr.setCell ⟨g, m, none⟩ (.string ⟨(last ++ [c]).toArray⟩)).drew.ownsRow w.heap.size 9 1 (.slice (some ⟨g, 0, none⟩) (m + 1) cap) (init ++ [last ++ [c]]).length ((init ++ [last ++ [c]]).map strv) := by
          rw [show (init ++ [last ++ [c]]).length = m + 1 by rw [← hmm.out]; simp]; exact hst2
        clear hst2 hadd hcell hfz hcb'
        go_wp2
        go_roundw
        case rel => exact ⟨k + 1, _, rfl, by omega, by go_num, by rw [hsn2.out]; exact hst3, bel2⟩
        case measure => simp [intOf]; omega
    · obtain rfl : k = s.size := by omega
      have e1 : s.data.toList.take s.size = s.data.toList := List.take_of_length_le (by simp)
      rw [e1] at hown
      clear e1
      go_wp2
      go_ret
      exact ⟨_, rfl, hown, bel⟩
theorem cut_any (s : ByteArray) (b : UInt8) (w : World) (hs : s.size ≤ 1000) :
    Calls Try.prog 43 #[.string s, .int .u8 (b.toNat : Int)] w fun e w' => ∃ v, e = .returned v ∧ w'.ownsRow w.heap.size 9 1 v (cutF b s.data.toList).length ((cutF b s.data.toList).map strv) ∧ Below w.heap.size w w' :=
  cut_big s b w (by omega)

/-- A hexadecimal digit's value; -1: none. -/
def hexI (c : UInt8) : Int := if 48 ≤ c.toNat ∧ c.toNat ≤ 57 then (c.toNat : Int) - 48 else if 97 ≤ c.toNat ∧ c.toNat ≤ 102 then (c.toNat : Int) - 97 + 10 else if 65 ≤ c.toNat ∧ c.toNat ≤ 70 then (c.toNat : Int) - 65 + 10 else -1
theorem hexI_range (c : UInt8) : hexI c = -1 ∨ (0 ≤ hexI c ∧ hexI c ≤ 15) := by
  unfold hexI
  split
  · right; omega
  · split
    · right; omega
    · split
      · right; omega
      · left; rfl

set_option maxHeartbeats 2000000 in
theorem rhex_any (c : UInt8) (w : World) : Calls Try.prog 71 #[.int .u8 (c.toNat : Int)] w fun e w' => e = .returned (.int .i64 (hexI c)) ∧ w = w' := by
  have c0 : (0 : Int) ≤ c.toNat := by omega
  have c1 : (c.toNat : Int) < 256 := by have := c.toNat_lt; omega
  rcases (by omega : c.toNat < 48 ∨ (48 ≤ c.toNat ∧ c.toNat ≤ 57) ∨ (58 ≤ c.toNat ∧ c.toNat ≤ 64) ∨ (65 ≤ c.toNat ∧ c.toNat ≤ 70) ∨ (71 ≤ c.toNat ∧ c.toNat ≤ 96) ∨ (97 ≤ c.toNat ∧ c.toNat ≤ 102) ∨ 103 ≤ c.toNat) with h | h | h | h | h | h | h
  · have hv : Hid (hexI c = -1) := Lib.hid (by unfold hexI; rw [if_neg (by omega), if_neg (by omega), if_neg (by omega)])
    have t0 : decide ((48 : Int) ≤ c.toNat) = false := decide_eq_false (by omega)
    have t1 : decide ((c.toNat : Int) ≤ 57) = true := decide_eq_true (by omega)
    have t2 : decide ((97 : Int) ≤ c.toNat) = false := decide_eq_false (by omega)
    have t3 : decide ((c.toNat : Int) ≤ 102) = true := decide_eq_true (by omega)
    have t4 : decide ((65 : Int) ≤ c.toNat) = false := decide_eq_false (by omega)
    have t5 : decide ((c.toNat : Int) ≤ 70) = true := decide_eq_true (by omega)
    clear h
    go_enter Try.func71, Try.ntmps71
    go_wp2
    go_ret
    exact ⟨ret_i64' hv.out.symm, rfl⟩
  · have hv : Hid (hexI c = (c.toNat : Int) - 48) := Lib.hid (by unfold hexI; rw [if_pos (by omega)])
    have t0 : decide ((48 : Int) ≤ c.toNat) = true := decide_eq_true (by omega)
    have t1 : decide ((c.toNat : Int) ≤ 57) = true := decide_eq_true (by omega)
    have t2 : decide ((97 : Int) ≤ c.toNat) = false := decide_eq_false (by omega)
    have t3 : decide ((c.toNat : Int) ≤ 102) = true := decide_eq_true (by omega)
    have t4 : decide ((65 : Int) ≤ c.toNat) = false := decide_eq_false (by omega)
    have t5 : decide ((c.toNat : Int) ≤ 70) = true := decide_eq_true (by omega)
    have b0 : (48 : Int) ≤ c.toNat := by omega
    clear h
    go_enter Try.func71, Try.ntmps71
    go_wp2
    go_ret
    exact ⟨ret_i64' hv.out.symm, rfl⟩
  · have hv : Hid (hexI c = -1) := Lib.hid (by unfold hexI; rw [if_neg (by omega), if_neg (by omega), if_neg (by omega)])
    have t0 : decide ((48 : Int) ≤ c.toNat) = true := decide_eq_true (by omega)
    have t1 : decide ((c.toNat : Int) ≤ 57) = false := decide_eq_false (by omega)
    have t2 : decide ((97 : Int) ≤ c.toNat) = false := decide_eq_false (by omega)
    have t3 : decide ((c.toNat : Int) ≤ 102) = true := decide_eq_true (by omega)
    have t4 : decide ((65 : Int) ≤ c.toNat) = false := decide_eq_false (by omega)
    have t5 : decide ((c.toNat : Int) ≤ 70) = true := decide_eq_true (by omega)
    clear h
    go_enter Try.func71, Try.ntmps71
    go_wp2
    go_ret
    exact ⟨ret_i64' hv.out.symm, rfl⟩
  · have hv : Hid (hexI c = (c.toNat : Int) - 65 + 10) := Lib.hid (by unfold hexI; rw [if_neg (by omega), if_neg (by omega), if_pos (by omega)])
    have t0 : decide ((48 : Int) ≤ c.toNat) = true := decide_eq_true (by omega)
    have t1 : decide ((c.toNat : Int) ≤ 57) = false := decide_eq_false (by omega)
    have t2 : decide ((97 : Int) ≤ c.toNat) = false := decide_eq_false (by omega)
    have t3 : decide ((c.toNat : Int) ≤ 102) = true := decide_eq_true (by omega)
    have t4 : decide ((65 : Int) ≤ c.toNat) = true := decide_eq_true (by omega)
    have t5 : decide ((c.toNat : Int) ≤ 70) = true := decide_eq_true (by omega)
    have b0 : (65 : Int) ≤ c.toNat := by omega
    clear h
    go_enter Try.func71, Try.ntmps71
    go_wp2
    go_ret
    exact ⟨ret_i64' hv.out.symm, rfl⟩
  · have hv : Hid (hexI c = -1) := Lib.hid (by unfold hexI; rw [if_neg (by omega), if_neg (by omega), if_neg (by omega)])
    have t0 : decide ((48 : Int) ≤ c.toNat) = true := decide_eq_true (by omega)
    have t1 : decide ((c.toNat : Int) ≤ 57) = false := decide_eq_false (by omega)
    have t2 : decide ((97 : Int) ≤ c.toNat) = false := decide_eq_false (by omega)
    have t3 : decide ((c.toNat : Int) ≤ 102) = true := decide_eq_true (by omega)
    have t4 : decide ((65 : Int) ≤ c.toNat) = true := decide_eq_true (by omega)
    have t5 : decide ((c.toNat : Int) ≤ 70) = false := decide_eq_false (by omega)
    clear h
    go_enter Try.func71, Try.ntmps71
    go_wp2
    go_ret
    exact ⟨ret_i64' hv.out.symm, rfl⟩
  · have hv : Hid (hexI c = (c.toNat : Int) - 97 + 10) := Lib.hid (by unfold hexI; rw [if_neg (by omega), if_pos (by omega)])
    have t0 : decide ((48 : Int) ≤ c.toNat) = true := decide_eq_true (by omega)
    have t1 : decide ((c.toNat : Int) ≤ 57) = false := decide_eq_false (by omega)
    have t2 : decide ((97 : Int) ≤ c.toNat) = true := decide_eq_true (by omega)
    have t3 : decide ((c.toNat : Int) ≤ 102) = true := decide_eq_true (by omega)
    have t4 : decide ((65 : Int) ≤ c.toNat) = true := decide_eq_true (by omega)
    have t5 : decide ((c.toNat : Int) ≤ 70) = false := decide_eq_false (by omega)
    have b0 : (97 : Int) ≤ c.toNat := by omega
    clear h
    go_enter Try.func71, Try.ntmps71
    go_wp2
    go_ret
    exact ⟨ret_i64' hv.out.symm, rfl⟩
  · have hv : Hid (hexI c = -1) := Lib.hid (by unfold hexI; rw [if_neg (by omega), if_neg (by omega), if_neg (by omega)])
    have t0 : decide ((48 : Int) ≤ c.toNat) = true := decide_eq_true (by omega)
    have t1 : decide ((c.toNat : Int) ≤ 57) = false := decide_eq_false (by omega)
    have t2 : decide ((97 : Int) ≤ c.toNat) = true := decide_eq_true (by omega)
    have t3 : decide ((c.toNat : Int) ≤ 102) = false := decide_eq_false (by omega)
    have t4 : decide ((65 : Int) ≤ c.toNat) = true := decide_eq_true (by omega)
    have t5 : decide ((c.toNat : Int) ≤ 70) = false := decide_eq_false (by omega)
    clear h
    go_enter Try.func71, Try.ntmps71
    go_wp2
    go_ret
    exact ⟨ret_i64' hv.out.symm, rfl⟩
open Go.RowKit

/-- The words of a text: 'wordsGo rest word'. -/
def wordsGo : List UInt8 → List UInt8 → List (List UInt8)
  | [], u => if u = [] then [] else [u]
  | c :: t, u => if isBl c = true then (if u = [] then wordsGo t [] else u :: wordsGo t []) else wordsGo t (u ++ [c])
def wordsL (l : List UInt8) : List (List UInt8) := wordsGo l []
theorem isBl_no {c : UInt8} (b1 : (c == 32) = false) (b2 : (c == 9) = false) : ¬ isBl c = true := by unfold isBl; rw [b1, b2]; decide
theorem words_more {l ws : List (List UInt8)} {t u : List UInt8} {k : Nat} {c : UInt8} (h : ws ++ wordsGo (t.drop k) u = l) (hc : t[k]? = some c) (hb : ¬ isBl c = true) : ws ++ wordsGo (t.drop (k + 1)) (u ++ [c]) = l := by
  obtain ⟨hk, hx⟩ := List.getElem?_eq_some_iff.1 hc
  rw [List.drop_eq_getElem_cons hk, hx, wordsGo, if_neg hb] at h
  exact h
theorem words_cut {l ws : List (List UInt8)} {t u : List UInt8} {k : Nat} (h : ws ++ wordsGo (t.drop k) u = l) (hb : k = t.length ∨ ∃ c, t[k]? = some c ∧ isBl c = true) : (if u = [] then ws else ws ++ [u]) ++ wordsGo (t.drop (k + 1)) [] = l := by
  rcases hb with rfl | ⟨c, hc, hb⟩
  · rw [List.drop_eq_nil_of_le (Nat.le_refl _), wordsGo] at h
    rw [List.drop_eq_nil_of_le (by omega), wordsGo, if_pos rfl, List.append_nil, ← h]
    split
    · simp
    · rfl
  · obtain ⟨hk, hx⟩ := List.getElem?_eq_some_iff.1 hc
    rw [List.drop_eq_getElem_cons hk, hx, wordsGo, if_pos hb] at h
    rw [← h]
    split
    · rfl
    · rw [List.append_assoc]; rfl
theorem isBl_32 {c : UInt8} (b1 : (c == 32) = true) : isBl c = true := by unfold isBl; rw [b1]; rfl
theorem isBl_9 {c : UInt8} (b1 : (c == 32) = false) (b2 : (c == 9) = true) : isBl c = true := by unfold isBl; rw [b1, b2]; rfl
theorem u8_eq {c : UInt8} {n : Nat} (hn : n < 256) (b : (c == UInt8.ofNat n) = true) : ((c.toNat : Int) == (n : Int)) = true := by
  have := eq_of_beq b
  subst this
  simp
  omega
theorem u8_ne {c : UInt8} {n : Nat} (hn : n < 256) (b : (c == UInt8.ofNat n) = false) : ((c.toNat : Int) == (n : Int)) = false ∧ ((c.toNat : Int) != (n : Int)) = true := by
  have h : ((c.toNat : Int) == (n : Int)) = false := by
    simp only [beq_eq_false_iff_ne, ne_eq] at b ⊢
    intro h
    apply b
    apply UInt8.toNat_inj.1
    rw [UInt8.toNat_ofNat']
    omega
  exact ⟨h, by rw [bne, h]; rfl⟩
set_option linter.unusedVariables false in
set_option maxRecDepth 100000 in
set_option maxHeartbeats 16000000 in
theorem words_any (l : List UInt8) (w : World) (hlen : l.length ≤ 100000) : Calls Try.prog 48 #[.string ⟨l.toArray⟩] w fun e w' => ∃ v, e = .returned v ∧ w'.ownsRow w.heap.size 9 1 v (wordsL l).length ((wordsL l).flatMap stf) ∧ Below w.heap.size w w' := by
  obtain ⟨is, his, his0, his1, his2⟩ := info_parts Try.info_str
  have bel := Below.refl w.heap.size w
  go_enter Try.func48, Try.ntmps48
  go_wp2_with fail
  go_loopg [3, 4, 5] (l.length + 2) (fun gk s3 s4 s5 wr => ∃ k : Nat, ∃ ws : List (List UInt8), ∃ u : List UInt8, ∃ nw : Nat, ∃ (Awt : Option Addr) (cwt : Nat), gk = l.length + 2 - k ∧ k ≤ l.length + 1 ∧ Hid (ws ++ wordsGo (l.drop k) u = wordsL l) ∧ (k = l.length + 1 → u = []) ∧ u.length ≤ k ∧ nw ≤ k ∧ s3 = .slice Awt nw cwt ∧ s4 = .string ⟨(u).toArray⟩ ∧ s5 = .int .i64 (k : Int) ∧ wr.ownsRow (w.heap.size) 9 1 (.slice Awt (nw) cwt) (nw) ((ws : List (List UInt8)).flatMap stf) ∧ Below w.heap.size w wr)
  case atStart => exact ⟨0, [], [], 0, none, 0, rfl, by omega, Lib.hid rfl, fun h => absurd h (by omega), Nat.le_refl _, Nat.le_refl _, rfl, rfl, rfl, owk_nil _ _ _, bel⟩
  case round =>
    clear bel
    obtain ⟨k, ws, u, nw, Awt, cwt, HGK, hk, HW, he, hul, hnw, rfl, rfl, rfl, wtw, bel⟩ := hrel
    have HGK_ := Lib.hid HGK
    clear HGK
    have wt := (owk_sle (by decide) stf_len wtw).1
    have fr_wt := (owk_sle (by decide) stf_len wtw).2
    have lz_wt := bel.size
    have wtlo := Nat.le_refl (w.heap.size)
    have k0 : (0 : Int) ≤ k := by omega
    have hw0 : (0 : Int) ≤ nw := by omega
    have k2 : (k : Int) ≤ 100001 := by omega
    by_cases h1 : k ≤ l.length
    · have k1 : k ≤ l.length := h1
      by_cases h2 : k < l.length
      · obtain ⟨c, hx⟩ : ∃ c, l[k]? = some c := ⟨_, List.getElem?_eq_getElem h2⟩
        have HX := Lib.hid hx
        clear hx
        have v0 : (0 : Int) ≤ c.toNat := by omega
        have v1 : (c.toNat : Int) < 256 := by have := c.toNat_lt; omega
        rcases (by decide : ∀ b : Bool, b = true ∨ b = false) (c == 32) with b1 | b1
        · have e1 : ((c.toNat : Int) == 32) = true := u8_eq (n := 32) (by decide) b1
          have e2 : ((c.toNat : Int) != 32) = false := by rw [bne, e1]; rfl
          by_cases hu : u = []
          · have e9 : (u == []) = true := by rw [hu]; rfl
            have R19 := fun W => st_index HX.out W
            go_wp2_with fail
            clear R19
            go_roundg (l.length + 2 - (k + 1))
            case measure => have := HGK_.out; omega
            case rel => exact ⟨k + 1, ws, [], nw, Awt, cwt, rfl, by omega, Lib.hid (by have h := words_cut HW.out (.inr ⟨c, HX.out, isBl_32 b1⟩); rw [if_pos hu] at h; exact h), fun _ => rfl, by simp, by omega, rfl, by go_num, by go_num, wtw, bel⟩
          · have e9 : (u == []) = false := by simpa using hu
            have R19 := fun W => st_index HX.out W
            go_wp2_with (first | ((with_reducible show wpList _ _ _ (⟨some 39, _, _, _, _, _⟩ :: _) _ _); refine wpList_lit_n rfl 47 9 1 _ rfl #[.string ⟨(u).toArray⟩] (.string ⟨#[]⟩) Try.underlying47 (by kernel_rfl) 1 (by kernel_rfl) (by decide) (by kernel_rfl) ?_; intro g39 w1 ge lt hh bb; have av_wt_b39 := wt.av_new ge; have of_wt_b39 := owk_new wtw ge; have ob39 := Nat.le_trans bel.size ge; replace wt := wt.below bb; replace wtw := owk_under wtw bb; replace lz_wt := Nat.le_trans lz_wt bb.size; replace bel := bel.trans (bb.mono bel.size); have hb39 := hh; clear hh lt ge bb; have lt : Sle stf 1 w1 (some ⟨g39, 0, none⟩) (1) (1) ([u]) := sle_lit ([u]) (by decide) stf_len hb39 rfl (by simp [maxLen])) | ((with_reducible show wpList _ _ _ (⟨some 40, _, _, _, _, _⟩ :: _) _ _); refine wpList_append_sle rfl (.tmp 37) (.tmp 39) 47 rfl (w.heap.size) 9 is (.string ⟨#[]⟩) 16 Try.underlying47 his his0 his1 his2 rfl stf_one _ (nw) (ws) rfl wtw (some ⟨g39, 0, none⟩) (1) (1) ([u]) rfl lt (by unfold maxLen; omega) (by omega) lz_wt ?_; intro v40 w2 own_ bb gw ofw; have of40_b39 := ofw _ (hlt hb39) of_wt_b39; clear ofw; clear lt; replace hb39 := blk_own hb39 gw of_wt_b39; clear gw; replace bel := bel.trans (bb.mono wtlo); have lz_wz := Nat.le_trans lz_wt bb.size; clear bb; clear wt wtw lz_wt; replace own_ : w2.ownsRow (w.heap.size) 9 1 v40 (nw + 1) ((ws ++ [u] : List (List UInt8)).flatMap stf) := own_; obtain ⟨A40, c40, rfl⟩ := owk_val own_; have wzw := own_; have wz := (owk_sle (by decide) stf_len own_).1; have fr_wz := (owk_sle (by decide) stf_len own_).2; clear own_; have av_wz_b39 := owk_av wzw of40_b39))
            try clear R19
            go_roundg (l.length + 2 - (k + 1))
            case measure => have := HGK_.out; omega
            case rel => exact ⟨k + 1, ws ++ [u], [], nw + 1, A40, c40, rfl, by omega, Lib.hid (by have h := words_cut HW.out (.inr ⟨c, HX.out, isBl_32 b1⟩); rw [if_neg hu] at h; exact h), fun _ => rfl, by simp, by omega, rfl, by go_num, by go_num, wzw, bel⟩
        · obtain ⟨e1, e2⟩ := u8_ne (n := 32) (by decide) b1
          replace e1 : ((c.toNat : Int) == 32) = false := e1
          replace e2 : ((c.toNat : Int) != 32) = true := e2
          rcases (by decide : ∀ b : Bool, b = true ∨ b = false) (c == 9) with b2 | b2
          · have e3 : ((c.toNat : Int) == 9) = true := u8_eq (n := 9) (by decide) b2
            have e4 : ((c.toNat : Int) != 9) = false := by rw [bne, e3]; rfl
            by_cases hu : u = []
            · have e9 : (u == []) = true := by rw [hu]; rfl
              have R19 := fun W => st_index HX.out W
              have R25 := fun W => st_index HX.out W
              go_wp2_with fail
              clear R19 R25
              go_roundg (l.length + 2 - (k + 1))
              case measure => have := HGK_.out; omega
              case rel => exact ⟨k + 1, ws, [], nw, Awt, cwt, rfl, by omega, Lib.hid (by have h := words_cut HW.out (.inr ⟨c, HX.out, isBl_9 b1 b2⟩); rw [if_pos hu] at h; exact h), fun _ => rfl, by simp, by omega, rfl, by go_num, by go_num, wtw, bel⟩
            · have e9 : (u == []) = false := by simpa using hu
              have R19 := fun W => st_index HX.out W
              have R25 := fun W => st_index HX.out W
              go_wp2_with (first | ((with_reducible show wpList _ _ _ (⟨some 39, _, _, _, _, _⟩ :: _) _ _); refine wpList_lit_n rfl 47 9 1 _ rfl #[.string ⟨(u).toArray⟩] (.string ⟨#[]⟩) Try.underlying47 (by kernel_rfl) 1 (by kernel_rfl) (by decide) (by kernel_rfl) ?_; intro g39 w1 ge lt hh bb; have av_wt_b39 := wt.av_new ge; have of_wt_b39 := owk_new wtw ge; have ob39 := Nat.le_trans bel.size ge; replace wt := wt.below bb; replace wtw := owk_under wtw bb; replace lz_wt := Nat.le_trans lz_wt bb.size; replace bel := bel.trans (bb.mono bel.size); have hb39 := hh; clear hh lt ge bb; have lt : Sle stf 1 w1 (some ⟨g39, 0, none⟩) (1) (1) ([u]) := sle_lit ([u]) (by decide) stf_len hb39 rfl (by simp [maxLen])) | ((with_reducible show wpList _ _ _ (⟨some 40, _, _, _, _, _⟩ :: _) _ _); refine wpList_append_sle rfl (.tmp 37) (.tmp 39) 47 rfl (w.heap.size) 9 is (.string ⟨#[]⟩) 16 Try.underlying47 his his0 his1 his2 rfl stf_one _ (nw) (ws) rfl wtw (some ⟨g39, 0, none⟩) (1) (1) ([u]) rfl lt (by unfold maxLen; omega) (by omega) lz_wt ?_; intro v40 w2 own_ bb gw ofw; have of40_b39 := ofw _ (hlt hb39) of_wt_b39; clear ofw; clear lt; replace hb39 := blk_own hb39 gw of_wt_b39; clear gw; replace bel := bel.trans (bb.mono wtlo); have lz_wz := Nat.le_trans lz_wt bb.size; clear bb; clear wt wtw lz_wt; replace own_ : w2.ownsRow (w.heap.size) 9 1 v40 (nw + 1) ((ws ++ [u] : List (List UInt8)).flatMap stf) := own_; obtain ⟨A40, c40, rfl⟩ := owk_val own_; have wzw := own_; have wz := (owk_sle (by decide) stf_len own_).1; have fr_wz := (owk_sle (by decide) stf_len own_).2; clear own_; have av_wz_b39 := owk_av wzw of40_b39))
              try clear R19
              try clear R25
              go_roundg (l.length + 2 - (k + 1))
              case measure => have := HGK_.out; omega
              case rel => exact ⟨k + 1, ws ++ [u], [], nw + 1, A40, c40, rfl, by omega, Lib.hid (by have h := words_cut HW.out (.inr ⟨c, HX.out, isBl_9 b1 b2⟩); rw [if_neg hu] at h; exact h), fun _ => rfl, by simp, by omega, rfl, by go_num, by go_num, wzw, bel⟩
          · obtain ⟨e3, e4⟩ := u8_ne (n := 9) (by decide) b2
            replace e3 : ((c.toNat : Int) == 9) = false := e3
            replace e4 : ((c.toNat : Int) != 9) = true := e4
            have R19 := fun W => st_index HX.out W
            have R25 := fun W => st_index HX.out W
            have R33 := fun W => st_one HX.out W
            have R34 := fun W => st_add (x := u) (y := [c]) (by simp only [List.length_cons, List.length_nil]; omega) W
            go_wp2_with fail
            clear R19 R25 R33 R34
            go_roundg (l.length + 2 - (k + 1))
            case measure => have := HGK_.out; omega
            case rel => exact ⟨k + 1, ws, u ++ [c], nw, Awt, cwt, rfl, by omega, Lib.hid (words_more HW.out HX.out (isBl_no b1 b2)), fun h => absurd h (by omega), by simp; omega, by omega, rfl, by simp, by go_num, wtw, bel⟩
      · have hkl : k = l.length := by omega
        have h3 : decide (k < l.length) = false := decide_eq_false h2
        have HKL := Lib.hid hkl
        clear hkl
        by_cases hu : u = []
        · have e9 : (u == []) = true := by rw [hu]; rfl
          go_wp2_with fail
          go_roundg (l.length + 2 - (k + 1))
          case measure => have := HGK_.out; omega
          case rel => exact ⟨k + 1, ws, [], nw, Awt, cwt, rfl, by omega, Lib.hid (by have h := words_cut HW.out (.inl HKL.out); rw [if_pos hu] at h; exact h), fun _ => rfl, by simp, by omega, rfl, by go_num, by go_num, wtw, bel⟩
        · have e9 : (u == []) = false := by simpa using hu
          go_wp2_with (first | ((with_reducible show wpList _ _ _ (⟨some 39, _, _, _, _, _⟩ :: _) _ _); refine wpList_lit_n rfl 47 9 1 _ rfl #[.string ⟨(u).toArray⟩] (.string ⟨#[]⟩) Try.underlying47 (by kernel_rfl) 1 (by kernel_rfl) (by decide) (by kernel_rfl) ?_; intro g39 w1 ge lt hh bb; have av_wt_b39 := wt.av_new ge; have of_wt_b39 := owk_new wtw ge; have ob39 := Nat.le_trans bel.size ge; replace wt := wt.below bb; replace wtw := owk_under wtw bb; replace lz_wt := Nat.le_trans lz_wt bb.size; replace bel := bel.trans (bb.mono bel.size); have hb39 := hh; clear hh lt ge bb; have lt : Sle stf 1 w1 (some ⟨g39, 0, none⟩) (1) (1) ([u]) := sle_lit ([u]) (by decide) stf_len hb39 rfl (by simp [maxLen])) | ((with_reducible show wpList _ _ _ (⟨some 40, _, _, _, _, _⟩ :: _) _ _); refine wpList_append_sle rfl (.tmp 37) (.tmp 39) 47 rfl (w.heap.size) 9 is (.string ⟨#[]⟩) 16 Try.underlying47 his his0 his1 his2 rfl stf_one _ (nw) (ws) rfl wtw (some ⟨g39, 0, none⟩) (1) (1) ([u]) rfl lt (by unfold maxLen; omega) (by omega) lz_wt ?_; intro v40 w2 own_ bb gw ofw; have of40_b39 := ofw _ (hlt hb39) of_wt_b39; clear ofw; clear lt; replace hb39 := blk_own hb39 gw of_wt_b39; clear gw; replace bel := bel.trans (bb.mono wtlo); have lz_wz := Nat.le_trans lz_wt bb.size; clear bb; clear wt wtw lz_wt; replace own_ : w2.ownsRow (w.heap.size) 9 1 v40 (nw + 1) ((ws ++ [u] : List (List UInt8)).flatMap stf) := own_; obtain ⟨A40, c40, rfl⟩ := owk_val own_; have wzw := own_; have wz := (owk_sle (by decide) stf_len own_).1; have fr_wz := (owk_sle (by decide) stf_len own_).2; clear own_; have av_wz_b39 := owk_av wzw of40_b39))
          go_roundg (l.length + 2 - (k + 1))
          case measure => have := HGK_.out; omega
          case rel => exact ⟨k + 1, ws ++ [u], [], nw + 1, A40, c40, rfl, by omega, Lib.hid (by have h := words_cut HW.out (.inl HKL.out); rw [if_neg hu] at h; exact h), fun _ => rfl, by simp, by omega, rfl, by go_num, by go_num, wzw, bel⟩
    · have k1 : decide (k ≤ l.length) = false := decide_eq_false h1
      obtain rfl := he (by omega)
      have HP : Hid (ws = wordsL l) := Lib.hid (by have h := HW.out; rw [List.drop_eq_nil_of_le (by omega), wordsGo, if_pos rfl, List.append_nil] at h; exact h)
      go_wp2_with fail
      go_ret
      exact ⟨_, rfl, by rw [HP.out] at wtw; have hl := wt.1; rw [HP.out] at hl; rw [hl]; exact wtw, bel⟩
/-- The lines of a text. -/
def linesL (l : List UInt8) : List (List UInt8) := if (cutF 10 l).getLast? = some [] then (cutF 10 l).dropLast else cutF 10 l
theorem cut_st (b : UInt8) (B : Int) (l : List UInt8) (w : World) (hb : (b.toNat : Int) = B) (hl : l.length ≤ 100000) :
    Calls Try.prog 43 #[.string ⟨l.toArray⟩, .int .u8 B] w fun e w' => ∃ v, e = .returned v ∧ w'.ownsRow w.heap.size 9 1 v (cutF b l).length ((cutF b l).flatMap stf) ∧ Below w.heap.size w w' := by
  subst hb
  refine (cut_big ⟨l.toArray⟩ b w (by rw [st_size]; exact hl)).mono ?_
  rintro e w' ⟨v, rfl, h, bel⟩
  exact ⟨v, rfl, by rw [stf_flat]; exact h, bel⟩
theorem lines_take {l : List UInt8} {cs : List (List UInt8)} {q : List UInt8} {m : Nat} (hc : cutF 10 l = cs) (hm : cs.length = m + 1) (hx : cs[m]? = some q) : linesL l = if q = [] then cs.take m else cs := by
  subst hc
  have e1 : (cutF 10 l).getLast? = some q := by rw [List.getLast?_eq_getElem?, hm]; exact hx
  unfold linesL
  rw [e1]
  by_cases hq : q = []
  · rw [if_pos (by rw [hq]), if_pos hq, List.dropLast_eq_take, hm]
    rfl
  · rw [if_neg (by simpa using hq), if_neg hq]
set_option linter.unusedVariables false in
set_option maxRecDepth 100000 in
set_option maxHeartbeats 16000000 in
theorem lines_any (l : List UInt8) (w : World) (hlen : l.length ≤ 100000) : Calls Try.prog 20 #[.string ⟨l.toArray⟩] w fun e w' => ∃ A c, e = .returned (.slice A (linesL l).length c) ∧ Sle stf 1 w' A (linesL l).length c (linesL l) ∧ Fr w.heap.size A (linesL l).length ∧ Below w.heap.size w w' := by
  have bel := Below.refl w.heap.size w
  go_enter Try.func20, Try.ntmps20
  go_wp2_with fail
  with_reducible refine (cut_st 10 10 l _ rfl hlen).mono ?_
  rintro e w1 ⟨v, rfl, csw, b1⟩
  have cslo := bel.size
  have lz_cs := b1.size
  replace bel := bel.trans (b1.mono bel.size)
  clear b1
  obtain ⟨Acs, ccs, rfl⟩ := owk_val csw
  have cs := (owk_sle (by decide) stf_len csw).1
  have fr_cs := (owk_sle (by decide) stf_len csw).2
  obtain ⟨ls, hls⟩ : ∃ ls, cutF 10 l = ls := ⟨_, rfl⟩
  rw [hls] at cs csw fr_cs
  obtain ⟨n, hn⟩ : ∃ n, ls.length = n := ⟨_, rfl⟩
  rw [hn] at cs csw fr_cs
  have hn2 : n ≤ 100001 := by have := cutF_len 10 l; rw [hls] at this; omega
  have hnz : 0 < n := by have := cutF_ne 10 l; rw [hls] at this; rw [← hn]; exact List.length_pos_iff.2 this
  rw [hls, hn]
  obtain ⟨g, o, hA⟩ := cs.place hnz
  subst hA
  obtain ⟨m, hm⟩ : ∃ m, n = m + 1 := ⟨n - 1, by omega⟩
  obtain ⟨q, hq⟩ : ∃ q, ls[m]? = some q := ⟨_, List.getElem?_eq_getElem (by omega)⟩
  have HL : Hid (linesL l = if q = [] then ls.take m else ls) := Lib.hid (lines_take hls (by omega) hq)
  have HQ := Lib.hid hq
  have HN := Lib.hid hn
  have HM := Lib.hid hm
  have m0 : (0 : Int) ≤ m := by omega
  have m1 : (m : Int) ≤ 100000 := by omega
  have nm : (n : Int) - 1 = m := by omega
  have hmn : (m : Int) < n := by omega
  clear hls hn hm hq hnz hn2
  by_cases hq : q = []
  · have e9 : (q == []) = true := by rw [hq]; rfl
    have HP : Hid (linesL l = ls.take m) := Lib.hid (by rw [HL.out, if_pos hq])
    obtain ⟨A17, c17, r17, f17, u17⟩ := st_front cs (k := m) (by have := HM.out; omega)
    have pc := f17 _ cs
    have fpc : Fr w.heap.size A17 m := fun h0 => by obtain ⟨g2, o2, e2⟩ := pc.place h0; obtain ⟨h3, h4⟩ := u17 h0; obtain ⟨o3, p3, e3⟩ := h4 _ _ _ e2; obtain ⟨a4, o4, e4, h5⟩ := fr_cs h3; rw [e4] at e3; injection e3 with e3; injection e3 with e5 e6; subst e5; exact ⟨_, _, e2, h5⟩
    clear f17 u17
    have R11 := Sle.st (i := m) cs HQ.out
    go_wp2_with fail
    clear R11
    go_ret
    exact ⟨A17, c17, by rw [HP.out, List.length_take, Nat.min_eq_left (by have := HM.out; have := HN.out; omega)]; rfl, by rw [HP.out, List.length_take, Nat.min_eq_left (by have := HM.out; have := HN.out; omega)]; exact pc, by rw [HP.out, List.length_take, Nat.min_eq_left (by have := HM.out; have := HN.out; omega)]; exact fpc, bel⟩
  · have e9 : (q == []) = false := by simpa using hq
    have HP : Hid (linesL l = ls) := Lib.hid (by rw [HL.out, if_neg hq])
    have R11 := Sle.st (i := m) cs HQ.out
    go_wp2_with fail
    clear R11
    go_ret
    exact ⟨_, _, by rw [HP.out, HN.out]; rfl, by rw [HP.out, HN.out]; exact cs, by rw [HP.out, HN.out]; exact fr_cs, bel⟩
open Go.RowKit

theorem wp_range_n {P : Program} {o : Oper} {a : Act} {w : World} {K : Act → World → Prop} {Q : Exit → Act → World → Prop} (t : TypeId) (x : Operand) (ho : o.op = .range t x) (ht : P.underlying t = some .string) (l : List UInt8) (hx : a.eval x = .string ⟨l.toArray⟩)
    (h : ∀ g w', w.heap.size ≤ g → g < w'.heap.size → w'.heap[g]? = some (.stringIter ⟨l.toArray⟩ 0) → Below w.heap.size w w' → K (a.put o.dst (.pointer (some ⟨g, 0, none⟩))) w') : Oper.wp P o a w K Q := by
  have hr : (Instr.range t (a.eval x)).run P w = .ok (.pointer (some ⟨w.heap.size, 0, none⟩)) (w.iter ⟨l.toArray⟩ 0) := by
    rw [hx]; exact run_range_string w t _ ht
  unfold Oper.wp execOp
  simp only [ho, Sem.run_bind, hr, Result.andThen_ok]
  exact h _ _ (Nat.le_refl _) (size_new w _) (heap_alloc_new w _) (below_new w _)
theorem wpList_range_n {P : Program} {ops : Array Oper} {rest : List Oper} {o : Oper} {a : Act} {w : World} {Q : Exit → Act → World → Prop} (hgd : o.guard = none) (t : TypeId) (x : Operand) (ho : o.op = .range t x) (ht : P.underlying t = some .string) (l : List UInt8) (hx : a.eval x = .string ⟨l.toArray⟩)
    (h : ∀ g w', w.heap.size ≤ g → g < w'.heap.size → w'.heap[g]? = some (.stringIter ⟨l.toArray⟩ 0) → Below w.heap.size w w' → wpList P ops Q rest (a.put o.dst (.pointer (some ⟨g, 0, none⟩))) w') : wpList P ops Q (o :: rest) a w :=
  wpList_plain hgd fun _ hK => wp_range_n t x ho ht l hx fun g w' h1 h2 h3 h4 => hK _ _ (h g w' h1 h2 h3 h4)
theorem iterAt_grown {w : World} {k : Nat} {s : ByteArray} (pos : Nat) : w.grownBy (w.iterAt k s pos) (some k) :=
  ⟨rfl, rfl, rfl, by rw [Lib.iterAt_size]; exact Nat.le_refl _, fun j _ hne => Lib.iterAt_other w k j s pos (fun e => hne (by rw [e]))⟩
theorem wp_next_n {P : Program} {o : Oper} {a : Act} {w : World} {K : Act → World → Prop} {Q : Exit → Act → World → Prop} (x : Operand) (ho : o.op = .next x true) (g : Nat) (hx : a.eval x = .pointer (some ⟨g, 0, none⟩)) (l : List UInt8) (pos : Nat) (hk : w.heap[g]? = some (.stringIter ⟨l.toArray⟩ pos))
    (r k : Nat) (hd : Utf8.decode ⟨l.toArray⟩ pos = (r, k)) (hlt : pos < l.length) (p : Int) (hp : p = (pos : Int))
    (h : ∀ w', w'.heap[g]? = some (.stringIter ⟨l.toArray⟩ (pos + k)) → w.grownBy w' (some g) → K (a.put o.dst (.tuple #[.bool true, .int .i64 p, .int .i32 (r : Int)])) w') : Oper.wp P o a w K Q := by
  subst hp
  have hr : (Instr.next (a.eval x) true o.type).run P w = .ok (.tuple #[.bool true, .int .i64 (pos : Int), .int .i32 (r : Int)]) (w.iterAt g ⟨l.toArray⟩ (pos + k)) := by
    rw [hx, Lib.run_next_any_at w g _ pos _ hk (by rw [st_size]; exact hlt), hd]
  unfold Oper.wp execOp
  simp only [ho, Sem.run_bind, hr, Result.andThen_ok]
  exact h _ (Lib.iterAt_heap w g _ pos _ hk) (iterAt_grown _)
theorem wpList_next_n {P : Program} {ops : Array Oper} {rest : List Oper} {o : Oper} {a : Act} {w : World} {Q : Exit → Act → World → Prop} (hgd : o.guard = none) (x : Operand) (ho : o.op = .next x true) (g : Nat) (hx : a.eval x = .pointer (some ⟨g, 0, none⟩)) (l : List UInt8) (pos : Nat) (hk : w.heap[g]? = some (.stringIter ⟨l.toArray⟩ pos))
    (r k : Nat) (hd : Utf8.decode ⟨l.toArray⟩ pos = (r, k)) (hlt : pos < l.length) (p : Int) (hp : p = (pos : Int))
    (h : ∀ w', w'.heap[g]? = some (.stringIter ⟨l.toArray⟩ (pos + k)) → w.grownBy w' (some g) → wpList P ops Q rest (a.put o.dst (.tuple #[.bool true, .int .i64 p, .int .i32 (r : Int)])) w') : wpList P ops Q (o :: rest) a w :=
  wpList_plain hgd fun _ hK => wp_next_n x ho g hx l pos hk r k hd hlt p hp fun w' h1 h2 => hK _ _ (h w' h1 h2)
theorem next_end {P : Program} {w : World} {g pos : Nat} {l : List UInt8} (ty : TypeId) (hk : w.heap[g]? = some (.stringIter ⟨l.toArray⟩ pos)) (h : ¬ pos < l.length) :
    (Instr.next (.pointer (some ⟨g, 0, none⟩)) true ty).run P w = .ok (.tuple #[.bool false]) w := Lib.run_next_end_at w g _ pos ty hk (by rw [st_size]; exact h)

/-! ### Runes -/
theorem rune_st (l : List UInt8) (pos : Nat) (h : pos < l.length) : ∃ (r k : Nat) (c : UInt8), Utf8.decode ⟨l.toArray⟩ pos = (r, k) ∧ l[pos]? = some c ∧ r ≤ 1114111 ∧ 1 ≤ k ∧ pos + k ≤ l.length ∧
    ((k = 1 ∧ c.toNat < 128 ∧ r = c.toNat) ∨ (128 ≤ r ∧ 128 ≤ c.toNat ∧ ∀ x ∈ (l.drop pos).take k, 128 ≤ x.toNat)) := by
  have hs : pos < (⟨l.toArray⟩ : ByteArray).size := by rw [st_size]; exact h
  have hc : l[pos]? = some ((⟨l.toArray⟩ : ByteArray)[pos]'hs) := get?_at ⟨l.toArray⟩ pos hs
  by_cases ha : ((⟨l.toArray⟩ : ByteArray)[pos]'hs).toNat < 128
  · exact ⟨_, 1, _, decode_ascii _ pos hs ha, hc, by omega, Nat.le_refl _, by omega, .inl ⟨rfl, ha, rfl⟩⟩
  · obtain ⟨h1, h2, h3, h4, h5⟩ := rune_hi _ pos hs (by omega)
    rw [st_size] at h4
    obtain ⟨r, k, hd⟩ : ∃ r k, Utf8.decode ⟨l.toArray⟩ pos = (r, k) := ⟨_, _, rfl⟩
    rw [hd] at h1 h2 h3 h4 h5
    simp only at h1 h2 h3 h4 h5
    refine ⟨r, k, _, hd, hc, h2, h3, h4, .inr ⟨h1, by omega, fun x hx => ?_⟩⟩
    obtain ⟨j, hj, rfl⟩ := List.mem_iff_getElem.1 hx
    have hj' : j < k := by rw [List.length_take] at hj; omega
    have := h5 j hj'
    rw [List.getD_eq_getElem?_getD] at this
    rw [List.getElem_take, List.getElem_drop]
    rw [List.getElem?_eq_getElem (show pos + j < l.length from Nat.lt_of_lt_of_le (Nat.add_lt_add_left hj' pos) h4)] at this
    exact this
/-- A test of runes that only ASCII can pass, as a test of bytes. -/
theorem rune_is (p : UInt8 → Bool) (q : Nat → Bool) (hpq : ∀ c : UInt8, c.toNat < 128 → q c.toNat = p c) (hp : ∀ c : UInt8, 128 ≤ c.toNat → p c = false) (hq : ∀ r, 128 ≤ r → q r = false) (l : List UInt8) (pos : Nat) (h : pos < l.length) :
    ∃ r k : Nat, Utf8.decode ⟨l.toArray⟩ pos = (r, k) ∧ r ≤ 1114111 ∧ 1 ≤ k ∧ pos + k ≤ l.length ∧
      ((q r = true ∧ k = 1 ∧ ∃ c, l[pos]? = some c ∧ p c = true) ∨ (q r = false ∧ ∀ x ∈ (l.drop pos).take k, p x = false)) := by
  obtain ⟨r, k, c, hd, hc, hr, hk, hkl, hcase⟩ := rune_st l pos h
  refine ⟨r, k, hd, hr, hk, hkl, ?_⟩
  rcases hcase with ⟨rfl, h1, rfl⟩ | ⟨h1, h2, h3⟩
  · cases hpc : p c with
    | true => exact .inl ⟨by rw [hpq c h1, hpc], rfl, c, hc, hpc⟩
    | false =>
      refine .inr ⟨by rw [hpq c h1, hpc], fun x hx => ?_⟩
      rw [drop_at hc, List.take_succ_cons, List.take_zero] at hx
      rw [List.mem_singleton.1 hx]
      exact hpc
  · exact .inr ⟨hq r h1, fun x hx => hp x (h3 x hx)⟩
theorem u8_lt_ne {c : UInt8} {b : UInt8} (hb : b.toNat < 128) (hc : 128 ≤ c.toNat) : (c == b) = false := by
  rw [beq_eq_false_iff_ne]
  rintro rfl
  omega
theorem u8_beq (c b : UInt8) : (c.toNat == b.toNat) = (c == b) := by
  rw [Bool.eq_iff_iff, beq_iff_eq, beq_iff_eq]
  exact ⟨fun h => UInt8.toNat_inj.1 h, fun h => by rw [h]⟩
/-- Which byte is meant: a separator. -/
theorem rune_sep (b : UInt8) (hb : b.toNat < 128) (l : List UInt8) (pos : Nat) (h : pos < l.length) :
    ∃ r k : Nat, Utf8.decode ⟨l.toArray⟩ pos = (r, k) ∧ r ≤ 1114111 ∧ 1 ≤ k ∧ pos + k ≤ l.length ∧
      ((((r : Int) == (b.toNat : Int)) = true ∧ k = 1 ∧ l[pos]? = some b) ∨ (((r : Int) == (b.toNat : Int)) = false ∧ ∀ x ∈ (l.drop pos).take k, x ≠ b)) := by
  obtain ⟨r, k, hd, hr, hk, hkl, hcase⟩ := rune_is (fun c => c == b) (fun r => r == b.toNat) (fun c _ => u8_beq c b) (fun c hc => u8_lt_ne hb hc) (fun r h => beq_eq_false_iff_ne.2 (by omega)) l pos h
  refine ⟨r, k, hd, hr, hk, hkl, ?_⟩
  rcases hcase with ⟨h1, h2, c, hc, h3⟩ | ⟨h1, h2⟩
  · exact .inl ⟨beq_iff_eq.2 (by rw [beq_iff_eq.1 h1]), h2, by rw [hc, beq_iff_eq.1 h3]⟩
  · exact .inr ⟨beq_eq_false_iff_ne.2 (fun e => by rw [beq_eq_false_iff_ne] at h1; omega), fun x hx e => by have := h2 x hx; simp [e] at this⟩
/-- A blank, as a rune. -/
def blN (r : Nat) : Bool := r == 32 || r == 9
theorem u8_nat (c : UInt8) (n : Nat) (hn : n < 256) : ((c.toNat : Nat) == n) = (c == UInt8.ofNat n) := by
  rw [Bool.eq_iff_iff, beq_iff_eq, beq_iff_eq]
  constructor
  · intro h; apply UInt8.toNat_inj.1; rw [UInt8.toNat_ofNat']; omega
  · intro h; rw [h, UInt8.toNat_ofNat']; omega
theorem blN_u8 (c : UInt8) : blN c.toNat = isBl c := by
  unfold blN isBl
  rw [u8_nat c 32 (by decide), u8_nat c 9 (by decide)]
  rfl
theorem isBl_hi {c : UInt8} (h : 128 ≤ c.toNat) : isBl c = false := by
  rw [← blN_u8]; unfold blN; simp only [Bool.or_eq_false_iff, beq_eq_false_iff_ne]; omega
theorem int_beq (r : Nat) (n : Nat) : ((r : Int) == (n : Int)) = (r == n) := by
  rw [Bool.eq_iff_iff, beq_iff_eq, beq_iff_eq]; omega
theorem rune_bl (l : List UInt8) (pos : Nat) (h : pos < l.length) : ∃ (r k : Nat) (c : UInt8), Utf8.decode ⟨l.toArray⟩ pos = (r, k) ∧ l[pos]? = some c ∧ r ≤ 1114111 ∧ 1 ≤ k ∧ pos + k ≤ l.length ∧
    ((blN r = true ∧ k = 1 ∧ isBl c = true) ∨ (blN r = false ∧ isBl c = false ∧ ((r : Int) == 35) = (c == 35) ∧ ∀ x ∈ (l.drop pos).take k, isBl x = false)) := by
  obtain ⟨r, k, c, hd, hc, hr, hk, hkl, hcase⟩ := rune_st l pos h
  refine ⟨r, k, c, hd, hc, hr, hk, hkl, ?_⟩
  rcases hcase with ⟨rfl, h1, rfl⟩ | ⟨h1, h2, h3⟩
  · rw [blN_u8]
    cases hb : isBl c with
    | true => exact .inl ⟨rfl, rfl, rfl⟩
    | false =>
      refine .inr ⟨rfl, rfl, ?_, fun x hx => ?_⟩
      · rw [show ((c.toNat : Int) == 35) = ((c.toNat : Int) == ((35 : Nat) : Int)) from rfl, int_beq, u8_nat c 35 (by decide)]
        rfl
      · rw [drop_at hc, List.take_succ_cons, List.take_zero] at hx
        rw [List.mem_singleton.1 hx]
        exact hb
  · refine .inr ⟨?_, isBl_hi h2, ?_, fun x hx => isBl_hi (h3 x hx)⟩
    · unfold blN; simp only [Bool.or_eq_false_iff, beq_eq_false_iff_ne]; omega
    · rw [show ((r : Int) == 35) = false from beq_eq_false_iff_ne.2 (by omega), u8_lt_ne (by decide) h2]
theorem take_more {l : List UInt8} {pos k fr : Nat} (h : fr ≤ pos) (hk : pos + k ≤ l.length) : (l.take (pos + k)).drop fr = (l.take pos).drop fr ++ (l.drop pos).take k := by
  rw [List.take_add, List.drop_append_of_le_length (by rw [List.length_take]; omega)]
theorem free_get {l : List UInt8} {b : UInt8} {pos k : Nat} (hk : pos + k ≤ l.length) (h : ∀ x ∈ (l.drop pos).take k, x ≠ b) : ∀ j, j < k → l.getD (pos + j) 0 ≠ b := fun j hj => by
  rw [List.getD_eq_getElem?_getD, List.getElem?_eq_getElem (by omega)]
  refine h _ ?_
  rw [List.mem_iff_getElem]
  exact ⟨j, by rw [List.length_take, List.length_drop]; omega, by rw [List.getElem_take, List.getElem_drop]; rfl⟩
open Go.RowKit

theorem dec_rune (s : ByteArray) (pos : Nat) (h : pos < s.size) : ∃ (r k : Nat) (c : UInt8), Utf8.decode s pos = (r, k) ∧ s.data.toList[pos]? = some c ∧ r ≤ 1114111 ∧ 1 ≤ k ∧
    ((c.toNat < 48 ∧ r < 48) ∨ (57 < c.toNat ∧ 57 < r) ∨ (48 ≤ c.toNat ∧ c.toNat ≤ 57 ∧ r = c.toNat ∧ k = 1)) := by
  by_cases ha : (s[pos]'h).toNat < 128
  · refine ⟨_, 1, s[pos]'h, decode_ascii s pos h ha, get?_at s pos h, by omega, Nat.le_refl _, by omega⟩
  · obtain ⟨h1, h2, h3, _, _⟩ := rune_hi s pos h (by omega)
    refine ⟨(Utf8.decode s pos).1, (Utf8.decode s pos).2, s[pos]'h, rfl, get?_at s pos h, h2, h3, .inr (.inl ⟨?_, ?_⟩)⟩ <;> omega

/-- What decimal answers. -/
def DecPost (l : List UInt8) (most : Int) (w : World) (e : Ending) (w' : World) : Prop :=
  e = .returned (.tuple #[.int .i64 (if 0 ≤ numI l most then numI l most else 0), .bool (decide (0 ≤ numI l most))]) ∧ Below w.heap.size w w'
theorem decPost_no {l : List UInt8} {most : Int} {w w' : World} (h : numI l most = -1) (hb : Below w.heap.size w w') : DecPost l most w (.returned (.tuple #[.int .i64 0, .bool false])) w' := by
  unfold DecPost; rw [h]; exact ⟨rfl, hb⟩
theorem decPost_yes {l : List UInt8} {most : Int} {w w' : World} {v : Nat} (h : numI l most = v) (hb : Below w.heap.size w w') : DecPost l most w (.returned (.tuple #[.int .i64 (v : Int), .bool true])) w' := by
  unfold DecPost; rw [h, if_pos (by omega), decide_eq_true (by omega)]; exact ⟨rfl, hb⟩

set_option maxRecDepth 100000 in
set_option maxHeartbeats 2000000 in
theorem decimal_any (s : ByteArray) (most : Int) (w : World) (hs : s.size ≤ 140737488355328) (hm0 : 0 ≤ most) (hm1 : most < 1000) :
    Calls Try.prog 82 #[.string s, .int .i64 most] w (DecPost s.data.toList most w) := by
  have hlen : s.data.toList.length = s.size := by simp
  have bel : ∀ p, Below w.heap.size w (w.iter s p) := fun p => (Below.refl _ _).alloc (Nat.le_refl _) _
  go_enter Try.func82, Try.ntmps82
  go_wp2
  go_loopw [6] (fun v wr => ∃ (pos n : Nat), v = .int .i64 n ∧ pos ≤ s.size ∧ wr = w.iter s pos ∧ DecInv s.data.toList pos n ∧ (n : Int) ≤ most) (fun _ wr => s.size - wr.iterPos w.heap.size)
  case atStart => exact ⟨0, 0, rfl, by omega, rfl, dec_start _, hm0⟩
  case round =>
    obtain ⟨pos, n, rfl, hp, rfl, hi, hn⟩ := hrel
    have n0 : (0 : Int) ≤ n := by omega
    have n1 : (n : Int) < 1000 := by omega
    by_cases hlt : pos < s.size
    · obtain ⟨r, k, c, hd, hc, hr, hk, hcase⟩ := dec_rune s pos hlt
      have hnx : ∀ ty, (Instr.next (.pointer (some ⟨w.heap.size, 0, none⟩)) true ty).run Try.prog (w.iter s pos) = .ok (.tuple #[.bool true, .int .i64 pos, .int .i32 r]) (w.iter s (pos + k)) := fun ty => by
        have := run_next_any (P := Try.prog) w s pos ty hlt
        rw [hd] at this; exact this
      have k0 : (0 : Int) ≤ pos := by omega
      have k1 : (pos : Int) < s.size := by omega
      have p1 : (s.size : Int) ≤ 140737488355328 := by omega
      have r0 : (0 : Int) ≤ r := by omega
      have r1 : (r : Int) ≤ 1114111 := by omega
      clear hd
      by_cases hz : 0 < pos ∧ n = 0
      · obtain ⟨hz1, rfl⟩ := hz
        have hno := Lib.hid (dec_zero hi hz1 hc most)
        have z1 : (0 : Int) < pos := by omega
        clear hcase hc hi
        go_wp2
        go_ret2
        exact decPost_no hno.out (bel _)
      have hi' := Lib.hid hi
      rcases hcase with ⟨hc1, hr1⟩ | ⟨hc1, hr1⟩ | ⟨hc1, hc2, rfl, rfl⟩
      · have hno := Lib.hid (dec_bad hi hc (.inl hc1) most)
        have t1 : (r : Int) < 48 := by omega
        clear hc hi hi'
        by_cases hp0 : pos = 0
        · subst hp0
          have hnx0 : ∀ ty, (Instr.next (.pointer (some ⟨w.heap.size, 0, none⟩)) true ty).run Try.prog (w.iter s 0) = .ok (.tuple #[.bool true, .int .i64 0, .int .i32 r]) (w.iter s k) := fun ty => by
            have := hnx ty; rwa [Nat.zero_add] at this
          clear hnx k0 k1 hlt hp
          go_wp2
          go_ret2
          exact decPost_no hno.out (bel _)
        · have z1 : (0 : Int) < pos := by omega
          have z2 : ((n : Int) == 0) = false := beq_eq_false_iff_ne.2 (by omega)
          go_wp2
          go_ret2
          exact decPost_no hno.out (bel _)
      · have hno := Lib.hid (dec_bad hi hc (.inr hc1) most)
        have t1 : decide ((r : Int) < 48) = false := decide_eq_false (by omega)
        have t2 : (57 : Int) < r := by omega
        clear hc hi hi'
        by_cases hp0 : pos = 0
        · subst hp0
          have hnx0 : ∀ ty, (Instr.next (.pointer (some ⟨w.heap.size, 0, none⟩)) true ty).run Try.prog (w.iter s 0) = .ok (.tuple #[.bool true, .int .i64 0, .int .i32 r]) (w.iter s k) := fun ty => by
            have := hnx ty; rwa [Nat.zero_add] at this
          clear hnx k0 k1 hlt hp
          go_wp2
          go_ret2
          exact decPost_no hno.out (bel _)
        · have z1 : (0 : Int) < pos := by omega
          have z2 : ((n : Int) == 0) = false := beq_eq_false_iff_ne.2 (by omega)
          go_wp2
          go_ret2
          exact decPost_no hno.out (bel _)
      · have t1 : decide ((c.toNat : Int) < 48) = false := decide_eq_false (by omega)
        have t2 : decide ((57 : Int) < c.toNat) = false := decide_eq_false (by omega)
        have q0 : (48 : Int) ≤ c.toNat := by omega
        have q1 : (c.toNat : Int) ≤ 57 := by omega
        have e1 : ((10 * n + (c.toNat - 48) : Nat) : Int) = 10 * n + (c.toNat - 48) := by omega
        by_cases hbig : most < ((10 * n + (c.toNat - 48) : Nat) : Int)
        · have hno := Lib.hid (dec_big hi hc hc1 hc2 most hbig)
          have t3 : most < 10 * (n : Int) + (c.toNat - 48) := by omega
          clear hc hi hi' hbig e1
          by_cases hp0 : pos = 0
          · subst hp0
            have hnx0 : ∀ ty, (Instr.next (.pointer (some ⟨w.heap.size, 0, none⟩)) true ty).run Try.prog (w.iter s 0) = .ok (.tuple #[.bool true, .int .i64 0, .int .i32 (c.toNat : Int)]) (w.iter s 1) := fun ty => by
              have := hnx ty; rwa [Nat.zero_add] at this
            clear hnx k0 k1 hlt hp
            go_wp2
            go_ret2
            exact decPost_no hno.out (bel _)
          · have z1 : (0 : Int) < pos := by omega
            have z2 : ((n : Int) == 0) = false := beq_eq_false_iff_ne.2 (by omega)
            go_wp2
            go_ret2
            exact decPost_no hno.out (bel _)
        · have hst := Lib.hid (dec_step hi hc hc1 hc2 hz)
          have t3 : decide (most < 10 * (n : Int) + (c.toNat - 48)) = false := decide_eq_false (by omega)
          have t4 : Hid (((10 * n + (c.toNat - 48) : Nat) : Int) ≤ most) := Lib.hid (by omega)
          have E1 := Lib.hid e1
          clear hc hi hi' hbig e1
          by_cases hp0 : pos = 0
          · subst hp0
            have hnx0 : ∀ ty, (Instr.next (.pointer (some ⟨w.heap.size, 0, none⟩)) true ty).run Try.prog (w.iter s 0) = .ok (.tuple #[.bool true, .int .i64 0, .int .i32 (c.toNat : Int)]) (w.iter s 1) := fun ty => by
              have := hnx ty; rwa [Nat.zero_add] at this
            clear hnx k0 k1
            go_wp2
            go_roundw
            case rel => exact ⟨1, 10 * n + (c.toNat - 48), by rw [E1.out], by omega, rfl, hst.out, t4.out⟩
            case measure => simp; omega
          · have z1 : (0 : Int) < pos := by omega
            have z2 : ((n : Int) == 0) = false := beq_eq_false_iff_ne.2 (by omega)
            go_wp2
            go_roundw
            case rel => exact ⟨pos + 1, 10 * n + (c.toNat - 48), by rw [E1.out], by omega, rfl, hst.out, t4.out⟩
            case measure => simp; omega
    · obtain rfl : pos = s.size := by omega
      have hnx : ∀ ty, (Instr.next (.pointer (some ⟨w.heap.size, 0, none⟩)) true ty).run Try.prog (w.iter s s.size) = .ok (.tuple #[.bool false]) (w.iter s s.size) := fun ty => run_next_end w s s.size ty hlt
      by_cases h0 : s.size = 0
      · have hl : s.data.toList = [] := List.eq_nil_of_length_eq_zero (by omega)
        have hno : Hid (numI s.data.toList most = -1) := Lib.hid (by rw [hl]; exact dec_none most)
        obtain ⟨rfl⟩ : n = 0 := by
          rcases hi.2 with h | h | h <;> omega
        have hem : s.toList.isEmpty = true := by rw [ByteArray.toList_eq, hl]; rfl
        have HN := Lib.hid hn
        clear h0 hl hi hn
        go_wp2
        go_ret2
        exact decPost_no hno.out (bel _)
      · have hem : s.toList.isEmpty = false := by
          rw [ByteArray.toList_eq]
          cases hl : s.data.toList with
          | nil => rw [hl] at hlen; simp at hlen; omega
          | cons _ _ => rfl
        have hno : Hid (numI s.data.toList most = n) := by
          rw [← hlen] at hi
          exact Lib.hid (dec_end hi (by omega) most hn hm1)
        clear h0 hi hn
        go_wp2
        go_ret2
        exact decPost_yes hno.out (bel _)
open Go.RowKit

/-- Is a line empty or a remark? -/
def skipL (l : List UInt8) : Bool := match l.dropWhile isBl with
  | [] => true
  | c :: _ => c == 35
theorem skip_at {l : List UInt8} {pos : Nat} {c : UInt8} (h : ∀ x ∈ l.take pos, isBl x = true) (hc : l[pos]? = some c) (hb : isBl c = false) : skipL l = (c == 35) := by
  have e : l = l.take pos ++ c :: l.drop (pos + 1) := by rw [← drop_at hc, List.take_append_drop]
  unfold skipL
  rw [e, List.dropWhile_append_of_pos h, List.dropWhile_cons, if_neg (by rw [hb]; decide)]
theorem skip_end {l : List UInt8} (h : ∀ x ∈ l.take l.length, isBl x = true) : skipL l = true := by
  have e : l.dropWhile isBl = [] := by
    rw [List.take_length] at h
    have := List.dropWhile_append_of_pos (l₂ := []) h
    rwa [List.append_nil] at this
  unfold skipL
  rw [e]
theorem take_one {p : UInt8 → Prop} {l : List UInt8} {pos : Nat} {c : UInt8} (h : ∀ x ∈ l.take pos, p x) (hc : l[pos]? = some c) (hp : p c) : ∀ x ∈ l.take (pos + 1), p x := by
  rw [List.take_add_one, hc]
  intro x hx
  rcases List.mem_append.1 hx with h1 | h1
  · exact h x h1
  · rw [Option.toList_some, List.mem_singleton] at h1; rw [h1]; exact hp
theorem take_all {p : UInt8 → Prop} {l : List UInt8} {pos k : Nat} (h : ∀ x ∈ l.take pos, p x) (hp : ∀ x ∈ (l.drop pos).take k, p x) : ∀ x ∈ l.take (pos + k), p x := by
  rw [List.take_add]
  intro x hx
  rcases List.mem_append.1 hx with h1 | h1
  · exact h x h1
  · exact hp x h1
/-- What stands ahead of the first b, and behind it. -/
def cut1 (b : UInt8) : List UInt8 → Option (List UInt8 × List UInt8)
  | [] => none
  | c :: l => if c = b then some ([], l) else (cut1 b l).map fun x => (c :: x.1, x.2)
theorem cut1_skip {b : UInt8} : ∀ (x y : List UInt8), (∀ c ∈ x, c ≠ b) → cut1 b (x ++ y) = (cut1 b y).map fun z => (x ++ z.1, z.2)
  | [], y, _ => by rw [List.nil_append]; cases cut1 b y <;> simp
  | c :: x, y, h => by
    rw [List.cons_append, cut1, if_neg (h c (by simp)), cut1_skip x y (fun d hd => h d (by simp [hd]))]
    cases cut1 b y <;> rfl
theorem cut1_at {b : UInt8} {l : List UInt8} {pos : Nat} (h : ∀ x ∈ l.take pos, x ≠ b) (hc : l[pos]? = some b) : cut1 b l = some (l.take pos, l.drop (pos + 1)) := by
  have e : l = l.take pos ++ b :: l.drop (pos + 1) := by rw [← drop_at hc, List.take_append_drop]
  conv => lhs; rw [e]
  rw [cut1_skip _ _ h, cut1, if_pos rfl]
  simp
theorem cut1_none {b : UInt8} {l : List UInt8} (h : ∀ x ∈ l.take l.length, x ≠ b) : cut1 b l = none := by
  rw [List.take_length] at h
  have := cut1_skip l [] h
  rwa [List.append_nil] at this
theorem words_free : ∀ (x y u : List UInt8), (∀ c ∈ x, isBl c = false) → wordsGo (x ++ y) u = wordsGo y (u ++ x)
  | [], y, u, _ => by simp
  | c :: x, y, u, h => by
    rw [List.cons_append, wordsGo, if_neg (by rw [h c (by simp)]; decide), words_free x y _ (fun d hd => h d (by simp [hd]))]
    simp
theorem words_skip {r ws : List (List UInt8)} {l : List UInt8} {pos k fr : Nat} (h : ws ++ wordsGo (l.drop pos) ((l.take pos).drop fr) = r) (hf : fr ≤ pos) (hk : pos + k ≤ l.length) (hb : ∀ x ∈ (l.drop pos).take k, isBl x = false) :
    ws ++ wordsGo (l.drop (pos + k)) ((l.take (pos + k)).drop fr) = r := by
  rw [take_more hf hk, ← words_free _ _ _ hb, ← List.drop_drop, List.take_append_drop]
  exact h
theorem words_blank {r ws : List (List UInt8)} {l : List UInt8} {pos fr : Nat} {c : UInt8} (h : ws ++ wordsGo (l.drop pos) ((l.take pos).drop fr) = r) (hc : l[pos]? = some c) (hb : isBl c = true) :
    (if (l.take pos).drop fr = [] then ws else ws ++ [(l.take pos).drop fr]) ++ wordsGo (l.drop (pos + 1)) ((l.take (pos + 1)).drop (pos + 1)) = r := by
  rw [show (l.take (pos + 1)).drop (pos + 1) = [] from List.drop_eq_nil_of_le (by rw [List.length_take]; omega)]
  exact words_cut h (.inr ⟨c, hc, hb⟩)
theorem words_end {r ws : List (List UInt8)} {l : List UInt8} {fr : Nat} (h : ws ++ wordsGo (l.drop l.length) ((l.take l.length).drop fr) = r) :
    (if l.drop fr = [] then ws else ws ++ [l.drop fr]) = r := by
  have := words_cut h (.inl rfl)
  rwa [show l.drop (l.length + 1) = [] from List.drop_eq_nil_of_le (by omega), wordsGo, if_pos rfl, List.append_nil, List.take_length] at this
theorem piece_nil {l : List UInt8} {pos fr : Nat} (hp : pos ≤ l.length) (h : ¬ fr < pos) : (l.take pos).drop fr = [] := List.drop_eq_nil_of_le (by rw [List.length_take]; omega)
theorem piece_some {l : List UInt8} {pos fr : Nat} (hp : pos ≤ l.length) (h : fr < pos) : (l.take pos).drop fr ≠ [] := fun e => by
  have := congrArg List.length e
  rw [List.length_drop, List.length_take] at this
  simp at this
  omega
theorem drop_some {l : List UInt8} {fr : Nat} (h : fr < l.length) : ¬ l.drop fr = [] := by rw [List.drop_eq_nil_iff]; omega
theorem drop_none {l : List UInt8} {fr : Nat} (h : ¬ fr < l.length) : l.drop fr = [] := List.drop_eq_nil_of_le (by omega)
/-- What cut answers. -/
def cutV (b : UInt8) (l : List UInt8) : Value := match cut1 b l with
  | some (x, y) => .tuple #[.string ⟨x.toArray⟩, .string ⟨y.toArray⟩, .bool true]
  | none => .tuple #[.string ⟨#[]⟩, .string ⟨#[]⟩, .bool false]
/-- The only word of a text. -/
def onlyW (l : List UInt8) : Option (List UInt8) := match wordsL l with
  | [x] => some x
  | _ => none
theorem lines_of {l : List UInt8} {ps : List (List UInt8)} {fr : Nat} (h : cutF 10 l = ps ++ [l.drop fr]) (hf : fr ≤ l.length) : linesL l = if fr < l.length then ps ++ [l.drop fr] else ps := by
  unfold linesL
  rw [h]
  simp only [List.getLast?_append, List.getLast?_singleton, Option.some_or, List.dropLast_concat]
  by_cases hpl : fr < l.length
  · rw [if_neg (by simp; omega), if_pos hpl]
  · rw [if_pos (by simp; omega), if_neg hpl]
theorem dec_end9 {l : List UInt8} {v : Nat} (h : DecInv l l.length v) (hl : 0 < l.length) (h9 : l.length ≤ 9) (most : Int) (hv : (v : Int) ≤ most) : numI l most = v := by
  have hg : numGo l 0 = some v := by rw [← h.1, List.drop_length]; rfl
  rw [numI_some most v ?_ hg, if_neg (by omega)]
  rcases h.2 with ⟨h1, _⟩ | ⟨h1, _, _⟩ | ⟨h1, h2, h3⟩
  · omega
  · omega
  · rintro (h4 | h4 | ⟨_, h4⟩)
    · omega
    · omega
    · exact h3 h4
theorem pow_le9 {n k : Nat} (h : n < 10 ^ k) (hk : k ≤ 8) : (n : Int) ≤ 99999999 := by
  have : (10 : Nat) ^ k ≤ 10 ^ 8 := Nat.pow_le_pow_right (by omega) hk
  omega
theorem pow_next {n k d : Nat} (h : n < 10 ^ k) (hd : d ≤ 9) : 10 * n + d < 10 ^ (k + 1) := by
  rw [Nat.pow_succ]; omega
set_option linter.unusedVariables false in
set_option maxRecDepth 100000 in
set_option maxHeartbeats 16000000 in
theorem isBlank_any (r : Nat) (w : World) : Calls Try.prog 62 #[.int .i32 (r : Int)] w fun e w' => e = .returned (.bool (blN r)) ∧ w = w' := by
  skip
  go_enter Try.func62, Try.ntmps62
  rcases (by decide : ∀ b : Bool, b = true ∨ b = false) ((r : Int) == 32) with h0 | h0
  · have HP : Hid (blN r = true) := Lib.hid (by unfold blN; rw [← int_beq r 32]; rw [show ((r : Int) == ((32 : Nat) : Int)) = true from h0]; rfl)
    go_wp2_with fail
    go_ret
    exact ⟨by rw [HP.out]; rfl, rfl⟩
  · rcases (by decide : ∀ b : Bool, b = true ∨ b = false) ((r : Int) == 9) with h1 | h1
    · have HP : Hid (blN r = true) := Lib.hid (by unfold blN; rw [← int_beq r 32, ← int_beq r 9]; rw [show ((r : Int) == ((32 : Nat) : Int)) = false from h0, show ((r : Int) == ((9 : Nat) : Int)) = true from h1]; rfl)
      go_wp2_with fail
      go_ret
      exact ⟨by rw [HP.out]; rfl, rfl⟩
    · have HP : Hid (blN r = false) := Lib.hid (by unfold blN; rw [← int_beq r 32, ← int_beq r 9]; rw [show ((r : Int) == ((32 : Nat) : Int)) = false from h0, show ((r : Int) == ((9 : Nat) : Int)) = false from h1]; rfl)
      go_wp2_with fail
      go_ret
      exact ⟨by rw [HP.out]; rfl, rfl⟩
set_option linter.unusedVariables false in
set_option maxRecDepth 100000 in
set_option maxHeartbeats 16000000 in
theorem isSkipped_any (l : List UInt8) (w : World) : Calls Try.prog 36 #[.string ⟨l.toArray⟩] w fun e w' => e = .returned (.bool (skipL l)) ∧ Below w.heap.size w w' := by
  have bel := Below.refl w.heap.size w
  go_enter Try.func36, Try.ntmps36
  go_wp2_with (first | ((with_reducible show wpList _ _ _ (⟨some 6, _, _, _, _, _⟩ :: _) _ _); refine wpList_range_n rfl 9 (.tmp 5) rfl (by kernel_rfl) (l) rfl ?_; intro g6 w1 ge lt hh bb; have oit := Nat.le_trans bel.size ge; replace bel := bel.trans (bb.mono bel.size); have hit := hh; clear hh lt ge bb))
  simp only [sq4]
  go_loopg [] (l.length + 1) (fun gk  wr => ∃ pos : Nat, gk = l.length + 1 - pos ∧ pos ≤ l.length ∧ Hid (∀ x ∈ l.take pos, isBl x = true) ∧ wr.heap[g6]? = some (.stringIter ⟨(l).toArray⟩ (pos)) ∧ Below w.heap.size w wr)
  case atStart => exact ⟨0, rfl, Nat.zero_le _, Lib.hid (fun x hx => by simp at hx), hit, bel⟩
  case round =>
    clear hit bel
    obtain ⟨pos, HGK, hp, HB, hit, bel⟩ := hrel
    have HGK_ := Lib.hid HGK
    clear HGK
    by_cases hpl : pos < l.length
    · obtain ⟨r, k, c, hd, hc, hr, hk, hkl, hcase⟩ := rune_bl l pos hpl
      have HD := Lib.hid hd
      have HC := Lib.hid hc
      clear hd hc
      have r0 : (0 : Int) ≤ r := by omega
      have r1 : (r : Int) ≤ 1114111 := by omega
      have p0 : (0 : Int) ≤ pos := by omega
      rcases hcase with ⟨hb, hk1, hbc⟩ | ⟨hb, hbc, h35, hfree⟩
      · have HBL := Lib.hid hb
        have HBC := Lib.hid hbc
        clear hb hbc
        go_wp2_with (first | ((with_reducible show wpList _ _ _ (⟨some 7, _, _, _, _, _⟩ :: _) _ _); refine wpList_next_n rfl (.tmp 6) rfl g6 rfl (l) (pos) hit (r) (k) (HD.out) (hpl) ((pos : Int)) (rfl) ?_; intro w2 hq gr; replace bel := below_grown bel gr oit bel.size; clear hit; have hit := hq; clear hq gr))
        with_reducible refine (isBlank_any _ _).mono ?_
        rintro e _ ⟨rfl, rfl⟩
        rw [HBL.out]
        go_wp2_with fail
        go_roundg (l.length + 1 - (pos + k))
        case measure => have := HGK_.out; omega
        case rel => exact ⟨pos + k, rfl, hkl, Lib.hid (by subst hk1; exact take_one HB.out HC.out HBC.out), hit, bel⟩
      · have HBL := Lib.hid hb
        have HP : Hid (skipL l = (c == 35)) := Lib.hid (skip_at HB.out HC.out hbc)
        obtain ⟨b9, h9⟩ : ∃ b, (c == 35) = b := ⟨_, rfl⟩
        rw [h9] at h35 HP
        clear hb hbc hfree h9
        go_wp2_with (first | ((with_reducible show wpList _ _ _ (⟨some 7, _, _, _, _, _⟩ :: _) _ _); refine wpList_next_n rfl (.tmp 6) rfl g6 rfl (l) (pos) hit (r) (k) (HD.out) (hpl) ((pos : Int)) (rfl) ?_; intro w2 hq gr; replace bel := below_grown bel gr oit bel.size; clear hit; have hit := hq; clear hq gr))
        with_reducible refine (isBlank_any _ _).mono ?_
        rintro e _ ⟨rfl, rfl⟩
        rw [HBL.out]
        go_wp2_with fail
        go_ret
        exact ⟨by rw [HP.out]; rfl, bel⟩
    · have HP : Hid (skipL l = true) := Lib.hid (skip_end (by have h := HB.out; rw [show pos = l.length by omega] at h; exact h))
      have R7 := fun ty => next_end (P := Try.prog) ty hit (hpl)
      go_wp2_with fail
      clear R7
      go_ret
      exact ⟨by rw [HP.out]; rfl, bel⟩
set_option linter.unusedVariables false in
set_option maxRecDepth 100000 in
set_option maxHeartbeats 16000000 in
theorem ccut_any (b : UInt8) (B : Int) (hB : (b.toNat : Int) = B) (hb7 : b.toNat < 128) (l : List UInt8) (w : World) (hlen : l.length ≤ 100000) : Calls Try.prog 37 #[.string ⟨l.toArray⟩, .int .i32 B] w fun e w' => e = .returned (cutV b l) ∧ Below w.heap.size w w' := by
  have HBB := Lib.hid hB
  have bel := Below.refl w.heap.size w
  go_enter Try.func37, Try.ntmps37
  go_wp2_with (first | ((with_reducible show wpList _ _ _ (⟨some 10, _, _, _, _, _⟩ :: _) _ _); refine wpList_range_n rfl 9 (.tmp 9) rfl (by kernel_rfl) (l) rfl ?_; intro g10 w1 ge lt hh bb; have oit := Nat.le_trans bel.size ge; replace bel := bel.trans (bb.mono bel.size); have hit := hh; clear hh lt ge bb))
  simp only [sq4]
  go_loopg [] (l.length + 1) (fun gk  wr => ∃ pos : Nat, gk = l.length + 1 - pos ∧ pos ≤ l.length ∧ Hid (∀ x ∈ l.take pos, x ≠ b) ∧ wr.heap[g10]? = some (.stringIter ⟨(l).toArray⟩ (pos)) ∧ Below w.heap.size w wr)
  case atStart => exact ⟨0, rfl, Nat.zero_le _, Lib.hid (fun x hx => by simp at hx), hit, bel⟩
  case round =>
    clear hit bel
    obtain ⟨pos, HGK, hp, HN, hit, bel⟩ := hrel
    have HGK_ := Lib.hid HGK
    clear HGK
    by_cases hpl : pos < l.length
    · obtain ⟨r, k, hd, hr, hk, hkl, hcase⟩ := rune_sep b hb7 l pos hpl
      rw [HBB.out] at hcase
      have HD := Lib.hid hd
      clear hd
      have r0 : (0 : Int) ≤ r := by omega
      have r1 : (r : Int) ≤ 1114111 := by omega
      have p0 : (0 : Int) ≤ pos := by omega
      have p1 : (pos : Int) ≤ 100000 := by omega
      rcases hcase with ⟨hq, hk1, hc⟩ | ⟨hq, hfree⟩
      · have HP : Hid (cutV b l = .tuple #[.string ⟨(l.take pos).toArray⟩, .string ⟨(l.drop (pos + 1)).toArray⟩, .bool true]) := Lib.hid (by unfold cutV; rw [cut1_at HN.out hc])
        have w1 : IntKind.i64.wrap ((pos : Int) + 1) = (pos : Int) + 1 := IntWalk.i64_in _ (by omega)
        have s20 := fun W => st_to (l := l) (j := pos) hp W
        have s24 : ∀ W, (Instr.slice 9 (.string ⟨l.toArray⟩) (some (.int .i64 ((pos : Int) + 1))) none none).run Try.prog W = .ok (.string ⟨(l.drop (pos + 1)).toArray⟩) W := fun W => st_from (l := l) (i := pos + 1) hpl W
        clear hc
        go_wp2_with (first | ((with_reducible show wpList _ _ _ (⟨some 11, _, _, _, _, _⟩ :: _) _ _); refine wpList_next_n rfl (.tmp 10) rfl g10 rfl (l) (pos) hit (r) (k) (HD.out) (hpl) ((pos : Int)) (rfl) ?_; intro w2 hq gr; replace bel := below_grown bel gr oit bel.size; clear hit; have hit := hq; clear hq gr))
        replace bel := bel.drew
        replace hit : w2.drew.heap[g10]? = _ := hit
        refine wp_region_held_drew (S := fun _ => True) (by kernel_rfl) trivial (fun hH => ?_)
        generalize w2.drew = w3 at bel hit hH ⊢
        refine wpAnyH_take (i := 0) (v := ?_) rfl (by kernel_rfl) (by kernel_rfl) (by kernel_rfl) (fun _ _ _ h => h) (Or.inl ⟨by rfl, ?_⟩) hH ?_
        rotate_left
        · ((intro W hW; clear hW; go_simp) <;> with_reducible rfl)
        simp only [Act.put, List.getElem_toArray, List.getElem_cons_zero, List.setIfInBounds_toArray, List.set_cons_zero, List.set_cons_succ]
        refine wpAnyH_take (i := 1) (v := ?_) rfl (by kernel_rfl) (by kernel_rfl) (by kernel_rfl) (fun _ _ _ h => h) (Or.inl ⟨by rfl, ?_⟩) hH ?_
        rotate_left
        · ((intro W hW; clear hW; go_simp) <;> with_reducible rfl)
        simp only [sq3, sq4]
        refine wpAnyH_take (i := 2) (v := ?_) rfl (by kernel_rfl) (by kernel_rfl) (by kernel_rfl) (fun _ _ _ h => h) (Or.inl ⟨by rfl, ?_⟩) hH ?_
        rotate_left
        · ((intro W hW; clear hW; go_simp) <;> with_reducible rfl)
        simp only [sq3, sq4]
        refine wpAnyH_take (i := 3) (v := ?_) rfl (by kernel_rfl) (by kernel_rfl) (by kernel_rfl) (fun _ _ _ h => h) (Or.inl ⟨by rfl, ?_⟩) hH ?_
        rotate_left
        · ((intro W hW; clear hW; go_simp) <;> with_reducible rfl)
        simp only [sq3, sq4]
        refine wpAnyH_take (i := 4) (v := ?_) rfl (by kernel_rfl) (by kernel_rfl) (by kernel_rfl) (fun _ _ _ h => h) (Or.inl ⟨by rfl, ?_⟩) hH ?_
        rotate_left
        · ((intro W hW; clear hW; go_simp) <;> with_reducible rfl)
        simp only [sq3, sq4]
        refine wpAnyH_take (i := 5) (v := ?_) rfl (by kernel_rfl) (by kernel_rfl) (by kernel_rfl) (fun _ _ _ h => h) (Or.inl ⟨by rfl, ?_⟩) hH ?_
        rotate_left
        · ((intro W hW; clear hW; go_simp) <;> with_reducible rfl)
        simp only [sq3, sq4]
        refine wpAnyH_take (i := 6) (v := ?_) rfl (by kernel_rfl) (by kernel_rfl) (by kernel_rfl) (fun _ _ _ h => h) (Or.inl ⟨by rfl, ?_⟩) hH ?_
        rotate_left
        · ((intro W hW; clear hW; go_simp) <;> with_reducible rfl)
        simp only [sq3, sq4]
        refine wpAnyH_take (i := 7) (v := ?_) rfl (by kernel_rfl) (by kernel_rfl) (by kernel_rfl) (fun _ _ _ h => h) (Or.inl ⟨by rfl, ?_⟩) hH ?_
        rotate_left
        · ((intro W hW; clear hW; go_simp) <;> with_reducible rfl)
        simp only [sq3, sq4]
        refine wpAnyH_take (i := 8) (v := ?_) rfl (by kernel_rfl) (by kernel_rfl) (by kernel_rfl) (fun _ _ _ h => h) (Or.inl ⟨by rfl, ?_⟩) hH ?_
        rotate_left
        · ((intro W hW; clear hW; go_simp) <;> with_reducible rfl)
        simp only [sq3, sq4]
        refine wpAnyH_take (i := 9) (v := ?_) rfl (by kernel_rfl) (by kernel_rfl) (by kernel_rfl) (fun _ _ _ h => h) (Or.inl ⟨by rfl, ?_⟩) hH ?_
        rotate_left
        · ((intro W hW; clear hW; go_simp) <;> with_reducible rfl)
        simp only [sq3, sq4]
        refine wpAnyH_done (by kernel_rfl) ?_ _
        go_wp2_with fail
        exact bodyPost_ret (v := .tuple #[.string ⟨(l.take pos).toArray⟩, .string ⟨(l.drop (pos + 1)).toArray⟩, .bool true]) (by simp [results, Try.results37, go_sem]) rfl ⟨by rw [HP.out], bel⟩
      · have HF := Lib.hid hfree
        clear hfree
        go_wp2_with (first | ((with_reducible show wpList _ _ _ (⟨some 11, _, _, _, _, _⟩ :: _) _ _); refine wpList_next_n rfl (.tmp 10) rfl g10 rfl (l) (pos) hit (r) (k) (HD.out) (hpl) ((pos : Int)) (rfl) ?_; intro w2 hq gr; replace bel := below_grown bel gr oit bel.size; clear hit; have hit := hq; clear hq gr))
        go_roundg (l.length + 1 - (pos + k))
        case measure => have := HGK_.out; omega
        case rel => exact ⟨pos + k, rfl, hkl, Lib.hid (take_all HN.out HF.out), hit, bel⟩
    · have HP : Hid (cutV b l = .tuple #[.string ⟨#[]⟩, .string ⟨#[]⟩, .bool false]) := Lib.hid (by unfold cutV; rw [cut1_none (by have h := HN.out; rw [show pos = l.length by omega] at h; exact h)])
      have R11 := fun ty => next_end (P := Try.prog) ty hit (hpl)
      go_wp2_with fail
      clear R11
      exact bodyPost_ret (v := .tuple #[.string ⟨#[]⟩, .string ⟨#[]⟩, .bool false]) (by simp [results, Try.results37, go_sem]) rfl ⟨by rw [HP.out], bel⟩
set_option linter.unusedVariables false in
set_option maxRecDepth 100000 in
set_option maxHeartbeats 16000000 in
theorem wordsOf_any (l : List UInt8) (w : World) (hlen : l.length ≤ 100000) : Calls Try.prog 63 #[.string ⟨l.toArray⟩] w fun e w' => ∃ v, e = .returned v ∧ w'.ownsRow w.heap.size 9 1 v (wordsL l).length ((wordsL l).flatMap stf) ∧ Below w.heap.size w w' := by
  obtain ⟨is, his, his0, his1, his2⟩ := info_parts Try.info_str
  have bel := Below.refl w.heap.size w
  go_enter Try.func63, Try.ntmps63
  go_wp2_with (first | ((with_reducible show wpList _ _ _ (⟨some 8, _, _, _, _, _⟩ :: _) _ _); refine wpList_range_n rfl 9 (.tmp 7) rfl (by kernel_rfl) (l) rfl ?_; intro g8 w1 ge lt hh bb; have oit := Nat.le_trans bel.size ge; replace bel := bel.trans (bb.mono bel.size); have hit := hh; clear hh lt ge bb))
  simp only [sq4]
  go_loopg [3, 4] (l.length + 1) (fun gk s3 s4 wr => ∃ pos : Nat, ∃ fr : Nat, ∃ ws : List (List UInt8), ∃ nw : Nat, ∃ (Awt : Option Addr) (cwt : Nat), gk = l.length + 1 - pos ∧ pos ≤ l.length ∧ fr ≤ pos ∧ Hid (ws ++ wordsGo (l.drop pos) ((l.take pos).drop fr) = wordsL l) ∧ nw ≤ pos ∧ s3 = .slice Awt nw cwt ∧ s4 = .int .i64 (fr : Int) ∧ wr.ownsRow (w.heap.size) 9 1 (.slice Awt (nw) cwt) (nw) ((ws : List (List UInt8)).flatMap stf) ∧ Ofs (.slice Awt (nw) cwt) g8 ∧ wr.heap[g8]? = some (.stringIter ⟨(l).toArray⟩ (pos)) ∧ Below w.heap.size w wr)
  case atStart => exact ⟨0, 0, [], 0, none, 0, rfl, Nat.zero_le _, Nat.le_refl _, Lib.hid rfl, Nat.le_refl _, rfl, rfl, owk_nil _ _ _, (fun g h => by simp [Value.ownBlock] at h), hit, bel⟩
  case round =>
    clear hit bel
    obtain ⟨pos, fr, ws, nw, Awt, cwt, HGK, hp, hf, HW, hnw, rfl, rfl, wtw, of_wt_it, hit, bel⟩ := hrel
    have HGK_ := Lib.hid HGK
    clear HGK
    have wt := (owk_sle (by decide) stf_len wtw).1
    have fr_wt := (owk_sle (by decide) stf_len wtw).2
    have lz_wt := bel.size
    have wtlo := Nat.le_refl (w.heap.size)
    have av_wt_it := owk_av wtw of_wt_it
    have p0 : (0 : Int) ≤ pos := by omega
    have p1 : (pos : Int) ≤ 100000 := by omega
    have f0 : (0 : Int) ≤ fr := by omega
    have f1 : (fr : Int) ≤ pos := by omega
    by_cases hpl : pos < l.length
    · obtain ⟨r, k, c, hd, hc, hr, hk, hkl, hcase⟩ := rune_bl l pos hpl
      have HD := Lib.hid hd
      have HC := Lib.hid hc
      clear hd hc
      have r0 : (0 : Int) ≤ r := by omega
      have r1 : (r : Int) ≤ 1114111 := by omega
      rcases hcase with ⟨hb, hk1, hbc⟩ | ⟨hb, hbc, h35, hfree⟩
      · have HBL := Lib.hid hb
        have HBC := Lib.hid hbc
        clear hb hbc
        go_wp2_with (first | ((with_reducible show wpList _ _ _ (⟨some 9, _, _, _, _, _⟩ :: _) _ _); refine wpList_next_n rfl (.tmp 8) rfl g8 rfl (l) (pos) hit (r) (k) (HD.out) (hpl) ((pos : Int)) (rfl) ?_; intro w2 hq gr; replace wt := wt.away av_wt_it gr; replace wtw := owk_off wtw of_wt_it gr; replace lz_wt := Nat.le_trans lz_wt gr.size; replace bel := below_grown bel gr oit bel.size; clear hit; have hit := hq; clear hq gr))
        with_reducible refine (isBlank_any _ _).mono ?_
        rintro e _ ⟨rfl, rfl⟩
        rw [HBL.out]
        by_cases hu : fr < pos
        · have R23 := fun W => st_mid (l := l) (i := fr) (j := pos) (by omega) (by omega) W
          go_wp2_with (first | ((with_reducible show wpList _ _ _ (⟨some 24, _, _, _, _, _⟩ :: _) _ _); refine wpList_lit_n rfl 47 9 1 _ rfl #[.string ⟨((l.take pos).drop fr).toArray⟩] (.string ⟨#[]⟩) Try.underlying47 (by kernel_rfl) 1 (by kernel_rfl) (by decide) (by kernel_rfl) ?_; intro g24 w3 ge lt hh bb; have d_it_b24 := ne_new (hlt hit) ge; have av_wt_b24 := wt.av_new ge; have of_wt_b24 := owk_new wtw ge; have ob24 := Nat.le_trans bel.size ge; replace hit := blk_u hit bb; replace wt := wt.below bb; replace wtw := owk_under wtw bb; replace lz_wt := Nat.le_trans lz_wt bb.size; replace bel := bel.trans (bb.mono bel.size); have hb24 := hh; clear hh lt ge bb; have lt : Sle stf 1 w3 (some ⟨g24, 0, none⟩) (1) (1) ([(l.take pos).drop fr]) := sle_lit ([(l.take pos).drop fr]) (by decide) stf_len hb24 rfl (by simp [maxLen])) | ((with_reducible show wpList _ _ _ (⟨some 25, _, _, _, _, _⟩ :: _) _ _); refine wpList_append_sle rfl (.tmp 19) (.tmp 24) 47 rfl (w.heap.size) 9 is (.string ⟨#[]⟩) 16 Try.underlying47 his his0 his1 his2 rfl stf_one _ (nw) (ws) rfl wtw (some ⟨g24, 0, none⟩) (1) (1) ([(l.take pos).drop fr]) rfl lt (by unfold maxLen; omega) (by omega) lz_wt ?_; intro v25 w4 own_ bb gw ofw; have of25_it := ofw _ (hlt hit) of_wt_it; have of25_b24 := ofw _ (hlt hb24) of_wt_b24; clear ofw; clear lt; replace hit := blk_own hit gw of_wt_it; replace hb24 := blk_own hb24 gw of_wt_b24; clear gw; replace bel := bel.trans (bb.mono wtlo); have lz_wz := Nat.le_trans lz_wt bb.size; clear bb; clear wt wtw lz_wt; replace own_ : w4.ownsRow (w.heap.size) 9 1 v25 (nw + 1) ((ws ++ [(l.take pos).drop fr] : List (List UInt8)).flatMap stf) := own_; obtain ⟨A25, c25, rfl⟩ := owk_val own_; have wzw := own_; have wz := (owk_sle (by decide) stf_len own_).1; have fr_wz := (owk_sle (by decide) stf_len own_).2; clear own_; have av_wz_it := owk_av wzw of25_it; have av_wz_b24 := owk_av wzw of25_b24))
          try clear R23
          go_roundg (l.length + 1 - (pos + k))
          case measure => have := HGK_.out; omega
          case rel => exact ⟨pos + k, pos + 1, ws ++ [(l.take pos).drop fr], nw + 1, A25, c25, rfl, hkl, by omega, Lib.hid (by subst hk1; have h := words_blank HW.out HC.out HBC.out; rw [if_neg (piece_some hp hu)] at h; exact h), by omega, rfl, by go_num, wzw, of25_it, hit, bel⟩
        · have hu2 : decide (fr < pos) = false := decide_eq_false hu
          go_wp2_with fail
          go_roundg (l.length + 1 - (pos + k))
          case measure => have := HGK_.out; omega
          case rel => exact ⟨pos + k, pos + 1, ws, nw, Awt, cwt, rfl, hkl, by omega, Lib.hid (by subst hk1; have h := words_blank HW.out HC.out HBC.out; rw [if_pos (piece_nil hp hu)] at h; exact h), by omega, rfl, by go_num, wtw, of_wt_it, hit, bel⟩
      · have HBL := Lib.hid hb
        have HF := Lib.hid hfree
        clear hb hbc h35 hfree
        go_wp2_with (first | ((with_reducible show wpList _ _ _ (⟨some 9, _, _, _, _, _⟩ :: _) _ _); refine wpList_next_n rfl (.tmp 8) rfl g8 rfl (l) (pos) hit (r) (k) (HD.out) (hpl) ((pos : Int)) (rfl) ?_; intro w2 hq gr; replace wt := wt.away av_wt_it gr; replace wtw := owk_off wtw of_wt_it gr; replace lz_wt := Nat.le_trans lz_wt gr.size; replace bel := below_grown bel gr oit bel.size; clear hit; have hit := hq; clear hq gr))
        with_reducible refine (isBlank_any _ _).mono ?_
        rintro e _ ⟨rfl, rfl⟩
        rw [HBL.out]
        go_wp2_with fail
        go_roundg (l.length + 1 - (pos + k))
        case measure => have := HGK_.out; omega
        case rel => exact ⟨pos + k, fr, ws, nw, Awt, cwt, rfl, hkl, by omega, Lib.hid (words_skip HW.out hf hkl HF.out), by omega, rfl, by go_num, wtw, of_wt_it, hit, bel⟩
    · have hpe : pos = l.length := by omega
      subst hpe
      have HWE := Lib.hid (words_end HW.out)
      clear HW
      by_cases hu : fr < l.length
      · have HP : Hid (ws ++ [l.drop fr] = wordsL l) := Lib.hid (by have h := HWE.out; rw [if_neg (drop_some hu)] at h; exact h)
        have R9 := fun ty => next_end (P := Try.prog) ty hit (hpl)
        have R30 := fun W => st_len l 3 W
        have R35 := fun W => st_from (l := l) (i := fr) (by omega) W
        go_wp2_with (first | ((with_reducible show wpList _ _ _ (⟨some 36, _, _, _, _, _⟩ :: _) _ _); refine wpList_lit_n rfl 47 9 1 _ rfl #[.string ⟨(l.drop fr).toArray⟩] (.string ⟨#[]⟩) Try.underlying47 (by kernel_rfl) 1 (by kernel_rfl) (by decide) (by kernel_rfl) ?_; intro g36 w2 ge lt hh bb; have d_it_b36 := ne_new (hlt hit) ge; have av_wt_b36 := wt.av_new ge; have of_wt_b36 := owk_new wtw ge; have ob36 := Nat.le_trans bel.size ge; replace hit := blk_u hit bb; replace wt := wt.below bb; replace wtw := owk_under wtw bb; replace lz_wt := Nat.le_trans lz_wt bb.size; replace bel := bel.trans (bb.mono bel.size); have hb36 := hh; clear hh lt ge bb; have lu : Sle stf 1 w2 (some ⟨g36, 0, none⟩) (1) (1) ([l.drop fr]) := sle_lit ([l.drop fr]) (by decide) stf_len hb36 rfl (by simp [maxLen])) | ((with_reducible show wpList _ _ _ (⟨some 37, _, _, _, _, _⟩ :: _) _ _); refine wpList_append_sle rfl (.tmp 32) (.tmp 36) 47 rfl (w.heap.size) 9 is (.string ⟨#[]⟩) 16 Try.underlying47 his his0 his1 his2 rfl stf_one _ (nw) (ws) rfl wtw (some ⟨g36, 0, none⟩) (1) (1) ([l.drop fr]) rfl lu (by unfold maxLen; omega) (by omega) lz_wt ?_; intro v37 w3 own_ bb gw ofw; have of37_it := ofw _ (hlt hit) of_wt_it; have of37_b36 := ofw _ (hlt hb36) of_wt_b36; clear ofw; clear lu; replace hit := blk_own hit gw of_wt_it; replace hb36 := blk_own hb36 gw of_wt_b36; clear gw; replace bel := bel.trans (bb.mono wtlo); have lz_wy := Nat.le_trans lz_wt bb.size; clear bb; clear wt wtw lz_wt; replace own_ : w3.ownsRow (w.heap.size) 9 1 v37 (nw + 1) ((ws ++ [l.drop fr] : List (List UInt8)).flatMap stf) := own_; obtain ⟨A37, c37, rfl⟩ := owk_val own_; have wyw := own_; have wy := (owk_sle (by decide) stf_len own_).1; have fr_wy := (owk_sle (by decide) stf_len own_).2; clear own_; have av_wy_it := owk_av wyw of37_it; have av_wy_b36 := owk_av wyw of37_b36))
        try clear R9
        try clear R30
        try clear R35
        go_ret
        exact ⟨_, rfl, by rw [HP.out] at wyw; have hl := wy.1; rw [HP.out] at hl; rw [hl]; exact wyw, bel⟩
      · have hu2 : decide (fr < l.length) = false := decide_eq_false hu
        have HP : Hid (ws = wordsL l) := Lib.hid (by have h := HWE.out; rw [if_pos (drop_none hu)] at h; exact h)
        have R9 := fun ty => next_end (P := Try.prog) ty hit (hpl)
        have R30 := fun W => st_len l 3 W
        go_wp2_with fail
        clear R9 R30
        go_ret
        exact ⟨_, rfl, by rw [HP.out] at wtw; have hl := wt.1; rw [HP.out] at hl; rw [hl]; exact wtw, bel⟩
set_option linter.unusedVariables false in
set_option maxRecDepth 100000 in
set_option maxHeartbeats 16000000 in
theorem linesOf_any (l : List UInt8) (w : World) (hlen : l.length ≤ 100000) : Calls Try.prog 17 #[.string ⟨l.toArray⟩] w fun e w' => ∃ v, e = .returned v ∧ w'.ownsRow w.heap.size 9 1 v (linesL l).length ((linesL l).flatMap stf) ∧ Below w.heap.size w w' := by
  obtain ⟨is, his, his0, his1, his2⟩ := info_parts Try.info_str
  have bel := Below.refl w.heap.size w
  go_enter Try.func17, Try.ntmps17
  go_wp2_with (first | ((with_reducible show wpList _ _ _ (⟨some 8, _, _, _, _, _⟩ :: _) _ _); refine wpList_range_n rfl 9 (.tmp 7) rfl (by kernel_rfl) (l) rfl ?_; intro g8 w1 ge lt hh bb; have oit := Nat.le_trans bel.size ge; replace bel := bel.trans (bb.mono bel.size); have hit := hh; clear hh lt ge bb))
  simp only [sq4]
  go_loopg [3, 4] (l.length + 1) (fun gk s3 s4 wr => ∃ pos : Nat, ∃ fr : Nat, ∃ ws : List (List UInt8), ∃ nw : Nat, ∃ (Awt : Option Addr) (cwt : Nat), gk = l.length + 1 - pos ∧ Hid (CutInv 10 l pos fr ws) ∧ fr ≤ pos ∧ pos ≤ l.length ∧ nw ≤ pos ∧ s3 = .slice Awt nw cwt ∧ s4 = .int .i64 (fr : Int) ∧ wr.ownsRow (w.heap.size) 9 1 (.slice Awt (nw) cwt) (nw) ((ws : List (List UInt8)).flatMap stf) ∧ Ofs (.slice Awt (nw) cwt) g8 ∧ wr.heap[g8]? = some (.stringIter ⟨(l).toArray⟩ (pos)) ∧ Below w.heap.size w wr)
  case atStart => exact ⟨0, 0, [], 0, none, 0, rfl, Lib.hid (cutInv_start _ _), Nat.le_refl _, Nat.zero_le _, Nat.le_refl _, rfl, rfl, owk_nil _ _ _, (fun g h => by simp [Value.ownBlock] at h), hit, bel⟩
  case round =>
    clear hit bel
    obtain ⟨pos, fr, ws, nw, Awt, cwt, HGK, HI, hf, hp, hnw, rfl, rfl, wtw, of_wt_it, hit, bel⟩ := hrel
    have HGK_ := Lib.hid HGK
    clear HGK
    have wt := (owk_sle (by decide) stf_len wtw).1
    have fr_wt := (owk_sle (by decide) stf_len wtw).2
    have lz_wt := bel.size
    have wtlo := Nat.le_refl (w.heap.size)
    have av_wt_it := owk_av wtw of_wt_it
    have p0 : (0 : Int) ≤ pos := by omega
    have p1 : (pos : Int) ≤ 100000 := by omega
    have f0 : (0 : Int) ≤ fr := by omega
    have f1 : (fr : Int) ≤ pos := by omega
    by_cases hpl : pos < l.length
    · obtain ⟨r, k, hd, hr, hk, hkl, hcase⟩ := rune_sep 10 (by decide) l pos hpl
      rw [show (((10 : UInt8).toNat : Nat) : Int) = 10 from rfl] at hcase
      have HD := Lib.hid hd
      clear hd
      have r0 : (0 : Int) ≤ r := by omega
      have r1 : (r : Int) ≤ 1114111 := by omega
      rcases hcase with ⟨hq, hk1, hc⟩ | ⟨hq, hfree⟩
      · have HCC := Lib.hid hc
        clear hc
        go_wp2_with (first | ((with_reducible show wpList _ _ _ (⟨some 9, _, _, _, _, _⟩ :: _) _ _); refine wpList_next_n rfl (.tmp 8) rfl g8 rfl (l) (pos) hit (r) (k) (HD.out) (hpl) ((pos : Int)) (rfl) ?_; intro w2 hq gr; replace wt := wt.away av_wt_it gr; replace wtw := owk_off wtw of_wt_it gr; replace lz_wt := Nat.le_trans lz_wt gr.size; replace bel := below_grown bel gr oit bel.size; clear hit; have hit := hq; clear hq gr; have R19 := fun W => st_mid (l := l) (i := fr) (j := pos) (by omega) (by omega) W) | ((with_reducible show wpList _ _ _ (⟨some 20, _, _, _, _, _⟩ :: _) _ _); refine wpList_lit_n rfl 47 9 1 _ rfl #[.string ⟨((l.take pos).drop fr).toArray⟩] (.string ⟨#[]⟩) Try.underlying47 (by kernel_rfl) 1 (by kernel_rfl) (by decide) (by kernel_rfl) ?_; intro g20 w3 ge lt hh bb; have d_it_b20 := ne_new (hlt hit) ge; have av_wt_b20 := wt.av_new ge; have of_wt_b20 := owk_new wtw ge; have ob20 := Nat.le_trans bel.size ge; replace hit := blk_u hit bb; replace wt := wt.below bb; replace wtw := owk_under wtw bb; replace lz_wt := Nat.le_trans lz_wt bb.size; replace bel := bel.trans (bb.mono bel.size); have hb20 := hh; clear hh lt ge bb; have lt : Sle stf 1 w3 (some ⟨g20, 0, none⟩) (1) (1) ([(l.take pos).drop fr]) := sle_lit ([(l.take pos).drop fr]) (by decide) stf_len hb20 rfl (by simp [maxLen])) | ((with_reducible show wpList _ _ _ (⟨some 21, _, _, _, _, _⟩ :: _) _ _); refine wpList_append_sle rfl (.tmp 15) (.tmp 20) 47 rfl (w.heap.size) 9 is (.string ⟨#[]⟩) 16 Try.underlying47 his his0 his1 his2 rfl stf_one _ (nw) (ws) rfl wtw (some ⟨g20, 0, none⟩) (1) (1) ([(l.take pos).drop fr]) rfl lt (by unfold maxLen; omega) (by omega) lz_wt ?_; intro v21 w4 own_ bb gw ofw; have of21_it := ofw _ (hlt hit) of_wt_it; have of21_b20 := ofw _ (hlt hb20) of_wt_b20; clear ofw; clear lt; replace hit := blk_own hit gw of_wt_it; replace hb20 := blk_own hb20 gw of_wt_b20; clear gw; replace bel := bel.trans (bb.mono wtlo); have lz_wz := Nat.le_trans lz_wt bb.size; clear bb; clear wt wtw lz_wt; replace own_ : w4.ownsRow (w.heap.size) 9 1 v21 (nw + 1) ((ws ++ [(l.take pos).drop fr] : List (List UInt8)).flatMap stf) := own_; obtain ⟨A21, c21, rfl⟩ := owk_val own_; have wzw := own_; have wz := (owk_sle (by decide) stf_len own_).1; have fr_wz := (owk_sle (by decide) stf_len own_).2; clear own_; have av_wz_it := owk_av wzw of21_it; have av_wz_b20 := owk_av wzw of21_b20))
        try clear R19
        go_roundg (l.length + 1 - (pos + k))
        case measure => have := HGK_.out; omega
        case rel => exact ⟨pos + k, pos + 1, ws ++ [(l.take pos).drop fr], nw + 1, A21, c21, rfl, Lib.hid (by subst hk1; exact cutInv_sep HI.out HCC.out), by omega, hkl, by omega, rfl, by go_num, wzw, of21_it, hit, bel⟩
      · have HF := Lib.hid hfree
        clear hfree
        go_wp2_with (first | ((with_reducible show wpList _ _ _ (⟨some 9, _, _, _, _, _⟩ :: _) _ _); refine wpList_next_n rfl (.tmp 8) rfl g8 rfl (l) (pos) hit (r) (k) (HD.out) (hpl) ((pos : Int)) (rfl) ?_; intro w2 hq gr; replace wt := wt.away av_wt_it gr; replace wtw := owk_off wtw of_wt_it gr; replace lz_wt := Nat.le_trans lz_wt gr.size; replace bel := below_grown bel gr oit bel.size; clear hit; have hit := hq; clear hq gr))
        go_roundg (l.length + 1 - (pos + k))
        case measure => have := HGK_.out; omega
        case rel => exact ⟨pos + k, fr, ws, nw, Awt, cwt, rfl, Lib.hid (cutInv_skip HI.out k hkl (free_get hkl HF.out)), by omega, hkl, by omega, rfl, by go_num, wtw, of_wt_it, hit, bel⟩
    · have hpe : pos = l.length := by omega
      subst hpe
      have HLE := Lib.hid (lines_of (cutInv_end HI.out) (by omega))
      clear HI
      by_cases hu : fr < l.length
      · have HP : Hid (linesL l = ws ++ [l.drop fr]) := Lib.hid (by rw [HLE.out, if_pos hu])
        have R9 := fun ty => next_end (P := Try.prog) ty hit (hpl)
        have R26 := fun W => st_len l 3 W
        have R31 := fun W => st_from (l := l) (i := fr) (by omega) W
        go_wp2_with (first | ((with_reducible show wpList _ _ _ (⟨some 32, _, _, _, _, _⟩ :: _) _ _); refine wpList_lit_n rfl 47 9 1 _ rfl #[.string ⟨(l.drop fr).toArray⟩] (.string ⟨#[]⟩) Try.underlying47 (by kernel_rfl) 1 (by kernel_rfl) (by decide) (by kernel_rfl) ?_; intro g32 w2 ge lt hh bb; have d_it_b32 := ne_new (hlt hit) ge; have av_wt_b32 := wt.av_new ge; have of_wt_b32 := owk_new wtw ge; have ob32 := Nat.le_trans bel.size ge; replace hit := blk_u hit bb; replace wt := wt.below bb; replace wtw := owk_under wtw bb; replace lz_wt := Nat.le_trans lz_wt bb.size; replace bel := bel.trans (bb.mono bel.size); have hb32 := hh; clear hh lt ge bb; have lu : Sle stf 1 w2 (some ⟨g32, 0, none⟩) (1) (1) ([l.drop fr]) := sle_lit ([l.drop fr]) (by decide) stf_len hb32 rfl (by simp [maxLen])) | ((with_reducible show wpList _ _ _ (⟨some 33, _, _, _, _, _⟩ :: _) _ _); refine wpList_append_sle rfl (.tmp 28) (.tmp 32) 47 rfl (w.heap.size) 9 is (.string ⟨#[]⟩) 16 Try.underlying47 his his0 his1 his2 rfl stf_one _ (nw) (ws) rfl wtw (some ⟨g32, 0, none⟩) (1) (1) ([l.drop fr]) rfl lu (by unfold maxLen; omega) (by omega) lz_wt ?_; intro v33 w3 own_ bb gw ofw; have of33_it := ofw _ (hlt hit) of_wt_it; have of33_b32 := ofw _ (hlt hb32) of_wt_b32; clear ofw; clear lu; replace hit := blk_own hit gw of_wt_it; replace hb32 := blk_own hb32 gw of_wt_b32; clear gw; replace bel := bel.trans (bb.mono wtlo); have lz_wy := Nat.le_trans lz_wt bb.size; clear bb; clear wt wtw lz_wt; replace own_ : w3.ownsRow (w.heap.size) 9 1 v33 (nw + 1) ((ws ++ [l.drop fr] : List (List UInt8)).flatMap stf) := own_; obtain ⟨A33, c33, rfl⟩ := owk_val own_; have wyw := own_; have wy := (owk_sle (by decide) stf_len own_).1; have fr_wy := (owk_sle (by decide) stf_len own_).2; clear own_; have av_wy_it := owk_av wyw of33_it; have av_wy_b32 := owk_av wyw of33_b32))
        try clear R9
        try clear R26
        try clear R31
        go_ret
        exact ⟨_, rfl, by rw [← HP.out] at wyw; have hl := wy.1; rw [← HP.out] at hl; rw [hl]; exact wyw, bel⟩
      · have hu2 : decide (fr < l.length) = false := decide_eq_false hu
        have HP : Hid (linesL l = ws) := Lib.hid (by rw [HLE.out, if_neg hu])
        have R9 := fun ty => next_end (P := Try.prog) ty hit (hpl)
        have R26 := fun W => st_len l 3 W
        go_wp2_with fail
        clear R9 R26
        go_ret
        exact ⟨_, rfl, by rw [← HP.out] at wtw; have hl := wt.1; rw [← HP.out] at hl; rw [hl]; exact wtw, bel⟩
end Go.Proofs.Ytdfobilagidmfaa
