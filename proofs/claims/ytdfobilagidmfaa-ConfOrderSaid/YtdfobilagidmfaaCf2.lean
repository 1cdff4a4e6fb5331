/- The reference's Words, Lines. -/
import Derived.Test.YtdfobilagidmfaaCf1
import Derived.Test.YtdfobilagidmfaaRef3
namespace Go.Proofs.Ytdfobilagidmfaa
open Go.RowKit

/-- The words of a text: 'wordsGo rest word'. -/
def wordsGo : List UInt8 → List UInt8 → List (List UInt8)
  | [], u => if u = [] then [] else [u]
  | c :: t, u => if isBl c = true then (if u = [] then wordsGo t [] else u :: wordsGo t []) else wordsGo t (u ++ [c])
def wordsL (l : List UInt8) : List (List UInt8) := wordsGo l []
theorem isBl_no {c : UInt8} (b1 : (c == 32) = false) (b2 : (c == 9) = false) : ¬ isBl c = true := by unfold isBl; rw [b1, b2]; decide
theorem words_more {l ws : List (List UInt8)} {t u : List UInt8} {k : Nat} {c : UInt8} (h : ws ++ wordsGo (t.drop k) u = l) (hc : t[k]? = some c) (hb : ¬ isBl c = true) : ws ++ wordsGo (t.drop (k + 1)) (u ++ [c]) = l := by
  obtain ⟨hk, hx⟩ := List.getElem?_eq_some_iff.1 hc
  rw [List.drop_eq_getElem_cons hk, hx, wordsGo, if_neg hb] at h
  exact h
theorem words_cut {l ws : List (List UInt8)} {t u : List UInt8} {k : Nat} (h : ws ++ wordsGo (t.drop k) u = l) (hb : k = t.length ∨ ∃ c, t[k]? = some c ∧ isBl c = true) : (if u = [] then ws else ws ++ [u]) ++ wordsGo (t.drop (k + 1)) [] = l := by
  rcases hb with rfl | ⟨c, hc, hb⟩
  · rw [List.drop_eq_nil_of_le (Nat.le_refl _), wordsGo] at h
    rw [List.drop_eq_nil_of_le (by omega), wordsGo, if_pos rfl, List.append_nil, ← h]
    split
    · simp
    · rfl
  · obtain ⟨hk, hx⟩ := List.getElem?_eq_some_iff.1 hc
    rw [List.drop_eq_getElem_cons hk, hx, wordsGo, if_pos hb] at h
    rw [← h]
    split
    · rfl
    · rw [List.append_assoc]; rfl
theorem isBl_32 {c : UInt8} (b1 : (c == 32) = true) : isBl c = true := by unfold isBl; rw [b1]; rfl
theorem isBl_9 {c : UInt8} (b1 : (c == 32) = false) (b2 : (c == 9) = true) : isBl c = true := by unfold isBl; rw [b1, b2]; rfl
theorem u8_eq {c : UInt8} {n : Nat} (hn : n < 256) (b : (c == UInt8.ofNat n) = true) : ((c.toNat : Int) == (n : Int)) = true := by
  have := eq_of_beq b
  subst this
  simp
  omega
theorem u8_ne {c : UInt8} {n : Nat} (hn : n < 256) (b : (c == UInt8.ofNat n) = false) : ((c.toNat : Int) == (n : Int)) = false ∧ ((c.toNat : Int) != (n : Int)) = true := by
  have h : ((c.toNat : Int) == (n : Int)) = false := by
    simp only [beq_eq_false_iff_ne, ne_eq] at b ⊢
    intro h
    apply b
    apply UInt8.toNat_inj.1
    rw [UInt8.toNat_ofNat']
    omega
  exact ⟨h, by rw [bne, h]; rfl⟩
set_option linter.unusedVariables false in
set_option maxRecDepth 100000 in
set_option maxHeartbeats 16000000 in
theorem words_any (l : List UInt8) (w : World) (hlen : l.length ≤ 100000) : Calls Try.prog 48 #[.string ⟨l.toArray⟩] w fun e w' => ∃ v, e = .returned v ∧ w'.ownsRow w.heap.size 9 1 v (wordsL l).length ((wordsL l).flatMap stf) ∧ Below w.heap.size w w' := by
  obtain ⟨is, his, his0, his1, his2⟩ := info_parts Try.info_str
  have bel := Below.refl w.heap.size w
  go_enter Try.func48, Try.ntmps48
  go_wp2_with fail
  go_loopg [3, 4, 5] (l.length + 2) (fun gk s3 s4 s5 wr => ∃ k : Nat, ∃ ws : List (List UInt8), ∃ u : List UInt8, ∃ nw : Nat, ∃ (Awt : Option Addr) (cwt : Nat), gk = l.length + 2 - k ∧ k ≤ l.length + 1 ∧ Hid (ws ++ wordsGo (l.drop k) u = wordsL l) ∧ (k = l.length + 1 → u = []) ∧ u.length ≤ k ∧ nw ≤ k ∧ s3 = .slice Awt nw cwt ∧ s4 = .string ⟨(u).toArray⟩ ∧ s5 = .int .i64 (k : Int) ∧ wr.ownsRow (w.heap.size) 9 1 (.slice Awt (nw) cwt) (nw) ((ws : List (List UInt8)).flatMap stf) ∧ Below w.heap.size w wr)
  case atStart => exact ⟨0, [], [], 0, none, 0, rfl, by omega, Lib.hid rfl, fun h => absurd h (by omega), Nat.le_refl _, Nat.le_refl _, rfl, rfl, rfl, owk_nil _ _ _, bel⟩
  case round =>
    clear bel
    obtain ⟨k, ws, u, nw, Awt, cwt, HGK, hk, HW, he, hul, hnw, rfl, rfl, rfl, wtw, bel⟩ := hrel
    have HGK_ := Lib.hid HGK
    clear HGK
    have wt := (owk_sle (by decide) stf_len wtw).1
    have fr_wt := (owk_sle (by decide) stf_len wtw).2
    have lz_wt := bel.size
    have wtlo := Nat.le_refl (w.heap.size)
    have k0 : (0 : Int) ≤ k := by omega
    have hw0 : (0 : Int) ≤ nw := by omega
    have k2 : (k : Int) ≤ 100001 := by omega
    by_cases h1 : k ≤ l.length
    · have k1 : k ≤ l.length := h1
      by_cases h2 : k < l.length
      · obtain ⟨c, hx⟩ : ∃ c, l[k]? = some c := ⟨_, List.getElem?_eq_getElem h2⟩
        have HX := Lib.hid hx
        clear hx
        have v0 : (0 : Int) ≤ c.toNat := by omega
        have v1 : (c.toNat : Int) < 256 := by have := c.toNat_lt; omega
        rcases (by decide : ∀ b : Bool, b = true ∨ b = false) (c == 32) with b1 | b1
        · have e1 : ((c.toNat : Int) == 32) = true := u8_eq (n := 32) (by decide) b1
          have e2 : ((c.toNat : Int) != 32) = false := by rw [bne, e1]; rfl
          by_cases hu : u = []
          · have e9 : (u == []) = true := by rw [hu]; rfl
            have R19 := fun W => st_index HX.out W
            go_wp2_with fail
            clear R19
            go_roundg (l.length + 2 - (k + 1))
            case measure => have := HGK_.out; omega
            case rel => exact ⟨k + 1, ws, [], nw, Awt, cwt, rfl, by omega, Lib.hid (by have h := words_cut HW.out (.inr ⟨c, HX.out, isBl_32 b1⟩); rw [if_pos hu] at h; exact h), fun _ => rfl, by simp, by omega, rfl, by go_num, by go_num, wtw, bel⟩
          · have e9 : (u == []) = false := by simpa using hu
            have R19 := fun W => st_index HX.out W
            go_wp2_with (first | ((with_reducible show wpList _ _ _ (⟨some 39, _, _, _, _, _⟩ :: _) _ _); refine wpList_lit_n rfl 47 9 1 _ rfl #[.string ⟨(u).toArray⟩] (.string ⟨#[]⟩) Try.underlying47 (by kernel_rfl) 1 (by kernel_rfl) (by decide) (by kernel_rfl) ?_; intro g39 w1 ge lt hh bb; have av_wt_b39 := wt.av_new ge; have of_wt_b39 := owk_new wtw ge; have ob39 := Nat.le_trans bel.size ge; replace wt := wt.below bb; replace wtw := owk_under wtw bb; replace lz_wt := Nat.le_trans lz_wt bb.size; replace bel := bel.trans (bb.mono bel.size); have hb39 := hh; clear hh lt ge bb; have lt : Sle stf 1 w1 (some ⟨g39, 0, none⟩) (1) (1) ([u]) := sle_lit ([u]) (by decide) stf_len hb39 rfl (by simp [maxLen])) | ((with_reducible show wpList _ _ _ (⟨some 40, _, _, _, _, _⟩ :: _) _ _); refine wpList_append_sle rfl (.tmp 37) (.tmp 39) 47 rfl (w.heap.size) 9 is (.string ⟨#[]⟩) 16 Try.underlying47 his his0 his1 his2 rfl stf_one _ (nw) (ws) rfl wtw (some ⟨g39, 0, none⟩) (1) (1) ([u]) rfl lt (by unfold maxLen; omega) (by omega) lz_wt ?_; intro v40 w2 own_ bb gw ofw; have of40_b39 := ofw _ (hlt hb39) of_wt_b39; clear ofw; clear lt; replace hb39 := blk_own hb39 gw of_wt_b39; clear gw; replace bel := bel.trans (bb.mono wtlo); have lz_wz := Nat.le_trans lz_wt bb.size; clear bb; clear wt wtw lz_wt; replace own_ : w2.ownsRow (w.heap.size) 9 1 v40 (nw + 1) ((ws ++ [u] : List (List UInt8)).flatMap stf) := own_; obtain ⟨A40, c40, rfl⟩ := owk_val own_; have wzw := own_; have wz := (owk_sle (by decide) stf_len own_).1; have fr_wz := (owk_sle (by decide) stf_len own_).2; clear own_; have av_wz_b39 := owk_av wzw of40_b39))
            try clear R19
            go_roundg (l.length + 2 - (k + 1))
            case measure => have := HGK_.out; omega
            case rel => exact ⟨k + 1, ws ++ [u], [], nw + 1, A40, c40, rfl, by omega, Lib.hid (by have h := words_cut HW.out (.inr ⟨c, HX.out, isBl_32 b1⟩); rw [if_neg hu] at h; exact h), fun _ => rfl, by simp, by omega, rfl, by go_num, by go_num, wzw, bel⟩
        · obtain ⟨e1, e2⟩ := u8_ne (n := 32) (by decide) b1
          replace e1 : ((c.toNat : Int) == 32) = false := e1
          replace e2 : ((c.toNat : Int) != 32) = true := e2
          rcases (by decide : ∀ b : Bool, b = true ∨ b = false) (c == 9) with b2 | b2
          · have e3 : ((c.toNat : Int) == 9) = true := u8_eq (n := 9) (by decide) b2
            have e4 : ((c.toNat : Int) != 9) = false := by rw [bne, e3]; rfl
            by_cases hu : u = []
            · have e9 : (u == []) = true := by rw [hu]; rfl
              have R19 := fun W => st_index HX.out W
              have R25 := fun W => st_index HX.out W
              go_wp2_with fail
              clear R19 R25
              go_roundg (l.length + 2 - (k + 1))
              case measure => have := HGK_.out; omega
              case rel => exact ⟨k + 1, ws, [], nw, Awt, cwt, rfl, by omega, Lib.hid (by have h := words_cut HW.out (.inr ⟨c, HX.out, isBl_9 b1 b2⟩); rw [if_pos hu] at h; exact h), fun _ => rfl, by simp, by omega, rfl, by go_num, by go_num, wtw, bel⟩
            · have e9 : (u == []) = false := by simpa using hu
              have R19 := fun W => st_index HX.out W
              have R25 := fun W => st_index HX.out W
              go_wp2_with (first | ((with_reducible show wpList _ _ _ (⟨some 39, _, _, _, _, _⟩ :: _) _ _); refine wpList_lit_n rfl 47 9 1 _ rfl #[.string ⟨(u).toArray⟩] (.string ⟨#[]⟩) Try.underlying47 (by kernel_rfl) 1 (by kernel_rfl) (by decide) (by kernel_rfl) ?_; intro g39 w1 ge lt hh bb; have av_wt_b39 := wt.av_new ge; have of_wt_b39 := owk_new wtw ge; have ob39 := Nat.le_trans bel.size ge; replace wt := wt.below bb; replace wtw := owk_under wtw bb; replace lz_wt := Nat.le_trans lz_wt bb.size; replace bel := bel.trans (bb.mono bel.size); have hb39 := hh; clear hh lt ge bb; have lt : Sle stf 1 w1 (some ⟨g39, 0, none⟩) (1) (1) ([u]) := sle_lit ([u]) (by decide) stf_len hb39 rfl (by simp [maxLen])) | ((with_reducible show wpList _ _ _ (⟨some 40, _, _, _, _, _⟩ :: _) _ _); refine wpList_append_sle rfl (.tmp 37) (.tmp 39) 47 rfl (w.heap.size) 9 is (.string ⟨#[]⟩) 16 Try.underlying47 his his0 his1 his2 rfl stf_one _ (nw) (ws) rfl wtw (some ⟨g39, 0, none⟩) (1) (1) ([u]) rfl lt (by unfold maxLen; omega) (by omega) lz_wt ?_; intro v40 w2 own_ bb gw ofw; have of40_b39 := ofw _ (hlt hb39) of_wt_b39; clear ofw; clear lt; replace hb39 := blk_own hb39 gw of_wt_b39; clear gw; replace bel := bel.trans (bb.mono wtlo); have lz_wz := Nat.le_trans lz_wt bb.size; clear bb; clear wt wtw lz_wt; replace own_ : w2.ownsRow (w.heap.size) 9 1 v40 (nw + 1) ((ws ++ [u] : List (List UInt8)).flatMap stf) := own_; obtain ⟨A40, c40, rfl⟩ := owk_val own_; have wzw := own_; have wz := (owk_sle (by decide) stf_len own_).1; have fr_wz := (owk_sle (by decide) stf_len own_).2; clear own_; have av_wz_b39 := owk_av wzw of40_b39))
              try clear R19
              try clear R25
              go_roundg (l.length + 2 - (k + 1))
              case measure => have := HGK_.out; omega
              case rel => exact ⟨k + 1, ws ++ [u], [], nw + 1, A40, c40, rfl, by omega, Lib.hid (by have h := words_cut HW.out (.inr ⟨c, HX.out, isBl_9 b1 b2⟩); rw [if_neg hu] at h; exact h), fun _ => rfl, by simp, by omega, rfl, by go_num, by go_num, wzw, bel⟩
          · obtain ⟨e3, e4⟩ := u8_ne (n := 9) (by decide) b2
            replace e3 : ((c.toNat : Int) == 9) = false := e3
            replace e4 : ((c.toNat : Int) != 9) = true := e4
            have R19 := fun W => st_index HX.out W
            have R25 := fun W => st_index HX.out W
            have R33 := fun W => st_one HX.out W
            have R34 := fun W => st_add (x := u) (y := [c]) (by simp only [List.length_cons, List.length_nil]; omega) W
            go_wp2_with fail
            clear R19 R25 R33 R34
            go_roundg (l.length + 2 - (k + 1))
            case measure => have := HGK_.out; omega
            case rel => exact ⟨k + 1, ws, u ++ [c], nw, Awt, cwt, rfl, by omega, Lib.hid (words_more HW.out HX.out (isBl_no b1 b2)), fun h => absurd h (by omega), by simp; omega, by omega, rfl, by simp, by go_num, wtw, bel⟩
      · have hkl : k = l.length := by omega
        have h3 : decide (k < l.length) = false := decide_eq_false h2
        have HKL := Lib.hid hkl
        clear hkl
        by_cases hu : u = []
        · have e9 : (u == []) = true := by rw [hu]; rfl
          go_wp2_with fail
          go_roundg (l.length + 2 - (k + 1))
          case measure => have := HGK_.out; omega
          case rel => exact ⟨k + 1, ws, [], nw, Awt, cwt, rfl, by omega, Lib.hid (by have h := words_cut HW.out (.inl HKL.out); rw [if_pos hu] at h; exact h), fun _ => rfl, by simp, by omega, rfl, by go_num, by go_num, wtw, bel⟩
        · have e9 : (u == []) = false := by simpa using hu
          go_wp2_with (first | ((with_reducible show wpList _ _ _ (⟨some 39, _, _, _, _, _⟩ :: _) _ _); refine wpList_lit_n rfl 47 9 1 _ rfl #[.string ⟨(u).toArray⟩] (.string ⟨#[]⟩) Try.underlying47 (by kernel_rfl) 1 (by kernel_rfl) (by decide) (by kernel_rfl) ?_; intro g39 w1 ge lt hh bb; have av_wt_b39 := wt.av_new ge; have of_wt_b39 := owk_new wtw ge; have ob39 := Nat.le_trans bel.size ge; replace wt := wt.below bb; replace wtw := owk_under wtw bb; replace lz_wt := Nat.le_trans lz_wt bb.size; replace bel := bel.trans (bb.mono bel.size); have hb39 := hh; clear hh lt ge bb; have lt : Sle stf 1 w1 (some ⟨g39, 0, none⟩) (1) (1) ([u]) := sle_lit ([u]) (by decide) stf_len hb39 rfl (by simp [maxLen])) | ((with_reducible show wpList _ _ _ (⟨some 40, _, _, _, _, _⟩ :: _) _ _); refine wpList_append_sle rfl (.tmp 37) (.tmp 39) 47 rfl (w.heap.size) 9 is (.string ⟨#[]⟩) 16 Try.underlying47 his his0 his1 his2 rfl stf_one _ (nw) (ws) rfl wtw (some ⟨g39, 0, none⟩) (1) (1) ([u]) rfl lt (by unfold maxLen; omega) (by omega) lz_wt ?_; intro v40 w2 own_ bb gw ofw; have of40_b39 := ofw _ (hlt hb39) of_wt_b39; clear ofw; clear lt; replace hb39 := blk_own hb39 gw of_wt_b39; clear gw; replace bel := bel.trans (bb.mono wtlo); have lz_wz := Nat.le_trans lz_wt bb.size; clear bb; clear wt wtw lz_wt; replace own_ : w2.ownsRow (w.heap.size) 9 1 v40 (nw + 1) ((ws ++ [u] : List (List UInt8)).flatMap stf) := own_; obtain ⟨A40, c40, rfl⟩ := owk_val own_; have wzw := own_; have wz := (owk_sle (by decide) stf_len own_).1; have fr_wz := (owk_sle (by decide) stf_len own_).2; clear own_; have av_wz_b39 := owk_av wzw of40_b39))
          go_roundg (l.length + 2 - (k + 1))
          case measure => have := HGK_.out; omega
          case rel => exact ⟨k + 1, ws ++ [u], [], nw + 1, A40, c40, rfl, by omega, Lib.hid (by have h := words_cut HW.out (.inl HKL.out); rw [if_neg hu] at h; exact h), fun _ => rfl, by simp, by omega, rfl, by go_num, by go_num, wzw, bel⟩
    · have k1 : decide (k ≤ l.length) = false := decide_eq_false h1
      obtain rfl := he (by omega)
      have HP : Hid (ws = wordsL l) := Lib.hid (by have h := HW.out; rw [List.drop_eq_nil_of_le (by omega), wordsGo, if_pos rfl, List.append_nil] at h; exact h)
      go_wp2_with fail
      go_ret
      exact ⟨_, rfl, by rw [HP.out] at wtw; have hl := wt.1; rw [HP.out] at hl; rw [hl]; exact wtw, bel⟩
/-- The lines of a text. -/
def linesL (l : List UInt8) : List (List UInt8) := if (cutF 10 l).getLast? = some [] then (cutF 10 l).dropLast else cutF 10 l
theorem cut_st (b : UInt8) (B : Int) (l : List UInt8) (w : World) (hb : (b.toNat : Int) = B) (hl : l.length ≤ 100000) :
    Calls Try.prog 43 #[.string ⟨l.toArray⟩, .int .u8 B] w fun e w' => ∃ v, e = .returned v ∧ w'.ownsRow w.heap.size 9 1 v (cutF b l).length ((cutF b l).flatMap stf) ∧ Below w.heap.size w w' := by
  subst hb
  refine (cut_big ⟨l.toArray⟩ b w (by rw [st_size]; exact hl)).mono ?_
  rintro e w' ⟨v, rfl, h, bel⟩
  exact ⟨v, rfl, by rw [stf_flat]; exact h, bel⟩
theorem lines_len (l : List UInt8) : (linesL l).length ≤ l.length + 1 := by
  have := cutF_len 10 l
  unfold linesL
  split
  · rw [List.length_dropLast]; omega
  · exact this
theorem lines_take {l : List UInt8} {cs : List (List UInt8)} {q : List UInt8} {m : Nat} (hc : cutF 10 l = cs) (hm : cs.length = m + 1) (hx : cs[m]? = some q) : linesL l = if q = [] then cs.take m else cs := by
  subst hc
  have e1 : (cutF 10 l).getLast? = some q := by rw [List.getLast?_eq_getElem?, hm]; exact hx
  unfold linesL
  rw [e1]
  by_cases hq : q = []
  · rw [if_pos (by rw [hq]), if_pos hq, List.dropLast_eq_take, hm]
    rfl
  · rw [if_neg (by simpa using hq), if_neg hq]
set_option linter.unusedVariables false in
set_option maxRecDepth 100000 in
set_option maxHeartbeats 16000000 in
theorem lines_any (l : List UInt8) (w : World) (hlen : l.length ≤ 100000) : Calls Try.prog 20 #[.string ⟨l.toArray⟩] w fun e w' => ∃ A c, e = .returned (.slice A (linesL l).length c) ∧ Sle stf 1 w' A (linesL l).length c (linesL l) ∧ Fr w.heap.size A (linesL l).length ∧ Below w.heap.size w w' := by
  have bel := Below.refl w.heap.size w
  go_enter Try.func20, Try.ntmps20
  go_wp2_with fail
  with_reducible refine (cut_st 10 10 l _ rfl hlen).mono ?_
  rintro e w1 ⟨v, rfl, csw, b1⟩
  have cslo := bel.size
  have lz_cs := b1.size
  replace bel := bel.trans (b1.mono bel.size)
  clear b1
  obtain ⟨Acs, ccs, rfl⟩ := owk_val csw
  have cs := (owk_sle (by decide) stf_len csw).1
  have fr_cs := (owk_sle (by decide) stf_len csw).2
  obtain ⟨ls, hls⟩ : ∃ ls, cutF 10 l = ls := ⟨_, rfl⟩
  rw [hls] at cs csw fr_cs
  obtain ⟨n, hn⟩ : ∃ n, ls.length = n := ⟨_, rfl⟩
  rw [hn] at cs csw fr_cs
  have hn2 : n ≤ 100001 := by have := cutF_len 10 l; rw [hls] at this; omega
  have hnz : 0 < n := by have := cutF_ne 10 l; rw [hls] at this; rw [← hn]; exact List.length_pos_iff.2 this
  rw [hls, hn]
  obtain ⟨g, o, hA⟩ := cs.place hnz
  subst hA
  obtain ⟨m, hm⟩ : ∃ m, n = m + 1 := ⟨n - 1, by omega⟩
  obtain ⟨q, hq⟩ : ∃ q, ls[m]? = some q := ⟨_, List.getElem?_eq_getElem (by omega)⟩
  have HL : Hid (linesL l = if q = [] then ls.take m else ls) := Lib.hid (lines_take hls (by omega) hq)
  have HQ := Lib.hid hq
  have HN := Lib.hid hn
  have HM := Lib.hid hm
  have m0 : (0 : Int) ≤ m := by omega
  have m1 : (m : Int) ≤ 100000 := by omega
  have nm : (n : Int) - 1 = m := by omega
  have hmn : (m : Int) < n := by omega
  clear hls hn hm hq hnz hn2
  by_cases hq : q = []
  · have e9 : (q == []) = true := by rw [hq]; rfl
    have HP : Hid (linesL l = ls.take m) := Lib.hid (by rw [HL.out, if_pos hq])
    obtain ⟨A17, c17, r17, f17, u17⟩ := st_front cs (k := m) (by have := HM.out; omega)
    have pc := f17 _ cs
    have fpc : Fr w.heap.size A17 m := fun h0 => by obtain ⟨g2, o2, e2⟩ := pc.place h0; obtain ⟨h3, h4⟩ := u17 h0; obtain ⟨o3, p3, e3⟩ := h4 _ _ _ e2; obtain ⟨a4, o4, e4, h5⟩ := fr_cs h3; rw [e4] at e3; injection e3 with e3; injection e3 with e5 e6; subst e5; exact ⟨_, _, e2, h5⟩
    clear f17 u17
    have R11 := Sle.st (i := m) cs HQ.out
    go_wp2_with fail
    clear R11
    go_ret
    exact ⟨A17, c17, by rw [HP.out, List.length_take, Nat.min_eq_left (by have := HM.out; have := HN.out; omega)]; rfl, by rw [HP.out, List.length_take, Nat.min_eq_left (by have := HM.out; have := HN.out; omega)]; exact pc, by rw [HP.out, List.length_take, Nat.min_eq_left (by have := HM.out; have := HN.out; omega)]; exact fpc, bel⟩
  · have e9 : (q == []) = false := by simpa using hq
    have HP : Hid (linesL l = ls) := Lib.hid (by rw [HL.out, if_neg hq])
    have R11 := Sle.st (i := m) cs HQ.out
    go_wp2_with fail
    clear R11
    go_ret
    exact ⟨_, _, by rw [HP.out, HN.out]; rfl, by rw [HP.out, HN.out]; exact cs, by rw [HP.out, HN.out]; exact fr_cs, bel⟩
end Go.Proofs.Ytdfobilagidmfaa
