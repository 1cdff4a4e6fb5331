/- Facts on lines: a text of lines, run line by line. No program. -/
import Derived.Test.YtdfobilagidmfaaCga
namespace Go.Proofs.Ytdfobilagidmfaa
open Go.RowKit

theorem cutStep_pre (b : UInt8) (ls m : List (List UInt8)) (c : UInt8) (hm : m ≠ []) : cutStep b (ls ++ m) c = ls ++ cutStep b m c := by
  obtain ⟨q, x, rfl⟩ : ∃ q x, m = q ++ [x] := by
    rcases List.eq_nil_or_concat m with h | ⟨q, x, h⟩
    · exact absurd h hm
    · exact ⟨q, x, by rw [h, List.concat_eq_append]⟩
  unfold cutStep
  split
  · simp
  · rw [← List.append_assoc, List.dropLast_concat, List.dropLast_concat]
    simp
theorem fold_pre (b : UInt8) : ∀ (r : List UInt8) (ls m : List (List UInt8)), m ≠ [] → r.foldl (cutStep b) (ls ++ m) = ls ++ r.foldl (cutStep b) m
  | [], _, _, _ => rfl
  | c :: r, ls, m, hm => by
    rw [List.foldl_cons, cutStep_pre b ls m c hm, List.foldl_cons]
    exact fold_pre b r ls _ (cutStep_ne b m c)
theorem cutF_cons (b : UInt8) (l r : List UInt8) (h : ∀ c ∈ l, c ≠ b) : cutF b (l ++ b :: r) = l :: cutF b r := by
  have h1 : cutF b l = [l] := cut_none b l h
  unfold cutF at h1 ⊢
  rw [List.foldl_append, h1, List.foldl_cons]
  have h2 : cutStep b [l] b = [l] ++ [[]] := by unfold cutStep; rw [if_pos rfl]
  rw [h2, fold_pre b r [l] [[]] (by simp)]
  rfl
theorem lines_cons {l r : List UInt8} (h : ∀ c ∈ l, c ≠ 10) : linesL (l ++ 10 :: r) = l :: linesL r := by
  have hc := cutF_cons 10 l r h
  have hne := cutF_ne 10 r
  unfold linesL
  rw [hc]
  obtain ⟨x, y, e⟩ : ∃ x y, cutF 10 r = x :: y := by
    cases hr : cutF 10 r with
    | nil => exact absurd hr hne
    | cons x y => exact ⟨x, y, rfl⟩
  rw [e, List.getLast?_cons_cons]
  split
  · rw [List.dropLast_cons_cons]
  · rfl
theorem lines_nil : linesL [] = [] := by decide
theorem lines_one {l : List UInt8} (h : ∀ c ∈ l, c ≠ 10) (hn : l ≠ []) : linesL l = [l] := by
  unfold linesL
  rw [cut_none 10 l h]
  simp [hn]
/-- Lines as a text. -/
def txt (ls : List (List UInt8)) : List UInt8 := ls.flatMap (· ++ [10])
theorem lines_txt : ∀ {ls : List (List UInt8)}, (∀ l ∈ ls, ∀ c ∈ l, c ≠ 10) → linesL (txt ls) = ls
  | [], _ => lines_nil
  | l :: ls, h => by
    have e : txt (l :: ls) = l ++ 10 :: txt ls := by unfold txt; rw [List.flatMap_cons, List.append_assoc]; rfl
    rw [e, lines_cons (h l (by simp)), lines_txt (fun x hx => h x (by simp [hx]))]
theorem txt_append (a b : List (List UInt8)) : txt (a ++ b) = txt a ++ txt b := by unfold txt; rw [List.flatMap_append]
theorem run_skip {c : Cf} {ns : List (List UInt8)} : ∀ {bs ls : List (List UInt8)} {i : Nat}, (∀ l ∈ bs, skipL l = true) → runL c ns (bs ++ ls) i = runL c ns ls (i + bs.length)
  | [], ls, i, _ => rfl
  | l :: bs, ls, i, h => by
    have h0 := h l (by simp)
    have e1 : lineE ns l = 0 := by unfold lineE; rw [if_pos h0]
    have e2 : lineC c l = c := by unfold lineC; rw [if_pos h0]
    have e3 : lineN ns l = ns := by unfold lineN; rw [if_pos h0]
    rw [List.cons_append, runL, if_pos e1, e2, e3, run_skip (fun x hx => h x (by simp [hx])), List.length_cons]
    congr 1
    omega
/-- A line NAME=VALUE of digits: which field is set. -/
theorem digits_word {n : Nat} (h : n < 1000000000) : onlyW (decT n) = some (decT n) ∧ okV 0 (decT n) = true ∧ decV (decT n) = n := by
  have hd := decT_digits 8 n (by omega)
  have hp := decT_pos n
  have hnum := numI_decT n 999999999 h (by omega)
  refine ⟨?_, ?_, (dec_yes hnum).1⟩
  · have hb : ∀ c ∈ decT n, isBl c = false := fun c hc => by
      have := hd c hc
      rw [← blN_u8]; unfold blN; simp only [Bool.or_eq_false_iff, beq_eq_false_iff_ne]; omega
    unfold onlyW wordsL
    have e := words_free (decT n) [] [] hb
    rw [List.append_nil, List.nil_append] at e
    rw [e, wordsGo, if_neg (by intro h0; rw [h0] at hp; simp at hp)]
  · exact (dec_yes hnum).2
theorem cut1_name {x v : List UInt8} (h : ∀ c ∈ x, c ≠ 61) : cut1 61 (x ++ 61 :: v) = some (x, v) := by
  rw [cut1_skip x _ h, cut1, if_pos rfl]
  simp
theorem st_cat {x y z : List UInt8} (hz : x ++ y = z) (h : x.length + y.length ≤ 8388608) (W : World) : (Op.stringOp .add ⟨x.toArray⟩ ⟨y.toArray⟩).run Try.prog W = .ok (.string ⟨z.toArray⟩) W := by
  subst hz; exact st_add h W
theorem cparse_is {t : List UInt8} {c : Cf} {l e : Int} (h : parseS t = (c, l, e)) (ht : t.length ≤ 1000000) (w : World) : Calls Try.prog 9 #[.string ⟨t.toArray⟩] w fun r w' => ∃ Fx nf cf Ox nx cx, r = .returned (.tuple #[.agg (cfl c Fx nf cf Ox nx cx).toArray, .int .i64 l, .int .i64 e]) ∧ Sle fxf 10 w' Fx nf cf c.fixed ∧ Sle opf 7 w' Ox nx cx c.opens ∧ Fr w.heap.size Fx nf ∧ Fr w.heap.size Ox nx ∧ Below w.heap.size w w' := by
  refine (cparse_any t w ht).mono ?_
  rintro r w' ⟨Fx, nf, cf, Ox, nx, cx, rfl, hh⟩
  rw [h] at hh ⊢
  exact ⟨Fx, nf, cf, Ox, nx, cx, rfl, hh⟩
theorem rtext_v {v : Int} {n : Nat} (hv : v = n) (h : n < 1000000000) (w : World) : Calls Try.prog 13 #[.int .i64 v] w fun e w' => e = .returned (.string ⟨(decT n).toArray⟩) ∧ Below w.heap.size w w' := by
  subst hv; exact rtext_any 8 (by decide) n w (by omega)
theorem skip_name {c : UInt8} {s r : List UInt8} (h : isBl c = false) (h2 : (c == 35) = false) : skipL (c :: s ++ r) = false := by
  unfold skipL
  rw [List.cons_append, List.dropWhile_cons, if_neg (by rw [h]; decide)]
  exact h2
theorem txt_len {k : Nat} : ∀ {ls : List (List UInt8)}, (∀ l ∈ ls, l.length ≤ k) → (txt ls).length ≤ (k + 1) * ls.length
  | [], _ => by simp [txt]
  | l :: ls, h => by
    have h1 := h l (by simp)
    have h2 := txt_len (ls := ls) (fun x hx => h x (by simp [hx]))
    have e : txt (l :: ls) = l ++ [10] ++ txt ls := by unfold txt; rw [List.flatMap_cons]
    rw [e]
    simp only [List.length_append, List.length_cons, List.length_nil]
    rw [Nat.mul_succ]
    omega
end Go.Proofs.Ytdfobilagidmfaa
