/- Who is in the table of NearMost. No walk. -/
import Derived.Test.YtfghmckeogajnaaLaw11
namespace Go.Proofs.Ytfghmckeogajnaa
open Go.RowKit

theorem num_k {k : Nat} (h : k < 256) : Ad4.num ⟨10, 0, 0, byteOf (k : Int)⟩ = 167772160 + k := by
  have h1 : (byteOf (k : Int)).toNat = k := by
    have := byteOf_val (k : Int)
    omega
  have h2 : ∀ b : UInt8, be [10, 0, 0, b] = 167772160 + b.toNat := by
    intro b
    simp [be]
  unfold Ad4.num
  rw [h2, h1]
/-- c known ones from s on, behind them K that are asked for. -/
def NS (c K s : Nat) (l : List En) : Prop := l.length = c + K ∧ ∀ j e, l[j]? = some e → (j < c → e.num = 167772160 + (s + j) ∧ e.k = true ∧ e.t = ((s + j : Nat) : Int)) ∧ (c ≤ j → e.num = 167772160 + (100 + (j - c)) ∧ e.k = false)
theorem NS.nil (s : Nat) : NS 0 0 s [] := ⟨rfl, fun j e h => by simp at h⟩
theorem NS.none {c K s x : Nat} {l : List En} (h : NS c K s l) (h1 : ∀ j, j < c → x ≠ s + j) (h2 : ∀ j, j < K → x ≠ 100 + j) : fhas l (167772160 + x) = false := Srt.none fun e he hx => by
  obtain ⟨j, hj⟩ := List.getElem?_of_mem he
  have hl := (List.getElem?_eq_some_iff.1 hj).1
  have hlen := h.1
  rcases Nat.lt_or_ge j c with h0 | h0
  · have := ((h.2 j e hj).1 h0).1
    have := h1 j h0; omega
  · have := ((h.2 j e hj).2 h0).1
    have := h2 (j - c) (by omega); omega
theorem eldF_no {l : List En} (h : ∀ (j : Nat) e, l[j]? = some e → e.k = false) : ∀ m, eldF l m = none := by
  intro m
  induction m with
  | zero => rfl
  | succ m ih =>
    unfold eldF
    cases he : l[m]? with
    | none => simpa using ih
    | some e =>
      have hk := h m e he
      simp [eldB, hk, ih]
theorem NS.eld {c K s : Nat} {l : List En} (h : NS c K s l) (hc : 0 < c) : ∀ m, 1 ≤ m → m ≤ l.length → eldF l m = some 0 := by
  have hlen := h.1
  obtain ⟨x, hx⟩ : ∃ x, l[0]? = some x := ⟨_, List.getElem?_eq_getElem (by omega)⟩
  have x0 := (h.2 0 x hx).1 hc
  intro m
  induction m with
  | zero => intro h0; omega
  | succ m ih =>
    intro _ hm
    obtain ⟨e, he⟩ : ∃ e, l[m]? = some e := ⟨_, List.getElem?_eq_getElem (by omega)⟩
    rcases Nat.eq_zero_or_pos m with h0 | h0
    · subst h0
      rw [hx] at he
      cases he
      unfold eldF
      simp [hx, eldB, x0.2.1, eldF]
    · have ih := ih h0 (by omega)
      have hb : eldB l (some 0) e = false := by
        unfold eldB
        simp only [hx]
        rcases Nat.lt_or_ge m c with h1 | h1
        · have := (h.2 m e he).1 h1
          rw [this.2.1, this.2.2, x0.2.2]
          simp only [Bool.true_and, decide_eq_false_iff_not]
          omega
        · have := (h.2 m e he).2 h1
          rw [this.2]; rfl
      unfold eldF
      simp [he, ih, hb]
theorem ins_at {l : List En} {e : En} {c : Nat} (hp : fpos l e.num = c) (hc : c ≤ l.length) (j : Nat) : (ins l e)[j]? = if j < c then l[j]? else if j = c then some e else l[j - 1]? := by
  unfold ins
  rw [hp]
  by_cases h1 : j < c
  · rw [if_pos h1, List.getElem?_append_left (by rw [List.length_take]; omega), List.getElem?_take, if_pos h1]
  · rw [if_neg h1, List.getElem?_append_right (by rw [List.length_take]; omega), List.length_take, show min c l.length = c by omega]
    by_cases h2 : j = c
    · rw [if_pos h2, h2, Nat.sub_self]; rfl
    · rw [if_neg h2, show j - c = (j - 1 - c) + 1 by omega, List.getElem?_cons_succ, List.getElem?_drop, show c + (j - 1 - c) = j - 1 by omega]
theorem NS.known {c K s : Nat} {l : List En} {e : En} (h : NS c K s l) (hn : e.num = 167772160 + (s + c)) (hk : e.k = true) (ht : e.t = ((s + c : Nat) : Int)) (h100 : s + c < 100) : NS (c + 1) K s (ins l e) := by
  have hlen := h.1
  have hp : fpos l e.num = c := fpos_of (by omega) (fun j x hj hx => by have := ((h.2 j x hx).1 hj).1; omega) (fun j x hj hx => by have := ((h.2 j x hx).2 hj).1; omega)
  refine ⟨by rw [ins_len]; omega, fun j x hx => ?_⟩
  rw [ins_at hp (by omega)] at hx
  by_cases h1 : j < c
  · rw [if_pos h1] at hx
    exact ⟨fun _ => (h.2 j x hx).1 h1, fun h2 => by omega⟩
  · rw [if_neg h1] at hx
    by_cases h2 : j = c
    · rw [if_pos h2] at hx
      cases hx
      subst h2
      exact ⟨fun _ => ⟨hn, hk, ht⟩, fun h3 => by omega⟩
    · rw [if_neg h2] at hx
      have := (h.2 _ x hx).2 (by omega)
      exact ⟨fun h3 => by omega, fun _ => ⟨by rw [this.1]; omega, this.2⟩⟩
theorem NS.push {i : Nat} {l : List En} {e : En} (h : NS 0 i 0 l) (hn : e.num = 167772160 + (100 + i)) (hk : e.k = false) : NS 0 (i + 1) 0 (ins l e) := by
  have hlen := h.1
  have hp : fpos l e.num = i := fpos_of (by omega) (fun j x hj hx => by have := ((h.2 j x hx).2 (by omega)).1; omega) (fun j x hj hx => by have := (List.getElem?_eq_some_iff.1 hx).1; omega)
  refine ⟨by rw [ins_len]; omega, fun j x hx => ?_⟩
  rw [ins_at hp (by omega)] at hx
  refine ⟨fun h3 => by omega, fun _ => ?_⟩
  by_cases h1 : j < i
  · rw [if_pos h1] at hx
    exact (h.2 j x hx).2 (by omega)
  · rw [if_neg h1] at hx
    by_cases h2 : j = i
    · rw [if_pos h2] at hx
      cases hx
      subst h2
      exact ⟨hn, hk⟩
    · rw [if_neg h2] at hx
      have := (List.getElem?_eq_some_iff.1 hx).1
      omega
theorem NS.tail {c K s : Nat} {l : List En} (h : NS (c + 1) K s l) : NS c K (s + 1) (l.eraseIdx 0) := by
  have hlen := h.1
  cases l with
  | nil => simp at hlen; omega
  | cons y l =>
    refine ⟨by simpa using (by simp at hlen; omega : l.length = c + K), fun j x hx => ?_⟩
    have hx2 : (y :: l)[j + 1]? = some x := by simpa using hx
    have := h.2 (j + 1) x hx2
    exact ⟨fun h1 => by
      have := this.1 (by omega)
      exact ⟨by rw [this.1]; omega, this.2.1, by rw [this.2.2]; congr 1; omega⟩, fun h1 => by
      have := this.2 (by omega)
      exact ⟨by rw [this.1]; omega, this.2⟩⟩
theorem NS.ask {i : Nat} {l : List En} {e : En} (h : NS 0 (min i 32) 0 l) (hn : e.num = 167772160 + (100 + i)) (hk : e.k = false) : (addE l e).2 = decide (i < 32) ∧ NS 0 (min (i + 1) 32) 0 (addE l e).1 := by
  have hlen := h.1
  unfold addE
  by_cases h1 : i < 32
  · rw [if_neg (by omega), decide_eq_true h1, show min (i + 1) 32 = i + 1 by omega]
    rw [show min i 32 = i by omega] at h
    exact ⟨rfl, h.push hn hk⟩
  · rw [if_pos (by omega), decide_eq_false h1, eldF_no (fun j x hx => ((h.2 j x hx).2 (by omega)).2), show min (i + 1) 32 = min i 32 by omega]
    exact ⟨rfl, h⟩
theorem NS.learn {i K : Nat} {l : List En} {e : En} (hK : K ≤ 32) (hi : i < 100) (h : NS (min i (32 - K)) K (i - (32 - K)) l) (hn : e.num = 167772160 + i) (hk : e.k = true) (ht : e.t = (i : Int)) : NS (min (i + 1) (32 - K)) K (i + 1 - (32 - K)) (addE l e).1 := by
  have hlen := h.1
  unfold addE
  by_cases h1 : i < 32 - K
  · rw [if_neg (by omega), show min (i + 1) (32 - K) = min i (32 - K) + 1 by omega, show i + 1 - (32 - K) = i - (32 - K) by omega]
    refine h.known ?_ hk ?_ (by omega)
    · rw [hn]; omega
    · rw [ht]; congr 1; omega
  · rw [if_pos (by omega)]
    by_cases h2 : K = 32
    · rw [eldF_no (fun j x hx => ((h.2 j x hx).2 (by omega)).2)]
      subst h2
      refine ⟨by rw [hlen]; omega, fun j x hx => ⟨fun h3 => by omega, fun _ => ?_⟩⟩
      have := (h.2 j x hx).2 (by omega)
      exact ⟨by rw [this.1]; omega, this.2⟩
    · rw [h.eld (by omega) _ (by omega) (Nat.le_refl _)]
      obtain ⟨c, hc⟩ : ∃ c, min i (32 - K) = c + 1 := ⟨min i (32 - K) - 1, by omega⟩
      rw [hc] at h
      rw [show min (i + 1) (32 - K) = c + 1 by omega, show i + 1 - (32 - K) = i - (32 - K) + 1 by omega]
      refine h.tail.known ?_ hk ?_ (by omega)
      · rw [hn]; omega
      · rw [ht]; congr 1; omega
theorem NS.at {c K s j : Nat} {l : List En} (h : NS c K s l) (hj : j < c) : ∃ x, l[j]? = some x ∧ x.num = 167772160 + (s + j) ∧ x.k = true ∧ x.t = ((s + j : Nat) : Int) := by
  have hlen := h.1
  obtain ⟨x, hx⟩ : ∃ x, l[j]? = some x := ⟨_, List.getElem?_eq_getElem (by omega)⟩
  exact ⟨x, hx, (h.2 j x hx).1 hj⟩
theorem want_most {lo gt i : Nat} {l : List En} {b : Bool} (w : World) (hT : Tb lo gt w 1000 0 l) (hN : NS 0 (min i 32) 0 l) (hi : i < 40) (hb : decide (i < 32) = b) : Calls Try.prog 11 #[.pointer (some ⟨gt, 0, none⟩), .agg #[.int .u8 10, .int .u8 0, .int .u8 0, .int .u8 ((byteOf (100 + (i : Int))).toNat : Int)], .slice none 0 0, .int .i64 0] w fun e w' => ∃ l', e = .returned (.agg #[.int .u8 0, .int .u8 0, .int .u8 0, .int .u8 0, .int .u8 0, .int .u8 0, .bool false, .bool b]) ∧ Tb lo gt w' 1000 0 l' ∧ Kt [49, 52] w w' ∧ Below lo w w' ∧ NS 0 (min (i + 1) 32) 0 l' := by
  have hk : Ad4.num ⟨10, 0, 0, byteOf (100 + (i : Int))⟩ = 167772160 + (100 + i) := by
    have := num_k (k := 100 + i) (by omega)
    rwa [Int.natCast_add] at this
  have hf : fhas l (Ad4.num ⟨10, 0, 0, byteOf (100 + (i : Int))⟩) = false := by
    rw [hk]
    exact hN.none (fun j hj => by omega) (fun j hj => by omega)
  have h := want_new (y := ⟨10, 0, 0, byteOf (100 + (i : Int))⟩) (t := 0) (lb := []) w hT (Sb.nil _) (by decide) hf
  refine h.mono ?_
  rintro e w' ⟨A1, c1, rfl, hT', _, k, bb⟩
  have ha := hN.ask (e := ⟨⟨10, 0, 0, byteOf (100 + (i : Int))⟩, adv 0 0, false, Mc6.zero, 1, A1, 1, c1⟩) hk rfl
  exact ⟨_, by rw [ha.1, hb], hT', k, bb, ha.2⟩
theorem learn_most {lo gt i K : Nat} {now : Int} {l : List En} (w : World) (hT : Tb lo gt w 1000 now l) (hK : K ≤ 32) (hi : i < 100) (hn : now ≤ (i : Int)) (hN : NS (min i (32 - K)) K (i - (32 - K)) l) : Calls Try.prog 10 #[.pointer (some ⟨gt, 0, none⟩), .agg #[.int .u8 10, .int .u8 0, .int .u8 0, .int .u8 ((byteOf (i : Int)).toNat : Int)], .agg #[.int .u8 (i : Int), .int .u8 0, .int .u8 0, .int .u8 0, .int .u8 0, .int .u8 0], .int .i64 (i : Int), .bool true] w fun e w' => ∃ l', e = .returned (.slice none 0 0) ∧ Tb lo gt w' 1000 (i : Int) l' ∧ Kt [49, 52] w w' ∧ Below lo w w' ∧ NS (min (i + 1) (32 - K)) K (i + 1 - (32 - K)) l' := by
  have hk : Ad4.num ⟨10, 0, 0, byteOf (i : Int)⟩ = 167772160 + i := num_k (by omega)
  have hf : fhas l (Ad4.num ⟨10, 0, 0, byteOf (i : Int)⟩) = false := by
    rw [hk]
    exact hN.none (fun j hj => by omega) (fun j hj => by omega)
  have hv : adv now (i : Int) = (i : Int) := adv_to hn (by omega)
  have hb : ((byteOf (i : Int)).toNat : Int) = (i : Int) := by rw [byteOf_val]; omega
  have h : ∀ (b : UInt8) (x : Int), (b.toNat : Int) = x → Calls Try.prog 10 #[.pointer (some ⟨gt, 0, none⟩), .agg #[.int .u8 10, .int .u8 0, .int .u8 0, .int .u8 ((byteOf (i : Int)).toNat : Int)], .agg #[.int .u8 x, .int .u8 0, .int .u8 0, .int .u8 0, .int .u8 0, .int .u8 0], .int .i64 (i : Int), .bool true] w fun e w' => ∃ l', e = .returned (.slice none 0 0) ∧ Tb lo gt w' 1000 (i : Int) l' ∧ Kt [49, 52] w w' ∧ Below lo w w' ∧ NS (min (i + 1) (32 - K)) K (i + 1 - (32 - K)) l' := by
    rintro b _ rfl
    have h := learn_new (y := ⟨10, 0, 0, byteOf (i : Int)⟩) (m := ⟨b, 0, 0, 0, 0, 0⟩) (t := (i : Int)) w hT hf
    rw [hv] at h
    refine h.mono ?_
    rintro e w' ⟨rfl, hT', k, bb⟩
    exact ⟨_, rfl, hT', k, bb, hN.learn (e := ⟨⟨10, 0, 0, byteOf (i : Int)⟩, (i : Int), true, ⟨b, 0, 0, 0, 0, 0⟩, 0, none, 0, 0⟩) hK hi hk rfl rfl⟩
  exact h _ _ hb
theorem mac_most {lo gt i K N : Nat} {now : Int} {l : List En} {b : Bool} (w : World) (hT : Tb lo gt w 1000 now l) (hK : K ≤ 32) (hi : i < N) (hN1 : N ≤ 100) (hn : now ≤ (N : Int)) (hN : NS (min N (32 - K)) K (N - (32 - K)) l) (hb : decide (N - (32 - K) ≤ i) = b) : Calls Try.prog 13 #[.pointer (some ⟨gt, 0, none⟩), .agg #[.int .u8 10, .int .u8 0, .int .u8 0, .int .u8 ((byteOf (i : Int)).toNat : Int)], .int .i64 (N : Int)] w fun e w' => ∃ m : Mc6, e = .returned (.tuple #[.agg #[.int .u8 (m.a.toNat : Int), .int .u8 (m.b.toNat : Int), .int .u8 (m.c.toNat : Int), .int .u8 (m.d.toNat : Int), .int .u8 (m.e.toNat : Int), .int .u8 (m.f.toNat : Int)], .bool b]) ∧ Tb lo gt w' 1000 (N : Int) l ∧ Kt [49, 52] w w' ∧ Below lo w w' := by
  have hk : Ad4.num ⟨10, 0, 0, byteOf (i : Int)⟩ = 167772160 + i := num_k (by omega)
  have hv : adv now (N : Int) = (N : Int) := adv_to hn (by omega)
  by_cases h1 : N - (32 - K) ≤ i
  · rw [decide_eq_true h1] at hb
    subst hb
    obtain ⟨x, hx, x1, x2, x3⟩ := hN.at (j := i - (N - (32 - K))) (by omega)
    have ho : tooOldB 1000 (adv now (N : Int)) x = false := by
      rw [hv]
      unfold tooOldB
      rw [x2, x3]
      simp only [Bool.true_and, decide_eq_false_iff_not]
      omega
    have h := mac_at (y := ⟨10, 0, 0, byteOf (i : Int)⟩) (t := (N : Int)) w hT hx (by rw [hk, x1]; omega) x2 ho
    rw [hv] at h
    refine h.mono ?_
    rintro e w' ⟨rfl, hT', k, bb⟩
    exact ⟨x.m, rfl, hT', k, bb⟩
  · rw [decide_eq_false h1] at hb
    subst hb
    have hf : fhas l (Ad4.num ⟨10, 0, 0, byteOf (i : Int)⟩) = false := by
      rw [hk]
      exact hN.none (fun j hj => by omega) (fun j hj => by omega)
    have h := mac_none (y := ⟨10, 0, 0, byteOf (i : Int)⟩) (t := (N : Int)) w hT hf
    rw [hv] at h
    refine h.mono ?_
    rintro e w' ⟨rfl, hT', k, bb⟩
    exact ⟨Mc6.zero, rfl, hT', k, bb⟩
end Go.Proofs.Ytfghmckeogajnaa
