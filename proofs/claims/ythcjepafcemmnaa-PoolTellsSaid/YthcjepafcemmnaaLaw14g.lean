/- What the calls answer on pools of consecutive addresses. No walk. -/
import Derived.Test.YthcjepafcemmnaaLaw14f
namespace Go.Proofs.Ythcjepafcemmnaa
open Go.RowKit

theorem at_s {z : Int} {j : Nat} (w : World) (h : z = 100 + (j : Int)) : Calls Try.prog 11 #[.int .i64 z] w fun e w' => e = .returned (.agg #[.int .u8 ((nA j).a.toNat : Int), .int .u8 ((nA j).b.toNat : Int), .int .u8 ((nA j).c.toNat : Int), .int .u8 ((nA j).d.toNat : Int)]) ∧ Below w.heap.size w w' := by
  have h2 : z = ((100 + j : Nat) : Int) := by omega
  rw [h2]
  exact at_k _ w
theorem mac_n {z : Int} {k : Nat} (w : World) (h : z = (k : Int)) : Calls Try.prog 12 #[.int .i64 z] w fun e w' => e = .returned (.agg #[.int .u8 ((macM (k : Int)).a.toNat : Int), .int .u8 ((macM (k : Int)).b.toNat : Int), .int .u8 ((macM (k : Int)).c.toNat : Int), .int .u8 ((macM (k : Int)).d.toNat : Int), .int .u8 ((macM (k : Int)).e.toNat : Int), .int .u8 ((macM (k : Int)).f.toNat : Int)]) ∧ Below w.heap.size w w' := h ▸ mac_k z w
section
variable {n : Nat} {F : Nat → Sd} {now t : Int} {m : Mc6} {wa : Ad4}
theorem rg_offer_held {i : Nat} (hi : i < n) (h : hldF m (padv now t) (Rg n F) = some i) : offerS ⟨now, [], Rg n F⟩ m wa t = ((F i).ad, 0) := by
  unfold offerS
  have hn : (St.adv ⟨now, [], Rg n F⟩ t).now = padv now t := rfl
  simp only [hn, homeF_nil, h, Rg.get hi, Option.map_some, Option.getD_some]
theorem rg_offer_want {i : Nat} (ha : AdF F) (hn : n ≤ 100) (hi : i < n) (h : hldF m (padv now t) (Rg n F) = none) (hf : (F i).freeB (padv now t) = true) : offerS ⟨now, [], Rg n F⟩ m (nA i) t = (nA i, 0) := by
  unfold offerS
  have hn' : (St.adv ⟨now, [], Rg n F⟩ t).now = padv now t := rfl
  have hp := Rg.pos ha hn hi
  simp only [hn', homeF_nil, h, hp.1, hp.2, Rg.get hi, hf, Bool.and_self, if_true]
/-- What is wanted may not be had. -/
def noWant (n : Nat) (F : Nat → Sd) (wa : Ad4) (now : Int) : Prop := sfhas (Rg n F) wa.num = false ∨ ∃ x, (Rg n F)[sfpos (Rg n F) wa.num]? = some x ∧ x.freeB now = false
theorem noWant.out {now : Int} (h : sfhas (Rg n F) wa.num = false) : noWant n F wa now := .inl h
theorem noWant.busy {now : Int} {i : Nat} (ha : AdF F) (hn : n ≤ 100) (hi : i < n) (h : (F i).freeB now = false) : noWant n F (nA i) now := by
  have hp := Rg.pos ha hn hi
  exact .inr ⟨F i, by rw [hp.1]; exact Rg.get hi, h⟩
theorem rg_offer_best {i : Nat} (hi : i < n) (h : hldF m (padv now t) (Rg n F) = none) (hw : noWant n F wa (padv now t)) (hb : bestF m (padv now t) (Rg n F) (Rg n F).length = some i) : offerS ⟨now, [], Rg n F⟩ m wa t = ((F i).ad, 0) := by
  unfold offerS
  have hn' : (St.adv ⟨now, [], Rg n F⟩ t).now = padv now t := rfl
  rcases hw with hw | ⟨x, hx, hw⟩
  · simp only [hn', homeF_nil, h, hw, Bool.false_and, Bool.false_eq_true, if_false, hb, Rg.get hi, Option.map_some, Option.getD_some]
  · simp only [hn', homeF_nil, h, hx, hw, Bool.and_false, Bool.false_eq_true, if_false, hb, Rg.get hi, Option.map_some, Option.getD_some]
theorem rg_offer_full (h : hldF m (padv now t) (Rg n F) = none) (hw : noWant n F wa (padv now t)) (hb : bestF m (padv now t) (Rg n F) (Rg n F).length = none) : offerS ⟨now, [], Rg n F⟩ m wa t = (Ad4.zero, 7) := by
  unfold offerS
  have hn' : (St.adv ⟨now, [], Rg n F⟩ t).now = padv now t := rfl
  rcases hw with hw | ⟨x, hx, hw⟩
  · simp only [hn', homeF_nil, h, hw, Bool.false_and, Bool.false_eq_true, if_false, hb]
  · simp only [hn', homeF_nil, h, hx, hw, Bool.and_false, Bool.false_eq_true, if_false, hb]
theorem rg_may {i : Nat} (ha : AdF F) (hn : n ≤ 100) (hi : i < n) (hx : (F i).fx = false) : mayE ⟨now, [], Rg n F⟩ m (nA i) = if (!(F i).freeB now && !(F i).heldB m now) = true then 8 else 0 := by
  unfold mayE
  have hp := Rg.pos ha hn hi
  simp only [homeF_nil, hp.1, hp.2, Rg.get hi, hx, if_true, Bool.false_eq_true, if_false]
def upF (F : Nat → Sd) (i : Nat) (y : Sd) (j : Nat) : Sd := if j = i then y else F j
theorem upF_ad {i : Nat} {y : Sd} (ha : AdF F) (hy : y.ad = (F i).ad) : AdF (upF F i y) := fun j => by
  unfold upF
  by_cases e : j = i
  · subst e; rw [if_pos rfl, hy, ha j]
  · rw [if_neg e, ha j]
theorem upF_at {i : Nat} {y : Sd} : upF F i y i = y := if_pos rfl
theorem upF_no {i j : Nat} {y : Sd} (h : j ≠ i) : upF F i y j = F j := if_neg h
theorem Rg.modify {i : Nat} {f : Sd → Sd} : (Rg n F).modify i f = Rg n (upF F i (f (F i))) := by
  rw [Rg.mod]
  apply Rg.congr
  intro j _
  unfold upF
  by_cases e : j = i
  · subst e; simp
  · simp [e]
theorem rg_take {i : Nat} {secs : Int} (ha : AdF F) (hn : n ≤ 100) (hi : i < n) (hx : (F i).fx = false) (hp : permB secs = true) (hf : (F i).freeB (padv now t) = true) (h : hldF m (padv now t) (Rg n F) = none) :
    takeS ⟨now, [], Rg n F⟩ m (nA i) t secs = (0, ⟨padv now t, [], Rg n (upF F i ⟨m, nA i, padv now t + secs, false, true, false, (F i).br⟩)⟩) := by
  have hm : mayE (St.adv ⟨now, [], Rg n F⟩ t) m (nA i) = 0 := by
    show mayE ⟨padv now t, [], Rg n F⟩ m _ = 0
    rw [rg_may ha hn hi hx, hf]; rfl
  unfold takeS
  rw [hp, if_pos rfl, hm, if_pos (by decide)]
  have hl : putL (endL m (St.adv ⟨now, [], Rg n F⟩ t).now (St.l ⟨now, [], Rg n F⟩)) m (nA i) ((St.adv ⟨now, [], Rg n F⟩ t).now + secs) = Rg n (upF F i ⟨m, nA i, padv now t + secs, false, true, false, (F i).br⟩) := by
    show putL (endL m (padv now t) (Rg n F)) m _ (padv now t + secs) = _
    unfold endL
    rw [h]
    unfold putL
    rw [(Rg.pos ha hn hi).1, Rg.modify, hx]
  rw [hl]
  rfl
theorem rg_take_no {i : Nat} {secs : Int} (ha : AdF F) (hn : n ≤ 100) (hi : i < n) (hx : (F i).fx = false) (hp : permB secs = true) (hf : (F i).freeB (padv now t) = false) (hh : (F i).heldB m (padv now t) = false) :
    takeS ⟨now, [], Rg n F⟩ m (nA i) t secs = (8, ⟨padv now t, [], Rg n F⟩) := by
  have hm : mayE (St.adv ⟨now, [], Rg n F⟩ t) m (nA i) = 8 := by
    show mayE ⟨padv now t, [], Rg n F⟩ m _ = 8
    rw [rg_may ha hn hi hx, hf, hh]; rfl
  unfold takeS
  rw [hp, if_pos rfl, hm, if_neg (by decide)]
  rfl
theorem rg_end {i : Nat} (ha : AdF F) (hn : n ≤ 100) (hi : i < n) (hl : (F i).le = true) (hm : (F i).m.eqB m = true) : endB ⟨now, [], Rg n F⟩ m (nA i) = true ∧ endS ⟨now, [], Rg n F⟩ m (nA i) = ⟨now, [], Rg n (upF F i { F i with u := 0 })⟩ := by
  have hp := Rg.pos ha hn hi
  have hb : endB ⟨now, [], Rg n F⟩ m (nA i) = true := by
    unfold endB
    simp only [hp.1, hp.2, Rg.get hi, hl, hm, Bool.and_self]
  refine ⟨hb, ?_⟩
  unfold endS
  rw [hb, if_pos rfl]
  simp only [hp.1, Rg.modify]
theorem rg_bar {i : Nat} {secs : Int} (ha : AdF F) (hn : n ≤ 100) (hi : i < n) (hx : (F i).fx = false) (hp : permB secs = true) : barB ⟨now, [], Rg n F⟩ (nA i) secs = true ∧ barS ⟨now, [], Rg n F⟩ (nA i) t secs = ⟨padv now t, [], Rg n (upF F i { F i with u := 0, br := padv now t + secs })⟩ := by
  have hq := Rg.pos ha hn hi
  have hb : barB ⟨now, [], Rg n F⟩ (nA i) secs = true := by
    unfold barB
    simp only [hq.1, hq.2, Rg.get hi, hx, hp, Bool.not_false, Bool.and_self]
  refine ⟨hb, ?_⟩
  unfold barS
  rw [hb, if_pos rfl]
  have hn' : (St.adv ⟨now, [], Rg n F⟩ t).now = padv now t := rfl
  simp only [hq.1, Rg.modify, hn']
  rfl
end
/-- A slot that nobody has had. -/
theorem slot0_free {a : Ad4} {now : Int} (h : 0 ≤ now) : (slot0 a).freeB now = true := by
  have h1 : decide (now < 0) = false := decide_eq_false (by omega)
  have h2 : decide ((0 : Int) ≤ now) = true := decide_eq_true h
  show (!false && (!decide (now < 0) && decide ((0 : Int) ≤ now))) = true
  rw [h1, h2]; rfl
theorem slot0_held {a : Ad4} {m : Mc6} {now : Int} (h : 0 ≤ now) : (slot0 a).heldB m now = false := by
  have h1 : decide (now < 0) = false := decide_eq_false (by omega)
  show (decide (now < 0) && _) = false
  rw [h1]; rfl
theorem nil_held {n : Nat} {m : Mc6} {now : Int} (h : 0 ≤ now) : hldF m now (Rg n nilF) = none := Rg.held_none fun _ _ => slot0_held h
theorem perm_of {secs : Int} (h1 : 1 ≤ secs) (h2 : secs ≤ 1000000000) : permB secs = true := by
  unfold permB
  rw [decide_eq_true h1, decide_eq_true h2]; rfl
theorem zero_out {n : Nat} {F : Nat → Sd} (ha : AdF F) (hn : n ≤ 100) {now : Int} : noWant n F Ad4.zero now := noWant.out (Rg.out ha hn (fun j _ => by show be [0, 0, 0, 0] ≠ _; simp [be]; omega))
end Go.Proofs.Ythcjepafcemmnaa
