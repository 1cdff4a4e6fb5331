/- The pool of PoolApart: who may have which address, whatever is asked. No walk. -/
import Derived.Test.YthcjepafcemmnaaLaw14
namespace Go.Proofs.Ythcjepafcemmnaa
open Go.RowKit

/-- In order: who is live has a Mac of its own; fixed addresses are their owners', others nobody's of those. -/
structure Inv (H : List (Mc6 × Ad4)) (P : Ad4 → Bool → Prop) (s : St) : Prop where
  e : s.hs = H
  k : ∀ (i : Nat) (x : Sd), s.l[i]? = some x → P x.ad x.fx
  u : ∀ (i j : Nat) (x y : Sd), s.l[i]? = some x → s.l[j]? = some y → x.liveB s.now = true → y.liveB s.now = true → x.m = y.m → i = j
  f : ∀ (i : Nat) (x : Sd), s.l[i]? = some x → x.liveB s.now = true → if x.fx = true then homeF s.hs x.m = some x.ad else homeF s.hs x.m = none
  h : ∀ (i : Nat) (x : Sd) (m : Mc6), s.l[i]? = some x → homeF s.hs m = some x.ad → x.fx = true
variable {H : List (Mc6 × Ad4)} {P : Ad4 → Bool → Prop}
theorem live_le {x : Sd} {n n' : Int} (h : x.liveB n' = true) (hn : n ≤ n') : x.liveB n = true := by
  unfold Sd.liveB at *
  simp only [decide_eq_true_eq] at *
  omega
theorem Inv.adv {s : St} (h : Inv H P s) (t : Int) : Inv H P (s.adv t) := by
  have hn := padv_ge s.now t
  exact ⟨h.e, h.k, fun i j x y hx hy lx ly => h.u i j x y hx hy (live_le lx hn) (live_le ly hn), fun i x hx lx => h.f i x hx (live_le lx hn), h.h⟩
/-- Whoever is live was so. -/
theorem Inv.sub {s s' : St} (h : Inv H P s) (h1 : s'.hs = s.hs) (h2 : s.now ≤ s'.now) (h3 : ∀ (q : Nat) (y : Sd), s'.l[q]? = some y → ∃ x, s.l[q]? = some x ∧ x.ad = y.ad ∧ x.fx = y.fx ∧ (y.liveB s'.now = true → x.liveB s'.now = true ∧ x.m = y.m)) : Inv H P s' := by
  refine ⟨h1.trans h.e, fun i x hx => ?_, fun i j x y hx hy lx ly hm => ?_, fun i x hx lx => ?_, fun i x m hx hm => ?_⟩
  · obtain ⟨x', a1, a2, a3, _⟩ := h3 i x hx
    rw [← a2, ← a3]; exact h.k i x' a1
  · obtain ⟨x', a1, _, _, a2⟩ := h3 i x hx
    obtain ⟨y', b1, _, _, b2⟩ := h3 j y hy
    obtain ⟨a3, a4⟩ := a2 lx
    obtain ⟨b3, b4⟩ := b2 ly
    exact h.u i j x' y' a1 b1 (live_le a3 h2) (live_le b3 h2) (by rw [a4, b4, hm])
  · obtain ⟨x', a1, a2, a3, a4⟩ := h3 i x hx
    obtain ⟨a5, a6⟩ := a4 lx
    have := h.f i x' a1 (live_le a5 h2)
    rw [a2, a3, a6, ← h1] at this
    exact this
  · obtain ⟨x', a1, a2, a3, _⟩ := h3 i x hx
    rw [← a3]
    exact h.h i x' m a1 (by rw [a2, ← h1]; exact hm)
theorem modify_sub {l : List Sd} {p : Nat} {f : Sd → Sd} {now : Int} (h : ∀ x, (f x).ad = x.ad ∧ (f x).fx = x.fx ∧ ((f x).liveB now = true → x.liveB now = true ∧ x.m = (f x).m)) : ∀ (q : Nat) (y : Sd), (l.modify p f)[q]? = some y → ∃ x, l[q]? = some x ∧ x.ad = y.ad ∧ x.fx = y.fx ∧ (y.liveB now = true → x.liveB now = true ∧ x.m = y.m) := by
  intro q y hy
  rw [List.getElem?_modify] at hy
  cases hq : l[q]? with
  | none => rw [hq] at hy; simp at hy
  | some x =>
    rw [hq] at hy
    by_cases e : p = q
    · subst e
      simp at hy
      subst hy
      exact ⟨x, rfl, (h x).1.symm, (h x).2.1.symm, (h x).2.2⟩
    · simp [e] at hy
      subst hy
      exact ⟨x, rfl, rfl, rfl, fun h => ⟨h, rfl⟩⟩
theorem dead_0 {x : Sd} {now : Int} (h0 : 0 ≤ now) {P : Prop} (h : ({ x with u := 0 } : Sd).liveB now = true) : P := by
  unfold Sd.liveB at h
  simp only [decide_eq_true_eq] at h
  omega
theorem Inv.ended {s : St} (h : Inv H P s) (hok : s.ok) (m : Mc6) (a : Ad4) : Inv H P (endS s m a) := by
  unfold endS
  split
  · exact h.sub rfl (Int.le_refl _) (modify_sub (fun x => ⟨rfl, rfl, fun h => dead_0 hok.n0 h⟩))
  · exact h
theorem Inv.barred {s : St} (h : Inv H P s) (hok : s.ok) (a : Ad4) (t secs : Int) : Inv H P (barS s a t secs) := by
  have hn := padv_ge s.now t
  have h0 := hok.n0
  unfold barS
  split
  · refine h.sub rfl hn (modify_sub (fun x => ⟨rfl, rfl, fun h => ?_⟩))
    have h0' : 0 ≤ (s.adv t).now := (hok.adv t).n0
    unfold Sd.liveB at h
    simp only [decide_eq_true_eq] at h
    exact absurd h (by show ¬ (s.adv t).now < 0; omega)
  · exact h.adv t
/-- Behind the ending of the lease of m nobody live is m. -/
theorem endL_no {s : St} (h : Inv H P s) (hok : s.ok) (m : Mc6) : ∀ (q : Nat) (y : Sd), (endL m s.now s.l)[q]? = some y → ∃ x, s.l[q]? = some x ∧ x.ad = y.ad ∧ x.fx = y.fx ∧ (y.liveB s.now = true → x.liveB s.now = true ∧ x.m = y.m ∧ y.m ≠ m) := by
  intro q y hy
  unfold endL at hy
  cases hh : hldF m s.now s.l with
  | none =>
    rw [hh] at hy
    refine ⟨y, hy, rfl, rfl, fun hl => ⟨hl, rfl, fun e => ?_⟩⟩
    have := hldF_no hh q y hy
    unfold Sd.heldB at this
    rw [hl, e, Mc6.eqB_self] at this
    cases this
  | some i =>
    rw [hh] at hy
    simp only at hy
    obtain ⟨x, hx, hb⟩ := hldF_at hh
    unfold Sd.heldB at hb
    simp only [Bool.and_eq_true] at hb
    rw [modify_at hx, List.getElem?_set] at hy
    by_cases e : i = q
    · subst e
      have hi := (List.getElem?_eq_some_iff.1 hx).1
      rw [if_pos rfl, if_pos hi] at hy
      cases hy
      exact ⟨x, hx, rfl, rfl, fun hl => dead_0 hok.n0 hl⟩
    · rw [if_neg e] at hy
      refine ⟨y, hy, rfl, rfl, fun hl => ⟨hl, rfl, fun em => ?_⟩⟩
      exact e (h.u i q x y hx hy hb.1 hl (by rw [em]; exact Mc6.eqB_iff.1 hb.2))
theorem Inv.taken {s : St} (h : Inv H P s) (hok : s.ok) (m : Mc6) (a : Ad4) (t secs : Int) : Inv H P (takeS s m a t secs).2 := by
  unfold takeS
  split
  · split
    · rename_i he
      have hi := h.adv t
      have ho := hok.adv t
      have he0 : mayE (s.adv t) m a = 0 := by simpa using he
      have hh := mayE_has ho he0
      obtain ⟨z, hz, hza⟩ := sfhas_at hh
      have hmp := endL_map m (s.adv t).now (s.adv t).l
      have hE := endL_no hi ho m
      -- the slot of a
      have hlen : (endL m (s.adv t).now (s.adv t).l).length = (s.adv t).l.length := by have := congrArg List.length hmp; simpa using this
      obtain ⟨y, hy⟩ : ∃ y, (endL m (s.adv t).now (s.adv t).l)[sfpos (s.adv t).l a.num]? = some y := ⟨_, List.getElem?_eq_getElem (by rw [hlen]; exact (List.getElem?_eq_some_iff.1 hz).1)⟩
      obtain ⟨z', hz', hza', hzf', _⟩ := hE _ _ hy
      rw [hz] at hz'
      cases hz'
      have hput : putL (endL m (s.adv t).now s.l) m a ((s.adv t).now + secs) = (endL m (s.adv t).now (s.adv t).l).set (sfpos (s.adv t).l a.num) ⟨m, a, (s.adv t).now + secs, y.fx, true, false, y.br⟩ := by
        show (endL m (s.adv t).now (s.adv t).l).modify (sfpos (endL m (s.adv t).now (s.adv t).l) a.num) _ = _
        rw [sfpos_map hmp, modify_at hy]
      rw [hput]
      -- what stands where
      have at_ : ∀ (q : Nat) (x : Sd), ((endL m (s.adv t).now (s.adv t).l).set (sfpos (s.adv t).l a.num) ⟨m, a, (s.adv t).now + secs, y.fx, true, false, y.br⟩)[q]? = some x → (q = sfpos (s.adv t).l a.num ∧ x = ⟨m, a, (s.adv t).now + secs, y.fx, true, false, y.br⟩) ∨ (q ≠ sfpos (s.adv t).l a.num ∧ (endL m (s.adv t).now (s.adv t).l)[q]? = some x) := by
        intro q x hx
        rw [List.getElem?_set] at hx
        by_cases e : sfpos (s.adv t).l a.num = q
        · rw [if_pos e, if_pos (List.getElem?_eq_some_iff.1 hy).1] at hx
          cases hx
          exact .inl ⟨e.symm, rfl⟩
        · rw [if_neg e] at hx
          exact .inr ⟨fun h => e h.symm, hx⟩
      have hfx : if y.fx = true then homeF s.hs m = some a else homeF s.hs m = none := by
        rw [← hzf']
        have he1 := he0
        unfold mayE at he1
        show if z.fx = true then homeF (s.adv t).hs m = some a else homeF (s.adv t).hs m = none
        cases hm : homeF (s.adv t).hs m with
        | some b =>
          rw [hm] at he1
          simp only at he1
          by_cases eb : a.eqB b = true
          · obtain rfl := Ad4.eqB_iff.1 eb
            have := hi.h _ z m hz (by rw [hza]; exact hm)
            rw [if_pos this]
          · rw [if_neg eb] at he1; cases he1
        | none =>
          rw [hm] at he1
          simp only [hh, if_true, hz] at he1
          by_cases ef : z.fx = true
          · rw [if_pos ef] at he1; cases he1
          · rw [if_neg ef]
      refine ⟨h.e, fun i x hx => ?_, fun i j x x' hx hx' lx lx' hm => ?_, fun i x hx lx => ?_, fun i x m' hx hm => ?_⟩
      · rcases at_ i x hx with ⟨e1, rfl⟩ | ⟨e1, g1⟩
        · have := hi.k _ z hz
          rw [hza, hzf'] at this
          exact this
        · obtain ⟨p1, q1, a1, f1, _⟩ := hE _ _ g1
          rw [← a1, ← f1]; exact hi.k i p1 q1
      · rcases at_ i x hx with ⟨e1, rfl⟩ | ⟨e1, g1⟩ <;> rcases at_ j x' hx' with ⟨e2, rfl⟩ | ⟨e2, g2⟩
        · rw [e1, e2]
        · obtain ⟨_, _, _, _, hl⟩ := hE _ _ g2
          exact absurd hm.symm (hl lx').2.2
        · obtain ⟨_, _, _, _, hl⟩ := hE _ _ g1
          exact absurd hm (hl lx).2.2
        · obtain ⟨p1, q1, _, _, r1⟩ := hE _ _ g1
          obtain ⟨p2, q2, _, _, r2⟩ := hE _ _ g2
          obtain ⟨k1, k2, _⟩ := r1 lx
          obtain ⟨k3, k4, _⟩ := r2 lx'
          exact hi.u i j p1 p2 q1 q2 k1 k3 (by rw [k2, k4, hm])
      · rcases at_ i x hx with ⟨e1, rfl⟩ | ⟨e1, g1⟩
        · exact hfx
        · obtain ⟨p1, q1, a1, f1, r1⟩ := hE _ _ g1
          obtain ⟨k1, k2, _⟩ := r1 lx
          have := hi.f i p1 q1 k1
          rw [a1, f1, k2] at this
          exact this
      · rcases at_ i x hx with ⟨e1, rfl⟩ | ⟨e1, g1⟩
        · rw [← hzf']
          have := hi.h _ z m' hz (by rw [hza]; exact hm)
          exact this
        · obtain ⟨p1, q1, a1, f1, _⟩ := hE _ _ g1
          rw [← f1]
          exact hi.h i p1 m' q1 (by rw [a1]; exact hm)
    · exact h.adv t
  · exact h.adv t
/-- Who is offered an address may take it. -/
theorem Inv.offered {s : St} (h : Inv H P s) (hok : s.ok) {m : Mc6} {w a : Ad4} {t : Int} (ho : offerS s m w t = (a, 0)) {secs : Int} (hp : permB secs = true) : (takeS (s.adv t) m a t secs).1 = 0 := by
  have hn : ((s.adv t).adv t).now = (s.adv t).now := by
    show padv (padv s.now t) t = padv s.now t
    unfold padv
    by_cases hc : s.now < t ∧ t ≤ 1099511627776
    · rw [if_pos hc, if_neg (by omega)]
    · rw [if_neg hc, if_neg hc]
  have hst : (s.adv t).adv t = s.adv t := by show (⟨((s.adv t).adv t).now, s.hs, s.l⟩ : St) = ⟨(s.adv t).now, s.hs, s.l⟩; rw [hn]
  have key : mayE (s.adv t) m a = 0 := by
    unfold offerS at ho
    cases hm : homeF s.hs m with
    | some b =>
      simp only [hm] at ho
      injection ho with h1 h2
      subst h1
      unfold mayE
      rw [show homeF (s.adv t).hs m = some b from hm]
      simp only [Ad4.eqB_self, if_true]
    | none =>
      simp only [hm] at ho
      -- an address of a slot that is nobody's, and is free or m's
      have may : ∀ (i : Nat) (x : Sd), s.l[i]? = some x → x.ad = a → x.fx = false → (x.freeB (s.adv t).now = true ∨ x.heldB m (s.adv t).now = true) → mayE (s.adv t) m a = 0 := by
        intro i x hx hxa hxf hb
        have hf := (hok.srt).found hx rfl
        unfold mayE
        rw [show homeF (s.adv t).hs m = none from hm]
        have hnum : a.num = x.num := by rw [← hxa]; rfl
        simp only [hnum]
        rw [show sfhas (s.adv t).l x.num = true from hf.2, if_pos rfl, show sfpos (s.adv t).l x.num = i from hf.1, show (s.adv t).l[i]? = some x from hx]
        simp only [hxf, Bool.false_eq_true, if_false]
        rcases hb with hb | hb <;> simp [hb]
      cases hf : hldF m (s.adv t).now s.l with
      | some i =>
        obtain ⟨x, hx, hb⟩ := hldF_at hf
        simp only [hf, hx, Option.map_some, Option.getD_some] at ho
        injection ho with h1 h2
        have hl : x.liveB (s.adv t).now = true ∧ x.m.eqB m = true := by unfold Sd.heldB at hb; simpa using hb
        have hfx := (h.adv t).f i x hx hl.1
        have hxf : x.fx = false := by
          cases e : x.fx with
          | false => rfl
          | true =>
            rw [e, if_pos rfl, Mc6.eqB_iff.1 hl.2] at hfx
            rw [show homeF (s.adv t).hs m = none from hm] at hfx
            cases hfx
        exact may i x hx h1 hxf (.inr hb)
      | none =>
        simp only [hf] at ho
        cases hs_ : sfhas s.l w.num with
        | true =>
          obtain ⟨x, hx, hxa⟩ := sfhas_at hs_
          simp only [hs_, hx, Bool.true_and] at ho
          cases hfr : x.freeB (s.adv t).now with
          | true =>
            simp only [hfr, if_true] at ho
            injection ho with h1 h2
            subst h1
            have hxf : x.fx = false := by unfold Sd.freeB at hfr; simp only [Bool.and_eq_true, Bool.not_eq_true'] at hfr; exact hfr.1
            exact may _ x hx hxa hxf (.inl hfr)
          | false =>
            simp only [hfr, Bool.false_eq_true, if_false] at ho
            cases hb : bestF m (s.adv t).now s.l s.l.length with
            | none => simp only [hb] at ho; injection ho with h1 h2; cases h2
            | some k =>
              obtain ⟨y, hy, hyf⟩ := bestF_free m (s.adv t).now s.l _ _ (Nat.le_refl _) hb
              simp only [hb, hy, Option.map_some, Option.getD_some] at ho
              injection ho with h1 h2
              have hxf : y.fx = false := by unfold Sd.freeB at hyf; simp only [Bool.and_eq_true, Bool.not_eq_true'] at hyf; exact hyf.1
              exact may k y hy h1 hxf (.inl hyf)
        | false =>
          simp only [hs_, Bool.false_and, Bool.false_eq_true, if_false] at ho
          cases hb : bestF m (s.adv t).now s.l s.l.length with
          | none => simp only [hb] at ho; injection ho with h1 h2; cases h2
          | some k =>
            obtain ⟨y, hy, hyf⟩ := bestF_free m (s.adv t).now s.l _ _ (Nat.le_refl _) hb
            simp only [hb, hy, Option.map_some, Option.getD_some] at ho
            injection ho with h1 h2
            have hxf : y.fx = false := by unfold Sd.freeB at hyf; simp only [Bool.and_eq_true, Bool.not_eq_true'] at hyf; exact hyf.1
            exact may k y hy h1 hxf (.inl hyf)
  unfold takeS
  rw [hp, if_pos rfl, hst, key]
  rfl
/-- The live leases: no two of one address, or of one Mac. -/
theorem Inv.apart {s : St} (h : Inv H P s) (hok : s.ok) : (allO s.now s.l).Pairwise (fun a b => a.ad ≠ b.ad ∧ a.m ≠ b.m) := by
  unfold allO
  rw [List.pairwise_map, List.pairwise_filter, List.pairwise_iff_getElem]
  intro i j hi hj hij lx ly
  have gx : s.l[i]? = some s.l[i] := List.getElem?_eq_getElem hi
  have gy : s.l[j]? = some s.l[j] := List.getElem?_eq_getElem hj
  refine ⟨fun e => ?_, fun e => ?_⟩
  · have hlt := hok.srt.lt hij gx gy
    have e' : s.l[i].ad = s.l[j].ad := e
    unfold Sd.num at hlt
    rw [e'] at hlt
    omega
  · have := h.u i j _ _ gx gy lx ly e
    omega
theorem Inv.good {s : St} (h : Inv H P s) {e : Le} (he : e ∈ allO s.now s.l) : ∃ x ∈ s.l, e.ad = x.ad ∧ P x.ad x.fx ∧ if x.fx = true then homeF s.hs e.m = some e.ad else homeF s.hs e.m = none := by
  unfold allO at he
  obtain ⟨x, hx, rfl⟩ := List.mem_map.1 he
  rw [List.mem_filter] at hx
  obtain ⟨i, hi⟩ := List.getElem?_of_mem hx.1
  exact ⟨x, hx.1, rfl, h.k i x hi, h.f i x hi hx.2⟩
end Go.Proofs.Ythcjepafcemmnaa
