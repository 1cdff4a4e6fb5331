/- Texts put together: Dsf, Shelf, Dn3. -/
import Derived.Test.YtjedknjlpeccbaaQ1
import Derived.Test.YtjedknjlpeccbaaQ2
import Derived.Lib.IndexLaws
namespace Go.Proofs.Ytjedknjlpeccbaa
theorem nAt_mid (p x r : List UInt8) (k : Nat) (h : x.length = k) : nAt (p ++ (x ++ r)) p.length k = be x := by
 unfold nAt
 rw [List.drop_left, ← h, List.take_left]
theorem be_two16 {v : Int} (h : h16 v = true) : ((be (two v) : Nat) : Int) = v := by
 have := h16_is h
 have := be_byteOf v
 omega
theorem two_len (v : Int) : (two v).length = 2 := rfl
theorem four_len (v : Int) : (four v).length = 4 := rfl
theorem put_len (l : List (List UInt8)) : (putN l).length = sizeN l + 1 := by rw [putN, List.length_append, enc_len]; rfl
theorem getN_putr {p : List UInt8} {l : List (List UInt8)} (h : goodN l = true) (r : List UInt8) : getN (p ++ (putN l ++ r)) (p.length : Int) = (l, p.length + (putN l).length, 0) := by
 have h1 := good_all h
 have h2 := good_size h
 have h3 := size_ge l
 unfold getN
 rw [if_neg (by omega), Int.toNat_natCast]
 have e := getF_run l (400 - l.length) p ([0] ++ r) 0 0 1 [] h1 h2
 rw [show 400 - l.length + l.length = 400 by omega] at e
 rw [show p ++ (putN l ++ r) = p ++ (encL l ++ ([0] ++ r)) by simp [putN], e, show 400 - l.length = (399 - l.length) + 1 by omega, getF_end (c := 0) (by rw [← List.append_assoc, List.getElem?_append_right (Nat.le_refl _)]; simp) rfl, put_len]
 simp [enc_len]
 omega
theorem qAt_enc {q : Qn} (h : okQ q = true) (p s : List UInt8) : qAt (p ++ (encQ q ++ s)) p.length = .ok (q, p.length + (encQ q).length) := by
 unfold okQ at h
 rw [Bool.and_eq_true, Bool.and_eq_true] at h
 obtain ⟨⟨h1, h2⟩, h3⟩ := h
 have e : p ++ (encQ q ++ s) = p ++ (putN q.name ++ (two q.t ++ (two q.k ++ s))) := by simp [encQ]
 have g := getN_putr (p := p) h1 (two q.t ++ (two q.k ++ s))
 rw [← e] at g
 have ez : (getN (p ++ (encQ q ++ s)) (p.length : Int)).2.2 = 0 := by rw [g]
 have en : (getN (p ++ (encQ q ++ s)) (p.length : Int)).2.1 = (p ++ putN q.name).length := by rw [g, List.length_append]
 have el : (getN (p ++ (encQ q ++ s)) (p.length : Int)).1 = q.name := by rw [g]
 have ln : (p ++ (encQ q ++ s)).length = (p ++ putN q.name).length + 4 + s.length := by rw [e]; simp [two_len]; omega
 rw [qAt_yes ez (by rw [ln, en]; omega), el, en]
 have n1 : nAt (p ++ (encQ q ++ s)) (p ++ putN q.name).length 2 = be (two q.t) := by
  rw [e, show p ++ (putN q.name ++ (two q.t ++ (two q.k ++ s))) = (p ++ putN q.name) ++ (two q.t ++ (two q.k ++ s)) by simp]
  exact nAt_mid _ _ _ 2 rfl
 have n2 : nAt (p ++ (encQ q ++ s)) ((p ++ putN q.name).length + 2) 2 = be (two q.k) := by
  rw [e, show p ++ (putN q.name ++ (two q.t ++ (two q.k ++ s))) = (p ++ putN q.name ++ two q.t) ++ (two q.k ++ s) by simp, show (p ++ putN q.name).length + 2 = (p ++ putN q.name ++ two q.t).length by rw [List.length_append (bs := two q.t)]; rfl]
  exact nAt_mid _ _ _ 2 rfl
 rw [n1, n2, be_two16 h2, be_two16 h3]
 congr 2
 simp [encQ, two_len]
 omega
/-- Data that is written as it is read. -/
def okD (t : Int) (d : List UInt8) : Prop :=
 if t = 2 ∨ t = 5 ∨ t = 12 then ∃ l, goodN l = true ∧ d = putN l
 else if t = 15 then ∃ (x : List UInt8) (l : List (List UInt8)), x.length = 2 ∧ goodN l = true ∧ d = x ++ putN l
 else if t = 6 then ∃ (l1 l2 : List (List UInt8)) (s : List UInt8), goodN l1 = true ∧ goodN l2 = true ∧ s.length = 20 ∧ d = putN l1 ++ (putN l2 ++ s)
 else True
theorem goE_one {b d : List UInt8} {a k a2 : Nat} {l : List (List UInt8)} (h : getN b (a : Int) = (l, a2, 0)) : goE b (k + 1) a d = goE b k a2 (d ++ putN l) := by
 rw [goE, h]; rfl
theorem dAt_enc {t : Int} {d : List UInt8} (h : okD t d) (p r : List UInt8) : dAt (p ++ (d ++ r)) t p.length d.length = .ok d := by
 unfold dAt
 have et : (p ++ (d ++ r)).take (p.length + d.length) = p ++ d := by
  rw [← List.append_assoc, ← List.length_append, List.take_left]
 rw [if_neg (by simp), et]
 have key : expE (p ++ d) p.length (lay t d.length).1 (lay t d.length).2.1 (lay t d.length).2.2 = some d := by
  unfold okD at h
  unfold lay
  split at h
  ·rename_i ht
   obtain ⟨l, hg, rfl⟩ := h
   rw [if_pos ht]
   dsimp only
   unfold expE
   have g := getN_putr (p := p) hg []
   rw [List.append_nil] at g
   rw [if_neg (by simp), show p.length + 0 = p.length from rfl, goE_one g]
   simp [goE]
  ·rename_i ht
   rw [if_neg ht]
   split at h
   ·rename_i ht2
    obtain ⟨x, l, hx, hg, rfl⟩ := h
    rw [if_pos ht2]
    dsimp only
    unfold expE
    have g := getN_putr (p := p ++ x) hg []
    rw [List.append_nil, List.append_assoc, List.length_append, hx] at g
    rw [if_neg (by simp [hx]), goE_one g]
    simp [goE, ← hx]
    omega
   ·rename_i ht2
    rw [if_neg ht2]
    split at h
    ·rename_i ht3
     obtain ⟨l1, l2, s, h1, h2, hs, rfl⟩ := h
     rw [if_pos ht3]
     dsimp only
     unfold expE
     have g := getN_putr (p := p) h1 (putN l2 ++ s)
     have g2 := getN_putr (p := p ++ putN l1) h2 s
     rw [List.append_assoc, List.length_append] at g2
     rw [if_neg (by simp), show p.length + 0 = p.length from rfl, goE_one g, goE_one g2]
     have ed : (p ++ (putN l1 ++ (putN l2 ++ s))).drop (p.length + (putN l1).length + (putN l2).length) = s := by
      rw [show p ++ (putN l1 ++ (putN l2 ++ s)) = (p ++ putN l1 ++ putN l2) ++ s by simp, show p.length + (putN l1).length + (putN l2).length = (p ++ putN l1 ++ putN l2).length by rw [List.length_append, List.length_append], List.drop_left]
     simp only [goE]
     rw [if_pos (by simp [hs]; omega), ed, ← hs, List.take_length]
     simp
    ·rename_i ht3
     rw [if_neg ht3]
     dsimp only
     unfold expE
     simp [goE]
 rw [key]
theorem dAt_okD {b d : List UInt8} {t : Int} {a n : Nat} (h : dAt b t a n = .ok d) : okD t d ∧ d.length ≤ b.length + 600 ∧ a + n ≤ b.length := by
 unfold dAt at h
 split at h
 ·cases h
 ·rename_i hl
  split at h
  ·cases h
  ·rename_i d2 hx
   injection h with h
   subst h
   have hlen : (b.take (a + n)).length = a + n := by rw [List.length_take]; omega
   generalize hb : b.take (a + n) = c at hx hlen
   unfold lay at hx
   have gs : ∀ i : Int, (putN (getN c i).1).length ≤ 255 := fun i => by
    have := good_size (getN_good c i)
    rw [put_len]; omega
   unfold okD
   split at hx
   ·rename_i ht
    rw [if_pos ht]
    dsimp only at hx
    unfold expE at hx
    split at hx
    ·cases hx
    ·rw [goE] at hx
     split at hx
     ·cases hx
     ·rename_i d3 a3 h3
      split at h3
      ·cases h3
      ·rw [goE] at h3
       injection h3 with h3
       injection h3 with h4 h5
       subst h4
       split at hx
       ·injection hx with hx
        have := gs ((a + 0 : Nat) : Int)
        subst hx
        exact ⟨⟨(getN c ((a + 0 : Nat) : Int)).1, getN_good c _, by simp⟩, by simp at this ⊢; omega, by omega⟩
       ·cases hx
   ·rename_i ht
    rw [if_neg ht]
    split at hx
    ·rename_i ht2
     rw [if_pos ht2]
     dsimp only at hx
     unfold expE at hx
     split at hx
     ·cases hx
     ·rename_i hl2
      rw [goE] at hx
      split at hx
      ·cases hx
      ·rename_i d3 a3 h3
       split at h3
       ·cases h3
       ·rw [goE] at h3
        injection h3 with h3
        injection h3 with h4 h5
        subst h4
        split at hx
        ·injection hx with hx
         have := gs ((a + 2 : Nat) : Int)
         subst hx
         have hx2 : ((c.drop a).take 2).length = 2 := by rw [List.length_take, List.length_drop]; omega
         refine ⟨⟨(c.drop a).take 2, (getN c ((a + 2 : Nat) : Int)).1, hx2, getN_good c _, by simp⟩, ?_, by omega⟩
         rw [List.length_append, List.length_append, hx2]
         simp at this ⊢; omega
        ·cases hx
    ·rename_i ht2
     rw [if_neg ht2]
     split at hx
     ·rename_i ht3
      rw [if_pos ht3]
      dsimp only at hx
      unfold expE at hx
      split at hx
      ·cases hx
      ·rw [goE] at hx
       split at hx
       ·cases hx
       ·rename_i d3 a3 h3
        split at h3
        ·cases h3
        ·rw [goE] at h3
         split at h3
         ·cases h3
         ·rw [goE] at h3
          injection h3 with h3
          injection h3 with h4 h5
          split at hx
          ·rename_i h6
           injection hx with hx
           have g1 := gs ((a + 0 : Nat) : Int)
           have g2 := gs ((getN c ((a + 0 : Nat) : Int)).2.1 : Int)
           subst hx
           subst h4
           have hx2 : ((c.drop a3).take 20).length = 20 := by rw [List.length_take, List.length_drop]; omega
           refine ⟨⟨(getN c ((a + 0 : Nat) : Int)).1, (getN c ((getN c ((a + 0 : Nat) : Int)).2.1 : Int)).1, (c.drop a3).take 20, getN_good c _, getN_good c _, hx2, by simp⟩, ?_, by omega⟩
           rw [List.length_append, List.length_append, List.length_append, hx2]
           simp at g1 g2 ⊢; omega
          ·cases hx
     ·rename_i ht3
      rw [if_neg ht3]
      dsimp only at hx
      unfold expE at hx
      split at hx
      ·cases hx
      ·rw [goE] at hx
       dsimp only at hx
       split at hx
       ·injection hx with hx
        subst hx
        refine ⟨trivial, ?_, by omega⟩
        rw [List.length_append, List.length_take, List.length_take]
        omega
       ·cases hx
theorem encR_q (r : Rn) : encR r = encQ ⟨r.name, r.t, r.k⟩ ++ (four r.ttl ++ (two (r.data.length : Int) ++ r.data)) := by simp [encR, encQ]
/-- A record that is read as it is written. -/
def wfR (r : Rn) : Prop := okR r = true ∧ okD r.t r.data ∧ 0 ≤ r.ttl ∧ r.ttl < 4294967296
theorem okR_is {r : Rn} (h : okR r = true) : okQ ⟨r.name, r.t, r.k⟩ = true ∧ r.data.length ≤ 65535 := by
 unfold okR at h
 rw [Bool.and_eq_true] at h
 exact ⟨h.1, of_decide_eq_true h.2⟩
theorem rAt_enc {r : Rn} (h : wfR r) (p s : List UInt8) : rAt (p ++ (encR r ++ s)) p.length = .ok (r, p.length + (encR r).length) := by
 obtain ⟨h1, h2, h3, h4⟩ := h
 obtain ⟨h5, h6⟩ := okR_is h1
 have e : p ++ (encR r ++ s) = p ++ (encQ ⟨r.name, r.t, r.k⟩ ++ (four r.ttl ++ (two (r.data.length : Int) ++ (r.data ++ s)))) := by rw [encR_q]; simp
 have g := qAt_enc h5 p (four r.ttl ++ (two (r.data.length : Int) ++ (r.data ++ s)))
 rw [← e] at g
 generalize ha : encQ ⟨r.name, r.t, r.k⟩ = Q at e g
 have e1 : p ++ (encR r ++ s) = (p ++ Q) ++ (four r.ttl ++ (two (r.data.length : Int) ++ (r.data ++ s))) := by rw [e]; simp
 have e2 : p ++ (encR r ++ s) = (p ++ Q ++ four r.ttl) ++ (two (r.data.length : Int) ++ (r.data ++ s)) := by rw [e]; simp
 have e3 : p ++ (encR r ++ s) = (p ++ Q ++ four r.ttl ++ two (r.data.length : Int)) ++ (r.data ++ s) := by rw [e]; simp
 have l1 : (p ++ Q).length = p.length + Q.length := List.length_append
 have l2 : (p ++ Q ++ four r.ttl).length = p.length + Q.length + 4 := by rw [List.length_append, l1]; rfl
 have l3 : (p ++ Q ++ four r.ttl ++ two (r.data.length : Int)).length = p.length + Q.length + 6 := by rw [List.length_append, l2]; rfl
 have n1 : nAt (p ++ (encR r ++ s)) (p.length + Q.length) 4 = be (four r.ttl) := by rw [e1, ← l1]; exact nAt_mid _ _ _ 4 rfl
 have n2 : nAt (p ++ (encR r ++ s)) (p.length + Q.length + 4) 2 = r.data.length := by
  have : nAt (p ++ (encR r ++ s)) (p.length + Q.length + 4) 2 = be (two (r.data.length : Int)) := by rw [e2, ← l2]; exact nAt_mid _ _ _ 2 rfl
  rw [this]
  have := be_two16 (v := (r.data.length : Int)) (h16_of (by omega) (by omega))
  omega
 have d := dAt_enc h2 (p ++ Q ++ four r.ttl ++ two (r.data.length : Int)) s
 rw [← e3, l3] at d
 have b4 : ((be (four r.ttl) : Nat) : Int) = r.ttl := by have := be_four r.ttl; omega
 have ln : (p ++ (encR r ++ s)).length = p.length + Q.length + 6 + r.data.length + s.length := by rw [e3, List.length_append, l3, List.length_append]; omega
 unfold rAt
 rw [g]
 dsimp only
 rw [if_neg (by omega), n2, d]
 dsimp only
 rw [n1, b4]
 congr 2
 have : (encR r).length = Q.length + 6 + r.data.length := by rw [encR_q, ha]; simp [four_len, two_len]; omega
 omega
theorem goL_enc {α : Type} {F : List UInt8 → Nat → Except Nat (α × Nat)} {enc : α → List UInt8} : ∀ (L : List α) (p s : List UInt8) (M : List α), (∀ x ∈ L, ∀ p s, F (p ++ (enc x ++ s)) p.length = .ok (x, p.length + (enc x).length)) →
  goL (F (p ++ (L.flatMap enc ++ s))) L.length p.length M = .ok (M ++ L, p.length + (L.flatMap enc).length)
 | [], p, s, M, _ => by simp [goL]
 | x :: L, p, s, M, h => by
  have e : p ++ ((x :: L).flatMap enc ++ s) = p ++ (enc x ++ (L.flatMap enc ++ s)) := by simp
  have e2 : p ++ ((x :: L).flatMap enc ++ s) = (p ++ enc x) ++ (L.flatMap enc ++ s) := by simp
  have g := h x (by simp) p (L.flatMap enc ++ s)
  rw [← e] at g
  rw [List.length_cons, goL_yes g, e2, ← List.length_append, goL_enc L (p ++ enc x) s (M ++ [x]) (fun y hy => h y (by simp [hy]))]
  congr 2
  ·simp
  ·simp; omega
/-- A message that is read as it is written. -/
def wfM (m : Mn) : Prop := okM m = true ∧ ∀ r ∈ allR m, wfR r
theorem okM_is {m : Mn} (h : okM m = true) : h16 m.id = true ∧ h16 m.fl = true ∧ partsM m ≤ 64 ∧ (∀ q ∈ m.q, okQ q = true) ∧ ∀ r ∈ allR m, okR r = true := by
 unfold okM at h
 rw [Bool.and_eq_true, Bool.and_eq_true, Bool.and_eq_true, Bool.and_eq_true] at h
 exact ⟨h.1.1.1.1, h.1.1.1.2, of_decide_eq_true h.1.1.2, List.all_eq_true.1 h.1.2, List.all_eq_true.1 h.2⟩
theorem okM_of {m : Mn} (h1 : h16 m.id = true) (h2 : h16 m.fl = true) (h3 : partsM m ≤ 64) (h4 : ∀ q ∈ m.q, okQ q = true) (h5 : ∀ r ∈ allR m, okR r = true) : okM m = true := by
 unfold okM
 rw [Bool.and_eq_true, Bool.and_eq_true, Bool.and_eq_true, Bool.and_eq_true]
 exact ⟨⟨⟨⟨h1, h2⟩, decide_eq_true h3⟩, List.all_eq_true.2 h4⟩, List.all_eq_true.2 h5⟩
theorem head_len (m : Mn) : (headM m).length = 12 := rfl
theorem nAt_two {v : Int} {k : Nat} (hv : v = (k : Int)) (hk : k ≤ 64) (p r : List UInt8) : nAt (p ++ (two v ++ r)) p.length 2 = k := by
 rw [nAt_mid _ _ _ 2 rfl]
 have := be_two16 (v := v) (h16_of (by omega) (by omega))
 omega
theorem getM_enc {m : Mn} (h : wfM m) (hl : (encM m).length ≤ 1472) : getM (encM m) = .ok m := by
 obtain ⟨h1, h2⟩ := h
 obtain ⟨g1, g2, g3, g4, g5⟩ := okM_is h1
 unfold partsM at g3
 have e : encM m = two m.id ++ (two m.fl ++ (two (m.q.length : Int) ++ (two (m.a.length : Int) ++ (two (m.o.length : Int) ++ (two (m.m.length : Int) ++ (m.q.flatMap encQ ++ (m.a.flatMap encR ++ (m.o.flatMap encR ++ m.m.flatMap encR)))))))) := by simp [encM, headM, allR]
 have n0 : ((nAt (encM m) 0 2 : Nat) : Int) = m.id := by
  rw [e]
  have := nAt_mid [] (two m.id) (two m.fl ++ (two (m.q.length : Int) ++ (two (m.a.length : Int) ++ (two (m.o.length : Int) ++ (two (m.m.length : Int) ++ (m.q.flatMap encQ ++ (m.a.flatMap encR ++ (m.o.flatMap encR ++ m.m.flatMap encR)))))))) 2 rfl
  rw [List.nil_append] at this
  rw [show (0 : Nat) = ([] : List UInt8).length from rfl, this, be_two16 g1]
 have n2 : ((nAt (encM m) 2 2 : Nat) : Int) = m.fl := by
  rw [e]
  have := nAt_mid (two m.id) (two m.fl) (two (m.q.length : Int) ++ (two (m.a.length : Int) ++ (two (m.o.length : Int) ++ (two (m.m.length : Int) ++ (m.q.flatMap encQ ++ (m.a.flatMap encR ++ (m.o.flatMap encR ++ m.m.flatMap encR))))))) 2 rfl
  rw [two_len] at this
  rw [this, be_two16 g2]
 have n4 : nAt (encM m) 4 2 = m.q.length := by
  rw [e, show two m.id ++ (two m.fl ++ (two (m.q.length : Int) ++ (two (m.a.length : Int) ++ (two (m.o.length : Int) ++ (two (m.m.length : Int) ++ (m.q.flatMap encQ ++ (m.a.flatMap encR ++ (m.o.flatMap encR ++ m.m.flatMap encR)))))))) = (two m.id ++ two m.fl) ++ (two (m.q.length : Int) ++ (two (m.a.length : Int) ++ (two (m.o.length : Int) ++ (two (m.m.length : Int) ++ (m.q.flatMap encQ ++ (m.a.flatMap encR ++ (m.o.flatMap encR ++ m.m.flatMap encR))))))) by simp]
  exact nAt_two rfl (by omega) (two m.id ++ two m.fl) _
 have n6 : nAt (encM m) 6 2 = m.a.length := by
  rw [e, show two m.id ++ (two m.fl ++ (two (m.q.length : Int) ++ (two (m.a.length : Int) ++ (two (m.o.length : Int) ++ (two (m.m.length : Int) ++ (m.q.flatMap encQ ++ (m.a.flatMap encR ++ (m.o.flatMap encR ++ m.m.flatMap encR)))))))) = (two m.id ++ two m.fl ++ two (m.q.length : Int)) ++ (two (m.a.length : Int) ++ (two (m.o.length : Int) ++ (two (m.m.length : Int) ++ (m.q.flatMap encQ ++ (m.a.flatMap encR ++ (m.o.flatMap encR ++ m.m.flatMap encR)))))) by simp]
  exact nAt_two rfl (by omega) (two m.id ++ two m.fl ++ two (m.q.length : Int)) _
 have n8 : nAt (encM m) 8 2 = m.o.length := by
  rw [e, show two m.id ++ (two m.fl ++ (two (m.q.length : Int) ++ (two (m.a.length : Int) ++ (two (m.o.length : Int) ++ (two (m.m.length : Int) ++ (m.q.flatMap encQ ++ (m.a.flatMap encR ++ (m.o.flatMap encR ++ m.m.flatMap encR)))))))) = (two m.id ++ two m.fl ++ two (m.q.length : Int) ++ two (m.a.length : Int)) ++ (two (m.o.length : Int) ++ (two (m.m.length : Int) ++ (m.q.flatMap encQ ++ (m.a.flatMap encR ++ (m.o.flatMap encR ++ m.m.flatMap encR))))) by simp]
  exact nAt_two rfl (by omega) (two m.id ++ two m.fl ++ two (m.q.length : Int) ++ two (m.a.length : Int)) _
 have n10 : nAt (encM m) 10 2 = m.m.length := by
  rw [e, show two m.id ++ (two m.fl ++ (two (m.q.length : Int) ++ (two (m.a.length : Int) ++ (two (m.o.length : Int) ++ (two (m.m.length : Int) ++ (m.q.flatMap encQ ++ (m.a.flatMap encR ++ (m.o.flatMap encR ++ m.m.flatMap encR)))))))) = (two m.id ++ two m.fl ++ two (m.q.length : Int) ++ two (m.a.length : Int) ++ two (m.o.length : Int)) ++ (two (m.m.length : Int) ++ (m.q.flatMap encQ ++ (m.a.flatMap encR ++ (m.o.flatMap encR ++ m.m.flatMap encR)))) by simp]
  exact nAt_two rfl (by omega) (two m.id ++ two m.fl ++ two (m.q.length : Int) ++ two (m.a.length : Int) ++ two (m.o.length : Int)) _
 have x0 : encM m = headM m ++ (m.q.flatMap encQ ++ (m.a.flatMap encR ++ (m.o.flatMap encR ++ m.m.flatMap encR))) := by simp [encM, allR]
 have x1 : encM m = (headM m ++ m.q.flatMap encQ) ++ (m.a.flatMap encR ++ (m.o.flatMap encR ++ m.m.flatMap encR)) := by simp [encM, allR]
 have x2 : encM m = (headM m ++ m.q.flatMap encQ ++ m.a.flatMap encR) ++ (m.o.flatMap encR ++ m.m.flatMap encR) := by simp [encM, allR]
 have x3 : encM m = (headM m ++ m.q.flatMap encQ ++ m.a.flatMap encR ++ m.o.flatMap encR) ++ (m.m.flatMap encR ++ []) := by simp [encM, allR]
 have y0 := goL_enc (F := qAt) m.q (headM m) (m.a.flatMap encR ++ (m.o.flatMap encR ++ m.m.flatMap encR)) [] (fun q hq p s => qAt_enc (g4 q hq) p s)
 rw [← x0, head_len] at y0
 have y1 := goL_enc (F := rAt) m.a (headM m ++ m.q.flatMap encQ) (m.o.flatMap encR ++ m.m.flatMap encR) [] (fun r hr p s => rAt_enc (h2 r (by simp [allR, hr])) p s)
 rw [← x1, List.length_append, head_len] at y1
 have y2 := goL_enc (F := rAt) m.o (headM m ++ m.q.flatMap encQ ++ m.a.flatMap encR) (m.m.flatMap encR) [] (fun r hr p s => rAt_enc (h2 r (by simp [allR, hr])) p s)
 rw [← x2, List.length_append, List.length_append, head_len] at y2
 have y3 := goL_enc (F := rAt) m.m (headM m ++ m.q.flatMap encQ ++ m.a.flatMap encR ++ m.o.flatMap encR) [] [] (fun r hr p s => rAt_enc (h2 r (by simp [allR, hr])) p s)
 rw [← x3, List.length_append, List.length_append, List.length_append, head_len] at y3
 have ln : (encM m).length = 12 + (m.q.flatMap encQ).length + (m.a.flatMap encR).length + (m.o.flatMap encR).length + (m.m.flatMap encR).length := by
  rw [x3, List.length_append, List.length_append, List.length_append, List.length_append, head_len, List.append_nil]
 unfold getM
 rw [if_neg (by omega), if_neg (by omega), if_neg (by rw [n4, n6, n8, n10]; omega), n4, n6, n8, n10, y0]
 dsimp only
 rw [y1]
 dsimp only
 rw [y2]
 dsimp only
 rw [y3]
 dsimp only
 rw [if_pos (by omega), n0, n2]
 simp
theorem nAt_16 {b : List UInt8} {i : Nat} (h : i + 2 ≤ b.length) : h16 ((nAt b i 2 : Nat) : Int) = true := by have := nAt_lt2 b i h; exact h16_of (by omega) (by omega)
theorem rAt_ok {b : List UInt8} {a a2 : Nat} {r : Rn} (hb : b.length ≤ 60000) (h : rAt b a = .ok (r, a2)) : wfR r ∧ a2 ≤ b.length := by
 unfold rAt at h
 split at h
 ·cases h
 ·rename_i q a1 hq
  have h1 := qAt_ok hq
  split at h
  ·cases h
  ·rename_i h6
   split at h
   ·cases h
   ·rename_i d hd
    injection h with h
    injection h with h3 h4
    subst h3; subst h4
    obtain ⟨d1, d2, d3⟩ := dAt_okD hd
    have n4 := nAt_lt4 b a1 (by omega)
    refine ⟨⟨?_, d1, Int.natCast_nonneg _, by show ((nAt b a1 4 : Nat) : Int) < _; omega⟩, d3⟩
    unfold okR
    rw [Bool.and_eq_true]
    exact ⟨h1.1, decide_eq_true (show d.length ≤ 65535 by omega)⟩
theorem getM_ok {b : List UInt8} {m : Mn} (h : getM b = .ok m) : wfM m ∧ b.length ≤ 1472 ∧ 12 ≤ b.length := by
 unfold getM at h
 split at h
 ·cases h
 ·rename_i h1
  split at h
  ·cases h
  ·rename_i h2
   split at h
   ·cases h
   ·rename_i h3
    split at h
    ·cases h
    ·rename_i q a1 hq
     split at h
     ·cases h
     ·rename_i a a2 ha
      split at h
      ·cases h
      ·rename_i o a3 ho
       split at h
       ·cases h
       ·rename_i x a4 hx
        split at h
        ·rename_i h4
         injection h with h
         subst h
         obtain ⟨q1, q2, q3⟩ := goL_all (P := fun q => okQ q = true) (n := b.length) (fun _ _ _ h => qAt_ok h) _ _ _ _ _ (by simp) (by omega) hq
         obtain ⟨b1, b2, b3⟩ := goL_all (P := wfR) (n := b.length) (fun _ _ _ h => rAt_ok (by omega) h) _ _ _ _ _ (by simp) q2 ha
         obtain ⟨c1, c2, c3⟩ := goL_all (P := wfR) (n := b.length) (fun _ _ _ h => rAt_ok (by omega) h) _ _ _ _ _ (by simp) b2 ho
         obtain ⟨d1, d2, d3⟩ := goL_all (P := wfR) (n := b.length) (fun _ _ _ h => rAt_ok (by omega) h) _ _ _ _ _ (by simp) c2 hx
         have w : ∀ r ∈ a ++ o ++ x, wfR r := fun r hr => by
          rcases List.mem_append.1 hr with hr | hr
          ·rcases List.mem_append.1 hr with hr | hr
           ·exact b1 r hr
           ·exact c1 r hr
          ·exact d1 r hr
         refine ⟨⟨okM_of (nAt_16 (by omega)) (nAt_16 (by omega)) ?_ q1 (fun r hr => (w r hr).1), w⟩, by omega, by omega⟩
         show q.length + a.length + o.length + x.length ≤ 64
         simp only [List.length_nil] at q3 b3 c3 d3
         omega
        ·cases h
theorem put_of_get {b : List UInt8} {m : Mn} (h : getM b = .ok m) : putM m = if (encM m).length ≤ 1472 then (encM m, 0) else ([], 2) := by
 unfold putM
 rw [if_pos (getM_ok h).1.1]
theorem get_put {b : List UInt8} {m : Mn} (h : getM b = .ok m) (hl : (encM m).length ≤ 1472) : getM (encM m) = .ok m := getM_enc (getM_ok h).1 hl

open Go.RowKit

theorem wpList_min {P : Program} {w : World} {ops : Array Oper} {rest : List Oper} {o : Oper} {a : Act} {Q : Exit → Act → World → Prop} (hgd : o.guard = none) (s x : Operand) (t tn : TypeId)
  (ho : o.op = .call { callee := .builtin .min, args := #[s, x], argTypes := #[t, tn] }) (k : IntKind) (i j m : Int) (hs : a.eval s = .int k i) (hx : a.eval x = .int k j) (hm : (if j < i then j else i) = m)
  (h : wpList P ops Q rest (a.put o.dst (.int k m)) w) : wpList P ops Q (o :: rest) a w := by
 subst hm
 refine wpList_wanted (by simp [Region.wanted, hgd]) fun K hK => ?_
 have hr : (Builtin.min_ #[t, tn] o.type #[.int k i, .int k j]).run P w = .ok (.int k (if j < i then j else i)) w := by
  simp [Builtin.min_, Builtin.min2]
 unfold Oper.wp execOp
 simp only [ho, resolve, invoke, builtin, Sem.run_bind, Sem.run_pure, Result.andThen_ok, List.map_toArray, List.map_cons, List.map_nil, hs, hx, hr]
 exact hK _ _ h
theorem owk_to {w : World} {B k n n' : Nat} {T : TypeId} {v : Value} {α : Type} {f : α → List Value} {l l' : List α} (h : w.ownsRow B T k v n (l.flatMap f)) (hn : n = n') (hl : l = l') : w.ownsRow B T k v n' (l'.flatMap f) := by subst hn; subst hl; exact h
end Go.Proofs.Ytjedknjlpeccbaa
