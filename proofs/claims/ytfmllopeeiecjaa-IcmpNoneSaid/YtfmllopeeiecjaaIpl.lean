/- Chapter 6's packets as lists: written and read back, passed over, cut off, a bit turned, a hop. -/
import Derived.Test.YtfmllopeeiecjaaIpr3
namespace Go.Proofs.Ytfmllopeeiecjaa
open Go.RowKit

theorem ok_of {h0 h1 h2 h3 h4 h5 h6 h7 h8 h9 h10 h11 h12 h13 h14 h15 h16 h17 h18 h19 : UInt8} {r : List UInt8} (g1 : h0.toNat / 16 = 4) (g2 : 20 ≤ hlen h0) (g3 : hlen h0 ≤ (h0 :: h1 :: h2 :: h3 :: h4 :: h5 :: h6 :: h7 :: h8 :: h9 :: h10 :: h11 :: h12 :: h13 :: h14 :: h15 :: h16 :: h17 :: h18 :: h19 :: r).length) (g4 : ck ((h0 :: h1 :: h2 :: h3 :: h4 :: h5 :: h6 :: h7 :: h8 :: h9 :: h10 :: h11 :: h12 :: h13 :: h14 :: h15 :: h16 :: h17 :: h18 :: h19 :: r).take (hlen h0)) = 0) (g5 : hlen h0 ≤ be [h2, h3]) (g6 : be [h2, h3] ≤ (h0 :: h1 :: h2 :: h3 :: h4 :: h5 :: h6 :: h7 :: h8 :: h9 :: h10 :: h11 :: h12 :: h13 :: h14 :: h15 :: h16 :: h17 :: h18 :: h19 :: r).length) : ipErr (h0 :: h1 :: h2 :: h3 :: h4 :: h5 :: h6 :: h7 :: h8 :: h9 :: h10 :: h11 :: h12 :: h13 :: h14 :: h15 :: h16 :: h17 :: h18 :: h19 :: r) = 0 := by
  unfold ipErr
  have e0 : (h0 :: h1 :: h2 :: h3 :: h4 :: h5 :: h6 :: h7 :: h8 :: h9 :: h10 :: h11 :: h12 :: h13 :: h14 :: h15 :: h16 :: h17 :: h18 :: h19 :: r).getD 0 0 = h0 := rfl
  have e1 : ((h0 :: h1 :: h2 :: h3 :: h4 :: h5 :: h6 :: h7 :: h8 :: h9 :: h10 :: h11 :: h12 :: h13 :: h14 :: h15 :: h16 :: h17 :: h18 :: h19 :: r).drop 2).take 2 = [h2, h3] := rfl
  rw [e0, e1, if_neg (by simp), if_neg (fun h => h.elim (fun h => h g1) (fun h => Nat.lt_irrefl _ (Nat.lt_of_lt_of_le h g2))), if_neg (by omega), if_neg (fun h => h g4), if_neg (by omega), if_neg (by omega)]
theorem drop20 {h0 h1 h2 h3 h4 h5 h6 h7 h8 h9 h10 h11 h12 h13 h14 h15 h16 h17 h18 h19 : UInt8} {r : List UInt8} (k : Nat) (h : 20 ≤ k) : (h0 :: h1 :: h2 :: h3 :: h4 :: h5 :: h6 :: h7 :: h8 :: h9 :: h10 :: h11 :: h12 :: h13 :: h14 :: h15 :: h16 :: h17 :: h18 :: h19 :: r).drop k = r.drop (k - 20) := by
  obtain ⟨j, rfl⟩ : ∃ j, k = j + 20 := ⟨k - 20, by omega⟩
  rw [Nat.add_sub_cancel]; rfl
theorem take20 {h0 h1 h2 h3 h4 h5 h6 h7 h8 h9 h10 h11 h12 h13 h14 h15 h16 h17 h18 h19 : UInt8} {r : List UInt8} (k : Nat) (h : 20 ≤ k) : (h0 :: h1 :: h2 :: h3 :: h4 :: h5 :: h6 :: h7 :: h8 :: h9 :: h10 :: h11 :: h12 :: h13 :: h14 :: h15 :: h16 :: h17 :: h18 :: h19 :: r).take k = h0 :: h1 :: h2 :: h3 :: h4 :: h5 :: h6 :: h7 :: h8 :: h9 :: h10 :: h11 :: h12 :: h13 :: h14 :: h15 :: h16 :: h17 :: h18 :: h19 :: r.take (k - 20) := by
  obtain ⟨j, rfl⟩ : ∃ j, k = j + 20 := ⟨k - 20, by omega⟩
  rw [Nat.add_sub_cancel]; rfl
theorem ipGet_at {h0 h1 h2 h3 h4 h5 h6 h7 h8 h9 h10 h11 h12 h13 h14 h15 h16 h17 h18 h19 : UInt8} {r : List UInt8} (h : ipErr (h0 :: h1 :: h2 :: h3 :: h4 :: h5 :: h6 :: h7 :: h8 :: h9 :: h10 :: h11 :: h12 :: h13 :: h14 :: h15 :: h16 :: h17 :: h18 :: h19 :: r) = 0) : ipGet (h0 :: h1 :: h2 :: h3 :: h4 :: h5 :: h6 :: h7 :: h8 :: h9 :: h10 :: h11 :: h12 :: h13 :: h14 :: h15 :: h16 :: h17 :: h18 :: h19 :: r) = (([(h1.toNat : Int), (be [h4, h5] : Nat), ((be [h6, h7] : Nat) : Int) / 8192, ((be [h6, h7] : Nat) : Int) % 8192, (h8.toNat : Int), (h9.toNat : Int)], [h12, h13, h14, h15, h16, h17, h18, h19]), (r.take (hlen h0 - 20), (r.drop (hlen h0 - 20)).take (be [h2, h3] - hlen h0)), 0) := by
  have g := (ok_parts h).2.1
  unfold ipGet
  rw [if_neg (by rw [h]; simp), ← drop20 (hlen h0) g]
  rfl

/-- The header of a packet with no sum yet. -/
def ipHd (tos id fl pt ttl pr : Int) (a0 a1 a2 a3 a4 a5 a6 a7 : UInt8) (op : List UInt8) (n : Nat) : List UInt8 :=
  byteOf (64 + (20 + op.length : Nat) / 4) :: byteOf tos :: byteOf ((20 + op.length + n : Nat) / 256) :: byteOf (20 + op.length + n : Nat) :: byteOf (id / 256) :: byteOf id :: byteOf ((fl * 8192 + pt) / 256) :: byteOf (fl * 8192 + pt) :: byteOf ttl :: byteOf pr :: 0 :: 0 :: a0 :: a1 :: a2 :: a3 :: a4 :: a5 :: a6 :: a7 :: op
/-- The bytes of a packet. -/
def ipBytes (tos id fl pt ttl pr : Int) (a0 a1 a2 a3 a4 a5 a6 a7 : UInt8) (op body : List UInt8) : List UInt8 :=
  (((ipHd tos id fl pt ttl pr a0 a1 a2 a3 a4 a5 a6 a7 op body.length).set 10 (byteOf (ck (ipHd tos id fl pt ttl pr a0 a1 a2 a3 a4 a5 a6 a7 op body.length) / 256))).set 11 (byteOf (ck (ipHd tos id fl pt ttl pr a0 a1 a2 a3 a4 a5 a6 a7 op body.length)))) ++ body
/-- Does every number fit its field? -/
def ipFits (tos id fl pt ttl pr : Int) (op : List UInt8) : Bool :=
  decide ((0 ≤ tos ∧ tos ≤ 255) ∧ (0 ≤ id ∧ id ≤ 65535) ∧ (0 ≤ fl ∧ fl ≤ 7) ∧ (0 ≤ pt ∧ pt ≤ 8191) ∧ (0 ≤ ttl ∧ ttl ≤ 255) ∧ (0 ≤ pr ∧ pr ≤ 255) ∧ op.length ≤ 40 ∧ op.length % 4 = 0)
/-- What Put answers: the bytes, the error. -/
def ipPut (tos id fl pt ttl pr : Int) (a0 a1 a2 a3 a4 a5 a6 a7 : UInt8) (op body : List UInt8) : List UInt8 × Int :=
  if ipFits tos id fl pt ttl pr op = false then ([], 1) else if 1500 < 20 + op.length + body.length then ([], 2) else (ipBytes tos id fl pt ttl pr a0 a1 a2 a3 a4 a5 a6 a7 op body, 0)

theorem byte_nat (v : Int) (h0 : 0 ≤ v) (h1 : v ≤ 255) : ((byteOf v).toNat : Int) = v := by rw [byteOf_val]; omega
theorem be_bytes (v : Int) (h0 : 0 ≤ v) (h1 : v ≤ 65535) : ((be [byteOf (v / 256), byteOf v] : Nat) : Int) = v := by
  have := be_byteOf v
  unfold two at this
  rw [this]; omega
/-- What is written is a packet, whatever stands behind it. -/
theorem put_good {tos id fl pt ttl pr : Int} {a0 a1 a2 a3 a4 a5 a6 a7 : UInt8} {op body : List UInt8} (hf : ipFits tos id fl pt ttl pr op = true) (hn : 20 + op.length + body.length ≤ 1500) (more : List UInt8) :
    ipErr (ipBytes tos id fl pt ttl pr a0 a1 a2 a3 a4 a5 a6 a7 op body ++ more) = 0 ∧ ipGet (ipBytes tos id fl pt ttl pr a0 a1 a2 a3 a4 a5 a6 a7 op body ++ more) = (([tos, id, fl, pt, ttl, pr], [a0, a1, a2, a3, a4, a5, a6, a7]), (op, body), 0) ∧
      (ipBytes tos id fl pt ttl pr a0 a1 a2 a3 a4 a5 a6 a7 op body).length = 20 + op.length + body.length ∧ hlen ((ipBytes tos id fl pt ttl pr a0 a1 a2 a3 a4 a5 a6 a7 op body).getD 0 0) = 20 + op.length ∧ be (((ipBytes tos id fl pt ttl pr a0 a1 a2 a3 a4 a5 a6 a7 op body).drop 2).take 2) = 20 + op.length + body.length := by
  obtain ⟨⟨t0, t1⟩, ⟨i0, i1⟩, ⟨f0, f1⟩, ⟨p0, p1⟩, ⟨l0, l1⟩, ⟨r0, r1⟩, o0, o1⟩ := of_decide_eq_true hf
  obtain ⟨s, hs⟩ : ∃ s : Nat, ck (ipHd tos id fl pt ttl pr a0 a1 a2 a3 a4 a5 a6 a7 op body.length) = s := ⟨(ck (ipHd tos id fl pt ttl pr a0 a1 a2 a3 a4 a5 a6 a7 op body.length)).toNat, by have := ck_bounds (ipHd tos id fl pt ttl pr a0 a1 a2 a3 a4 a5 a6 a7 op body.length); omega⟩
  have hs1 : s ≤ 65535 := by have := ck_bounds (ipHd tos id fl pt ttl pr a0 a1 a2 a3 a4 a5 a6 a7 op body.length); omega
  have ea : (byteOf ((s : Int) / 256)).toNat = s / 256 := by have := byteOf_val ((s : Int) / 256); omega
  have eb : (byteOf (s : Int)).toNat = s % 256 := by have := byteOf_val (s : Int); omega
  have fit := seal_fits (ipHd tos id fl pt ttl pr a0 a1 a2 a3 a4 a5 a6 a7 op body.length) 10 s _ _ rfl rfl rfl hs ea eb
  have ex : (64 : Int) + (20 + op.length : Nat) / 4 = ((64 + (20 + op.length) / 4 : Nat) : Int) := by omega
  have e0 : (byteOf (64 + (20 + op.length : Nat) / 4)).toNat = 64 + (20 + op.length) / 4 := by have := byteOf_val (64 + (20 + op.length : Nat) / 4); omega
  have eh : hlen (byteOf (64 + (20 + op.length : Nat) / 4)) = 20 + op.length := by unfold hlen; rw [e0]; omega
  have en : be [byteOf ((20 + op.length + body.length : Nat) / 256), byteOf (20 + op.length + body.length : Nat)] = 20 + op.length + body.length := by
    have := be_bytes (20 + op.length + body.length : Nat) (by omega) (by omega)
    exact Int.ofNat_inj.1 this
  have eL : ipBytes tos id fl pt ttl pr a0 a1 a2 a3 a4 a5 a6 a7 op body = byteOf (64 + (20 + op.length : Nat) / 4) :: byteOf tos :: byteOf ((20 + op.length + body.length : Nat) / 256) :: byteOf (20 + op.length + body.length : Nat) :: byteOf (id / 256) :: byteOf id :: byteOf ((fl * 8192 + pt) / 256) :: byteOf (fl * 8192 + pt) :: byteOf ttl :: byteOf pr :: byteOf ((s : Int) / 256) :: byteOf (s : Int) :: a0 :: a1 :: a2 :: a3 :: a4 :: a5 :: a6 :: a7 :: (op ++ body) := by
    unfold ipBytes
    rw [hs]
    rfl
  have eF : ((ipHd tos id fl pt ttl pr a0 a1 a2 a3 a4 a5 a6 a7 op body.length).set 10 (byteOf ((s : Int) / 256))).set 11 (byteOf (s : Int)) = byteOf (64 + (20 + op.length : Nat) / 4) :: byteOf tos :: byteOf ((20 + op.length + body.length : Nat) / 256) :: byteOf (20 + op.length + body.length : Nat) :: byteOf (id / 256) :: byteOf id :: byteOf ((fl * 8192 + pt) / 256) :: byteOf (fl * 8192 + pt) :: byteOf ttl :: byteOf pr :: byteOf ((s : Int) / 256) :: byteOf (s : Int) :: a0 :: a1 :: a2 :: a3 :: a4 :: a5 :: a6 :: a7 :: op := rfl
  rw [eF] at fit
  clear hs ea eb eF
  generalize byteOf ((s : Int) / 256) = sa at *
  generalize byteOf (s : Int) = sb at *
  have eT : (ipBytes tos id fl pt ttl pr a0 a1 a2 a3 a4 a5 a6 a7 op body ++ more) = byteOf (64 + (20 + op.length : Nat) / 4) :: byteOf tos :: byteOf ((20 + op.length + body.length : Nat) / 256) :: byteOf (20 + op.length + body.length : Nat) :: byteOf (id / 256) :: byteOf id :: byteOf ((fl * 8192 + pt) / 256) :: byteOf (fl * 8192 + pt) :: byteOf ttl :: byteOf pr :: sa :: sb :: a0 :: a1 :: a2 :: a3 :: a4 :: a5 :: a6 :: a7 :: (op ++ (body ++ more)) := by
    rw [eL]; simp
  have hlen0 : ipErr (ipBytes tos id fl pt ttl pr a0 a1 a2 a3 a4 a5 a6 a7 op body ++ more) = 0 := by
    rw [eT]
    refine ok_of (by rw [e0]; omega) (by rw [eh]; omega) (by rw [eh]; simp; omega) ?_ (by rw [eh, en]; omega) (by rw [en]; simp; omega)
    rw [eh, take20 _ (by omega), show 20 + op.length - 20 = op.length by omega, List.take_left]
    exact fit
  refine ⟨hlen0, ?_, by rw [eL]; simp; omega, by rw [eL]; exact eh, by rw [eL]; exact en⟩
  rw [eT] at hlen0 ⊢
  rw [ipGet_at hlen0, eh, en, show 20 + op.length - 20 = op.length by omega, List.take_left, List.drop_left, show 20 + op.length + body.length - (20 + op.length) = body.length by omega, List.take_left,
    byte_nat tos t0 t1, byte_nat ttl l0 l1, byte_nat pr r0 r1, be_bytes id i0 i1, be_bytes (fl * 8192 + pt) (by omega) (by omega), show (fl * 8192 + pt) / 8192 = fl by omega, show (fl * 8192 + pt) % 8192 = pt by omega]

/-- A packet cut off anywhere is none. -/
theorem cut_none {l : List UInt8} (h : ipErr l = 0) (cut : Nat) (hc : cut < be ((l.drop 2).take 2)) : ipErr (l.take cut) = 3 := by
  have h20 : 20 ≤ l.length := Nat.le_of_not_lt fun g => by unfold ipErr at h; rw [if_pos g] at h; cases h
  obtain ⟨h0, h1, h2, h3, h4, h5, h6, h7, h8, h9, h10, h11, h12, h13, h14, h15, h16, h17, h18, h19, r, rfl⟩ := list20 l h20
  obtain ⟨g1, g2, g3, g4, g5, g6⟩ := ok_parts h
  replace hc : cut < be [h2, h3] := hc
  by_cases c1 : cut < 20
  · unfold ipErr; rw [if_pos (by rw [List.length_take]; omega)]
  rw [take20 cut (by omega)]
  have hl : (h0 :: h1 :: h2 :: h3 :: h4 :: h5 :: h6 :: h7 :: h8 :: h9 :: h10 :: h11 :: h12 :: h13 :: h14 :: h15 :: h16 :: h17 :: h18 :: h19 :: r.take (cut - 20)).length = cut := by
    rw [← take20 cut (by omega), List.length_take]; omega
  unfold ipErr
  have e0 : (h0 :: h1 :: h2 :: h3 :: h4 :: h5 :: h6 :: h7 :: h8 :: h9 :: h10 :: h11 :: h12 :: h13 :: h14 :: h15 :: h16 :: h17 :: h18 :: h19 :: r.take (cut - 20)).getD 0 0 = h0 := rfl
  have e1 : ((h0 :: h1 :: h2 :: h3 :: h4 :: h5 :: h6 :: h7 :: h8 :: h9 :: h10 :: h11 :: h12 :: h13 :: h14 :: h15 :: h16 :: h17 :: h18 :: h19 :: r.take (cut - 20)).drop 2).take 2 = [h2, h3] := rfl
  rw [hl, e0, e1, if_neg (by omega), if_neg (fun h => h.elim (fun h => h g1) (fun h => Nat.lt_irrefl _ (Nat.lt_of_lt_of_le h g2)))]
  by_cases c2 : cut < hlen h0
  · rw [if_pos c2]
  rw [if_neg c2]
  have e2 : (h0 :: h1 :: h2 :: h3 :: h4 :: h5 :: h6 :: h7 :: h8 :: h9 :: h10 :: h11 :: h12 :: h13 :: h14 :: h15 :: h16 :: h17 :: h18 :: h19 :: r.take (cut - 20)).take (hlen h0) = (h0 :: h1 :: h2 :: h3 :: h4 :: h5 :: h6 :: h7 :: h8 :: h9 :: h10 :: h11 :: h12 :: h13 :: h14 :: h15 :: h16 :: h17 :: h18 :: h19 :: r).take (hlen h0) := by
    rw [← take20 cut (by omega), List.take_take, Nat.min_eq_left (by omega)]
  rw [e2, if_neg (fun h => h g4), if_neg (by omega), if_pos hc]

/-- A bit of the header turned, behind the first byte: the sum does not fit. -/
theorem bit_none {l : List UInt8} (h : ipErr l = 0) (j k : Nat) (x b : UInt8) (hj0 : 0 < j) (hj : j < hlen (l.getD 0 0)) (hx : l[j]? = some x) (hk : k < 8) (hb : b.toNat = x.toNat ^^^ 2 ^ k) : ipErr (l.set j b) = 5 := by
  have h20 : 20 ≤ l.length := Nat.le_of_not_lt fun g => by unfold ipErr at h; rw [if_pos g] at h; cases h
  obtain ⟨h0, h1, h2, h3, h4, h5, h6, h7, h8, h9, h10, h11, h12, h13, h14, h15, h16, h17, h18, h19, r, rfl⟩ := list20 l h20
  obtain ⟨g1, g2, g3, g4, g5, g6⟩ := ok_parts h
  replace hj : j < hlen h0 := hj
  obtain ⟨i, rfl⟩ : ∃ i, j = i + 1 := ⟨j - 1, by omega⟩
  have e0 : ((h0 :: h1 :: h2 :: h3 :: h4 :: h5 :: h6 :: h7 :: h8 :: h9 :: h10 :: h11 :: h12 :: h13 :: h14 :: h15 :: h16 :: h17 :: h18 :: h19 :: r).set (i + 1) b).getD 0 0 = h0 := rfl
  have hs := seal_spoilt ((h0 :: h1 :: h2 :: h3 :: h4 :: h5 :: h6 :: h7 :: h8 :: h9 :: h10 :: h11 :: h12 :: h13 :: h14 :: h15 :: h16 :: h17 :: h18 :: h19 :: r).take (hlen h0)) (i + 1) k x b (by rw [List.getElem?_take, if_pos hj]; exact hx) hk hb g4
  rw [← List.take_set] at hs
  unfold ipErr
  rw [List.length_set, e0, if_neg (by omega), if_neg (fun h => h.elim (fun h => h g1) (fun h => Nat.lt_irrefl _ (Nat.lt_of_lt_of_le h g2))), if_neg (by omega), if_pos hs]

set_option maxRecDepth 100000 in
/-- A hop: a packet again, the same but for its Ttl. -/
theorem hop_good {l : List UInt8} (h : ipErr l = 0) (h8 : 2 ≤ (l.getD 8 0).toNat) :
    ipErr (hopped l) = 0 ∧ (hopped l).length = be ((l.drop 2).take 2) ∧ be (((hopped l).drop 2).take 2) = be ((l.drop 2).take 2) ∧ ((hopped l).getD 8 0).toNat = (l.getD 8 0).toNat - 1 ∧
      ∀ (tos id fl pt ttl pr : Int) (ad op body : List UInt8), ipGet l = (([tos, id, fl, pt, ttl, pr], ad), (op, body), 0) → ipGet (hopped l) = (([tos, id, fl, pt, ttl - 1, pr], ad), (op, body), 0) := by
  have h20 : 20 ≤ l.length := Nat.le_of_not_lt fun g => by unfold ipErr at h; rw [if_pos g] at h; cases h
  obtain ⟨h0, h1, h2, h3, h4, h5, h6, h7, k8, h9, h10, h11, h12, h13, h14, h15, h16, h17, h18, h19, r, rfl⟩ := list20 l h20
  obtain ⟨g1, g2, g3, g4, g5, g6⟩ := ok_parts h
  replace h8 : 2 ≤ k8.toNat := h8
  have ey : (byteOf (k8.toNat - 1 : Int)).toNat = k8.toNat - 1 := by have := byteOf_val (k8.toNat - 1 : Int); have := k8.toNat_lt; omega
  obtain ⟨y, hy⟩ : ∃ y, byteOf (k8.toNat - 1 : Int) = y := ⟨_, rfl⟩
  rw [hy] at ey
  obtain ⟨s, hs⟩ : ∃ s : Nat, tk (be [h10, h11] : Nat) [k8, h9] [y, h9] = s := ⟨(tk (be [h10, h11] : Nat) [k8, h9] [y, h9]).toNat, by have := tk_bounds (be [h10, h11] : Nat) [k8, h9] [y, h9] rfl (by simp); omega⟩
  have hs1 : s ≤ 65535 := by have := tk_bounds (be [h10, h11] : Nat) [k8, h9] [y, h9] rfl (by simp); omega
  have ea : (byteOf ((s : Int) / 256)).toNat = s / 256 := by have := byteOf_val ((s : Int) / 256); omega
  have eb : (byteOf (s : Int)).toNat = s % 256 := by have := byteOf_val (s : Int); omega
  have eS : hopSum (h0 :: h1 :: h2 :: h3 :: h4 :: h5 :: h6 :: h7 :: k8 :: h9 :: h10 :: h11 :: h12 :: h13 :: h14 :: h15 :: h16 :: h17 :: h18 :: h19 :: r) = s := by
    show tk (be [h10, h11] : Nat) [k8, h9] [byteOf (k8.toNat - 1 : Int), h9] = s
    rw [hy]; exact hs
  have eH : hopped (h0 :: h1 :: h2 :: h3 :: h4 :: h5 :: h6 :: h7 :: k8 :: h9 :: h10 :: h11 :: h12 :: h13 :: h14 :: h15 :: h16 :: h17 :: h18 :: h19 :: r) = h0 :: h1 :: h2 :: h3 :: h4 :: h5 :: h6 :: h7 :: y :: h9 :: byteOf ((s : Int) / 256) :: byteOf (s : Int) :: h12 :: h13 :: h14 :: h15 :: h16 :: h17 :: h18 :: h19 :: r.take (be [h2, h3] - 20) := by
    unfold hopped
    rw [eS, show be ((List.drop 2 (h0 :: h1 :: h2 :: h3 :: h4 :: h5 :: h6 :: h7 :: k8 :: h9 :: h10 :: h11 :: h12 :: h13 :: h14 :: h15 :: h16 :: h17 :: h18 :: h19 :: r)).take 2) = be [h2, h3] from rfl, take20 (be [h2, h3]) (by omega)]
    show (((_ : List UInt8).set 8 (byteOf (k8.toNat - 1 : Int))).set 10 _).set 11 _ = _
    rw [hy]
    rfl
  -- the sum
  have w1 : ts (65535 - ((be [h10, h11] : Int) % 65536).toNat) [k8, h9] [y, h9] + (k8.toNat * 256 + h9.toNat) = (65535 - ((be [h10, h11] : Int) % 65536).toNat) + 65535 + (y.toNat * 256 + h9.toNat) := by
    have := ts_eq 1 (65535 - ((be [h10, h11] : Int) % 65536).toNat) [k8, h9] [y, h9] rfl rfl
    rw [ws_pair, ws_pair] at this
    simpa [ws] using this
  have w2 : s = 65535 - nrm (ts (65535 - ((be [h10, h11] : Int) % 65536).toNat) [k8, h9] [y, h9]) := by
    have := nrm_le (ts (65535 - ((be [h10, h11] : Int) % 65536).toNat) [k8, h9] [y, h9])
    unfold tk at hs
    rw [if_neg (by simp)] at hs
    omega
  have w3 := nrm_mod (ts (65535 - ((be [h10, h11] : Int) % 65536).toNat) [k8, h9] [y, h9])
  have w4 := nrm_le (ts (65535 - ((be [h10, h11] : Int) % 65536).toNat) [k8, h9] [y, h9])
  have b10 := be_two h10 h11
  have l10 := h10.toNat_lt
  have l11 := h11.toNat_lt
  have hlen0 : ipErr (hopped (h0 :: h1 :: h2 :: h3 :: h4 :: h5 :: h6 :: h7 :: k8 :: h9 :: h10 :: h11 :: h12 :: h13 :: h14 :: h15 :: h16 :: h17 :: h18 :: h19 :: r)) = 0 := by
    rw [eH]
    refine ok_of g1 g2 (by simp; have := g3; simp at this; omega) ?_ g5 (by simp; have := g6; simp at this; omega)
    rw [take20 (hlen h0) g2] at g4 ⊢
    rw [List.take_take, Nat.min_eq_left (by omega)]
    rw [ck_zero] at g4 ⊢
    simp only [ws_pair] at g4 ⊢
    rw [ea, eb]
    generalize ws true (r.take (hlen h0 - 20)) = T at *
    generalize nrm (ts (65535 - ((be [h10, h11] : Int) % 65536).toNat) [k8, h9] [y, h9]) = N at *
    generalize ts (65535 - ((be [h10, h11] : Int) % 65536).toNat) [k8, h9] [y, h9] = TT at *
    rw [b10] at w1
    have q1 : (((h10.toNat * 256 + h11.toNat : Nat) : Int) % 65536).toNat = h10.toNat * 256 + h11.toNat := by omega
    rw [q1] at w1
    clear eS eH hs hy g5 g6 g3 ea eb q1 b10
    omega
  refine ⟨hlen0, by rw [eH]; show _ = be [h2, h3]; have := g6; simp at this ⊢; omega, by rw [eH]; rfl, by rw [eH]; exact ey, ?_⟩
  intro tos id fl pt ttl pr ad op body hg
  rw [eH] at hlen0 ⊢
  rw [ipGet_at hlen0]
  rw [ipGet_at h] at hg
  simp only [Prod.mk.injEq, List.cons.injEq, and_true] at hg ⊢
  obtain ⟨⟨⟨q1, q2, q3, q4, q5, q6⟩, q7⟩, q8, q9⟩ := hg
  refine ⟨⟨⟨q1, q2, q3, q4, by omega, q6⟩, q7⟩, ?_, ?_⟩
  · rw [List.take_take, Nat.min_eq_left (by omega)]; exact q8
  · rw [List.drop_take, List.take_take, Nat.min_eq_left (by omega)]; exact q9
end Go.Proofs.Ytfmllopeeiecjaa
