/- Facts on the lists of segments. No program. -/
import Derived.Test.YtkmihoijnjdbnaaUdf
import Derived.Test.YtkmihoijnjdbnaaTcl
namespace Go.Proofs.Ytkmihoijnjdbnaa
open Go.RowKit

theorem tcBytes_eq (a0 a1 a2 a3 a4 a5 a6 a7 : UInt8) (sf st se ak fg wn ug : Int) (q b : List UInt8) : tcBytes a0 a1 a2 a3 a4 a5 a6 a7 sf st se ak fg wn ug q b = byteOf (sf / 256) :: byteOf sf :: byteOf (st / 256) :: byteOf st :: byteOf (se / 16777216) :: byteOf (se / 65536) :: byteOf (se / 256) :: byteOf se :: byteOf (ak / 16777216) :: byteOf (ak / 65536) :: byteOf (ak / 256) :: byteOf ak :: byteOf (80 + 4 * (q.length : Int)) :: byteOf fg :: byteOf (wn / 256) :: byteOf wn :: byteOf ((tcSum a0 a1 a2 a3 a4 a5 a6 a7 sf st se ak fg wn ug q b) / 256) :: byteOf (tcSum a0 a1 a2 a3 a4 a5 a6 a7 sf st se ak fg wn ug q b) :: byteOf (ug / 256) :: byteOf ug :: (q ++ b) := by
  unfold tcBytes
  simp only [List.append_assoc]
  rfl
theorem tcSum_range (a0 a1 a2 a3 a4 a5 a6 a7 : UInt8) (sf st se ak fg wn ug : Int) (q b : List UInt8) : 0 ≤ tcSum a0 a1 a2 a3 a4 a5 a6 a7 sf st se ak fg wn ug q b ∧ tcSum a0 a1 a2 a3 a4 a5 a6 a7 sf st se ak fg wn ug q b ≤ 65535 := by
  have h := ck_bounds [l4Ps a0 a1 a2 a3 a4 a5 a6 a7 6 (20 + (q.length : Int) + (b.length : Int)), tcA sf st se ak q.length fg wn, two ug ++ q ++ b].flatten
  unfold tcSum
  omega
/-- The whole of it fits. -/
theorem tc_sealed (a0 a1 a2 a3 a4 a5 a6 a7 : UInt8) (sf st se ak fg wn ug : Int) (q b : List UInt8) : ck (l4Ps a0 a1 a2 a3 a4 a5 a6 a7 6 (20 + (q.length : Int) + (b.length : Int)) ++ tcBytes a0 a1 a2 a3 a4 a5 a6 a7 sf st se ak fg wn ug q b) = 0 := by
  have hr := tcSum_range a0 a1 a2 a3 a4 a5 a6 a7 sf st se ak fg wn ug q b
  have hv := two_val _ hr.1 hr.2
  have hp := ps_pos a0 a1 a2 a3 a4 a5 a6 a7 6 (20 + (q.length : Int) + (b.length : Int)) (tcA sf st se ak q.length fg wn ++ (two ug ++ q ++ b)) (by decide)
  rw [← List.append_assoc] at hp
  have hs : tcSum a0 a1 a2 a3 a4 a5 a6 a7 sf st se ak fg wn ug q b = 65535 - (nrm (ws true (l4Ps a0 a1 a2 a3 a4 a5 a6 a7 6 (20 + (q.length : Int) + (b.length : Int)) ++ tcA sf st se ak q.length fg wn ++ (two ug ++ q ++ b))) : Int) := by
    unfold tcSum ck
    rw [show [l4Ps a0 a1 a2 a3 a4 a5 a6 a7 6 (20 + (q.length : Int) + (b.length : Int)), tcA sf st se ak q.length fg wn, two ug ++ q ++ b].flatten = l4Ps a0 a1 a2 a3 a4 a5 a6 a7 6 (20 + (q.length : Int) + (b.length : Int)) ++ tcA sf st se ak q.length fg wn ++ (two ug ++ q ++ b) by simp]
  rw [ck_zero]
  unfold tcBytes
  rw [show two (tcSum a0 a1 a2 a3 a4 a5 a6 a7 sf st se ak fg wn ug q b) = [byteOf (tcSum a0 a1 a2 a3 a4 a5 a6 a7 sf st se ak fg wn ug q b / 256), byteOf (tcSum a0 a1 a2 a3 a4 a5 a6 a7 sf st se ak fg wn ug q b)] from rfl, l4_around _ _ _ _ _ (by simp [l4Ps, two]) (by rw [tcA_len])]
  generalize ws true (l4Ps a0 a1 a2 a3 a4 a5 a6 a7 6 (20 + (q.length : Int) + (b.length : Int)) ++ tcA sf st se ak q.length fg wn ++ (two ug ++ q ++ b)) = W at *
  have h1 := nrm_mod W
  have h2 := nrm_le W
  omega
theorem inOk_of {m v : Int} (h : inOk m v = true) : 0 ≤ v ∧ v ≤ m := by
  unfold inOk at h
  simpa using h
theorem segOk_of {sf st fg wn ug : Int} {n : Nat} (h : segOk sf st fg wn ug n = true) : (0 ≤ sf ∧ sf ≤ 65535) ∧ (0 ≤ st ∧ st ≤ 65535) ∧ (0 ≤ fg ∧ fg ≤ 63) ∧ (0 ≤ wn ∧ wn ≤ 65535) ∧ (0 ≤ ug ∧ ug ≤ 65535) ∧ n ≤ 40 ∧ n % 4 = 0 := by
  unfold segOk at h
  simp only [Bool.and_eq_true, decide_eq_true_eq] at h
  obtain ⟨⟨⟨⟨⟨⟨h1, h2⟩, h3⟩, h4⟩, h5⟩, h6⟩, h7⟩ := h
  exact ⟨inOk_of h1, inOk_of h2, inOk_of h3, inOk_of h4, inOk_of h5, h6, h7⟩
theorem be_quad (v : Int) (h0 : 0 ≤ v) (h1 : v < 4294967296) : ((be [byteOf (v / 16777216), byteOf (v / 65536), byteOf (v / 256), byteOf v] : Nat) : Int) = v := by
  have h := be_four v
  unfold four at h
  omega
theorem be_pair (v : Int) (h0 : 0 ≤ v) (h1 : v ≤ 65535) : ((be [byteOf (v / 256), byteOf v] : Nat) : Int) = v := be2_two v h0 h1
/-- What was put is read back. -/
theorem tc_back {fl pt : Int} (hw : (decide (pt = 0) && decide (fl % 2 = 0)) = true) (a0 a1 a2 a3 a4 a5 a6 a7 : UInt8) {sf st se ak fg wn ug : Int} (q b : List UInt8) (hg : segOk sf st fg wn ug q.length = true) (e0 : 0 ≤ se) (e1 : se < 4294967296) (k0 : 0 ≤ ak) (k1 : ak < 4294967296) :
    tcGet fl pt 6 a0 a1 a2 a3 a4 a5 a6 a7 (tcBytes a0 a1 a2 a3 a4 a5 a6 a7 sf st se ak fg wn ug q b) = ([sf, st, se, ak, fg, wn, ug], (q, b), 0) := by
  obtain ⟨g1, g2, g3, g4, g5, g6, g7⟩ := segOk_of hg
  have hsl := tc_sealed a0 a1 a2 a3 a4 a5 a6 a7 sf st se ak fg wn ug q b
  have hlen := tcBytes_len a0 a1 a2 a3 a4 a5 a6 a7 sf st se ak fg wn ug q b
  rw [tcBytes_eq] at hsl hlen ⊢
  have hh : (byteOf (80 + 4 * (q.length : Int))).toNat / 16 * 4 = 20 + q.length := by
    have := byteOf_val (80 + 4 * (q.length : Int))
    omega
  have hf : (((byteOf fg).toNat % 64 : Nat) : Int) = fg := by
    have := byteOf_val fg
    omega
  rw [tc_ok (k := q.length) ?_ hh (by omega), be_pair sf g1.1 g1.2, be_pair st g2.1 g2.2, be_quad se e0 e1, be_quad ak k0 k1, hf, be_pair wn g4.1 g4.2, be_pair ug g5.1 g5.2, List.take_left, List.drop_left]
  rw [tc_at hh hw, hlen, if_neg (by omega), if_neg (by omega), if_neg]
  intro h
  apply h
  rw [show ((20 + q.length + b.length : Nat) : Int) = 20 + (q.length : Int) + (b.length : Int) from rfl]
  exact hsl
/-- One bit turned. -/
theorem tc_spoilt {fl pt : Int} (hw : (decide (pt = 0) && decide (fl % 2 = 0)) = true) (a0 a1 a2 a3 a4 a5 a6 a7 : UInt8) (sf st se ak fg wn ug : Int) (q b : List UInt8) (hn : q.length + b.length ≤ 1460) (j r : Nat) (x y : UInt8) (hj : (tcBytes a0 a1 a2 a3 a4 a5 a6 a7 sf st se ak fg wn ug q b)[j]? = some x) (hr : r < 8) (hy : y.toNat = x.toNat ^^^ 2 ^ r) :
    ∃ z : UInt8, ((tcBytes a0 a1 a2 a3 a4 a5 a6 a7 sf st se ak fg wn ug q b).set j y)[12]? = some z ∧ tcErr fl pt 6 a0 a1 a2 a3 a4 a5 a6 a7 ((tcBytes a0 a1 a2 a3 a4 a5 a6 a7 sf st se ak fg wn ug q b).set j y) = if z.toNat / 16 * 4 < 20 then 4 else if 20 + q.length + b.length < z.toNat / 16 * 4 then 3 else 5 := by
  have hsl := tc_sealed a0 a1 a2 a3 a4 a5 a6 a7 sf st se ak fg wn ug q b
  have hlen := tcBytes_len a0 a1 a2 a3 a4 a5 a6 a7 sf st se ak fg wn ug q b
  generalize tcBytes a0 a1 a2 a3 a4 a5 a6 a7 sf st se ak fg wn ug q b = L at *
  have hsp := seal_spoilt (l4Ps a0 a1 a2 a3 a4 a5 a6 a7 6 (20 + (q.length : Int) + (b.length : Int)) ++ L) (12 + j) r x y (by rw [List.getElem?_append_right (by rw [l4Ps_len]; omega), l4Ps_len, show 12 + j - 12 = j by omega]; exact hj) hr hy hsl
  rw [List.set_append_right _ _ (by rw [l4Ps_len]; omega), l4Ps_len, show 12 + j - 12 = j by omega] at hsp
  have hl2 : (L.set j y).length = 20 + q.length + b.length := by rw [List.length_set]; exact hlen
  generalize L.set j y = M at *
  obtain ⟨m0, m1, m2, m3, m4, m5, m6, m7, m8, m9, m10, m11, m12, m13, m14, m15, m16, m17, m18, m19, p, rfl⟩ := list20 M (by omega)
  refine ⟨m12, rfl, ?_⟩
  rw [tc_at rfl hw, hl2]
  rw [show ((20 + q.length + b.length : Nat) : Int) = 20 + (q.length : Int) + (b.length : Int) from rfl, if_pos hsp]
end Go.Proofs.Ytkmihoijnjdbnaa
