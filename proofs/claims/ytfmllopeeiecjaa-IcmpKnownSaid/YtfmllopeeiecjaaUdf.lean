/- Facts on the lists of datagrams. No program. -/
import Derived.Test.YtfmllopeeiecjaaUdl
namespace Go.Proofs.Ytfmllopeeiecjaa
open Go.RowKit

theorem port_of {v : Int} (h : portOk v = true) : 0 ≤ v ∧ v ≤ 65535 := by
  unfold portOk at h
  simpa using h
theorem be2_two (v : Int) (h0 : 0 ≤ v) (h1 : v ≤ 65535) : (be (two v) : Int) = v := by
  rw [be_byteOf]
  omega
/-- The sum over what stands round the two bytes of the sum, and these. -/
theorem l4_around (P M b : List UInt8) (x y : UInt8) (hp : P.length % 2 = 0) (hm : M.length % 2 = 0) : ws true (P ++ (M ++ [x, y] ++ b)) = ws true (P ++ M ++ b) + (x.toNat * 256 + y.toNat) := by
  have hpm : (P ++ M).length % 2 = 0 := by rw [List.length_append]; omega
  rw [show P ++ (M ++ [x, y] ++ b) = (P ++ M) ++ x :: y :: b by simp, ws_at _ _ _ _ hpm, ws_even (P ++ M) b hpm]
  omega
theorem ps_pos (a0 a1 a2 a3 a4 a5 a6 a7 : UInt8) (pr k : Int) (l : List UInt8) (h : 0 < (byteOf pr).toNat) : 0 < ws true (l4Ps a0 a1 a2 a3 a4 a5 a6 a7 pr k ++ l) := by
  unfold l4Ps two
  simp only [List.cons_append, List.nil_append, ws_pair]
  omega
/-- The two bytes of a sum. -/
theorem two_val (s : Int) (h0 : 0 ≤ s) (h1 : s ≤ 65535) : ((byteOf (s / 256)).toNat : Int) * 256 + (byteOf s).toNat = s := by
  rw [byteOf_val, byteOf_val]
  omega
theorem sum_seals (W : Nat) (s : Int) (hW : 0 < W) (hs : s = if 65535 - (nrm W : Int) = 0 then 65535 else 65535 - (nrm W : Int)) (x y : UInt8) (hxy : (x.toNat : Int) * 256 + y.toNat = s) : 0 < W + (x.toNat * 256 + y.toNat) ∧ (W + (x.toNat * 256 + y.toNat)) % 65535 = 0 := by
  have h1 := nrm_mod W
  have h2 := nrm_le W
  split at hs <;> omega
/-- Where the parts of a datagram's bytes stand. -/
theorem udHd_eq (df dt : Int) (n : Nat) : udHd df dt n = [byteOf (df / 256), byteOf df, byteOf (dt / 256), byteOf dt, byteOf ((8 + (n : Int)) / 256), byteOf (8 + (n : Int))] := rfl
theorem udBytes_eq (a0 a1 a2 a3 a4 a5 a6 a7 : UInt8) (df dt : Int) (b : List UInt8) : udBytes a0 a1 a2 a3 a4 a5 a6 a7 df dt b = byteOf (df / 256) :: byteOf df :: byteOf (dt / 256) :: byteOf dt :: byteOf ((8 + (b.length : Int)) / 256) :: byteOf (8 + (b.length : Int)) :: byteOf (udSum a0 a1 a2 a3 a4 a5 a6 a7 df dt b / 256) :: byteOf (udSum a0 a1 a2 a3 a4 a5 a6 a7 df dt b) :: b := rfl
theorem udSum_range (a0 a1 a2 a3 a4 a5 a6 a7 : UInt8) (df dt : Int) (b : List UInt8) : 0 < udSum a0 a1 a2 a3 a4 a5 a6 a7 df dt b ∧ udSum a0 a1 a2 a3 a4 a5 a6 a7 df dt b ≤ 65535 := by
  have h := ck_bounds [l4Ps a0 a1 a2 a3 a4 a5 a6 a7 17 (8 + (b.length : Int)), udHd df dt b.length, b].flatten
  unfold udSum
  split <;> omega
theorem be_two_eq (v : Int) : be [byteOf (v / 256), byteOf v] = be (two v) := rfl
theorem be_len (n : Nat) (h : n ≤ 60000) : be [byteOf ((8 + (n : Int)) / 256), byteOf (8 + (n : Int))] = 8 + n := by
  have h := be2_two (8 + (n : Int)) (by omega) (by omega)
  rw [be_two_eq]
  omega
theorem be_port {v : Int} (h : portOk v = true) : (be [byteOf (v / 256), byteOf v] : Int) = v := be2_two v (port_of h).1 (port_of h).2
/-- The whole of it fits. -/
theorem udp_sealed (a0 a1 a2 a3 a4 a5 a6 a7 : UInt8) (df dt : Int) (b : List UInt8) : ck (l4Ps a0 a1 a2 a3 a4 a5 a6 a7 17 (8 + (b.length : Int)) ++ udBytes a0 a1 a2 a3 a4 a5 a6 a7 df dt b) = 0 := by
  have hr := udSum_range a0 a1 a2 a3 a4 a5 a6 a7 df dt b
  have hv := two_val _ (Int.le_of_lt hr.1) hr.2
  have hp := ps_pos a0 a1 a2 a3 a4 a5 a6 a7 17 (8 + (b.length : Int)) (udHd df dt b.length ++ b) (by decide)
  rw [← List.append_assoc] at hp
  have hs : udSum a0 a1 a2 a3 a4 a5 a6 a7 df dt b = if 65535 - (nrm (ws true (l4Ps a0 a1 a2 a3 a4 a5 a6 a7 17 (8 + (b.length : Int)) ++ udHd df dt b.length ++ b)) : Int) = 0 then 65535 else 65535 - (nrm (ws true (l4Ps a0 a1 a2 a3 a4 a5 a6 a7 17 (8 + (b.length : Int)) ++ udHd df dt b.length ++ b)) : Int) := by
    unfold udSum ck
    rw [show [l4Ps a0 a1 a2 a3 a4 a5 a6 a7 17 (8 + (b.length : Int)), udHd df dt b.length, b].flatten = l4Ps a0 a1 a2 a3 a4 a5 a6 a7 17 (8 + (b.length : Int)) ++ udHd df dt b.length ++ b by simp]
  have h := sum_seals _ _ hp hs _ _ hv
  rw [ck_zero]
  unfold udBytes
  rw [show two (udSum a0 a1 a2 a3 a4 a5 a6 a7 df dt b) = [byteOf (udSum a0 a1 a2 a3 a4 a5 a6 a7 df dt b / 256), byteOf (udSum a0 a1 a2 a3 a4 a5 a6 a7 df dt b)] from rfl, l4_around _ _ _ _ _ (by simp [l4Ps, two]) (by simp [udHd, two])]
  exact h
/-- What was put is read back. -/
theorem udp_back {fl pt : Int} (hw : (decide (pt = 0) && decide (fl % 2 = 0)) = true) (a0 a1 a2 a3 a4 a5 a6 a7 : UInt8) {df dt : Int} (h1 : portOk df = true) (h2 : portOk dt = true) (b : List UInt8) (hn : b.length ≤ 1472) :
    udGet fl pt 17 a0 a1 a2 a3 a4 a5 a6 a7 (udBytes a0 a1 a2 a3 a4 a5 a6 a7 df dt b) = ((df, dt), b, 0) := by
  have hsl := udp_sealed a0 a1 a2 a3 a4 a5 a6 a7 df dt b
  have hlen := udBytes_len a0 a1 a2 a3 a4 a5 a6 a7 df dt b
  rw [udBytes_eq] at hsl hlen ⊢
  have e : udErr fl pt 17 a0 a1 a2 a3 a4 a5 a6 a7 (byteOf (df / 256) :: byteOf df :: byteOf (dt / 256) :: byteOf dt :: byteOf ((8 + (b.length : Int)) / 256) :: byteOf (8 + (b.length : Int)) :: byteOf (udSum a0 a1 a2 a3 a4 a5 a6 a7 df dt b / 256) :: byteOf (udSum a0 a1 a2 a3 a4 a5 a6 a7 df dt b) :: b) = 0 := by
    rw [ud_at (be_len b.length (by omega)) rfl hw, hlen, if_neg (by omega), if_neg (by omega), if_neg]
    rintro ⟨_, h⟩
    apply h
    rw [List.take_of_length_le (by rw [hlen]; exact Nat.le_refl _)]
    rw [show ((8 + b.length : Nat) : Int) = 8 + (b.length : Int) from rfl]
    exact hsl
  rw [ud_ok e (be_len b.length (by omega)) (by omega : 8 + b.length = b.length + 8), be_port h1, be_port h2, List.take_of_length_le (Nat.le_refl _)]
/-- A datagram without a sum, with whatever bytes, and more behind it. -/
theorem udp_none {fl pt : Int} (hw : (decide (pt = 0) && decide (fl % 2 = 0)) = true) (a0 a1 a2 a3 a4 a5 a6 a7 c0 c1 c2 c3 c4 c5 c6 c7 : UInt8) {df dt : Int} (h1 : portOk df = true) (h2 : portOk dt = true) (b body more : List UInt8) (hn : b.length ≤ 1472) (hb : body.length = b.length) :
    udGet fl pt 17 a0 a1 a2 a3 a4 a5 a6 a7 ((((((udBytes c0 c1 c2 c3 c4 c5 c6 c7 df dt b).take 8 ++ body).set 6 0).set 7 0) ++ more)) = ((df, dt), body, 0) := by
  rw [udBytes_eq]
  show udGet fl pt 17 a0 a1 a2 a3 a4 a5 a6 a7 (byteOf (df / 256) :: byteOf df :: byteOf (dt / 256) :: byteOf dt :: byteOf ((8 + (b.length : Int)) / 256) :: byteOf (8 + (b.length : Int)) :: 0 :: 0 :: (body ++ more)) = _
  have e : udErr fl pt 17 a0 a1 a2 a3 a4 a5 a6 a7 (byteOf (df / 256) :: byteOf df :: byteOf (dt / 256) :: byteOf dt :: byteOf ((8 + (b.length : Int)) / 256) :: byteOf (8 + (b.length : Int)) :: 0 :: 0 :: (body ++ more)) = 0 := by
    rw [ud_at (be_len b.length (by omega)) rfl hw, if_neg (by simp only [List.length_cons, List.length_append]; omega), if_neg (by omega), if_neg]
    rintro ⟨h, _⟩
    exact h rfl
  rw [ud_ok e (be_len b.length (by omega)) (by omega : 8 + b.length = b.length + 8), be_port h1, be_port h2, List.take_append_of_le_length (by omega), List.take_of_length_le (by omega)]
/-- One bit turned, not of the length. -/
theorem udp_spoilt {fl pt : Int} (hw : (decide (pt = 0) && decide (fl % 2 = 0)) = true) (a0 a1 a2 a3 a4 a5 a6 a7 : UInt8) (df dt : Int) (b : List UInt8) (hn : b.length ≤ 1472) (j r : Nat) (x y : UInt8) (hj : (udBytes a0 a1 a2 a3 a4 a5 a6 a7 df dt b)[j]? = some x) (hr : r < 8) (hy : y.toNat = x.toNat ^^^ 2 ^ r) (h4 : j ≠ 4) (h5 : j ≠ 5) :
    udErr fl pt 17 a0 a1 a2 a3 a4 a5 a6 a7 ((udBytes a0 a1 a2 a3 a4 a5 a6 a7 df dt b).set j y) = 5 ∨ (udErr fl pt 17 a0 a1 a2 a3 a4 a5 a6 a7 ((udBytes a0 a1 a2 a3 a4 a5 a6 a7 df dt b).set j y) = 0 ∧ ((udBytes a0 a1 a2 a3 a4 a5 a6 a7 df dt b).set j y)[6]? = some 0 ∧ ((udBytes a0 a1 a2 a3 a4 a5 a6 a7 df dt b).set j y)[7]? = some 0) := by
  have hsl := udp_sealed a0 a1 a2 a3 a4 a5 a6 a7 df dt b
  have hlen := udBytes_len a0 a1 a2 a3 a4 a5 a6 a7 df dt b
  have hc4 : (udBytes a0 a1 a2 a3 a4 a5 a6 a7 df dt b)[4]? = some (byteOf ((8 + (b.length : Int)) / 256)) := rfl
  have hc5 : (udBytes a0 a1 a2 a3 a4 a5 a6 a7 df dt b)[5]? = some (byteOf (8 + (b.length : Int))) := rfl
  generalize udBytes a0 a1 a2 a3 a4 a5 a6 a7 df dt b = L at *
  have hsp := seal_spoilt (l4Ps a0 a1 a2 a3 a4 a5 a6 a7 17 (8 + (b.length : Int)) ++ L) (12 + j) r x y (by rw [List.getElem?_append_right (by rw [l4Ps_len]; omega), l4Ps_len, show 12 + j - 12 = j by omega]; exact hj) hr hy hsl
  rw [List.set_append_right _ _ (by rw [l4Ps_len]; omega), l4Ps_len, show 12 + j - 12 = j by omega] at hsp
  have hl2 : (L.set j y).length = 8 + b.length := by rw [List.length_set]; exact hlen
  have hd4 : (L.set j y)[4]? = some (byteOf ((8 + (b.length : Int)) / 256)) := by rw [List.getElem?_set_ne h4]; exact hc4
  have hd5 : (L.set j y)[5]? = some (byteOf (8 + (b.length : Int))) := by rw [List.getElem?_set_ne h5]; exact hc5
  generalize L.set j y = M at *
  obtain ⟨m0, m1, m2, m3, m4, m5, m6, m7, q, rfl⟩ := list8 M (by omega)
  obtain rfl : m4 = byteOf ((8 + (b.length : Int)) / 256) := by simpa using hd4
  obtain rfl : m5 = byteOf (8 + (b.length : Int)) := by simpa using hd5
  rw [ud_at (be_len b.length (by omega)) rfl hw, hl2, if_neg (by omega), if_neg (by omega)]
  rw [List.take_of_length_le (by rw [hl2]; exact Nat.le_refl _), show ((8 + b.length : Nat) : Int) = 8 + (b.length : Int) from rfl]
  by_cases hz : be [m6, m7] = 0
  · right
    rw [if_neg fun h => h.1 hz]
    rw [be_two] at hz
    have g6 : m6 = 0 := UInt8.toNat_inj.1 (by simp; omega)
    have g7 : m7 = 0 := UInt8.toNat_inj.1 (by simp; omega)
    exact ⟨rfl, by rw [g6]; rfl, by rw [g7]; rfl⟩
  · left
    rw [if_pos ⟨hz, hsp⟩]
end Go.Proofs.Ytfmllopeeiecjaa
