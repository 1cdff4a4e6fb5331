/- Texts put together: Ds7, Ds8, Dr0. -/
import Derived.Test.YtjedknjlpeccbaaQ2
import Derived.Test.YtjedknjlpeccbaaQ7
import Derived.Test.YtjedknjlpeccbaaQ8
namespace Go.Proofs.Ytjedknjlpeccbaa
open Go.RowKit

/-- append(nil, make([]T, m)...). -/
theorem run_append_nil0 {P : Program} {k : Nat} {w : World} (t tn ty e : TypeId) (z : TypeInfo) (zv : Value) (kn : IntKind) (bytes : Nat) (ht : P.underlying t = some (.slice e)) (htn : P.underlying tn = some (.int kn)) (hi : P.info? e = some z) (hz : z.zero = some zv) (hs : z.size = k) (hby : z.bytes = bytes) (hzs : zv.cells.size = k) (hk : 0 < k)
    (kq : IntKind) (m : Nat) (hm : 0 < m) (h63 : m ≤ maxLen) (h47 : m * bytes ≤ 140737488355328) :
    ∃ g' c' w', (Builtin.append_ #[t, tn] ty #[.slice none 0 0, .int kq m]).run P w = .ok (.slice (some ⟨g', 0, none⟩) m c') w' ∧ w.heap.size ≤ g' ∧ w'.ownsRow w.heap.size e k (.slice (some ⟨g', 0, none⟩) m c') m (zerosL zv m) ∧ Below w.heap.size w w' := by
  subst hs
  subst hby
  have hold : (Builtin.firstCells z.size 0 (.slice none 0 0)).run P w.drew = .ok ([] : List Value).toArray w.drew := by simp [Builtin.firstCells]
  have hr := Lib.run_append_grow_zeros (P := P) w t tn ty e z zv kq kn ht htn hi hz none 0 0 [] hold m hm hk (by omega) (by unfold maxLen at h63; omega) (by omega) (by rw [Nat.zero_add]; exact growslice_fits hm h47)
  have hge := grownCap_ge w (0 + m) 0 e
  have hcm := grownCap_le_maxLen w (0 + m) 0 e (by omega)
  rw [Nat.zero_add] at hr hge hcm
  refine ⟨_, _, _, hr, Nat.le_refl _, ?_, (Below.refl _ _).drew.alloc (Nat.le_refl _) _⟩
  have hh := heap_alloc_new w.drew (.cells ((([] : List Value).toArray) ++ Builtin.zeroCells zv.cells m ++ Builtin.zeroCells zv.cells (grownCap w m 0 e - m)) e)
  refine row_mk (cur := zerosL zv m ++ zerosL zv (grownCap w m 0 e - m)) (Nat.le_refl _) ?_ hge hcm ?_ ?_
  · rw [show w.drew.heap.size = w.heap.size from rfl] at hh
    rw [hh]
    simp [zerosL]
  · simp only [List.length_append, zerosL_len _ _ hzs, ← Nat.add_mul]
    congr 1; omega
  · rw [List.take_append_of_le_length (by simp only [zerosL_len _ _ hzs]; omega), List.take_of_length_le (by simp only [zerosL_len _ _ hzs]; omega)]
theorem wpList_append_nil0 {P : Program} {ops : Array Oper} {rest : List Oper} {o : Oper} {a : Act} {Q : Exit → Act → World → Prop} {k : Nat} {w : World} (hgd : o.guard = none) (d s : Operand) (t tn e : TypeId) (ho : o.op = .call { callee := .builtin .append, args := #[d, s], argTypes := #[t, tn] })
    (z : TypeInfo) (zv : Value) (kn : IntKind) (bytes : Nat) (ht : P.underlying t = some (.slice e)) (htn : P.underlying tn = some (.int kn)) (hi : P.info? e = some z) (hz : z.zero = some zv) (hs : z.size = k) (hby : z.bytes = bytes) (hzs : zv.cells.size = k) (hk : 0 < k)
    (kq : IntKind) (m : Nat) (hd : a.eval d = .slice none 0 0) (hx : a.eval s = .int kq m) (hm : 0 < m) (h63 : m ≤ maxLen) (h47 : m * bytes ≤ 140737488355328)
    (hK : ∀ g' c' w', w.heap.size ≤ g' → w'.ownsRow w.heap.size e k (.slice (some ⟨g', 0, none⟩) m c') m (zerosL zv m) → Below w.heap.size w w' → wpList P ops Q rest (a.put o.dst (.slice (some ⟨g', 0, none⟩) m c')) w') : wpList P ops Q (o :: rest) a w := by
  obtain ⟨g', c', w', hr, h1, h2, h3⟩ := run_append_nil0 (P := P) (w := w) t tn o.type e z zv kn bytes ht htn hi hz hs hby hzs hk kq m hm h63 h47
  exact Lib.wpList_append_run w hgd d s t tn ho _ _ hd hx _ _ hr (hK g' c' w' h1 h2 h3)
set_option linter.unusedVariables false in
set_option linter.unusedSimpArgs false in
set_option maxRecDepth 100000 in
set_option maxHeartbeats 16000000 in
theorem dsclone_nil {n c : Nat} {l : List (List UInt8)} (w : World) (hs : Sle stf 1 w none n c l) : Calls Try.prog 42 #[.slice none n c] w fun e w' => ∃ B m cB, e = .returned (.slice B m cB) ∧ w'.ownsRow w.heap.size 9 1 (.slice B m cB) m (l.flatMap stf) ∧ Below w.heap.size w w' := by
  have r4 := fun W => Lib.run_eql_slice_nil (P := Try.prog) W 33 9 none n c 0 0 Try.underlying33
  simp only [Option.isNone_none] at r4
  have HL : Hid (l = []) := Lib.hid (List.eq_nil_of_length_eq_zero (hs.1.trans (by rcases Nat.eq_zero_or_pos n with h_ | h_; exact h_; obtain ⟨g, o, e, _⟩ := hs.2.2.2.1 h_; cases e)))
  clear hs
  have bel := Below.refl w.heap.size w
  go_enter Try.func42, Try.ntmps42
  have R4 := r4
  go_wp2_with fail
  clear R4
  go_ret
  exact ⟨none, 0, 0, rfl, by rw [HL.out]; exact owk_nil _ _ _, bel⟩
theorem owk_cut {w : World} {B n n2 k : Nat} {T : TypeId} {A : Option Addr} {c : Nat} {xs : List Value} (h : w.ownsRow B T k (.slice A n c) n2 xs) : w.ownsRow B T k (.slice A n c) n xs := by
  have e : n = n2 := by
    rcases h.2 with ⟨h1, rfl⟩ | ⟨g, cap, cur, e, _⟩
    · injection h1
    · injection e
  exact e ▸ h
set_option linter.unusedVariables false in
set_option linter.unusedSimpArgs false in
set_option maxRecDepth 100000 in
set_option maxHeartbeats 16000000 in
theorem dsclone_some {ad : Addr} {n c : Nat} {l : List (List UInt8)} (w : World) (hs : Sle stf 1 w (some ad) n c l) (hn : n ≤ 100000) : Calls Try.prog 42 #[.slice (some ad) n c] w fun e w' => ∃ B m cB, e = .returned (.slice B m cB) ∧ w'.ownsRow w.heap.size 9 1 (.slice B m cB) m (l.flatMap stf) ∧ Below w.heap.size w w' := by
  have r4 := fun W => Lib.run_eql_slice_nil (P := Try.prog) W 33 9 (some ad) n c 0 0 Try.underlying33
  simp only [Option.isNone_some] at r4
  obtain ⟨is, his, his0, his1, his2⟩ := info_parts Try.info_str
  have bel := Below.refl w.heap.size w
  go_enter Try.func42, Try.ntmps42
  have R4 := r4
  go_wp2_with (first | ((with_reducible show wpList _ _ _ (⟨some 5, _, _, _, _, _⟩ :: _) _ _); refine wpList_lit_n rfl 33 9 0 _ rfl #[] (.string ⟨#[]⟩) Try.underlying33 (by kernel_rfl) 1 (by kernel_rfl) (by decide) (by kernel_rfl) ?_; intro g5 w1 ge lt hh bb; have e0w := owk_lit (B := w.heap.size) ([] : List (List UInt8)) stf_len (show w1.heap[g5]? = some (.cells (([] : List (List UInt8)).flatMap stf).toArray 9 (0, 0)) from hh) ge 0 rfl (by simp [maxLen]); have e0 := (owk_sle (by decide) stf_len e0w).1; have e0lo := bel.size; have e0ge := ge; have lz_e0 := bb.size; have bl_hs_e0 := hs.bl_new; replace hs := hs.below bb; replace bel := bel.trans (bb.mono bel.size); clear hh lt ge bb) | ((with_reducible show wpList _ _ _ (⟨some 7, _, _, _, _, _⟩ :: _) _ _); refine wpList_append_sle rfl (.tmp 5) (.tmp 6) 33 rfl (w.heap.size) 9 is (.string ⟨#[]⟩) 16 Try.underlying33 his his0 his1 his2 rfl stf_one _ (0) ([]) rfl e0w (some ad) (n) (c) (l) rfl hs (by unfold maxLen; omega) (by omega) lz_e0 ?_; intro v7 w2 own_ bb gw ofw; clear ofw; replace hs := hs.under bl_hs_e0 bb; clear gw; replace bel := bel.trans (bb.mono e0lo); have lz_cl := Nat.le_trans lz_e0 bb.size; clear bb; clear e0 e0w lz_e0; replace own_ : w2.ownsRow (w.heap.size) 9 1 v7 (n) ((l : List (List UInt8)).flatMap stf) := (by simpa using own_); obtain ⟨A7, c7, rfl⟩ := owk_val own_; have clw := own_; have cl := (owk_sle (by decide) stf_len own_).1; have fr_cl := (owk_sle (by decide) stf_len own_).2; clear own_))
  try clear R4
  go_ret
  exact ⟨_, _, _, rfl, owk_cut (owk_lo clw e0lo), bel⟩
theorem dsclone_any {A : Option Addr} {n c : Nat} {l : List (List UInt8)} (w : World) (hs : Sle stf 1 w A n c l) (hn : n ≤ 100000) : Calls Try.prog 42 #[.slice A n c] w fun e w' => ∃ B m cB, e = .returned (.slice B m cB) ∧ w'.ownsRow w.heap.size 9 1 (.slice B m cB) m (l.flatMap stf) ∧ Below w.heap.size w w' := by
  cases A with
  | none => exact dsclone_nil w hs
  | some ad => exact dsclone_some w hs hn
theorem slice_cut0 (g k c : Nat) (W : World) : (Instr.slice 24 (.slice (some ⟨g, 0, none⟩) k c) none (some (.int .i64 0)) none).run Try.prog W = .ok (.slice (some ⟨g, 0, none⟩) 0 c) W := by
  have hz : ∀ w, (Go.sizeOf 36).run Try.prog w = .ok 5 w := fun w => by kernel_rfl
  have hu : Try.prog.underlying 24 = some (.slice (Try.prog.elem 24)) := by kernel_rfl
  have he : Try.prog.elem 24 = 36 := by kernel_rfl
  rw [run_slice_h W 24 _ _ _ hu .i64 0 (by omega) (by omega), he, hz]
  simp [Result.andThen, sliced, Addr.add]
theorem slice_nil0 (W : World) : (Instr.slice 24 (.slice none 0 0) none (some (.int .i64 0)) none).run Try.prog W = .ok (.slice none 0 0) W := by
  have hz : ∀ w, (Go.sizeOf 36).run Try.prog w = .ok 5 w := fun w => by kernel_rfl
  have hu : Try.prog.underlying 24 = some (.slice (Try.prog.elem 24)) := by kernel_rfl
  have he : Try.prog.elem 24 = 36 := by kernel_rfl
  rw [run_slice_h W 24 _ _ _ hu .i64 0 (by omega) (by omega), he, hz]
  simp [Result.andThen, sliced]
set_option linter.unusedVariables false in
set_option linter.unusedSimpArgs false in
set_option maxRecDepth 100000 in
set_option maxHeartbeats 16000000 in
theorem dgrow_0 (w : World) : Calls Try.prog 52 #[.slice none 0 0, .int .i64 0] w fun e w' => ∃ G gc, e = .returned (.slice G 0 gc) ∧ w'.ownsRow w.heap.size 36 5 (.slice G 0 gc) 0 (([] : List Rh).flatMap rE) ∧ Below w.heap.size w w' := by
  have bel := Below.refl w.heap.size w
  go_enter Try.func52, Try.ntmps52
  go_wp2_with fail
  go_ret
  exact ⟨none, 0, rfl, owk_nil _ _ _, bel⟩
set_option linter.unusedVariables false in
set_option linter.unusedSimpArgs false in
set_option maxRecDepth 100000 in
set_option maxHeartbeats 16000000 in
theorem dgrow_pos (k : Nat) (hk0 : 0 < k) (hk : k ≤ 1000) (w : World) : Calls Try.prog 52 #[.slice none 0 0, .int .i64 (k : Int)] w fun e w' => ∃ G gc, e = .returned (.slice G 0 gc) ∧ w'.ownsRow w.heap.size 36 5 (.slice G 0 gc) 0 (([] : List Rh).flatMap rE) ∧ Below w.heap.size w w' := by
  have HK0 := Lib.hid hk0
  have HK1 := Lib.hid hk
  have k0 : (0 : Int) ≤ k := by omega
  have k1 : (k : Int) ≤ 1000 := by omega
  clear hk
  obtain ⟨ir, hir, hir0, hir1, hir2⟩ := info_parts Try.info_rn
  have bel := Below.refl w.heap.size w
  go_enter Try.func52, Try.ntmps52
  have R20 := fun W => slice_nil0 W
  go_wp2_with (first | ((with_reducible show wpList _ _ _ (⟨some 22, _, _, _, _, _⟩ :: _) _ _); refine wpList_append_nil0 rfl (.tmp 20) (.tmp 21) 24 3 36 rfl ir (.agg #[.slice none 0 0, .int .i64 0, .int .i64 0, .int .u32 0, .slice none 0 0]) .i64 72 Try.underlying24 Try.underlying3 hir hir0 hir1 hir2 rfl (by decide) .i64 k rfl rfl HK0.out (by unfold maxLen; have h_ := HK1.out; omega) (by have h_ := HK1.out; omega) ?_; intro g22 c22 w1 ge own_ bb; replace bel := bel.trans (bb.mono bel.size); have row0 := row_less own_ (Nat.zero_le k); clear own_ ge bb; have R25 := fun W => slice_cut0 g22 k c22 W))
  try clear R20
  try clear R25
  go_ret
  exact ⟨_, _, rfl, by simpa using owk_lo row0 (Nat.le_refl _), bel⟩
theorem dgrow_any (k : Nat) (hk : k ≤ 1000) (w : World) : Calls Try.prog 52 #[.slice none 0 0, .int .i64 (k : Int)] w fun e w' => ∃ G gc, e = .returned (.slice G 0 gc) ∧ w'.ownsRow w.heap.size 36 5 (.slice G 0 gc) 0 (([] : List Rh).flatMap rE) ∧ Below w.heap.size w w' := by
  rcases Nat.eq_zero_or_pos k with rfl | h
  · exact dgrow_0 w
  · exact dgrow_pos k h hk w
/-- Slices as elements. -/
structure Sh where
  A : Option Addr
  n : Nat
  c : Nat
def shE (h : Sh) : List Value := [.slice h.A h.n h.c]
theorem shE_len (h : Sh) : (shE h).length = 1 := rfl
theorem Sle.sh {w : World} {g o n c i : Nat} {l : List Sh} {x : Sh} (h : Sle shE 1 w (some ⟨g, o, none⟩) n c l) (hx : l[i]? = some x) : w.cell? ⟨g, o + i, none⟩ = some (.slice x.A x.n x.c) := by
  have := Sle.cell (j := 0) h hx rfl
  rw [Nat.mul_one, Nat.add_zero] at this
  exact this
abbrev Rls (w : World) := All2 (fun (x : Sh) (l : List Rh) => Sle rE 5 w x.A x.n x.c l)
theorem flat_next {α : Type} {L : List (List α)} {i : Nat} {x : List α} (h : L[i]? = some x) : (L.take (i + 1)).flatten = (L.take i).flatten ++ x := by rw [take_next h]; simp
theorem dgrow_v (k : Nat) (hk : k ≤ 1000) (w : World) : Calls Try.prog 52 #[.slice none 0 0, .int .i64 (k : Int)] w fun e w' => ∃ v, e = .returned v ∧ w'.ownsRow w.heap.size 36 5 v 0 (([] : List Rh).flatMap rE) ∧ Below w.heap.size w w' :=
  (dgrow_any k hk w).mono fun _ _ ⟨_, _, h1, h2, h3⟩ => ⟨_, h1, h2, h3⟩
set_option linter.unusedVariables false in
set_option linter.unusedSimpArgs false in
set_option maxRecDepth 100000 in
set_option maxHeartbeats 16000000 in
theorem dconcat_any {S : Option Addr} {sn sc : Nat} {ss : List Sh} {Ls : List (List Rh)} (w : World) (sx : Sle shE 1 w S sn sc ss) (hss : Rls w ss Ls) (hbn : ∀ x ∈ ss, x.n ≤ 100) (hsn : sn ≤ 10) : Calls Try.prog 25 #[.slice S sn sc] w fun e w' => ∃ B m cB, e = .returned (.slice B m cB) ∧ w'.ownsRow w.heap.size 36 5 (.slice B m cB) m (Ls.flatten.flatMap rE) ∧ Below w.heap.size w w' := by
  have HSL := Lib.hid sx.1
  have HSS := Lib.hid hss
  have HBN := Lib.hid hbn
  have BLS := sx.bl_new
  have sn0 : (0 : Int) ≤ sn := by omega
  have sn1 : (sn : Int) ≤ 10 := by omega
  clear hss hbn
  obtain ⟨ir, hir, hir0, hir1, hir2⟩ := info_parts Try.info_rn
  have bel := Below.refl w.heap.size w
  go_enter Try.func25, Try.ntmps25
  go_wp2_with fail
  go_loopg [3, 11] (sn) (fun gk s3 s11 wr => ∃ i : Nat, ∃ z : Nat, gk = sn - i ∧ i ≤ sn ∧ z ≤ 100 * i ∧ s3 = .int .i64 (z : Int) ∧ s11 = .int .i64 (i : Int) ∧ w = wr)
  case atStart => exact ⟨0, 0, Nat.sub_zero _, Nat.zero_le _, Nat.zero_le _, rfl, rfl, rfl⟩
  case round =>
    obtain ⟨i, z, HGK, hi, hz, rfl, rfl, rfl⟩ := hrel
    have HGK_ := Lib.hid HGK
    clear HGK
    have i0 : (0 : Int) ≤ i := by omega
    have z0 : (0 : Int) ≤ z := by omega
    have z1 : (z : Int) ≤ 1000 := by omega
    by_cases hik : i < sn
    · obtain ⟨gS, oS, hp_⟩ := sx.place (by omega)
      subst hp_
      obtain ⟨x, hx_⟩ : ∃ u_, ss[i]? = some u_ := ⟨_, List.getElem?_eq_getElem (by rw [HSL.out]; exact hik)⟩
      have HX := Lib.hid hx_
      obtain ⟨lx, hl_, hs_⟩ := HSS.out.at hx_
      have HLX := Lib.hid hl_
      have HSX := Lib.hid hs_
      have HXN : x.n ≤ 100 := HBN.out x (List.mem_of_getElem? hx_)
      have xn0 : (0 : Int) ≤ x.n := by omega
      have xn1 : (x.n : Int) ≤ 100 := by omega
      clear hx_ hl_ hs_
      have R14 := Sle.sh (i := i) sx HX.out
      go_wp2_with fail
      clear R14
      go_roundg (sn - (i + 1))
      case measure => have := HGK_.out; omega
      case rel => exact ⟨i + 1, z + x.n, rfl, hik, by omega, by go_num, by go_num, rfl⟩
    have HZB : Hid (z ≤ 1000) := Lib.hid (by omega)
    replace hik : decide (i < sn) = false := decide_eq_false hik
    clear hi hz
    go_wp2_with fail
    with_reducible refine (dgrow_v z HZB.out _).mono ?_
    rintro e w1 ⟨v_gr, rfl, grw, b1⟩
    have bl_sx_gr := sx.bl_new
    have grlo := bel.size
    have lz_gr := b1.size
    replace sx := sx.below b1
    replace bel := bel.trans (b1.mono bel.size)
    clear b1
    obtain ⟨Agr, cgr, rfl⟩ := owk_val grw
    have gr := (owk_sle (by decide) rE_len grw).1
    have fr_gr := (owk_sle (by decide) rE_len grw).2
    go_wp2_with fail
    go_loopg [6, 27] (sn) (fun gk s6 s27 wr => ∃ i : Nat, ∃ z : Nat, ∃ (Aou : Option Addr) (cou : Nat), gk = sn - i ∧ i ≤ sn ∧ z ≤ 100 * i ∧ s6 = .slice Aou z cou ∧ s27 = .int .i64 (i : Int) ∧ wr.ownsRow (w.heap.size) 36 5 (.slice Aou (z) cou) (z) (((Ls.take i).flatten : List Rh).flatMap rE) ∧ Sle shE 1 wr (S) (sn) (sc) (ss) ∧ Below w.heap.size w wr)
    case atStart => exact ⟨0, 0, Agr, cgr, Nat.sub_zero _, Nat.zero_le _, Nat.zero_le _, rfl, rfl, (owk_to (owk_lo grw grlo) rfl (by simp)), sx, bel⟩
    case round =>
      clear sx gr bel
      obtain ⟨i, z, Aou, cou, HGK, hi, hz, rfl, rfl, ouw, sx, bel⟩ := hrel
      have HGK_ := Lib.hid HGK
      clear HGK
      have ou := (owk_sle (by decide) rE_len ouw).1
      have fr_ou := (owk_sle (by decide) rE_len ouw).2
      have lz_ou := bel.size
      have oulo := Nat.le_refl (w.heap.size)
      have i0 : (0 : Int) ≤ i := by omega
      have z0 : (0 : Int) ≤ z := by omega
      have z1 : (z : Int) ≤ 1000 := by omega
      by_cases hik2 : i < sn
      rotate_left
      · have HI : Hid (sn ≤ i) := Lib.hid (by omega)
        replace hik2 : decide (i < sn) = false := decide_eq_false hik2
        go_wp2_with fail
        go_ret
        exact ⟨_, _, _, rfl, owk_cut (owk_to ouw rfl (by rw [List.take_of_length_le (by have h_ := HI.out; have h1_ := HSS.out.1; have h2_ := HSL.out; omega)])), bel⟩
      obtain ⟨gS, oS, hp_⟩ := sx.place (by omega)
      subst hp_
      obtain ⟨x, hx_⟩ : ∃ u_, ss[i]? = some u_ := ⟨_, List.getElem?_eq_getElem (by rw [HSL.out]; exact hik2)⟩
      have HX := Lib.hid hx_
      obtain ⟨lx, hl_, hs_⟩ := HSS.out.at hx_
      have HLX := Lib.hid hl_
      have HSX := Lib.hid hs_
      have HXN : x.n ≤ 100 := HBN.out x (List.mem_of_getElem? hx_)
      have xn0 : (0 : Int) ≤ x.n := by omega
      have xn1 : (x.n : Int) ≤ 100 := by omega
      clear hx_ hl_ hs_
      have sl : Sle rE 5 wr x.A x.n x.c lx := HSX.out.below bel
      have R30 := Sle.sh (i := i) sx HX.out
      go_wp2_with (first | ((with_reducible show wpList _ _ _ (⟨some 33, _, _, _, _, _⟩ :: _) _ _); refine wpList_append_sle rfl (.tmp 31) (.tmp 32) 24 rfl (w.heap.size) 36 ir (.agg #[.slice none 0 0, .int .i64 0, .int .i64 0, .int .u32 0, .slice none 0 0]) 72 Try.underlying24 hir hir0 hir1 hir2 rfl rE_one _ (z) ((Ls.take i).flatten) rfl ouw (x.A) (x.n) (x.c) (lx) rfl sl (by unfold maxLen; omega) (by omega) lz_ou ?_; intro v33 w2 own_ bb gw ofw; clear ofw; replace sx := sx.under BLS bb; clear sl; clear gw; replace bel := bel.trans (bb.mono oulo); have lz_s33 := Nat.le_trans lz_ou bb.size; clear bb; clear ou ouw lz_ou; replace own_ : w2.ownsRow (w.heap.size) 36 5 v33 (z + x.n) (((Ls.take i).flatten ++ lx : List Rh).flatMap rE) := own_; obtain ⟨A33, c33, rfl⟩ := owk_val own_; have s33w := own_; have s33 := (owk_sle (by decide) rE_len own_).1; have fr_s33 := (owk_sle (by decide) rE_len own_).2; clear own_))
      try clear R30
      go_roundg (sn - (i + 1))
      case measure => have := HGK_.out; omega
      case rel => exact ⟨i + 1, z + x.n, A33, c33, rfl, hik2, by omega, rfl, by go_num, (owk_to s33w rfl (by rw [flat_next HLX.out])), sx, bel⟩
def flR (fl code : Int) : Int := (bits .or .i64 (bits .or .i64 32896 (bits .and .i64 fl 30976)) (bits .and .i64 code 15))
set_option linter.unusedVariables false in
set_option linter.unusedSimpArgs false in
set_option maxRecDepth 100000 in
set_option maxHeartbeats 16000000 in
theorem drefuse_any (id fl code : Int) {Q : Option Addr} {qn qc : Nat} (A : Option Addr) (an ac : Nat) (O : Option Addr) (on oc : Nat) (M : Option Addr) (mn mc : Nat) {hq : List Qh} {L : List Qn} (w : World) (sq : Sle qE 3 w Q qn qc hq) (hr : QRs w hq L) (hqn : qn ≤ 100) (hnb : ∀ q ∈ L, q.name.length ≤ 100000) : Calls Try.prog 16 #[.agg #[.int .i64 id, .int .i64 fl, .slice Q qn qc, .slice A an ac, .slice O on oc, .slice M mn mc], .int .i64 code] w fun e w' => ∃ Q' cq, e = .returned (.agg #[.int .i64 id, .int .i64 (bits .or .i64 (bits .or .i64 32896 (bits .and .i64 fl 30976)) (bits .and .i64 code 15)), .slice Q' qn cq, .slice none 0 0, .slice none 0 0, .slice none 0 0]) ∧ LQ w.heap.size w' 60 Q' qn cq L ∧ Below w.heap.size w w' := by
  have HQL := Lib.hid sq.1
  have HQR := Lib.hid hr
  have HNB := Lib.hid hnb
  have BLS := sq.bl_new
  have qn0 : (0 : Int) ≤ qn := by omega
  have qn1 : (qn : Int) ≤ 100 := by omega
  have hqs : Qws w.heap.size w [] (L.take 0) := All2.nil
  clear hr hnb
  obtain ⟨iq, hiq, hiq0, hiq1, hiq2⟩ := info_parts Try.info_qn
  have bel := Below.refl w.heap.size w
  go_enter Try.func16, Try.ntmps16
  go_wp2_with (first | ((with_reducible show wpList _ _ _ (⟨some 2, _, _, _, _, _⟩ :: _) _ _); refine wpList_box_n rfl 26 (.tmp 0) rfl #[.int .i64 id, .int .i64 fl, .slice Q qn qc, .slice A an ac, .slice O on oc, .slice M mn mc] rfl ?_; intro g2 w1 ge lt hh bb; have av_sq_pm := sq.av_new ge; have opm := Nat.le_trans bel.size ge; replace sq := sq.below bb; replace hqs := hqs.kt (S := []) (kt_below bb) (by simp) (by simp); replace bel := bel.trans (bb.mono bel.size); have hpm := hh; clear hh lt ge bb) | ((with_reducible show wpList _ _ _ (⟨some 4, _, _, _, _, _⟩ :: _) _ _); refine wpList_new_a rfl 26 rfl #[.int .i64 0, .int .i64 0, .slice none 0 0, .slice none 0 0, .slice none 0 0, .slice none 0 0] (by kernel_rfl) ?_; intro g4 w2 ge hh bb; have d_pm_b4 := ne_new (hlt hpm) ge; have av_sq_b4 := sq.av_new ge; have ob4 := Nat.le_trans bel.size ge; replace hpm := blk_u hpm bb; replace sq := sq.below bb; replace hqs := hqs.kt (S := []) (kt_below bb) (by simp) (by simp); replace bel := bel.trans (bb.mono bel.size); have hb4 := hh; clear hh ge bb; have R9 := cell_lit hpm 0 _ rfl; have R11 := cell_lit hpm 1 _ rfl) | ((with_reducible show wpList _ _ _ (⟨some 5, _, _, _, _, _⟩ :: _) _ _); refine wpList_new_a rfl 26 rfl #[.int .i64 0, .int .i64 0, .slice none 0 0, .slice none 0 0, .slice none 0 0, .slice none 0 0] (by kernel_rfl) ?_; intro g5 w3 ge hh bb; have d_pm_rm := ne_new (hlt hpm) ge; have d_b4_rm := ne_new (hlt hb4) ge; have av_sq_rm := sq.av_new ge; have orm := Nat.le_trans bel.size ge; replace hpm := blk_u hpm bb; replace hb4 := blk_u hb4 bb; replace sq := sq.below bb; replace hqs := hqs.kt (S := []) (kt_below bb) (by simp) (by simp); replace bel := bel.trans (bb.mono bel.size); have hrm := hh; clear hh ge bb) | ((with_reducible show wpList _ _ _ (⟨none, Op.store _ (.tmp 5) _, _, _, _, _⟩ :: _) _ _); refine wpList_store_blk rfl 26 (.tmp 5) (.tmp 17) rfl g5 rfl _ rfl _ 26 hrm (by rfl) (by kernel_rfl) (by kernel_rfl) ?_; intro w4 hq gr; replace sq := sq.away av_sq_rm gr; replace hpm := blk_a hpm gr d_pm_rm; replace hb4 := blk_a hb4 gr d_b4_rm; replace hqs := hqs.kt (S := [26]) (kt_grown gr hrm (by simp)) (by decide) (by decide); replace bel := below_grown bel gr orm bel.size; clear hrm; have hrm := hq; clear hq gr; have R19 := cell_lit hpm 2 _ rfl))
  try clear R9
  try clear R11
  try clear R19
  go_loopg [21] (qn) (fun gk s21 wr => ∃ i : Nat, ∃ hs : List Qh, ∃ (Aou : Option Addr) (cou : Nat), gk = qn - i ∧ i ≤ qn ∧ Qws w.heap.size wr hs (L.take i) ∧ s21 = .int .i64 (i : Int) ∧ wr.ownsRow (w.heap.size) 60 3 (.slice Aou (i) cou) (i) ((hs : List Qh).flatMap qE) ∧ Ofs (.slice Aou (i) cou) g2 ∧ Ofs (.slice Aou (i) cou) g4 ∧ Ofs (.slice Aou (i) cou) g5 ∧ wr.heap[g2]? = some (.cells #[.int .i64 id, .int .i64 fl, .slice Q qn qc, .slice A an ac, .slice O on oc, .slice M mn mc] 26 (0, 0)) ∧ wr.heap[g4]? = some (.cells #[.int .i64 0, .int .i64 0, .slice none 0 0, .slice none 0 0, .slice none 0 0, .slice none 0 0] 26 (0, 0)) ∧ wr.heap[g5]? = some (.cells #[.int .i64 id, .int .i64 (bits .or .i64 (bits .or .i64 32896 (bits .and .i64 fl 30976)) (bits .and .i64 code 15)), .slice Aou i cou, .slice none 0 0, .slice none 0 0, .slice none 0 0] 26 (0, 0)) ∧ Sle qE 3 wr (Q) (qn) (qc) (hq) ∧ Below w.heap.size w wr)
  case atStart => exact ⟨0, [], none, 0, Nat.sub_zero _, Nat.zero_le _, hqs, rfl, owk_nil _ _ _, (fun g h => by simp [Value.ownBlock] at h), (fun g h => by simp [Value.ownBlock] at h), (fun g h => by simp [Value.ownBlock] at h), hpm, hb4, hrm, sq, bel⟩
  case round =>
    clear hqs hpm hb4 hrm sq bel
    obtain ⟨i, hs, Aou, cou, HGK, hi, hqs, rfl, ouw, of_ou_pm, of_ou_b4, of_ou_rm, hpm, hb4, hrm, sq, bel⟩ := hrel
    have HGK_ := Lib.hid HGK
    clear HGK
    have ou := (owk_sle (by decide) qE_len ouw).1
    have fr_ou := (owk_sle (by decide) qE_len ouw).2
    have lz_ou := bel.size
    have oulo := Nat.le_refl (w.heap.size)
    have av_ou_pm := owk_av ouw of_ou_pm
    have av_ou_b4 := owk_av ouw of_ou_b4
    have av_ou_rm := owk_av ouw of_ou_rm
    have hz_ou := Nat.le_refl w.heap.size
    have i0 : (0 : Int) ≤ i := by omega
    by_cases hik : i < qn
    rotate_left
    · have HI : Hid (qn ≤ i) := Lib.hid (by omega)
      have hie : i = qn := by omega
      subst hie
      replace hik : decide (i < i) = false := decide_eq_false (by omega)
      have R36 := Lib.hid (range_lit hrm 0 6 [.int .i64 id, .int .i64 (bits .or .i64 (bits .or .i64 32896 (bits .and .i64 fl 30976)) (bits .and .i64 code 15)), .slice Aou i cou, .slice none 0 0, .slice none 0 0, .slice none 0 0] rfl)
      go_wp2_with (first | ((with_reducible show wpList _ _ _ (⟨some 36, _, _, _, _, _⟩ :: _) _ _); refine wpList_load_rng 26 (.tmp 5) rfl (by kernel_rfl) _ _ rfl _ R36.out _ Try.underlying26 rfl (by kernel_rfl) ?_) | ((with_reducible show wpList _ _ _ (⟨none, Op.store _ (.tmp 4) _, _, _, _, _⟩ :: _) _ _); refine wpList_store_blk rfl 26 (.tmp 4) (.tmp 36) rfl g4 rfl _ rfl _ 26 hb4 (by rfl) (by kernel_rfl) (by kernel_rfl) ?_; intro w5 hq gr; replace sq := sq.away av_sq_b4 gr; replace ou := ou.away av_ou_b4 gr; replace ouw := owk_off ouw of_ou_b4 gr; replace lz_ou := Nat.le_trans lz_ou gr.size; replace hpm := blk_a hpm gr d_pm_b4; replace hrm := blk_a hrm gr (ne_symm d_b4_rm); replace hqs := hqs.kt (S := [26]) (kt_grown gr hb4 (by simp)) (by decide) (by decide); replace bel := below_grown bel gr ob4 bel.size; clear hb4; have hb4 := hq; clear hq gr))
      try clear R36
      exact bodyPost_ret (results_cell_row' rfl _ _ _ _ _ _ _ rfl hb4 Try.underlying26 rfl (by kernel_rfl)) rfl ⟨_, _, rfl, ⟨hs, ouw, by rw [List.take_of_length_le (by have h_ := HQR.out.1; have h1_ := HQL.out; omega)] at hqs; exact hqs⟩, bel⟩
    obtain ⟨gE, oE, hp_⟩ := sq.place (by omega)
    subst hp_
    obtain ⟨x, hx_⟩ : ∃ u_, hq[i]? = some u_ := ⟨_, List.getElem?_eq_getElem (by rw [HQL.out]; exact hik)⟩
    have HX := Lib.hid hx_
    obtain ⟨q1, hl_, hr_⟩ := HQR.out.at hx_
    have HLI := Lib.hid hl_
    have HR1 : Hid (x.t = q1.t ∧ x.k = q1.k) := Lib.hid ⟨hr_.1, hr_.2.1⟩
    have HSN : Hid (Sle stf 1 w x.A x.n x.c q1.name) := Lib.hid hr_.2.2
    have HXN : Hid (x.n ≤ 100000) := Lib.hid (by have h_ := HNB.out q1 (List.mem_of_getElem? hl_); have h1_ := hr_.2.2.1; omega)
    clear hx_ hl_ hr_
    have R24 := Lib.hid (Sle.range0 sq HX.out 3 [.slice x.A x.n x.c, .int .i64 x.t, .int .i64 x.k] rfl)
    go_wp2_with (first | ((with_reducible show wpList _ _ _ (⟨some 24, _, _, _, _, _⟩ :: _) _ _); refine wpList_load_rng 60 (.tmp 23) rfl (by kernel_rfl) _ _ rfl _ R24.out _ Try.underlying60 rfl (by kernel_rfl) ?_) | ((with_reducible show wpList _ _ _ (⟨some 7, _, _, _, _, _⟩ :: _) _ _); refine wpList_new_a rfl 60 rfl #[.slice none 0 0, .int .i64 0, .int .i64 0] (by kernel_rfl) ?_; intro g7 w5 ge hh bb; have d_pm_qq := ne_new (hlt hpm) ge; have d_b4_qq := ne_new (hlt hb4) ge; have d_rm_qq := ne_new (hlt hrm) ge; have av_sq_qq := sq.av_new ge; have av_ou_qq := ou.av_new ge; have of_ou_qq := owk_new ouw ge; have oqq := Nat.le_trans bel.size ge; replace hpm := blk_u hpm bb; replace hb4 := blk_u hb4 bb; replace hrm := blk_u hrm bb; replace sq := sq.below bb; replace ou := ou.below bb; replace ouw := owk_under ouw bb; replace lz_ou := Nat.le_trans lz_ou bb.size; replace hqs := hqs.kt (S := []) (kt_below bb) (by simp) (by simp); replace bel := bel.trans (bb.mono bel.size); have hqq := hh; clear hh ge bb) | ((with_reducible show wpList _ _ _ (⟨none, Op.store _ (.tmp 7) _, _, _, _, _⟩ :: _) _ _); refine wpList_store_blk rfl 60 (.tmp 7) (.tmp 24) rfl g7 rfl _ rfl _ 60 hqq (by rfl) (by kernel_rfl) (by kernel_rfl) ?_; intro w6 hq gr; replace sq := sq.away av_sq_qq gr; replace ou := ou.away av_ou_qq gr; replace ouw := owk_off ouw of_ou_qq gr; replace lz_ou := Nat.le_trans lz_ou gr.size; replace hpm := blk_a hpm gr d_pm_qq; replace hb4 := blk_a hb4 gr d_b4_qq; replace hrm := blk_a hrm gr d_rm_qq; replace hqs := hqs.kt (S := [60]) (kt_grown gr hqq (by simp)) (by decide) (by decide); replace bel := below_grown bel gr oqq bel.size; clear hqq; have hqq := hq; clear hq gr; have R26 := cell_lit hqq 0 _ rfl))
    try clear R24
    try clear R26
    have HS_N := bel.size
    with_reducible refine (dsclone_any _ (HSN.out.below bel) HXN.out).mono ?_
    rintro e w7 ⟨Bq, mq, cq, rfl, nmw, b7⟩
    replace hpm := blk_u hpm b7
    replace hb4 := blk_u hb4 b7
    replace hrm := blk_u hrm b7
    replace hqq := blk_u hqq b7
    replace sq := sq.below b7
    replace ou := ou.below b7
    replace ouw := owk_under ouw b7
    replace lz_ou := Nat.le_trans lz_ou b7.size
    replace hqs := hqs.kt (S := []) (kt_below b7) (by simp) (by simp)
    replace bel := bel.trans (b7.mono bel.size)
    clear b7
    replace nmw := owk_lo nmw HS_N
    go_wp2_with (first | ((with_reducible show wpList _ _ _ (⟨none, Op.store _ (.tmp 28) _, _, _, _, _⟩ :: _) _ _); refine wpList_store_part rfl 33 (.tmp 28) (.tmp 27) rfl g7 0 rfl [.slice Bq mq cq] rfl [.slice x.A x.n x.c, .int .i64 x.t, .int .i64 x.k] 60 hqq (by simp) [.slice Bq mq cq, .int .i64 x.t, .int .i64 x.k] rfl (by kernel_rfl) (by rfl) ?_; intro w8 hq gr; replace sq := sq.away av_sq_qq gr; replace ou := ou.away av_ou_qq gr; replace ouw := owk_off ouw of_ou_qq gr; replace lz_ou := Nat.le_trans lz_ou gr.size; replace hpm := blk_a hpm gr d_pm_qq; replace hb4 := blk_a hb4 gr d_b4_qq; replace hrm := blk_a hrm gr d_rm_qq; replace hqs := hqs.kt (S := [60]) (kt_grown gr hqq (by simp)) (by decide) (by decide); replace nmw := owk_off nmw (ofs_type nmw hqq (by decide)) gr; replace bel := below_grown bel gr oqq bel.size; clear hqq; have hqq := hq; clear hq gr; replace hqs := hqs.snoc (x := (⟨Bq, mq, cq, x.t, x.k⟩ : Qh)) (q := q1) ⟨HR1.out.1, HR1.out.2, nmw⟩; clear nmw; have R30 := cell_lit hrm 2 _ rfl; have R31 := Lib.hid (range_lit hqq 0 3 [.slice Bq mq cq, .int .i64 x.t, .int .i64 x.k] rfl)) | ((with_reducible show wpList _ _ _ (⟨some 31, _, _, _, _, _⟩ :: _) _ _); refine wpList_load_rng 60 (.tmp 7) rfl (by kernel_rfl) _ _ rfl _ R31.out _ Try.underlying60 rfl (by kernel_rfl) ?_) | ((with_reducible show wpList _ _ _ (⟨some 32, _, _, _, _, _⟩ :: _) _ _); refine wpList_lit_n rfl 23 60 1 _ rfl #[.slice Bq mq cq, .int .i64 x.t, .int .i64 x.k] (.agg #[.slice none 0 0, .int .i64 0, .int .i64 0]) Try.underlying23 (by kernel_rfl) 3 (by kernel_rfl) (by decide) (by kernel_rfl) ?_; intro g32 w9 ge lt hh bb; have d_pm_b32 := ne_new (hlt hpm) ge; have d_b4_b32 := ne_new (hlt hb4) ge; have d_rm_b32 := ne_new (hlt hrm) ge; have d_qq_b32 := ne_new (hlt hqq) ge; have av_sq_b32 := sq.av_new ge; have av_ou_b32 := ou.av_new ge; have of_ou_b32 := owk_new ouw ge; have ob32 := Nat.le_trans bel.size ge; replace hpm := blk_u hpm bb; replace hb4 := blk_u hb4 bb; replace hrm := blk_u hrm bb; replace hqq := blk_u hqq bb; replace sq := sq.below bb; replace ou := ou.below bb; replace ouw := owk_under ouw bb; replace lz_ou := Nat.le_trans lz_ou bb.size; replace hqs := hqs.kt (S := []) (kt_below bb) (by simp) (by simp); replace bel := bel.trans (bb.mono bel.size); have hb32 := hh; clear hh lt ge bb; have l1 : Sle qE 3 w9 (some ⟨g32, 0, none⟩) (1) (1) ([(⟨Bq, mq, cq, x.t, x.k⟩ : Qh)]) := sle_lit ([(⟨Bq, mq, cq, x.t, x.k⟩ : Qh)]) (by decide) qE_len hb32 rfl (by simp [maxLen])) | ((with_reducible show wpList _ _ _ (⟨some 33, _, _, _, _, _⟩ :: _) _ _); refine wpList_append_sle rfl (.tmp 30) (.tmp 32) 23 rfl (w.heap.size) 60 iq (.agg #[.slice none 0 0, .int .i64 0, .int .i64 0]) 40 Try.underlying23 hiq hiq0 hiq1 hiq2 rfl qE_one _ (i) (hs) rfl ouw (some ⟨g32, 0, none⟩) (1) (1) ([(⟨Bq, mq, cq, x.t, x.k⟩ : Qh)]) rfl l1 (by unfold maxLen; omega) (by omega) lz_ou ?_; intro v33 w10 own_ bb gw ofw; have of33_pm := ofw _ (hlt hpm) of_ou_pm; have of33_b4 := ofw _ (hlt hb4) of_ou_b4; have of33_rm := ofw _ (hlt hrm) of_ou_rm; have of33_qq := ofw _ (hlt hqq) of_ou_qq; have of33_b32 := ofw _ (hlt hb32) of_ou_b32; clear ofw; replace hqs := hqs.kt (S := [60]) (kt_row gw ouw (by simp)) (by decide) (by decide); replace sq := sq.under BLS bb; replace l1 := Sle.off l1 of_ou_b32 gw; replace hpm := blk_own hpm gw of_ou_pm; replace hb4 := blk_own hb4 gw of_ou_b4; replace hrm := blk_own hrm gw of_ou_rm; replace hqq := blk_own hqq gw of_ou_qq; replace hb32 := blk_own hb32 gw of_ou_b32; clear gw; replace bel := bel.trans (bb.mono oulo); have lz_s33 := Nat.le_trans lz_ou bb.size; clear bb; clear ou ouw lz_ou; replace own_ : w10.ownsRow (w.heap.size) 60 3 v33 (i + 1) ((hs ++ [(⟨Bq, mq, cq, x.t, x.k⟩ : Qh)] : List Qh).flatMap qE) := own_; obtain ⟨A33, c33, rfl⟩ := owk_val own_; have s33w := own_; have s33 := (owk_sle (by decide) qE_len own_).1; have fr_s33 := (owk_sle (by decide) qE_len own_).2; clear own_; have av_s33_pm := owk_av s33w of33_pm; have av_s33_b4 := owk_av s33w of33_b4; have av_s33_rm := owk_av s33w of33_rm; have av_s33_qq := owk_av s33w of33_qq; have av_s33_b32 := owk_av s33w of33_b32) | ((with_reducible show wpList _ _ _ (⟨none, Op.store _ (.tmp 34) _, _, _, _, _⟩ :: _) _ _); refine wpList_store_part rfl 23 (.tmp 34) (.tmp 33) rfl g5 2 rfl [.slice A33 (i + 1) c33] rfl [.int .i64 id, .int .i64 (bits .or .i64 (bits .or .i64 32896 (bits .and .i64 fl 30976)) (bits .and .i64 code 15)), .slice Aou i cou, .slice none 0 0, .slice none 0 0, .slice none 0 0] 26 hrm (by simp) [.int .i64 id, .int .i64 (bits .or .i64 (bits .or .i64 32896 (bits .and .i64 fl 30976)) (bits .and .i64 code 15)), .slice A33 (i + 1) c33, .slice none 0 0, .slice none 0 0, .slice none 0 0] rfl (by kernel_rfl) (by rfl) ?_; intro w11 hq gr; replace sq := sq.away av_sq_rm gr; clear l1; replace s33 := s33.away av_s33_rm gr; replace s33w := owk_off s33w of33_rm gr; replace lz_s33 := Nat.le_trans lz_s33 gr.size; replace hpm := blk_a hpm gr d_pm_rm; replace hb4 := blk_a hb4 gr d_b4_rm; replace hqq := blk_a hqq gr (ne_symm d_rm_qq); replace hb32 := blk_a hb32 gr (ne_symm d_rm_b32); replace hqs := hqs.kt (S := [26]) (kt_grown gr hrm (by simp)) (by decide) (by decide); replace bel := below_grown bel gr orm bel.size; clear hrm; have hrm := hq; clear hq gr))
    try clear R30
    try clear R31
    go_roundg (qn - (i + 1))
    case measure => have := HGK_.out; omega
    case rel => exact ⟨i + 1, hs ++ [(⟨Bq, mq, cq, x.t, x.k⟩ : Qh)], A33, c33, rfl, hik, (by rw [take_next HLI.out]; exact hqs), by go_num, s33w, of33_pm, of33_b4, of33_rm, hpm, hb4, hrm, sq, bel⟩
open Go.RowKit

theorem okM_id {m : Mn} (h : h16 m.id = false) : okM m = false := by unfold okM; rw [h]; rfl
theorem okM_fl {m : Mn} (h : h16 m.fl = false) : okM m = false := by unfold okM; rw [h, Bool.and_false]; rfl
theorem okM_parts {m : Mn} (h : 64 < partsM m) : okM m = false := by unfold okM; rw [decide_eq_false (show ¬ partsM m ≤ 64 by omega), Bool.and_false]; rfl
theorem okM_q {m : Mn} {i : Nat} {q : Qn} (hi : m.q[i]? = some q) (h : okQ q = false) : okM m = false := by
  unfold okM
  rw [List.all_eq_false.2 ⟨q, List.mem_of_getElem? hi, by rw [h]; decide⟩, Bool.and_false]; rfl
theorem okM_r {m : Mn} {i : Nat} {r : Rn} (hi : (allR m)[i]? = some r) (h : okR r = false) : okM m = false := by
  unfold okM
  rw [List.all_eq_false.2 ⟨r, List.mem_of_getElem? hi, by rw [h]; decide⟩, Bool.and_false]
theorem putM_no {m : Mn} (h : okM m = false) : putM m = ([], 1) := by unfold putM; rw [if_neg (by rw [h]; decide)]
theorem ok_step {α : Type} {P : α → Bool} {l : List α} {i : Nat} {x : α} (h : ∀ y ∈ l.take i, P y = true) (hi : l[i]? = some x) (hx : P x = true) : ∀ y ∈ l.take (i + 1), P y = true := by
  rw [take_next hi]
  intro y hy
  rcases List.mem_append.1 hy with h1 | h1
  · exact h y h1
  · rw [List.mem_singleton.1 h1]; exact hx
theorem flatE_next {α : Type} {f : α → List UInt8} {l : List α} {i : Nat} {x : α} (h : l[i]? = some x) : (l.take (i + 1)).flatMap f = (l.take i).flatMap f ++ f x := by rw [take_next h]; simp
theorem Rls.of3 {w : World} {A O M : Option Addr} {an ac on oc mn mc : Nat} {a o m : List Rh} (h1 : Sle rE 5 w A an ac a) (h2 : Sle rE 5 w O on oc o) (h3 : Sle rE 5 w M mn mc m) : Rls w [⟨A, an, ac⟩, ⟨O, on, oc⟩, ⟨M, mn, mc⟩] [a, o, m] :=
  ((All2.nil.snoc (x := (⟨A, an, ac⟩ : Sh)) (y := a) h1).snoc (x := (⟨O, on, oc⟩ : Sh)) (y := o) h2).snoc (x := (⟨M, mn, mc⟩ : Sh)) (y := m) h3
theorem dconcat3 {S A O M : Option Addr} {an ac on oc mn mc : Nat} {a o m : List Rh} (w : World) (sx : Sle shE 1 w S 3 3 [⟨A, an, ac⟩, ⟨O, on, oc⟩, ⟨M, mn, mc⟩]) (h1 : Sle rE 5 w A an ac a) (h2 : Sle rE 5 w O on oc o) (h3 : Sle rE 5 w M mn mc m) (hb : an + on + mn ≤ 64) : Calls Try.prog 25 #[.slice S 3 3] w fun e w' => ∃ B m2 cB, e = .returned (.slice B m2 cB) ∧ w'.ownsRow w.heap.size 36 5 (.slice B m2 cB) m2 ([a, o, m].flatten.flatMap rE) ∧ Below w.heap.size w w' :=
  dconcat_any w sx (Rls.of3 h1 h2 h3) (by
    intro x hx
    simp only [List.mem_cons, List.not_mem_nil, or_false] at hx
    rcases hx with rfl | rfl | rfl
    · show an ≤ 100; omega
    · show on ≤ 100; omega
    · show mn ≤ 100; omega) (by decide)
theorem own_len {w : World} {B n : Nat} {T : TypeId} {v : Value} {l : List UInt8} (h : w.ownsRow B T 1 v n (l.map u8v)) : w.ownsRow B T 1 v l.length (l.map u8v) := by
  have e := h.1
  rw [List.length_map, Nat.mul_one] at e
  rw [e]; exact h
set_option linter.unusedVariables false in
set_option linter.unusedSimpArgs false in
set_option maxRecDepth 100000 in
set_option maxHeartbeats 16000000 in
theorem dput_any (id fl : Int) (Q : Option Addr) (qn qc : Nat) (A : Option Addr) (an ac : Nat) (O : Option Addr) (on oc : Nat) (M : Option Addr) (mn mc : Nat) {hq : List Qh} {ha ho hm : List Rh} {Lq : List Qn} {La Lo Lm : List Rn} (w : World) (sq : Sle qE 3 w Q qn qc hq) (rq : QRs w hq Lq) (sa : Sle rE 5 w A an ac ha) (ra : RRs w ha La) (so : Sle rE 5 w O on oc ho) (ro : RRs w ho Lo) (sm : Sle rE 5 w M mn mc hm) (rm : RRs w hm Lm) (hb : qn + an + on + mn ≤ 1000) (hnb : ∀ q ∈ Lq, q.name.length ≤ 100000) (hrb : ∀ r ∈ allR (⟨id, fl, Lq, La, Lo, Lm⟩ : Mn), r.name.length ≤ 100000 ∧ r.data.length ≤ 2100 ∧ 0 ≤ r.ttl ∧ r.ttl < 4294967296) : Calls Try.prog 10 #[.agg #[.int .i64 id, .int .i64 fl, .slice Q qn qc, .slice A an ac, .slice O on oc, .slice M mn mc]] w fun e w' => ∃ v, e = .returned (.tuple #[v, .int .i64 (putM (⟨id, fl, Lq, La, Lo, Lm⟩ : Mn)).2]) ∧ w'.ownsRow w.heap.size 5 1 v (putM (⟨id, fl, Lq, La, Lo, Lm⟩ : Mn)).1.length ((putM (⟨id, fl, Lq, La, Lo, Lm⟩ : Mn)).1.map u8v) ∧ Below w.heap.size w w' := by
  have BLS := sq.bl_new
  have HQL := Lib.hid sq.1
  have HRQ := Lib.hid rq
  have HRR : Hid (RRs w (ha ++ ho ++ hm) (allR (⟨id, fl, Lq, La, Lo, Lm⟩ : Mn))) := Lib.hid ((ra.append ro).append rm)
  have HAL := Lib.hid sa.1
  have HOL := Lib.hid so.1
  have HML := Lib.hid sm.1
  have HQQ : Hid (Lq.length = qn) := Lib.hid (by rw [← rq.1]; exact sq.1)
  have HLA : Hid (La.length = an) := Lib.hid (by rw [← ra.1]; exact sa.1)
  have HLO : Hid (Lo.length = on) := Lib.hid (by rw [← ro.1]; exact so.1)
  have HLM : Hid (Lm.length = mn) := Lib.hid (by rw [← rm.1]; exact sm.1)
  have HNB := Lib.hid hnb
  have HRB := Lib.hid hrb
  have HSA := Lib.hid sa
  have HSO := Lib.hid so
  have HSMM := Lib.hid sm
  have HHD : Hid (headM (⟨id, fl, Lq, La, Lo, Lm⟩ : Mn) = (two id ++ two fl ++ two (qn : Int) ++ two (an : Int) ++ two (on : Int) ++ two (mn : Int))) := Lib.hid (by unfold headM; rw [HQQ.out, HLA.out, HLO.out, HLM.out])
  clear rq ra ro rm hnb hrb sa so sm
  have qn0 : (0 : Int) ≤ qn := by omega
  have qn1 : (qn : Int) ≤ 1000 := by omega
  have an0 : (0 : Int) ≤ an := by omega
  have an1 : (an : Int) ≤ 1000 := by omega
  have on0 : (0 : Int) ≤ on := by omega
  have on1 : (on : Int) ≤ 1000 := by omega
  have mn0 : (0 : Int) ≤ mn := by omega
  have mn1 : (mn : Int) ≤ 1000 := by omega
  obtain ⟨ii, hii, hz0, hz1, hz2⟩ := info_parts Try.info5
  have HB := Lib.hid hb
  have bel := Below.refl w.heap.size w
  go_enter Try.func10, Try.ntmps10
  rcases (by decide : ∀ b : Bool, b = true ∨ b = false) (h16 id) with hid_ | hid_
  rotate_left
  · have HID := Lib.hid hid_
    have HP : Hid (putM (⟨id, fl, Lq, La, Lo, Lm⟩ : Mn) = ([], 1)) := Lib.hid (putM_no (okM_id hid_))
    clear hid_
    go_wp2_with (first | ((with_reducible show wpList _ _ _ (⟨some 1, _, _, _, _, _⟩ :: _) _ _); refine wpList_box_n rfl 26 (.tmp 0) rfl #[.int .i64 id, .int .i64 fl, .slice Q qn qc, .slice A an ac, .slice O on oc, .slice M mn mc] rfl ?_; intro g1 w1 ge lt hh bb; have av_sq_pm := sq.av_new ge; have opm := Nat.le_trans bel.size ge; replace sq := sq.below bb; replace bel := bel.trans (bb.mono bel.size); have hpm := hh; clear hh lt ge bb; have R14 := cell_lit hpm 0 _ rfl))
    try clear R14
    with_reducible refine (dupto_is _ HID.out).mono ?_
    rintro e _ ⟨rfl, rfl⟩
    go_wp2_with fail
    exact bodyPost_ret (v := .tuple #[.slice none 0 0, .int .i64 1]) (by simp [results, Try.results10, go_sem]) rfl ⟨_, by rw [HP.out], by rw [HP.out]; exact World.ownsRow_nil _ _ _ _, bel⟩
  have HID := Lib.hid hid_
  clear hid_
  go_wp2_with (first | ((with_reducible show wpList _ _ _ (⟨some 1, _, _, _, _, _⟩ :: _) _ _); refine wpList_box_n rfl 26 (.tmp 0) rfl #[.int .i64 id, .int .i64 fl, .slice Q qn qc, .slice A an ac, .slice O on oc, .slice M mn mc] rfl ?_; intro g1 w1 ge lt hh bb; have av_sq_pm := sq.av_new ge; have opm := Nat.le_trans bel.size ge; replace sq := sq.below bb; replace bel := bel.trans (bb.mono bel.size); have hpm := hh; clear hh lt ge bb; have R14 := cell_lit hpm 0 _ rfl))
  try clear R14
  with_reducible refine (dupto_is _ HID.out).mono ?_
  rintro e _ ⟨rfl, rfl⟩
  rcases (by decide : ∀ b : Bool, b = true ∨ b = false) (h16 fl) with hfl_ | hfl_
  rotate_left
  · have HFL := Lib.hid hfl_
    have HP : Hid (putM (⟨id, fl, Lq, La, Lo, Lm⟩ : Mn) = ([], 1)) := Lib.hid (putM_no (okM_fl hfl_))
    clear hfl_
    have R19 := cell_lit hpm 1 _ rfl
    go_wp2_with fail
    clear R19
    with_reducible refine (dupto_is _ HFL.out).mono ?_
    rintro e _ ⟨rfl, rfl⟩
    go_wp2_with fail
    exact bodyPost_ret (v := .tuple #[.slice none 0 0, .int .i64 1]) (by simp [results, Try.results10, go_sem]) rfl ⟨_, by rw [HP.out], by rw [HP.out]; exact World.ownsRow_nil _ _ _ _, bel⟩
  have HFL := Lib.hid hfl_
  clear hfl_
  have R19 := cell_lit hpm 1 _ rfl
  go_wp2_with fail
  clear R19
  with_reducible refine (dupto_is _ HFL.out).mono ?_
  rintro e _ ⟨rfl, rfl⟩
  by_cases hps : qn + an + on + mn ≤ 64
  rotate_left
  · have t26 : (64 : Int) < (qn : Int) + an + on + mn := by omega
    have HP : Hid (putM (⟨id, fl, Lq, La, Lo, Lm⟩ : Mn) = ([], 1)) := Lib.hid (putM_no (okM_parts (show 64 < Lq.length + La.length + Lo.length + Lm.length by rw [HQQ.out, HLA.out, HLO.out, HLM.out]; omega)))
    clear hps
    have R24 := Lib.hid (range_lit hpm 0 6 [.int .i64 id, .int .i64 fl, .slice Q qn qc, .slice A an ac, .slice O on oc, .slice M mn mc] rfl)
    go_wp2_with (first | ((with_reducible show wpList _ _ _ (⟨some 24, _, _, _, _, _⟩ :: _) _ _); refine wpList_load_rng 26 (.tmp 1) rfl (by kernel_rfl) _ _ rfl _ R24.out _ Try.underlying26 rfl (by kernel_rfl) ?_))
    try clear R24
    with_reducible refine (dparts_any _ _ _ _ _ _ _ _ _ _ _ _ _ _ _ (by have h_ := HB.out; omega)).mono ?_
    rintro e w2 ⟨rfl, b2⟩
    replace hpm := blk_u hpm b2
    replace sq := sq.below b2
    replace bel := bel.trans (b2.mono bel.size)
    clear b2
    go_wp2_with fail
    exact bodyPost_ret (v := .tuple #[.slice none 0 0, .int .i64 1]) (by simp [results, Try.results10, go_sem]) rfl ⟨_, by rw [HP.out], by rw [HP.out]; exact World.ownsRow_nil _ _ _ _, bel⟩
  have HPS := Lib.hid hps
  have HPQ : Hid (qn ≤ 64) := Lib.hid (by omega)
  have HPQ2 : Hid (an + on + mn ≤ 64) := Lib.hid (by omega)
  have t26 : decide ((64 : Int) < (qn : Int) + an + on + mn) = false := decide_eq_false (by omega)
  clear hps
  have R24 := Lib.hid (range_lit hpm 0 6 [.int .i64 id, .int .i64 fl, .slice Q qn qc, .slice A an ac, .slice O on oc, .slice M mn mc] rfl)
  go_wp2_with (first | ((with_reducible show wpList _ _ _ (⟨some 24, _, _, _, _, _⟩ :: _) _ _); refine wpList_load_rng 26 (.tmp 1) rfl (by kernel_rfl) _ _ rfl _ R24.out _ Try.underlying26 rfl (by kernel_rfl) ?_))
  try clear R24
  with_reducible refine (dparts_any _ _ _ _ _ _ _ _ _ _ _ _ _ _ _ (by have h_ := HB.out; omega)).mono ?_
  rintro e w2 ⟨rfl, b2⟩
  replace hpm := blk_u hpm b2
  replace sq := sq.below b2
  replace bel := bel.trans (b2.mono bel.size)
  clear b2
  have R28 := Lib.hid (range_lit hpm 0 6 [.int .i64 id, .int .i64 fl, .slice Q qn qc, .slice A an ac, .slice O on oc, .slice M mn mc] rfl)
  go_wp2_with (first | ((with_reducible show wpList _ _ _ (⟨some 28, _, _, _, _, _⟩ :: _) _ _); refine wpList_load_rng 26 (.tmp 1) rfl (by kernel_rfl) _ _ rfl _ R28.out _ Try.underlying26 rfl (by kernel_rfl) ?_))
  try clear R28
  with_reducible refine (dwhead_any _ _ _ _ _ _ _ _ _ _ _ _ _ _ _ (by have h_ := HB.out; omega)).mono ?_
  rintro e w3 ⟨v_hd, rfl, hdw, b3⟩
  have y_hd_pm := Lib.hid (hlt hpm)
  have bl_sq_hd := sq.bl_new
  have hdlo := bel.size
  have lz_hd := b3.size
  replace hpm := blk_u hpm b3
  replace sq := sq.below b3
  replace bel := bel.trans (b3.mono bel.size)
  clear b3
  obtain ⟨Ahd, chd, rfl⟩ := own_val hdw
  have hd := (own_sl hdw).1
  have fr_hd := (own_sl hdw).2
  have av_hd_pm := fr_hd.av y_hd_pm.out
  have of_hd_pm := ofs_type hdw hpm (by decide)
  have R31 := cell_lit hpm 2 _ rfl
  go_wp2_with fail
  clear R31
  go_loopg [4, 33] (qn) (fun gk s4 s33 wr => ∃ i : Nat, ∃ z : Nat, ∃ (Aou : Option Addr) (cou : Nat), gk = qn - i ∧ i ≤ qn ∧ Hid (∀ q ∈ Lq.take i, okQ q = true) ∧ z ≤ 12 + 259 * i ∧ s4 = .slice Aou z cou ∧ s33 = .int .i64 (i : Int) ∧ wr.ownsRow (w.heap.size) 5 1 (.slice Aou (z) cou) (z) (((two id ++ two fl ++ two (qn : Int) ++ two (an : Int) ++ two (on : Int) ++ two (mn : Int)) ++ (Lq.take i).flatMap encQ : List UInt8).map u8v) ∧ Ofs (.slice Aou (z) cou) g1 ∧ wr.heap[g1]? = some (.cells #[.int .i64 id, .int .i64 fl, .slice Q qn qc, .slice A an ac, .slice O on oc, .slice M mn mc] 26 (0, 0)) ∧ Sle qE 3 wr (Q) (qn) (qc) (hq) ∧ Below w.heap.size w wr)
  case atStart => exact ⟨0, 12, Ahd, chd, Nat.sub_zero _, Nat.zero_le _, Lib.hid (by simp), by omega, rfl, rfl, (owk_lo (own_to hdw rfl (by simp)) hdlo), of_hd_pm, hpm, sq, bel⟩
  case round =>
    clear hpm sq hd bel
    obtain ⟨i, z, Aou, cou, HGK, hi, HO1, hz, rfl, rfl, ouw, of_ou_pm, hpm, sq, bel⟩ := hrel
    have HGK_ := Lib.hid HGK
    clear HGK
    have ou := (own_sl ouw).1
    have fr_ou := (own_sl ouw).2
    have lz_ou := bel.size
    have oulo := Nat.le_refl (w.heap.size)
    have av_ou_pm := own_av ouw of_ou_pm
    have i0 : (0 : Int) ≤ i := by omega
    have z0 : (0 : Int) ≤ z := by omega
    have hqn_ : qn ≤ 64 := HPQ.out
    have z1 : (z : Int) ≤ 100000 := by omega
    by_cases hik : i < qn
    · obtain ⟨gE, oE, hp_⟩ := sq.place (by omega)
      subst hp_
      obtain ⟨x, hx_⟩ : ∃ u_, hq[i]? = some u_ := ⟨_, List.getElem?_eq_getElem (by rw [HQL.out]; exact hik)⟩
      have HX := Lib.hid hx_
      obtain ⟨q1, hl_, hr_⟩ := HRQ.out.at hx_
      have HLI := Lib.hid hl_
      have HXE : Hid ((⟨q1.name, x.t, x.k⟩ : Qn) = q1) := Lib.hid (by rw [hr_.1, hr_.2.1])
      have HSN : Hid (Sle stf 1 w x.A x.n x.c q1.name) := Lib.hid hr_.2.2
      have HXN : Hid (x.n ≤ 100000) := Lib.hid (by have h_ := HNB.out q1 (List.mem_of_getElem? hl_); have h1_ := hr_.2.2.1; omega)
      clear hx_ hl_ hr_
      rcases (by decide : ∀ b : Bool, b = true ∨ b = false) (okQ ⟨q1.name, x.t, x.k⟩) with ho_ | ho_
      rotate_left
      · have HOQ := Lib.hid ho_
        have HP : Hid (putM (⟨id, fl, Lq, La, Lo, Lm⟩ : Mn) = ([], 1)) := Lib.hid (putM_no (okM_q HLI.out (by rw [← HXE.out]; exact ho_)))
        clear ho_
        have R36 := Lib.hid (Sle.range0 sq HX.out 3 [.slice x.A x.n x.c, .int .i64 x.t, .int .i64 x.k] rfl)
        go_wp2_with (first | ((with_reducible show wpList _ _ _ (⟨some 36, _, _, _, _, _⟩ :: _) _ _); refine wpList_load_rng 60 (.tmp 35) rfl (by kernel_rfl) _ _ rfl _ R36.out _ Try.underlying60 rfl (by kernel_rfl) ?_) | ((with_reducible show wpList _ _ _ (⟨some 6, _, _, _, _, _⟩ :: _) _ _); refine wpList_new_a rfl 60 rfl #[.slice none 0 0, .int .i64 0, .int .i64 0] (by kernel_rfl) ?_; intro g6 w4 ge hh bb; have d_pm_qq := ne_new (hlt hpm) ge; have av_sq_qq := sq.av_new ge; have av_ou_qq := ou.av_new ge; have of_ou_qq := own_new ouw ge; have oqq := Nat.le_trans bel.size ge; replace hpm := blk_u hpm bb; replace sq := sq.below bb; replace ou := ou.below bb; replace ouw := own_under ouw bb; replace lz_ou := Nat.le_trans lz_ou bb.size; replace bel := bel.trans (bb.mono bel.size); have hqq := hh; clear hh ge bb) | ((with_reducible show wpList _ _ _ (⟨none, Op.store _ (.tmp 6) _, _, _, _, _⟩ :: _) _ _); refine wpList_store_blk rfl 60 (.tmp 6) (.tmp 36) rfl g6 rfl _ rfl _ 60 hqq (by rfl) (by kernel_rfl) (by kernel_rfl) ?_; intro w5 hq gr; replace sq := sq.away av_sq_qq gr; replace ou := ou.away av_ou_qq gr; replace ouw := own_off ouw of_ou_qq gr; replace lz_ou := Nat.le_trans lz_ou gr.size; replace hpm := blk_a hpm gr d_pm_qq; replace bel := below_grown bel gr oqq bel.size; clear hqq; have hqq := hq; clear hq gr; have R38 := Lib.hid (range_lit hqq 0 3 [.slice x.A x.n x.c, .int .i64 x.t, .int .i64 x.k] rfl)) | ((with_reducible show wpList _ _ _ (⟨some 38, _, _, _, _, _⟩ :: _) _ _); refine wpList_load_rng 60 (.tmp 6) rfl (by kernel_rfl) _ _ rfl _ R38.out _ Try.underlying60 rfl (by kernel_rfl) ?_))
        try clear R36
        try clear R38
        with_reducible refine (dwq_no _ _ _ _ _ _ _ (HSN.out.below bel) HXN.out HOQ.out).mono ?_
        rintro e w6 ⟨rfl, b6⟩
        replace hpm := blk_u hpm b6
        replace hqq := blk_u hqq b6
        replace sq := sq.below b6
        replace ou := ou.below b6
        replace ouw := own_under ouw b6
        replace lz_ou := Nat.le_trans lz_ou b6.size
        replace bel := bel.trans (b6.mono bel.size)
        clear b6
        go_wp2_with fail
        exact bodyPost_ret (v := .tuple #[.slice none 0 0, .int .i64 1]) (by simp [results, Try.results10, go_sem]) rfl ⟨_, by rw [HP.out], by rw [HP.out]; exact World.ownsRow_nil _ _ _ _, bel⟩
      have HOQ := Lib.hid ho_
      clear ho_
      have R36 := Lib.hid (Sle.range0 sq HX.out 3 [.slice x.A x.n x.c, .int .i64 x.t, .int .i64 x.k] rfl)
      go_wp2_with (first | ((with_reducible show wpList _ _ _ (⟨some 36, _, _, _, _, _⟩ :: _) _ _); refine wpList_load_rng 60 (.tmp 35) rfl (by kernel_rfl) _ _ rfl _ R36.out _ Try.underlying60 rfl (by kernel_rfl) ?_) | ((with_reducible show wpList _ _ _ (⟨some 6, _, _, _, _, _⟩ :: _) _ _); refine wpList_new_a rfl 60 rfl #[.slice none 0 0, .int .i64 0, .int .i64 0] (by kernel_rfl) ?_; intro g6 w4 ge hh bb; have d_pm_qq := ne_new (hlt hpm) ge; have av_sq_qq := sq.av_new ge; have av_ou_qq := ou.av_new ge; have of_ou_qq := own_new ouw ge; have oqq := Nat.le_trans bel.size ge; replace hpm := blk_u hpm bb; replace sq := sq.below bb; replace ou := ou.below bb; replace ouw := own_under ouw bb; replace lz_ou := Nat.le_trans lz_ou bb.size; replace bel := bel.trans (bb.mono bel.size); have hqq := hh; clear hh ge bb) | ((with_reducible show wpList _ _ _ (⟨none, Op.store _ (.tmp 6) _, _, _, _, _⟩ :: _) _ _); refine wpList_store_blk rfl 60 (.tmp 6) (.tmp 36) rfl g6 rfl _ rfl _ 60 hqq (by rfl) (by kernel_rfl) (by kernel_rfl) ?_; intro w5 hq gr; replace sq := sq.away av_sq_qq gr; replace ou := ou.away av_ou_qq gr; replace ouw := own_off ouw of_ou_qq gr; replace lz_ou := Nat.le_trans lz_ou gr.size; replace hpm := blk_a hpm gr d_pm_qq; replace bel := below_grown bel gr oqq bel.size; clear hqq; have hqq := hq; clear hq gr; have R38 := Lib.hid (range_lit hqq 0 3 [.slice x.A x.n x.c, .int .i64 x.t, .int .i64 x.k] rfl)) | ((with_reducible show wpList _ _ _ (⟨some 38, _, _, _, _, _⟩ :: _) _ _); refine wpList_load_rng 60 (.tmp 6) rfl (by kernel_rfl) _ _ rfl _ R38.out _ Try.underlying60 rfl (by kernel_rfl) ?_))
      try clear R36
      try clear R38
      with_reducible refine (dwq_ok _ _ _ _ _ _ _ (HSN.out.below bel) HOQ.out).mono ?_
      rintro e w6 ⟨Bq, mq, cq, rfl, pqw, b6⟩
      replace hpm := blk_u hpm b6
      replace hqq := blk_u hqq b6
      replace sq := sq.below b6
      replace ou := ou.below b6
      replace ouw := own_under ouw b6
      replace lz_ou := Nat.le_trans lz_ou b6.size
      replace bel := bel.trans (b6.mono bel.size)
      clear b6
      replace pqw := own_to pqw rfl (congrArg encQ HXE.out)
      have pq := (own_sl pqw).1
      have HPL : Hid (mq ≤ 259) := Lib.hid (by have h_ := pq.1; have h1_ := encQ_len (q := q1) (by rw [← HXE.out]; exact HOQ.out); omega)
      have HPM := HPL.out
      have mq0 : (0 : Int) ≤ mq := by omega
      clear pqw
      go_wp2_with (first | ((with_reducible show wpList _ _ _ (⟨some 47, _, _, _, _, _⟩ :: _) _ _); refine wpList_append_bg _ rfl (.tmp 45) (.tmp 46) 30 rfl (w.heap.size) 5 ii (.int .u8 0) Try.underlying30 hii hz0 hz1 hz2 rfl _ (z) ((two id ++ two fl ++ two (qn : Int) ++ two (an : Int) ++ two (on : Int) ++ two (mn : Int)) ++ (Lq.take i).flatMap encQ) rfl ouw (Bq) (mq) (cq) (encQ q1) rfl pq (by omega) lz_ou ?_; intro v47 w7 own_ bb gw ofw; have of47_pm := ofw _ (hlt hpm) of_ou_pm; have of47_qq := ofw _ (hlt hqq) of_ou_qq; clear ofw; replace sq := sq.under BLS bb; clear pq; replace hpm := blk_own hpm gw of_ou_pm; replace hqq := blk_own hqq gw of_ou_qq; clear gw; replace bel := bel.trans (bb.mono oulo); have lz_s47 := Nat.le_trans lz_ou bb.size; clear bb; clear ou ouw lz_ou; replace own_ : w7.ownsRow (w.heap.size) 5 1 v47 (z + mq) (((two id ++ two fl ++ two (qn : Int) ++ two (an : Int) ++ two (on : Int) ++ two (mn : Int)) ++ (Lq.take i).flatMap encQ ++ (encQ q1) : List UInt8).map u8v) := own_; obtain ⟨A47, c47, rfl⟩ := own_val own_; have s47w := own_; have s47 := (own_sl own_).1; have fr_s47 := (own_sl own_).2; clear own_; have av_s47_pm := own_av s47w of47_pm; have av_s47_qq := own_av s47w of47_qq))
      go_roundg (qn - (i + 1))
      case measure => have := HGK_.out; omega
      case rel => exact ⟨i + 1, z + mq, A47, c47, rfl, hik, Lib.hid (ok_step HO1.out HLI.out (by rw [← HXE.out]; exact HOQ.out)), by have h_ := HPL.out; omega, rfl, by go_num, (own_to s47w rfl (by rw [flatE_next HLI.out, List.append_assoc])), of47_pm, hpm, sq, bel⟩
    have HI : Hid (qn ≤ i) := Lib.hid (by omega)
    replace hik : decide (i < qn) = false := decide_eq_false hik
    have hz_ : z ≤ 20000 := by have h_ := HPQ.out; omega
    clear hi hz
    have R50 := cell_lit hpm 3 _ rfl
    have R52 := cell_lit hpm 4 _ rfl
    have R54 := cell_lit hpm 5 _ rfl
    go_wp2_with (first | ((with_reducible show wpList _ _ _ (⟨some 55, _, _, _, _, _⟩ :: _) _ _); refine wpList_lit_n rfl 94 24 3 _ rfl #[.slice A an ac, .slice O on oc, .slice M mn mc] (.slice none 0 0) Try.underlying94 (by kernel_rfl) 1 (by kernel_rfl) (by decide) (by kernel_rfl) ?_; intro g55 w4 ge lt hh bb; have d_pm_b55 := ne_new (hlt hpm) ge; have av_sq_b55 := sq.av_new ge; have av_ou_b55 := ou.av_new ge; have of_ou_b55 := own_new ouw ge; have ob55 := Nat.le_trans bel.size ge; replace hpm := blk_u hpm bb; replace sq := sq.below bb; replace ou := ou.below bb; replace ouw := own_under ouw bb; replace lz_ou := Nat.le_trans lz_ou bb.size; replace bel := bel.trans (bb.mono bel.size); have hb55 := hh; clear hh lt ge bb; have sx : Sle shE 1 w4 (some ⟨g55, 0, none⟩) (3) (3) ([⟨A, an, ac⟩, ⟨O, on, oc⟩, ⟨M, mn, mc⟩]) := sle_lit ([⟨A, an, ac⟩, ⟨O, on, oc⟩, ⟨M, mn, mc⟩]) (by decide) shE_len hb55 rfl (by simp [maxLen])))
    try clear R50
    try clear R52
    try clear R54
    have HSC := bel.size
    with_reducible refine (dconcat3 _ sx (HSA.out.below bel) (HSO.out.below bel) (HSMM.out.below bel) HPQ2.out).mono ?_
    rintro e w5 ⟨Bc, mcc, cc_, rfl, ccw, b5⟩
    replace hpm := blk_u hpm b5
    replace hb55 := blk_u hb55 b5
    replace sq := sq.below b5
    replace ou := ou.below b5
    replace ouw := own_under ouw b5
    replace sx := sx.below b5
    replace lz_ou := Nat.le_trans lz_ou b5.size
    replace bel := bel.trans (b5.mono bel.size)
    clear b5
    replace ccw := owk_lo ccw HSC
    replace ccw := owk_to ccw rfl (show [ha, ho, hm].flatten = ha ++ ho ++ hm by simp)
    have cc := (owk_sle (by decide) rE_len ccw).1
    have HCL := Lib.hid cc.1
    have HCM : Hid (mcc ≤ 64) := Lib.hid (by have h_ := HCL.out; rw [List.length_append, List.length_append, HAL.out, HOL.out, HML.out] at h_; have h1_ := HPQ2.out; omega)
    have cc0 : (0 : Int) ≤ mcc := by omega
    clear cc
    clear sx
    clear sq
    clear hb55
    go_wp2_with fail
    go_loopg [4, 58] (mcc) (fun gk s4 s58 wr => ∃ j : Nat, ∃ z : Nat, ∃ (Aov : Option Addr) (cov : Nat), gk = mcc - j ∧ j ≤ mcc ∧ Hid (∀ r ∈ (allR (⟨id, fl, Lq, La, Lo, Lm⟩ : Mn)).take j, okR r = true) ∧ z ≤ 20000 + 2365 * j ∧ wr.ownsRow (w.heap.size) 36 5 (.slice Bc mcc cc_) mcc ((ha ++ ho ++ hm).flatMap rE) ∧ s4 = .slice Aov z cov ∧ s58 = .int .i64 (j : Int) ∧ wr.ownsRow (w.heap.size) 5 1 (.slice Aov (z) cov) (z) (((two id ++ two fl ++ two (qn : Int) ++ two (an : Int) ++ two (on : Int) ++ two (mn : Int)) ++ Lq.flatMap encQ ++ ((allR (⟨id, fl, Lq, La, Lo, Lm⟩ : Mn)).take j).flatMap encR : List UInt8).map u8v) ∧ Ofs (.slice Aov (z) cov) g1 ∧ wr.heap[g1]? = some (.cells #[.int .i64 id, .int .i64 fl, .slice Q qn qc, .slice A an ac, .slice O on oc, .slice M mn mc] 26 (0, 0)) ∧ Below w.heap.size w wr)
    case atStart => exact ⟨0, z, Aou, cou, Nat.sub_zero _, Nat.zero_le _, Lib.hid (by simp), by omega, ccw, rfl, rfl, (own_to ouw rfl (by rw [List.take_of_length_le (by have h_ := HI.out; have h1_ := HQQ.out; omega)]; simp)), of_ou_pm, hpm, bel⟩
    case round =>
      clear ccw hpm ou bel
      obtain ⟨j, z, Aov, cov, HGK, hj, HO2, hz, ccw, rfl, rfl, ovw, of_ov_pm, hpm, bel⟩ := hrel
      have HGK_ := Lib.hid HGK
      clear HGK
      have ov := (own_sl ovw).1
      have fr_ov := (own_sl ovw).2
      have lz_ov := bel.size
      have ovlo := Nat.le_refl (w.heap.size)
      have av_ov_pm := own_av ovw of_ov_pm
      have j0 : (0 : Int) ≤ j := by omega
      have z0 : (0 : Int) ≤ z := by omega
      have z1 : (z : Int) ≤ 1000000 := by have h_ := HCM.out; omega
      have HJM : j ≤ 64 := by have h_ := HCM.out; omega
      by_cases hjk : j < mcc
      rotate_left
      · have HI2 : Hid (mcc ≤ j) := Lib.hid (by omega)
        replace hjk : decide (j < mcc) = false := decide_eq_false hjk
        have HAR : Hid ((allR (⟨id, fl, Lq, La, Lo, Lm⟩ : Mn)).take j = allR (⟨id, fl, Lq, La, Lo, Lm⟩ : Mn)) := Lib.hid (List.take_of_length_le (by have h_ := HI2.out; have h1_ := HRR.out.1; have h2_ := HCL.out; omega))
        have HOKM : Hid (okM (⟨id, fl, Lq, La, Lo, Lm⟩ : Mn) = true) := Lib.hid (okM_of HID.out HFL.out (show Lq.length + La.length + Lo.length + Lm.length ≤ 64 by rw [HQQ.out, HLA.out, HLO.out, HLM.out]; exact HPS.out) (by have h_ := HO1.out; rw [List.take_of_length_le (by have h1_ := HI.out; have h2_ := HQQ.out; omega)] at h_; exact h_) (by rw [← HAR.out]; exact HO2.out))
        have HEN : Hid (encM (⟨id, fl, Lq, La, Lo, Lm⟩ : Mn) = (two id ++ two fl ++ two (qn : Int) ++ two (an : Int) ++ two (on : Int) ++ two (mn : Int)) ++ Lq.flatMap encQ ++ ((allR (⟨id, fl, Lq, La, Lo, Lm⟩ : Mn)).take j).flatMap encR) := Lib.hid (by rw [HAR.out]; unfold encM; rw [HHD.out])
        have HZL : Hid ((encM (⟨id, fl, Lq, La, Lo, Lm⟩ : Mn)).length = z) := Lib.hid (by rw [HEN.out]; exact ov.1)
        by_cases hzz : z ≤ 1472
        rotate_left
        · have HP : Hid (putM (⟨id, fl, Lq, La, Lo, Lm⟩ : Mn) = ([], 2)) := Lib.hid (by unfold putM; rw [if_pos HOKM.out, if_neg (by rw [HZL.out]; exact hzz)])
          have t76 : (1472 : Int) < (z : Int) := by omega
          clear hzz
          go_wp2_with fail
          exact bodyPost_ret (v := .tuple #[.slice none 0 0, .int .i64 2]) (by simp [results, Try.results10, go_sem]) rfl ⟨_, by rw [HP.out], by rw [HP.out]; exact World.ownsRow_nil _ _ _ _, bel⟩
        have HP : Hid (putM (⟨id, fl, Lq, La, Lo, Lm⟩ : Mn) = (encM (⟨id, fl, Lq, La, Lo, Lm⟩ : Mn), 0)) := Lib.hid (by unfold putM; rw [if_pos HOKM.out, if_pos (by rw [HZL.out]; exact hzz)])
        have t76 : decide ((1472 : Int) < (z : Int)) = false := decide_eq_false (by omega)
        clear hzz
        go_wp2_with fail
        exact bodyPost_ret (v := .tuple #[.slice Aov z cov, .int .i64 0]) (by simp [results, Try.results10, go_sem]) rfl ⟨_, by rw [HP.out], by rw [HP.out]; exact own_len (own_to ovw rfl HEN.out.symm), bel⟩
      have cc := (owk_sle (by decide) rE_len ccw).1
      obtain ⟨gC, oC, hp_⟩ := cc.place (by omega)
      subst hp_
      obtain ⟨x, hx_⟩ : ∃ u_, (ha ++ ho ++ hm)[j]? = some u_ := ⟨_, List.getElem?_eq_getElem (by rw [HCL.out]; exact hjk)⟩
      have HX := Lib.hid hx_
      obtain ⟨r1, hl_, hr_⟩ := HRR.out.at hx_
      have HLI := Lib.hid hl_
      have HXE : Hid ((⟨r1.name, x.t, x.k, x.u, r1.data⟩ : Rn) = r1) := Lib.hid (by rw [hr_.1, hr_.2.1, hr_.2.2.1])
      have HSN : Hid (Sle stf 1 w x.A x.n x.c r1.name) := Lib.hid hr_.2.2.2.1
      have HSD : Hid (Sl w x.B x.d x.e r1.data) := Lib.hid hr_.2.2.2.2
      have HRBX := Lib.hid (HRB.out r1 (List.mem_of_getElem? hl_))
      have HXN : Hid (x.n ≤ 100000) := Lib.hid (by have h_ := HRBX.out.1; have h1_ := hr_.2.2.2.1.1; omega)
      have HU0 : Hid (0 ≤ x.u) := Lib.hid (by rw [hr_.2.2.1]; exact HRBX.out.2.2.1)
      have HU1 : Hid (x.u < 4294967296) := Lib.hid (by rw [hr_.2.2.1]; exact HRBX.out.2.2.2)
      clear hx_ hl_ hr_
      rcases (by decide : ∀ b : Bool, b = true ∨ b = false) (okR ⟨r1.name, x.t, x.k, x.u, r1.data⟩) with ho_ | ho_
      rotate_left
      · have HOQ := Lib.hid ho_
        have HP : Hid (putM (⟨id, fl, Lq, La, Lo, Lm⟩ : Mn) = ([], 1)) := Lib.hid (putM_no (okM_r HLI.out (by rw [← HXE.out]; exact ho_)))
        clear ho_
        have R61 := Lib.hid (Sle.range0 cc HX.out 5 [.slice x.A x.n x.c, .int .i64 x.t, .int .i64 x.k, .int .u32 x.u, .slice x.B x.d x.e] rfl)
        go_wp2_with (first | ((with_reducible show wpList _ _ _ (⟨some 61, _, _, _, _, _⟩ :: _) _ _); refine wpList_load_rng 36 (.tmp 60) rfl (by kernel_rfl) _ _ rfl _ R61.out _ Try.underlying36 rfl (by kernel_rfl) ?_) | ((with_reducible show wpList _ _ _ (⟨some 10, _, _, _, _, _⟩ :: _) _ _); refine wpList_new_a rfl 36 rfl #[.slice none 0 0, .int .i64 0, .int .i64 0, .int .u32 0, .slice none 0 0] (by kernel_rfl) ?_; intro g10 w6 ge hh bb; have d_pm_rr := ne_new (hlt hpm) ge; have av_ov_rr := ov.av_new ge; have of_ov_rr := own_new ovw ge; have av_cc_rr := cc.av_new ge; have orr := Nat.le_trans bel.size ge; have offcc_rr := owk_new ccw ge; replace hpm := blk_u hpm bb; replace ov := ov.below bb; replace ovw := own_under ovw bb; replace cc := cc.below bb; replace lz_ov := Nat.le_trans lz_ov bb.size; replace ccw := owk_under ccw bb; replace bel := bel.trans (bb.mono bel.size); have hrr := hh; clear hh ge bb) | ((with_reducible show wpList _ _ _ (⟨none, Op.store _ (.tmp 10) _, _, _, _, _⟩ :: _) _ _); refine wpList_store_blk rfl 36 (.tmp 10) (.tmp 61) rfl g10 rfl _ rfl _ 36 hrr (by rfl) (by kernel_rfl) (by kernel_rfl) ?_; intro w7 hq gr; replace ov := ov.away av_ov_rr gr; replace ovw := own_off ovw of_ov_rr gr; replace cc := cc.away av_cc_rr gr; replace lz_ov := Nat.le_trans lz_ov gr.size; replace hpm := blk_a hpm gr d_pm_rr; replace ccw := owk_off ccw offcc_rr gr; replace bel := below_grown bel gr orr bel.size; clear hrr; have hrr := hq; clear hq gr; have R63 := Lib.hid (range_lit hrr 0 5 [.slice x.A x.n x.c, .int .i64 x.t, .int .i64 x.k, .int .u32 x.u, .slice x.B x.d x.e] rfl)) | ((with_reducible show wpList _ _ _ (⟨some 63, _, _, _, _, _⟩ :: _) _ _); refine wpList_load_rng 36 (.tmp 10) rfl (by kernel_rfl) _ _ rfl _ R63.out _ Try.underlying36 rfl (by kernel_rfl) ?_))
        try clear R61
        try clear R63
        with_reducible refine (dwr_no _ _ _ _ _ _ _ _ _ _ _ _ (HSN.out.below bel) (HSD.out.below bel) HU0.out HU1.out HXN.out HOQ.out).mono ?_
        rintro e w8 ⟨rfl, b8⟩
        replace hpm := blk_u hpm b8
        replace hrr := blk_u hrr b8
        replace ov := ov.below b8
        replace ovw := own_under ovw b8
        replace cc := cc.below b8
        replace lz_ov := Nat.le_trans lz_ov b8.size
        replace ccw := owk_under ccw b8
        replace bel := bel.trans (b8.mono bel.size)
        clear b8
        go_wp2_with fail
        exact bodyPost_ret (v := .tuple #[.slice none 0 0, .int .i64 1]) (by simp [results, Try.results10, go_sem]) rfl ⟨_, by rw [HP.out], by rw [HP.out]; exact World.ownsRow_nil _ _ _ _, bel⟩
      have HOQ := Lib.hid ho_
      clear ho_
      have R61 := Lib.hid (Sle.range0 cc HX.out 5 [.slice x.A x.n x.c, .int .i64 x.t, .int .i64 x.k, .int .u32 x.u, .slice x.B x.d x.e] rfl)
      go_wp2_with (first | ((with_reducible show wpList _ _ _ (⟨some 61, _, _, _, _, _⟩ :: _) _ _); refine wpList_load_rng 36 (.tmp 60) rfl (by kernel_rfl) _ _ rfl _ R61.out _ Try.underlying36 rfl (by kernel_rfl) ?_) | ((with_reducible show wpList _ _ _ (⟨some 10, _, _, _, _, _⟩ :: _) _ _); refine wpList_new_a rfl 36 rfl #[.slice none 0 0, .int .i64 0, .int .i64 0, .int .u32 0, .slice none 0 0] (by kernel_rfl) ?_; intro g10 w6 ge hh bb; have d_pm_rr := ne_new (hlt hpm) ge; have av_ov_rr := ov.av_new ge; have of_ov_rr := own_new ovw ge; have av_cc_rr := cc.av_new ge; have orr := Nat.le_trans bel.size ge; have offcc_rr := owk_new ccw ge; replace hpm := blk_u hpm bb; replace ov := ov.below bb; replace ovw := own_under ovw bb; replace cc := cc.below bb; replace lz_ov := Nat.le_trans lz_ov bb.size; replace ccw := owk_under ccw bb; replace bel := bel.trans (bb.mono bel.size); have hrr := hh; clear hh ge bb) | ((with_reducible show wpList _ _ _ (⟨none, Op.store _ (.tmp 10) _, _, _, _, _⟩ :: _) _ _); refine wpList_store_blk rfl 36 (.tmp 10) (.tmp 61) rfl g10 rfl _ rfl _ 36 hrr (by rfl) (by kernel_rfl) (by kernel_rfl) ?_; intro w7 hq gr; replace ov := ov.away av_ov_rr gr; replace ovw := own_off ovw of_ov_rr gr; replace cc := cc.away av_cc_rr gr; replace lz_ov := Nat.le_trans lz_ov gr.size; replace hpm := blk_a hpm gr d_pm_rr; replace ccw := owk_off ccw offcc_rr gr; replace bel := below_grown bel gr orr bel.size; clear hrr; have hrr := hq; clear hq gr; have R63 := Lib.hid (range_lit hrr 0 5 [.slice x.A x.n x.c, .int .i64 x.t, .int .i64 x.k, .int .u32 x.u, .slice x.B x.d x.e] rfl)) | ((with_reducible show wpList _ _ _ (⟨some 63, _, _, _, _, _⟩ :: _) _ _); refine wpList_load_rng 36 (.tmp 10) rfl (by kernel_rfl) _ _ rfl _ R63.out _ Try.underlying36 rfl (by kernel_rfl) ?_))
      try clear R61
      try clear R63
      with_reducible refine (dwr_ok _ _ _ _ _ _ _ _ _ _ _ _ (HSN.out.below bel) (HSD.out.below bel) HU0.out HU1.out HOQ.out).mono ?_
      rintro e w8 ⟨Br, mr, cr, rfl, prw, b8⟩
      replace hpm := blk_u hpm b8
      replace hrr := blk_u hrr b8
      replace ov := ov.below b8
      replace ovw := own_under ovw b8
      replace cc := cc.below b8
      replace lz_ov := Nat.le_trans lz_ov b8.size
      replace ccw := owk_under ccw b8
      replace bel := bel.trans (b8.mono bel.size)
      clear b8
      replace prw := own_to prw rfl (congrArg encR HXE.out)
      have pr := (own_sl prw).1
      have HPL : Hid (mr ≤ 2365) := Lib.hid (by have h_ := pr.1; have h1_ := encR_len (r := r1) (by rw [← HXE.out]; exact HOQ.out); have h2_ := HRBX.out.2.1; omega)
      have HPM := HPL.out
      have mr0 : (0 : Int) ≤ mr := by omega
      clear prw
      go_wp2_with (first | ((with_reducible show wpList _ _ _ (⟨some 72, _, _, _, _, _⟩ :: _) _ _); refine wpList_append_bg _ rfl (.tmp 70) (.tmp 71) 30 rfl (w.heap.size) 5 ii (.int .u8 0) Try.underlying30 hii hz0 hz1 hz2 rfl _ (z) ((two id ++ two fl ++ two (qn : Int) ++ two (an : Int) ++ two (on : Int) ++ two (mn : Int)) ++ Lq.flatMap encQ ++ ((allR (⟨id, fl, Lq, La, Lo, Lm⟩ : Mn)).take j).flatMap encR) rfl ovw (Br) (mr) (cr) (encR r1) rfl pr (by omega) lz_ov ?_; intro v72 w9 own_ bb gw ofw; have of72_pm := ofw _ (hlt hpm) of_ov_pm; have of72_rr := ofw _ (hlt hrr) of_ov_rr; clear ofw; replace ccw := (kt_row gw ovw (by simp) : Kt [5] _ _).own ccw (by decide); clear cc; clear pr; replace hpm := blk_own hpm gw of_ov_pm; replace hrr := blk_own hrr gw of_ov_rr; clear gw; replace bel := bel.trans (bb.mono ovlo); have lz_s72 := Nat.le_trans lz_ov bb.size; clear bb; clear ov ovw lz_ov; replace own_ : w9.ownsRow (w.heap.size) 5 1 v72 (z + mr) (((two id ++ two fl ++ two (qn : Int) ++ two (an : Int) ++ two (on : Int) ++ two (mn : Int)) ++ Lq.flatMap encQ ++ ((allR (⟨id, fl, Lq, La, Lo, Lm⟩ : Mn)).take j).flatMap encR ++ (encR r1) : List UInt8).map u8v) := own_; obtain ⟨A72, c72, rfl⟩ := own_val own_; have s72w := own_; have s72 := (own_sl own_).1; have fr_s72 := (own_sl own_).2; clear own_; have av_s72_pm := own_av s72w of72_pm; have av_s72_rr := own_av s72w of72_rr))
      go_roundg (mcc - (j + 1))
      case measure => have := HGK_.out; omega
      case rel => exact ⟨j + 1, z + mr, A72, c72, rfl, hjk, Lib.hid (ok_step HO2.out HLI.out (by rw [← HXE.out]; exact HOQ.out)), by have h_ := HPL.out; omega, ccw, rfl, by go_num, (own_to s72w rfl (by rw [flatE_next HLI.out, List.append_assoc (bs := ((allR (⟨id, fl, Lq, La, Lo, Lm⟩ : Mn)).take j).flatMap encR)])), of72_pm, hpm, bel⟩
/-- Are so many bytes there? -/
def needS (n k : Nat) (s : Nat × Nat) : Nat × Nat := if s.2 = 0 ∧ n < s.1 + k then (s.1, 3) else s
def u16S (b : List UInt8) (s : Nat × Nat) : Nat × Nat × Nat := if s.2 = 0 then (if b.length < s.1 + 2 then (0, s.1, 3) else (nAt b s.1 2, s.1 + 2, 0)) else (0, s)
def nameS (b : List UInt8) (s : Nat × Nat) : List (List UInt8) × Nat × Nat := if s.2 = 0 then getN b s.1 else ([], s)
def dataS (b : List UInt8) (t : Int) (k : Nat) (s : Nat × Nat) : List UInt8 × Nat × Nat :=
  match expE (b.take (s.1 + k)) s.1 (lay t k).1 (lay t k).2.1 (lay t k).2.2 with
  | some d => (d, s.1 + k, 0)
  | none => ([], s.1, 4)
def qS (b : List UInt8) (s : Nat × Nat) : Qn × Nat × Nat :=
  let x := nameS b s
  let t := u16S b x.2
  let k := u16S b t.2
  (⟨x.1, t.1, k.1⟩, k.2)
def recS (b : List UInt8) (s : Nat × Nat) : Rn × Nat × Nat :=
  let x := qS b s
  let hi := u16S b x.2
  let lo := u16S b hi.2
  let d := u16S b lo.2
  let s7 := needS b.length d.1 d.2
  if s7.2 = 0 then
    let y := dataS b x.1.t d.1 s7
    (⟨x.1.name, x.1.t, x.1.k, ((hi.1 * 65536 + lo.1 : Nat) : Int), y.1⟩, y.2)
  else (⟨x.1.name, x.1.t, x.1.k, ((hi.1 * 65536 + lo.1 : Nat) : Int), []⟩, s7)
def manyS {α : Type} (f : Nat × Nat → α × Nat × Nat) : Nat → Nat × Nat → List α → List α × Nat × Nat
  | 0, s, L => (L, s)
  | k + 1, s, L => if s.2 = 0 then manyS f k (f s).2 (L ++ [(f s).1]) else (L, s)
theorem manyS_stop {α : Type} {f : Nat × Nat → α × Nat × Nat} {s : Nat × Nat} (h : s.2 ≠ 0) : ∀ (k : Nat) (L : List α), manyS f k s L = (L, s)
  | 0, L => rfl
  | k + 1, L => by rw [manyS, if_neg h]
theorem manyS_go {α : Type} {f : Nat × Nat → α × Nat × Nat} {s : Nat × Nat} (h : s.2 = 0) (k : Nat) (L : List α) : manyS f (k + 1) s L = manyS f k (f s).2 (L ++ [(f s).1]) := by rw [manyS, if_pos h]
theorem u16S_err {b : List UInt8} {s : Nat × Nat} (h : s.2 ≠ 0) : u16S b s = (0, s) := by unfold u16S; rw [if_neg h]
theorem u16S_ep {b : List UInt8} {a y : Nat} (h : y ≠ 0) : u16S b (a, y) = (0, a, y) := u16S_err (s := (a, y)) h
theorem x3 : (3 : Nat) ≠ 0 := by decide
theorem u16S_ok {b : List UInt8} {a : Nat} (h : a + 2 ≤ b.length) : u16S b (a, 0) = (nAt b a 2, a + 2, 0) := by unfold u16S; rw [if_pos rfl, if_neg (by dsimp only; omega)]
theorem u16S_no {b : List UInt8} {a : Nat} (h : b.length < a + 2) : u16S b (a, 0) = (0, a, 3) := by unfold u16S; rw [if_pos rfl, if_pos h]
theorem u16S_lt (b : List UInt8) (s : Nat × Nat) : (u16S b s).1 < 65536 := by
  unfold u16S
  split
  · split
    · exact (by decide : (0 : Nat) < 65536)
    · rename_i h; exact nAt_lt2 b s.1 (by omega)
  · exact (by decide : (0 : Nat) < 65536)
theorem u16S_le {b : List UInt8} {s : Nat × Nat} (h : s.1 ≤ b.length) : (u16S b s).2.1 ≤ b.length := by
  unfold u16S
  split
  · split
    · exact h
    · dsimp only; omega
  · exact h
theorem nameS_le {b : List UInt8} {s : Nat × Nat} (h : s.1 ≤ b.length) : (nameS b s).2.1 ≤ b.length := by
  unfold nameS
  split
  · exact getN_le b s.1
  · exact h
theorem needS_err {n k : Nat} {s : Nat × Nat} (h : s.2 ≠ 0) : needS n k s = s := by unfold needS; rw [if_neg (fun h1 => h h1.1)]
theorem needS_ep {n k a y : Nat} (h : y ≠ 0) : needS n k (a, y) = (a, y) := needS_err (s := (a, y)) h
theorem needS_ok {n k a : Nat} (h : a + k ≤ n) : needS n k (a, 0) = (a, 0) := by unfold needS; rw [if_neg (fun h1 => by have := h1.2; dsimp only at this; omega)]
theorem needS_no {n k a : Nat} (h : n < a + k) : needS n k (a, 0) = (a, 3) := by unfold needS; rw [if_pos ⟨rfl, h⟩]
theorem needS_le {n k : Nat} {s : Nat × Nat} (h : s.1 ≤ n) : (needS n k s).1 ≤ n := by
  unfold needS
  split <;> exact h
theorem dataS_le {b : List UInt8} {t : Int} {k : Nat} {s : Nat × Nat} (h : s.1 + k ≤ b.length) : (dataS b t k s).2.1 ≤ b.length := by
  unfold dataS
  split
  · exact h
  · dsimp only; omega
theorem qS_le {b : List UInt8} {s : Nat × Nat} (h : s.1 ≤ b.length) : (qS b s).2.1 ≤ b.length := u16S_le (u16S_le (nameS_le h))
theorem need_is {n k : Nat} {s : Nat × Nat} (h : (needS n k s).2 = 0) : s.2 = 0 ∧ needS n k s = s ∧ s.1 + k ≤ n := by
  unfold needS at h ⊢
  split at h
  · cases h
  · rename_i h1
    rw [if_neg h1]
    exact ⟨h, rfl, by have : ¬ n < s.1 + k := fun h2 => h1 ⟨h, h2⟩
                      omega⟩
theorem recS_le {b : List UInt8} {s : Nat × Nat} (h : s.1 ≤ b.length) : (recS b s).2.1 ≤ b.length := by
  have h1 := u16S_le (u16S_le (u16S_le (qS_le h)))
  unfold recS
  dsimp only
  split
  · rename_i hn
    obtain ⟨_, h3, h4⟩ := need_is hn
    refine dataS_le ?_
    rw [h3]; exact h4
  · exact needS_le h1
theorem nameS_ok (b : List UInt8) (a : Nat) : nameS b (a, 0) = getN b (a : Int) := by unfold nameS; rw [if_pos rfl]
theorem nameS_err {b : List UInt8} {s : Nat × Nat} (h : s.2 ≠ 0) : nameS b s = ([], s) := by unfold nameS; rw [if_neg h]
theorem qS_yes {b : List UInt8} {a a2 : Nat} {q : Qn} (h : qAt b a = .ok (q, a2)) : qS b (a, 0) = (q, a2, 0) := by
  obtain ⟨nx, h1, h2, h3, h4, h5⟩ := qAt_inv h
  have e : nameS b (a, 0) = (q.name, nx, 0) := (nameS_ok b a).trans h1
  unfold qS
  rw [e]
  dsimp only
  rw [u16S_ok (by omega)]
  dsimp only
  rw [u16S_ok (by omega)]
  dsimp only
  rw [h4, h5]
  subst h2
  rfl
theorem qS_no {b : List UInt8} {a e : Nat} (h : qAt b a = .error e) : (qS b (a, 0)).2.2 = e ∧ e ≠ 0 := by
  rcases qAt_inv_no h with ⟨l, nx, h1, h2⟩ | ⟨l, nx, h1, h2, h3⟩
  · have e1 : nameS b (a, 0) = (l, nx, e) := (nameS_ok b a).trans h1
    unfold qS
    simp only [e1, u16S_ep h2]
    exact ⟨trivial, h2⟩
  · have e1 : nameS b (a, 0) = (l, nx, 0) := (nameS_ok b a).trans h1
    subst h3
    unfold qS
    rw [e1]
    dsimp only
    by_cases h4 : b.length < nx + 2
    · simp only [u16S_no h4, u16S_ep x3]
      exact ⟨trivial, x3⟩
    · rw [u16S_ok (by omega)]
      dsimp only
      rw [u16S_no (by omega)]
      exact ⟨rfl, by decide⟩
theorem nAt_four {b : List UInt8} {a : Nat} (h : a + 4 ≤ b.length) : nAt b a 2 * 65536 + nAt b (a + 2) 2 = nAt b a 4 := by
  unfold nAt
  have e : (b.drop a).take 4 = (b.drop a).take 2 ++ (b.drop (a + 2)).take 2 := by
    rw [show (4 : Nat) = 2 + 2 from rfl, List.take_add, List.drop_drop]
  rw [e, be_append]
  have : ((b.drop (a + 2)).take 2).length = 2 := by rw [List.length_take, List.length_drop]; omega
  rw [this]
theorem dataS_yes {b d : List UInt8} {t : Int} {a k : Nat} (h : dAt b t a k = .ok d) : dataS b t k (a, 0) = (d, a + k, 0) := by
  unfold dAt at h
  split at h
  · cases h
  · unfold dataS
    dsimp only
    split at h
    · cases h
    · rename_i d2 hd
      injection h with h
      subst h
      rw [hd]
theorem dataS_no {b : List UInt8} {t : Int} {a k e : Nat} (h : dAt b t a k = .error e) (hl : a + k ≤ b.length) : dataS b t k (a, 0) = ([], a, 4) ∧ e = 4 := by
  unfold dAt at h
  split at h
  · omega
  · unfold dataS
    dsimp only
    split at h
    · rename_i hd
      injection h with h
      rw [hd]
      exact ⟨rfl, h.symm⟩
    · cases h
theorem recS_yes {b : List UInt8} {a a2 : Nat} {r : Rn} (h : rAt b a = .ok (r, a2)) : recS b (a, 0) = (r, a2, 0) := by
  obtain ⟨q, a1, kd, h1, h2, h3, h4, h5, h6, h7, h8, h9⟩ := rAt_inv h
  have hd := (dAt_inv h4).1
  unfold recS
  rw [qS_yes h1]
  dsimp only
  rw [u16S_ok (by omega)]
  dsimp only
  rw [u16S_ok (by omega)]
  dsimp only
  rw [u16S_ok (by omega)]
  dsimp only
  rw [show a1 + 2 + 2 = a1 + 4 by omega, h3, show a1 + 4 + 2 = a1 + 6 by omega, needS_ok hd]
  dsimp only
  rw [if_pos rfl, dataS_yes h4, nAt_four (by omega), h6, h7, h8, h9]
  dsimp only
  rw [← h5]
theorem recS_no {b : List UInt8} {a e : Nat} (h : rAt b a = .error e) : (recS b (a, 0)).2.2 = e := by
  rcases rAt_inv_no h with h1 | ⟨q, a1, h1, h2, h3⟩ | ⟨q, a1, kd, h1, h2, h3, h4⟩
  · obtain ⟨h2, h3⟩ := qS_no h1
    unfold recS
    dsimp only
    rw [← h2] at h3
    rw [u16S_err h3, u16S_err h3, u16S_err h3, needS_err h3, if_neg h3]
    exact h2
  · subst h3
    unfold recS
    rw [qS_yes h1]
    dsimp only
    by_cases h4 : b.length < a1 + 2
    · simp only [u16S_no h4, u16S_ep x3, needS_ep x3, if_neg x3]
    · rw [u16S_ok (by omega)]
      dsimp only
      by_cases h5 : b.length < a1 + 2 + 2
      · simp only [u16S_no h5, u16S_ep x3, needS_ep x3, if_neg x3]
      · rw [u16S_ok (by omega)]
        dsimp only
        simp only [u16S_no (b := b) (a := a1 + 2 + 2) (by omega), needS_ep x3, if_neg x3]
  · unfold recS
    rw [qS_yes h1]
    dsimp only
    rw [u16S_ok (by omega)]
    dsimp only
    rw [u16S_ok (by omega)]
    dsimp only
    rw [u16S_ok (by omega)]
    dsimp only
    rw [show a1 + 2 + 2 = a1 + 4 by omega, h3, show a1 + 4 + 2 = a1 + 6 by omega]
    by_cases h5 : b.length < a1 + 6 + kd
    · simp only [needS_no h5, if_neg x3]
      unfold dAt at h4
      rw [if_pos h5] at h4
      injection h4
    · rw [needS_ok (by omega), if_pos rfl]
      obtain ⟨h6, h7⟩ := dataS_no h4 (by omega)
      rw [h6, h7]
theorem manyS_yes {α : Type} {f : Nat × Nat → α × Nat × Nat} {g : Nat → Except Nat (α × Nat)} (h : ∀ a x a2, g a = .ok (x, a2) → f (a, 0) = (x, a2, 0)) : ∀ (k a : Nat) (L M : List α) (a2 : Nat), goL g k a L = .ok (M, a2) → manyS f k (a, 0) L = (M, a2, 0)
  | 0, a, L, M, a2, hg => by injection hg with hg; injection hg with h1 h2; subst h1; subst h2; rfl
  | k + 1, a, L, M, a2, hg => by
    rcases hx : g a with e | ⟨x, a1⟩
    · rw [goL_no hx] at hg; cases hg
    · rw [goL_yes hx] at hg
      rw [manyS_go rfl, h a x a1 hx]
      exact manyS_yes h k a1 _ M a2 hg
theorem manyS_no {α : Type} {f : Nat × Nat → α × Nat × Nat} {g : Nat → Except Nat (α × Nat)} (h : ∀ a x a2, g a = .ok (x, a2) → f (a, 0) = (x, a2, 0)) (hn : ∀ a e, g a = .error e → (f (a, 0)).2.2 = e ∧ e ≠ 0) : ∀ (k a : Nat) (L : List α) (e : Nat), goL g k a L = .error e → (manyS f k (a, 0) L).2.2 = e ∧ e ≠ 0
  | 0, a, L, e, hg => by cases hg
  | k + 1, a, L, e, hg => by
    rcases hx : g a with e2 | ⟨x, a1⟩
    · rw [goL_no hx] at hg
      injection hg with hg
      subst hg
      obtain ⟨h1, h2⟩ := hn a e2 hx
      rw [manyS_go rfl, manyS_stop (by rw [h1]; exact h2)]
      exact ⟨h1, h2⟩
    · rw [goL_yes hx] at hg
      rw [manyS_go rfl, h a x a1 hx]
      exact manyS_no h hn k a1 _ e hg
theorem manyS_le {α : Type} {f : Nat × Nat → α × Nat × Nat} {n : Nat} (h : ∀ s, s.1 ≤ n → (f s).2.1 ≤ n) : ∀ (k : Nat) (s : Nat × Nat) (L : List α), s.1 ≤ n → (manyS f k s L).2.1 ≤ n
  | 0, s, L, hs => hs
  | k + 1, s, L, hs => by
    by_cases h0 : s.2 = 0
    · rw [manyS_go h0]; exact manyS_le h k _ _ (h s hs)
    · rw [manyS_stop h0]; exact hs
/-- What the reference reads behind the head. -/
def bodyS (b : List UInt8) : Mn × Nat × Nat :=
  let q := manyS (qS b) (nAt b 4 2) (12, 0) []
  let a := manyS (recS b) (nAt b 6 2) q.2 []
  let o := manyS (recS b) (nAt b 8 2) a.2 []
  let m := manyS (recS b) (nAt b 10 2) o.2 []
  (⟨nAt b 0 2, nAt b 2 2, q.1, a.1, o.1, m.1⟩, m.2)
theorem getM_S {b : List UInt8} (h1 : ¬ 1472 < b.length) (h2 : ¬ b.length < 12) (h3 : ¬ 64 < nAt b 4 2 + nAt b 6 2 + nAt b 8 2 + nAt b 10 2) :
    getM b = if (bodyS b).2.2 ≠ 0 then .error (bodyS b).2.2 else if (bodyS b).2.1 = b.length then .ok (bodyS b).1 else .error 4 := by
  have rn : ∀ a e, rAt b a = .error e → (recS b (a, 0)).2.2 = e ∧ e ≠ 0 := fun a e h => ⟨recS_no h, by have := rAt_err h; omega⟩
  have ry : ∀ a x a2, rAt b a = .ok (x, a2) → recS b (a, 0) = (x, a2, 0) := fun a x a2 h => recS_yes h
  unfold getM bodyS
  rw [if_neg h1, if_neg h2, if_neg h3]
  rcases hq : goL (qAt b) (nAt b 4 2) 12 [] with e | ⟨q, a1⟩
  · obtain ⟨k1, k2⟩ := manyS_no (f := qS b) (g := qAt b) (fun _ _ _ h => qS_yes h) (fun _ _ h => qS_no h) _ _ _ _ hq
    rw [← k1] at k2 ⊢
    dsimp only
    simp only [manyS_stop (f := recS b) k2]
    rw [if_pos k2]
  · simp only [manyS_yes (f := qS b) (g := qAt b) (fun _ _ _ h => qS_yes h) _ _ _ _ _ hq]
    rcases ha : goL (rAt b) (nAt b 6 2) a1 [] with e | ⟨a, a2⟩
    · obtain ⟨k1, k2⟩ := manyS_no ry rn _ _ _ _ ha
      rw [← k1] at k2 ⊢
      dsimp only
      simp only [manyS_stop (f := recS b) k2]
      rw [if_pos k2]
    · simp only [manyS_yes ry _ _ _ _ _ ha]
      rcases ho : goL (rAt b) (nAt b 8 2) a2 [] with e | ⟨o, a3⟩
      · obtain ⟨k1, k2⟩ := manyS_no ry rn _ _ _ _ ho
        rw [← k1] at k2 ⊢
        dsimp only
        simp only [manyS_stop (f := recS b) k2]
        rw [if_pos k2]
      · simp only [manyS_yes ry _ _ _ _ _ ho]
        rcases hm : goL (rAt b) (nAt b 10 2) a3 [] with e | ⟨m, a4⟩
        · obtain ⟨k1, k2⟩ := manyS_no ry rn _ _ _ _ hm
          rw [← k1] at k2 ⊢
          dsimp only
          rw [if_pos k2]
        · simp only [manyS_yes ry _ _ _ _ _ hm]
          simp
end Go.Proofs.Ytjedknjlpeccbaa
