/- slices.Clone; name's Put, appendLabel, Text, parseLabel. -/
import Derived.Test.YtholgadifhjmgaaDoorDn1
import Derived.Test.YtholgadifhjmgaaDoorNrk
import Derived.Lib.AppendStr
import Derived.Lib.SliceRun
namespace Go.Proofs.YtholgadifhjmgaaDoor
open Go.RowKit

theorem cells_st (l : List UInt8) : Lib.strCells ⟨l.toArray⟩ = l.map u8v := by
  unfold Lib.strCells
  apply List.ext_getElem
  · simp
  · intro i h1 h2
    simp [u8v]
theorem wp_append_st {P : Program} {o : Oper} {a : Act} {w : World} {K : Act → World → Prop} {Q : Exit → Act → World → Prop} (sl x : Operand) (t u : TypeId)
    (ho : o.op = .call { callee := .builtin .append, args := #[sl, x], argTypes := #[t, u] })
    (base : Nat) (e : TypeId) (i : TypeInfo) (ht : P.underlying t = some (.slice e)) (hu : P.underlying u = some .string) (hi : P.info? e = some i) (hz : i.zero = some (.int .u8 0))
    (hsize : i.size = 1) (hby : i.bytes = 1) (v : Value) (n : Nat) (l : List UInt8) (hs : a.eval sl = v) (hown : w.ownsRow base e 1 v n (l.map u8v)) (l2 : List UInt8) (m : Nat) (hm : l2.length = m) (hx : a.eval x = .string ⟨l2.toArray⟩)
    (h63 : n + m ≤ 140737488355328) (hbase : base ≤ w.heap.size)
    (h : ∀ v' w', w'.ownsRow base e 1 v' (n + m) ((l ++ l2).map u8v) → Below base w w' → K (a.put o.dst v') w') : Oper.wp P o a w K Q := by
  subst hm
  obtain ⟨v', w', hr, h2, h3, _⟩ := Lib.run_append_own_string (P := P) (w := w) base t u o.type e i ht hu hi hz hsize hby v n (l.map u8v) hown ⟨l2.toArray⟩ (by rw [st_size]; unfold maxLen; omega) (by rw [st_size]; omega) hbase
  rw [st_size, cells_st, ← List.map_append] at h2
  unfold Oper.wp execOp
  simp only [ho, resolve, invoke, builtin, Sem.run_bind, Sem.run_pure, Result.andThen_ok, List.map_toArray, List.map_cons, List.map_nil, hs, hx, hr]
  exact h _ _ h2 ((Below.refl base w).grown h3 hbase (fun k hk => (hown.lt k hk).1))
theorem wpList_append_st {P : Program} {ops : Array Oper} {rest : List Oper} {o : Oper} {a : Act} {w : World} {Q : Exit → Act → World → Prop} (hgd : o.guard = none) (sl x : Operand) (t u : TypeId)
    (ho : o.op = .call { callee := .builtin .append, args := #[sl, x], argTypes := #[t, u] })
    (base : Nat) (e : TypeId) (i : TypeInfo) (ht : P.underlying t = some (.slice e)) (hu : P.underlying u = some .string) (hi : P.info? e = some i) (hz : i.zero = some (.int .u8 0))
    (hsize : i.size = 1) (hby : i.bytes = 1) (v : Value) (n : Nat) (l : List UInt8) (hs : a.eval sl = v) (hown : w.ownsRow base e 1 v n (l.map u8v)) (l2 : List UInt8) (m : Nat) (hm : l2.length = m) (hx : a.eval x = .string ⟨l2.toArray⟩)
    (h63 : n + m ≤ 140737488355328) (hbase : base ≤ w.heap.size)
    (h : ∀ v' w', w'.ownsRow base e 1 v' (n + m) ((l ++ l2).map u8v) → Below base w w' → wpList P ops Q rest (a.put o.dst v') w') : wpList P ops Q (o :: rest) a w :=
  wpList_plain hgd fun _ hK => wp_append_st sl x t u ho base e i ht hu hi hz hsize hby v n l hs hown l2 m hm hx h63 hbase fun v' w' h1 h2 => hK _ _ (h v' w' h1 h2)
theorem own_to {w : World} {B n n' : Nat} {T : TypeId} {v : Value} {l l' : List UInt8} (h : w.ownsRow B T 1 v n (l.map u8v)) (hn : n = n') (hl : l = l') : w.ownsRow B T 1 v n' (l'.map u8v) := by subst hn; subst hl; exact h
theorem Tryd.info_str : (Tryd.prog.info? 9).map (fun i => (i.zero, i.size, i.bytes)) = some (some (.string ⟨#[]⟩), 1, 16) := by kernel_rfl

set_option linter.unusedVariables false in
set_option linter.unusedSimpArgs false in
set_option maxRecDepth 100000 in
set_option maxHeartbeats 16000000 in
theorem nclone_nil {n c : Nat} {l : List UInt8} (w : World) (hs : Sl w none n c l) : Calls Tryd.prog 26 #[.slice none n c] w fun e w' => ∃ v, e = .returned v ∧ w'.ownsRow w.heap.size 5 1 v n ((l).map u8v) ∧ Below w.heap.size w w' := by
  have r4 := fun W => Lib.run_eql_slice_nil (P := Tryd.prog) W 27 5 none n c 0 0 Tryd.underlying27
  simp only [Option.isNone_none] at r4
  have HN : Hid (n = 0) := Lib.hid (by rcases Nat.eq_zero_or_pos n with h_ | h_; exact h_; obtain ⟨g, o, e, _⟩ := hs.2.2.2 h_; cases e)
  have HL : Hid (l = []) := Lib.hid (List.eq_nil_of_length_eq_zero (hs.1.trans HN.out))
  clear hs
  have bel := Below.refl w.heap.size w
  go_enter Tryd.func26, Tryd.ntmps26
  have R4 := r4
  go_wp2_with fail
  clear R4
  go_ret
  exact ⟨.slice none 0 0, rfl, by rw [HN.out, HL.out]; exact World.ownsRow_nil _ _ _ _, bel⟩
set_option linter.unusedVariables false in
set_option linter.unusedSimpArgs false in
set_option maxRecDepth 100000 in
set_option maxHeartbeats 16000000 in
theorem nclone_some {ad : Addr} {n c : Nat} {l : List UInt8} (w : World) (hs : Sl w (some ad) n c l) (hn : n ≤ 100000) : Calls Tryd.prog 26 #[.slice (some ad) n c] w fun e w' => ∃ v, e = .returned v ∧ w'.ownsRow w.heap.size 5 1 v n ((l).map u8v) ∧ Below w.heap.size w w' := by
  have r4 := fun W => Lib.run_eql_slice_nil (P := Tryd.prog) W 27 5 (some ad) n c 0 0 Tryd.underlying27
  simp only [Option.isNone_some] at r4
  obtain ⟨ii, hii, hz0, hz1, hz2⟩ := info_parts Tryd.info5
  have bel := Below.refl w.heap.size w
  go_enter Tryd.func26, Tryd.ntmps26
  have R4 := r4
  go_wp2_with (first | ((with_reducible show wpList _ _ _ (⟨some 5, _, _, _, _, _⟩ :: _) _ _); refine wpList_lit_n rfl 27 5 0 _ rfl #[] (.int .u8 0) Tryd.underlying27 (by kernel_rfl) 1 (by kernel_rfl) (by decide) (by kernel_rfl) ?_; intro g5 w1 ge lt hh bb; have hl : w1.heap[g5]? = some (.cells (([] : List UInt8).map u8v).toArray 5 (0, 0)) := (by simpa [u8v, byteOf_val] using hh); have e0w := own_lit (B := w.heap.size) ([]) hl ge 0 rfl (by simp [maxLen]); have e0 := (own_sl e0w).1; have e0lo := bel.size; clear hl; have e0ge := ge; have lz_e0 := bb.size; have bl_hs_e0 := hs.bl_new; replace hs := hs.below bb; replace bel := bel.trans (bb.mono bel.size); clear hh lt ge bb) | ((with_reducible show wpList _ _ _ (⟨some 7, _, _, _, _, _⟩ :: _) _ _); refine wpList_append_bb _ rfl (.tmp 5) (.tmp 6) 27 rfl (w.heap.size) 5 ii (.int .u8 0) Tryd.underlying27 hii hz0 hz1 hz2 rfl _ (0) ([]) rfl e0w (some ad) (n) (c) (l) rfl hs (by omega) lz_e0 ?_; intro v7 w2 own_ bb; replace hs := hs.under bl_hs_e0 bb; replace bel := bel.trans (bb.mono e0lo); have lz_cl := Nat.le_trans lz_e0 bb.size; clear bb; clear e0 e0w lz_e0; replace own_ : w2.ownsRow (w.heap.size) 5 1 v7 (n) ((l : List UInt8).map u8v) := (by simpa using own_); obtain ⟨A7, c7, rfl⟩ := own_val own_; have clw := own_; have cl := (own_sl own_).1; have fr_cl := (own_sl own_).2; clear own_))
  try clear R4
  go_ret
  exact ⟨_, rfl, owk_lo clw e0lo, bel⟩
theorem nclone_any {A : Option Addr} {n c : Nat} {l : List UInt8} (w : World) (hs : Sl w A n c l) (hn : n ≤ 100000) : Calls Tryd.prog 26 #[.slice A n c] w fun e w' => ∃ v, e = .returned v ∧ w'.ownsRow w.heap.size 5 1 v n ((l).map u8v) ∧ Below w.heap.size w w' := by
  cases A with
  | none => exact nclone_nil w hs
  | some ad => exact nclone_some w hs hn
set_option linter.unusedVariables false in
set_option linter.unusedSimpArgs false in
set_option maxRecDepth 100000 in
set_option maxHeartbeats 16000000 in
theorem nput_good (A B : Option Addr) (n d m c : Nat) (b : List UInt8) (l : List (List UInt8)) (w : World) (lb : Sl w B n d b) (la : Sle stf 1 w A m c l) (hn : n ≤ 100000) (hg : goodN l = true) : Calls Tryd.prog 12 #[.slice B n d, .slice A m c] w fun e w' => ∃ v, e = .returned (.tuple #[v, .int .i64 0]) ∧ w'.ownsRow w.heap.size 5 1 v (b ++ putN l).length ((b ++ putN l).map u8v) ∧ Below w.heap.size w w' := by
  have HN := Lib.hid la.1
  have HG := Lib.hid (good_all hg)
  have HS := Lib.hid (good_size hg)
  have BLA := la.bl_new
  have hb : (m : Int) ≤ 255 := by have h_ := size_ge l; have h1_ := HN.out; have h2_ := HS.out; omega
  have HB := Lib.hid lb.1
  obtain ⟨ii, hii, hz0, hz1, hz2⟩ := info_parts Tryd.info5
  have bel := Below.refl w.heap.size w
  go_enter Tryd.func12, Tryd.ntmps12
  go_wp2_with fail
  with_reducible refine (ngood_any _ _ _ _ _ la (by have h_ := hb; omega)).mono ?_
  rintro e _ ⟨rfl, rfl⟩
  rw [hg]
  go_wp2_with fail
  with_reducible refine (nclone_any _ lb hn).mono ?_
  rintro e w1 ⟨vcl, rfl, clw, b1⟩
  have bl_lb_cl := lb.bl_new
  have bl_la_cl := la.bl_new
  have cllo := bel.size
  have lz_cl := b1.size
  replace lb := lb.below b1
  replace la := la.below b1
  replace bel := bel.trans (b1.mono bel.size)
  clear b1
  obtain ⟨Acl, ccl, rfl⟩ := own_val clw
  have cl := (own_sl clw).1
  have fr_cl := (own_sl clw).2
  clear lb
  go_wp2_with fail
  go_loopg [16, 6] (m) (fun gk s16 s6 wr => ∃ i : Nat, ∃ z : Nat, ∃ (Aou : Option Addr) (cou : Nat), gk = m - i ∧ i ≤ m ∧ Hid (n + sizeN (l.take i) = z) ∧ z ≤ n + 254 ∧ s16 = .int .i64 (i : Int) ∧ s6 = .slice Aou z cou ∧ wr.ownsRow (w.heap.size) 5 1 (.slice Aou (z) cou) (z) ((b ++ encL (l.take i) : List UInt8).map u8v) ∧ Sle stf 1 wr (A) (m) (c) (l) ∧ Below w.heap.size w wr)
  case atStart => exact ⟨0, n, Acl, ccl, Nat.sub_zero _, Nat.zero_le _, Lib.hid rfl, by omega, rfl, rfl, own_to clw rfl (by simp [encL]), la, bel⟩
  case round =>
    clear la cl bel
    obtain ⟨i, z, Aou, cou, HGK, hi, HZ, hz, rfl, rfl, ouw, la, bel⟩ := hrel
    have HGK_ := Lib.hid HGK
    clear HGK
    have ou := (own_sl ouw).1
    have fr_ou := (own_sl ouw).2
    have lz_ou := bel.size
    have oulo := Nat.le_refl (w.heap.size)
    have i0 : (0 : Int) ≤ i := by omega
    by_cases h : i < m
    rotate_left
    · have hh := Lib.hid h
      replace h : decide (i < m) = false := decide_eq_false h
      go_wp2_with (first | ((with_reducible show wpList _ _ _ (⟨some 31, _, _, _, _, _⟩ :: _) _ _); refine wpList_lit_n rfl 27 5 1 _ rfl #[.int .u8 0] (.int .u8 0) Tryd.underlying27 (by kernel_rfl) 1 (by kernel_rfl) (by decide) (by kernel_rfl) ?_; intro g31 w2 ge lt hh bb; have hl : w2.heap[g31]? = some (.cells (([0] : List UInt8).map u8v).toArray 5 (0, 0)) := (by simpa [u8v, byteOf_val] using hh); have ztw := own_lit (B := wr.heap.size) ([0]) hl ge 1 rfl (by simp [maxLen]); have zt := (own_sl ztw).1; have ztlo := bel.size; clear hl; have ztge := ge; have lz_zt := bb.size; have bl_la_zt := la.bl_new; have bl_ou_zt := ou.bl_new; have av_la_b31 := la.av_new ge; have av_ou_b31 := ou.av_new ge; have of_ou_b31 := own_new ouw ge; have ob31 := Nat.le_trans bel.size ge; replace la := la.below bb; replace ou := ou.below bb; replace ouw := own_under ouw bb; replace lz_ou := Nat.le_trans lz_ou bb.size; replace bel := bel.trans (bb.mono bel.size); have hb31 := hh; clear hh lt ge bb) | ((with_reducible show wpList _ _ _ (⟨some 32, _, _, _, _, _⟩ :: _) _ _); refine wpList_append_bg _ rfl (.tmp 30) (.tmp 31) 27 rfl (w.heap.size) 5 ii (.int .u8 0) Tryd.underlying27 hii hz0 hz1 hz2 rfl _ (z) (b ++ encL (l.take i)) rfl ouw (some ⟨g31, 0, none⟩) (1) (1) ([0]) rfl zt (by omega) lz_ou ?_; intro v32 w3 own_ bb gw ofw; have of32_b31 := ofw _ (hlt hb31) of_ou_b31; clear ofw; replace la := la.under BLA bb; clear zt ztw lz_zt; replace hb31 := blk_own hb31 gw of_ou_b31; clear gw; replace bel := bel.trans (bb.mono oulo); have lz_fi := Nat.le_trans lz_ou bb.size; clear bb; clear ou ouw lz_ou; replace own_ : w3.ownsRow (w.heap.size) 5 1 v32 (z + 1) ((b ++ encL (l.take i) ++ [0] : List UInt8).map u8v) := own_; obtain ⟨A32, c32, rfl⟩ := own_val own_; have fiw := own_; have fi := (own_sl own_).1; have fr_fi := (own_sl own_).2; clear own_; have av_fi_b31 := own_av fiw of32_b31))
      exact bodyPost_ret (v := .tuple #[.slice A32 (z + 1) c32, .int .i64 0]) (by simp [results, Tryd.results12, go_sem]) rfl ⟨_, rfl, own_to fiw (by rw [putN, List.length_append, List.length_append, enc_len, HB.out]; have h_ := HZ.out; rw [take_full (by rw [HN.out]; exact hh.out)] at h_; simp; omega) (by rw [take_full (by rw [HN.out]; exact hh.out)]; simp [putN]), bel⟩
    obtain ⟨gA, oA, rfl⟩ := la.place (by omega)
    obtain ⟨x, HX_⟩ : ∃ u_, l[i]? = some u_ := ⟨_, List.getElem?_eq_getElem (by rw [HN.out]; exact h)⟩
    have HX := Lib.hid HX_
    clear HX_
    obtain ⟨k, HK_⟩ : ∃ u_, x.length = u_ := ⟨_, rfl⟩
    have HK := Lib.hid HK_
    clear HK_
    have hk := HG.out x (List.mem_of_getElem? HX.out)
    rw [HK.out] at hk
    have k0 : (0 : Int) ≤ k := by omega
    have k1 : (k : Int) ≤ 63 := by omega
    have HZ2 : Hid (n + sizeN (l.take (i + 1)) = z + 1 + k) := Lib.hid (by rw [size_next HX.out, HK.out]; have h_ := HZ.out; omega)
    have hzn : z + 1 + k ≤ n + 254 := by have h_ := size_take l (i + 1); have h1_ := HS.out; have h2_ := HZ2.out; omega
    have R23_ : byteOf (k : Int) = byteOf (k : Int) := rfl
    have R19 := Sle.st (i := i) la HX.out
    have R22 := fun W => st_lenN HK.out 3 W
    go_wp2_with (first | ((with_reducible show wpList _ _ _ (⟨some 24, _, _, _, _, _⟩ :: _) _ _); refine wpList_lit_n rfl 27 5 1 _ rfl #[.int .u8 (k : Int)] (.int .u8 0) Tryd.underlying27 (by kernel_rfl) 1 (by kernel_rfl) (by decide) (by kernel_rfl) ?_; intro g24 w2 ge lt hh bb; have hl : w2.heap[g24]? = some (.cells (([byteOf (k : Int)] : List UInt8).map u8v).toArray 5 (0, 0)) := (by simpa [u8v, byteOf_nat (n := k) (by omega)] using hh); have ytw := own_lit (B := wr.heap.size) ([byteOf (k : Int)]) hl ge 1 rfl (by simp [maxLen]); have yt := (own_sl ytw).1; have ytlo := bel.size; clear hl; have ytge := ge; have lz_yt := bb.size; have bl_la_yt := la.bl_new; have bl_ou_yt := ou.bl_new; have av_la_b24 := la.av_new ge; have av_ou_b24 := ou.av_new ge; have of_ou_b24 := own_new ouw ge; have ob24 := Nat.le_trans bel.size ge; replace la := la.below bb; replace ou := ou.below bb; replace ouw := own_under ouw bb; replace lz_ou := Nat.le_trans lz_ou bb.size; replace bel := bel.trans (bb.mono bel.size); have hb24 := hh; clear hh lt ge bb) | ((with_reducible show wpList _ _ _ (⟨some 25, _, _, _, _, _⟩ :: _) _ _); refine wpList_append_bg _ rfl (.tmp 20) (.tmp 24) 27 rfl (w.heap.size) 5 ii (.int .u8 0) Tryd.underlying27 hii hz0 hz1 hz2 rfl _ (z) (b ++ encL (l.take i)) rfl ouw (some ⟨g24, 0, none⟩) (1) (1) ([byteOf (k : Int)]) rfl yt (by omega) lz_ou ?_; intro v25 w3 own_ bb gw ofw; have of25_b24 := ofw _ (hlt hb24) of_ou_b24; clear ofw; replace la := la.under BLA bb; clear yt ytw lz_yt; replace hb24 := blk_own hb24 gw of_ou_b24; clear gw; replace bel := bel.trans (bb.mono oulo); have lz_ou1 := Nat.le_trans lz_ou bb.size; clear bb; clear ou ouw lz_ou; replace own_ : w3.ownsRow (w.heap.size) 5 1 v25 (z + 1) ((b ++ encL (l.take i) ++ [byteOf (k : Int)] : List UInt8).map u8v) := own_; obtain ⟨A25, c25, rfl⟩ := own_val own_; have ou1w := own_; have ou1 := (own_sl own_).1; have fr_ou1 := (own_sl own_).2; clear own_; have av_ou1_b24 := own_av ou1w of25_b24) | ((with_reducible show wpList _ _ _ (⟨some 28, _, _, _, _, _⟩ :: _) _ _); refine wpList_append_st rfl (.tmp 26) (.tmp 27) 27 9 rfl (w.heap.size) 5 ii Tryd.underlying27 Tryd.underlying9 hii hz0 hz1 hz2 _ (z + 1) (b ++ encL (l.take i) ++ [byteOf (k : Int)]) rfl ou1w (x) (k) (HK.out) rfl (by omega) lz_ou1 ?_; intro v28 w4 own_ bb; replace la := la.under BLA bb; clear hb24; replace bel := bel.trans (bb.mono oulo); have lz_ou2 := Nat.le_trans lz_ou1 bb.size; clear bb; clear ou1 ou1w lz_ou1; obtain ⟨A28, c28, rfl⟩ := own_val own_; have ou2w := own_; have ou2 := (own_sl own_).1; have fr_ou2 := (own_sl own_).2; clear own_))
    try clear R19
    try clear R22
    go_roundg (m - (i + 1))
    case measure => have := HGK_.out; omega
    case rel => exact ⟨i + 1, z + 1 + k, A28, c28, rfl, h, HZ2, hzn, by go_num, rfl, (own_to ou2w rfl (by rw [enc_next HX.out, HK.out]; simp)), la, bel⟩
set_option linter.unusedVariables false in
set_option linter.unusedSimpArgs false in
set_option maxRecDepth 100000 in
set_option maxHeartbeats 16000000 in
theorem nput_bad (A B : Option Addr) (n d m c : Nat) (l : List (List UInt8)) (w : World) (la : Sle stf 1 w A m c l) (hm : m ≤ 100000) (hg : goodN l = false) : Calls Tryd.prog 12 #[.slice B n d, .slice A m c] w fun e w' => e = .returned (.tuple #[.slice none 0 0, .int .i64 1]) ∧ Below w.heap.size w w' := by
  have bel := Below.refl w.heap.size w
  go_enter Tryd.func12, Tryd.ntmps12
  go_wp2_with fail
  with_reducible refine (ngood_any _ _ _ _ _ la hm).mono ?_
  rintro e _ ⟨rfl, rfl⟩
  rw [hg]
  go_wp2_with fail
  exact bodyPost_ret (v := .tuple #[.slice none 0 0, .int .i64 1]) (by simp [results, Tryd.results12, go_sem]) rfl ⟨rfl, bel⟩
set_option linter.unusedVariables false in
set_option linter.unusedSimpArgs false in
set_option maxRecDepth 100000 in
set_option maxHeartbeats 16000000 in
theorem rput_good (A B : Option Addr) (n d m c : Nat) (b : List UInt8) (l : List (List UInt8)) (w : World) (lb : Sl w B n d b) (la : Sle stf 1 w A m c l) (hn : n ≤ 100000) (hg : goodN l = true) : Calls Tryd.prog 20 #[.slice B n d, .slice A m c] w fun e w' => ∃ v, e = .returned v ∧ w'.ownsRow w.heap.size 5 1 v (b ++ putN l).length ((b ++ putN l).map u8v) ∧ Below w.heap.size w w' := by
  have HN := Lib.hid la.1
  have HG := Lib.hid (good_all hg)
  have HS := Lib.hid (good_size hg)
  have BLA := la.bl_new
  have hb : (m : Int) ≤ 255 := by have h_ := size_ge l; have h1_ := HN.out; have h2_ := HS.out; omega
  have HB := Lib.hid lb.1
  obtain ⟨ii, hii, hz0, hz1, hz2⟩ := info_parts Tryd.info5
  have bel := Below.refl w.heap.size w
  go_enter Tryd.func20, Tryd.ntmps20
  go_wp2_with (first | ((with_reducible show wpList _ _ _ (⟨some 7, _, _, _, _, _⟩ :: _) _ _); refine wpList_lit_n rfl 27 5 0 _ rfl #[] (.int .u8 0) Tryd.underlying27 (by kernel_rfl) 1 (by kernel_rfl) (by decide) (by kernel_rfl) ?_; intro g7 w1 ge lt hh bb; have hl : w1.heap[g7]? = some (.cells (([] : List UInt8).map u8v).toArray 5 (0, 0)) := (by simpa [u8v, byteOf_val] using hh); have e0w := own_lit (B := w.heap.size) ([]) hl ge 0 rfl (by simp [maxLen]); have e0 := (own_sl e0w).1; have e0lo := bel.size; clear hl; have e0ge := ge; have lz_e0 := bb.size; have bl_lb_e0 := lb.bl_new; have bl_la_e0 := la.bl_new; replace lb := lb.below bb; replace la := la.below bb; replace bel := bel.trans (bb.mono bel.size); clear hh lt ge bb) | ((with_reducible show wpList _ _ _ (⟨some 9, _, _, _, _, _⟩ :: _) _ _); refine wpList_append_bb _ rfl (.tmp 7) (.tmp 8) 27 rfl (w.heap.size) 5 ii (.int .u8 0) Tryd.underlying27 hii hz0 hz1 hz2 rfl _ (0) ([]) rfl e0w (B) (n) (d) (b) rfl lb (by omega) lz_e0 ?_; intro v9 w2 own_ bb; replace lb := lb.under bl_lb_e0 bb; replace la := la.under bl_la_e0 bb; replace bel := bel.trans (bb.mono e0lo); have lz_cl := Nat.le_trans lz_e0 bb.size; clear bb; clear e0 e0w lz_e0; replace own_ : w2.ownsRow (w.heap.size) 5 1 v9 (n) ((b : List UInt8).map u8v) := (by simpa using own_); obtain ⟨A9, c9, rfl⟩ := own_val own_; have clw := own_; have cl := (own_sl own_).1; have fr_cl := (own_sl own_).2; clear own_; clear lb))
  go_loopg [6, 5] (m) (fun gk s6 s5 wr => ∃ i : Nat, ∃ z : Nat, ∃ (Aou : Option Addr) (cou : Nat), gk = m - i ∧ i ≤ m ∧ Hid (n + sizeN (l.take i) = z) ∧ z ≤ n + 254 ∧ s6 = .int .i64 (i : Int) ∧ s5 = .slice Aou z cou ∧ wr.ownsRow (w.heap.size) 5 1 (.slice Aou (z) cou) (z) ((b ++ encL (l.take i) : List UInt8).map u8v) ∧ Sle stf 1 wr (A) (m) (c) (l) ∧ Below w.heap.size w wr)
  case atStart => exact ⟨0, n, A9, c9, Nat.sub_zero _, Nat.zero_le _, Lib.hid rfl, by omega, rfl, rfl, own_to clw rfl (by simp [encL]), la, bel⟩
  case round =>
    clear la cl bel
    obtain ⟨i, z, Aou, cou, HGK, hi, HZ, hz, rfl, rfl, ouw, la, bel⟩ := hrel
    have HGK_ := Lib.hid HGK
    clear HGK
    have ou := (own_sl ouw).1
    have fr_ou := (own_sl ouw).2
    have lz_ou := bel.size
    have oulo := Nat.le_refl (w.heap.size)
    have i0 : (0 : Int) ≤ i := by omega
    by_cases h : i < m
    rotate_left
    · have hh := Lib.hid h
      replace h : decide (i < m) = false := decide_eq_false h
      go_wp2_with (first | ((with_reducible show wpList _ _ _ (⟨some 31, _, _, _, _, _⟩ :: _) _ _); refine wpList_lit_n rfl 27 5 1 _ rfl #[.int .u8 0] (.int .u8 0) Tryd.underlying27 (by kernel_rfl) 1 (by kernel_rfl) (by decide) (by kernel_rfl) ?_; intro g31 w3 ge lt hh bb; have hl : w3.heap[g31]? = some (.cells (([0] : List UInt8).map u8v).toArray 5 (0, 0)) := (by simpa [u8v, byteOf_val] using hh); have ztw := own_lit (B := wr.heap.size) ([0]) hl ge 1 rfl (by simp [maxLen]); have zt := (own_sl ztw).1; have ztlo := bel.size; clear hl; have ztge := ge; have lz_zt := bb.size; have bl_la_zt := la.bl_new; have bl_ou_zt := ou.bl_new; have av_la_b31 := la.av_new ge; have av_ou_b31 := ou.av_new ge; have of_ou_b31 := own_new ouw ge; have ob31 := Nat.le_trans bel.size ge; replace la := la.below bb; replace ou := ou.below bb; replace ouw := own_under ouw bb; replace lz_ou := Nat.le_trans lz_ou bb.size; replace bel := bel.trans (bb.mono bel.size); have hb31 := hh; clear hh lt ge bb) | ((with_reducible show wpList _ _ _ (⟨some 32, _, _, _, _, _⟩ :: _) _ _); refine wpList_append_bg _ rfl (.tmp 30) (.tmp 31) 27 rfl (w.heap.size) 5 ii (.int .u8 0) Tryd.underlying27 hii hz0 hz1 hz2 rfl _ (z) (b ++ encL (l.take i)) rfl ouw (some ⟨g31, 0, none⟩) (1) (1) ([0]) rfl zt (by omega) lz_ou ?_; intro v32 w4 own_ bb gw ofw; have of32_b31 := ofw _ (hlt hb31) of_ou_b31; clear ofw; replace la := la.under BLA bb; clear zt ztw lz_zt; replace hb31 := blk_own hb31 gw of_ou_b31; clear gw; replace bel := bel.trans (bb.mono oulo); have lz_fi := Nat.le_trans lz_ou bb.size; clear bb; clear ou ouw lz_ou; replace own_ : w4.ownsRow (w.heap.size) 5 1 v32 (z + 1) ((b ++ encL (l.take i) ++ [0] : List UInt8).map u8v) := own_; obtain ⟨A32, c32, rfl⟩ := own_val own_; have fiw := own_; have fi := (own_sl own_).1; have fr_fi := (own_sl own_).2; clear own_; have av_fi_b31 := own_av fiw of32_b31))
      go_ret
      exact ⟨_, rfl, own_to fiw (by rw [putN, List.length_append, List.length_append, enc_len, HB.out]; have h_ := HZ.out; rw [take_full (by rw [HN.out]; exact hh.out)] at h_; simp; omega) (by rw [take_full (by rw [HN.out]; exact hh.out)]; simp [putN]), bel⟩
    obtain ⟨gA, oA, rfl⟩ := la.place (by omega)
    obtain ⟨x, HX_⟩ : ∃ u_, l[i]? = some u_ := ⟨_, List.getElem?_eq_getElem (by rw [HN.out]; exact h)⟩
    have HX := Lib.hid HX_
    clear HX_
    obtain ⟨k, HK_⟩ : ∃ u_, x.length = u_ := ⟨_, rfl⟩
    have HK := Lib.hid HK_
    clear HK_
    have hk := HG.out x (List.mem_of_getElem? HX.out)
    rw [HK.out] at hk
    have k0 : (0 : Int) ≤ k := by omega
    have k1 : (k : Int) ≤ 63 := by omega
    have HZ2 : Hid (n + sizeN (l.take (i + 1)) = z + 1 + k) := Lib.hid (by rw [size_next HX.out, HK.out]; have h_ := HZ.out; omega)
    have hzn : z + 1 + k ≤ n + 254 := by have h_ := size_take l (i + 1); have h1_ := HS.out; have h2_ := HZ2.out; omega
    have R23_ : byteOf (k : Int) = byteOf (k : Int) := rfl
    have R21 := fun W => st_lenN HK.out 3 W
    have uwk : IntKind.u8.wrap (k : Int) = (k : Int) := IntWalk.u8_in _ (by omega)
    go_wp2_with fail
    replace bel := bel.drew
    replace la := la.drew
    replace ou := ou.drew
    replace ouw : wr.drew.ownsRow _ _ _ _ _ _ := ouw
    replace lz_ou : _ ≤ wr.drew.heap.size := lz_ou
    refine wp_region_held_drew (S := fun W => Sle stf 1 W (some ⟨gA, oA, none⟩) (m) (c) (l)) (by kernel_rfl) la (fun hH => ?_)
    generalize wr.drew = w3 at bel la ou ouw lz_ou hH ⊢
    refine wpAnyH_take (i := 0) (v := ?_) rfl (by kernel_rfl) (by kernel_rfl) (by kernel_rfl) (fun _ _ _ h => h) (Or.inl ⟨by rfl, ?_⟩) hH ?_
    rotate_left
    · ((intro W hW; clear hW; go_simp) <;> with_reducible rfl)
    simp only [Act.put, List.getElem_toArray, List.getElem_cons_zero, List.setIfInBounds_toArray, List.set_cons_zero, List.set_cons_succ]
    refine wpAnyH_take (i := 1) (v := ?_) rfl (by kernel_rfl) (by kernel_rfl) (by kernel_rfl) (fun _ _ _ h => h) (Or.inl ⟨by rfl, ?_⟩) hH ?_
    rotate_left
    · ((intro W hW; clear hW; go_simp) <;> with_reducible rfl)
    simp only [Act.put, List.getElem_toArray, List.getElem_cons_zero, List.getElem_cons_succ, List.setIfInBounds_toArray, List.set_cons_zero, List.set_cons_succ]
    refine wpAnyH_take (i := 2) (v := ?_) rfl (by kernel_rfl) (by kernel_rfl) (by kernel_rfl) (fun _ _ _ h => h) (Or.inl ⟨by rfl, ?_⟩) hH ?_
    rotate_left
    · ((intro W hW; clear hW; go_simp) <;> with_reducible rfl)
    simp only [Act.put, List.getElem_toArray, List.getElem_cons_zero, List.getElem_cons_succ, List.setIfInBounds_toArray, List.set_cons_zero, List.set_cons_succ]
    refine wpAnyH_take (i := 3) (v := ?_) rfl (by kernel_rfl) (by kernel_rfl) (by kernel_rfl) (fun _ _ _ h => h) (Or.inl ⟨by rfl, ?_⟩) hH ?_
    rotate_left
    · ((intro W hW; clear hW; go_simp) <;> with_reducible rfl)
    simp only [Act.put, List.getElem_toArray, List.getElem_cons_zero, List.getElem_cons_succ, List.setIfInBounds_toArray, List.set_cons_zero, List.set_cons_succ]
    refine wpAnyH_take (i := 4) (v := ?_) rfl (by kernel_rfl) (by kernel_rfl) (by kernel_rfl) (fun _ _ _ h => h) (Or.inl ⟨by rfl, ?_⟩) hH ?_
    rotate_left
    · ((intro W hW; have hk := Sle.st (i := i) (hW) HX.out; clear hW; go_simp) <;> with_reducible rfl)
    simp only [Act.put, List.getElem_toArray, List.getElem_cons_zero, List.getElem_cons_succ, List.setIfInBounds_toArray, List.set_cons_zero, List.set_cons_succ]
    refine wpAnyH_take (i := 5) (v := ?_) rfl (by kernel_rfl) (by kernel_rfl) (by kernel_rfl) (fun _ _ _ h => h) (Or.inl ⟨by rfl, ?_⟩) hH ?_
    rotate_left
    · ((intro W hW; clear hW; go_simp) <;> with_reducible rfl)
    simp only [Act.put, List.getElem_toArray, List.getElem_cons_zero, List.getElem_cons_succ, List.setIfInBounds_toArray, List.set_cons_zero, List.set_cons_succ]
    refine wpAnyH_take (i := 6) (v := ?_) rfl (by kernel_rfl) (by kernel_rfl) (by kernel_rfl) (fun _ _ _ h => h) (Or.inl ⟨by rfl, ?_⟩) hH ?_
    rotate_left
    · ((intro W hW; clear hW; go_simp) <;> with_reducible rfl)
    simp only [Act.put, List.getElem_toArray, List.getElem_cons_zero, List.getElem_cons_succ, List.setIfInBounds_toArray, List.set_cons_zero, List.set_cons_succ]
    refine wpAnyH_take (i := 9) (v := ?_) rfl (by kernel_rfl) (by kernel_rfl) (by kernel_rfl) (fun _ _ _ h => h) (Or.inl ⟨by rfl, ?_⟩) hH ?_
    rotate_left
    · ((intro W hW; clear hW; go_simp) <;> with_reducible rfl)
    simp only [Act.put, List.getElem_toArray, List.getElem_cons_zero, List.getElem_cons_succ, List.setIfInBounds_toArray, List.set_cons_zero, List.set_cons_succ]
    refine wpAnyH_take (i := 10) (v := ?_) rfl (by kernel_rfl) (by kernel_rfl) (by kernel_rfl) (fun _ _ _ h => h) (Or.inl ⟨by rfl, ?_⟩) hH ?_
    rotate_left
    · ((intro W hW; clear hW; go_simp) <;> with_reducible rfl)
    simp only [Act.put, List.getElem_toArray, List.getElem_cons_zero, List.getElem_cons_succ, List.setIfInBounds_toArray, List.set_cons_zero, List.set_cons_succ]
    refine wpAnyH_take (i := 11) (v := ?_) rfl (by kernel_rfl) (by kernel_rfl) (by kernel_rfl) (fun _ _ _ h => h) (Or.inl ⟨by rfl, ?_⟩) hH ?_
    rotate_left
    · ((intro W hW; clear hW; go_simp) <;> with_reducible rfl)
    simp only [Act.put, List.getElem_toArray, List.getElem_cons_zero, List.getElem_cons_succ, List.setIfInBounds_toArray, List.set_cons_zero, List.set_cons_succ]
    refine wpAnyH_take (i := 12) (v := ?_) rfl (by kernel_rfl) (by kernel_rfl) (by kernel_rfl) (fun _ _ _ h => h) (Or.inl ⟨by rfl, ?_⟩) hH ?_
    rotate_left
    · ((intro W hW; have hk := Sle.st (i := i) (hW) HX.out; clear hW; go_simp) <;> with_reducible rfl)
    simp only [Act.put, List.getElem_toArray, List.getElem_cons_zero, List.getElem_cons_succ, List.setIfInBounds_toArray, List.set_cons_zero, List.set_cons_succ]
    refine wpAnyH_ready (rs := [7]) (by kernel_rfl) (by simp) ?_
    refine AllReadyH.cons (o := _) rfl (fun K hK => ?_) AllReadyH.nil
    simp only [List.getElem_toArray, List.getElem_cons_zero, List.getElem_cons_succ]
    rw [if_pos (by rfl)]
    refine wp_lit_n 27 5 1 _ rfl #[.int .u8 (k : Int)] (.int .u8 0) Tryd.underlying27 (by kernel_rfl) 1 (by kernel_rfl) (by decide) (by kernel_rfl) ?_
    intro g23 w4 ge lt hh bb
    have hl : w4.heap[g23]? = some (.cells (([byteOf (k : Int)] : List UInt8).map u8v).toArray 5 (0, 0)) := (by simpa [u8v, byteOf_nat (n := k) (by omega)] using hh)
    have ytw := own_lit (B := w3.heap.size) ([byteOf (k : Int)]) hl ge 1 rfl (by simp [maxLen])
    have yt := (own_sl ytw).1
    have ytlo := bel.size
    clear hl
    have ytge := ge
    have lz_yt := bb.size
    have bl_la_yt := la.bl_new
    have bl_ou_yt := ou.bl_new
    have av_la_b23 := la.av_new ge
    have av_ou_b23 := ou.av_new ge
    have of_ou_b23 := own_new ouw ge
    have ob23 := Nat.le_trans bel.size ge
    replace la := la.below bb
    replace ou := ou.below bb
    replace ouw := own_under ouw bb
    replace lz_ou := Nat.le_trans lz_ou bb.size
    replace bel := bel.trans (bb.mono bel.size)
    have hb23 := hh
    clear hh lt ge bb
    refine hK.out _ _ la (fun hH5 => ?_)
    clear hK K
    simp only [Act.put, List.setIfInBounds_toArray, List.set_cons_zero, List.set_cons_succ]
    refine wpAnyH_ready (rs := [8]) (by kernel_rfl) (by simp) ?_
    refine AllReadyH.cons (o := _) rfl (fun K hK => ?_) AllReadyH.nil
    simp only [List.getElem_toArray, List.getElem_cons_zero, List.getElem_cons_succ]
    rw [if_pos (by rfl)]
    refine wp_append_bg (.tmp 16) (.tmp 23) 27 rfl (w.heap.size) 5 ii (.int .u8 0) Tryd.underlying27 hii hz0 hz1 hz2 rfl _ (z) (b ++ encL (l.take i)) rfl ouw (some ⟨g23, 0, none⟩) (1) (1) ([byteOf (k : Int)]) rfl yt (by omega) lz_ou ?_
    intro v24 w6 own_ bb gw ofw
    have of24_b23 := ofw _ (hlt hb23) of_ou_b23
    clear ofw
    replace la := la.under BLA bb
    clear yt ytw lz_yt
    replace hb23 := blk_own hb23 gw of_ou_b23
    clear gw
    replace bel := bel.trans (bb.mono oulo)
    have lz_ou1 := Nat.le_trans lz_ou bb.size
    clear bb
    clear ou ouw lz_ou
    replace own_ : w6.ownsRow (w.heap.size) 5 1 v24 (z + 1) ((b ++ encL (l.take i) ++ [byteOf (k : Int)] : List UInt8).map u8v) := own_
    obtain ⟨A24, c24, rfl⟩ := own_val own_
    have ou1w := own_
    have ou1 := (own_sl own_).1
    have fr_ou1 := (own_sl own_).2
    clear own_
    have av_ou1_b23 := own_av ou1w of24_b23
    refine hK.out _ _ la (fun hH7 => ?_)
    clear hK K
    simp only [Act.put, List.setIfInBounds_toArray, List.set_cons_zero, List.set_cons_succ]
    refine wpAnyH_ready (rs := [13]) (by kernel_rfl) (by simp) ?_
    refine AllReadyH.cons (o := _) rfl (fun K hK => ?_) AllReadyH.nil
    simp only [List.getElem_toArray, List.getElem_cons_zero, List.getElem_cons_succ]
    rw [if_pos (by rfl)]
    refine wp_append_st (.tmp 24) (.tmp 28) 27 9 rfl (w.heap.size) 5 ii Tryd.underlying27 Tryd.underlying9 hii hz0 hz1 hz2 _ (z + 1) (b ++ encL (l.take i) ++ [byteOf (k : Int)]) rfl ou1w (x) (k) (HK.out) rfl (by omega) lz_ou1 ?_
    intro v29 w8 own_ bb
    replace la := la.under BLA bb
    clear hb23
    replace bel := bel.trans (bb.mono oulo)
    have lz_ou2 := Nat.le_trans lz_ou1 bb.size
    clear bb
    clear ou1 ou1w lz_ou1
    obtain ⟨A29, c29, rfl⟩ := own_val own_
    have ou2w := own_
    have ou2 := (own_sl own_).1
    have fr_ou2 := (own_sl own_).2
    clear own_
    refine hK.out _ _ la (fun hH9 => ?_)
    clear hK K
    simp only [Act.put, List.setIfInBounds_toArray, List.set_cons_zero, List.set_cons_succ]
    refine wpAnyH_take (i := 14) (v := ?_) rfl (by kernel_rfl) (by kernel_rfl) (by kernel_rfl) (fun _ _ _ h => h) (Or.inl ⟨by rfl, ?_⟩) hH9 ?_
    rotate_left
    · ((intro W hW; clear hW; go_simp) <;> with_reducible rfl)
    simp only [Act.put, List.getElem_toArray, List.getElem_cons_zero, List.getElem_cons_succ, List.setIfInBounds_toArray, List.set_cons_zero, List.set_cons_succ]
    refine wpAnyH_done (by kernel_rfl) ?_ _
    go_wp2_with fail
    go_roundg (m - (i + 1))
    case measure => have := HGK_.out; omega
    case rel => exact ⟨i + 1, z + 1 + k, A29, c29, rfl, h, HZ2, hzn, by go_num, rfl, (own_to ou2w rfl (by rw [enc_next HX.out, HK.out]; simp)), la, bel⟩
theorem dg_cells {c : UInt8} {x : Int} (h : (c.toNat : Int) = x) : ([92, dg1 c, dg2 c, dg3 c] : List UInt8).map u8v = [.int .u8 92, .int .u8 (48 + x / 100), .int .u8 (48 + x / 10 % 10), .int .u8 (48 + x % 10)] := by
  obtain ⟨h1, h2, h3⟩ := dg_val c
  subst h
  simp only [List.map_cons, List.map_nil, u8v, h1, h2, h3]
  rfl
theorem nplain_x (c : UInt8) (x : Int) (w : World) (h : (c.toNat : Int) = x) : Calls Tryd.prog 40 #[.int .u8 x] w fun e w' => e = .returned (.bool (plainB c)) ∧ w = w' := by
  subst h
  exact nplain_any c w
set_option linter.unusedVariables false in
set_option linter.unusedSimpArgs false in
set_option maxRecDepth 100000 in
set_option maxHeartbeats 16000000 in
theorem nappend_any {lo : Nat} (B : Option Addr) (n d : Nat) (b l : List UInt8) (w : World) (sbw : w.ownsRow lo 5 1 (.slice B n d) n (b.map u8v)) (hlo : lo ≤ w.heap.size) (hn : n ≤ 1000000) (hm : l.length ≤ 100000) : Calls Tryd.prog 29 #[.slice B n d, .string ⟨l.toArray⟩] w fun e w' => ∃ v, e = .returned v ∧ w'.ownsRow lo 5 1 v (n + (textL l).length) ((b ++ textL l).map u8v) ∧ Below lo w w' := by
  obtain ⟨m, HL_⟩ : ∃ u_, l.length = u_ := ⟨_, rfl⟩
  have HL := Lib.hid HL_
  clear HL_
  have hb : (m : Int) ≤ 100000 := by have h_ := HL.out; omega
  have sb := (own_sl sbw).1
  have sblo := Nat.le_refl lo
  have lz_sb := hlo
  obtain ⟨ii, hii, hz0, hz1, hz2⟩ := info_parts Tryd.info5
  have bel := Below.refl lo w
  go_enter Tryd.func29, Tryd.ntmps29
  have R8 := fun W => st_lenN HL.out 3 W
  go_wp2_with fail
  clear R8
  go_loopg [9, 0] (m) (fun gk s9 s0 wr => ∃ i : Nat, ∃ z : Nat, ∃ (Aou : Option Addr) (cou : Nat), gk = m - i ∧ i ≤ m ∧ Hid (n + (textL (l.take i)).length = z) ∧ z ≤ n + 4 * i ∧ s9 = .int .i64 (i : Int) ∧ s0 = .slice Aou z cou ∧ wr.ownsRow (lo) 5 1 (.slice Aou (z) cou) (z) ((b ++ textL (l.take i) : List UInt8).map u8v) ∧ Below lo w wr)
  case atStart => exact ⟨0, n, B, d, Nat.sub_zero _, Nat.zero_le _, Lib.hid rfl, by omega, rfl, rfl, own_to sbw rfl (by simp [textL]), bel⟩
  case round =>
    clear sb bel
    obtain ⟨i, z, Aou, cou, HGK, hi, HZ, hz, rfl, rfl, ouw, bel⟩ := hrel
    have HGK_ := Lib.hid HGK
    clear HGK
    have ou := (own_sl ouw).1
    have fr_ou := (own_sl ouw).2
    have lz_ou := (Nat.le_trans hlo bel.size)
    have oulo := Nat.le_refl (lo)
    have i0 : (0 : Int) ≤ i := by omega
    by_cases h : i < m
    rotate_left
    · obtain rfl : i = m := by omega
      have HT : Hid (l.take i = l) := Lib.hid (by rw [← HL.out, List.take_length])
      replace h : decide (i < i) = false := decide_eq_false (by omega)
      go_wp2_with fail
      go_ret
      exact ⟨_, rfl, own_to ouw (by rw [← HZ.out, HT.out]) (by rw [HT.out]), bel⟩
    obtain ⟨cx, HC_⟩ : ∃ u_, l[i]? = some u_ := ⟨_, List.getElem?_eq_getElem (by rw [HL.out]; exact h)⟩
    have HC := Lib.hid HC_
    clear HC_
    obtain ⟨x, HX_⟩ : ∃ u_, (cx.toNat : Int) = u_ := ⟨_, rfl⟩
    have HX := Lib.hid HX_
    clear HX_
    have x0 : 0 ≤ x := by have h_ := HX.out; omega
    have x1 : x < 256 := by have h_ := HX.out; have h1_ := cx.toNat_lt; omega
    have R14_ := fun W => st_index HC.out W
    rw [HX.out] at R14_
    have R14 := R14_
    clear R14_
    rcases (by decide : ∀ b : Bool, b = true ∨ b = false) (plainB cx) with hp | hp
    · have HPL := Lib.hid hp
      have HP : Hid (escB cx = [cx]) := Lib.hid (by unfold escB; rw [if_pos HPL.out])
      clear hp
      have R14 := R14
      go_wp2_with fail
      clear R14
      with_reducible refine (nplain_x cx x _ HX.out).mono ?_
      rintro e _ ⟨rfl, rfl⟩
      rw [HPL.out]
      go_wp2_with (first | ((with_reducible show wpList _ _ _ (⟨some 19, _, _, _, _, _⟩ :: _) _ _); refine wpList_lit_n rfl 27 5 1 _ rfl #[.int .u8 x] (.int .u8 0) Tryd.underlying27 (by kernel_rfl) 1 (by kernel_rfl) (by decide) (by kernel_rfl) ?_; intro g19 w1 ge lt hh bb; have hl : w1.heap[g19]? = some (.cells (([cx] : List UInt8).map u8v).toArray 5 (0, 0)) := (by simpa [u8v, HX.out] using hh); have ytw := own_lit (B := wr.heap.size) ([cx]) hl ge 1 rfl (by simp [maxLen]); have yt := (own_sl ytw).1; have ytlo := (Nat.le_trans hlo bel.size); clear hl; have ytge := ge; have lz_yt := bb.size; have bl_ou_yt := ou.bl_new; have av_ou_b19 := ou.av_new ge; have of_ou_b19 := own_new ouw ge; have ob19 := Nat.le_trans (Nat.le_trans hlo bel.size) ge; replace ou := ou.below bb; replace ouw := own_under ouw bb; replace lz_ou := Nat.le_trans lz_ou bb.size; replace bel := bel.trans (bb.mono (Nat.le_trans hlo bel.size)); have hb19 := hh; clear hh lt ge bb) | ((with_reducible show wpList _ _ _ (⟨some 20, _, _, _, _, _⟩ :: _) _ _); refine wpList_append_bg _ rfl (.tmp 17) (.tmp 19) 27 rfl (lo) 5 ii (.int .u8 0) Tryd.underlying27 hii hz0 hz1 hz2 rfl _ (z) (b ++ textL (l.take i)) rfl ouw (some ⟨g19, 0, none⟩) (1) (1) ([cx]) rfl yt (by omega) lz_ou ?_; intro v20 w2 own_ bb gw ofw; have of20_b19 := ofw _ (hlt hb19) of_ou_b19; clear ofw; clear yt ytw lz_yt; replace hb19 := blk_own hb19 gw of_ou_b19; clear gw; replace bel := bel.trans (bb.mono oulo); have lz_ou1 := Nat.le_trans lz_ou bb.size; clear bb; clear ou ouw lz_ou; replace own_ : w2.ownsRow (lo) 5 1 v20 (z + 1) ((b ++ textL (l.take i) ++ [cx] : List UInt8).map u8v) := own_; obtain ⟨A20, c20, rfl⟩ := own_val own_; have ou1w := own_; have ou1 := (own_sl own_).1; have fr_ou1 := (own_sl own_).2; clear own_; have av_ou1_b19 := own_av ou1w of20_b19))
      go_roundg (m - (i + 1))
      case measure => have := HGK_.out; omega
      case rel => exact ⟨i + 1, z + 1, A20, c20, rfl, h, Lib.hid (by rw [textL_next HC.out, List.length_append, HP.out, ← Nat.add_assoc, HZ.out]; rfl), by omega, by go_num, rfl, (own_to ou1w rfl (by rw [textL_next HC.out, HP.out]; simp)), bel⟩
    have HPL := Lib.hid hp
    have HP : Hid (escB cx = [92, dg1 cx, dg2 cx, dg3 cx]) := Lib.hid (by unfold escB; rw [if_neg (by rw [HPL.out]; decide)])
    clear hp
    have R14 := R14
    go_wp2_with fail
    clear R14
    with_reducible refine (nplain_x cx x _ HX.out).mono ?_
    rintro e _ ⟨rfl, rfl⟩
    rw [HPL.out]
    go_wp2_with (first | ((with_reducible show wpList _ _ _ (⟨some 32, _, _, _, _, _⟩ :: _) _ _); refine wpList_lit_n rfl 27 5 4 _ rfl #[.int .u8 92, .int .u8 (48 + x / 100), .int .u8 (48 + x / 10 % 10), .int .u8 (48 + x % 10)] (.int .u8 0) Tryd.underlying27 (by kernel_rfl) 1 (by kernel_rfl) (by decide) (by kernel_rfl) ?_; intro g32 w1 ge lt hh bb; have hl : w1.heap[g32]? = some (.cells (([92, dg1 cx, dg2 cx, dg3 cx] : List UInt8).map u8v).toArray 5 (0, 0)) := (by rw [show ([92, dg1 cx, dg2 cx, dg3 cx] : List UInt8).map u8v = [.int .u8 92, .int .u8 (48 + x / 100), .int .u8 (48 + x / 10 % 10), .int .u8 (48 + x % 10)] from dg_cells HX.out]; exact hh); have ytw := own_lit (B := wr.heap.size) ([92, dg1 cx, dg2 cx, dg3 cx]) hl ge 4 rfl (by simp [maxLen]); have yt := (own_sl ytw).1; have ytlo := (Nat.le_trans hlo bel.size); clear hl; have ytge := ge; have lz_yt := bb.size; have bl_ou_yt := ou.bl_new; have av_ou_b32 := ou.av_new ge; have of_ou_b32 := own_new ouw ge; have ob32 := Nat.le_trans (Nat.le_trans hlo bel.size) ge; replace ou := ou.below bb; replace ouw := own_under ouw bb; replace lz_ou := Nat.le_trans lz_ou bb.size; replace bel := bel.trans (bb.mono (Nat.le_trans hlo bel.size)); have hb32 := hh; clear hh lt ge bb) | ((with_reducible show wpList _ _ _ (⟨some 33, _, _, _, _, _⟩ :: _) _ _); refine wpList_append_bg _ rfl (.tmp 21) (.tmp 32) 27 rfl (lo) 5 ii (.int .u8 0) Tryd.underlying27 hii hz0 hz1 hz2 rfl _ (z) (b ++ textL (l.take i)) rfl ouw (some ⟨g32, 0, none⟩) (4) (4) ([92, dg1 cx, dg2 cx, dg3 cx]) rfl yt (by omega) lz_ou ?_; intro v33 w2 own_ bb gw ofw; have of33_b32 := ofw _ (hlt hb32) of_ou_b32; clear ofw; clear yt ytw lz_yt; replace hb32 := blk_own hb32 gw of_ou_b32; clear gw; replace bel := bel.trans (bb.mono oulo); have lz_ou1 := Nat.le_trans lz_ou bb.size; clear bb; clear ou ouw lz_ou; replace own_ : w2.ownsRow (lo) 5 1 v33 (z + 4) ((b ++ textL (l.take i) ++ [92, dg1 cx, dg2 cx, dg3 cx] : List UInt8).map u8v) := own_; obtain ⟨A33, c33, rfl⟩ := own_val own_; have ou1w := own_; have ou1 := (own_sl own_).1; have fr_ou1 := (own_sl own_).2; clear own_; have av_ou1_b32 := own_av ou1w of33_b32))
    go_roundg (m - (i + 1))
    case measure => have := HGK_.out; omega
    case rel => exact ⟨i + 1, z + 4, A33, c33, rfl, h, Lib.hid (by rw [textL_next HC.out, List.length_append, HP.out, ← Nat.add_assoc, HZ.out]; rfl), by omega, by go_num, rfl, (own_to ou1w rfl (by rw [textL_next HC.out, HP.out]; simp)), bel⟩
set_option linter.unusedVariables false in
set_option linter.unusedSimpArgs false in
set_option maxRecDepth 100000 in
set_option maxHeartbeats 16000000 in
theorem ntext_any (A : Option Addr) (n c : Nat) (l : List (List UInt8)) (w : World) (la : Sle stf 1 w A n c l) (hs : sizeN l ≤ 100000) : Calls Tryd.prog 15 #[.slice A n c] w fun e w' => e = .returned (.string ⟨(textN l).toArray⟩) ∧ Below w.heap.size w w' := by
  have HN := Lib.hid la.1
  have HS := Lib.hid hs
  have hb : (n : Int) ≤ 100000 := by have h_ := size_ge l; have h1_ := HN.out; omega
  have BLA := la.bl_new
  clear hs
  obtain ⟨ii, hii, hz0, hz1, hz2⟩ := info_parts Tryd.info5
  have bel := Below.refl w.heap.size w
  go_enter Tryd.func15, Tryd.ntmps15
  by_cases h0 : n = 0
  · subst h0
    obtain rfl := List.eq_nil_of_length_eq_zero HN.out
    go_wp2_with fail
    go_ret
    exact ⟨rfl, bel⟩
  have h1 : ((n : Int) == 0) = false := by simpa using h0
  have h2 : (n == 0) = false := by simpa using h0
  have HNE : Hid (l ≠ []) := Lib.hid (fun e => h0 (by have h_ := HN.out; rw [e] at h_; exact h_.symm))
  go_wp2_with fail
  go_loopg [11, 3] (n) (fun gk s11 s3 wr => ∃ i : Nat, ∃ z : Nat, ∃ (Aou : Option Addr) (cou : Nat), gk = n - i ∧ i ≤ n ∧ Hid ((textG (l.take i)).length = z) ∧ s11 = .int .i64 (i : Int) ∧ s3 = .slice Aou z cou ∧ wr.ownsRow (w.heap.size) 5 1 (.slice Aou (z) cou) (z) ((textG (l.take i) : List UInt8).map u8v) ∧ Sle stf 1 wr (A) (n) (c) (l) ∧ Below w.heap.size w wr)
  case atStart => exact ⟨0, 0, none, 0, Nat.sub_zero _, Nat.zero_le _, Lib.hid rfl, rfl, rfl, World.ownsRow_nil _ _ _ _, la, bel⟩
  case round =>
    clear la bel
    obtain ⟨i, z, Aou, cou, HGK, hi, HZ, rfl, rfl, ouw, la, bel⟩ := hrel
    have HGK_ := Lib.hid HGK
    clear HGK
    have ou := (own_sl ouw).1
    have fr_ou := (own_sl ouw).2
    have lz_ou := bel.size
    have oulo := Nat.le_refl (w.heap.size)
    have i0 : (0 : Int) ≤ i := by omega
    have hz : z ≤ 400000 := by have h_ := HZ.out; have h1_ := textG_len (l.take i); have h2_ := size_take l i; have h3_ := HS.out; omega
    by_cases h : i < n
    rotate_left
    · obtain rfl : i = n := by omega
      have HT : Hid (textG (l.take i) = textN l) := Lib.hid (by unfold textN; rw [if_neg HNE.out, take_full (by rw [HN.out]; exact h)])
      replace h : decide (i < i) = false := decide_eq_false (by omega)
      have st26 := ou.str (P := Tryd.prog) 27 5 9 Tryd.underlying27 Tryd.underlying5 Tryd.underlying9
      go_wp2_with fail
      clear st26
      go_ret
      exact ⟨by rw [← HT.out]; rfl, bel⟩
    obtain ⟨gA, oA, rfl⟩ := la.place (by omega)
    obtain ⟨x, HX_⟩ : ∃ u_, l[i]? = some u_ := ⟨_, List.getElem?_eq_getElem (by rw [HN.out]; exact h)⟩
    have HX := Lib.hid HX_
    clear HX_
    by_cases hi0 : i = 0
    · have hi1 : decide (0 < i) = false := decide_eq_false (by omega)
      have HNX : Hid (textG (l.take (i + 1)) = textG (l.take i) ++ textL x) := Lib.hid (by have h_ := HX.out; rw [hi0] at h_ ⊢; rw [textG_first h_]; rfl)
      clear hi0
      have R15 := Sle.st (i := i) la HX.out
      go_wp2_with fail
      clear R15
      with_reducible refine (nappend_any _ _ _ _ x _ ouw lz_ou (by omega) (by have h_ := size_mem (List.mem_of_getElem? HX.out); have h1_ := HS.out; omega)).mono ?_
      rintro e w1 ⟨v23, rfl, own_, bb⟩
      replace la := la.under BLA bb
      replace bel := bel.trans (bb.mono oulo)
      have lz_oux := Nat.le_trans lz_ou bb.size
      clear bb
      clear ou ouw lz_ou
      obtain ⟨A23, c23, rfl⟩ := own_val own_
      have ouxw := own_
      have oux := (own_sl own_).1
      have fr_oux := (own_sl own_).2
      clear own_
      go_wp2_with fail
      go_roundg (n - (i + 1))
      case measure => have := HGK_.out; omega
      case rel => exact ⟨i + 1, z + (textL x).length, A23, c23, rfl, h, Lib.hid (by rw [HNX.out, List.length_append, HZ.out]), by go_num, rfl, (own_to ouxw rfl HNX.out.symm), la, bel⟩
    have hi1 : (0 : Int) < i := by omega
    have hi2 : 0 < i := by omega
    have HNX : Hid (textG (l.take (i + 1)) = textG (l.take i) ++ 46 :: textL x) := Lib.hid (textG_next HX.out hi2)
    clear hi0 hi2
    have R15 := Sle.st (i := i) la HX.out
    go_wp2_with (first | ((with_reducible show wpList _ _ _ (⟨some 19, _, _, _, _, _⟩ :: _) _ _); refine wpList_lit_n rfl 27 5 1 _ rfl #[.int .u8 46] (.int .u8 0) Tryd.underlying27 (by kernel_rfl) 1 (by kernel_rfl) (by decide) (by kernel_rfl) ?_; intro g19 w1 ge lt hh bb; have hl : w1.heap[g19]? = some (.cells (([46] : List UInt8).map u8v).toArray 5 (0, 0)) := (by simpa [u8v, byteOf_val] using hh); have ytw := own_lit (B := wr.heap.size) ([46]) hl ge 1 rfl (by simp [maxLen]); have yt := (own_sl ytw).1; have ytlo := bel.size; clear hl; have ytge := ge; have lz_yt := bb.size; have bl_la_yt := la.bl_new; have bl_ou_yt := ou.bl_new; have av_la_b19 := la.av_new ge; have av_ou_b19 := ou.av_new ge; have of_ou_b19 := own_new ouw ge; have ob19 := Nat.le_trans bel.size ge; replace la := la.below bb; replace ou := ou.below bb; replace ouw := own_under ouw bb; replace lz_ou := Nat.le_trans lz_ou bb.size; replace bel := bel.trans (bb.mono bel.size); have hb19 := hh; clear hh lt ge bb) | ((with_reducible show wpList _ _ _ (⟨some 20, _, _, _, _, _⟩ :: _) _ _); refine wpList_append_bg _ rfl (.tmp 18) (.tmp 19) 27 rfl (w.heap.size) 5 ii (.int .u8 0) Tryd.underlying27 hii hz0 hz1 hz2 rfl _ (z) (textG (l.take i)) rfl ouw (some ⟨g19, 0, none⟩) (1) (1) ([46]) rfl yt (by omega) lz_ou ?_; intro v20 w2 own_ bb gw ofw; have of20_b19 := ofw _ (hlt hb19) of_ou_b19; clear ofw; replace la := la.under BLA bb; clear yt ytw lz_yt; replace hb19 := blk_own hb19 gw of_ou_b19; clear gw; replace bel := bel.trans (bb.mono oulo); have lz_ou1 := Nat.le_trans lz_ou bb.size; clear bb; clear ou ouw lz_ou; replace own_ : w2.ownsRow (w.heap.size) 5 1 v20 (z + 1) ((textG (l.take i) ++ [46] : List UInt8).map u8v) := own_; obtain ⟨A20, c20, rfl⟩ := own_val own_; have ou1w := own_; have ou1 := (own_sl own_).1; have fr_ou1 := (own_sl own_).2; clear own_; have av_ou1_b19 := own_av ou1w of20_b19))
    try clear R15
    with_reducible refine (nappend_any _ _ _ _ x _ ou1w lz_ou1 (by omega) (by have h_ := size_mem (List.mem_of_getElem? HX.out); have h1_ := HS.out; omega)).mono ?_
    rintro e w3 ⟨v23, rfl, own_, bb⟩
    clear hb19
    replace la := la.under BLA bb
    replace bel := bel.trans (bb.mono oulo)
    have lz_oux := Nat.le_trans lz_ou1 bb.size
    clear bb
    clear ou1 ou1w lz_ou1
    obtain ⟨A23, c23, rfl⟩ := own_val own_
    have ouxw := own_
    have oux := (own_sl own_).1
    have fr_oux := (own_sl own_).2
    clear own_
    go_wp2_with fail
    go_roundg (n - (i + 1))
    case measure => have := HGK_.out; omega
    case rel => exact ⟨i + 1, z + 1 + (textL x).length, A23, c23, rfl, h, Lib.hid (by rw [HNX.out, List.length_append, HZ.out, List.length_cons]; omega), by go_num, rfl, (own_to ouxw rfl (by rw [HNX.out]; simp)), la, bel⟩
set_option linter.unusedVariables false in
set_option linter.unusedSimpArgs false in
set_option maxRecDepth 100000 in
set_option maxHeartbeats 16000000 in
theorem nparse_any (l : List UInt8) (w : World) (hl : l.length ≤ 100000) : Calls Tryd.prog 28 #[.string ⟨l.toArray⟩] w fun e w' => e = .returned (.string ⟨(parseB l).toArray⟩) ∧ Below w.heap.size w w' := by
  have hb : (l.length : Int) ≤ 100000 := by omega
  obtain ⟨ii, hii, hz0, hz1, hz2⟩ := info_parts Tryd.info5
  have bel := Below.refl w.heap.size w
  go_enter Tryd.func28, Tryd.ntmps28
  go_wp2_with fail
  go_loopg [0, 3] (l.length) (fun gk s0 s3 wr => ∃ rem : List UInt8, ∃ acc : List UInt8, ∃ z : Nat, ∃ (Aou : Option Addr) (cou : Nat), gk = rem.length ∧ Hid (parseB l = acc ++ parseB rem) ∧ Hid (acc.length = z) ∧ z + rem.length ≤ l.length ∧ s0 = .string ⟨(rem).toArray⟩ ∧ s3 = .slice Aou z cou ∧ wr.ownsRow (w.heap.size) 5 1 (.slice Aou (z) cou) (z) ((acc : List UInt8).map u8v) ∧ Below w.heap.size w wr)
  case atStart => exact ⟨l, [], 0, none, 0, rfl, Lib.hid rfl, Lib.hid rfl, by omega, rfl, rfl, World.ownsRow_nil _ _ _ _, bel⟩
  case round =>
    clear bel
    obtain ⟨rem, acc, z, Aou, cou, HGK, HP, HZ, hz, rfl, rfl, ouw, bel⟩ := hrel
    have HGK_ := Lib.hid HGK
    clear HGK
    have ou := (own_sl ouw).1
    have fr_ou := (own_sl ouw).2
    have lz_ou := bel.size
    have oulo := Nat.le_refl (w.heap.size)
    rcases rem with _ | ⟨cx, r⟩
    · have HE : Hid (parseB l = acc) := Lib.hid (by rw [HP.out]; simp [parseB])
      have st38 := ou.str (P := Tryd.prog) 27 5 9 Tryd.underlying27 Tryd.underlying5 Tryd.underlying9
      go_wp2_with fail
      clear st38
      go_ret
      exact ⟨by rw [HE.out]; rfl, bel⟩
    obtain ⟨x, HX_⟩ : ∃ u_, (cx.toNat : Int) = u_ := ⟨_, rfl⟩
    have HX := Lib.hid HX_
    clear HX_
    have x0 : 0 ≤ x := by have h_ := HX.out; omega
    have x1 : x < 256 := by have h_ := HX.out; have h1_ := cx.toNat_lt; omega
    have R9 : ∀ W, (Instr.index 9 (.string ⟨(cx :: r).toArray⟩) (.int .i64 0)).run Tryd.prog W = .ok (.int .u8 x) W := fun W => by have h_ := st_index0 (l := cx :: r) (x := cx) rfl W; rw [HX.out] at h_; exact h_
    obtain ⟨k, HK_⟩ : ∃ u_, (cx :: r).length = u_ := ⟨_, rfl⟩
    have HK := Lib.hid HK_
    clear HK_
    by_cases hx : x = 92
    rotate_left
    · have hx1 : (x == 92) = false := by simpa using hx
      have HO := Lib.hid (parse_one (c := cx) (r := r) (.inl (fun e => hx (by rw [← HX.out, e]; rfl))))
      clear hx
      have R9 := R9
      go_wp2_with (first | ((with_reducible show wpList _ _ _ (⟨some 32, _, _, _, _, _⟩ :: _) _ _); refine wpList_lit_n rfl 27 5 1 _ rfl #[.int .u8 x] (.int .u8 0) Tryd.underlying27 (by kernel_rfl) 1 (by kernel_rfl) (by decide) (by kernel_rfl) ?_; intro g32 w1 ge lt hh bb; have hl : w1.heap[g32]? = some (.cells (([cx] : List UInt8).map u8v).toArray 5 (0, 0)) := (by simpa [u8v, HX.out] using hh); have ytw := own_lit (B := wr.heap.size) ([cx]) hl ge 1 rfl (by simp [maxLen]); have yt := (own_sl ytw).1; have ytlo := bel.size; clear hl; have ytge := ge; have lz_yt := bb.size; have bl_ou_yt := ou.bl_new; have av_ou_b32 := ou.av_new ge; have of_ou_b32 := own_new ouw ge; have ob32 := Nat.le_trans bel.size ge; replace ou := ou.below bb; replace ouw := own_under ouw bb; replace lz_ou := Nat.le_trans lz_ou bb.size; replace bel := bel.trans (bb.mono bel.size); have hb32 := hh; clear hh lt ge bb) | ((with_reducible show wpList _ _ _ (⟨some 33, _, _, _, _, _⟩ :: _) _ _); refine wpList_append_bg _ rfl (.tmp 30) (.tmp 32) 27 rfl (w.heap.size) 5 ii (.int .u8 0) Tryd.underlying27 hii hz0 hz1 hz2 rfl _ (z) (acc) rfl ouw (some ⟨g32, 0, none⟩) (1) (1) ([cx]) rfl yt (by omega) lz_ou ?_; intro v33 w2 own_ bb gw ofw; have of33_b32 := ofw _ (hlt hb32) of_ou_b32; clear ofw; clear yt ytw lz_yt; replace hb32 := blk_own hb32 gw of_ou_b32; clear gw; replace bel := bel.trans (bb.mono oulo); have lz_ou1 := Nat.le_trans lz_ou bb.size; clear bb; clear ou ouw lz_ou; replace own_ : w2.ownsRow (w.heap.size) 5 1 v33 (z + 1) ((acc ++ [cx] : List UInt8).map u8v) := own_; obtain ⟨A33, c33, rfl⟩ := own_val own_; have ou1w := own_; have ou1 := (own_sl own_).1; have fr_ou1 := (own_sl own_).2; clear own_; have av_ou1_b32 := own_av ou1w of33_b32; have R36 := (fun W => st_from1 rfl W : ∀ W, (Instr.slice 9 (.string ⟨(cx :: r).toArray⟩) (some (.int .i64 1)) none none).run Tryd.prog W = .ok (.string ⟨(r).toArray⟩) W)))
      try clear R9
      try clear R36
      go_roundg ((r).length)
      case measure => have := HGK_.out; simp only [List.length_cons] at this; omega
      case rel => exact ⟨r, acc ++ [cx], z + 1, A33, c33, rfl, Lib.hid (by rw [HP.out, HO.out]; simp), Lib.hid (by rw [List.length_append, HZ.out]; rfl), by simp only [List.length_cons] at hz; omega, rfl, rfl, (own_to ou1w rfl rfl), bel⟩
    by_cases h4 : 4 ≤ k
    rotate_left
    · have h5 : decide ((4 : Int) ≤ k) = false := decide_eq_false (by omega)
      have HO := Lib.hid (parse_one (c := cx) (r := r) (.inr (by have h_ := HK.out; simp only [List.length_cons] at h_; omega)))
      subst hx
      clear h4
      have R9 := R9
      have R14 := fun W => st_lenN HK.out 3 W
      go_wp2_with (first | ((with_reducible show wpList _ _ _ (⟨some 32, _, _, _, _, _⟩ :: _) _ _); refine wpList_lit_n rfl 27 5 1 _ rfl #[.int .u8 92] (.int .u8 0) Tryd.underlying27 (by kernel_rfl) 1 (by kernel_rfl) (by decide) (by kernel_rfl) ?_; intro g32 w1 ge lt hh bb; have hl : w1.heap[g32]? = some (.cells (([cx] : List UInt8).map u8v).toArray 5 (0, 0)) := (by simpa [u8v, HX.out] using hh); have ytw := own_lit (B := wr.heap.size) ([cx]) hl ge 1 rfl (by simp [maxLen]); have yt := (own_sl ytw).1; have ytlo := bel.size; clear hl; have ytge := ge; have lz_yt := bb.size; have bl_ou_yt := ou.bl_new; have av_ou_b32 := ou.av_new ge; have of_ou_b32 := own_new ouw ge; have ob32 := Nat.le_trans bel.size ge; replace ou := ou.below bb; replace ouw := own_under ouw bb; replace lz_ou := Nat.le_trans lz_ou bb.size; replace bel := bel.trans (bb.mono bel.size); have hb32 := hh; clear hh lt ge bb) | ((with_reducible show wpList _ _ _ (⟨some 33, _, _, _, _, _⟩ :: _) _ _); refine wpList_append_bg _ rfl (.tmp 30) (.tmp 32) 27 rfl (w.heap.size) 5 ii (.int .u8 0) Tryd.underlying27 hii hz0 hz1 hz2 rfl _ (z) (acc) rfl ouw (some ⟨g32, 0, none⟩) (1) (1) ([cx]) rfl yt (by omega) lz_ou ?_; intro v33 w2 own_ bb gw ofw; have of33_b32 := ofw _ (hlt hb32) of_ou_b32; clear ofw; clear yt ytw lz_yt; replace hb32 := blk_own hb32 gw of_ou_b32; clear gw; replace bel := bel.trans (bb.mono oulo); have lz_ou1 := Nat.le_trans lz_ou bb.size; clear bb; clear ou ouw lz_ou; replace own_ : w2.ownsRow (w.heap.size) 5 1 v33 (z + 1) ((acc ++ [cx] : List UInt8).map u8v) := own_; obtain ⟨A33, c33, rfl⟩ := own_val own_; have ou1w := own_; have ou1 := (own_sl own_).1; have fr_ou1 := (own_sl own_).2; clear own_; have av_ou1_b32 := own_av ou1w of33_b32; have R36 := (fun W => st_from1 rfl W : ∀ W, (Instr.slice 9 (.string ⟨(cx :: r).toArray⟩) (some (.int .i64 1)) none none).run Tryd.prog W = .ok (.string ⟨(r).toArray⟩) W)))
      try clear R9
      try clear R14
      try clear R36
      go_roundg ((r).length)
      case measure => have := HGK_.out; simp only [List.length_cons] at this; omega
      case rel => exact ⟨r, acc ++ [cx], z + 1, A33, c33, rfl, Lib.hid (by rw [HP.out, HO.out]; simp), Lib.hid (by rw [List.length_append, HZ.out]; rfl), by simp only [List.length_cons] at hz; omega, rfl, rfl, (own_to ou1w rfl rfl), bel⟩
    obtain rfl : cx = 92 := UInt8.toNat_inj.1 (by have h_ := HX.out; rw [hx] at h_; have h1_ : (92 : UInt8).toNat = 92 := rfl; omega)
    obtain ⟨a, b, d, r2, hr⟩ : ∃ a b d r2, r = a :: b :: d :: r2 := by
      have h_ := HK.out
      rcases r with _ | ⟨a, _ | ⟨b, _ | ⟨d, r2⟩⟩⟩
      · simp at h_; omega
      · simp at h_; omega
      · simp at h_; omega
      · exact ⟨a, b, d, r2, rfl⟩
    subst hr
    rename List UInt8 => r
    have h5 : (4 : Int) ≤ k := by omega
    subst hx
    have HZN : Hid (z + 1 + r.length ≤ l.length) := Lib.hid (by simp only [List.length_cons] at hz; omega)
    obtain ⟨xa, HA_⟩ : ∃ u_, (a.toNat : Int) = u_ := ⟨_, rfl⟩
    have HA := Lib.hid HA_
    clear HA_
    obtain ⟨xb, HB_⟩ : ∃ u_, (b.toNat : Int) = u_ := ⟨_, rfl⟩
    have HB := Lib.hid HB_
    clear HB_
    obtain ⟨xd, HD_⟩ : ∃ u_, (d.toNat : Int) = u_ := ⟨_, rfl⟩
    have HD := Lib.hid HD_
    clear HD_
    have R18 : ∀ W, (Instr.index 9 (.string ⟨((92 : UInt8) :: a :: b :: d :: r).toArray⟩) (.int .i64 1)).run Tryd.prog W = .ok (.int .u8 xa) W := fun W => by have h_ := st_index (l := 92 :: a :: b :: d :: r) (i := 1) (x := a) rfl W; rw [HA.out] at h_; exact h_
    have R22 : ∀ W, (Instr.index 9 (.string ⟨((92 : UInt8) :: a :: b :: d :: r).toArray⟩) (.int .i64 2)).run Tryd.prog W = .ok (.int .u8 xb) W := fun W => by have h_ := st_index (l := 92 :: a :: b :: d :: r) (i := 2) (x := b) rfl W; rw [HB.out] at h_; exact h_
    have R27 : ∀ W, (Instr.index 9 (.string ⟨((92 : UInt8) :: a :: b :: d :: r).toArray⟩) (.int .i64 3)).run Tryd.prog W = .ok (.int .u8 xd) W := fun W => by have h_ := st_index (l := 92 :: a :: b :: d :: r) (i := 3) (x := d) rfl W; rw [HD.out] at h_; exact h_
    obtain ⟨s1, hs1⟩ : ∃ s_, IntKind.u8.wrap (xa - 48) = s_ := ⟨_, rfl⟩
    obtain ⟨s2, hs2⟩ : ∃ s_, IntKind.u8.wrap (100 * s1) = s_ := ⟨_, rfl⟩
    obtain ⟨s3, hs3⟩ : ∃ s_, IntKind.u8.wrap (xb - 48) = s_ := ⟨_, rfl⟩
    obtain ⟨s4, hs4⟩ : ∃ s_, IntKind.u8.wrap (10 * s3) = s_ := ⟨_, rfl⟩
    obtain ⟨s5, hs5⟩ : ∃ s_, IntKind.u8.wrap (s2 + s4) = s_ := ⟨_, rfl⟩
    obtain ⟨s6, hs6⟩ : ∃ s_, IntKind.u8.wrap (s5 + xd) = s_ := ⟨_, rfl⟩
    obtain ⟨s7, hs7⟩ : ∃ s_, IntKind.u8.wrap (s6 - 48) = s_ := ⟨_, rfl⟩
    have HU : Hid (((unesc a b d).toNat : Int) = s7) := Lib.hid (by unfold unesc; rw [byteOf_val, HA.out, HB.out, HD.out, ← hs7, ← hs6, ← hs5, ← hs4, ← hs3, ← hs2, ← hs1]; simp only [IntKind.wrap_u8]; omega)
    skip
    have R9 := R9
    have R14 := fun W => st_lenN HK.out 3 W
    go_wp2_with fail
    clear R9 R14
    replace bel := bel.drew
    replace ou := ou.drew
    replace ouw : wr.drew.ownsRow _ _ _ _ _ _ := ouw
    replace lz_ou : _ ≤ wr.drew.heap.size := lz_ou
    refine wp_region_held_drew (S := fun _ => True) (by kernel_rfl) trivial (fun hH => ?_)
    generalize wr.drew = w1 at bel ou ouw lz_ou hH ⊢
    refine wpAnyH_take (i := 0) (v := ?_) rfl (by kernel_rfl) (by kernel_rfl) (by kernel_rfl) (fun _ _ _ h => h) (Or.inl ⟨by rfl, ?_⟩) hH ?_
    rotate_left
    · ((intro W hW; clear hW; go_simp) <;> with_reducible rfl)
    simp only [Act.put, List.getElem_toArray, List.getElem_cons_zero, List.setIfInBounds_toArray, List.set_cons_zero, List.set_cons_succ]
    refine wpAnyH_take (i := 1) (v := ?_) rfl (by kernel_rfl) (by kernel_rfl) (by kernel_rfl) (fun _ _ _ h => h) (Or.inl ⟨by rfl, ?_⟩) hH ?_
    rotate_left
    · ((intro W hW; clear hW; go_simp) <;> with_reducible rfl)
    simp only [Act.put, List.getElem_toArray, List.getElem_cons_zero, List.getElem_cons_succ, List.setIfInBounds_toArray, List.set_cons_zero, List.set_cons_succ]
    refine wpAnyH_take (i := 2) (v := ?_) rfl (by kernel_rfl) (by kernel_rfl) (by kernel_rfl) (fun _ _ _ h => h) (Or.inl ⟨by rfl, ?_⟩) hH ?_
    rotate_left
    · ((intro W hW; clear hW; go_simp) <;> with_reducible rfl)
    simp only [Act.put, List.getElem_toArray, List.getElem_cons_zero, List.getElem_cons_succ, List.setIfInBounds_toArray, List.set_cons_zero, List.set_cons_succ]
    refine wpAnyH_take (i := 3) (v := ?_) rfl (by kernel_rfl) (by kernel_rfl) (by kernel_rfl) (fun _ _ _ h => h) (Or.inl ⟨by rfl, ?_⟩) hH ?_
    rotate_left
    · ((intro W hW; clear hW; go_simp) <;> with_reducible rfl)
    simp only [Act.put, List.getElem_toArray, List.getElem_cons_zero, List.getElem_cons_succ, List.setIfInBounds_toArray, List.set_cons_zero, List.set_cons_succ]
    refine wpAnyH_take (i := 4) (v := ?_) rfl (by kernel_rfl) (by kernel_rfl) (by kernel_rfl) (fun _ _ _ h => h) (Or.inl ⟨by rfl, ?_⟩) hH ?_
    rotate_left
    · ((intro W hW; clear hW; go_simp) <;> with_reducible rfl)
    simp only [Act.put, List.getElem_toArray, List.getElem_cons_zero, List.getElem_cons_succ, List.setIfInBounds_toArray, List.set_cons_zero, List.set_cons_succ]
    refine wpAnyH_take (i := 5) (v := ?_) rfl (by kernel_rfl) (by kernel_rfl) (by kernel_rfl) (fun _ _ _ h => h) (Or.inl ⟨by rfl, ?_⟩) hH ?_
    rotate_left
    · ((intro W hW; clear hW; go_simp) <;> with_reducible rfl)
    simp only [Act.put, List.getElem_toArray, List.getElem_cons_zero, List.getElem_cons_succ, List.setIfInBounds_toArray, List.set_cons_zero, List.set_cons_succ]
    refine wpAnyH_take (i := 6) (v := ?_) rfl (by kernel_rfl) (by kernel_rfl) (by kernel_rfl) (fun _ _ _ h => h) (Or.inl ⟨by rfl, ?_⟩) hH ?_
    rotate_left
    · ((intro W hW; clear hW; go_simp) <;> with_reducible rfl)
    simp only [Act.put, List.getElem_toArray, List.getElem_cons_zero, List.getElem_cons_succ, List.setIfInBounds_toArray, List.set_cons_zero, List.set_cons_succ]
    refine wpAnyH_take (i := 7) (v := ?_) rfl (by kernel_rfl) (by kernel_rfl) (by kernel_rfl) (fun _ _ _ h => h) (Or.inl ⟨by rfl, ?_⟩) hH ?_
    rotate_left
    · ((intro W hW; clear hW; go_simp) <;> with_reducible rfl)
    simp only [Act.put, List.getElem_toArray, List.getElem_cons_zero, List.getElem_cons_succ, List.setIfInBounds_toArray, List.set_cons_zero, List.set_cons_succ]
    refine wpAnyH_take (i := 8) (v := ?_) rfl (by kernel_rfl) (by kernel_rfl) (by kernel_rfl) (fun _ _ _ h => h) (Or.inl ⟨by rfl, ?_⟩) hH ?_
    rotate_left
    · ((intro W hW; clear hW; go_simp) <;> with_reducible rfl)
    simp only [Act.put, List.getElem_toArray, List.getElem_cons_zero, List.getElem_cons_succ, List.setIfInBounds_toArray, List.set_cons_zero, List.set_cons_succ]
    refine wpAnyH_take (i := 9) (v := ?_) rfl (by kernel_rfl) (by kernel_rfl) (by kernel_rfl) (fun _ _ _ h => h) (Or.inl ⟨by rfl, ?_⟩) hH ?_
    rotate_left
    · ((intro W hW; clear hW; go_simp) <;> with_reducible rfl)
    simp only [Act.put, List.getElem_toArray, List.getElem_cons_zero, List.getElem_cons_succ, List.setIfInBounds_toArray, List.set_cons_zero, List.set_cons_succ]
    refine wpAnyH_take (i := 10) (v := ?_) rfl (by kernel_rfl) (by kernel_rfl) (by kernel_rfl) (fun _ _ _ h => h) (Or.inl ⟨by rfl, ?_⟩) hH ?_
    rotate_left
    · ((intro W hW; clear hW; go_simp) <;> with_reducible rfl)
    simp only [Act.put, List.getElem_toArray, List.getElem_cons_zero, List.getElem_cons_succ, List.setIfInBounds_toArray, List.set_cons_zero, List.set_cons_succ]
    refine wpAnyH_take (i := 11) (v := ?_) rfl (by kernel_rfl) (by kernel_rfl) (by kernel_rfl) (fun _ _ _ h => h) (Or.inl ⟨by rfl, ?_⟩) hH ?_
    rotate_left
    · ((intro W hW; clear hW; go_simp) <;> with_reducible rfl)
    simp only [Act.put, List.getElem_toArray, List.getElem_cons_zero, List.getElem_cons_succ, List.setIfInBounds_toArray, List.set_cons_zero, List.set_cons_succ]
    refine wpAnyH_take (i := 12) (v := ?_) rfl (by kernel_rfl) (by kernel_rfl) (by kernel_rfl) (fun _ _ _ h => h) (Or.inl ⟨by rfl, ?_⟩) hH ?_
    rotate_left
    · ((intro W hW; clear hW; go_simp) <;> with_reducible rfl)
    simp only [Act.put, List.getElem_toArray, List.getElem_cons_zero, List.getElem_cons_succ, List.setIfInBounds_toArray, List.set_cons_zero, List.set_cons_succ]
    refine wpAnyH_take (i := 13) (v := ?_) rfl (by kernel_rfl) (by kernel_rfl) (by kernel_rfl) (fun _ _ _ h => h) (Or.inl ⟨by rfl, ?_⟩) hH ?_
    rotate_left
    · ((intro W hW; clear hW; go_simp) <;> with_reducible rfl)
    simp only [Act.put, List.getElem_toArray, List.getElem_cons_zero, List.getElem_cons_succ, List.setIfInBounds_toArray, List.set_cons_zero, List.set_cons_succ]
    refine wpAnyH_take (i := 14) (v := ?_) rfl (by kernel_rfl) (by kernel_rfl) (by kernel_rfl) (fun _ _ _ h => h) (Or.inl ⟨by rfl, ?_⟩) hH ?_
    rotate_left
    · ((intro W hW; clear hW; go_simp) <;> with_reducible rfl)
    simp only [Act.put, List.getElem_toArray, List.getElem_cons_zero, List.getElem_cons_succ, List.setIfInBounds_toArray, List.set_cons_zero, List.set_cons_succ]
    refine wpAnyH_done (by kernel_rfl) ?_ _
    go_wp2_with (first | ((with_reducible show wpList _ _ _ (⟨some 32, _, _, _, _, _⟩ :: _) _ _); refine wpList_lit_n rfl 27 5 1 _ rfl #[.int .u8 s7] (.int .u8 0) Tryd.underlying27 (by kernel_rfl) 1 (by kernel_rfl) (by decide) (by kernel_rfl) ?_; intro g32 w2 ge lt hh bb; have hl : w2.heap[g32]? = some (.cells (([unesc a b d] : List UInt8).map u8v).toArray 5 (0, 0)) := (by simpa [u8v, HU.out] using hh); have ytw := own_lit (B := w1.heap.size) ([unesc a b d]) hl ge 1 rfl (by simp [maxLen]); have yt := (own_sl ytw).1; have ytlo := bel.size; clear hl; have ytge := ge; have lz_yt := bb.size; have bl_ou_yt := ou.bl_new; have av_ou_b32 := ou.av_new ge; have of_ou_b32 := own_new ouw ge; have ob32 := Nat.le_trans bel.size ge; replace ou := ou.below bb; replace ouw := own_under ouw bb; replace lz_ou := Nat.le_trans lz_ou bb.size; replace bel := bel.trans (bb.mono bel.size); have hb32 := hh; clear hh lt ge bb) | ((with_reducible show wpList _ _ _ (⟨some 33, _, _, _, _, _⟩ :: _) _ _); refine wpList_append_bg _ rfl (.tmp 30) (.tmp 32) 27 rfl (w.heap.size) 5 ii (.int .u8 0) Tryd.underlying27 hii hz0 hz1 hz2 rfl _ (z) (acc) rfl ouw (some ⟨g32, 0, none⟩) (1) (1) ([unesc a b d]) rfl yt (by omega) lz_ou ?_; intro v33 w3 own_ bb gw ofw; have of33_b32 := ofw _ (hlt hb32) of_ou_b32; clear ofw; clear yt ytw lz_yt; replace hb32 := blk_own hb32 gw of_ou_b32; clear gw; replace bel := bel.trans (bb.mono oulo); have lz_ou1 := Nat.le_trans lz_ou bb.size; clear bb; clear ou ouw lz_ou; replace own_ : w3.ownsRow (w.heap.size) 5 1 v33 (z + 1) ((acc ++ [unesc a b d] : List UInt8).map u8v) := own_; obtain ⟨A33, c33, rfl⟩ := own_val own_; have ou1w := own_; have ou1 := (own_sl own_).1; have fr_ou1 := (own_sl own_).2; clear own_; have av_ou1_b32 := own_av ou1w of33_b32; have R36 := (fun W => st_from (l := 92 :: a :: b :: d :: r) (i := 4) (by simp) W : ∀ W, (Instr.slice 9 (.string ⟨(92 :: a :: b :: d :: r).toArray⟩) (some (.int .i64 4)) none none).run Tryd.prog W = .ok (.string ⟨(r).toArray⟩) W)))
    try clear R36
    go_roundg ((r).length)
    case measure => have := HGK_.out; simp only [List.length_cons] at this; omega
    case rel => exact ⟨r, acc ++ [unesc a b d], z + 1, A33, c33, rfl, Lib.hid (by rw [HP.out, parse_esc]; simp), Lib.hid (by rw [List.length_append, HZ.out]; rfl), by exact HZN.out, by rw [st_extract]; simp, rfl, (own_to ou1w rfl rfl), bel⟩
end Go.Proofs.YtholgadifhjmgaaDoor
