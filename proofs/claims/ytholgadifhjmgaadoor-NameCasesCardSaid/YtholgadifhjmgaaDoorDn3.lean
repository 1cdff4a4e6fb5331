/- strings.Split at one byte; name's Parse. -/
import Derived.Test.YtholgadifhjmgaaDoorDn2
import Derived.Test.YtholgadifhjmgaaDoorShelf
import Derived.Lib.IndexLaws
namespace Go.Proofs.YtholgadifhjmgaaDoor
open Go.RowKit

theorem wpList_min {P : Program} {w : World} {ops : Array Oper} {rest : List Oper} {o : Oper} {a : Act} {Q : Exit → Act → World → Prop} (hgd : o.guard = none) (s x : Operand) (t tn : TypeId)
    (ho : o.op = .call { callee := .builtin .min, args := #[s, x], argTypes := #[t, tn] }) (k : IntKind) (i j m : Int) (hs : a.eval s = .int k i) (hx : a.eval x = .int k j) (hm : (if j < i then j else i) = m)
    (h : wpList P ops Q rest (a.put o.dst (.int k m)) w) : wpList P ops Q (o :: rest) a w := by
  subst hm
  refine wpList_wanted (by simp [Region.wanted, hgd]) fun K hK => ?_
  have hr : (Builtin.min_ #[t, tn] o.type #[.int k i, .int k j]).run P w = .ok (.int k (if j < i then j else i)) w := by
    simp [Builtin.min_, Builtin.min2]
  unfold Oper.wp execOp
  simp only [ho, resolve, invoke, builtin, Sem.run_bind, Sem.run_pure, Result.andThen_ok, List.map_toArray, List.map_cons, List.map_nil, hs, hx, hr]
  exact hK _ _ h
theorem run_make_st (w : World) (t : TypeId) (i : TypeInfo) (n : Nat) (ht : Tryd.prog.underlying t = some (.slice 9)) (hi : Tryd.prog.info? 9 = some i) (h0 : i.zero = some (.string ⟨#[]⟩)) (h1 : i.size = 1) (h2 : i.bytes = 16) (hn : n ≤ 200000) :
    ∃ w', (Instr.makeSlice t (.int .i64 (n : Int)) (.int .i64 (n : Int))).run Tryd.prog w = .ok (.slice (some ⟨w.heap.size, 0, none⟩) n n) w' ∧ w'.ownsRow w.heap.size 9 1 (.slice (some ⟨w.heap.size, 0, none⟩) n n) n ((List.replicate n []).flatMap stf) ∧ Below w.heap.size w w' := by
  obtain ⟨w', e, h, g⟩ := run_make_full (P := Tryd.prog) (w := w) w.heap.size t 9 i (.string ⟨#[]⟩) 1 ht hi h0 h1 .i64 .i64 n (by rw [h2]; omega) (by unfold maxLen; omega) (Nat.le_refl _)
  refine ⟨w', e, ?_, (Below.refl _ _).grown g (Nat.le_refl _) (fun k h => by cases h)⟩
  have e1 : (madeCells (Value.cells (.string ⟨#[]⟩)) (n * 1)).toList = (List.replicate n ([] : List UInt8)).flatMap stf := by
    rw [stf_flat, List.map_replicate, Nat.mul_one]
    apply List.ext_getElem
    · simp [madeCells]
    · intro i h1 h2
      simp [madeCells, Nat.mod_one, Value.cells]
  rwa [e1] at h
theorem wpList_make_st {ops : Array Oper} {rest : List Oper} {o : Oper} {a : Act} {w : World} {Q : Exit → Act → World → Prop} (hgd : o.guard = none) (l c : Operand) (t : TypeId) (ho : o.op = .makeSlice t l c) (i : TypeInfo) (ht : Tryd.prog.underlying t = some (.slice 9)) (hi : Tryd.prog.info? 9 = some i) (h0 : i.zero = some (.string ⟨#[]⟩)) (h1 : i.size = 1) (h2 : i.bytes = 16)
    (n : Nat) (L : Int) (hL : L = (n : Int)) (hl : a.eval l = .int .i64 L) (hc : a.eval c = .int .i64 L) (hn : n ≤ 200000)
    (h : ∀ g w', w'.ownsRow w.heap.size 9 1 (.slice (some ⟨g, 0, none⟩) n n) n ((List.replicate n []).flatMap stf) → Below w.heap.size w w' → wpList Tryd.prog ops Q rest (a.put o.dst (.slice (some ⟨g, 0, none⟩) n n)) w') : wpList Tryd.prog ops Q (o :: rest) a w := by
  subst hL
  obtain ⟨w', e, h3, h4⟩ := run_make_st w t i n ht hi h0 h1 h2 hn
  refine wpList_plain hgd fun K hK => ?_
  unfold Oper.wp
  simp [execOp, ho, hl, hc, e, Result.andThen]
  exact hK _ _ (h _ _ h3 h4)
theorem wp_store_st {P : Program} {o : Oper} {ac : Act} {w : World} {K : Act → World → Prop} {Q : Exit → Act → World → Prop} (ty : TypeId) (px py : Operand) (ho : o.op = .store ty px py) {B n c : Nat} {T : TypeId} {l : List (List UInt8)} (g i : Nat) (x y : List UInt8) (hp : ac.eval px = .pointer (some ⟨g, i, none⟩)) (hv : ac.eval py = .string ⟨y.toArray⟩)
    (h : w.ownsRow B T 1 (.slice (some ⟨g, 0, none⟩) n c) n (l.flatMap stf)) (hx : l[i]? = some x) (hi : (P.info? ty).map (·.size) = some 1)
    (hK : ∀ w', w'.ownsRow B T 1 (.slice (some ⟨g, 0, none⟩) n c) n ((l.set i y).flatMap stf) → w.grownBy w' (some g) → K (ac.put o.dst undef) w') : Oper.wp P o ac w K Q :=
  wp_store_el ty px py ho g i 0 x y (by rw [hp, Nat.mul_one, Nat.add_zero]) [.string ⟨y.toArray⟩] (by rw [hv]; rfl) (by decide) stf_len h hx (Nat.le_refl 1) rfl hi rfl hK
theorem wpList_store_st {P : Program} {ops : Array Oper} {rest : List Oper} {o : Oper} {ac : Act} {w : World} {Q : Exit → Act → World → Prop} (hgd : o.guard = none) (ty : TypeId) (px py : Operand) (ho : o.op = .store ty px py) {B n c : Nat} {T : TypeId} {l : List (List UInt8)} (g i : Nat) (x y : List UInt8) (hp : ac.eval px = .pointer (some ⟨g, i, none⟩)) (hv : ac.eval py = .string ⟨y.toArray⟩)
    (h : w.ownsRow B T 1 (.slice (some ⟨g, 0, none⟩) n c) n (l.flatMap stf)) (hx : l[i]? = some x) (hi : (P.info? ty).map (·.size) = some 1)
    (hK : ∀ w', w'.ownsRow B T 1 (.slice (some ⟨g, 0, none⟩) n c) n ((l.set i y).flatMap stf) → w.grownBy w' (some g) → wpList P ops Q rest (ac.put o.dst undef) w') : wpList P ops Q (o :: rest) ac w :=
  wpList_plain hgd fun _ hK' => wp_store_st ty px py ho g i x y hp hv h hx hi fun w' h1 h2 => hK' _ _ (hK w' h1 h2)
theorem idx_has {l : List UInt8} {b : UInt8} (h : 0 < l.count b) : ∃ m : Nat, Lib.indexByte l b = (m : Int) ∧ l[m]? = some b ∧ ∀ c ∈ l.take m, c ≠ b := by
  have hge := Lib.indexByte_ge l b
  rcases Classical.em (Lib.indexByte l b = -1) with h1 | h1
  · have hm := List.count_pos_iff.1 h
    obtain ⟨k, hk⟩ := List.getElem?_of_mem hm
    exact absurd hk (Lib.indexByte_none h1 k)
  · obtain ⟨m, hm⟩ : ∃ m : Nat, Lib.indexByte l b = (m : Int) := ⟨(Lib.indexByte l b).toNat, by omega⟩
    obtain ⟨h2, h3⟩ := Lib.indexByte_some hm
    refine ⟨m, hm, h2, fun c hc e => ?_⟩
    subst e
    obtain ⟨k, hk⟩ := List.getElem?_of_mem hc
    rw [List.getElem?_take] at hk
    split at hk
    · exact h3 k (by assumption) hk
    · cases hk
theorem at_cut {l : List UInt8} {m : Nat} {b : UInt8} (h : l[m]? = some b) : l = l.take m ++ b :: l.drop (m + 1) := by
  obtain ⟨hm, hx⟩ := List.getElem?_eq_some_iff.1 h
  rw [← hx, ← List.drop_eq_getElem_cons hm, List.take_append_drop]
theorem count_cut {l : List UInt8} {m : Nat} {b : UInt8} (h : l[m]? = some b) (hf : ∀ c ∈ l.take m, c ≠ b) : l.count b = (l.drop (m + 1)).count b + 1 := by
  conv => lhs; rw [at_cut h]
  rw [List.count_append, List.count_cons_self, List.count_eq_zero.2 (fun hm => hf b hm rfl), Nat.zero_add]
theorem split_cut {l : List UInt8} {m : Nat} {b : UInt8} (h : l[m]? = some b) (hf : ∀ c ∈ l.take m, c ≠ b) : splitB b l = l.take m :: splitB b (l.drop (m + 1)) := by
  conv => lhs; rw [at_cut h]
  exact split_at hf
theorem row_next {ds : List (List UInt8)} {i q : Nat} {y : List UInt8} (h : ds.length = i) : (ds ++ List.replicate (q + 1) []).set i y = (ds ++ [y]) ++ List.replicate q [] := by
  subst h
  rw [List.set_append_right _ _ (Nat.le_refl _), Nat.sub_self, List.replicate_succ, List.set_cons_zero, List.append_assoc]
  rfl
theorem row_last {ds : List (List UInt8)} {i q : Nat} (h : ds.length = i) : (ds ++ List.replicate (q + 1) ([] : List UInt8))[i]? = some [] := by
  subst h
  rw [List.getElem?_append_right (Nat.le_refl _), Nat.sub_self, List.replicate_succ, List.getElem?_cons_zero]
theorem owk_to {w : World} {B k n n' : Nat} {T : TypeId} {v : Value} {α : Type} {f : α → List Value} {l l' : List α} (h : w.ownsRow B T k v n (l.flatMap f)) (hn : n = n') (hl : l = l') : w.ownsRow B T k v n' (l'.flatMap f) := by subst hn; subst hl; exact h
theorem st_whole (g n : Nat) (W : World) : (Instr.slice 23 (.slice (some ⟨g, 0, none⟩) n n) none (some (.int .i64 (n : Int))) none).run Tryd.prog W = .ok (.slice (some ⟨g, 0, none⟩) n n) W := by
  have hz : ∀ w, (Go.sizeOf 9).run Tryd.prog w = .ok 1 w := fun w => by kernel_rfl
  rw [run_slice_h W 23 (some ⟨g, 0, none⟩) n n (show Tryd.prog.underlying 23 = some (.slice (Tryd.prog.elem 23)) by kernel_rfl) .i64 _ (by omega) (by omega), show Tryd.prog.elem 23 = 9 by kernel_rfl, hz]
  simp [Result.andThen, sliced, Addr.add]

theorem scount_any (l : List UInt8) (w : World) : Calls Tryd.prog 46 #[.string ⟨l.toArray⟩, .string ⟨#[46]⟩] w fun e w' => e = .returned (.int .i64 ((l.count 46 : Nat) : Int)) ∧ w = w' := (Tryd.strings_Count_one ⟨l.toArray⟩ 46 w).mono fun _ _ h => ⟨h.1, h.2.symm⟩
theorem sindex_any (l : List UInt8) (w : World) : Calls Tryd.prog 47 #[.string ⟨l.toArray⟩, .string ⟨#[46]⟩] w fun e w' => e = .returned (.int .i64 (Lib.indexByte l 46)) ∧ w = w' := (Tryd.strings_Index_one ⟨l.toArray⟩ 46 w).mono fun _ _ h => ⟨h.1, h.2.symm⟩
set_option linter.unusedVariables false in
set_option linter.unusedSimpArgs false in
set_option maxRecDepth 100000 in
set_option maxHeartbeats 16000000 in
theorem gsplit_any (l : List UInt8) (w : World) (hl : l.length ≤ 100000) : Calls Tryd.prog 39 #[.string ⟨l.toArray⟩, .string ⟨#[46]⟩, .int .i64 0, .int .i64 (-1)] w fun e w' => ∃ v, e = .returned v ∧ w'.ownsRow w.heap.size 9 1 v (splitB 46 l).length ((splitB 46 l).flatMap stf) ∧ Below w.heap.size w w' := by
  obtain ⟨cnt, HCN_⟩ : ∃ u_, l.count 46 = u_ := ⟨_, rfl⟩
  have HCN := Lib.hid HCN_
  clear HCN_
  have hcn : cnt ≤ l.length := by have h_ := List.count_le_length (a := (46 : UInt8)) (l := l); have h1_ := HCN.out; omega
  have hb : (l.length : Int) ≤ 100000 := by omega
  obtain ⟨is, his, his0, his1, his2⟩ := info_parts Tryd.info_str
  have bel := Below.refl w.heap.size w
  go_enter Tryd.func39, Tryd.ntmps39
  go_wp2_with fail
  with_reducible refine (scount_any l _).mono ?_
  rintro e _ ⟨rfl, rfl⟩
  rw [HCN.out]
  have R27 := fun W => st_len l 3 W
  go_wp2_with (first | ((with_reducible show wpList _ _ _ (⟨some 29, _, _, _, _, _⟩ :: _) _ _); refine wpList_min rfl (.tmp 25) (.tmp 28) 3 3 rfl .i64 ((cnt : Int) + 1) ((l.length : Int) + 1) ((cnt + 1 : Nat) : Int) rfl rfl (by rw [if_neg (by omega)]; rfl) ?_) | ((with_reducible show wpList _ _ _ (⟨some 31, _, _, _, _, _⟩ :: _) _ _); refine wpList_make_st rfl (.tmp 30) (.tmp 30) 23 rfl is Tryd.underlying23 his his0 his1 his2 (cnt + 1) _ rfl rfl rfl (by omega) ?_; intro g31 w1 own bb; replace bel := bel.trans (bb.mono bel.size); clear bb))
  try clear R27
  go_loopg [0, 10] (cnt) (fun gk s0 s10 wr => ∃ rem : List UInt8, ∃ ds : List (List UInt8), ∃ i : Nat, ∃ q : Nat, gk = q ∧ Hid (ds.length = i) ∧ Hid (splitB 46 l = ds ++ splitB 46 rem) ∧ Hid (rem.count 46 = q) ∧ i + q = cnt ∧ rem.length ≤ l.length ∧ wr.ownsRow w.heap.size 9 1 (.slice (some ⟨g31, 0, none⟩) (cnt + 1) (cnt + 1)) (cnt + 1) ((ds ++ List.replicate (q + 1) []).flatMap stf) ∧ s0 = .string ⟨(rem).toArray⟩ ∧ s10 = .int .i64 (i : Int) ∧ Below w.heap.size w wr)
  case atStart => exact ⟨l, [], 0, cnt, rfl, Lib.hid rfl, Lib.hid rfl, HCN, Nat.zero_add _, Nat.le_refl _, own, rfl, rfl, bel⟩
  case round =>
    clear own bel
    obtain ⟨rem, ds, i, q, HGK, HD, HP, HC, hiq, hrl, own, rfl, rfl, bel⟩ := hrel
    have HGK_ := Lib.hid HGK
    clear HGK
    have i0 : (0 : Int) ≤ i := by omega
    have hiq2 : i < cnt + 1 := by omega
    by_cases h : i < cnt
    rotate_left
    · obtain rfl : q = 0 := by omega
      obtain rfl : i = cnt := by omega
      have HS : Hid (splitB 46 l = ds ++ [rem]) := Lib.hid (by rw [HP.out, split_free (fun c hc e => by subst e; have h_ := List.count_pos_iff.2 hc; have h1_ := HC.out; omega)])
      have R65 : ∀ W, (Instr.slice 23 (.slice (some ⟨g31, 0, none⟩) (i + 1) (i + 1)) none (some (.int .i64 ((i : Int) + 1))) none).run Tryd.prog W = .ok (.slice (some ⟨g31, 0, none⟩) (i + 1) (i + 1)) W := fun W => st_whole g31 (i + 1) W
      replace h : decide (i < i) = false := decide_eq_false (by omega)
      go_wp2_with (first | ((with_reducible show wpList _ _ _ (⟨none, Op.store _ (.tmp 61) _, _, _, _, _⟩ :: _) _ _); refine wpList_store_st rfl 9 (.tmp 61) (.tmp 60) rfl g31 (i) ([]) (rem) rfl rfl own (row_last HD.out) (by kernel_rfl) ?_; intro w2 own_ gw; replace bel := bel.trans (row_bel gw own bel.size); clear own gw; have own := own_; clear own_))
      go_ret
      exact ⟨_, rfl, owk_to own (by rw [HS.out, List.length_append, HD.out]; rfl) (by rw [HS.out, row_next HD.out]; simp), bel⟩
    obtain ⟨q2, hq2⟩ : ∃ q2, q = q2 + 1 := ⟨q - 1, by omega⟩
    subst hq2
    obtain ⟨m, hm, hm1, hm2⟩ := idx_has (l := rem) (b := 46) (by rw [HC.out]; omega)
    have HM := Lib.hid hm
    have HM1 := Lib.hid hm1
    have HM2 := Lib.hid hm2
    have hml : m < rem.length := (List.getElem?_eq_some_iff.1 hm1).1
    have hm0 : (m : Int) ≤ 100000 := by omega
    clear hm hm1 hm2
    have R48 := fun W => st_to (l := rem) (j := m) (by omega) W
    have R55 : ∀ W, (Instr.slice 9 (.string ⟨rem.toArray⟩) (some (.int .i64 ((m : Int) + 1))) none none).run Tryd.prog W = .ok (.string ⟨(rem.drop (m + 1)).toArray⟩) W := fun W => st_from (l := rem) (i := m + 1) (by omega) W
    have R53 : ∀ W, (Builtin.len_ #[9] 3 #[.string ⟨#[46]⟩]).run Tryd.prog W = .ok (.int .i64 1) W := fun W => st_len [46] _ W
    go_wp2_with fail
    with_reducible refine (sindex_any rem _).mono ?_
    rintro e _ ⟨rfl, rfl⟩
    rw [HM.out]
    go_wp2_with (first | ((with_reducible show wpList _ _ _ (⟨none, Op.store _ (.tmp 49) _, _, _, _, _⟩ :: _) _ _); refine wpList_store_st rfl 9 (.tmp 49) (.tmp 48) rfl g31 (i) ([]) (rem.take m) rfl rfl own (row_last HD.out) (by kernel_rfl) ?_; intro w2 own_ gw; replace bel := bel.trans (row_bel gw own bel.size); clear own gw; have own := own_; clear own_))
    go_roundg (q2)
    case measure => have := HGK_.out; omega
    case rel => exact ⟨rem.drop (m + 1), ds ++ [rem.take m], i + 1, q2, rfl, Lib.hid (by rw [List.length_append, HD.out]; rfl), Lib.hid (by rw [HP.out, split_cut HM1.out HM2.out]; simp), Lib.hid (by have h_ := count_cut HM1.out HM2.out; have h1_ := HC.out; omega), by omega, by rw [List.length_drop]; omega, (owk_to own rfl (row_next HD.out)), by go_num, by go_num, bel⟩
set_option linter.unusedVariables false in
set_option linter.unusedSimpArgs false in
set_option maxRecDepth 100000 in
set_option maxHeartbeats 16000000 in
theorem split_any (l : List UInt8) (w : World) (hl : l.length ≤ 100000) : Calls Tryd.prog 27 #[.string ⟨l.toArray⟩, .string ⟨#[46]⟩] w fun e w' => ∃ v, e = .returned v ∧ w'.ownsRow w.heap.size 9 1 v (splitB 46 l).length ((splitB 46 l).flatMap stf) ∧ Below w.heap.size w w' := by
  skip
  have bel := Below.refl w.heap.size w
  go_enter Tryd.func27, Tryd.ntmps27
  go_wp2_with fail
  with_reducible refine (gsplit_any l _ hl).mono ?_
  rintro e w1 ⟨v7_, rfl, own, b1⟩
  replace bel := bel.trans (b1.mono bel.size)
  clear b1
  go_wp2_with fail
  go_ret
  exact ⟨_, rfl, own, bel⟩
def parseR (s : List UInt8) : List (List UInt8) × Int := match parseS s with
  | some l => (l, 0)
  | none => ([], 9)
theorem parseR_yes {s : List UInt8} {l : List (List UInt8)} (h : parseS s = some l) : parseR s = (l, 0) := by unfold parseR; rw [h]
theorem parseR_no {s : List UInt8} (h : parseS s = none) : parseR s = ([], 9) := by unfold parseR; rw [h]
theorem owk_at {w : World} {B k : Nat} {T : TypeId} {v : Value} {n : Nat} {xs : List Value} (h : w.ownsRow B T k v n xs) (hn : 0 < n) : ∃ g c, v = .slice (some ⟨g, 0, none⟩) n c ∧ n ≤ c := by
  rcases h.2 with ⟨_, rfl⟩ | ⟨g, cap, cur, rfl, hb, hh, hnc, hm, _⟩
  · omega
  · exact ⟨g, cap, rfl, hnc⟩
theorem parts_at {L : List (List UInt8)} {i : Nat} {x : List UInt8} {f : List UInt8 → List UInt8} (h : L[i]? = some x) : ((L.take i).map f ++ L.drop i)[i]? = some x := by
  have hi := (List.getElem?_eq_some_iff.1 h).1
  have hl : ((L.take i).map f).length = i := by rw [List.length_map, List.length_take]; omega
  rw [List.getElem?_append_right (by omega), hl, Nat.sub_self, List.getElem?_drop, Nat.add_zero]
  exact h
theorem parts_next {L : List (List UInt8)} {i : Nat} {x : List UInt8} {f : List UInt8 → List UInt8} (h : L[i]? = some x) : ((L.take i).map f ++ L.drop i).set i (f x) = (L.take (i + 1)).map f ++ L.drop (i + 1) := by
  have hi := (List.getElem?_eq_some_iff.1 h).1
  have hl : ((L.take i).map f).length = i := by rw [List.length_map, List.length_take]; omega
  have hd : L.drop i = x :: L.drop (i + 1) := by rw [List.drop_eq_getElem_cons hi, (List.getElem?_eq_some_iff.1 h).2]
  rw [List.set_append_right _ _ (by omega), hl, Nat.sub_self, hd, List.set_cons_zero, take_next h, List.map_append, List.append_assoc]
  rfl
set_option linter.unusedVariables false in
set_option linter.unusedSimpArgs false in
set_option maxRecDepth 100000 in
set_option maxHeartbeats 16000000 in
theorem nparseN_any (s : List UInt8) (w : World) : Calls Tryd.prog 13 #[.string ⟨s.toArray⟩] w fun e w' => ∃ v, e = .returned (.tuple #[v, .int .i64 (parseR s).2]) ∧ w'.ownsRow w.heap.size 9 1 v (parseR s).1.length ((parseR s).1.flatMap stf) ∧ Below w.heap.size w w' := by
  obtain ⟨m, HM_⟩ : ∃ u_, s.length = u_ := ⟨_, rfl⟩
  have HM := Lib.hid HM_
  clear HM_
  obtain ⟨is, his, his0, his1, his2⟩ := info_parts Tryd.info_str
  have bel := Below.refl w.heap.size w
  go_enter Tryd.func13, Tryd.ntmps13
  by_cases h0 : s = [46]
  · subst h0
    have HR : Hid (parseR [46] = ([], 0)) := Lib.hid rfl
    go_wp2_with fail
    exact bodyPost_ret (v := .tuple #[.slice none 0 0, .int .i64 0]) (by simp [results, Tryd.results13, go_sem]) rfl ⟨_, by rw [HR.out], by rw [HR.out]; exact owk_nil _ _ _, bel⟩
  have h00 : (s == [46]) = false := by simpa using h0
  have HS0 := Lib.hid h0
  clear h0
  by_cases h1 : m ≤ 1020
  rotate_left
  · have h11 : (1020 : Int) < m := by omega
    have HR : Hid (parseR s = ([], 9)) := Lib.hid (parseR_no (by unfold parseS; rw [if_neg HS0.out, if_pos (by rw [HM.out]; omega)]))
    clear h1
    have R10 := fun W => st_lenN HM.out 3 W
    go_wp2_with fail
    clear R10
    exact bodyPost_ret (v := .tuple #[.slice none 0 0, .int .i64 9]) (by simp [results, Tryd.results13, go_sem]) rfl ⟨_, by rw [HR.out], by rw [HR.out]; exact owk_nil _ _ _, bel⟩
  have h11 : decide ((1020 : Int) < m) = false := decide_eq_false (by omega)
  have HS1 : Hid (¬ 1020 < s.length) := Lib.hid (by rw [HM.out]; omega)
  have hsl : s.length ≤ 1020 := by have h_ := HM.out; omega
  have R10 := fun W => st_lenN HM.out 3 W
  go_wp2_with fail
  clear R10
  with_reducible refine (split_any s _ (by omega)).mono ?_
  rintro e w1 ⟨v13_, rfl, own, b1⟩
  replace bel := bel.trans (b1.mono bel.size)
  clear b1
  have hne_ := split_ne 46 s
  obtain ⟨L, hL_⟩ : ∃ L, splitB 46 s = L := ⟨_, rfl⟩
  have HLS := Lib.hid hL_
  rw [hL_] at own hne_
  obtain ⟨n, hn_⟩ : ∃ n, L.length = n := ⟨_, rfl⟩
  have HN := Lib.hid hn_
  rw [hn_] at own
  have hn0 : 0 < n := by have h_ := List.length_pos_iff.2 hne_; omega
  obtain ⟨gR, c, rfl, hnc⟩ := owk_at own hn0
  have hn1 : n ≤ 1021 := by have h_ := split_len 46 s; have h1_ := List.count_le_length (a := (46 : UInt8)) (l := s); rw [hL_] at h_; omega
  have hnb : (n : Int) ≤ 1021 := by omega
  have HPL : Hid (∀ x ∈ L, x.length ≤ 1020) := Lib.hid (fun x hx => by have h_ := split_sum 46 s x (by rw [hL_]; exact hx); omega)
  clear hne_ hL_ hn_
  go_wp2_with fail
  go_loopg [16] (n) (fun gk s16 wr => ∃ i : Nat, gk = n - i ∧ i ≤ n ∧ wr.ownsRow w.heap.size 9 1 (.slice (some ⟨gR, 0, none⟩) n c) n (((L.take i).map parseB ++ L.drop i).flatMap stf) ∧ s16 = .int .i64 (i : Int) ∧ Below w.heap.size w wr)
  case atStart => exact ⟨0, Nat.sub_zero _, Nat.zero_le _, own, rfl, bel⟩
  case round =>
    clear own bel
    obtain ⟨i, HGK, hi, own, rfl, bel⟩ := hrel
    have HGK_ := Lib.hid HGK
    clear HGK
    have i0 : (0 : Int) ≤ i := by omega
    by_cases h : i < n
    · obtain ⟨x, HX_⟩ : ∃ u_, L[i]? = some u_ := ⟨_, List.getElem?_eq_getElem (by rw [HN.out]; exact h)⟩
      have HX := Lib.hid HX_
      clear HX_
      have R20_ := HX
      have R20 := (by have h_ := Sle.st (i := i) (owk_sle (by decide) stf_len own).1 (parts_at (f := parseB) HX.out); rw [Nat.zero_add] at h_; exact h_)
      go_wp2_with fail
      clear R20
      with_reducible refine (nparse_any x _ (by have h_ := HPL.out x (List.mem_of_getElem? HX.out); omega)).mono ?_
      rintro e w2 ⟨rfl, b2⟩
      replace own := owk_under own b2
      replace bel := bel.trans (b2.mono bel.size)
      clear b2
      go_wp2_with (first | ((with_reducible show wpList _ _ _ (⟨none, Op.store _ (.tmp 25) _, _, _, _, _⟩ :: _) _ _); refine wpList_store_st rfl 9 (.tmp 25) (.tmp 24) rfl gR (i) (x) (parseB x) rfl rfl own (parts_at HX.out) (by kernel_rfl) ?_; intro w3 own_ gw; replace bel := bel.trans (row_bel gw own bel.size); clear own gw; have own := own_; clear own_))
      go_roundg (n - (i + 1))
      case measure => have := HGK_.out; omega
      case rel => exact ⟨i + 1, rfl, h, (owk_to own rfl (parts_next HX.out)), by go_num, bel⟩
    obtain rfl : i = n := by omega
    replace own := owk_to (l' := L.map parseB) own rfl (by rw [take_full (by rw [HN.out]; exact h), List.drop_eq_nil_of_le (by rw [HN.out]; exact Nat.le_refl _), List.append_nil])
    replace h : decide (i < i) = false := decide_eq_false (by omega)
    have HQ : Hid (parseS s = if goodN (L.map parseB) = true ∧ textN (L.map parseB) = s then some (L.map parseB) else none) := Lib.hid (by unfold parseS; rw [if_neg HS0.out, if_neg HS1.out, HLS.out])
    rcases hg : goodN (L.map parseB) with _ | _
    · have HG := Lib.hid hg
      have HR : Hid (parseR s = ([], 9)) := Lib.hid (parseR_no (by rw [HQ.out, if_neg (fun h_ => by rw [HG.out] at h_; exact Bool.noConfusion h_.1)]))
      clear hg
      go_wp2_with fail
      with_reducible refine (ngood_any _ _ _ (L.map parseB) _ (owk_sle (by decide) stf_len own).1 (by omega)).mono ?_
      rintro e _ ⟨rfl, rfl⟩
      rw [HG.out]
      go_wp2_with fail
      exact bodyPost_ret (v := .tuple #[.slice none 0 0, .int .i64 9]) (by simp [results, Tryd.results13, go_sem]) rfl ⟨_, by rw [HR.out], by rw [HR.out]; exact owk_nil _ _ _, bel⟩
    have HG := Lib.hid hg
    clear hg
    obtain ⟨T, HT_⟩ : ∃ u_, textN (L.map parseB) = u_ := ⟨_, rfl⟩
    have HT := Lib.hid HT_
    clear HT_
    go_wp2_with fail
    with_reducible refine (ngood_any _ _ _ (L.map parseB) _ (owk_sle (by decide) stf_len own).1 (by omega)).mono ?_
    rintro e _ ⟨rfl, rfl⟩
    rw [HG.out]
    by_cases hts : T = s
    rotate_left
    · have HR : Hid (parseR s = ([], 9)) := Lib.hid (parseR_no (by rw [HQ.out, if_neg (fun h_ => hts (HT.out.symm.trans h_.2))]))
      have t0 : (T == s) = false := by simpa using hts
      have t1 : (T != s) = true := by simpa using hts
      clear hts
      go_wp2_with fail
      with_reducible refine (ntext_any _ _ _ (L.map parseB) _ (owk_sle (by decide) stf_len own).1 (by have h_ := good_size HG.out; omega)).mono ?_
      rintro e w2 ⟨rfl, b2⟩
      replace own := owk_under own b2
      replace bel := bel.trans (b2.mono bel.size)
      clear b2
      rw [HT.out]
      go_wp2_with fail
      exact bodyPost_ret (v := .tuple #[.slice none 0 0, .int .i64 9]) (by simp [results, Tryd.results13, go_sem]) rfl ⟨_, by rw [HR.out], by rw [HR.out]; exact owk_nil _ _ _, bel⟩
    have HR : Hid (parseR s = (L.map parseB, 0)) := Lib.hid (parseR_yes (by rw [HQ.out, if_pos ⟨HG.out, HT.out.trans hts⟩]))
    have t0 : (T == s) = true := by simpa using hts
    have t1 : (T != s) = false := by simpa using hts
    clear hts
    go_wp2_with fail
    with_reducible refine (ntext_any _ _ _ (L.map parseB) _ (owk_sle (by decide) stf_len own).1 (by have h_ := good_size HG.out; omega)).mono ?_
    rintro e w2 ⟨rfl, b2⟩
    replace own := owk_under own b2
    replace bel := bel.trans (b2.mono bel.size)
    clear b2
    rw [HT.out]
    go_wp2_with fail
    exact bodyPost_ret (v := .tuple #[.slice (some ⟨gR, 0, none⟩) i c, .int .i64 0]) (by simp [results, Tryd.results13, go_sem]) rfl ⟨_, by rw [HR.out], by rw [HR.out]; exact owk_to own (by rw [List.length_map, HN.out]) rfl, bel⟩
end Go.Proofs.YtholgadifhjmgaaDoor
