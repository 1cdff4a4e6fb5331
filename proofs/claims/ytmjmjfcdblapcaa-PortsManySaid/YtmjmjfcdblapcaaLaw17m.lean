/- PortsMany. -/
import Derived.Test.YtmjmjfcdblapcaaLaw17
namespace Go.Proofs.Ytmjmjfcdblapcaa
open Go.RowKit

theorem atA_ne {j k : Nat} (hj : j < 256) (hk : k < 256) (h : j ≠ k) : (atA (j : Int)).eqB (atA (k : Int)) = false := Ad4.eqB_no fun e => by
  have h1 : byteOf (j : Int) = byteOf (k : Int) := congrArg Ad4.d e
  have h2 : ((byteOf (j : Int)).toNat : Int) = ((byteOf (k : Int)).toNat : Int) := by rw [h1]
  rw [byteOf_val, byteOf_val] at h2
  omega
theorem mins_mem_iff {l : List Mp} {e x : Mp} : x ∈ mins l e ↔ x = e ∨ x ∈ l := by
  constructor
  · exact mins_mem
  · intro h
    unfold mins
    rcases h with h | h
    · rw [h]; exact List.mem_append_right _ (List.mem_cons_self ..)
    · rw [← List.take_append_drop (mfpos l e.num) l] at h
      rcases List.mem_append.1 h with h1 | h1
      · exact List.mem_append_left _ h1
      · exact List.mem_append_right _ (List.mem_cons_of_mem _ h1)
theorem has_ins {l : List Mp} {m : Mp} (h : MSrt l) (hn : mfhas l m.num = false) {x : Nat} : mfhas (mins l m) x = true ↔ m.num = x ∨ mfhas l x = true := by
  rw [(h.insd hn).has_iff, h.has_iff]
  constructor
  · rintro ⟨e, he, hx⟩
    rcases mins_mem_iff.1 he with h1 | h1
    · exact .inl (h1 ▸ hx)
    · exact .inr ⟨e, h1, hx⟩
  · rintro (h1 | ⟨e, he, hx⟩)
    · exact ⟨m, mins_mem_iff.2 (.inl rfl), h1⟩
    · exact ⟨e, mins_mem_iff.2 (.inr he), hx⟩
/-- The first k hosts have their ports: the least ones up to nx, and the port itself. -/
structure MI (k : Nat) (port nx : Int) (l : List Mp) : Prop where
  len : l.length = k
  all : ∀ e ∈ l, ∃ j : Nat, j < k ∧ e.ad = atA (j : Int) ∧ e.u = 60 ∧ e.k = 1
  has : ∀ o : Int, 0 ≤ o → o ≤ 65535 → (mfhas l (kn 6 o) = true ↔ (40000 ≤ o ∧ o < nx) ∨ (o = port ∧ 40000 ≤ port ∧ 0 < k))
  n0 : 40000 ≤ nx
  n1 : nx ≤ 40000 + (k : Int)
  n2 : 40000 ≤ port → 0 < k → nx ≤ port → nx + 1 ≤ 40000 + (k : Int)
def mS (l : List Mp) : Ts := ⟨40000, 128, 0, l, []⟩
theorem MI.nil (port : Int) : MI 0 port 40000 [] := ⟨rfl, (fun e h => by cases h), (fun o h1 h2 => ⟨(fun h => by cases h), (fun h => by omega)⟩), by omega, by omega, (fun _ h => absurd h (by omega))⟩
theorem MI.best {k : Nat} {port nx : Int} {l : List Mp} (h : MI k port nx l) (hk : k < 128) : bestF 6 (atA (k : Int)) port l l.length = none := by
  refine bestF_nil (fun e he => ?_) _
  obtain ⟨j, hj, ha, _⟩ := h.all e he
  unfold forB
  rw [ha, atA_ne (by omega) (by omega) (by omega : j ≠ k)]
  simp
theorem MI.ins {k : Nat} {port nx q nx' : Int} {l : List Mp} (h : MI k port nx l) (hs : MSrt l) (hn : mfhas l (kn 6 q) = false) (hq0 : 0 ≤ q) (hq5 : q ≤ 65535) (h0 : 40000 ≤ nx') (h1 : nx' ≤ 40000 + (k : Int) + 1) (h2 : 40000 ≤ port → nx' ≤ port → nx' + 1 ≤ 40000 + (k : Int) + 1)
    (hh : ∀ o : Int, 0 ≤ o → o ≤ 65535 → ((o = q ∨ (40000 ≤ o ∧ o < nx) ∨ (o = port ∧ 40000 ≤ port ∧ 0 < k)) ↔ ((40000 ≤ o ∧ o < nx') ∨ (o = port ∧ 40000 ≤ port)))) : MI (k + 1) port nx' (mins l ⟨6, q, atA (k : Int), port, 1, 60⟩) := by
  refine ⟨by rw [mins_len, h.len], fun e he => ?_, fun o ho0 ho5 => ?_, h0, by omega, fun h3 _ h4 => by have := h2 h3 h4; omega⟩
  · rcases mins_mem he with h2 | h2
    · subst h2; exact ⟨k, Nat.lt_succ_self k, rfl, rfl, rfl⟩
    · obtain ⟨j, hj, h3⟩ := h.all e h2
      exact ⟨j, by omega, h3⟩
  · rw [has_ins (m := ⟨6, q, atA (k : Int), port, 1, 60⟩) hs hn, h.has o ho0 ho5]
    have e : Mp.num ⟨6, q, atA (k : Int), port, 1, 60⟩ = kn 6 o ↔ o = q := by
      show kn 6 q = kn 6 o ↔ o = q
      unfold kn
      constructor <;> intro e <;> omega
    rw [e, hh o ho0 ho5]
    constructor
    · rintro (a | a)
      · exact .inl a
      · exact .inr ⟨a.1, a.2, Nat.succ_pos k⟩
    · rintro (a | a)
      · exact .inl a
      · exact .inr ⟨a.1, a.2.1⟩
theorem many_end {k : Nat} {port nx : Int} {l : List Mp} (h : MI k port nx l) : ∃ os, (mS l).adv 60 = ⟨40000, 128, 60, [], os⟩ := by
  rw [Ts.adv_yes (by show (0 : Int) < 60; decide) (by decide)]
  have hl : l.filter (liveB 60) = [] := by
    rw [List.filter_eq_nil_iff]
    intro e he
    obtain ⟨j, _, _, hu, hk⟩ := h.all e he
    unfold liveB
    rw [hu, hk]
    decide
  refine ⟨overs l 60 [], ?_⟩
  show (⟨40000, 128, 60, l.filter (liveB 60), overs l 60 []⟩ : Ts) = _
  rw [hl]
theorem many_own {lo gt : Nat} {port nx : Int} {l : List Mp} {k : Nat} (w : World) (hT : Tp lo gt w (mS l)) (h : MI k port nx l) (hk : k = 0) (hn : nx = 40000) (hp1 : 1 ≤ port) (hp2 : port ≤ 65535) (hp : 40000 ≤ port) : Calls Try.prog 13 #[.pointer (some ⟨gt, 0, none⟩), .agg #[.int .i64 6, .int .u8 ((atA (k : Int)).a.toNat : Int), .int .u8 ((atA (k : Int)).b.toNat : Int), .int .u8 ((atA (k : Int)).c.toNat : Int), .int .u8 ((atA (k : Int)).d.toNat : Int), .int .i64 port], .int .i64 0, .int .i64 60] w fun e w' => ∃ l2, e = .returned (.tuple #[.agg #[.int .i64 6, .int .i64 port, .int .u8 ((atA (k : Int)).a.toNat : Int), .int .u8 ((atA (k : Int)).b.toNat : Int), .int .u8 ((atA (k : Int)).c.toNat : Int), .int .u8 ((atA (k : Int)).d.toNat : Int), .int .i64 port, .int .i64 1, .int .i64 60], .int .i64 0]) ∧ MI (k + 1) port (nx) l2 ∧ Tp lo gt w' (mS l2) ∧ Fap gt w w' ∧ Below lo w w' := by
  have hpb : portB 6 port = true := by show (decide (1 ≤ port) && decide (port ≤ 65535)) = true; rw [decide_eq_true hp1, decide_eq_true hp2]; rfl
  have hf : mfhas l (kn 6 port) = false := by
    cases hb : mfhas l (kn 6 port) with
    | false => rfl
    | true => have := (h.has port (by omega) hp2).1 hb; omega
  refine (mk_own (s1 := mS l) (s2 := mS (mins l ⟨6, port, atA (k : Int), port, 1, 60⟩)) w hT rfl hpb (by kernel_rfl) rfl (h.best (by omega)) (by show ((l.length : Nat) : Int) < 128; rw [h.len]; omega) hp hf rfl).mono ?_
  rintro e w' ⟨h1, h2⟩
  exact ⟨_, h1, h.ins hT.ok.srt hf (by omega) hp2 (by omega) (by omega) (by omega) (fun o _ _ => by constructor <;> intro a <;> omega), h2⟩
theorem many_mk {lo gt : Nat} {port nx q : Int} {l : List Mp} {k : Nat} (w : World) (hT : Tp lo gt w (mS l)) (h : MI k port nx l) (hk : k < 128) (hp1 : 1 ≤ port) (hp2 : port ≤ 65535) (hB : 0 < k ∨ port < 40000) (hq : (nx = port ∧ q = nx + 1) ∨ (nx ≠ port ∧ q = nx)) : Calls Try.prog 13 #[.pointer (some ⟨gt, 0, none⟩), .agg #[.int .i64 6, .int .u8 ((atA (k : Int)).a.toNat : Int), .int .u8 ((atA (k : Int)).b.toNat : Int), .int .u8 ((atA (k : Int)).c.toNat : Int), .int .u8 ((atA (k : Int)).d.toNat : Int), .int .i64 port], .int .i64 0, .int .i64 60] w fun e w' => ∃ l2, e = .returned (.tuple #[.agg #[.int .i64 6, .int .i64 q, .int .u8 ((atA (k : Int)).a.toNat : Int), .int .u8 ((atA (k : Int)).b.toNat : Int), .int .u8 ((atA (k : Int)).c.toNat : Int), .int .u8 ((atA (k : Int)).d.toNat : Int), .int .i64 port, .int .i64 1, .int .i64 60], .int .i64 0]) ∧ MI (k + 1) port (q + 1) l2 ∧ Tp lo gt w' (mS l2) ∧ Fap gt w w' ∧ Below lo w w' := by
  have hpb : portB 6 port = true := by show (decide (1 ≤ port) && decide (port ≤ 65535)) = true; rw [decide_eq_true hp1, decide_eq_true hp2]; rfl
  have n0 := h.n0
  have n1 := h.n1
  have n2 := h.n2
  have hf : mfhas l (kn 6 q) = false := by
    cases hb : mfhas l (kn 6 q) with
    | false => rfl
    | true => have := (h.has q (by omega) (by omega)).1 hb; omega
  refine (mk_least (s1 := mS l) (s2 := mS (mins l ⟨6, q, atA (k : Int), port, 1, 60⟩)) (q := q) w hT rfl hpb (by kernel_rfl) rfl (h.best (by omega)) (by show ((l.length : Nat) : Int) < 128; rw [h.len]; omega) (fun hl => (h.has port (by omega) hp2).2 (by have hl2 : 40000 ≤ port := hl; omega)) (by show 40000 ≤ q; omega) (by omega) (fun o h1 h2 => (h.has o (by have h3 : 40000 ≤ o := h1; omega) (by omega)).2 (by have h3 : 40000 ≤ o := h1; omega)) hf rfl).mono ?_
  rintro e w' ⟨h1, h2⟩
  exact ⟨_, h1, h.ins hT.ok.srt hf (by omega) (by omega) (by omega) (by omega) (by omega) (fun o _ _ => by constructor <;> intro a <;> omega), h2⟩
theorem many_len {lo gt : Nat} {l : List Mp} {n : Nat} (w : World) (hT : Tp lo gt w (mS l)) (hn : l.length = n) : Calls Try.prog 17 #[.pointer (some ⟨gt, 0, none⟩), .int .i64 0] w fun e w' => e = .returned (.int .i64 (n : Int)) ∧ Tp lo gt w' (mS l) ∧ Fap gt w w' ∧ Below lo w w' := len_is (s1 := mS l) w hT rfl (by rw [← hn]; rfl)
theorem many_none {lo gt : Nat} {k : Nat} {port nx : Int} {l : List Mp} (w : World) (hT : Tp lo gt w (mS l)) (h : MI k port nx l) : Calls Try.prog 17 #[.pointer (some ⟨gt, 0, none⟩), .int .i64 60] w fun e w' => e = .returned (.int .i64 0) ∧ Below lo w w' := by
  obtain ⟨os, he⟩ := many_end h
  refine (len_is (s1 := ⟨40000, 128, 60, [], os⟩) (n := 0) w hT he rfl).mono ?_
  rintro e w' ⟨h1, _, _, b⟩
  exact ⟨h1, b⟩
set_option linter.unusedVariables false in
set_option linter.unusedSimpArgs false in
set_option maxRecDepth 100000 in
set_option maxHeartbeats 16000000 in
theorem portsMany_walk (n port : Int) (w : World) : Calls Try.prog 5 #[.int .i64 n, .int .i64 port] w fun e w' => e = .returned (.bool true) ∧ Below w.heap.size w w' := by
  have bel := Below.refl w.heap.size w
  go_enter Try.func5, Try.ntmps5
  go_wp2_with fail
  with_reducible refine (awake_any _).mono ?_
  rintro e w1 ⟨rfl, b1⟩
  replace bel := bel.trans (b1.mono bel.size)
  clear b1
  by_cases c1 : n < 1
  · go_wp2_with fail
    go_ret
    exact ⟨rfl, bel⟩
  have Hc1 : Hid (1 ≤ n) := Lib.hid (by omega)
  replace c1 : decide (n < 1) = false := decide_eq_false c1
  by_cases c2 : 128 < n
  · go_wp2_with fail
    go_ret
    exact ⟨rfl, bel⟩
  have Hc2 : Hid (n ≤ 128) := Lib.hid (by omega)
  replace c2 : decide (128 < n) = false := decide_eq_false c2
  by_cases c3 : port < 1
  · go_wp2_with fail
    go_ret
    exact ⟨rfl, bel⟩
  have Hc3 : Hid (1 ≤ port) := Lib.hid (by omega)
  replace c3 : decide (port < 1) = false := decide_eq_false c3
  by_cases c4 : 65535 < port
  · go_wp2_with fail
    go_ret
    exact ⟨rfl, bel⟩
  have Hc4 : Hid (port ≤ 65535) := Lib.hid (by omega)
  replace c4 : decide (65535 < port) = false := decide_eq_false c4
  go_wp2_with fail
  have HLO_ := bel.size
  with_reducible refine (tnew_any (lw := 40000) (rm := 128) _ (by decide) (by decide) (by decide) (by decide)).mono ?_
  rintro e w2 ⟨gt, rfl, hT, b2⟩
  replace bel := bel.trans (b2.mono bel.size)
  clear b2
  replace hT : Tp w.heap.size gt w2 (mS []) := hT.lo_mono HLO_
  clear HLO_
  go_wp2_with fail
  go_loopg [8, 7] (n.toNat) (fun gk s8 s7 wr => ∃ k : Nat, ∃ nx : Int, ∃ l : List Mp, gk = (n - (k : Int)).toNat ∧ (k : Int) ≤ n ∧ Hid (MI k port nx l) ∧ Hid (k = 0 → nx = 40000) ∧ Tp w.heap.size gt wr (mS l) ∧ s8 = .int .i64 (k : Int) ∧ s7 = .int .i64 nx ∧ Below w.heap.size w wr)
  case atStart => exact ⟨0, 40000, [], by omega, by have := Hc1.out; omega, Lib.hid (MI.nil port), Lib.hid (fun _ => rfl), hT, rfl, rfl, bel⟩
  case round =>
    clear hT bel
    obtain ⟨k, nx, l, HGK, hkn, HI, HZ, hT, rfl, rfl, bel⟩ := hrel
    have HGK_ := Lib.hid HGK
    clear HGK
    by_cases h : (k : Int) < n
    rotate_left
    · have hkn2 : (k : Int) = n := by omega
      replace h : decide ((k : Int) < n) = false := decide_eq_false h
      have HLN : Hid (l.length = k) := Lib.hid HI.out.len
      go_wp2_with fail
      with_reducible refine (many_len _ hT HLN.out).mono ?_
      rintro e w3 ⟨rfl, hT_, f_, bb⟩
      clear hT
      have hT := hT_
      replace bel := bel.trans bb
      clear bb f_ hT_
      go_wp2_with fail
      with_reducible refine (many_none _ hT HI.out).mono ?_
      rintro e w4 ⟨rfl, b4⟩
      replace bel := bel.trans b4
      clear b4 hT
      go_wp2_with fail
      go_ret
      exact ⟨rfl, bel⟩
    have HK : Hid ((k : Int) < n) := Lib.hid h
    have HK8 : Hid (k < 128) := Lib.hid (by have := Hc2.out; omega)
    have k0 : (0 : Int) ≤ k := by omega
    have k8 : (k : Int) < 128 := by have := HK8.out; omega
    have HNX : Hid (40000 ≤ nx ∧ nx ≤ 40129) := Lib.hid ⟨HI.out.n0, by have h_ := HI.out.n1; have := HK8.out; omega⟩
    have hwn : IntKind.i64.wrap (nx + 1) = nx + 1 := IntWalk.i64_in _ (by have := HNX.out; omega)
    have hwn2 : IntKind.i64.wrap (nx + 1 + 1) = nx + 1 + 1 := IntWalk.i64_in _ (by have := HNX.out; omega)
    have hk1 : IntKind.i64.wrap ((k : Int) + 1) = (k : Int) + 1 := IntWalk.i64_in _ (by omega)
    have q86 : ∀ W, (binOp .neq 28 (.agg #[.int .u8 ((atA (k : Int)).a.toNat : Int), .int .u8 ((atA (k : Int)).b.toNat : Int), .int .u8 ((atA (k : Int)).c.toNat : Int), .int .u8 ((atA (k : Int)).d.toNat : Int)]) (.agg #[.int .u8 ((atA (k : Int)).a.toNat : Int), .int .u8 ((atA (k : Int)).b.toNat : Int), .int .u8 ((atA (k : Int)).c.toNat : Int), .int .u8 ((atA (k : Int)).d.toNat : Int)])).run Try.prog W = .ok (.bool false) W := fun W => by have h_ := nea_b (atA (k : Int)) (atA (k : Int)) W; rw [Ad4.eqB_self] at h_; exact h_
    by_cases hk0 : k = 0
    · have HK0 : Hid (k = 0) := Lib.hid hk0
      have k0f : decide ((k : Int) > 0) = false := decide_eq_false (by omega)
      have k0g : decide (0 < (k : Int)) = false := decide_eq_false (by omega)
      have k0n : decide (0 < k) = false := decide_eq_false (by omega)
      clear hk0
      by_cases hp4 : port < 40000
      rotate_left
      · have HP4 : Hid (40000 ≤ port) := Lib.hid (by omega)
        replace hp4 : decide (port < 40000) = false := decide_eq_false hp4
        go_wp2_with fail
        with_reducible refine (at_k (k : Int) _).mono ?_
        rintro e w3 ⟨rfl, b3⟩
        replace hT := hT.below b3
        replace bel := bel.trans (b3.mono bel.size)
        clear b3
        go_wp2_with fail
        with_reducible refine (many_own _ hT HI.out HK0.out (HZ.out HK0.out) Hc3.out Hc4.out HP4.out).mono ?_
        rintro e w4 ⟨l2, rfl, hi_, hT_, f_, bb⟩
        clear hT
        have hT := hT_
        replace bel := bel.trans bb
        clear bb f_ hT_
        have HI2 := Lib.hid hi_
        clear hi_
        go_wp2_with (first | ((with_reducible show wpList _ _ _ (⟨some 9, _, _, _, _, _⟩ :: _) _ _); refine wpList_new_a rfl 31 rfl #[.int .i64 0, .int .i64 0, .int .u8 0, .int .u8 0, .int .u8 0, .int .u8 0, .int .i64 0, .int .i64 0, .int .i64 0] (by kernel_rfl) ?_; intro g9 w5 ge hh bb; have ap_mB := hT.ap ge; have omB := Nat.le_trans bel.size ge; replace hT := hT.below bb; replace ap_mB := ap_mB.below bb; replace bel := bel.trans (bb.mono bel.size); have hmB := hh; clear hh ge bb) | ((with_reducible show wpList _ _ _ (⟨none, Op.store _ (.tmp 9) _, _, _, _, _⟩ :: _) _ _); refine wpList_store_blk rfl 31 (.tmp 9) (.tmp 46) rfl g9 rfl _ rfl _ 31 hmB (by rfl) (by kernel_rfl) (by kernel_rfl) ?_; intro w6 hq gr; replace hT := hT.away ap_mB gr hmB; replace ap_mB := ap_mB.grown ap_mB.1 gr; replace bel := below_grown bel gr omB bel.size; clear hmB; have hmB := hq; clear hq gr))
        replace bel := bel.drew
        replace hmB : w6.drew.heap[g9]? = _ := hmB
        replace hT := tp_drew hT
        replace ap_mB := ap_drew ap_mB
        refine wp_region_held_drew (S := fun W => W.heap[g9]? = some (.cells #[.int .i64 6, .int .i64 port, .int .u8 ((atA (k : Int)).a.toNat : Int), .int .u8 ((atA (k : Int)).b.toNat : Int), .int .u8 ((atA (k : Int)).c.toNat : Int), .int .u8 ((atA (k : Int)).d.toNat : Int), .int .i64 port, .int .i64 1, .int .i64 60] 31 (0, 0))) (by kernel_rfl) hmB (fun hH => ?_)
        generalize w6.drew = w7 at bel hmB hT ap_mB hH ⊢
        refine wpAnyH_take (i := 0) (v := ?_) rfl (by kernel_rfl) (by kernel_rfl) (by kernel_rfl) (fun _ _ _ h => h) (Or.inl ⟨by rfl, ?_⟩) hH ?_
        rotate_left
        · ((intro W hW; clear hW; go_simp) <;> with_reducible rfl)
        simp only [Act.put, List.getElem_toArray, List.getElem_cons_zero, List.setIfInBounds_toArray, List.set_cons_zero, List.set_cons_succ]
        refine wpAnyH_take (i := 1) (v := ?_) rfl (by kernel_rfl) (by kernel_rfl) (by kernel_rfl) (fun _ _ _ h => h) (Or.inl ⟨by rfl, ?_⟩) hH ?_
        rotate_left
        · ((intro W hW; clear hW; go_simp) <;> with_reducible rfl)
        simp only [Act.put, List.getElem_toArray, List.getElem_cons_zero, List.getElem_cons_succ, List.setIfInBounds_toArray, List.set_cons_zero, List.set_cons_succ]
        refine wpAnyH_take (i := 2) (v := ?_) rfl (by kernel_rfl) (by kernel_rfl) (by kernel_rfl) (fun _ _ _ h => h) (Or.inl ⟨by rfl, ?_⟩) hH ?_
        rotate_left
        · ((intro W hW; clear hW; go_simp) <;> with_reducible rfl)
        simp only [Act.put, List.getElem_toArray, List.getElem_cons_zero, List.getElem_cons_succ, List.setIfInBounds_toArray, List.set_cons_zero, List.set_cons_succ]
        refine wpAnyH_take (i := 3) (v := ?_) rfl (by kernel_rfl) (by kernel_rfl) (by kernel_rfl) (fun _ _ _ h => h) (Or.inl ⟨by rfl, ?_⟩) hH ?_
        rotate_left
        · ((intro W hW; clear hW; go_simp) <;> with_reducible rfl)
        simp only [Act.put, List.getElem_toArray, List.getElem_cons_zero, List.getElem_cons_succ, List.setIfInBounds_toArray, List.set_cons_zero, List.set_cons_succ]
        refine wpAnyH_take (i := 4) (v := ?_) rfl (by kernel_rfl) (by kernel_rfl) (by kernel_rfl) (fun _ _ _ h => h) (Or.inl ⟨by rfl, ?_⟩) hH ?_
        rotate_left
        · ((intro W hW; have hk := cell_lit (hW) 1 _ rfl; clear hW; go_simp) <;> with_reducible rfl)
        simp only [Act.put, List.getElem_toArray, List.getElem_cons_zero, List.getElem_cons_succ, List.setIfInBounds_toArray, List.set_cons_zero, List.set_cons_succ]
        refine wpAnyH_take (i := 5) (v := ?_) rfl (by kernel_rfl) (by kernel_rfl) (by kernel_rfl) (fun _ _ _ h => h) (Or.inl ⟨by rfl, ?_⟩) hH ?_
        rotate_left
        · ((intro W hW; clear hW; go_simp) <;> with_reducible rfl)
        simp only [Act.put, List.getElem_toArray, List.getElem_cons_zero, List.getElem_cons_succ, List.setIfInBounds_toArray, List.set_cons_zero, List.set_cons_succ]
        refine wpAnyH_take (i := 6) (v := ?_) rfl (by kernel_rfl) (by kernel_rfl) (by kernel_rfl) (fun _ _ _ h => h) (Or.inl ⟨by rfl, ?_⟩) hH ?_
        rotate_left
        · ((intro W hW; clear hW; go_simp) <;> with_reducible rfl)
        simp only [Act.put, List.getElem_toArray, List.getElem_cons_zero, List.getElem_cons_succ, List.setIfInBounds_toArray, List.set_cons_zero, List.set_cons_succ]
        refine wpAnyH_take (i := 7) (v := ?_) rfl (by kernel_rfl) (by kernel_rfl) (by kernel_rfl) (fun _ _ _ h => h) (Or.inl ⟨by rfl, ?_⟩) hH ?_
        rotate_left
        · ((intro W hW; clear hW; go_simp) <;> with_reducible rfl)
        simp only [Act.put, List.getElem_toArray, List.getElem_cons_zero, List.getElem_cons_succ, List.setIfInBounds_toArray, List.set_cons_zero, List.set_cons_succ]
        refine wpAnyH_take (i := 8) (v := ?_) rfl (by kernel_rfl) (by kernel_rfl) (by kernel_rfl) (fun _ _ _ h => h) (Or.inl ⟨by rfl, ?_⟩) hH ?_
        rotate_left
        · ((intro W hW; clear hW; go_simp) <;> with_reducible rfl)
        simp only [Act.put, List.getElem_toArray, List.getElem_cons_zero, List.getElem_cons_succ, List.setIfInBounds_toArray, List.set_cons_zero, List.set_cons_succ]
        refine wpAnyH_take (i := 9) (v := ?_) rfl (by kernel_rfl) (by kernel_rfl) (by kernel_rfl) (fun _ _ _ h => h) (Or.inl ⟨by rfl, ?_⟩) hH ?_
        rotate_left
        · ((intro W hW; clear hW; go_simp) <;> with_reducible rfl)
        simp only [Act.put, List.getElem_toArray, List.getElem_cons_zero, List.getElem_cons_succ, List.setIfInBounds_toArray, List.set_cons_zero, List.set_cons_succ]
        refine wpAnyH_take (i := 10) (v := ?_) rfl (by kernel_rfl) (by kernel_rfl) (by kernel_rfl) (fun _ _ _ h => h) (Or.inl ⟨by rfl, ?_⟩) hH ?_
        rotate_left
        · ((intro W hW; have hk := cell_lit (hW) 6 _ rfl; clear hW; go_simp) <;> with_reducible rfl)
        simp only [Act.put, List.getElem_toArray, List.getElem_cons_zero, List.getElem_cons_succ, List.setIfInBounds_toArray, List.set_cons_zero, List.set_cons_succ]
        refine wpAnyH_take (i := 11) (v := ?_) rfl (by kernel_rfl) (by kernel_rfl) (by kernel_rfl) (fun _ _ _ h => h) (Or.inl ⟨by rfl, ?_⟩) hH ?_
        rotate_left
        · ((intro W hW; clear hW; go_simp) <;> with_reducible rfl)
        simp only [Act.put, List.getElem_toArray, List.getElem_cons_zero, List.getElem_cons_succ, List.setIfInBounds_toArray, List.set_cons_zero, List.set_cons_succ]
        refine wpAnyH_take (i := 12) (v := ?_) rfl (by kernel_rfl) (by kernel_rfl) (by kernel_rfl) (fun _ _ _ h => h) (Or.inl ⟨by rfl, ?_⟩) hH ?_
        rotate_left
        · ((intro W hW; clear hW; go_simp) <;> with_reducible rfl)
        simp only [Act.put, List.getElem_toArray, List.getElem_cons_zero, List.getElem_cons_succ, List.setIfInBounds_toArray, List.set_cons_zero, List.set_cons_succ]
        refine wpAnyH_take (i := 13) (v := ?_) rfl (by kernel_rfl) (by kernel_rfl) (by kernel_rfl) (fun _ _ _ h => h) (Or.inl ⟨by rfl, ?_⟩) hH ?_
        rotate_left
        · ((intro W hW; clear hW; go_simp) <;> with_reducible rfl)
        simp only [Act.put, List.getElem_toArray, List.getElem_cons_zero, List.getElem_cons_succ, List.setIfInBounds_toArray, List.set_cons_zero, List.set_cons_succ]
        refine wpAnyH_take (i := 14) (v := ?_) rfl (by kernel_rfl) (by kernel_rfl) (by kernel_rfl) (fun _ _ _ h => h) (Or.inl ⟨by rfl, ?_⟩) hH ?_
        rotate_left
        · ((intro W hW; clear hW; go_simp) <;> with_reducible rfl)
        simp only [Act.put, List.getElem_toArray, List.getElem_cons_zero, List.getElem_cons_succ, List.setIfInBounds_toArray, List.set_cons_zero, List.set_cons_succ]
        refine wpAnyH_take (i := 15) (v := ?_) rfl (by kernel_rfl) (by kernel_rfl) (by kernel_rfl) (fun _ _ _ h => h) (Or.inl ⟨by rfl, ?_⟩) hH ?_
        rotate_left
        · ((intro W hW; clear hW; go_simp) <;> with_reducible rfl)
        simp only [Act.put, List.getElem_toArray, List.getElem_cons_zero, List.getElem_cons_succ, List.setIfInBounds_toArray, List.set_cons_zero, List.set_cons_succ]
        refine wpAnyH_take (i := 16) (v := .agg #[.int .u8 ((atA (k : Int)).a.toNat : Int), .int .u8 ((atA (k : Int)).b.toNat : Int), .int .u8 ((atA (k : Int)).c.toNat : Int), .int .u8 ((atA (k : Int)).d.toNat : Int)]) rfl (by kernel_rfl) (by kernel_rfl) (by kernel_rfl) (fun _ _ _ h => h) (yieldsIf_load_part (by kernel_rfl) 28 _ rfl g9 2 4 rfl _ 31 (0, 0) (fun W hW => hW) _ rfl _ Try.underlying28 rfl (by kernel_rfl)) hH ?_
        simp only [Act.put, List.getElem_toArray, List.getElem_cons_zero, List.getElem_cons_succ, List.setIfInBounds_toArray, List.set_cons_zero, List.set_cons_succ]
        refine wpAnyH_take (i := 17) (v := ?_) rfl (by kernel_rfl) (by kernel_rfl) (by kernel_rfl) (fun _ _ _ h => h) (Or.inl ⟨by rfl, ?_⟩) hH ?_
        rotate_left
        · ((intro W hW; clear hW; go_simp) <;> with_reducible rfl)
        simp only [Act.put, List.getElem_toArray, List.getElem_cons_zero, List.getElem_cons_succ, List.setIfInBounds_toArray, List.set_cons_zero, List.set_cons_succ]
        refine wpAnyH_ready (rs := [18]) (by kernel_rfl) (by simp) ?_
        refine AllReadyH.cons (o := _) rfl (fun K hK => ?_) AllReadyH.nil
        simp only [List.getElem_toArray, List.getElem_cons_zero, List.getElem_cons_succ]
        go_simp
        with_reducible refine (at_k (k : Int) _).mono ?_
        rintro e w8 ⟨rfl, b8⟩
        dsimp only
        replace hmB := blk_u hmB b8
        replace hT := hT.below b8
        replace ap_mB := ap_mB.below b8
        replace bel := bel.trans (b8.mono bel.size)
        clear b8
        refine hK.out _ _ hmB (fun hH9 => ?_)
        clear hK K
        refine wpAnyH_take (i := 19) (v := ?_) rfl (by kernel_rfl) (by kernel_rfl) (by kernel_rfl) (fun _ _ _ h => h) (Or.inl ⟨by rfl, ?_⟩) hH9 ?_
        rotate_left
        · ((intro W hW; clear hW; go_simp) <;> with_reducible rfl)
        simp only [Act.put, List.getElem_toArray, List.getElem_cons_zero, List.getElem_cons_succ, List.setIfInBounds_toArray, List.set_cons_zero, List.set_cons_succ]
        refine wpAnyH_take (i := 20) (v := ?_) rfl (by kernel_rfl) (by kernel_rfl) (by kernel_rfl) (fun _ _ _ h => h) (Or.inl ⟨by rfl, ?_⟩) hH9 ?_
        rotate_left
        · ((intro W hW; clear hW; go_simp) <;> with_reducible rfl)
        simp only [Act.put, List.getElem_toArray, List.getElem_cons_zero, List.getElem_cons_succ, List.setIfInBounds_toArray, List.set_cons_zero, List.set_cons_succ]
        refine wpAnyH_done (by kernel_rfl) ?_ _
        go_wp2_with fail
        go_roundg ((n - ((k + 1 : Nat) : Int)).toNat)
        case measure => have := HGK_.out; have := HK.out; omega
        case rel => exact ⟨k + 1, nx, l2, rfl, by have := HK.out; omega, HI2, Lib.hid (fun h_ => absurd h_ (Nat.succ_ne_zero k)), hT, by go_num, by go_num, bel⟩
      have hne : (nx == port) = false := beq_eq_false_iff_ne.2 (by have := HNX.out; omega)
      have HP4 := Lib.hid hp4
      go_wp2_with fail
      with_reducible refine (at_k (k : Int) _).mono ?_
      rintro e w3 ⟨rfl, b3⟩
      replace hT := hT.below b3
      replace bel := bel.trans (b3.mono bel.size)
      clear b3
      go_wp2_with fail
      with_reducible refine (many_mk (q := nx) _ hT HI.out HK8.out Hc3.out Hc4.out (Or.inr HP4.out) (Or.inr ⟨by have := HNX.out; have := HP4.out; omega, rfl⟩)).mono ?_
      rintro e w4 ⟨l2, rfl, hi_, hT_, f_, bb⟩
      clear hT
      have hT := hT_
      replace bel := bel.trans bb
      clear bb f_ hT_
      have HI2 := Lib.hid hi_
      clear hi_
      go_wp2_with (first | ((with_reducible show wpList _ _ _ (⟨some 9, _, _, _, _, _⟩ :: _) _ _); refine wpList_new_a rfl 31 rfl #[.int .i64 0, .int .i64 0, .int .u8 0, .int .u8 0, .int .u8 0, .int .u8 0, .int .i64 0, .int .i64 0, .int .i64 0] (by kernel_rfl) ?_; intro g9 w5 ge hh bb; have ap_mB := hT.ap ge; have omB := Nat.le_trans bel.size ge; replace hT := hT.below bb; replace ap_mB := ap_mB.below bb; replace bel := bel.trans (bb.mono bel.size); have hmB := hh; clear hh ge bb) | ((with_reducible show wpList _ _ _ (⟨none, Op.store _ (.tmp 9) _, _, _, _, _⟩ :: _) _ _); refine wpList_store_blk rfl 31 (.tmp 9) (.tmp 46) rfl g9 rfl _ rfl _ 31 hmB (by rfl) (by kernel_rfl) (by kernel_rfl) ?_; intro w6 hq gr; replace hT := hT.away ap_mB gr hmB; replace ap_mB := ap_mB.grown ap_mB.1 gr; replace bel := below_grown bel gr omB bel.size; clear hmB; have hmB := hq; clear hq gr))
      replace bel := bel.drew
      replace hmB : w6.drew.heap[g9]? = _ := hmB
      replace hT := tp_drew hT
      replace ap_mB := ap_drew ap_mB
      refine wp_region_held_drew (S := fun W => W.heap[g9]? = some (.cells #[.int .i64 6, .int .i64 nx, .int .u8 ((atA (k : Int)).a.toNat : Int), .int .u8 ((atA (k : Int)).b.toNat : Int), .int .u8 ((atA (k : Int)).c.toNat : Int), .int .u8 ((atA (k : Int)).d.toNat : Int), .int .i64 port, .int .i64 1, .int .i64 60] 31 (0, 0))) (by kernel_rfl) hmB (fun hH => ?_)
      generalize w6.drew = w7 at bel hmB hT ap_mB hH ⊢
      refine wpAnyH_take (i := 0) (v := ?_) rfl (by kernel_rfl) (by kernel_rfl) (by kernel_rfl) (fun _ _ _ h => h) (Or.inl ⟨by rfl, ?_⟩) hH ?_
      rotate_left
      · ((intro W hW; clear hW; go_simp) <;> with_reducible rfl)
      simp only [Act.put, List.getElem_toArray, List.getElem_cons_zero, List.setIfInBounds_toArray, List.set_cons_zero, List.set_cons_succ]
      refine wpAnyH_take (i := 1) (v := ?_) rfl (by kernel_rfl) (by kernel_rfl) (by kernel_rfl) (fun _ _ _ h => h) (Or.inl ⟨by rfl, ?_⟩) hH ?_
      rotate_left
      · ((intro W hW; clear hW; go_simp) <;> with_reducible rfl)
      simp only [Act.put, List.getElem_toArray, List.getElem_cons_zero, List.getElem_cons_succ, List.setIfInBounds_toArray, List.set_cons_zero, List.set_cons_succ]
      refine wpAnyH_take (i := 2) (v := ?_) rfl (by kernel_rfl) (by kernel_rfl) (by kernel_rfl) (fun _ _ _ h => h) (Or.inl ⟨by rfl, ?_⟩) hH ?_
      rotate_left
      · ((intro W hW; clear hW; go_simp) <;> with_reducible rfl)
      simp only [Act.put, List.getElem_toArray, List.getElem_cons_zero, List.getElem_cons_succ, List.setIfInBounds_toArray, List.set_cons_zero, List.set_cons_succ]
      refine wpAnyH_take (i := 3) (v := ?_) rfl (by kernel_rfl) (by kernel_rfl) (by kernel_rfl) (fun _ _ _ h => h) (Or.inl ⟨by rfl, ?_⟩) hH ?_
      rotate_left
      · ((intro W hW; clear hW; go_simp) <;> with_reducible rfl)
      simp only [Act.put, List.getElem_toArray, List.getElem_cons_zero, List.getElem_cons_succ, List.setIfInBounds_toArray, List.set_cons_zero, List.set_cons_succ]
      refine wpAnyH_take (i := 4) (v := ?_) rfl (by kernel_rfl) (by kernel_rfl) (by kernel_rfl) (fun _ _ _ h => h) (Or.inl ⟨by rfl, ?_⟩) hH ?_
      rotate_left
      · ((intro W hW; have hk := cell_lit (hW) 1 _ rfl; clear hW; go_simp) <;> with_reducible rfl)
      simp only [Act.put, List.getElem_toArray, List.getElem_cons_zero, List.getElem_cons_succ, List.setIfInBounds_toArray, List.set_cons_zero, List.set_cons_succ]
      refine wpAnyH_take (i := 5) (v := ?_) rfl (by kernel_rfl) (by kernel_rfl) (by kernel_rfl) (fun _ _ _ h => h) (Or.inl ⟨by rfl, ?_⟩) hH ?_
      rotate_left
      · ((intro W hW; clear hW; go_simp) <;> with_reducible rfl)
      simp only [Act.put, List.getElem_toArray, List.getElem_cons_zero, List.getElem_cons_succ, List.setIfInBounds_toArray, List.set_cons_zero, List.set_cons_succ]
      refine wpAnyH_take (i := 6) (v := ?_) rfl (by kernel_rfl) (by kernel_rfl) (by kernel_rfl) (fun _ _ _ h => h) (Or.inl ⟨by rfl, ?_⟩) hH ?_
      rotate_left
      · ((intro W hW; clear hW; go_simp) <;> with_reducible rfl)
      simp only [Act.put, List.getElem_toArray, List.getElem_cons_zero, List.getElem_cons_succ, List.setIfInBounds_toArray, List.set_cons_zero, List.set_cons_succ]
      refine wpAnyH_take (i := 7) (v := ?_) rfl (by kernel_rfl) (by kernel_rfl) (by kernel_rfl) (fun _ _ _ h => h) (Or.inl ⟨by rfl, ?_⟩) hH ?_
      rotate_left
      · ((intro W hW; clear hW; go_simp) <;> with_reducible rfl)
      simp only [Act.put, List.getElem_toArray, List.getElem_cons_zero, List.getElem_cons_succ, List.setIfInBounds_toArray, List.set_cons_zero, List.set_cons_succ]
      refine wpAnyH_take (i := 8) (v := ?_) rfl (by kernel_rfl) (by kernel_rfl) (by kernel_rfl) (fun _ _ _ h => h) (Or.inl ⟨by rfl, ?_⟩) hH ?_
      rotate_left
      · ((intro W hW; clear hW; go_simp) <;> with_reducible rfl)
      simp only [Act.put, List.getElem_toArray, List.getElem_cons_zero, List.getElem_cons_succ, List.setIfInBounds_toArray, List.set_cons_zero, List.set_cons_succ]
      refine wpAnyH_take (i := 9) (v := ?_) rfl (by kernel_rfl) (by kernel_rfl) (by kernel_rfl) (fun _ _ _ h => h) (Or.inl ⟨by rfl, ?_⟩) hH ?_
      rotate_left
      · ((intro W hW; clear hW; go_simp) <;> with_reducible rfl)
      simp only [Act.put, List.getElem_toArray, List.getElem_cons_zero, List.getElem_cons_succ, List.setIfInBounds_toArray, List.set_cons_zero, List.set_cons_succ]
      refine wpAnyH_take (i := 10) (v := ?_) rfl (by kernel_rfl) (by kernel_rfl) (by kernel_rfl) (fun _ _ _ h => h) (Or.inl ⟨by rfl, ?_⟩) hH ?_
      rotate_left
      · ((intro W hW; have hk := cell_lit (hW) 6 _ rfl; clear hW; go_simp) <;> with_reducible rfl)
      simp only [Act.put, List.getElem_toArray, List.getElem_cons_zero, List.getElem_cons_succ, List.setIfInBounds_toArray, List.set_cons_zero, List.set_cons_succ]
      refine wpAnyH_take (i := 11) (v := ?_) rfl (by kernel_rfl) (by kernel_rfl) (by kernel_rfl) (fun _ _ _ h => h) (Or.inl ⟨by rfl, ?_⟩) hH ?_
      rotate_left
      · ((intro W hW; clear hW; go_simp) <;> with_reducible rfl)
      simp only [Act.put, List.getElem_toArray, List.getElem_cons_zero, List.getElem_cons_succ, List.setIfInBounds_toArray, List.set_cons_zero, List.set_cons_succ]
      refine wpAnyH_take (i := 12) (v := ?_) rfl (by kernel_rfl) (by kernel_rfl) (by kernel_rfl) (fun _ _ _ h => h) (Or.inl ⟨by rfl, ?_⟩) hH ?_
      rotate_left
      · ((intro W hW; clear hW; go_simp) <;> with_reducible rfl)
      simp only [Act.put, List.getElem_toArray, List.getElem_cons_zero, List.getElem_cons_succ, List.setIfInBounds_toArray, List.set_cons_zero, List.set_cons_succ]
      refine wpAnyH_take (i := 13) (v := ?_) rfl (by kernel_rfl) (by kernel_rfl) (by kernel_rfl) (fun _ _ _ h => h) (Or.inl ⟨by rfl, ?_⟩) hH ?_
      rotate_left
      · ((intro W hW; clear hW; go_simp) <;> with_reducible rfl)
      simp only [Act.put, List.getElem_toArray, List.getElem_cons_zero, List.getElem_cons_succ, List.setIfInBounds_toArray, List.set_cons_zero, List.set_cons_succ]
      refine wpAnyH_take (i := 14) (v := ?_) rfl (by kernel_rfl) (by kernel_rfl) (by kernel_rfl) (fun _ _ _ h => h) (Or.inl ⟨by rfl, ?_⟩) hH ?_
      rotate_left
      · ((intro W hW; clear hW; go_simp) <;> with_reducible rfl)
      simp only [Act.put, List.getElem_toArray, List.getElem_cons_zero, List.getElem_cons_succ, List.setIfInBounds_toArray, List.set_cons_zero, List.set_cons_succ]
      refine wpAnyH_take (i := 15) (v := ?_) rfl (by kernel_rfl) (by kernel_rfl) (by kernel_rfl) (fun _ _ _ h => h) (Or.inl ⟨by rfl, ?_⟩) hH ?_
      rotate_left
      · ((intro W hW; clear hW; go_simp) <;> with_reducible rfl)
      simp only [Act.put, List.getElem_toArray, List.getElem_cons_zero, List.getElem_cons_succ, List.setIfInBounds_toArray, List.set_cons_zero, List.set_cons_succ]
      refine wpAnyH_take (i := 16) (v := .agg #[.int .u8 ((atA (k : Int)).a.toNat : Int), .int .u8 ((atA (k : Int)).b.toNat : Int), .int .u8 ((atA (k : Int)).c.toNat : Int), .int .u8 ((atA (k : Int)).d.toNat : Int)]) rfl (by kernel_rfl) (by kernel_rfl) (by kernel_rfl) (fun _ _ _ h => h) (yieldsIf_load_part (by kernel_rfl) 28 _ rfl g9 2 4 rfl _ 31 (0, 0) (fun W hW => hW) _ rfl _ Try.underlying28 rfl (by kernel_rfl)) hH ?_
      simp only [Act.put, List.getElem_toArray, List.getElem_cons_zero, List.getElem_cons_succ, List.setIfInBounds_toArray, List.set_cons_zero, List.set_cons_succ]
      refine wpAnyH_take (i := 17) (v := ?_) rfl (by kernel_rfl) (by kernel_rfl) (by kernel_rfl) (fun _ _ _ h => h) (Or.inl ⟨by rfl, ?_⟩) hH ?_
      rotate_left
      · ((intro W hW; clear hW; go_simp) <;> with_reducible rfl)
      simp only [Act.put, List.getElem_toArray, List.getElem_cons_zero, List.getElem_cons_succ, List.setIfInBounds_toArray, List.set_cons_zero, List.set_cons_succ]
      refine wpAnyH_ready (rs := [18]) (by kernel_rfl) (by simp) ?_
      refine AllReadyH.cons (o := _) rfl (fun K hK => ?_) AllReadyH.nil
      simp only [List.getElem_toArray, List.getElem_cons_zero, List.getElem_cons_succ]
      go_simp
      with_reducible refine (at_k (k : Int) _).mono ?_
      rintro e w8 ⟨rfl, b8⟩
      dsimp only
      replace hmB := blk_u hmB b8
      replace hT := hT.below b8
      replace ap_mB := ap_mB.below b8
      replace bel := bel.trans (b8.mono bel.size)
      clear b8
      refine hK.out _ _ hmB (fun hH9 => ?_)
      clear hK K
      refine wpAnyH_take (i := 19) (v := ?_) rfl (by kernel_rfl) (by kernel_rfl) (by kernel_rfl) (fun _ _ _ h => h) (Or.inl ⟨by rfl, ?_⟩) hH9 ?_
      rotate_left
      · ((intro W hW; clear hW; go_simp) <;> with_reducible rfl)
      simp only [Act.put, List.getElem_toArray, List.getElem_cons_zero, List.getElem_cons_succ, List.setIfInBounds_toArray, List.set_cons_zero, List.set_cons_succ]
      refine wpAnyH_take (i := 20) (v := ?_) rfl (by kernel_rfl) (by kernel_rfl) (by kernel_rfl) (fun _ _ _ h => h) (Or.inl ⟨by rfl, ?_⟩) hH9 ?_
      rotate_left
      · ((intro W hW; clear hW; go_simp) <;> with_reducible rfl)
      simp only [Act.put, List.getElem_toArray, List.getElem_cons_zero, List.getElem_cons_succ, List.setIfInBounds_toArray, List.set_cons_zero, List.set_cons_succ]
      refine wpAnyH_done (by kernel_rfl) ?_ _
      go_wp2_with fail
      go_roundg ((n - ((k + 1 : Nat) : Int)).toNat)
      case measure => have := HGK_.out; have := HK.out; omega
      case rel => exact ⟨k + 1, nx + 1, l2, rfl, by have := HK.out; omega, HI2, Lib.hid (fun h_ => absurd h_ (Nat.succ_ne_zero k)), hT, by go_num, by go_num, bel⟩
    have HK0 : Hid (0 < k) := Lib.hid (by omega)
    have k0t : (k : Int) > 0 := by omega
    have k0g : (0 : Int) < k := by omega
    have k0n : 0 < k := by omega
    clear hk0
    by_cases hp4 : nx = port
    rotate_left
    · have HNP := Lib.hid hp4
      have hne : (nx == port) = false := beq_eq_false_iff_ne.2 hp4
      clear hp4
      go_wp2_with fail
      with_reducible refine (at_k (k : Int) _).mono ?_
      rintro e w3 ⟨rfl, b3⟩
      replace hT := hT.below b3
      replace bel := bel.trans (b3.mono bel.size)
      clear b3
      go_wp2_with fail
      with_reducible refine (many_mk (q := nx) _ hT HI.out HK8.out Hc3.out Hc4.out (Or.inl HK0.out) (Or.inr ⟨HNP.out, rfl⟩)).mono ?_
      rintro e w4 ⟨l2, rfl, hi_, hT_, f_, bb⟩
      clear hT
      have hT := hT_
      replace bel := bel.trans bb
      clear bb f_ hT_
      have HI2 := Lib.hid hi_
      clear hi_
      go_wp2_with (first | ((with_reducible show wpList _ _ _ (⟨some 9, _, _, _, _, _⟩ :: _) _ _); refine wpList_new_a rfl 31 rfl #[.int .i64 0, .int .i64 0, .int .u8 0, .int .u8 0, .int .u8 0, .int .u8 0, .int .i64 0, .int .i64 0, .int .i64 0] (by kernel_rfl) ?_; intro g9 w5 ge hh bb; have ap_mB := hT.ap ge; have omB := Nat.le_trans bel.size ge; replace hT := hT.below bb; replace ap_mB := ap_mB.below bb; replace bel := bel.trans (bb.mono bel.size); have hmB := hh; clear hh ge bb) | ((with_reducible show wpList _ _ _ (⟨none, Op.store _ (.tmp 9) _, _, _, _, _⟩ :: _) _ _); refine wpList_store_blk rfl 31 (.tmp 9) (.tmp 46) rfl g9 rfl _ rfl _ 31 hmB (by rfl) (by kernel_rfl) (by kernel_rfl) ?_; intro w6 hq gr; replace hT := hT.away ap_mB gr hmB; replace ap_mB := ap_mB.grown ap_mB.1 gr; replace bel := below_grown bel gr omB bel.size; clear hmB; have hmB := hq; clear hq gr))
      replace bel := bel.drew
      replace hmB : w6.drew.heap[g9]? = _ := hmB
      replace hT := tp_drew hT
      replace ap_mB := ap_drew ap_mB
      refine wp_region_held_drew (S := fun W => W.heap[g9]? = some (.cells #[.int .i64 6, .int .i64 nx, .int .u8 ((atA (k : Int)).a.toNat : Int), .int .u8 ((atA (k : Int)).b.toNat : Int), .int .u8 ((atA (k : Int)).c.toNat : Int), .int .u8 ((atA (k : Int)).d.toNat : Int), .int .i64 port, .int .i64 1, .int .i64 60] 31 (0, 0))) (by kernel_rfl) hmB (fun hH => ?_)
      generalize w6.drew = w7 at bel hmB hT ap_mB hH ⊢
      refine wpAnyH_take (i := 0) (v := ?_) rfl (by kernel_rfl) (by kernel_rfl) (by kernel_rfl) (fun _ _ _ h => h) (Or.inl ⟨by rfl, ?_⟩) hH ?_
      rotate_left
      · ((intro W hW; clear hW; go_simp) <;> with_reducible rfl)
      simp only [Act.put, List.getElem_toArray, List.getElem_cons_zero, List.setIfInBounds_toArray, List.set_cons_zero, List.set_cons_succ]
      refine wpAnyH_take (i := 1) (v := ?_) rfl (by kernel_rfl) (by kernel_rfl) (by kernel_rfl) (fun _ _ _ h => h) (Or.inl ⟨by rfl, ?_⟩) hH ?_
      rotate_left
      · ((intro W hW; clear hW; go_simp) <;> with_reducible rfl)
      simp only [Act.put, List.getElem_toArray, List.getElem_cons_zero, List.getElem_cons_succ, List.setIfInBounds_toArray, List.set_cons_zero, List.set_cons_succ]
      refine wpAnyH_take (i := 2) (v := ?_) rfl (by kernel_rfl) (by kernel_rfl) (by kernel_rfl) (fun _ _ _ h => h) (Or.inl ⟨by rfl, ?_⟩) hH ?_
      rotate_left
      · ((intro W hW; clear hW; go_simp) <;> with_reducible rfl)
      simp only [Act.put, List.getElem_toArray, List.getElem_cons_zero, List.getElem_cons_succ, List.setIfInBounds_toArray, List.set_cons_zero, List.set_cons_succ]
      refine wpAnyH_take (i := 3) (v := ?_) rfl (by kernel_rfl) (by kernel_rfl) (by kernel_rfl) (fun _ _ _ h => h) (Or.inl ⟨by rfl, ?_⟩) hH ?_
      rotate_left
      · ((intro W hW; clear hW; go_simp) <;> with_reducible rfl)
      simp only [Act.put, List.getElem_toArray, List.getElem_cons_zero, List.getElem_cons_succ, List.setIfInBounds_toArray, List.set_cons_zero, List.set_cons_succ]
      refine wpAnyH_take (i := 4) (v := ?_) rfl (by kernel_rfl) (by kernel_rfl) (by kernel_rfl) (fun _ _ _ h => h) (Or.inl ⟨by rfl, ?_⟩) hH ?_
      rotate_left
      · ((intro W hW; have hk := cell_lit (hW) 1 _ rfl; clear hW; go_simp) <;> with_reducible rfl)
      simp only [Act.put, List.getElem_toArray, List.getElem_cons_zero, List.getElem_cons_succ, List.setIfInBounds_toArray, List.set_cons_zero, List.set_cons_succ]
      refine wpAnyH_take (i := 5) (v := ?_) rfl (by kernel_rfl) (by kernel_rfl) (by kernel_rfl) (fun _ _ _ h => h) (Or.inl ⟨by rfl, ?_⟩) hH ?_
      rotate_left
      · ((intro W hW; clear hW; go_simp) <;> with_reducible rfl)
      simp only [Act.put, List.getElem_toArray, List.getElem_cons_zero, List.getElem_cons_succ, List.setIfInBounds_toArray, List.set_cons_zero, List.set_cons_succ]
      refine wpAnyH_take (i := 6) (v := ?_) rfl (by kernel_rfl) (by kernel_rfl) (by kernel_rfl) (fun _ _ _ h => h) (Or.inl ⟨by rfl, ?_⟩) hH ?_
      rotate_left
      · ((intro W hW; clear hW; go_simp) <;> with_reducible rfl)
      simp only [Act.put, List.getElem_toArray, List.getElem_cons_zero, List.getElem_cons_succ, List.setIfInBounds_toArray, List.set_cons_zero, List.set_cons_succ]
      refine wpAnyH_take (i := 7) (v := ?_) rfl (by kernel_rfl) (by kernel_rfl) (by kernel_rfl) (fun _ _ _ h => h) (Or.inl ⟨by rfl, ?_⟩) hH ?_
      rotate_left
      · ((intro W hW; clear hW; go_simp) <;> with_reducible rfl)
      simp only [Act.put, List.getElem_toArray, List.getElem_cons_zero, List.getElem_cons_succ, List.setIfInBounds_toArray, List.set_cons_zero, List.set_cons_succ]
      refine wpAnyH_take (i := 8) (v := ?_) rfl (by kernel_rfl) (by kernel_rfl) (by kernel_rfl) (fun _ _ _ h => h) (Or.inl ⟨by rfl, ?_⟩) hH ?_
      rotate_left
      · ((intro W hW; clear hW; go_simp) <;> with_reducible rfl)
      simp only [Act.put, List.getElem_toArray, List.getElem_cons_zero, List.getElem_cons_succ, List.setIfInBounds_toArray, List.set_cons_zero, List.set_cons_succ]
      refine wpAnyH_take (i := 9) (v := ?_) rfl (by kernel_rfl) (by kernel_rfl) (by kernel_rfl) (fun _ _ _ h => h) (Or.inl ⟨by rfl, ?_⟩) hH ?_
      rotate_left
      · ((intro W hW; clear hW; go_simp) <;> with_reducible rfl)
      simp only [Act.put, List.getElem_toArray, List.getElem_cons_zero, List.getElem_cons_succ, List.setIfInBounds_toArray, List.set_cons_zero, List.set_cons_succ]
      refine wpAnyH_take (i := 10) (v := ?_) rfl (by kernel_rfl) (by kernel_rfl) (by kernel_rfl) (fun _ _ _ h => h) (Or.inl ⟨by rfl, ?_⟩) hH ?_
      rotate_left
      · ((intro W hW; have hk := cell_lit (hW) 6 _ rfl; clear hW; go_simp) <;> with_reducible rfl)
      simp only [Act.put, List.getElem_toArray, List.getElem_cons_zero, List.getElem_cons_succ, List.setIfInBounds_toArray, List.set_cons_zero, List.set_cons_succ]
      refine wpAnyH_take (i := 11) (v := ?_) rfl (by kernel_rfl) (by kernel_rfl) (by kernel_rfl) (fun _ _ _ h => h) (Or.inl ⟨by rfl, ?_⟩) hH ?_
      rotate_left
      · ((intro W hW; clear hW; go_simp) <;> with_reducible rfl)
      simp only [Act.put, List.getElem_toArray, List.getElem_cons_zero, List.getElem_cons_succ, List.setIfInBounds_toArray, List.set_cons_zero, List.set_cons_succ]
      refine wpAnyH_take (i := 12) (v := ?_) rfl (by kernel_rfl) (by kernel_rfl) (by kernel_rfl) (fun _ _ _ h => h) (Or.inl ⟨by rfl, ?_⟩) hH ?_
      rotate_left
      · ((intro W hW; clear hW; go_simp) <;> with_reducible rfl)
      simp only [Act.put, List.getElem_toArray, List.getElem_cons_zero, List.getElem_cons_succ, List.setIfInBounds_toArray, List.set_cons_zero, List.set_cons_succ]
      refine wpAnyH_take (i := 13) (v := ?_) rfl (by kernel_rfl) (by kernel_rfl) (by kernel_rfl) (fun _ _ _ h => h) (Or.inl ⟨by rfl, ?_⟩) hH ?_
      rotate_left
      · ((intro W hW; clear hW; go_simp) <;> with_reducible rfl)
      simp only [Act.put, List.getElem_toArray, List.getElem_cons_zero, List.getElem_cons_succ, List.setIfInBounds_toArray, List.set_cons_zero, List.set_cons_succ]
      refine wpAnyH_take (i := 14) (v := ?_) rfl (by kernel_rfl) (by kernel_rfl) (by kernel_rfl) (fun _ _ _ h => h) (Or.inl ⟨by rfl, ?_⟩) hH ?_
      rotate_left
      · ((intro W hW; clear hW; go_simp) <;> with_reducible rfl)
      simp only [Act.put, List.getElem_toArray, List.getElem_cons_zero, List.getElem_cons_succ, List.setIfInBounds_toArray, List.set_cons_zero, List.set_cons_succ]
      refine wpAnyH_take (i := 15) (v := ?_) rfl (by kernel_rfl) (by kernel_rfl) (by kernel_rfl) (fun _ _ _ h => h) (Or.inl ⟨by rfl, ?_⟩) hH ?_
      rotate_left
      · ((intro W hW; clear hW; go_simp) <;> with_reducible rfl)
      simp only [Act.put, List.getElem_toArray, List.getElem_cons_zero, List.getElem_cons_succ, List.setIfInBounds_toArray, List.set_cons_zero, List.set_cons_succ]
      refine wpAnyH_take (i := 16) (v := .agg #[.int .u8 ((atA (k : Int)).a.toNat : Int), .int .u8 ((atA (k : Int)).b.toNat : Int), .int .u8 ((atA (k : Int)).c.toNat : Int), .int .u8 ((atA (k : Int)).d.toNat : Int)]) rfl (by kernel_rfl) (by kernel_rfl) (by kernel_rfl) (fun _ _ _ h => h) (yieldsIf_load_part (by kernel_rfl) 28 _ rfl g9 2 4 rfl _ 31 (0, 0) (fun W hW => hW) _ rfl _ Try.underlying28 rfl (by kernel_rfl)) hH ?_
      simp only [Act.put, List.getElem_toArray, List.getElem_cons_zero, List.getElem_cons_succ, List.setIfInBounds_toArray, List.set_cons_zero, List.set_cons_succ]
      refine wpAnyH_take (i := 17) (v := ?_) rfl (by kernel_rfl) (by kernel_rfl) (by kernel_rfl) (fun _ _ _ h => h) (Or.inl ⟨by rfl, ?_⟩) hH ?_
      rotate_left
      · ((intro W hW; clear hW; go_simp) <;> with_reducible rfl)
      simp only [Act.put, List.getElem_toArray, List.getElem_cons_zero, List.getElem_cons_succ, List.setIfInBounds_toArray, List.set_cons_zero, List.set_cons_succ]
      refine wpAnyH_ready (rs := [18]) (by kernel_rfl) (by simp) ?_
      refine AllReadyH.cons (o := _) rfl (fun K hK => ?_) AllReadyH.nil
      simp only [List.getElem_toArray, List.getElem_cons_zero, List.getElem_cons_succ]
      go_simp
      with_reducible refine (at_k (k : Int) _).mono ?_
      rintro e w8 ⟨rfl, b8⟩
      dsimp only
      replace hmB := blk_u hmB b8
      replace hT := hT.below b8
      replace ap_mB := ap_mB.below b8
      replace bel := bel.trans (b8.mono bel.size)
      clear b8
      refine hK.out _ _ hmB (fun hH9 => ?_)
      clear hK K
      refine wpAnyH_take (i := 19) (v := ?_) rfl (by kernel_rfl) (by kernel_rfl) (by kernel_rfl) (fun _ _ _ h => h) (Or.inl ⟨by rfl, ?_⟩) hH9 ?_
      rotate_left
      · ((intro W hW; clear hW; go_simp) <;> with_reducible rfl)
      simp only [Act.put, List.getElem_toArray, List.getElem_cons_zero, List.getElem_cons_succ, List.setIfInBounds_toArray, List.set_cons_zero, List.set_cons_succ]
      refine wpAnyH_take (i := 20) (v := ?_) rfl (by kernel_rfl) (by kernel_rfl) (by kernel_rfl) (fun _ _ _ h => h) (Or.inl ⟨by rfl, ?_⟩) hH9 ?_
      rotate_left
      · ((intro W hW; clear hW; go_simp) <;> with_reducible rfl)
      simp only [Act.put, List.getElem_toArray, List.getElem_cons_zero, List.getElem_cons_succ, List.setIfInBounds_toArray, List.set_cons_zero, List.set_cons_succ]
      refine wpAnyH_done (by kernel_rfl) ?_ _
      go_wp2_with fail
      go_roundg ((n - ((k + 1 : Nat) : Int)).toNat)
      case measure => have := HGK_.out; have := HK.out; omega
      case rel => exact ⟨k + 1, nx + 1, l2, rfl, by have := HK.out; omega, HI2, Lib.hid (fun h_ => absurd h_ (Nat.succ_ne_zero k)), hT, by go_num, by go_num, bel⟩
    have HNP := Lib.hid hp4
    have hne : (nx == port) = true := beq_iff_eq.2 hp4
    have hpge : port ≥ 40000 := by have := HNX.out; omega
    have hpge2 : 40000 ≤ port := hpge
    clear hp4
    go_wp2_with fail
    with_reducible refine (at_k (k : Int) _).mono ?_
    rintro e w3 ⟨rfl, b3⟩
    replace hT := hT.below b3
    replace bel := bel.trans (b3.mono bel.size)
    clear b3
    go_wp2_with fail
    with_reducible refine (many_mk (q := nx + 1) _ hT HI.out HK8.out Hc3.out Hc4.out (Or.inl HK0.out) (Or.inl ⟨HNP.out, rfl⟩)).mono ?_
    rintro e w4 ⟨l2, rfl, hi_, hT_, f_, bb⟩
    clear hT
    have hT := hT_
    replace bel := bel.trans bb
    clear bb f_ hT_
    have HI2 := Lib.hid hi_
    clear hi_
    go_wp2_with (first | ((with_reducible show wpList _ _ _ (⟨some 9, _, _, _, _, _⟩ :: _) _ _); refine wpList_new_a rfl 31 rfl #[.int .i64 0, .int .i64 0, .int .u8 0, .int .u8 0, .int .u8 0, .int .u8 0, .int .i64 0, .int .i64 0, .int .i64 0] (by kernel_rfl) ?_; intro g9 w5 ge hh bb; have ap_mB := hT.ap ge; have omB := Nat.le_trans bel.size ge; replace hT := hT.below bb; replace ap_mB := ap_mB.below bb; replace bel := bel.trans (bb.mono bel.size); have hmB := hh; clear hh ge bb) | ((with_reducible show wpList _ _ _ (⟨none, Op.store _ (.tmp 9) _, _, _, _, _⟩ :: _) _ _); refine wpList_store_blk rfl 31 (.tmp 9) (.tmp 46) rfl g9 rfl _ rfl _ 31 hmB (by rfl) (by kernel_rfl) (by kernel_rfl) ?_; intro w6 hq gr; replace hT := hT.away ap_mB gr hmB; replace ap_mB := ap_mB.grown ap_mB.1 gr; replace bel := below_grown bel gr omB bel.size; clear hmB; have hmB := hq; clear hq gr))
    replace bel := bel.drew
    replace hmB : w6.drew.heap[g9]? = _ := hmB
    replace hT := tp_drew hT
    replace ap_mB := ap_drew ap_mB
    refine wp_region_held_drew (S := fun W => W.heap[g9]? = some (.cells #[.int .i64 6, .int .i64 (nx + 1), .int .u8 ((atA (k : Int)).a.toNat : Int), .int .u8 ((atA (k : Int)).b.toNat : Int), .int .u8 ((atA (k : Int)).c.toNat : Int), .int .u8 ((atA (k : Int)).d.toNat : Int), .int .i64 port, .int .i64 1, .int .i64 60] 31 (0, 0))) (by kernel_rfl) hmB (fun hH => ?_)
    generalize w6.drew = w7 at bel hmB hT ap_mB hH ⊢
    refine wpAnyH_take (i := 0) (v := ?_) rfl (by kernel_rfl) (by kernel_rfl) (by kernel_rfl) (fun _ _ _ h => h) (Or.inl ⟨by rfl, ?_⟩) hH ?_
    rotate_left
    · ((intro W hW; clear hW; go_simp) <;> with_reducible rfl)
    simp only [Act.put, List.getElem_toArray, List.getElem_cons_zero, List.setIfInBounds_toArray, List.set_cons_zero, List.set_cons_succ]
    refine wpAnyH_take (i := 1) (v := ?_) rfl (by kernel_rfl) (by kernel_rfl) (by kernel_rfl) (fun _ _ _ h => h) (Or.inl ⟨by rfl, ?_⟩) hH ?_
    rotate_left
    · ((intro W hW; clear hW; go_simp) <;> with_reducible rfl)
    simp only [Act.put, List.getElem_toArray, List.getElem_cons_zero, List.getElem_cons_succ, List.setIfInBounds_toArray, List.set_cons_zero, List.set_cons_succ]
    refine wpAnyH_take (i := 2) (v := ?_) rfl (by kernel_rfl) (by kernel_rfl) (by kernel_rfl) (fun _ _ _ h => h) (Or.inl ⟨by rfl, ?_⟩) hH ?_
    rotate_left
    · ((intro W hW; clear hW; go_simp) <;> with_reducible rfl)
    simp only [Act.put, List.getElem_toArray, List.getElem_cons_zero, List.getElem_cons_succ, List.setIfInBounds_toArray, List.set_cons_zero, List.set_cons_succ]
    refine wpAnyH_take (i := 3) (v := ?_) rfl (by kernel_rfl) (by kernel_rfl) (by kernel_rfl) (fun _ _ _ h => h) (Or.inl ⟨by rfl, ?_⟩) hH ?_
    rotate_left
    · ((intro W hW; clear hW; go_simp) <;> with_reducible rfl)
    simp only [Act.put, List.getElem_toArray, List.getElem_cons_zero, List.getElem_cons_succ, List.setIfInBounds_toArray, List.set_cons_zero, List.set_cons_succ]
    refine wpAnyH_take (i := 4) (v := ?_) rfl (by kernel_rfl) (by kernel_rfl) (by kernel_rfl) (fun _ _ _ h => h) (Or.inl ⟨by rfl, ?_⟩) hH ?_
    rotate_left
    · ((intro W hW; have hk := cell_lit (hW) 1 _ rfl; clear hW; go_simp) <;> with_reducible rfl)
    simp only [Act.put, List.getElem_toArray, List.getElem_cons_zero, List.getElem_cons_succ, List.setIfInBounds_toArray, List.set_cons_zero, List.set_cons_succ]
    refine wpAnyH_take (i := 5) (v := ?_) rfl (by kernel_rfl) (by kernel_rfl) (by kernel_rfl) (fun _ _ _ h => h) (Or.inl ⟨by rfl, ?_⟩) hH ?_
    rotate_left
    · ((intro W hW; clear hW; go_simp) <;> with_reducible rfl)
    simp only [Act.put, List.getElem_toArray, List.getElem_cons_zero, List.getElem_cons_succ, List.setIfInBounds_toArray, List.set_cons_zero, List.set_cons_succ]
    refine wpAnyH_take (i := 6) (v := ?_) rfl (by kernel_rfl) (by kernel_rfl) (by kernel_rfl) (fun _ _ _ h => h) (Or.inl ⟨by rfl, ?_⟩) hH ?_
    rotate_left
    · ((intro W hW; clear hW; go_simp) <;> with_reducible rfl)
    simp only [Act.put, List.getElem_toArray, List.getElem_cons_zero, List.getElem_cons_succ, List.setIfInBounds_toArray, List.set_cons_zero, List.set_cons_succ]
    refine wpAnyH_take (i := 7) (v := ?_) rfl (by kernel_rfl) (by kernel_rfl) (by kernel_rfl) (fun _ _ _ h => h) (Or.inl ⟨by rfl, ?_⟩) hH ?_
    rotate_left
    · ((intro W hW; clear hW; go_simp) <;> with_reducible rfl)
    simp only [Act.put, List.getElem_toArray, List.getElem_cons_zero, List.getElem_cons_succ, List.setIfInBounds_toArray, List.set_cons_zero, List.set_cons_succ]
    refine wpAnyH_take (i := 8) (v := ?_) rfl (by kernel_rfl) (by kernel_rfl) (by kernel_rfl) (fun _ _ _ h => h) (Or.inl ⟨by rfl, ?_⟩) hH ?_
    rotate_left
    · ((intro W hW; clear hW; go_simp) <;> with_reducible rfl)
    simp only [Act.put, List.getElem_toArray, List.getElem_cons_zero, List.getElem_cons_succ, List.setIfInBounds_toArray, List.set_cons_zero, List.set_cons_succ]
    refine wpAnyH_take (i := 9) (v := ?_) rfl (by kernel_rfl) (by kernel_rfl) (by kernel_rfl) (fun _ _ _ h => h) (Or.inl ⟨by rfl, ?_⟩) hH ?_
    rotate_left
    · ((intro W hW; clear hW; go_simp) <;> with_reducible rfl)
    simp only [Act.put, List.getElem_toArray, List.getElem_cons_zero, List.getElem_cons_succ, List.setIfInBounds_toArray, List.set_cons_zero, List.set_cons_succ]
    refine wpAnyH_take (i := 10) (v := ?_) rfl (by kernel_rfl) (by kernel_rfl) (by kernel_rfl) (fun _ _ _ h => h) (Or.inl ⟨by rfl, ?_⟩) hH ?_
    rotate_left
    · ((intro W hW; have hk := cell_lit (hW) 6 _ rfl; clear hW; go_simp) <;> with_reducible rfl)
    simp only [Act.put, List.getElem_toArray, List.getElem_cons_zero, List.getElem_cons_succ, List.setIfInBounds_toArray, List.set_cons_zero, List.set_cons_succ]
    refine wpAnyH_take (i := 11) (v := ?_) rfl (by kernel_rfl) (by kernel_rfl) (by kernel_rfl) (fun _ _ _ h => h) (Or.inl ⟨by rfl, ?_⟩) hH ?_
    rotate_left
    · ((intro W hW; clear hW; go_simp) <;> with_reducible rfl)
    simp only [Act.put, List.getElem_toArray, List.getElem_cons_zero, List.getElem_cons_succ, List.setIfInBounds_toArray, List.set_cons_zero, List.set_cons_succ]
    refine wpAnyH_take (i := 12) (v := ?_) rfl (by kernel_rfl) (by kernel_rfl) (by kernel_rfl) (fun _ _ _ h => h) (Or.inl ⟨by rfl, ?_⟩) hH ?_
    rotate_left
    · ((intro W hW; clear hW; go_simp) <;> with_reducible rfl)
    simp only [Act.put, List.getElem_toArray, List.getElem_cons_zero, List.getElem_cons_succ, List.setIfInBounds_toArray, List.set_cons_zero, List.set_cons_succ]
    refine wpAnyH_take (i := 13) (v := ?_) rfl (by kernel_rfl) (by kernel_rfl) (by kernel_rfl) (fun _ _ _ h => h) (Or.inl ⟨by rfl, ?_⟩) hH ?_
    rotate_left
    · ((intro W hW; clear hW; go_simp) <;> with_reducible rfl)
    simp only [Act.put, List.getElem_toArray, List.getElem_cons_zero, List.getElem_cons_succ, List.setIfInBounds_toArray, List.set_cons_zero, List.set_cons_succ]
    refine wpAnyH_take (i := 14) (v := ?_) rfl (by kernel_rfl) (by kernel_rfl) (by kernel_rfl) (fun _ _ _ h => h) (Or.inl ⟨by rfl, ?_⟩) hH ?_
    rotate_left
    · ((intro W hW; clear hW; go_simp) <;> with_reducible rfl)
    simp only [Act.put, List.getElem_toArray, List.getElem_cons_zero, List.getElem_cons_succ, List.setIfInBounds_toArray, List.set_cons_zero, List.set_cons_succ]
    refine wpAnyH_take (i := 15) (v := ?_) rfl (by kernel_rfl) (by kernel_rfl) (by kernel_rfl) (fun _ _ _ h => h) (Or.inl ⟨by rfl, ?_⟩) hH ?_
    rotate_left
    · ((intro W hW; clear hW; go_simp) <;> with_reducible rfl)
    simp only [Act.put, List.getElem_toArray, List.getElem_cons_zero, List.getElem_cons_succ, List.setIfInBounds_toArray, List.set_cons_zero, List.set_cons_succ]
    refine wpAnyH_take (i := 16) (v := .agg #[.int .u8 ((atA (k : Int)).a.toNat : Int), .int .u8 ((atA (k : Int)).b.toNat : Int), .int .u8 ((atA (k : Int)).c.toNat : Int), .int .u8 ((atA (k : Int)).d.toNat : Int)]) rfl (by kernel_rfl) (by kernel_rfl) (by kernel_rfl) (fun _ _ _ h => h) (yieldsIf_load_part (by kernel_rfl) 28 _ rfl g9 2 4 rfl _ 31 (0, 0) (fun W hW => hW) _ rfl _ Try.underlying28 rfl (by kernel_rfl)) hH ?_
    simp only [Act.put, List.getElem_toArray, List.getElem_cons_zero, List.getElem_cons_succ, List.setIfInBounds_toArray, List.set_cons_zero, List.set_cons_succ]
    refine wpAnyH_take (i := 17) (v := ?_) rfl (by kernel_rfl) (by kernel_rfl) (by kernel_rfl) (fun _ _ _ h => h) (Or.inl ⟨by rfl, ?_⟩) hH ?_
    rotate_left
    · ((intro W hW; clear hW; go_simp) <;> with_reducible rfl)
    simp only [Act.put, List.getElem_toArray, List.getElem_cons_zero, List.getElem_cons_succ, List.setIfInBounds_toArray, List.set_cons_zero, List.set_cons_succ]
    refine wpAnyH_ready (rs := [18]) (by kernel_rfl) (by simp) ?_
    refine AllReadyH.cons (o := _) rfl (fun K hK => ?_) AllReadyH.nil
    simp only [List.getElem_toArray, List.getElem_cons_zero, List.getElem_cons_succ]
    go_simp
    with_reducible refine (at_k (k : Int) _).mono ?_
    rintro e w8 ⟨rfl, b8⟩
    dsimp only
    replace hmB := blk_u hmB b8
    replace hT := hT.below b8
    replace ap_mB := ap_mB.below b8
    replace bel := bel.trans (b8.mono bel.size)
    clear b8
    refine hK.out _ _ hmB (fun hH9 => ?_)
    clear hK K
    refine wpAnyH_take (i := 19) (v := ?_) rfl (by kernel_rfl) (by kernel_rfl) (by kernel_rfl) (fun _ _ _ h => h) (Or.inl ⟨by rfl, ?_⟩) hH9 ?_
    rotate_left
    · ((intro W hW; clear hW; go_simp) <;> with_reducible rfl)
    simp only [Act.put, List.getElem_toArray, List.getElem_cons_zero, List.getElem_cons_succ, List.setIfInBounds_toArray, List.set_cons_zero, List.set_cons_succ]
    refine wpAnyH_take (i := 20) (v := ?_) rfl (by kernel_rfl) (by kernel_rfl) (by kernel_rfl) (fun _ _ _ h => h) (Or.inl ⟨by rfl, ?_⟩) hH9 ?_
    rotate_left
    · ((intro W hW; clear hW; go_simp) <;> with_reducible rfl)
    simp only [Act.put, List.getElem_toArray, List.getElem_cons_zero, List.getElem_cons_succ, List.setIfInBounds_toArray, List.set_cons_zero, List.set_cons_succ]
    refine wpAnyH_done (by kernel_rfl) ?_ _
    go_wp2_with fail
    go_roundg ((n - ((k + 1 : Nat) : Int)).toNat)
    case measure => have := HGK_.out; have := HK.out; omega
    case rel => exact ⟨k + 1, nx + 1 + 1, l2, rfl, by have := HK.out; omega, HI2, Lib.hid (fun h_ => absurd h_ (Nat.succ_ne_zero k)), hT, by go_num, by go_num, bel⟩
end Go.Proofs.Ytmjmjfcdblapcaa
