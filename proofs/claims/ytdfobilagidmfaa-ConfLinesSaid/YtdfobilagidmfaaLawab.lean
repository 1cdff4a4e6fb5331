/- ConfBounds: a number is taken just within its bounds. -/
import Derived.Test.YtdfobilagidmfaaCgf
namespace Go.Proofs.Ytdfobilagidmfaa
open Go.RowKit

theorem st_cat {x y z : List UInt8} (hz : x ++ y = z) (h : x.length + y.length ≤ 8388608) (W : World) : (Op.stringOp .add ⟨x.toArray⟩ ⟨y.toArray⟩).run Try.prog W = .ok (.string ⟨z.toArray⟩) W := by
  subst hz; exact st_add h W
theorem cparse_is {t : List UInt8} {c : Cf} {l e : Int} (h : parseS t = (c, l, e)) (ht : t.length ≤ 1000000) (w : World) : Calls Try.prog 9 #[.string ⟨t.toArray⟩] w fun r w' => ∃ Fx nf cf Ox nx cx, r = .returned (.tuple #[.agg (cfl c Fx nf cf Ox nx cx).toArray, .int .i64 l, .int .i64 e]) ∧ Sle fxf 10 w' Fx nf cf c.fixed ∧ Sle opf 7 w' Ox nx cx c.opens ∧ Fr w.heap.size Fx nf ∧ Fr w.heap.size Ox nx ∧ Below w.heap.size w w' := by
  refine (cparse_any t w ht).mono ?_
  rintro r w' ⟨Fx, nf, cf, Ox, nx, cx, rfl, hh⟩
  rw [h] at hh ⊢
  exact ⟨Fx, nf, cf, Ox, nx, cx, rfl, hh⟩
theorem rtext_v {v : Int} {n : Nat} (hv : v = n) (h : n < 1000000000) (w : World) : Calls Try.prog 13 #[.int .i64 v] w fun e w' => e = .returned (.string ⟨(decT n).toArray⟩) ∧ Below w.heap.size w w' := by
  subst hv; exact rtext_any 8 (by decide) n w (by omega)
/-- A text of one line of a name of its own. -/
theorem run_one {s v x : List UInt8} {k : Nat} (h10 : ∀ c ∈ s, c ≠ 10) (h61 : ∀ c ∈ s, c ≠ 61) (hv : ∀ c ∈ v, c ≠ 10) (hsk : ∀ r, skipL (s ++ r) = false) (ho : onlyW s = some s) (hf : (s == [102, 105, 120, 101, 100]) = false) (hp : (s == [111, 112, 101, 110]) = false) (hk : kindK s = some k) (hw : onlyW v = some x) (hx : okV k x = true) :
    runL usualC [] (linesL (s ++ 61 :: v)) 0 = .ok (usualC.put s x, [s]) := by
  have hl : linesL (s ++ 61 :: v) = [s ++ 61 :: v] := lines_one (fun c hc => by
    rcases List.mem_append.1 hc with h | h
    · exact h10 c h
    · rcases List.mem_cons.1 h with h | h
      · rw [h]; decide
      · exact hv c h) (by simp)
  have hcut := cut1_name (v := v) h61
  have e0 : lineE [] (s ++ 61 :: v) = 0 := by
    unfold lineE
    rw [if_neg (by rw [hsk]; decide), hcut]
    simp only [ho]
    rw [if_neg (by rw [hf]; decide), if_neg (by rw [hp]; decide)]
    unfold singleE
    rw [hk]
    simp only [hw, hx]
    rfl
  have e1 : lineC usualC (s ++ 61 :: v) = usualC.put s x := by
    unfold lineC
    rw [if_neg (by rw [hsk]; decide), hcut]
    simp only [ho]
    rw [if_neg (by rw [hf]; decide), if_neg (by rw [hp]; decide)]
    unfold Cf.putL
    rw [hw]
  have e2 : lineN [] (s ++ 61 :: v) = [s] := by
    unfold lineN
    rw [if_neg (by rw [hsk]; decide), hcut]
    simp only [ho]
    rw [if_neg (by rw [hf]; decide), if_neg (by rw [hp]; decide)]
    rfl
  rw [hl, runL, if_pos e0, e1, e2, runL]
theorem skip_name {c : UInt8} {s r : List UInt8} (h : isBl c = false) (h2 : (c == 35) = false) : skipL (c :: s ++ r) = false := by
  unfold skipL
  rw [List.cons_append, List.dropWhile_cons, if_neg (by rw [h]; decide)]
  exact h2
theorem parse_one {s v x : List UInt8} (hr : runL usualC [] (linesL (s ++ 61 :: v)) 0 = .ok (usualC.put s x, [s])) (hlen : s.length + v.length ≤ 1000) (hl : (linesL (s ++ 61 :: v)).length ≤ 400) {b : Bool} (hb : ((usualC.put s x).fill [s]).check = b) :
    (b = true → parseS (s ++ 61 :: v) = ((usualC.put s x).fill [s], 0, 0)) ∧ (b = false → parseS (s ++ 61 :: v) = (zeroC, 0, 1)) := by
  unfold parseS
  rw [if_neg (by simp; omega), if_neg (by omega), hr]
  simp only [hb]
  exact ⟨fun h => by rw [h]; rfl, fun h => by rw [h]; rfl⟩
theorem bnd_check0 (x : List UInt8) : ((usualC.put [116, 105, 109, 101] x).fill [[116, 105, 109, 101]]).check = inI (decV x) 60 86400 := by
  rw [Cf.check_is, show ((usualC.put [116, 105, 109, 101] x).fill [[116, 105, 109, 101]]).lanB = true by kernel_rfl, show ((usualC.put [116, 105, 109, 101] x).fill [[116, 105, 109, 101]]).poolB = true by kernel_rfl, show ((usualC.put [116, 105, 109, 101] x).fill [[116, 105, 109, 101]]).fixB = true by kernel_rfl, show ((usualC.put [116, 105, 109, 101] x).fill [[116, 105, 109, 101]]).opnB = true by kernel_rfl, show ((usualC.put [116, 105, 109, 101] x).fill [[116, 105, 109, 101]]).restB = (inI (decV x) 60 86400 && true) by kernel_rfl]
  simp
theorem bnd0 {n : Nat} (h : n < 1000000000) : (inI (n : Int) 60 86400 = true → ∃ c, parseS (116 :: 105 :: 109 :: 101 :: 61 :: decT n) = (c, 0, 0)) ∧ (inI (n : Int) 60 86400 = false → parseS (116 :: 105 :: 109 :: 101 :: 61 :: decT n) = (zeroC, 0, 1)) := by
  obtain ⟨h1, h2, h3⟩ := digits_word h
  have hd := decT_digits 8 n (by omega)
  have hlen := decT_len 8 n (by omega)
  have h10 : ∀ c ∈ decT n, c ≠ 10 := fun c hc e => by have := hd c hc; rw [e] at this; simp at this
  have hr := run_one (s := [116, 105, 109, 101]) (v := decT n) (x := decT n) (k := 0) (by decide) (by decide) h10 (fun r => skip_name (s := [105, 109, 101]) (by decide) (by decide)) (by decide) (by decide) (by decide) (by decide) h1 h2
  have hl : (linesL ([116, 105, 109, 101] ++ 61 :: decT n)).length ≤ 400 := by have := lines_len ([116, 105, 109, 101] ++ 61 :: decT n); simp only [List.length_append, List.length_cons, List.length_nil] at this; omega
  have hc := bnd_check0 (decT n)
  rw [h3] at hc
  have hp := parse_one hr (by simp; omega) hl hc
  exact ⟨fun e => ⟨_, hp.1 e⟩, hp.2⟩
theorem bnd_check1 (x : List UInt8) : ((usualC.put [117, 100, 112, 116, 105, 109, 101] x).fill [[117, 100, 112, 116, 105, 109, 101]]).check = inI (decV x) 10 86400 := by
  rw [Cf.check_is, show ((usualC.put [117, 100, 112, 116, 105, 109, 101] x).fill [[117, 100, 112, 116, 105, 109, 101]]).lanB = true by kernel_rfl, show ((usualC.put [117, 100, 112, 116, 105, 109, 101] x).fill [[117, 100, 112, 116, 105, 109, 101]]).poolB = true by kernel_rfl, show ((usualC.put [117, 100, 112, 116, 105, 109, 101] x).fill [[117, 100, 112, 116, 105, 109, 101]]).fixB = true by kernel_rfl, show ((usualC.put [117, 100, 112, 116, 105, 109, 101] x).fill [[117, 100, 112, 116, 105, 109, 101]]).opnB = true by kernel_rfl, show ((usualC.put [117, 100, 112, 116, 105, 109, 101] x).fill [[117, 100, 112, 116, 105, 109, 101]]).restB = (inI (decV x) 10 86400 && true) by kernel_rfl]
  simp
theorem bnd1 {n : Nat} (h : n < 1000000000) : (inI (n : Int) 10 86400 = true → ∃ c, parseS (117 :: 100 :: 112 :: 116 :: 105 :: 109 :: 101 :: 61 :: decT n) = (c, 0, 0)) ∧ (inI (n : Int) 10 86400 = false → parseS (117 :: 100 :: 112 :: 116 :: 105 :: 109 :: 101 :: 61 :: decT n) = (zeroC, 0, 1)) := by
  obtain ⟨h1, h2, h3⟩ := digits_word h
  have hd := decT_digits 8 n (by omega)
  have hlen := decT_len 8 n (by omega)
  have h10 : ∀ c ∈ decT n, c ≠ 10 := fun c hc e => by have := hd c hc; rw [e] at this; simp at this
  have hr := run_one (s := [117, 100, 112, 116, 105, 109, 101]) (v := decT n) (x := decT n) (k := 0) (by decide) (by decide) h10 (fun r => skip_name (s := [100, 112, 116, 105, 109, 101]) (by decide) (by decide)) (by decide) (by decide) (by decide) (by decide) h1 h2
  have hl : (linesL ([117, 100, 112, 116, 105, 109, 101] ++ 61 :: decT n)).length ≤ 400 := by have := lines_len ([117, 100, 112, 116, 105, 109, 101] ++ 61 :: decT n); simp only [List.length_append, List.length_cons, List.length_nil] at this; omega
  have hc := bnd_check1 (decT n)
  rw [h3] at hc
  have hp := parse_one hr (by simp; omega) hl hc
  exact ⟨fun e => ⟨_, hp.1 e⟩, hp.2⟩
theorem bnd_check2 (x : List UInt8) : ((usualC.put [116, 99, 112, 116, 105, 109, 101] x).fill [[116, 99, 112, 116, 105, 109, 101]]).check = inI (decV x) 10 86400 := by
  rw [Cf.check_is, show ((usualC.put [116, 99, 112, 116, 105, 109, 101] x).fill [[116, 99, 112, 116, 105, 109, 101]]).lanB = true by kernel_rfl, show ((usualC.put [116, 99, 112, 116, 105, 109, 101] x).fill [[116, 99, 112, 116, 105, 109, 101]]).poolB = true by kernel_rfl, show ((usualC.put [116, 99, 112, 116, 105, 109, 101] x).fill [[116, 99, 112, 116, 105, 109, 101]]).fixB = true by kernel_rfl, show ((usualC.put [116, 99, 112, 116, 105, 109, 101] x).fill [[116, 99, 112, 116, 105, 109, 101]]).opnB = true by kernel_rfl, show ((usualC.put [116, 99, 112, 116, 105, 109, 101] x).fill [[116, 99, 112, 116, 105, 109, 101]]).restB = (inI (decV x) 10 86400 && true) by kernel_rfl]
  simp
theorem bnd2 {n : Nat} (h : n < 1000000000) : (inI (n : Int) 10 86400 = true → ∃ c, parseS (116 :: 99 :: 112 :: 116 :: 105 :: 109 :: 101 :: 61 :: decT n) = (c, 0, 0)) ∧ (inI (n : Int) 10 86400 = false → parseS (116 :: 99 :: 112 :: 116 :: 105 :: 109 :: 101 :: 61 :: decT n) = (zeroC, 0, 1)) := by
  obtain ⟨h1, h2, h3⟩ := digits_word h
  have hd := decT_digits 8 n (by omega)
  have hlen := decT_len 8 n (by omega)
  have h10 : ∀ c ∈ decT n, c ≠ 10 := fun c hc e => by have := hd c hc; rw [e] at this; simp at this
  have hr := run_one (s := [116, 99, 112, 116, 105, 109, 101]) (v := decT n) (x := decT n) (k := 0) (by decide) (by decide) h10 (fun r => skip_name (s := [99, 112, 116, 105, 109, 101]) (by decide) (by decide)) (by decide) (by decide) (by decide) (by decide) h1 h2
  have hl : (linesL ([116, 99, 112, 116, 105, 109, 101] ++ 61 :: decT n)).length ≤ 400 := by have := lines_len ([116, 99, 112, 116, 105, 109, 101] ++ 61 :: decT n); simp only [List.length_append, List.length_cons, List.length_nil] at this; omega
  have hc := bnd_check2 (decT n)
  rw [h3] at hc
  have hp := parse_one hr (by simp; omega) hl hc
  exact ⟨fun e => ⟨_, hp.1 e⟩, hp.2⟩
theorem bnd_check3 (x : List UInt8) : ((usualC.put [105, 99, 109, 112, 116, 105, 109, 101] x).fill [[105, 99, 109, 112, 116, 105, 109, 101]]).check = inI (decV x) 10 86400 := by
  rw [Cf.check_is, show ((usualC.put [105, 99, 109, 112, 116, 105, 109, 101] x).fill [[105, 99, 109, 112, 116, 105, 109, 101]]).lanB = true by kernel_rfl, show ((usualC.put [105, 99, 109, 112, 116, 105, 109, 101] x).fill [[105, 99, 109, 112, 116, 105, 109, 101]]).poolB = true by kernel_rfl, show ((usualC.put [105, 99, 109, 112, 116, 105, 109, 101] x).fill [[105, 99, 109, 112, 116, 105, 109, 101]]).fixB = true by kernel_rfl, show ((usualC.put [105, 99, 109, 112, 116, 105, 109, 101] x).fill [[105, 99, 109, 112, 116, 105, 109, 101]]).opnB = true by kernel_rfl, show ((usualC.put [105, 99, 109, 112, 116, 105, 109, 101] x).fill [[105, 99, 109, 112, 116, 105, 109, 101]]).restB = (inI (decV x) 10 86400 && true) by kernel_rfl]
  simp
theorem bnd3 {n : Nat} (h : n < 1000000000) : (inI (n : Int) 10 86400 = true → ∃ c, parseS (105 :: 99 :: 109 :: 112 :: 116 :: 105 :: 109 :: 101 :: 61 :: decT n) = (c, 0, 0)) ∧ (inI (n : Int) 10 86400 = false → parseS (105 :: 99 :: 109 :: 112 :: 116 :: 105 :: 109 :: 101 :: 61 :: decT n) = (zeroC, 0, 1)) := by
  obtain ⟨h1, h2, h3⟩ := digits_word h
  have hd := decT_digits 8 n (by omega)
  have hlen := decT_len 8 n (by omega)
  have h10 : ∀ c ∈ decT n, c ≠ 10 := fun c hc e => by have := hd c hc; rw [e] at this; simp at this
  have hr := run_one (s := [105, 99, 109, 112, 116, 105, 109, 101]) (v := decT n) (x := decT n) (k := 0) (by decide) (by decide) h10 (fun r => skip_name (s := [99, 109, 112, 116, 105, 109, 101]) (by decide) (by decide)) (by decide) (by decide) (by decide) (by decide) h1 h2
  have hl : (linesL ([105, 99, 109, 112, 116, 105, 109, 101] ++ 61 :: decT n)).length ≤ 400 := by have := lines_len ([105, 99, 109, 112, 116, 105, 109, 101] ++ 61 :: decT n); simp only [List.length_append, List.length_cons, List.length_nil] at this; omega
  have hc := bnd_check3 (decT n)
  rw [h3] at hc
  have hp := parse_one hr (by simp; omega) hl hc
  exact ⟨fun e => ⟨_, hp.1 e⟩, hp.2⟩
theorem bnd_check4 (x : List UInt8) : ((usualC.put [108, 111, 119] x).fill [[108, 111, 119]]).check = inI (decV x) 1024 60000 := by
  rw [Cf.check_is, show ((usualC.put [108, 111, 119] x).fill [[108, 111, 119]]).lanB = true by kernel_rfl, show ((usualC.put [108, 111, 119] x).fill [[108, 111, 119]]).poolB = true by kernel_rfl, show ((usualC.put [108, 111, 119] x).fill [[108, 111, 119]]).fixB = true by kernel_rfl, show ((usualC.put [108, 111, 119] x).fill [[108, 111, 119]]).opnB = true by kernel_rfl, show ((usualC.put [108, 111, 119] x).fill [[108, 111, 119]]).restB = inI (decV x) 1024 60000 by kernel_rfl]
  simp
theorem bnd4 {n : Nat} (h : n < 1000000000) : (inI (n : Int) 1024 60000 = true → ∃ c, parseS (108 :: 111 :: 119 :: 61 :: decT n) = (c, 0, 0)) ∧ (inI (n : Int) 1024 60000 = false → parseS (108 :: 111 :: 119 :: 61 :: decT n) = (zeroC, 0, 1)) := by
  obtain ⟨h1, h2, h3⟩ := digits_word h
  have hd := decT_digits 8 n (by omega)
  have hlen := decT_len 8 n (by omega)
  have h10 : ∀ c ∈ decT n, c ≠ 10 := fun c hc e => by have := hd c hc; rw [e] at this; simp at this
  have hr := run_one (s := [108, 111, 119]) (v := decT n) (x := decT n) (k := 0) (by decide) (by decide) h10 (fun r => skip_name (s := [111, 119]) (by decide) (by decide)) (by decide) (by decide) (by decide) (by decide) h1 h2
  have hl : (linesL ([108, 111, 119] ++ 61 :: decT n)).length ≤ 400 := by have := lines_len ([108, 111, 119] ++ 61 :: decT n); simp only [List.length_append, List.length_cons, List.length_nil] at this; omega
  have hc := bnd_check4 (decT n)
  rw [h3] at hc
  have hp := parse_one hr (by simp; omega) hl hc
  exact ⟨fun e => ⟨_, hp.1 e⟩, hp.2⟩
set_option linter.unusedVariables false in
set_option linter.unusedSimpArgs false in
set_option maxRecDepth 100000 in
set_option maxHeartbeats 16000000 in
theorem confBounds_walk (k v : Int) (w : World) : Calls Try.prog 5 #[.int .i64 k, .int .i64 v] w fun e w' => e = .returned (.bool true) ∧ Below w.heap.size w w' := by
  have bel := Below.refl w.heap.size w
  go_enter Try.func5, Try.ntmps5
  go_wp2_with fail
  with_reducible refine (awake_any _).mono ?_
  rintro e w1 ⟨rfl, b1⟩
  replace bel := bel.trans (b1.mono bel.size)
  clear b1
  by_cases c0 : k < 0
  · go_wp2_with fail
    go_ret
    exact ⟨rfl, bel⟩
  · have c0_ : decide (k < 0) = false := decide_eq_false c0
    by_cases c1 : 4 < k
    · go_wp2_with fail
      go_ret
      exact ⟨rfl, bel⟩
    · have c1_ : decide (4 < k) = false := decide_eq_false c1
      by_cases c2 : v < 0
      · go_wp2_with fail
        go_ret
        exact ⟨rfl, bel⟩
      · have c2_ : decide (v < 0) = false := decide_eq_false c2
        by_cases c3 : 999999999 < v
        · go_wp2_with fail
          go_ret
          exact ⟨rfl, bel⟩
        · have c3_ : decide (999999999 < v) = false := decide_eq_false c3
          obtain ⟨n, hn⟩ : ∃ n : Nat, v = (n : Int) := ⟨v.toNat, by omega⟩
          have HV := Lib.hid hn
          have hn9 : n < 1000000000 := by omega
          have HDL := Lib.hid (decT_len 8 n (by omega))
          clear hn
          rcases (by omega : k = 0 ∨ k = 1 ∨ k = 2 ∨ k = 3 ∨ k = 4) with rfl | rfl | rfl | rfl | rfl
          · have HTL : Hid ((116 :: 105 :: 109 :: 101 :: 61 :: decT n).length ≤ 1000000) := Lib.hid (by have := HDL.out; simp; omega)
            by_cases blo : (60 : Int) ≤ v
            · by_cases bhi : v ≤ (86400 : Int)
              · have hnlo : (60 : Int) ≤ n := by have := HV.out; omega
                have hnhi : (n : Int) ≤ 86400 := by have := HV.out; omega
                obtain ⟨cc, hcc⟩ := (bnd0 hn9).1 (by unfold inI; rw [decide_eq_true (by omega : (60 : Int) ≤ n), decide_eq_true (by omega : (n : Int) ≤ 86400)]; rfl)
                have HPS := Lib.hid hcc
                clear hcc
                clear hnlo hnhi
                go_wp2_with (first | ((with_reducible show wpList _ _ _ (⟨some 27, _, _, _, _, _⟩ :: _) _ _); refine wpList_lit_n rfl 47 9 5 _ rfl #[.string ⟨#[116, 105, 109, 101]⟩, .string ⟨#[117, 100, 112, 116, 105, 109, 101]⟩, .string ⟨#[116, 99, 112, 116, 105, 109, 101]⟩, .string ⟨#[105, 99, 109, 112, 116, 105, 109, 101]⟩, .string ⟨#[108, 111, 119]⟩] (.string ⟨#[]⟩) Try.underlying47 (by kernel_rfl) 1 (by kernel_rfl) (by decide) (by kernel_rfl) ?_; intro g27 w2 ge lt hh bb; have ob27 := Nat.le_trans bel.size ge; replace bel := bel.trans (bb.mono bel.size); have hb27 := hh; clear hh lt ge bb; have R30 := cell_lit hb27 0 _ rfl) | ((with_reducible show wpList _ _ _ (⟨some 31, _, _, _, _, _⟩ :: _) _ _); refine wpList_lit_n rfl 46 3 5 _ rfl #[.int .i64 60, .int .i64 10, .int .i64 10, .int .i64 10, .int .i64 1024] (.int .i64 0) Try.underlying46 (by kernel_rfl) 1 (by kernel_rfl) (by decide) (by kernel_rfl) ?_; intro g31 w3 ge lt hh bb; have d_b27_b31 := ne_new (hlt hb27) ge; have ob31 := Nat.le_trans bel.size ge; replace hb27 := blk_u hb27 bb; replace bel := bel.trans (bb.mono bel.size); have hb31 := hh; clear hh lt ge bb; have R34 := cell_lit hb31 0 _ rfl) | ((with_reducible show wpList _ _ _ (⟨some 35, _, _, _, _, _⟩ :: _) _ _); refine wpList_lit_n rfl 46 3 5 _ rfl #[.int .i64 86400, .int .i64 86400, .int .i64 86400, .int .i64 86400, .int .i64 60000] (.int .i64 0) Try.underlying46 (by kernel_rfl) 1 (by kernel_rfl) (by decide) (by kernel_rfl) ?_; intro g35 w4 ge lt hh bb; have d_b27_b35 := ne_new (hlt hb27) ge; have d_b31_b35 := ne_new (hlt hb31) ge; have ob35 := Nat.le_trans bel.size ge; replace hb27 := blk_u hb27 bb; replace hb31 := blk_u hb31 bb; replace bel := bel.trans (bb.mono bel.size); have hb35 := hh; clear hh lt ge bb; have R38 := cell_lit hb35 0 _ rfl; have R41 := fun W => st_cat (x := [116, 105, 109, 101]) (y := [61]) (z := [116, 105, 109, 101, 61]) rfl (by decide) W))
                try clear R30
                try clear R34
                try clear R38
                try clear R41
                with_reducible refine (rtext_v HV.out hn9 _).mono ?_
                rintro e w5 ⟨rfl, b5⟩
                replace hb27 := blk_u hb27 b5
                replace hb31 := blk_u hb31 b5
                replace hb35 := blk_u hb35 b5
                replace bel := bel.trans (b5.mono bel.size)
                clear b5
                have R44 := fun W => st_cat (x := [116, 105, 109, 101, 61]) (y := decT n) (z := 116 :: 105 :: 109 :: 101 :: 61 :: decT n) rfl (by have := HDL.out; simp; omega) W
                go_wp2_with fail
                clear R44
                with_reducible refine (cparse_is HPS.out HTL.out _).mono ?_
                rintro e w6 ⟨Fx, nf, cf, Ox, nx, cx, rfl, hf, ho, frF, frO, b6⟩
                replace hb27 := blk_u hb27 b6
                replace hb31 := blk_u hb31 b6
                replace hb35 := blk_u hb35 b6
                replace bel := bel.trans (b6.mono bel.size)
                clear b6
                clear hf ho frF frO
                go_wp2_with (first | ((with_reducible show wpList _ _ _ (⟨some 8, _, _, _, _, _⟩ :: _) _ _); refine wpList_new_a rfl 32 rfl #[.int .u8 0, .int .u8 0, .int .u8 0, .int .u8 0, .int .u8 0, .int .u8 0, .int .u8 0, .int .u8 0, .int .i64 0, .int .u8 0, .int .u8 0, .int .u8 0, .int .u8 0, .int .u8 0, .int .u8 0, .int .u8 0, .int .u8 0, .int .u8 0, .int .u8 0, .int .u8 0, .int .u8 0, .int .u8 0, .int .u8 0, .int .u8 0, .int .u8 0, .int .u8 0, .int .u8 0, .int .u8 0, .int .u8 0, .int .i64 0, .int .u8 0, .int .u8 0, .int .u8 0, .int .u8 0, .int .i64 0, .int .i64 0, .int .i64 0, .int .i64 0, .slice none 0 0, .slice none 0 0] (by kernel_rfl) ?_; intro g8 w7 ge hh bb; have d_b27_ca := ne_new (hlt hb27) ge; have d_b31_ca := ne_new (hlt hb31) ge; have d_b35_ca := ne_new (hlt hb35) ge; have oca := Nat.le_trans bel.size ge; replace hb27 := blk_u hb27 bb; replace hb31 := blk_u hb31 bb; replace hb35 := blk_u hb35 bb; replace bel := bel.trans (bb.mono bel.size); have hca := hh; clear hh ge bb) | ((with_reducible show wpList _ _ _ (⟨none, Op.store _ (.tmp 8) _, _, _, _, _⟩ :: _) _ _); refine wpList_store_blk rfl 32 (.tmp 8) (.tmp 46) rfl g8 rfl _ rfl _ 32 hca (by rfl) (by kernel_rfl) (by kernel_rfl) ?_; intro w8 hq gr; replace hb27 := blk_a hb27 gr d_b27_ca; replace hb31 := blk_a hb31 gr d_b31_ca; replace hb35 := blk_a hb35 gr d_b35_ca; replace bel := below_grown bel gr oca bel.size; clear hca; have hca := hq; clear hq gr))
                go_ret
                exact ⟨rfl, bel⟩
              · have bhi_ : decide (v ≤ (86400 : Int)) = false := decide_eq_false bhi
                have HPS := Lib.hid ((bnd0 hn9).2 (by unfold inI; rw [decide_eq_false (by have := HV.out; omega : ¬ (n : Int) ≤ 86400), Bool.and_false]))
                go_wp2_with (first | ((with_reducible show wpList _ _ _ (⟨some 27, _, _, _, _, _⟩ :: _) _ _); refine wpList_lit_n rfl 47 9 5 _ rfl #[.string ⟨#[116, 105, 109, 101]⟩, .string ⟨#[117, 100, 112, 116, 105, 109, 101]⟩, .string ⟨#[116, 99, 112, 116, 105, 109, 101]⟩, .string ⟨#[105, 99, 109, 112, 116, 105, 109, 101]⟩, .string ⟨#[108, 111, 119]⟩] (.string ⟨#[]⟩) Try.underlying47 (by kernel_rfl) 1 (by kernel_rfl) (by decide) (by kernel_rfl) ?_; intro g27 w2 ge lt hh bb; have ob27 := Nat.le_trans bel.size ge; replace bel := bel.trans (bb.mono bel.size); have hb27 := hh; clear hh lt ge bb; have R30 := cell_lit hb27 0 _ rfl) | ((with_reducible show wpList _ _ _ (⟨some 31, _, _, _, _, _⟩ :: _) _ _); refine wpList_lit_n rfl 46 3 5 _ rfl #[.int .i64 60, .int .i64 10, .int .i64 10, .int .i64 10, .int .i64 1024] (.int .i64 0) Try.underlying46 (by kernel_rfl) 1 (by kernel_rfl) (by decide) (by kernel_rfl) ?_; intro g31 w3 ge lt hh bb; have d_b27_b31 := ne_new (hlt hb27) ge; have ob31 := Nat.le_trans bel.size ge; replace hb27 := blk_u hb27 bb; replace bel := bel.trans (bb.mono bel.size); have hb31 := hh; clear hh lt ge bb; have R34 := cell_lit hb31 0 _ rfl) | ((with_reducible show wpList _ _ _ (⟨some 35, _, _, _, _, _⟩ :: _) _ _); refine wpList_lit_n rfl 46 3 5 _ rfl #[.int .i64 86400, .int .i64 86400, .int .i64 86400, .int .i64 86400, .int .i64 60000] (.int .i64 0) Try.underlying46 (by kernel_rfl) 1 (by kernel_rfl) (by decide) (by kernel_rfl) ?_; intro g35 w4 ge lt hh bb; have d_b27_b35 := ne_new (hlt hb27) ge; have d_b31_b35 := ne_new (hlt hb31) ge; have ob35 := Nat.le_trans bel.size ge; replace hb27 := blk_u hb27 bb; replace hb31 := blk_u hb31 bb; replace bel := bel.trans (bb.mono bel.size); have hb35 := hh; clear hh lt ge bb; have R38 := cell_lit hb35 0 _ rfl; have R41 := fun W => st_cat (x := [116, 105, 109, 101]) (y := [61]) (z := [116, 105, 109, 101, 61]) rfl (by decide) W))
                try clear R30
                try clear R34
                try clear R38
                try clear R41
                with_reducible refine (rtext_v HV.out hn9 _).mono ?_
                rintro e w5 ⟨rfl, b5⟩
                replace hb27 := blk_u hb27 b5
                replace hb31 := blk_u hb31 b5
                replace hb35 := blk_u hb35 b5
                replace bel := bel.trans (b5.mono bel.size)
                clear b5
                have R44 := fun W => st_cat (x := [116, 105, 109, 101, 61]) (y := decT n) (z := 116 :: 105 :: 109 :: 101 :: 61 :: decT n) rfl (by have := HDL.out; simp; omega) W
                go_wp2_with fail
                clear R44
                with_reducible refine (cparse_is HPS.out HTL.out _).mono ?_
                rintro e w6 ⟨Fx, nf, cf, Ox, nx, cx, rfl, hf, ho, frF, frO, b6⟩
                replace hb27 := blk_u hb27 b6
                replace hb31 := blk_u hb31 b6
                replace hb35 := blk_u hb35 b6
                replace bel := bel.trans (b6.mono bel.size)
                clear b6
                clear hf ho frF frO
                go_wp2_with (first | ((with_reducible show wpList _ _ _ (⟨some 8, _, _, _, _, _⟩ :: _) _ _); refine wpList_new_a rfl 32 rfl #[.int .u8 0, .int .u8 0, .int .u8 0, .int .u8 0, .int .u8 0, .int .u8 0, .int .u8 0, .int .u8 0, .int .i64 0, .int .u8 0, .int .u8 0, .int .u8 0, .int .u8 0, .int .u8 0, .int .u8 0, .int .u8 0, .int .u8 0, .int .u8 0, .int .u8 0, .int .u8 0, .int .u8 0, .int .u8 0, .int .u8 0, .int .u8 0, .int .u8 0, .int .u8 0, .int .u8 0, .int .u8 0, .int .u8 0, .int .i64 0, .int .u8 0, .int .u8 0, .int .u8 0, .int .u8 0, .int .i64 0, .int .i64 0, .int .i64 0, .int .i64 0, .slice none 0 0, .slice none 0 0] (by kernel_rfl) ?_; intro g8 w7 ge hh bb; have d_b27_ca := ne_new (hlt hb27) ge; have d_b31_ca := ne_new (hlt hb31) ge; have d_b35_ca := ne_new (hlt hb35) ge; have oca := Nat.le_trans bel.size ge; replace hb27 := blk_u hb27 bb; replace hb31 := blk_u hb31 bb; replace hb35 := blk_u hb35 bb; replace bel := bel.trans (bb.mono bel.size); have hca := hh; clear hh ge bb) | ((with_reducible show wpList _ _ _ (⟨none, Op.store _ (.tmp 8) _, _, _, _, _⟩ :: _) _ _); refine wpList_store_blk rfl 32 (.tmp 8) (.tmp 46) rfl g8 rfl _ rfl _ 32 hca (by rfl) (by kernel_rfl) (by kernel_rfl) ?_; intro w8 hq gr; replace hb27 := blk_a hb27 gr d_b27_ca; replace hb31 := blk_a hb31 gr d_b31_ca; replace hb35 := blk_a hb35 gr d_b35_ca; replace bel := below_grown bel gr oca bel.size; clear hca; have hca := hq; clear hq gr))
                go_ret
                exact ⟨rfl, bel⟩
            · have blo_ : decide ((60 : Int) ≤ v) = false := decide_eq_false blo
              have HPS := Lib.hid ((bnd0 hn9).2 (by unfold inI; rw [decide_eq_false (by have := HV.out; omega : ¬ (60 : Int) ≤ n)]; rfl))
              go_wp2_with (first | ((with_reducible show wpList _ _ _ (⟨some 27, _, _, _, _, _⟩ :: _) _ _); refine wpList_lit_n rfl 47 9 5 _ rfl #[.string ⟨#[116, 105, 109, 101]⟩, .string ⟨#[117, 100, 112, 116, 105, 109, 101]⟩, .string ⟨#[116, 99, 112, 116, 105, 109, 101]⟩, .string ⟨#[105, 99, 109, 112, 116, 105, 109, 101]⟩, .string ⟨#[108, 111, 119]⟩] (.string ⟨#[]⟩) Try.underlying47 (by kernel_rfl) 1 (by kernel_rfl) (by decide) (by kernel_rfl) ?_; intro g27 w2 ge lt hh bb; have ob27 := Nat.le_trans bel.size ge; replace bel := bel.trans (bb.mono bel.size); have hb27 := hh; clear hh lt ge bb; have R30 := cell_lit hb27 0 _ rfl) | ((with_reducible show wpList _ _ _ (⟨some 31, _, _, _, _, _⟩ :: _) _ _); refine wpList_lit_n rfl 46 3 5 _ rfl #[.int .i64 60, .int .i64 10, .int .i64 10, .int .i64 10, .int .i64 1024] (.int .i64 0) Try.underlying46 (by kernel_rfl) 1 (by kernel_rfl) (by decide) (by kernel_rfl) ?_; intro g31 w3 ge lt hh bb; have d_b27_b31 := ne_new (hlt hb27) ge; have ob31 := Nat.le_trans bel.size ge; replace hb27 := blk_u hb27 bb; replace bel := bel.trans (bb.mono bel.size); have hb31 := hh; clear hh lt ge bb; have R34 := cell_lit hb31 0 _ rfl) | ((with_reducible show wpList _ _ _ (⟨some 35, _, _, _, _, _⟩ :: _) _ _); refine wpList_lit_n rfl 46 3 5 _ rfl #[.int .i64 86400, .int .i64 86400, .int .i64 86400, .int .i64 86400, .int .i64 60000] (.int .i64 0) Try.underlying46 (by kernel_rfl) 1 (by kernel_rfl) (by decide) (by kernel_rfl) ?_; intro g35 w4 ge lt hh bb; have d_b27_b35 := ne_new (hlt hb27) ge; have d_b31_b35 := ne_new (hlt hb31) ge; have ob35 := Nat.le_trans bel.size ge; replace hb27 := blk_u hb27 bb; replace hb31 := blk_u hb31 bb; replace bel := bel.trans (bb.mono bel.size); have hb35 := hh; clear hh lt ge bb; have R38 := cell_lit hb35 0 _ rfl; have R41 := fun W => st_cat (x := [116, 105, 109, 101]) (y := [61]) (z := [116, 105, 109, 101, 61]) rfl (by decide) W))
              try clear R30
              try clear R34
              try clear R38
              try clear R41
              with_reducible refine (rtext_v HV.out hn9 _).mono ?_
              rintro e w5 ⟨rfl, b5⟩
              replace hb27 := blk_u hb27 b5
              replace hb31 := blk_u hb31 b5
              replace hb35 := blk_u hb35 b5
              replace bel := bel.trans (b5.mono bel.size)
              clear b5
              have R44 := fun W => st_cat (x := [116, 105, 109, 101, 61]) (y := decT n) (z := 116 :: 105 :: 109 :: 101 :: 61 :: decT n) rfl (by have := HDL.out; simp; omega) W
              go_wp2_with fail
              clear R44
              with_reducible refine (cparse_is HPS.out HTL.out _).mono ?_
              rintro e w6 ⟨Fx, nf, cf, Ox, nx, cx, rfl, hf, ho, frF, frO, b6⟩
              replace hb27 := blk_u hb27 b6
              replace hb31 := blk_u hb31 b6
              replace hb35 := blk_u hb35 b6
              replace bel := bel.trans (b6.mono bel.size)
              clear b6
              clear hf ho frF frO
              go_wp2_with (first | ((with_reducible show wpList _ _ _ (⟨some 8, _, _, _, _, _⟩ :: _) _ _); refine wpList_new_a rfl 32 rfl #[.int .u8 0, .int .u8 0, .int .u8 0, .int .u8 0, .int .u8 0, .int .u8 0, .int .u8 0, .int .u8 0, .int .i64 0, .int .u8 0, .int .u8 0, .int .u8 0, .int .u8 0, .int .u8 0, .int .u8 0, .int .u8 0, .int .u8 0, .int .u8 0, .int .u8 0, .int .u8 0, .int .u8 0, .int .u8 0, .int .u8 0, .int .u8 0, .int .u8 0, .int .u8 0, .int .u8 0, .int .u8 0, .int .u8 0, .int .i64 0, .int .u8 0, .int .u8 0, .int .u8 0, .int .u8 0, .int .i64 0, .int .i64 0, .int .i64 0, .int .i64 0, .slice none 0 0, .slice none 0 0] (by kernel_rfl) ?_; intro g8 w7 ge hh bb; have d_b27_ca := ne_new (hlt hb27) ge; have d_b31_ca := ne_new (hlt hb31) ge; have d_b35_ca := ne_new (hlt hb35) ge; have oca := Nat.le_trans bel.size ge; replace hb27 := blk_u hb27 bb; replace hb31 := blk_u hb31 bb; replace hb35 := blk_u hb35 bb; replace bel := bel.trans (bb.mono bel.size); have hca := hh; clear hh ge bb) | ((with_reducible show wpList _ _ _ (⟨none, Op.store _ (.tmp 8) _, _, _, _, _⟩ :: _) _ _); refine wpList_store_blk rfl 32 (.tmp 8) (.tmp 46) rfl g8 rfl _ rfl _ 32 hca (by rfl) (by kernel_rfl) (by kernel_rfl) ?_; intro w8 hq gr; replace hb27 := blk_a hb27 gr d_b27_ca; replace hb31 := blk_a hb31 gr d_b31_ca; replace hb35 := blk_a hb35 gr d_b35_ca; replace bel := below_grown bel gr oca bel.size; clear hca; have hca := hq; clear hq gr))
              go_ret
              exact ⟨rfl, bel⟩
          · have HTL : Hid ((117 :: 100 :: 112 :: 116 :: 105 :: 109 :: 101 :: 61 :: decT n).length ≤ 1000000) := Lib.hid (by have := HDL.out; simp; omega)
            by_cases blo : (10 : Int) ≤ v
            · by_cases bhi : v ≤ (86400 : Int)
              · have hnlo : (10 : Int) ≤ n := by have := HV.out; omega
                have hnhi : (n : Int) ≤ 86400 := by have := HV.out; omega
                obtain ⟨cc, hcc⟩ := (bnd1 hn9).1 (by unfold inI; rw [decide_eq_true (by omega : (10 : Int) ≤ n), decide_eq_true (by omega : (n : Int) ≤ 86400)]; rfl)
                have HPS := Lib.hid hcc
                clear hcc
                clear hnlo hnhi
                go_wp2_with (first | ((with_reducible show wpList _ _ _ (⟨some 27, _, _, _, _, _⟩ :: _) _ _); refine wpList_lit_n rfl 47 9 5 _ rfl #[.string ⟨#[116, 105, 109, 101]⟩, .string ⟨#[117, 100, 112, 116, 105, 109, 101]⟩, .string ⟨#[116, 99, 112, 116, 105, 109, 101]⟩, .string ⟨#[105, 99, 109, 112, 116, 105, 109, 101]⟩, .string ⟨#[108, 111, 119]⟩] (.string ⟨#[]⟩) Try.underlying47 (by kernel_rfl) 1 (by kernel_rfl) (by decide) (by kernel_rfl) ?_; intro g27 w2 ge lt hh bb; have ob27 := Nat.le_trans bel.size ge; replace bel := bel.trans (bb.mono bel.size); have hb27 := hh; clear hh lt ge bb; have R30 := cell_lit hb27 1 _ rfl) | ((with_reducible show wpList _ _ _ (⟨some 31, _, _, _, _, _⟩ :: _) _ _); refine wpList_lit_n rfl 46 3 5 _ rfl #[.int .i64 60, .int .i64 10, .int .i64 10, .int .i64 10, .int .i64 1024] (.int .i64 0) Try.underlying46 (by kernel_rfl) 1 (by kernel_rfl) (by decide) (by kernel_rfl) ?_; intro g31 w3 ge lt hh bb; have d_b27_b31 := ne_new (hlt hb27) ge; have ob31 := Nat.le_trans bel.size ge; replace hb27 := blk_u hb27 bb; replace bel := bel.trans (bb.mono bel.size); have hb31 := hh; clear hh lt ge bb; have R34 := cell_lit hb31 1 _ rfl) | ((with_reducible show wpList _ _ _ (⟨some 35, _, _, _, _, _⟩ :: _) _ _); refine wpList_lit_n rfl 46 3 5 _ rfl #[.int .i64 86400, .int .i64 86400, .int .i64 86400, .int .i64 86400, .int .i64 60000] (.int .i64 0) Try.underlying46 (by kernel_rfl) 1 (by kernel_rfl) (by decide) (by kernel_rfl) ?_; intro g35 w4 ge lt hh bb; have d_b27_b35 := ne_new (hlt hb27) ge; have d_b31_b35 := ne_new (hlt hb31) ge; have ob35 := Nat.le_trans bel.size ge; replace hb27 := blk_u hb27 bb; replace hb31 := blk_u hb31 bb; replace bel := bel.trans (bb.mono bel.size); have hb35 := hh; clear hh lt ge bb; have R38 := cell_lit hb35 1 _ rfl; have R41 := fun W => st_cat (x := [117, 100, 112, 116, 105, 109, 101]) (y := [61]) (z := [117, 100, 112, 116, 105, 109, 101, 61]) rfl (by decide) W))
                try clear R30
                try clear R34
                try clear R38
                try clear R41
                with_reducible refine (rtext_v HV.out hn9 _).mono ?_
                rintro e w5 ⟨rfl, b5⟩
                replace hb27 := blk_u hb27 b5
                replace hb31 := blk_u hb31 b5
                replace hb35 := blk_u hb35 b5
                replace bel := bel.trans (b5.mono bel.size)
                clear b5
                have R44 := fun W => st_cat (x := [117, 100, 112, 116, 105, 109, 101, 61]) (y := decT n) (z := 117 :: 100 :: 112 :: 116 :: 105 :: 109 :: 101 :: 61 :: decT n) rfl (by have := HDL.out; simp; omega) W
                go_wp2_with fail
                clear R44
                with_reducible refine (cparse_is HPS.out HTL.out _).mono ?_
                rintro e w6 ⟨Fx, nf, cf, Ox, nx, cx, rfl, hf, ho, frF, frO, b6⟩
                replace hb27 := blk_u hb27 b6
                replace hb31 := blk_u hb31 b6
                replace hb35 := blk_u hb35 b6
                replace bel := bel.trans (b6.mono bel.size)
                clear b6
                clear hf ho frF frO
                go_wp2_with (first | ((with_reducible show wpList _ _ _ (⟨some 8, _, _, _, _, _⟩ :: _) _ _); refine wpList_new_a rfl 32 rfl #[.int .u8 0, .int .u8 0, .int .u8 0, .int .u8 0, .int .u8 0, .int .u8 0, .int .u8 0, .int .u8 0, .int .i64 0, .int .u8 0, .int .u8 0, .int .u8 0, .int .u8 0, .int .u8 0, .int .u8 0, .int .u8 0, .int .u8 0, .int .u8 0, .int .u8 0, .int .u8 0, .int .u8 0, .int .u8 0, .int .u8 0, .int .u8 0, .int .u8 0, .int .u8 0, .int .u8 0, .int .u8 0, .int .u8 0, .int .i64 0, .int .u8 0, .int .u8 0, .int .u8 0, .int .u8 0, .int .i64 0, .int .i64 0, .int .i64 0, .int .i64 0, .slice none 0 0, .slice none 0 0] (by kernel_rfl) ?_; intro g8 w7 ge hh bb; have d_b27_ca := ne_new (hlt hb27) ge; have d_b31_ca := ne_new (hlt hb31) ge; have d_b35_ca := ne_new (hlt hb35) ge; have oca := Nat.le_trans bel.size ge; replace hb27 := blk_u hb27 bb; replace hb31 := blk_u hb31 bb; replace hb35 := blk_u hb35 bb; replace bel := bel.trans (bb.mono bel.size); have hca := hh; clear hh ge bb) | ((with_reducible show wpList _ _ _ (⟨none, Op.store _ (.tmp 8) _, _, _, _, _⟩ :: _) _ _); refine wpList_store_blk rfl 32 (.tmp 8) (.tmp 46) rfl g8 rfl _ rfl _ 32 hca (by rfl) (by kernel_rfl) (by kernel_rfl) ?_; intro w8 hq gr; replace hb27 := blk_a hb27 gr d_b27_ca; replace hb31 := blk_a hb31 gr d_b31_ca; replace hb35 := blk_a hb35 gr d_b35_ca; replace bel := below_grown bel gr oca bel.size; clear hca; have hca := hq; clear hq gr))
                go_ret
                exact ⟨rfl, bel⟩
              · have bhi_ : decide (v ≤ (86400 : Int)) = false := decide_eq_false bhi
                have HPS := Lib.hid ((bnd1 hn9).2 (by unfold inI; rw [decide_eq_false (by have := HV.out; omega : ¬ (n : Int) ≤ 86400), Bool.and_false]))
                go_wp2_with (first | ((with_reducible show wpList _ _ _ (⟨some 27, _, _, _, _, _⟩ :: _) _ _); refine wpList_lit_n rfl 47 9 5 _ rfl #[.string ⟨#[116, 105, 109, 101]⟩, .string ⟨#[117, 100, 112, 116, 105, 109, 101]⟩, .string ⟨#[116, 99, 112, 116, 105, 109, 101]⟩, .string ⟨#[105, 99, 109, 112, 116, 105, 109, 101]⟩, .string ⟨#[108, 111, 119]⟩] (.string ⟨#[]⟩) Try.underlying47 (by kernel_rfl) 1 (by kernel_rfl) (by decide) (by kernel_rfl) ?_; intro g27 w2 ge lt hh bb; have ob27 := Nat.le_trans bel.size ge; replace bel := bel.trans (bb.mono bel.size); have hb27 := hh; clear hh lt ge bb; have R30 := cell_lit hb27 1 _ rfl) | ((with_reducible show wpList _ _ _ (⟨some 31, _, _, _, _, _⟩ :: _) _ _); refine wpList_lit_n rfl 46 3 5 _ rfl #[.int .i64 60, .int .i64 10, .int .i64 10, .int .i64 10, .int .i64 1024] (.int .i64 0) Try.underlying46 (by kernel_rfl) 1 (by kernel_rfl) (by decide) (by kernel_rfl) ?_; intro g31 w3 ge lt hh bb; have d_b27_b31 := ne_new (hlt hb27) ge; have ob31 := Nat.le_trans bel.size ge; replace hb27 := blk_u hb27 bb; replace bel := bel.trans (bb.mono bel.size); have hb31 := hh; clear hh lt ge bb; have R34 := cell_lit hb31 1 _ rfl) | ((with_reducible show wpList _ _ _ (⟨some 35, _, _, _, _, _⟩ :: _) _ _); refine wpList_lit_n rfl 46 3 5 _ rfl #[.int .i64 86400, .int .i64 86400, .int .i64 86400, .int .i64 86400, .int .i64 60000] (.int .i64 0) Try.underlying46 (by kernel_rfl) 1 (by kernel_rfl) (by decide) (by kernel_rfl) ?_; intro g35 w4 ge lt hh bb; have d_b27_b35 := ne_new (hlt hb27) ge; have d_b31_b35 := ne_new (hlt hb31) ge; have ob35 := Nat.le_trans bel.size ge; replace hb27 := blk_u hb27 bb; replace hb31 := blk_u hb31 bb; replace bel := bel.trans (bb.mono bel.size); have hb35 := hh; clear hh lt ge bb; have R38 := cell_lit hb35 1 _ rfl; have R41 := fun W => st_cat (x := [117, 100, 112, 116, 105, 109, 101]) (y := [61]) (z := [117, 100, 112, 116, 105, 109, 101, 61]) rfl (by decide) W))
                try clear R30
                try clear R34
                try clear R38
                try clear R41
                with_reducible refine (rtext_v HV.out hn9 _).mono ?_
                rintro e w5 ⟨rfl, b5⟩
                replace hb27 := blk_u hb27 b5
                replace hb31 := blk_u hb31 b5
                replace hb35 := blk_u hb35 b5
                replace bel := bel.trans (b5.mono bel.size)
                clear b5
                have R44 := fun W => st_cat (x := [117, 100, 112, 116, 105, 109, 101, 61]) (y := decT n) (z := 117 :: 100 :: 112 :: 116 :: 105 :: 109 :: 101 :: 61 :: decT n) rfl (by have := HDL.out; simp; omega) W
                go_wp2_with fail
                clear R44
                with_reducible refine (cparse_is HPS.out HTL.out _).mono ?_
                rintro e w6 ⟨Fx, nf, cf, Ox, nx, cx, rfl, hf, ho, frF, frO, b6⟩
                replace hb27 := blk_u hb27 b6
                replace hb31 := blk_u hb31 b6
                replace hb35 := blk_u hb35 b6
                replace bel := bel.trans (b6.mono bel.size)
                clear b6
                clear hf ho frF frO
                go_wp2_with (first | ((with_reducible show wpList _ _ _ (⟨some 8, _, _, _, _, _⟩ :: _) _ _); refine wpList_new_a rfl 32 rfl #[.int .u8 0, .int .u8 0, .int .u8 0, .int .u8 0, .int .u8 0, .int .u8 0, .int .u8 0, .int .u8 0, .int .i64 0, .int .u8 0, .int .u8 0, .int .u8 0, .int .u8 0, .int .u8 0, .int .u8 0, .int .u8 0, .int .u8 0, .int .u8 0, .int .u8 0, .int .u8 0, .int .u8 0, .int .u8 0, .int .u8 0, .int .u8 0, .int .u8 0, .int .u8 0, .int .u8 0, .int .u8 0, .int .u8 0, .int .i64 0, .int .u8 0, .int .u8 0, .int .u8 0, .int .u8 0, .int .i64 0, .int .i64 0, .int .i64 0, .int .i64 0, .slice none 0 0, .slice none 0 0] (by kernel_rfl) ?_; intro g8 w7 ge hh bb; have d_b27_ca := ne_new (hlt hb27) ge; have d_b31_ca := ne_new (hlt hb31) ge; have d_b35_ca := ne_new (hlt hb35) ge; have oca := Nat.le_trans bel.size ge; replace hb27 := blk_u hb27 bb; replace hb31 := blk_u hb31 bb; replace hb35 := blk_u hb35 bb; replace bel := bel.trans (bb.mono bel.size); have hca := hh; clear hh ge bb) | ((with_reducible show wpList _ _ _ (⟨none, Op.store _ (.tmp 8) _, _, _, _, _⟩ :: _) _ _); refine wpList_store_blk rfl 32 (.tmp 8) (.tmp 46) rfl g8 rfl _ rfl _ 32 hca (by rfl) (by kernel_rfl) (by kernel_rfl) ?_; intro w8 hq gr; replace hb27 := blk_a hb27 gr d_b27_ca; replace hb31 := blk_a hb31 gr d_b31_ca; replace hb35 := blk_a hb35 gr d_b35_ca; replace bel := below_grown bel gr oca bel.size; clear hca; have hca := hq; clear hq gr))
                go_ret
                exact ⟨rfl, bel⟩
            · have blo_ : decide ((10 : Int) ≤ v) = false := decide_eq_false blo
              have HPS := Lib.hid ((bnd1 hn9).2 (by unfold inI; rw [decide_eq_false (by have := HV.out; omega : ¬ (10 : Int) ≤ n)]; rfl))
              go_wp2_with (first | ((with_reducible show wpList _ _ _ (⟨some 27, _, _, _, _, _⟩ :: _) _ _); refine wpList_lit_n rfl 47 9 5 _ rfl #[.string ⟨#[116, 105, 109, 101]⟩, .string ⟨#[117, 100, 112, 116, 105, 109, 101]⟩, .string ⟨#[116, 99, 112, 116, 105, 109, 101]⟩, .string ⟨#[105, 99, 109, 112, 116, 105, 109, 101]⟩, .string ⟨#[108, 111, 119]⟩] (.string ⟨#[]⟩) Try.underlying47 (by kernel_rfl) 1 (by kernel_rfl) (by decide) (by kernel_rfl) ?_; intro g27 w2 ge lt hh bb; have ob27 := Nat.le_trans bel.size ge; replace bel := bel.trans (bb.mono bel.size); have hb27 := hh; clear hh lt ge bb; have R30 := cell_lit hb27 1 _ rfl) | ((with_reducible show wpList _ _ _ (⟨some 31, _, _, _, _, _⟩ :: _) _ _); refine wpList_lit_n rfl 46 3 5 _ rfl #[.int .i64 60, .int .i64 10, .int .i64 10, .int .i64 10, .int .i64 1024] (.int .i64 0) Try.underlying46 (by kernel_rfl) 1 (by kernel_rfl) (by decide) (by kernel_rfl) ?_; intro g31 w3 ge lt hh bb; have d_b27_b31 := ne_new (hlt hb27) ge; have ob31 := Nat.le_trans bel.size ge; replace hb27 := blk_u hb27 bb; replace bel := bel.trans (bb.mono bel.size); have hb31 := hh; clear hh lt ge bb; have R34 := cell_lit hb31 1 _ rfl) | ((with_reducible show wpList _ _ _ (⟨some 35, _, _, _, _, _⟩ :: _) _ _); refine wpList_lit_n rfl 46 3 5 _ rfl #[.int .i64 86400, .int .i64 86400, .int .i64 86400, .int .i64 86400, .int .i64 60000] (.int .i64 0) Try.underlying46 (by kernel_rfl) 1 (by kernel_rfl) (by decide) (by kernel_rfl) ?_; intro g35 w4 ge lt hh bb; have d_b27_b35 := ne_new (hlt hb27) ge; have d_b31_b35 := ne_new (hlt hb31) ge; have ob35 := Nat.le_trans bel.size ge; replace hb27 := blk_u hb27 bb; replace hb31 := blk_u hb31 bb; replace bel := bel.trans (bb.mono bel.size); have hb35 := hh; clear hh lt ge bb; have R38 := cell_lit hb35 1 _ rfl; have R41 := fun W => st_cat (x := [117, 100, 112, 116, 105, 109, 101]) (y := [61]) (z := [117, 100, 112, 116, 105, 109, 101, 61]) rfl (by decide) W))
              try clear R30
              try clear R34
              try clear R38
              try clear R41
              with_reducible refine (rtext_v HV.out hn9 _).mono ?_
              rintro e w5 ⟨rfl, b5⟩
              replace hb27 := blk_u hb27 b5
              replace hb31 := blk_u hb31 b5
              replace hb35 := blk_u hb35 b5
              replace bel := bel.trans (b5.mono bel.size)
              clear b5
              have R44 := fun W => st_cat (x := [117, 100, 112, 116, 105, 109, 101, 61]) (y := decT n) (z := 117 :: 100 :: 112 :: 116 :: 105 :: 109 :: 101 :: 61 :: decT n) rfl (by have := HDL.out; simp; omega) W
              go_wp2_with fail
              clear R44
              with_reducible refine (cparse_is HPS.out HTL.out _).mono ?_
              rintro e w6 ⟨Fx, nf, cf, Ox, nx, cx, rfl, hf, ho, frF, frO, b6⟩
              replace hb27 := blk_u hb27 b6
              replace hb31 := blk_u hb31 b6
              replace hb35 := blk_u hb35 b6
              replace bel := bel.trans (b6.mono bel.size)
              clear b6
              clear hf ho frF frO
              go_wp2_with (first | ((with_reducible show wpList _ _ _ (⟨some 8, _, _, _, _, _⟩ :: _) _ _); refine wpList_new_a rfl 32 rfl #[.int .u8 0, .int .u8 0, .int .u8 0, .int .u8 0, .int .u8 0, .int .u8 0, .int .u8 0, .int .u8 0, .int .i64 0, .int .u8 0, .int .u8 0, .int .u8 0, .int .u8 0, .int .u8 0, .int .u8 0, .int .u8 0, .int .u8 0, .int .u8 0, .int .u8 0, .int .u8 0, .int .u8 0, .int .u8 0, .int .u8 0, .int .u8 0, .int .u8 0, .int .u8 0, .int .u8 0, .int .u8 0, .int .u8 0, .int .i64 0, .int .u8 0, .int .u8 0, .int .u8 0, .int .u8 0, .int .i64 0, .int .i64 0, .int .i64 0, .int .i64 0, .slice none 0 0, .slice none 0 0] (by kernel_rfl) ?_; intro g8 w7 ge hh bb; have d_b27_ca := ne_new (hlt hb27) ge; have d_b31_ca := ne_new (hlt hb31) ge; have d_b35_ca := ne_new (hlt hb35) ge; have oca := Nat.le_trans bel.size ge; replace hb27 := blk_u hb27 bb; replace hb31 := blk_u hb31 bb; replace hb35 := blk_u hb35 bb; replace bel := bel.trans (bb.mono bel.size); have hca := hh; clear hh ge bb) | ((with_reducible show wpList _ _ _ (⟨none, Op.store _ (.tmp 8) _, _, _, _, _⟩ :: _) _ _); refine wpList_store_blk rfl 32 (.tmp 8) (.tmp 46) rfl g8 rfl _ rfl _ 32 hca (by rfl) (by kernel_rfl) (by kernel_rfl) ?_; intro w8 hq gr; replace hb27 := blk_a hb27 gr d_b27_ca; replace hb31 := blk_a hb31 gr d_b31_ca; replace hb35 := blk_a hb35 gr d_b35_ca; replace bel := below_grown bel gr oca bel.size; clear hca; have hca := hq; clear hq gr))
              go_ret
              exact ⟨rfl, bel⟩
          · have HTL : Hid ((116 :: 99 :: 112 :: 116 :: 105 :: 109 :: 101 :: 61 :: decT n).length ≤ 1000000) := Lib.hid (by have := HDL.out; simp; omega)
            by_cases blo : (10 : Int) ≤ v
            · by_cases bhi : v ≤ (86400 : Int)
              · have hnlo : (10 : Int) ≤ n := by have := HV.out; omega
                have hnhi : (n : Int) ≤ 86400 := by have := HV.out; omega
                obtain ⟨cc, hcc⟩ := (bnd2 hn9).1 (by unfold inI; rw [decide_eq_true (by omega : (10 : Int) ≤ n), decide_eq_true (by omega : (n : Int) ≤ 86400)]; rfl)
                have HPS := Lib.hid hcc
                clear hcc
                clear hnlo hnhi
                go_wp2_with (first | ((with_reducible show wpList _ _ _ (⟨some 27, _, _, _, _, _⟩ :: _) _ _); refine wpList_lit_n rfl 47 9 5 _ rfl #[.string ⟨#[116, 105, 109, 101]⟩, .string ⟨#[117, 100, 112, 116, 105, 109, 101]⟩, .string ⟨#[116, 99, 112, 116, 105, 109, 101]⟩, .string ⟨#[105, 99, 109, 112, 116, 105, 109, 101]⟩, .string ⟨#[108, 111, 119]⟩] (.string ⟨#[]⟩) Try.underlying47 (by kernel_rfl) 1 (by kernel_rfl) (by decide) (by kernel_rfl) ?_; intro g27 w2 ge lt hh bb; have ob27 := Nat.le_trans bel.size ge; replace bel := bel.trans (bb.mono bel.size); have hb27 := hh; clear hh lt ge bb; have R30 := cell_lit hb27 2 _ rfl) | ((with_reducible show wpList _ _ _ (⟨some 31, _, _, _, _, _⟩ :: _) _ _); refine wpList_lit_n rfl 46 3 5 _ rfl #[.int .i64 60, .int .i64 10, .int .i64 10, .int .i64 10, .int .i64 1024] (.int .i64 0) Try.underlying46 (by kernel_rfl) 1 (by kernel_rfl) (by decide) (by kernel_rfl) ?_; intro g31 w3 ge lt hh bb; have d_b27_b31 := ne_new (hlt hb27) ge; have ob31 := Nat.le_trans bel.size ge; replace hb27 := blk_u hb27 bb; replace bel := bel.trans (bb.mono bel.size); have hb31 := hh; clear hh lt ge bb; have R34 := cell_lit hb31 2 _ rfl) | ((with_reducible show wpList _ _ _ (⟨some 35, _, _, _, _, _⟩ :: _) _ _); refine wpList_lit_n rfl 46 3 5 _ rfl #[.int .i64 86400, .int .i64 86400, .int .i64 86400, .int .i64 86400, .int .i64 60000] (.int .i64 0) Try.underlying46 (by kernel_rfl) 1 (by kernel_rfl) (by decide) (by kernel_rfl) ?_; intro g35 w4 ge lt hh bb; have d_b27_b35 := ne_new (hlt hb27) ge; have d_b31_b35 := ne_new (hlt hb31) ge; have ob35 := Nat.le_trans bel.size ge; replace hb27 := blk_u hb27 bb; replace hb31 := blk_u hb31 bb; replace bel := bel.trans (bb.mono bel.size); have hb35 := hh; clear hh lt ge bb; have R38 := cell_lit hb35 2 _ rfl; have R41 := fun W => st_cat (x := [116, 99, 112, 116, 105, 109, 101]) (y := [61]) (z := [116, 99, 112, 116, 105, 109, 101, 61]) rfl (by decide) W))
                try clear R30
                try clear R34
                try clear R38
                try clear R41
                with_reducible refine (rtext_v HV.out hn9 _).mono ?_
                rintro e w5 ⟨rfl, b5⟩
                replace hb27 := blk_u hb27 b5
                replace hb31 := blk_u hb31 b5
                replace hb35 := blk_u hb35 b5
                replace bel := bel.trans (b5.mono bel.size)
                clear b5
                have R44 := fun W => st_cat (x := [116, 99, 112, 116, 105, 109, 101, 61]) (y := decT n) (z := 116 :: 99 :: 112 :: 116 :: 105 :: 109 :: 101 :: 61 :: decT n) rfl (by have := HDL.out; simp; omega) W
                go_wp2_with fail
                clear R44
                with_reducible refine (cparse_is HPS.out HTL.out _).mono ?_
                rintro e w6 ⟨Fx, nf, cf, Ox, nx, cx, rfl, hf, ho, frF, frO, b6⟩
                replace hb27 := blk_u hb27 b6
                replace hb31 := blk_u hb31 b6
                replace hb35 := blk_u hb35 b6
                replace bel := bel.trans (b6.mono bel.size)
                clear b6
                clear hf ho frF frO
                go_wp2_with (first | ((with_reducible show wpList _ _ _ (⟨some 8, _, _, _, _, _⟩ :: _) _ _); refine wpList_new_a rfl 32 rfl #[.int .u8 0, .int .u8 0, .int .u8 0, .int .u8 0, .int .u8 0, .int .u8 0, .int .u8 0, .int .u8 0, .int .i64 0, .int .u8 0, .int .u8 0, .int .u8 0, .int .u8 0, .int .u8 0, .int .u8 0, .int .u8 0, .int .u8 0, .int .u8 0, .int .u8 0, .int .u8 0, .int .u8 0, .int .u8 0, .int .u8 0, .int .u8 0, .int .u8 0, .int .u8 0, .int .u8 0, .int .u8 0, .int .u8 0, .int .i64 0, .int .u8 0, .int .u8 0, .int .u8 0, .int .u8 0, .int .i64 0, .int .i64 0, .int .i64 0, .int .i64 0, .slice none 0 0, .slice none 0 0] (by kernel_rfl) ?_; intro g8 w7 ge hh bb; have d_b27_ca := ne_new (hlt hb27) ge; have d_b31_ca := ne_new (hlt hb31) ge; have d_b35_ca := ne_new (hlt hb35) ge; have oca := Nat.le_trans bel.size ge; replace hb27 := blk_u hb27 bb; replace hb31 := blk_u hb31 bb; replace hb35 := blk_u hb35 bb; replace bel := bel.trans (bb.mono bel.size); have hca := hh; clear hh ge bb) | ((with_reducible show wpList _ _ _ (⟨none, Op.store _ (.tmp 8) _, _, _, _, _⟩ :: _) _ _); refine wpList_store_blk rfl 32 (.tmp 8) (.tmp 46) rfl g8 rfl _ rfl _ 32 hca (by rfl) (by kernel_rfl) (by kernel_rfl) ?_; intro w8 hq gr; replace hb27 := blk_a hb27 gr d_b27_ca; replace hb31 := blk_a hb31 gr d_b31_ca; replace hb35 := blk_a hb35 gr d_b35_ca; replace bel := below_grown bel gr oca bel.size; clear hca; have hca := hq; clear hq gr))
                go_ret
                exact ⟨rfl, bel⟩
              · have bhi_ : decide (v ≤ (86400 : Int)) = false := decide_eq_false bhi
                have HPS := Lib.hid ((bnd2 hn9).2 (by unfold inI; rw [decide_eq_false (by have := HV.out; omega : ¬ (n : Int) ≤ 86400), Bool.and_false]))
                go_wp2_with (first | ((with_reducible show wpList _ _ _ (⟨some 27, _, _, _, _, _⟩ :: _) _ _); refine wpList_lit_n rfl 47 9 5 _ rfl #[.string ⟨#[116, 105, 109, 101]⟩, .string ⟨#[117, 100, 112, 116, 105, 109, 101]⟩, .string ⟨#[116, 99, 112, 116, 105, 109, 101]⟩, .string ⟨#[105, 99, 109, 112, 116, 105, 109, 101]⟩, .string ⟨#[108, 111, 119]⟩] (.string ⟨#[]⟩) Try.underlying47 (by kernel_rfl) 1 (by kernel_rfl) (by decide) (by kernel_rfl) ?_; intro g27 w2 ge lt hh bb; have ob27 := Nat.le_trans bel.size ge; replace bel := bel.trans (bb.mono bel.size); have hb27 := hh; clear hh lt ge bb; have R30 := cell_lit hb27 2 _ rfl) | ((with_reducible show wpList _ _ _ (⟨some 31, _, _, _, _, _⟩ :: _) _ _); refine wpList_lit_n rfl 46 3 5 _ rfl #[.int .i64 60, .int .i64 10, .int .i64 10, .int .i64 10, .int .i64 1024] (.int .i64 0) Try.underlying46 (by kernel_rfl) 1 (by kernel_rfl) (by decide) (by kernel_rfl) ?_; intro g31 w3 ge lt hh bb; have d_b27_b31 := ne_new (hlt hb27) ge; have ob31 := Nat.le_trans bel.size ge; replace hb27 := blk_u hb27 bb; replace bel := bel.trans (bb.mono bel.size); have hb31 := hh; clear hh lt ge bb; have R34 := cell_lit hb31 2 _ rfl) | ((with_reducible show wpList _ _ _ (⟨some 35, _, _, _, _, _⟩ :: _) _ _); refine wpList_lit_n rfl 46 3 5 _ rfl #[.int .i64 86400, .int .i64 86400, .int .i64 86400, .int .i64 86400, .int .i64 60000] (.int .i64 0) Try.underlying46 (by kernel_rfl) 1 (by kernel_rfl) (by decide) (by kernel_rfl) ?_; intro g35 w4 ge lt hh bb; have d_b27_b35 := ne_new (hlt hb27) ge; have d_b31_b35 := ne_new (hlt hb31) ge; have ob35 := Nat.le_trans bel.size ge; replace hb27 := blk_u hb27 bb; replace hb31 := blk_u hb31 bb; replace bel := bel.trans (bb.mono bel.size); have hb35 := hh; clear hh lt ge bb; have R38 := cell_lit hb35 2 _ rfl; have R41 := fun W => st_cat (x := [116, 99, 112, 116, 105, 109, 101]) (y := [61]) (z := [116, 99, 112, 116, 105, 109, 101, 61]) rfl (by decide) W))
                try clear R30
                try clear R34
                try clear R38
                try clear R41
                with_reducible refine (rtext_v HV.out hn9 _).mono ?_
                rintro e w5 ⟨rfl, b5⟩
                replace hb27 := blk_u hb27 b5
                replace hb31 := blk_u hb31 b5
                replace hb35 := blk_u hb35 b5
                replace bel := bel.trans (b5.mono bel.size)
                clear b5
                have R44 := fun W => st_cat (x := [116, 99, 112, 116, 105, 109, 101, 61]) (y := decT n) (z := 116 :: 99 :: 112 :: 116 :: 105 :: 109 :: 101 :: 61 :: decT n) rfl (by have := HDL.out; simp; omega) W
                go_wp2_with fail
                clear R44
                with_reducible refine (cparse_is HPS.out HTL.out _).mono ?_
                rintro e w6 ⟨Fx, nf, cf, Ox, nx, cx, rfl, hf, ho, frF, frO, b6⟩
                replace hb27 := blk_u hb27 b6
                replace hb31 := blk_u hb31 b6
                replace hb35 := blk_u hb35 b6
                replace bel := bel.trans (b6.mono bel.size)
                clear b6
                clear hf ho frF frO
                go_wp2_with (first | ((with_reducible show wpList _ _ _ (⟨some 8, _, _, _, _, _⟩ :: _) _ _); refine wpList_new_a rfl 32 rfl #[.int .u8 0, .int .u8 0, .int .u8 0, .int .u8 0, .int .u8 0, .int .u8 0, .int .u8 0, .int .u8 0, .int .i64 0, .int .u8 0, .int .u8 0, .int .u8 0, .int .u8 0, .int .u8 0, .int .u8 0, .int .u8 0, .int .u8 0, .int .u8 0, .int .u8 0, .int .u8 0, .int .u8 0, .int .u8 0, .int .u8 0, .int .u8 0, .int .u8 0, .int .u8 0, .int .u8 0, .int .u8 0, .int .u8 0, .int .i64 0, .int .u8 0, .int .u8 0, .int .u8 0, .int .u8 0, .int .i64 0, .int .i64 0, .int .i64 0, .int .i64 0, .slice none 0 0, .slice none 0 0] (by kernel_rfl) ?_; intro g8 w7 ge hh bb; have d_b27_ca := ne_new (hlt hb27) ge; have d_b31_ca := ne_new (hlt hb31) ge; have d_b35_ca := ne_new (hlt hb35) ge; have oca := Nat.le_trans bel.size ge; replace hb27 := blk_u hb27 bb; replace hb31 := blk_u hb31 bb; replace hb35 := blk_u hb35 bb; replace bel := bel.trans (bb.mono bel.size); have hca := hh; clear hh ge bb) | ((with_reducible show wpList _ _ _ (⟨none, Op.store _ (.tmp 8) _, _, _, _, _⟩ :: _) _ _); refine wpList_store_blk rfl 32 (.tmp 8) (.tmp 46) rfl g8 rfl _ rfl _ 32 hca (by rfl) (by kernel_rfl) (by kernel_rfl) ?_; intro w8 hq gr; replace hb27 := blk_a hb27 gr d_b27_ca; replace hb31 := blk_a hb31 gr d_b31_ca; replace hb35 := blk_a hb35 gr d_b35_ca; replace bel := below_grown bel gr oca bel.size; clear hca; have hca := hq; clear hq gr))
                go_ret
                exact ⟨rfl, bel⟩
            · have blo_ : decide ((10 : Int) ≤ v) = false := decide_eq_false blo
              have HPS := Lib.hid ((bnd2 hn9).2 (by unfold inI; rw [decide_eq_false (by have := HV.out; omega : ¬ (10 : Int) ≤ n)]; rfl))
              go_wp2_with (first | ((with_reducible show wpList _ _ _ (⟨some 27, _, _, _, _, _⟩ :: _) _ _); refine wpList_lit_n rfl 47 9 5 _ rfl #[.string ⟨#[116, 105, 109, 101]⟩, .string ⟨#[117, 100, 112, 116, 105, 109, 101]⟩, .string ⟨#[116, 99, 112, 116, 105, 109, 101]⟩, .string ⟨#[105, 99, 109, 112, 116, 105, 109, 101]⟩, .string ⟨#[108, 111, 119]⟩] (.string ⟨#[]⟩) Try.underlying47 (by kernel_rfl) 1 (by kernel_rfl) (by decide) (by kernel_rfl) ?_; intro g27 w2 ge lt hh bb; have ob27 := Nat.le_trans bel.size ge; replace bel := bel.trans (bb.mono bel.size); have hb27 := hh; clear hh lt ge bb; have R30 := cell_lit hb27 2 _ rfl) | ((with_reducible show wpList _ _ _ (⟨some 31, _, _, _, _, _⟩ :: _) _ _); refine wpList_lit_n rfl 46 3 5 _ rfl #[.int .i64 60, .int .i64 10, .int .i64 10, .int .i64 10, .int .i64 1024] (.int .i64 0) Try.underlying46 (by kernel_rfl) 1 (by kernel_rfl) (by decide) (by kernel_rfl) ?_; intro g31 w3 ge lt hh bb; have d_b27_b31 := ne_new (hlt hb27) ge; have ob31 := Nat.le_trans bel.size ge; replace hb27 := blk_u hb27 bb; replace bel := bel.trans (bb.mono bel.size); have hb31 := hh; clear hh lt ge bb; have R34 := cell_lit hb31 2 _ rfl) | ((with_reducible show wpList _ _ _ (⟨some 35, _, _, _, _, _⟩ :: _) _ _); refine wpList_lit_n rfl 46 3 5 _ rfl #[.int .i64 86400, .int .i64 86400, .int .i64 86400, .int .i64 86400, .int .i64 60000] (.int .i64 0) Try.underlying46 (by kernel_rfl) 1 (by kernel_rfl) (by decide) (by kernel_rfl) ?_; intro g35 w4 ge lt hh bb; have d_b27_b35 := ne_new (hlt hb27) ge; have d_b31_b35 := ne_new (hlt hb31) ge; have ob35 := Nat.le_trans bel.size ge; replace hb27 := blk_u hb27 bb; replace hb31 := blk_u hb31 bb; replace bel := bel.trans (bb.mono bel.size); have hb35 := hh; clear hh lt ge bb; have R38 := cell_lit hb35 2 _ rfl; have R41 := fun W => st_cat (x := [116, 99, 112, 116, 105, 109, 101]) (y := [61]) (z := [116, 99, 112, 116, 105, 109, 101, 61]) rfl (by decide) W))
              try clear R30
              try clear R34
              try clear R38
              try clear R41
              with_reducible refine (rtext_v HV.out hn9 _).mono ?_
              rintro e w5 ⟨rfl, b5⟩
              replace hb27 := blk_u hb27 b5
              replace hb31 := blk_u hb31 b5
              replace hb35 := blk_u hb35 b5
              replace bel := bel.trans (b5.mono bel.size)
              clear b5
              have R44 := fun W => st_cat (x := [116, 99, 112, 116, 105, 109, 101, 61]) (y := decT n) (z := 116 :: 99 :: 112 :: 116 :: 105 :: 109 :: 101 :: 61 :: decT n) rfl (by have := HDL.out; simp; omega) W
              go_wp2_with fail
              clear R44
              with_reducible refine (cparse_is HPS.out HTL.out _).mono ?_
              rintro e w6 ⟨Fx, nf, cf, Ox, nx, cx, rfl, hf, ho, frF, frO, b6⟩
              replace hb27 := blk_u hb27 b6
              replace hb31 := blk_u hb31 b6
              replace hb35 := blk_u hb35 b6
              replace bel := bel.trans (b6.mono bel.size)
              clear b6
              clear hf ho frF frO
              go_wp2_with (first | ((with_reducible show wpList _ _ _ (⟨some 8, _, _, _, _, _⟩ :: _) _ _); refine wpList_new_a rfl 32 rfl #[.int .u8 0, .int .u8 0, .int .u8 0, .int .u8 0, .int .u8 0, .int .u8 0, .int .u8 0, .int .u8 0, .int .i64 0, .int .u8 0, .int .u8 0, .int .u8 0, .int .u8 0, .int .u8 0, .int .u8 0, .int .u8 0, .int .u8 0, .int .u8 0, .int .u8 0, .int .u8 0, .int .u8 0, .int .u8 0, .int .u8 0, .int .u8 0, .int .u8 0, .int .u8 0, .int .u8 0, .int .u8 0, .int .u8 0, .int .i64 0, .int .u8 0, .int .u8 0, .int .u8 0, .int .u8 0, .int .i64 0, .int .i64 0, .int .i64 0, .int .i64 0, .slice none 0 0, .slice none 0 0] (by kernel_rfl) ?_; intro g8 w7 ge hh bb; have d_b27_ca := ne_new (hlt hb27) ge; have d_b31_ca := ne_new (hlt hb31) ge; have d_b35_ca := ne_new (hlt hb35) ge; have oca := Nat.le_trans bel.size ge; replace hb27 := blk_u hb27 bb; replace hb31 := blk_u hb31 bb; replace hb35 := blk_u hb35 bb; replace bel := bel.trans (bb.mono bel.size); have hca := hh; clear hh ge bb) | ((with_reducible show wpList _ _ _ (⟨none, Op.store _ (.tmp 8) _, _, _, _, _⟩ :: _) _ _); refine wpList_store_blk rfl 32 (.tmp 8) (.tmp 46) rfl g8 rfl _ rfl _ 32 hca (by rfl) (by kernel_rfl) (by kernel_rfl) ?_; intro w8 hq gr; replace hb27 := blk_a hb27 gr d_b27_ca; replace hb31 := blk_a hb31 gr d_b31_ca; replace hb35 := blk_a hb35 gr d_b35_ca; replace bel := below_grown bel gr oca bel.size; clear hca; have hca := hq; clear hq gr))
              go_ret
              exact ⟨rfl, bel⟩
          · have HTL : Hid ((105 :: 99 :: 109 :: 112 :: 116 :: 105 :: 109 :: 101 :: 61 :: decT n).length ≤ 1000000) := Lib.hid (by have := HDL.out; simp; omega)
            by_cases blo : (10 : Int) ≤ v
            · by_cases bhi : v ≤ (86400 : Int)
              · have hnlo : (10 : Int) ≤ n := by have := HV.out; omega
                have hnhi : (n : Int) ≤ 86400 := by have := HV.out; omega
                obtain ⟨cc, hcc⟩ := (bnd3 hn9).1 (by unfold inI; rw [decide_eq_true (by omega : (10 : Int) ≤ n), decide_eq_true (by omega : (n : Int) ≤ 86400)]; rfl)
                have HPS := Lib.hid hcc
                clear hcc
                clear hnlo hnhi
                go_wp2_with (first | ((with_reducible show wpList _ _ _ (⟨some 27, _, _, _, _, _⟩ :: _) _ _); refine wpList_lit_n rfl 47 9 5 _ rfl #[.string ⟨#[116, 105, 109, 101]⟩, .string ⟨#[117, 100, 112, 116, 105, 109, 101]⟩, .string ⟨#[116, 99, 112, 116, 105, 109, 101]⟩, .string ⟨#[105, 99, 109, 112, 116, 105, 109, 101]⟩, .string ⟨#[108, 111, 119]⟩] (.string ⟨#[]⟩) Try.underlying47 (by kernel_rfl) 1 (by kernel_rfl) (by decide) (by kernel_rfl) ?_; intro g27 w2 ge lt hh bb; have ob27 := Nat.le_trans bel.size ge; replace bel := bel.trans (bb.mono bel.size); have hb27 := hh; clear hh lt ge bb; have R30 := cell_lit hb27 3 _ rfl) | ((with_reducible show wpList _ _ _ (⟨some 31, _, _, _, _, _⟩ :: _) _ _); refine wpList_lit_n rfl 46 3 5 _ rfl #[.int .i64 60, .int .i64 10, .int .i64 10, .int .i64 10, .int .i64 1024] (.int .i64 0) Try.underlying46 (by kernel_rfl) 1 (by kernel_rfl) (by decide) (by kernel_rfl) ?_; intro g31 w3 ge lt hh bb; have d_b27_b31 := ne_new (hlt hb27) ge; have ob31 := Nat.le_trans bel.size ge; replace hb27 := blk_u hb27 bb; replace bel := bel.trans (bb.mono bel.size); have hb31 := hh; clear hh lt ge bb; have R34 := cell_lit hb31 3 _ rfl) | ((with_reducible show wpList _ _ _ (⟨some 35, _, _, _, _, _⟩ :: _) _ _); refine wpList_lit_n rfl 46 3 5 _ rfl #[.int .i64 86400, .int .i64 86400, .int .i64 86400, .int .i64 86400, .int .i64 60000] (.int .i64 0) Try.underlying46 (by kernel_rfl) 1 (by kernel_rfl) (by decide) (by kernel_rfl) ?_; intro g35 w4 ge lt hh bb; have d_b27_b35 := ne_new (hlt hb27) ge; have d_b31_b35 := ne_new (hlt hb31) ge; have ob35 := Nat.le_trans bel.size ge; replace hb27 := blk_u hb27 bb; replace hb31 := blk_u hb31 bb; replace bel := bel.trans (bb.mono bel.size); have hb35 := hh; clear hh lt ge bb; have R38 := cell_lit hb35 3 _ rfl; have R41 := fun W => st_cat (x := [105, 99, 109, 112, 116, 105, 109, 101]) (y := [61]) (z := [105, 99, 109, 112, 116, 105, 109, 101, 61]) rfl (by decide) W))
                try clear R30
                try clear R34
                try clear R38
                try clear R41
                with_reducible refine (rtext_v HV.out hn9 _).mono ?_
                rintro e w5 ⟨rfl, b5⟩
                replace hb27 := blk_u hb27 b5
                replace hb31 := blk_u hb31 b5
                replace hb35 := blk_u hb35 b5
                replace bel := bel.trans (b5.mono bel.size)
                clear b5
                have R44 := fun W => st_cat (x := [105, 99, 109, 112, 116, 105, 109, 101, 61]) (y := decT n) (z := 105 :: 99 :: 109 :: 112 :: 116 :: 105 :: 109 :: 101 :: 61 :: decT n) rfl (by have := HDL.out; simp; omega) W
                go_wp2_with fail
                clear R44
                with_reducible refine (cparse_is HPS.out HTL.out _).mono ?_
                rintro e w6 ⟨Fx, nf, cf, Ox, nx, cx, rfl, hf, ho, frF, frO, b6⟩
                replace hb27 := blk_u hb27 b6
                replace hb31 := blk_u hb31 b6
                replace hb35 := blk_u hb35 b6
                replace bel := bel.trans (b6.mono bel.size)
                clear b6
                clear hf ho frF frO
                go_wp2_with (first | ((with_reducible show wpList _ _ _ (⟨some 8, _, _, _, _, _⟩ :: _) _ _); refine wpList_new_a rfl 32 rfl #[.int .u8 0, .int .u8 0, .int .u8 0, .int .u8 0, .int .u8 0, .int .u8 0, .int .u8 0, .int .u8 0, .int .i64 0, .int .u8 0, .int .u8 0, .int .u8 0, .int .u8 0, .int .u8 0, .int .u8 0, .int .u8 0, .int .u8 0, .int .u8 0, .int .u8 0, .int .u8 0, .int .u8 0, .int .u8 0, .int .u8 0, .int .u8 0, .int .u8 0, .int .u8 0, .int .u8 0, .int .u8 0, .int .u8 0, .int .i64 0, .int .u8 0, .int .u8 0, .int .u8 0, .int .u8 0, .int .i64 0, .int .i64 0, .int .i64 0, .int .i64 0, .slice none 0 0, .slice none 0 0] (by kernel_rfl) ?_; intro g8 w7 ge hh bb; have d_b27_ca := ne_new (hlt hb27) ge; have d_b31_ca := ne_new (hlt hb31) ge; have d_b35_ca := ne_new (hlt hb35) ge; have oca := Nat.le_trans bel.size ge; replace hb27 := blk_u hb27 bb; replace hb31 := blk_u hb31 bb; replace hb35 := blk_u hb35 bb; replace bel := bel.trans (bb.mono bel.size); have hca := hh; clear hh ge bb) | ((with_reducible show wpList _ _ _ (⟨none, Op.store _ (.tmp 8) _, _, _, _, _⟩ :: _) _ _); refine wpList_store_blk rfl 32 (.tmp 8) (.tmp 46) rfl g8 rfl _ rfl _ 32 hca (by rfl) (by kernel_rfl) (by kernel_rfl) ?_; intro w8 hq gr; replace hb27 := blk_a hb27 gr d_b27_ca; replace hb31 := blk_a hb31 gr d_b31_ca; replace hb35 := blk_a hb35 gr d_b35_ca; replace bel := below_grown bel gr oca bel.size; clear hca; have hca := hq; clear hq gr))
                go_ret
                exact ⟨rfl, bel⟩
              · have bhi_ : decide (v ≤ (86400 : Int)) = false := decide_eq_false bhi
                have HPS := Lib.hid ((bnd3 hn9).2 (by unfold inI; rw [decide_eq_false (by have := HV.out; omega : ¬ (n : Int) ≤ 86400), Bool.and_false]))
                go_wp2_with (first | ((with_reducible show wpList _ _ _ (⟨some 27, _, _, _, _, _⟩ :: _) _ _); refine wpList_lit_n rfl 47 9 5 _ rfl #[.string ⟨#[116, 105, 109, 101]⟩, .string ⟨#[117, 100, 112, 116, 105, 109, 101]⟩, .string ⟨#[116, 99, 112, 116, 105, 109, 101]⟩, .string ⟨#[105, 99, 109, 112, 116, 105, 109, 101]⟩, .string ⟨#[108, 111, 119]⟩] (.string ⟨#[]⟩) Try.underlying47 (by kernel_rfl) 1 (by kernel_rfl) (by decide) (by kernel_rfl) ?_; intro g27 w2 ge lt hh bb; have ob27 := Nat.le_trans bel.size ge; replace bel := bel.trans (bb.mono bel.size); have hb27 := hh; clear hh lt ge bb; have R30 := cell_lit hb27 3 _ rfl) | ((with_reducible show wpList _ _ _ (⟨some 31, _, _, _, _, _⟩ :: _) _ _); refine wpList_lit_n rfl 46 3 5 _ rfl #[.int .i64 60, .int .i64 10, .int .i64 10, .int .i64 10, .int .i64 1024] (.int .i64 0) Try.underlying46 (by kernel_rfl) 1 (by kernel_rfl) (by decide) (by kernel_rfl) ?_; intro g31 w3 ge lt hh bb; have d_b27_b31 := ne_new (hlt hb27) ge; have ob31 := Nat.le_trans bel.size ge; replace hb27 := blk_u hb27 bb; replace bel := bel.trans (bb.mono bel.size); have hb31 := hh; clear hh lt ge bb; have R34 := cell_lit hb31 3 _ rfl) | ((with_reducible show wpList _ _ _ (⟨some 35, _, _, _, _, _⟩ :: _) _ _); refine wpList_lit_n rfl 46 3 5 _ rfl #[.int .i64 86400, .int .i64 86400, .int .i64 86400, .int .i64 86400, .int .i64 60000] (.int .i64 0) Try.underlying46 (by kernel_rfl) 1 (by kernel_rfl) (by decide) (by kernel_rfl) ?_; intro g35 w4 ge lt hh bb; have d_b27_b35 := ne_new (hlt hb27) ge; have d_b31_b35 := ne_new (hlt hb31) ge; have ob35 := Nat.le_trans bel.size ge; replace hb27 := blk_u hb27 bb; replace hb31 := blk_u hb31 bb; replace bel := bel.trans (bb.mono bel.size); have hb35 := hh; clear hh lt ge bb; have R38 := cell_lit hb35 3 _ rfl; have R41 := fun W => st_cat (x := [105, 99, 109, 112, 116, 105, 109, 101]) (y := [61]) (z := [105, 99, 109, 112, 116, 105, 109, 101, 61]) rfl (by decide) W))
                try clear R30
                try clear R34
                try clear R38
                try clear R41
                with_reducible refine (rtext_v HV.out hn9 _).mono ?_
                rintro e w5 ⟨rfl, b5⟩
                replace hb27 := blk_u hb27 b5
                replace hb31 := blk_u hb31 b5
                replace hb35 := blk_u hb35 b5
                replace bel := bel.trans (b5.mono bel.size)
                clear b5
                have R44 := fun W => st_cat (x := [105, 99, 109, 112, 116, 105, 109, 101, 61]) (y := decT n) (z := 105 :: 99 :: 109 :: 112 :: 116 :: 105 :: 109 :: 101 :: 61 :: decT n) rfl (by have := HDL.out; simp; omega) W
                go_wp2_with fail
                clear R44
                with_reducible refine (cparse_is HPS.out HTL.out _).mono ?_
                rintro e w6 ⟨Fx, nf, cf, Ox, nx, cx, rfl, hf, ho, frF, frO, b6⟩
                replace hb27 := blk_u hb27 b6
                replace hb31 := blk_u hb31 b6
                replace hb35 := blk_u hb35 b6
                replace bel := bel.trans (b6.mono bel.size)
                clear b6
                clear hf ho frF frO
                go_wp2_with (first | ((with_reducible show wpList _ _ _ (⟨some 8, _, _, _, _, _⟩ :: _) _ _); refine wpList_new_a rfl 32 rfl #[.int .u8 0, .int .u8 0, .int .u8 0, .int .u8 0, .int .u8 0, .int .u8 0, .int .u8 0, .int .u8 0, .int .i64 0, .int .u8 0, .int .u8 0, .int .u8 0, .int .u8 0, .int .u8 0, .int .u8 0, .int .u8 0, .int .u8 0, .int .u8 0, .int .u8 0, .int .u8 0, .int .u8 0, .int .u8 0, .int .u8 0, .int .u8 0, .int .u8 0, .int .u8 0, .int .u8 0, .int .u8 0, .int .u8 0, .int .i64 0, .int .u8 0, .int .u8 0, .int .u8 0, .int .u8 0, .int .i64 0, .int .i64 0, .int .i64 0, .int .i64 0, .slice none 0 0, .slice none 0 0] (by kernel_rfl) ?_; intro g8 w7 ge hh bb; have d_b27_ca := ne_new (hlt hb27) ge; have d_b31_ca := ne_new (hlt hb31) ge; have d_b35_ca := ne_new (hlt hb35) ge; have oca := Nat.le_trans bel.size ge; replace hb27 := blk_u hb27 bb; replace hb31 := blk_u hb31 bb; replace hb35 := blk_u hb35 bb; replace bel := bel.trans (bb.mono bel.size); have hca := hh; clear hh ge bb) | ((with_reducible show wpList _ _ _ (⟨none, Op.store _ (.tmp 8) _, _, _, _, _⟩ :: _) _ _); refine wpList_store_blk rfl 32 (.tmp 8) (.tmp 46) rfl g8 rfl _ rfl _ 32 hca (by rfl) (by kernel_rfl) (by kernel_rfl) ?_; intro w8 hq gr; replace hb27 := blk_a hb27 gr d_b27_ca; replace hb31 := blk_a hb31 gr d_b31_ca; replace hb35 := blk_a hb35 gr d_b35_ca; replace bel := below_grown bel gr oca bel.size; clear hca; have hca := hq; clear hq gr))
                go_ret
                exact ⟨rfl, bel⟩
            · have blo_ : decide ((10 : Int) ≤ v) = false := decide_eq_false blo
              have HPS := Lib.hid ((bnd3 hn9).2 (by unfold inI; rw [decide_eq_false (by have := HV.out; omega : ¬ (10 : Int) ≤ n)]; rfl))
              go_wp2_with (first | ((with_reducible show wpList _ _ _ (⟨some 27, _, _, _, _, _⟩ :: _) _ _); refine wpList_lit_n rfl 47 9 5 _ rfl #[.string ⟨#[116, 105, 109, 101]⟩, .string ⟨#[117, 100, 112, 116, 105, 109, 101]⟩, .string ⟨#[116, 99, 112, 116, 105, 109, 101]⟩, .string ⟨#[105, 99, 109, 112, 116, 105, 109, 101]⟩, .string ⟨#[108, 111, 119]⟩] (.string ⟨#[]⟩) Try.underlying47 (by kernel_rfl) 1 (by kernel_rfl) (by decide) (by kernel_rfl) ?_; intro g27 w2 ge lt hh bb; have ob27 := Nat.le_trans bel.size ge; replace bel := bel.trans (bb.mono bel.size); have hb27 := hh; clear hh lt ge bb; have R30 := cell_lit hb27 3 _ rfl) | ((with_reducible show wpList _ _ _ (⟨some 31, _, _, _, _, _⟩ :: _) _ _); refine wpList_lit_n rfl 46 3 5 _ rfl #[.int .i64 60, .int .i64 10, .int .i64 10, .int .i64 10, .int .i64 1024] (.int .i64 0) Try.underlying46 (by kernel_rfl) 1 (by kernel_rfl) (by decide) (by kernel_rfl) ?_; intro g31 w3 ge lt hh bb; have d_b27_b31 := ne_new (hlt hb27) ge; have ob31 := Nat.le_trans bel.size ge; replace hb27 := blk_u hb27 bb; replace bel := bel.trans (bb.mono bel.size); have hb31 := hh; clear hh lt ge bb; have R34 := cell_lit hb31 3 _ rfl) | ((with_reducible show wpList _ _ _ (⟨some 35, _, _, _, _, _⟩ :: _) _ _); refine wpList_lit_n rfl 46 3 5 _ rfl #[.int .i64 86400, .int .i64 86400, .int .i64 86400, .int .i64 86400, .int .i64 60000] (.int .i64 0) Try.underlying46 (by kernel_rfl) 1 (by kernel_rfl) (by decide) (by kernel_rfl) ?_; intro g35 w4 ge lt hh bb; have d_b27_b35 := ne_new (hlt hb27) ge; have d_b31_b35 := ne_new (hlt hb31) ge; have ob35 := Nat.le_trans bel.size ge; replace hb27 := blk_u hb27 bb; replace hb31 := blk_u hb31 bb; replace bel := bel.trans (bb.mono bel.size); have hb35 := hh; clear hh lt ge bb; have R38 := cell_lit hb35 3 _ rfl; have R41 := fun W => st_cat (x := [105, 99, 109, 112, 116, 105, 109, 101]) (y := [61]) (z := [105, 99, 109, 112, 116, 105, 109, 101, 61]) rfl (by decide) W))
              try clear R30
              try clear R34
              try clear R38
              try clear R41
              with_reducible refine (rtext_v HV.out hn9 _).mono ?_
              rintro e w5 ⟨rfl, b5⟩
              replace hb27 := blk_u hb27 b5
              replace hb31 := blk_u hb31 b5
              replace hb35 := blk_u hb35 b5
              replace bel := bel.trans (b5.mono bel.size)
              clear b5
              have R44 := fun W => st_cat (x := [105, 99, 109, 112, 116, 105, 109, 101, 61]) (y := decT n) (z := 105 :: 99 :: 109 :: 112 :: 116 :: 105 :: 109 :: 101 :: 61 :: decT n) rfl (by have := HDL.out; simp; omega) W
              go_wp2_with fail
              clear R44
              with_reducible refine (cparse_is HPS.out HTL.out _).mono ?_
              rintro e w6 ⟨Fx, nf, cf, Ox, nx, cx, rfl, hf, ho, frF, frO, b6⟩
              replace hb27 := blk_u hb27 b6
              replace hb31 := blk_u hb31 b6
              replace hb35 := blk_u hb35 b6
              replace bel := bel.trans (b6.mono bel.size)
              clear b6
              clear hf ho frF frO
              go_wp2_with (first | ((with_reducible show wpList _ _ _ (⟨some 8, _, _, _, _, _⟩ :: _) _ _); refine wpList_new_a rfl 32 rfl #[.int .u8 0, .int .u8 0, .int .u8 0, .int .u8 0, .int .u8 0, .int .u8 0, .int .u8 0, .int .u8 0, .int .i64 0, .int .u8 0, .int .u8 0, .int .u8 0, .int .u8 0, .int .u8 0, .int .u8 0, .int .u8 0, .int .u8 0, .int .u8 0, .int .u8 0, .int .u8 0, .int .u8 0, .int .u8 0, .int .u8 0, .int .u8 0, .int .u8 0, .int .u8 0, .int .u8 0, .int .u8 0, .int .u8 0, .int .i64 0, .int .u8 0, .int .u8 0, .int .u8 0, .int .u8 0, .int .i64 0, .int .i64 0, .int .i64 0, .int .i64 0, .slice none 0 0, .slice none 0 0] (by kernel_rfl) ?_; intro g8 w7 ge hh bb; have d_b27_ca := ne_new (hlt hb27) ge; have d_b31_ca := ne_new (hlt hb31) ge; have d_b35_ca := ne_new (hlt hb35) ge; have oca := Nat.le_trans bel.size ge; replace hb27 := blk_u hb27 bb; replace hb31 := blk_u hb31 bb; replace hb35 := blk_u hb35 bb; replace bel := bel.trans (bb.mono bel.size); have hca := hh; clear hh ge bb) | ((with_reducible show wpList _ _ _ (⟨none, Op.store _ (.tmp 8) _, _, _, _, _⟩ :: _) _ _); refine wpList_store_blk rfl 32 (.tmp 8) (.tmp 46) rfl g8 rfl _ rfl _ 32 hca (by rfl) (by kernel_rfl) (by kernel_rfl) ?_; intro w8 hq gr; replace hb27 := blk_a hb27 gr d_b27_ca; replace hb31 := blk_a hb31 gr d_b31_ca; replace hb35 := blk_a hb35 gr d_b35_ca; replace bel := below_grown bel gr oca bel.size; clear hca; have hca := hq; clear hq gr))
              go_ret
              exact ⟨rfl, bel⟩
          · have HTL : Hid ((108 :: 111 :: 119 :: 61 :: decT n).length ≤ 1000000) := Lib.hid (by have := HDL.out; simp; omega)
            by_cases blo : (1024 : Int) ≤ v
            · by_cases bhi : v ≤ (60000 : Int)
              · have hnlo : (1024 : Int) ≤ n := by have := HV.out; omega
                have hnhi : (n : Int) ≤ 60000 := by have := HV.out; omega
                obtain ⟨cc, hcc⟩ := (bnd4 hn9).1 (by unfold inI; rw [decide_eq_true (by omega : (1024 : Int) ≤ n), decide_eq_true (by omega : (n : Int) ≤ 60000)]; rfl)
                have HPS := Lib.hid hcc
                clear hcc
                clear hnlo hnhi
                go_wp2_with (first | ((with_reducible show wpList _ _ _ (⟨some 27, _, _, _, _, _⟩ :: _) _ _); refine wpList_lit_n rfl 47 9 5 _ rfl #[.string ⟨#[116, 105, 109, 101]⟩, .string ⟨#[117, 100, 112, 116, 105, 109, 101]⟩, .string ⟨#[116, 99, 112, 116, 105, 109, 101]⟩, .string ⟨#[105, 99, 109, 112, 116, 105, 109, 101]⟩, .string ⟨#[108, 111, 119]⟩] (.string ⟨#[]⟩) Try.underlying47 (by kernel_rfl) 1 (by kernel_rfl) (by decide) (by kernel_rfl) ?_; intro g27 w2 ge lt hh bb; have ob27 := Nat.le_trans bel.size ge; replace bel := bel.trans (bb.mono bel.size); have hb27 := hh; clear hh lt ge bb; have R30 := cell_lit hb27 4 _ rfl) | ((with_reducible show wpList _ _ _ (⟨some 31, _, _, _, _, _⟩ :: _) _ _); refine wpList_lit_n rfl 46 3 5 _ rfl #[.int .i64 60, .int .i64 10, .int .i64 10, .int .i64 10, .int .i64 1024] (.int .i64 0) Try.underlying46 (by kernel_rfl) 1 (by kernel_rfl) (by decide) (by kernel_rfl) ?_; intro g31 w3 ge lt hh bb; have d_b27_b31 := ne_new (hlt hb27) ge; have ob31 := Nat.le_trans bel.size ge; replace hb27 := blk_u hb27 bb; replace bel := bel.trans (bb.mono bel.size); have hb31 := hh; clear hh lt ge bb; have R34 := cell_lit hb31 4 _ rfl) | ((with_reducible show wpList _ _ _ (⟨some 35, _, _, _, _, _⟩ :: _) _ _); refine wpList_lit_n rfl 46 3 5 _ rfl #[.int .i64 86400, .int .i64 86400, .int .i64 86400, .int .i64 86400, .int .i64 60000] (.int .i64 0) Try.underlying46 (by kernel_rfl) 1 (by kernel_rfl) (by decide) (by kernel_rfl) ?_; intro g35 w4 ge lt hh bb; have d_b27_b35 := ne_new (hlt hb27) ge; have d_b31_b35 := ne_new (hlt hb31) ge; have ob35 := Nat.le_trans bel.size ge; replace hb27 := blk_u hb27 bb; replace hb31 := blk_u hb31 bb; replace bel := bel.trans (bb.mono bel.size); have hb35 := hh; clear hh lt ge bb; have R38 := cell_lit hb35 4 _ rfl; have R41 := fun W => st_cat (x := [108, 111, 119]) (y := [61]) (z := [108, 111, 119, 61]) rfl (by decide) W))
                try clear R30
                try clear R34
                try clear R38
                try clear R41
                with_reducible refine (rtext_v HV.out hn9 _).mono ?_
                rintro e w5 ⟨rfl, b5⟩
                replace hb27 := blk_u hb27 b5
                replace hb31 := blk_u hb31 b5
                replace hb35 := blk_u hb35 b5
                replace bel := bel.trans (b5.mono bel.size)
                clear b5
                have R44 := fun W => st_cat (x := [108, 111, 119, 61]) (y := decT n) (z := 108 :: 111 :: 119 :: 61 :: decT n) rfl (by have := HDL.out; simp; omega) W
                go_wp2_with fail
                clear R44
                with_reducible refine (cparse_is HPS.out HTL.out _).mono ?_
                rintro e w6 ⟨Fx, nf, cf, Ox, nx, cx, rfl, hf, ho, frF, frO, b6⟩
                replace hb27 := blk_u hb27 b6
                replace hb31 := blk_u hb31 b6
                replace hb35 := blk_u hb35 b6
                replace bel := bel.trans (b6.mono bel.size)
                clear b6
                clear hf ho frF frO
                go_wp2_with (first | ((with_reducible show wpList _ _ _ (⟨some 8, _, _, _, _, _⟩ :: _) _ _); refine wpList_new_a rfl 32 rfl #[.int .u8 0, .int .u8 0, .int .u8 0, .int .u8 0, .int .u8 0, .int .u8 0, .int .u8 0, .int .u8 0, .int .i64 0, .int .u8 0, .int .u8 0, .int .u8 0, .int .u8 0, .int .u8 0, .int .u8 0, .int .u8 0, .int .u8 0, .int .u8 0, .int .u8 0, .int .u8 0, .int .u8 0, .int .u8 0, .int .u8 0, .int .u8 0, .int .u8 0, .int .u8 0, .int .u8 0, .int .u8 0, .int .u8 0, .int .i64 0, .int .u8 0, .int .u8 0, .int .u8 0, .int .u8 0, .int .i64 0, .int .i64 0, .int .i64 0, .int .i64 0, .slice none 0 0, .slice none 0 0] (by kernel_rfl) ?_; intro g8 w7 ge hh bb; have d_b27_ca := ne_new (hlt hb27) ge; have d_b31_ca := ne_new (hlt hb31) ge; have d_b35_ca := ne_new (hlt hb35) ge; have oca := Nat.le_trans bel.size ge; replace hb27 := blk_u hb27 bb; replace hb31 := blk_u hb31 bb; replace hb35 := blk_u hb35 bb; replace bel := bel.trans (bb.mono bel.size); have hca := hh; clear hh ge bb) | ((with_reducible show wpList _ _ _ (⟨none, Op.store _ (.tmp 8) _, _, _, _, _⟩ :: _) _ _); refine wpList_store_blk rfl 32 (.tmp 8) (.tmp 46) rfl g8 rfl _ rfl _ 32 hca (by rfl) (by kernel_rfl) (by kernel_rfl) ?_; intro w8 hq gr; replace hb27 := blk_a hb27 gr d_b27_ca; replace hb31 := blk_a hb31 gr d_b31_ca; replace hb35 := blk_a hb35 gr d_b35_ca; replace bel := below_grown bel gr oca bel.size; clear hca; have hca := hq; clear hq gr))
                go_ret
                exact ⟨rfl, bel⟩
              · have bhi_ : decide (v ≤ (60000 : Int)) = false := decide_eq_false bhi
                have HPS := Lib.hid ((bnd4 hn9).2 (by unfold inI; rw [decide_eq_false (by have := HV.out; omega : ¬ (n : Int) ≤ 60000), Bool.and_false]))
                go_wp2_with (first | ((with_reducible show wpList _ _ _ (⟨some 27, _, _, _, _, _⟩ :: _) _ _); refine wpList_lit_n rfl 47 9 5 _ rfl #[.string ⟨#[116, 105, 109, 101]⟩, .string ⟨#[117, 100, 112, 116, 105, 109, 101]⟩, .string ⟨#[116, 99, 112, 116, 105, 109, 101]⟩, .string ⟨#[105, 99, 109, 112, 116, 105, 109, 101]⟩, .string ⟨#[108, 111, 119]⟩] (.string ⟨#[]⟩) Try.underlying47 (by kernel_rfl) 1 (by kernel_rfl) (by decide) (by kernel_rfl) ?_; intro g27 w2 ge lt hh bb; have ob27 := Nat.le_trans bel.size ge; replace bel := bel.trans (bb.mono bel.size); have hb27 := hh; clear hh lt ge bb; have R30 := cell_lit hb27 4 _ rfl) | ((with_reducible show wpList _ _ _ (⟨some 31, _, _, _, _, _⟩ :: _) _ _); refine wpList_lit_n rfl 46 3 5 _ rfl #[.int .i64 60, .int .i64 10, .int .i64 10, .int .i64 10, .int .i64 1024] (.int .i64 0) Try.underlying46 (by kernel_rfl) 1 (by kernel_rfl) (by decide) (by kernel_rfl) ?_; intro g31 w3 ge lt hh bb; have d_b27_b31 := ne_new (hlt hb27) ge; have ob31 := Nat.le_trans bel.size ge; replace hb27 := blk_u hb27 bb; replace bel := bel.trans (bb.mono bel.size); have hb31 := hh; clear hh lt ge bb; have R34 := cell_lit hb31 4 _ rfl) | ((with_reducible show wpList _ _ _ (⟨some 35, _, _, _, _, _⟩ :: _) _ _); refine wpList_lit_n rfl 46 3 5 _ rfl #[.int .i64 86400, .int .i64 86400, .int .i64 86400, .int .i64 86400, .int .i64 60000] (.int .i64 0) Try.underlying46 (by kernel_rfl) 1 (by kernel_rfl) (by decide) (by kernel_rfl) ?_; intro g35 w4 ge lt hh bb; have d_b27_b35 := ne_new (hlt hb27) ge; have d_b31_b35 := ne_new (hlt hb31) ge; have ob35 := Nat.le_trans bel.size ge; replace hb27 := blk_u hb27 bb; replace hb31 := blk_u hb31 bb; replace bel := bel.trans (bb.mono bel.size); have hb35 := hh; clear hh lt ge bb; have R38 := cell_lit hb35 4 _ rfl; have R41 := fun W => st_cat (x := [108, 111, 119]) (y := [61]) (z := [108, 111, 119, 61]) rfl (by decide) W))
                try clear R30
                try clear R34
                try clear R38
                try clear R41
                with_reducible refine (rtext_v HV.out hn9 _).mono ?_
                rintro e w5 ⟨rfl, b5⟩
                replace hb27 := blk_u hb27 b5
                replace hb31 := blk_u hb31 b5
                replace hb35 := blk_u hb35 b5
                replace bel := bel.trans (b5.mono bel.size)
                clear b5
                have R44 := fun W => st_cat (x := [108, 111, 119, 61]) (y := decT n) (z := 108 :: 111 :: 119 :: 61 :: decT n) rfl (by have := HDL.out; simp; omega) W
                go_wp2_with fail
                clear R44
                with_reducible refine (cparse_is HPS.out HTL.out _).mono ?_
                rintro e w6 ⟨Fx, nf, cf, Ox, nx, cx, rfl, hf, ho, frF, frO, b6⟩
                replace hb27 := blk_u hb27 b6
                replace hb31 := blk_u hb31 b6
                replace hb35 := blk_u hb35 b6
                replace bel := bel.trans (b6.mono bel.size)
                clear b6
                clear hf ho frF frO
                go_wp2_with (first | ((with_reducible show wpList _ _ _ (⟨some 8, _, _, _, _, _⟩ :: _) _ _); refine wpList_new_a rfl 32 rfl #[.int .u8 0, .int .u8 0, .int .u8 0, .int .u8 0, .int .u8 0, .int .u8 0, .int .u8 0, .int .u8 0, .int .i64 0, .int .u8 0, .int .u8 0, .int .u8 0, .int .u8 0, .int .u8 0, .int .u8 0, .int .u8 0, .int .u8 0, .int .u8 0, .int .u8 0, .int .u8 0, .int .u8 0, .int .u8 0, .int .u8 0, .int .u8 0, .int .u8 0, .int .u8 0, .int .u8 0, .int .u8 0, .int .u8 0, .int .i64 0, .int .u8 0, .int .u8 0, .int .u8 0, .int .u8 0, .int .i64 0, .int .i64 0, .int .i64 0, .int .i64 0, .slice none 0 0, .slice none 0 0] (by kernel_rfl) ?_; intro g8 w7 ge hh bb; have d_b27_ca := ne_new (hlt hb27) ge; have d_b31_ca := ne_new (hlt hb31) ge; have d_b35_ca := ne_new (hlt hb35) ge; have oca := Nat.le_trans bel.size ge; replace hb27 := blk_u hb27 bb; replace hb31 := blk_u hb31 bb; replace hb35 := blk_u hb35 bb; replace bel := bel.trans (bb.mono bel.size); have hca := hh; clear hh ge bb) | ((with_reducible show wpList _ _ _ (⟨none, Op.store _ (.tmp 8) _, _, _, _, _⟩ :: _) _ _); refine wpList_store_blk rfl 32 (.tmp 8) (.tmp 46) rfl g8 rfl _ rfl _ 32 hca (by rfl) (by kernel_rfl) (by kernel_rfl) ?_; intro w8 hq gr; replace hb27 := blk_a hb27 gr d_b27_ca; replace hb31 := blk_a hb31 gr d_b31_ca; replace hb35 := blk_a hb35 gr d_b35_ca; replace bel := below_grown bel gr oca bel.size; clear hca; have hca := hq; clear hq gr))
                go_ret
                exact ⟨rfl, bel⟩
            · have blo_ : decide ((1024 : Int) ≤ v) = false := decide_eq_false blo
              have HPS := Lib.hid ((bnd4 hn9).2 (by unfold inI; rw [decide_eq_false (by have := HV.out; omega : ¬ (1024 : Int) ≤ n)]; rfl))
              go_wp2_with (first | ((with_reducible show wpList _ _ _ (⟨some 27, _, _, _, _, _⟩ :: _) _ _); refine wpList_lit_n rfl 47 9 5 _ rfl #[.string ⟨#[116, 105, 109, 101]⟩, .string ⟨#[117, 100, 112, 116, 105, 109, 101]⟩, .string ⟨#[116, 99, 112, 116, 105, 109, 101]⟩, .string ⟨#[105, 99, 109, 112, 116, 105, 109, 101]⟩, .string ⟨#[108, 111, 119]⟩] (.string ⟨#[]⟩) Try.underlying47 (by kernel_rfl) 1 (by kernel_rfl) (by decide) (by kernel_rfl) ?_; intro g27 w2 ge lt hh bb; have ob27 := Nat.le_trans bel.size ge; replace bel := bel.trans (bb.mono bel.size); have hb27 := hh; clear hh lt ge bb; have R30 := cell_lit hb27 4 _ rfl) | ((with_reducible show wpList _ _ _ (⟨some 31, _, _, _, _, _⟩ :: _) _ _); refine wpList_lit_n rfl 46 3 5 _ rfl #[.int .i64 60, .int .i64 10, .int .i64 10, .int .i64 10, .int .i64 1024] (.int .i64 0) Try.underlying46 (by kernel_rfl) 1 (by kernel_rfl) (by decide) (by kernel_rfl) ?_; intro g31 w3 ge lt hh bb; have d_b27_b31 := ne_new (hlt hb27) ge; have ob31 := Nat.le_trans bel.size ge; replace hb27 := blk_u hb27 bb; replace bel := bel.trans (bb.mono bel.size); have hb31 := hh; clear hh lt ge bb; have R34 := cell_lit hb31 4 _ rfl) | ((with_reducible show wpList _ _ _ (⟨some 35, _, _, _, _, _⟩ :: _) _ _); refine wpList_lit_n rfl 46 3 5 _ rfl #[.int .i64 86400, .int .i64 86400, .int .i64 86400, .int .i64 86400, .int .i64 60000] (.int .i64 0) Try.underlying46 (by kernel_rfl) 1 (by kernel_rfl) (by decide) (by kernel_rfl) ?_; intro g35 w4 ge lt hh bb; have d_b27_b35 := ne_new (hlt hb27) ge; have d_b31_b35 := ne_new (hlt hb31) ge; have ob35 := Nat.le_trans bel.size ge; replace hb27 := blk_u hb27 bb; replace hb31 := blk_u hb31 bb; replace bel := bel.trans (bb.mono bel.size); have hb35 := hh; clear hh lt ge bb; have R38 := cell_lit hb35 4 _ rfl; have R41 := fun W => st_cat (x := [108, 111, 119]) (y := [61]) (z := [108, 111, 119, 61]) rfl (by decide) W))
              try clear R30
              try clear R34
              try clear R38
              try clear R41
              with_reducible refine (rtext_v HV.out hn9 _).mono ?_
              rintro e w5 ⟨rfl, b5⟩
              replace hb27 := blk_u hb27 b5
              replace hb31 := blk_u hb31 b5
              replace hb35 := blk_u hb35 b5
              replace bel := bel.trans (b5.mono bel.size)
              clear b5
              have R44 := fun W => st_cat (x := [108, 111, 119, 61]) (y := decT n) (z := 108 :: 111 :: 119 :: 61 :: decT n) rfl (by have := HDL.out; simp; omega) W
              go_wp2_with fail
              clear R44
              with_reducible refine (cparse_is HPS.out HTL.out _).mono ?_
              rintro e w6 ⟨Fx, nf, cf, Ox, nx, cx, rfl, hf, ho, frF, frO, b6⟩
              replace hb27 := blk_u hb27 b6
              replace hb31 := blk_u hb31 b6
              replace hb35 := blk_u hb35 b6
              replace bel := bel.trans (b6.mono bel.size)
              clear b6
              clear hf ho frF frO
              go_wp2_with (first | ((with_reducible show wpList _ _ _ (⟨some 8, _, _, _, _, _⟩ :: _) _ _); refine wpList_new_a rfl 32 rfl #[.int .u8 0, .int .u8 0, .int .u8 0, .int .u8 0, .int .u8 0, .int .u8 0, .int .u8 0, .int .u8 0, .int .i64 0, .int .u8 0, .int .u8 0, .int .u8 0, .int .u8 0, .int .u8 0, .int .u8 0, .int .u8 0, .int .u8 0, .int .u8 0, .int .u8 0, .int .u8 0, .int .u8 0, .int .u8 0, .int .u8 0, .int .u8 0, .int .u8 0, .int .u8 0, .int .u8 0, .int .u8 0, .int .u8 0, .int .i64 0, .int .u8 0, .int .u8 0, .int .u8 0, .int .u8 0, .int .i64 0, .int .i64 0, .int .i64 0, .int .i64 0, .slice none 0 0, .slice none 0 0] (by kernel_rfl) ?_; intro g8 w7 ge hh bb; have d_b27_ca := ne_new (hlt hb27) ge; have d_b31_ca := ne_new (hlt hb31) ge; have d_b35_ca := ne_new (hlt hb35) ge; have oca := Nat.le_trans bel.size ge; replace hb27 := blk_u hb27 bb; replace hb31 := blk_u hb31 bb; replace hb35 := blk_u hb35 bb; replace bel := bel.trans (bb.mono bel.size); have hca := hh; clear hh ge bb) | ((with_reducible show wpList _ _ _ (⟨none, Op.store _ (.tmp 8) _, _, _, _, _⟩ :: _) _ _); refine wpList_store_blk rfl 32 (.tmp 8) (.tmp 46) rfl g8 rfl _ rfl _ 32 hca (by rfl) (by kernel_rfl) (by kernel_rfl) ?_; intro w8 hq gr; replace hb27 := blk_a hb27 gr d_b27_ca; replace hb31 := blk_a hb31 gr d_b31_ca; replace hb35 := blk_a hb35 gr d_b35_ca; replace bel := below_grown bel gr oca bel.size; clear hca; have hca := hq; clear hq gr))
              go_ret
              exact ⟨rfl, bel⟩
end Go.Proofs.Ytdfobilagidmfaa
