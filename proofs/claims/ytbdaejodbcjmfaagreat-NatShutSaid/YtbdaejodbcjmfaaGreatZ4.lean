/- Texts put together: Na5, Law19h. -/
import Derived.Test.YtbdaejodbcjmfaaGreatQ1
import Derived.Test.YtbdaejodbcjmfaaGreatQ2
import Derived.Test.YtbdaejodbcjmfaaGreatQ3
import Derived.Test.YtbdaejodbcjmfaaGreatQ4
import Derived.Test.YtbdaejodbcjmfaaGreatQ5
import Derived.Test.YtbdaejodbcjmfaaGreatQ6
import Derived.Test.YtbdaejodbcjmfaaGreatQ7
import Derived.Test.YtbdaejodbcjmfaaGreatQ8
import Derived.Test.YtbdaejodbcjmfaaGreatQ9
import Derived.Test.YtbdaejodbcjmfaaGreatQ10
import Derived.Test.YtbdaejodbcjmfaaGreatQ11
import Derived.Test.YtbdaejodbcjmfaaGreatQ12
import Derived.Test.YtbdaejodbcjmfaaGreatQ13
import Derived.Test.YtbdaejodbcjmfaaGreatZ1
import Derived.Test.YtbdaejodbcjmfaaGreatZ2
import Derived.Test.YtbdaejodbcjmfaaGreatZ3
import Derived.Deep.CutRange
import Derived.Deep.RegionHeld3
namespace Go.Proofs.YtbdaejodbcjmfaaGreat
open Go.RowKit
open Go.RowKit

theorem results_cell_tt_row {P : Program} {fn : Func} {p u z : Tmp} {ty : TypeId} (h : fn.results = #[.cell p ty, .tmp u, .tmp z]) (tmps : Array Value) (w : World) (g : Nat) (T : TypeId) (cs : Array Value) (fr : Nat × Nat) (d : TypeDesc)
    (hp : tmps.getD p undef = .pointer (some ⟨g, 0, none⟩)) (hg : w.heap[g]? = some (.cells cs T fr)) (hu : P.underlying ty = some d) (hd : d.isRow = true) (hi : (P.info? ty).map (·.size) = some cs.size) (x y : Value) (hx : tmps.getD u undef = x) (hy : tmps.getD z undef = y) :
    (results fn tmps).run P w = .ok (.tuple #[.agg cs, x, y]) w := by
  have h1 := run_loadVar_row (P := P) w g T ty cs fr d hg hu (by cases d <;> simp_all) hi
  have hp' : tmps[p]?.getD undef = .pointer (some ⟨g, 0, none⟩) := by simpa using hp
  have hx' : tmps[u]?.getD undef = x := by simpa using hx
  have hy' : tmps[z]?.getD undef = y := by simpa using hy
  simp only [results, h]
  simp [Result.andThen, hp', hx', hy', asAddr, h1]
theorem be_pr (l : List UInt8) : 0 ≤ ((be (l.take 2) : Nat) : Int) ∧ ((be (l.take 2) : Nat) : Int) ≤ 65535 := by
  have h2 : (l.take 2).length ≤ 2 := by rw [List.length_take]; omega
  rcases h : l.take 2 with _ | ⟨x, _ | ⟨y, _ | ⟨z, r⟩⟩⟩
  · decide
  · have := be_lt 1 [x] rfl; omega
  · have := be_lt 2 [x, y] rfl; omega
  · rw [h] at h2; simp at h2
theorem okP_mk {p o : Int} (h1 : 0 ≤ p) (h2 : p ≤ 255) (h3 : 0 ≤ o) (h4 : o ≤ 65535) : okP p o := ⟨h1, h2, h3, h4⟩
theorem be_qu (l : List UInt8) : 0 ≤ ((be (l.take 4) : Nat) : Int) ∧ ((be (l.take 4) : Nat) : Int) < 4294967296 := by
  have h2 : (l.take 4).length ≤ 4 := by rw [List.length_take]; omega
  generalize l.take 4 = q at *
  have h3 := be_lt q.length q rfl
  have h4 : 256 ^ q.length ≤ 256 ^ 4 := Nat.pow_le_pow_right (by decide) h2
  omega
/-- The Nat with its table as it was, or as another time has left it. -/
def Nq (lo gn gt gk : Nat) (w : World) (s s' : Ts) (k : Ks) : Prop := Np lo gn gt gk w s k ∨ Np lo gn gt gk w s' k
theorem tcGet_er (fl pt pr : Int) (a0 a1 a2 a3 b0 b1 b2 b3 : UInt8) (b : List UInt8) : (tcGet fl pt pr a0 a1 a2 a3 b0 b1 b2 b3 b).2.2 = tcErr fl pt pr a0 a1 a2 a3 b0 b1 b2 b3 b := by
  unfold tcGet
  split
  · rfl
  · rename_i h
    simp only [ne_eq, Decidable.not_not] at h
    exact h.symm
theorem tcget_er (tos id fl pt ttl : Int) (a0 a1 a2 a3 b0 b1 b2 b3 : UInt8) (So Sb : Option Addr) (no co nb cb : Nat) {lb : List UInt8} {er : Int} (w : World) (hb : Sl w Sb nb cb lb) (hm : nb ≤ 100000) (hg : tcErr fl pt 6 a0 a1 a2 a3 b0 b1 b2 b3 lb = er) : Calls Tryz.prog 68 #[.agg #[.int .i64 tos, .int .i64 id, .int .i64 fl, .int .i64 pt, .int .i64 ttl, .int .i64 6, .int .u8 (a0.toNat : Int), .int .u8 (a1.toNat : Int), .int .u8 (a2.toNat : Int), .int .u8 (a3.toNat : Int), .int .u8 (b0.toNat : Int), .int .u8 (b1.toNat : Int), .int .u8 (b2.toNat : Int), .int .u8 (b3.toNat : Int), .slice So no co, .slice Sb nb cb]] w fun e w' => ∃ f0 f1 f2 f3 f4 f5 f6 Aq nq cq Ab n2 c2, e = .returned (.tuple #[.agg #[.int .i64 f0, .int .i64 f1, .int .u32 f2, .int .u32 f3, .int .i64 f4, .int .i64 f5, .int .i64 f6, .slice Aq nq cq, .slice Ab n2 c2], .int .i64 er]) ∧ Below w.heap.size w w' := by
  refine (tcget_any tos id fl pt ttl 6 a0 a1 a2 a3 b0 b1 b2 b3 So Sb no co nb cb lb w hb hm).mono ?_
  rintro e w' ⟨f0, f1, f2, f3, f4, f5, f6, lq, l2, Aq, Ab, cq, c2, er', rfl, _, _, _, _, bel, hq⟩
  have e1 := congrArg (fun z => z.2.2) hq
  simp only [tcGet_er] at e1
  rw [hg] at e1
  subst e1
  exact ⟨_, _, _, _, _, _, _, _, _, _, _, _, _, rfl, bel⟩
theorem tcget_to (tos id fl pt ttl : Int) (a0 a1 a2 a3 b0 b1 b2 b3 : UInt8) (So Sb : Option Addr) (no co nb cb : Nat) {lb : List UInt8} (w : World) (hb : Sl w Sb nb cb lb) (hm : nb ≤ 100000) (hg : tcErr fl pt 6 a0 a1 a2 a3 b0 b1 b2 b3 lb = 0) : Calls Tryz.prog 68 #[.agg #[.int .i64 tos, .int .i64 id, .int .i64 fl, .int .i64 pt, .int .i64 ttl, .int .i64 6, .int .u8 (a0.toNat : Int), .int .u8 (a1.toNat : Int), .int .u8 (a2.toNat : Int), .int .u8 (a3.toNat : Int), .int .u8 (b0.toNat : Int), .int .u8 (b1.toNat : Int), .int .u8 (b2.toNat : Int), .int .u8 (b3.toNat : Int), .slice So no co, .slice Sb nb cb]] w fun e w' => ∃ f0 f1 f2 f3 f4 f5 f6 Aq nq cq Ab n2 c2, e = .returned (.tuple #[.agg #[.int .i64 f0, .int .i64 f1, .int .u32 f2, .int .u32 f3, .int .i64 f4, .int .i64 f5, .int .i64 f6, .slice Aq nq cq, .slice Ab n2 c2], .int .i64 0]) ∧ Hid (0 ≤ f1 ∧ f1 ≤ 65535) ∧ Below w.heap.size w w' := by
  refine (tcget_any tos id fl pt ttl 6 a0 a1 a2 a3 b0 b1 b2 b3 So Sb no co nb cb lb w hb hm).mono ?_
  rintro e w' ⟨f0, f1, f2, f3, f4, f5, f6, lq, l2, Aq, Ab, cq, c2, er', rfl, _, _, _, _, bel, hq⟩
  unfold tcGet at hq
  rw [if_neg (by rw [hg]; decide)] at hq
  simp only [Prod.mk.injEq, List.cons.injEq, and_true] at hq
  obtain ⟨⟨rfl, rfl, rfl, rfl, rfl, rfl, rfl⟩, ⟨rfl, rfl⟩, rfl⟩ := hq
  exact ⟨_, _, _, _, _, _, _, _, _, _, _, _, _, rfl, Lib.hid (be_pr _), bel⟩
theorem icget_er (tos id fl pt ttl : Int) (a0 a1 a2 a3 b0 b1 b2 b3 : UInt8) (So Sb : Option Addr) (no co nb cb : Nat) {lb : List UInt8} {er : Int} (w : World) (hb : Sl w Sb nb cb lb) (hm : nb ≤ 100000) (hg : icErr fl pt 1 lb = er) : Calls Tryz.prog 21 #[.agg #[.int .i64 tos, .int .i64 id, .int .i64 fl, .int .i64 pt, .int .i64 ttl, .int .i64 1, .int .u8 (a0.toNat : Int), .int .u8 (a1.toNat : Int), .int .u8 (a2.toNat : Int), .int .u8 (a3.toNat : Int), .int .u8 (b0.toNat : Int), .int .u8 (b1.toNat : Int), .int .u8 (b2.toNat : Int), .int .u8 (b3.toNat : Int), .slice So no co, .slice Sb nb cb]] w fun e w' => ∃ f0 f1 f2 Ab n2 c2, e = .returned (.tuple #[.agg #[.int .i64 f0, .int .i64 f1, .int .u32 f2, .slice Ab n2 c2], .int .i64 er]) ∧ Below w.heap.size w w' := by
  refine (icget_any tos id fl pt ttl 1 a0 a1 a2 a3 b0 b1 b2 b3 So Sb no co nb cb lb w hb hm).mono ?_
  rintro e w' ⟨f0, f1, f2, l2, Ab, c2, er', rfl, _, _, bel, hq⟩
  have e1 := congrArg (fun z => z.2.2) hq
  simp only [icGet_er] at e1
  rw [hg] at e1
  subst e1
  exact ⟨_, _, _, _, _, _, rfl, bel⟩
theorem icget_ok (tos id fl pt ttl : Int) (a0 a1 a2 a3 b0 b1 b2 b3 : UInt8) (So Sb : Option Addr) (no co nb cb : Nat) {lb : List UInt8} (w : World) (hb : Sl w Sb nb cb lb) (hm : nb ≤ 100000) (hg : icErr fl pt 1 lb = 0) : Calls Tryz.prog 21 #[.agg #[.int .i64 tos, .int .i64 id, .int .i64 fl, .int .i64 pt, .int .i64 ttl, .int .i64 1, .int .u8 (a0.toNat : Int), .int .u8 (a1.toNat : Int), .int .u8 (a2.toNat : Int), .int .u8 (a3.toNat : Int), .int .u8 (b0.toNat : Int), .int .u8 (b1.toNat : Int), .int .u8 (b2.toNat : Int), .int .u8 (b3.toNat : Int), .slice So no co, .slice Sb nb cb]] w fun e w' => ∃ f0 f1 f2 l2 Ab n2 c2, e = .returned (.tuple #[.agg #[.int .i64 f0, .int .i64 f1, .int .u32 f2, .slice Ab n2 c2], .int .i64 0]) ∧ Sl w' Ab n2 c2 l2 ∧ Fr w.heap.size Ab n2 ∧ Hid (n2 ≤ 100000) ∧ Hid (0 ≤ f2 ∧ f2 < 4294967296) ∧ Below w.heap.size w w' := by
  refine (icget_any tos id fl pt ttl 1 a0 a1 a2 a3 b0 b1 b2 b3 So Sb no co nb cb lb w hb hm).mono ?_
  rintro e w' ⟨f0, f1, f2, l2, Ab, c2, er', rfl, hs, hf, bel, hq⟩
  unfold icGet at hq
  rw [if_neg (by rw [hg]; decide)] at hq
  simp only [Prod.mk.injEq, List.cons.injEq, and_true] at hq
  obtain ⟨⟨rfl, rfl, rfl⟩, rfl, rfl⟩ := hq
  exact ⟨_, _, _, _, _, _, _, rfl, hs, hf, Lib.hid (by have := hb.1; rw [List.length_drop]; omega), Lib.hid (be_qu _), bel⟩
theorem icquery_no (ty cd re : Int) (D : Option Addr) (nd qd : Nat) (h : (echoT ty && decide (cd = 0)) = false) (w : World) : Calls Tryz.prog 71 #[.agg #[.int .i64 ty, .int .i64 cd, .int .u32 re, .slice D nd qd]] w fun e w' => e = .returned (.tuple #[.int .i64 0, .bool false]) ∧ Below w.heap.size w w' := by
  rcases h0 : echoT ty with _ | _
  · exact icquery_0 ty cd re D nd qd h0 w
  · by_cases h1 : cd = 0
    · rw [h0, decide_eq_true h1] at h; cases h
    · exact icquery_1 ty cd re D nd qd h0 h1 w
theorem inner_no {A : Option Addr} {n c : Nat} {l : List UInt8} (w : World) (lb : Sl w A n c l) (hm : n ≤ 100000) (hi : inH l = none) : Calls Tryz.prog 106 #[.slice A n c] w fun e w' => e = .returned (.tuple #[.agg #[.slice none 0 0, .int .i64 0], .bool false]) ∧ Below w.heap.size w w' := by
  by_cases h1 : n < 20
  · exact inner_1 (l := l) w h1
  have hl := lb.1
  obtain ⟨gB, oB, rfl, _⟩ := lb.2.2.2 (by omega)
  unfold inH at hi
  rw [if_neg (by omega)] at hi
  by_cases h2 : (l.getD 0 0).toNat / 16 = 4
  · rw [if_neg (not_not_intro h2)] at hi
    by_cases h3 : hlen (l.getD 0 0) < 20
    · exact inner_3 w lb hm (by omega) h2 rfl h3
    rw [if_neg h3] at hi
    by_cases h4 : l.length < hlen (l.getD 0 0) + 4
    · exact inner_4 w lb hm (by omega) h2 rfl (by omega) (by omega)
    rw [if_neg h4] at hi
    by_cases h5 : ck (l.take (hlen (l.getD 0 0))) = 0
    · rw [if_neg (not_not_intro h5)] at hi; cases hi
    · exact inner_5 w lb hm (by omega) h2 rfl (by omega) (by omega) h5
  · exact inner_2 w lb hm (by omega) h2
theorem inner_yes {gB oB n c h : Nat} {l : List UInt8} (w : World) (lb : Sl w (some ⟨gB, oB, none⟩) n c l) (hm : n ≤ 100000) (hi : inH l = some h) : Calls Tryz.prog 106 #[.slice (some ⟨gB, oB, none⟩) n c] w fun e w' => e = .returned (.tuple #[.agg #[.slice (some ⟨gB, oB, none⟩) n c, .int .i64 (h : Int)], .bool true]) ∧ Below w.heap.size w w' := by
  have hl := lb.1
  unfold inH at hi
  by_cases h1 : l.length < 20
  · rw [if_pos h1] at hi; cases hi
  rw [if_neg h1] at hi
  by_cases h2 : (l.getD 0 0).toNat / 16 = 4
  · rw [if_neg (not_not_intro h2)] at hi
    by_cases h3 : hlen (l.getD 0 0) < 20
    · rw [if_pos h3] at hi; cases hi
    rw [if_neg h3] at hi
    by_cases h4 : l.length < hlen (l.getD 0 0) + 4
    · rw [if_pos h4] at hi; cases hi
    rw [if_neg h4] at hi
    by_cases h5 : ck (l.take (hlen (l.getD 0 0))) = 0
    · rw [if_neg (not_not_intro h5)] at hi
      injection hi with hi
      subst hi
      exact inner_y w lb hm (by omega) h2 rfl (by omega) (by omega) h5
    · rw [if_pos h5] at hi; cases hi
  · rw [if_pos h2] at hi; cases hi
theorem inH_bnd {l : List UInt8} {h : Nat} (hi : inH l = some h) : 20 ≤ h ∧ h ≤ 60 ∧ h + 4 ≤ l.length := by
  unfold inH at hi
  have h60 := hlen_le (l.getD 0 0)
  by_cases h1 : l.length < 20
  · rw [if_pos h1] at hi; cases hi
  rw [if_neg h1] at hi
  by_cases h2 : (l.getD 0 0).toNat / 16 ≠ 4
  · rw [if_pos h2] at hi; cases hi
  rw [if_neg h2] at hi
  by_cases h3 : hlen (l.getD 0 0) < 20
  · rw [if_pos h3] at hi; cases hi
  rw [if_neg h3] at hi
  by_cases h4 : l.length < hlen (l.getD 0 0) + 4
  · rw [if_pos h4] at hi; cases hi
  rw [if_neg h4] at hi
  by_cases h5 : ck (l.take (hlen (l.getD 0 0))) ≠ 0
  · rw [if_pos h5] at hi; cases hi
  rw [if_neg h5] at hi
  injection hi with hi
  omega
theorem take4 {l : List UInt8} {k : Nat} (h : k + 4 ≤ l.length) : ∃ a b c d, (l.drop k).take 4 = [a, b, c, d] := by
  have h1 : ((l.drop k).take 4).length = 4 := by rw [List.length_take, List.length_drop]; omega
  rcases h2 : (l.drop k).take 4 with _ | ⟨a, _ | ⟨b, _ | ⟨c, _ | ⟨d, _ | ⟨e, r⟩⟩⟩⟩⟩ <;> rw [h2] at h1 <;> simp at h1
  exact ⟨a, b, c, d, rfl⟩
theorem take2 {l : List UInt8} {k : Nat} (h : k + 2 ≤ l.length) : ∃ a b, (l.drop k).take 2 = [a, b] := by
  have h1 : ((l.drop k).take 2).length = 2 := by rw [List.length_take, List.length_drop]; omega
  rcases h2 : (l.drop k).take 2 with _ | ⟨a, _ | ⟨b, _ | ⟨c, r⟩⟩⟩ <;> rw [h2] at h1 <;> simp at h1
  exact ⟨a, b, rfl⟩
theorem inflow_any {c0 c1 c2 c3 : UInt8} {gB oB n c h : Nat} {l : List UInt8} (w : World) (lb : Sl w (some ⟨gB, oB, none⟩) n c l) (hi : inH l = some h) : Calls Tryz.prog 107 #[.agg #[.slice (some ⟨gB, oB, none⟩) n c, .int .i64 (h : Int)], .agg #[.int .i64 12, .int .i64 0], .agg #[.int .u8 (c0.toNat : Int), .int .u8 (c1.toNat : Int), .int .u8 (c2.toNat : Int), .int .u8 (c3.toNat : Int)]] w fun e w' => ∃ (fp : Int) (g0 g1 g2 g3 : UInt8) (fo r : Int), e = .returned (.tuple #[.agg #[.int .i64 fp, .int .u8 (g0.toNat : Int), .int .u8 (g1.toNat : Int), .int .u8 (g2.toNat : Int), .int .u8 (g3.toNat : Int), .int .i64 fo], .int .i64 r]) ∧ Hid (r = 0 → okP fp fo) ∧ Below w.heap.size w w' := by
  have hb := inH_bnd hi
  have hl := lb.1
  obtain ⟨x, hx⟩ : ∃ x, l[9]? = some x := ⟨_, List.getElem?_eq_getElem (by omega)⟩
  obtain ⟨y0, y1, y2, y3, hy⟩ := take4 (l := l) (k := 12) (by omega)
  rcases he : (⟨y0, y1, y2, y3⟩ : Ad4).eqB ⟨c0, c1, c2, c3⟩ with _ | _
  · refine (inflow_a w lb hx (by omega) hy he).mono ?_
    rintro e w' ⟨rfl, b⟩
    exact ⟨0, 0, 0, 0, 0, 0, 11, rfl, Lib.hid (fun h => by cases h), b⟩
  have e4 := Ad4.eqB_iff.1 he
  injection e4 with e0 e1 e2 e3
  subst e0; subst e1; subst e2; subst e3
  rcases hk : knB (x.toNat : Int) with _ | _
  · refine (inflow_b w lb hx (by omega) hy hk).mono ?_
    rintro e w' ⟨rfl, b⟩
    exact ⟨0, 0, 0, 0, 0, 0, 11, rfl, Lib.hid (fun h => by cases h), b⟩
  by_cases hs : n < (if x.toNat = 1 then h + 4 else h) + 2
  · refine (inflow_c w lb hx (by omega) hy hk hb.2.1 rfl hs).mono ?_
    rintro e w' ⟨rfl, b⟩
    exact ⟨0, 0, 0, 0, 0, 0, 4, rfl, Lib.hid (fun h => by cases h), b⟩
  · obtain ⟨p0, p1, hp⟩ := take2 (l := l) (k := if x.toNat = 1 then h + 4 else h) (by omega)
    refine (inflow_y w lb hx (by omega) hy hk hb.2.1 rfl (by omega) hp).mono ?_
    rintro e w' ⟨rfl, b⟩
    exact ⟨_, _, _, _, _, _, 0, rfl, Lib.hid (fun _ => ⟨by omega, by have := x.toNat_lt; omega, by omega, by have := be_lt 2 [p0, p1] rfl; omega⟩), b⟩
set_option linter.unusedVariables false in
set_option linter.unusedVariables false in
set_option linter.unusedSimpArgs false in
set_option maxRecDepth 100000 in
set_option maxHeartbeats 16000000 in
theorem nfin_any {lo gn gt gk : Nat} {s : Ts} {k : Ks} {s' : Ts} {c0 c1 c2 c3 : UInt8} {t : Int} {D : Option Addr} {nd cd : Nat} {ld : List UInt8} (w : World) (hT : Np lo gn gt gk w s k) (pb : Sl w D nd cd ld) (hm : nd ≤ 100000) (hc : ∀ pr o, okP pr o → InE lo gt s s' pr o t)  : Calls Tryz.prog 74 #[.pointer (some ⟨gn, 0, none⟩), .slice D nd cd, .agg #[.int .u8 (c0.toNat : Int), .int .u8 (c1.toNat : Int), .int .u8 (c2.toNat : Int), .int .u8 (c3.toNat : Int)], .int .i64 t] w fun e w' => ∃ r, e = .returned (.tuple #[.agg #[.int .u8 0, .int .u8 0, .int .u8 0, .int .u8 0], .slice none 0 0, .int .i64 r]) ∧ r ≠ 0 ∧ Nq lo gn gt gk w' s s' k ∧ Fn gn gt gk w w' ∧ Below lo w w' := by
  have hlo : lo ≤ w.heap.size := hT.lo_le
  have HLO := Lib.hid hlo
  have hnt := hT.nat
  have fr := Fn.refl gn gt gk w
  have HM := Lib.hid hm
  clear hm
  have bel := Below.refl lo w
  go_enter Tryz.func74, Tryz.ntmps74
  rcases hin : inH ld with _ | h
  · have HIN := Lib.hid hin
    clear hin
    go_wp2_with (first | ((with_reducible show wpList _ _ _ (⟨some 6, _, _, _, _, _⟩ :: _) _ _); refine wpList_box_n rfl 35 (.tmp 2) rfl #[.int .u8 (c0.toNat : Int), .int .u8 (c1.toNat : Int), .int .u8 (c2.toNat : Int), .int .u8 (c3.toNat : Int)] rfl ?_; intro g6 w1 ge lt hh bb; have ap_wB := hT.ap ge; have d_nt_wB := ne_new (hlt hnt) ge; have av_pb_wB := pb.av_new ge; have owB := Nat.le_trans (Nat.le_trans hlo bel.size) ge; have pwB := Nat.le_trans bel.size ge; replace hnt := blk_u hnt bb; replace pb := pb.below bb; replace hT := hT.below bb; replace fr := fr.below bb; replace ap_wB := ap_wB.below bb; replace bel := bel.trans (bb.mono (Nat.le_trans hlo bel.size)); have hwB := hh; clear hh lt ge bb) | ((with_reducible show wpList _ _ _ (⟨some 8, _, _, _, _, _⟩ :: _) _ _); refine wpList_new_a rfl 35 rfl #[.int .u8 0, .int .u8 0, .int .u8 0, .int .u8 0] (by kernel_rfl) ?_; intro g8 w2 ge hh bb; have ap_rB := hT.ap ge; have d_nt_rB := ne_new (hlt hnt) ge; have d_wB_rB := ne_new (hlt hwB) ge; have av_pb_rB := pb.av_new ge; have orB := Nat.le_trans (Nat.le_trans hlo bel.size) ge; have prB := Nat.le_trans bel.size ge; replace hnt := blk_u hnt bb; replace hwB := blk_u hwB bb; replace pb := pb.below bb; replace hT := hT.below bb; replace fr := fr.below bb; replace ap_wB := ap_wB.below bb; replace ap_rB := ap_rB.below bb; replace bel := bel.trans (bb.mono (Nat.le_trans hlo bel.size)); have hrB := hh; clear hh ge bb))
    with_reducible refine (inner_no _ pb HM.out HIN.out).mono ?_
    rintro e w3 ⟨rfl, b3⟩
    replace hnt := blk_u hnt b3
    replace hwB := blk_u hwB b3
    replace hrB := blk_u hrB b3
    replace pb := pb.below b3
    replace hT := hT.below b3
    replace fr := fr.below b3
    replace ap_wB := ap_wB.below b3
    replace ap_rB := ap_rB.below b3
    replace bel := bel.trans (b3.mono (Nat.le_trans hlo bel.size))
    clear b3
    go_wp2_with (first | ((with_reducible show wpList _ _ _ (⟨some 11, _, _, _, _, _⟩ :: _) _ _); refine wpList_new_a rfl 160 rfl #[.slice none 0 0, .int .i64 0] (by kernel_rfl) ?_; intro g11 w4 ge hh bb; have ap_iB := hT.ap ge; have d_nt_iB := ne_new (hlt hnt) ge; have d_wB_iB := ne_new (hlt hwB) ge; have d_rB_iB := ne_new (hlt hrB) ge; have av_pb_iB := pb.av_new ge; have oiB := Nat.le_trans (Nat.le_trans hlo bel.size) ge; have piB := Nat.le_trans bel.size ge; replace hnt := blk_u hnt bb; replace hwB := blk_u hwB bb; replace hrB := blk_u hrB bb; replace pb := pb.below bb; replace hT := hT.below bb; replace fr := fr.below bb; replace ap_wB := ap_wB.below bb; replace ap_rB := ap_rB.below bb; replace ap_iB := ap_iB.below bb; replace bel := bel.trans (bb.mono (Nat.le_trans hlo bel.size)); have hiB := hh; clear hh ge bb) | ((with_reducible show wpList _ _ _ (⟨none, Op.store _ (.tmp 11) _, _, _, _, _⟩ :: _) _ _); refine wpList_store_blk rfl 160 (.tmp 11) (.tmp 19) rfl g11 rfl _ rfl _ 160 hiB (by rfl) (by kernel_rfl) (by kernel_rfl) ?_; intro w5 hq gr; replace pb := pb.away av_pb_iB gr; replace hnt := blk_a hnt gr d_nt_iB; replace hwB := blk_a hwB gr d_wB_iB; replace hrB := blk_a hrB gr d_rB_iB; replace hT := hT.away ap_iB gr hiB; replace fr := fr.newer ap_iB gr piB; replace ap_wB := ap_wB.grown ap_iB gr; replace ap_rB := ap_rB.grown ap_iB gr; replace ap_iB := ap_iB.grown ap_iB gr; replace bel := below_grown bel gr oiB (Nat.le_trans hlo bel.size); clear hiB; have hiB := hq; clear hq gr) | ((with_reducible show wpList _ _ _ (⟨none, Op.store _ (.tmp 8) _, _, _, _, _⟩ :: _) _ _); refine wpList_store_blk rfl 35 (.tmp 8) (.tmp 23) rfl g8 rfl _ rfl _ 35 hrB (by rfl) (by kernel_rfl) (by kernel_rfl) ?_; intro w6 hq gr; replace pb := pb.away av_pb_rB gr; replace hnt := blk_a hnt gr d_nt_rB; replace hwB := blk_a hwB gr d_wB_rB; replace hiB := blk_a hiB gr (ne_symm d_rB_iB); replace hT := hT.away ap_rB gr hrB; replace fr := fr.newer ap_rB gr prB; replace ap_wB := ap_wB.grown ap_rB gr; replace ap_rB := ap_rB.grown ap_rB gr; replace ap_iB := ap_iB.grown ap_rB gr; replace bel := below_grown bel gr orB (Nat.le_trans hlo bel.size); clear hrB; have hrB := hq; clear hq gr))
    exact bodyPost_ret (results_cell_tt_row rfl _ _ _ _ _ _ _ rfl hrB Tryz.underlying35 rfl (by kernel_rfl) _ _ rfl rfl) rfl ⟨4, rfl, (by decide), Or.inl hT, fr, bel⟩
  have HIN := Lib.hid hin
  obtain ⟨gB, oB, rfl, _⟩ := pb.2.2.2 (by have h1_ := inH_bnd hin; have h2_ := pb.1; omega)
  clear hin
  go_wp2_with (first | ((with_reducible show wpList _ _ _ (⟨some 6, _, _, _, _, _⟩ :: _) _ _); refine wpList_box_n rfl 35 (.tmp 2) rfl #[.int .u8 (c0.toNat : Int), .int .u8 (c1.toNat : Int), .int .u8 (c2.toNat : Int), .int .u8 (c3.toNat : Int)] rfl ?_; intro g6 w1 ge lt hh bb; have ap_wB := hT.ap ge; have d_nt_wB := ne_new (hlt hnt) ge; have av_pb_wB := pb.av_new ge; have owB := Nat.le_trans (Nat.le_trans hlo bel.size) ge; have pwB := Nat.le_trans bel.size ge; replace hnt := blk_u hnt bb; replace pb := pb.below bb; replace hT := hT.below bb; replace fr := fr.below bb; replace ap_wB := ap_wB.below bb; replace bel := bel.trans (bb.mono (Nat.le_trans hlo bel.size)); have hwB := hh; clear hh lt ge bb) | ((with_reducible show wpList _ _ _ (⟨some 8, _, _, _, _, _⟩ :: _) _ _); refine wpList_new_a rfl 35 rfl #[.int .u8 0, .int .u8 0, .int .u8 0, .int .u8 0] (by kernel_rfl) ?_; intro g8 w2 ge hh bb; have ap_rB := hT.ap ge; have d_nt_rB := ne_new (hlt hnt) ge; have d_wB_rB := ne_new (hlt hwB) ge; have av_pb_rB := pb.av_new ge; have orB := Nat.le_trans (Nat.le_trans hlo bel.size) ge; have prB := Nat.le_trans bel.size ge; replace hnt := blk_u hnt bb; replace hwB := blk_u hwB bb; replace pb := pb.below bb; replace hT := hT.below bb; replace fr := fr.below bb; replace ap_wB := ap_wB.below bb; replace ap_rB := ap_rB.below bb; replace bel := bel.trans (bb.mono (Nat.le_trans hlo bel.size)); have hrB := hh; clear hh ge bb))
  with_reducible refine (inner_yes _ pb HM.out HIN.out).mono ?_
  rintro e w3 ⟨rfl, b3⟩
  replace hnt := blk_u hnt b3
  replace hwB := blk_u hwB b3
  replace hrB := blk_u hrB b3
  replace pb := pb.below b3
  replace hT := hT.below b3
  replace fr := fr.below b3
  replace ap_wB := ap_wB.below b3
  replace ap_rB := ap_rB.below b3
  replace bel := bel.trans (b3.mono (Nat.le_trans hlo bel.size))
  clear b3
  go_wp2_with (first | ((with_reducible show wpList _ _ _ (⟨some 11, _, _, _, _, _⟩ :: _) _ _); refine wpList_new_a rfl 160 rfl #[.slice none 0 0, .int .i64 0] (by kernel_rfl) ?_; intro g11 w4 ge hh bb; have ap_iB := hT.ap ge; have d_nt_iB := ne_new (hlt hnt) ge; have d_wB_iB := ne_new (hlt hwB) ge; have d_rB_iB := ne_new (hlt hrB) ge; have av_pb_iB := pb.av_new ge; have oiB := Nat.le_trans (Nat.le_trans hlo bel.size) ge; have piB := Nat.le_trans bel.size ge; replace hnt := blk_u hnt bb; replace hwB := blk_u hwB bb; replace hrB := blk_u hrB bb; replace pb := pb.below bb; replace hT := hT.below bb; replace fr := fr.below bb; replace ap_wB := ap_wB.below bb; replace ap_rB := ap_rB.below bb; replace ap_iB := ap_iB.below bb; replace bel := bel.trans (bb.mono (Nat.le_trans hlo bel.size)); have hiB := hh; clear hh ge bb) | ((with_reducible show wpList _ _ _ (⟨none, Op.store _ (.tmp 11) _, _, _, _, _⟩ :: _) _ _); refine wpList_store_blk rfl 160 (.tmp 11) (.tmp 19) rfl g11 rfl _ rfl _ 160 hiB (by rfl) (by kernel_rfl) (by kernel_rfl) ?_; intro w5 hq gr; replace pb := pb.away av_pb_iB gr; replace hnt := blk_a hnt gr d_nt_iB; replace hwB := blk_a hwB gr d_wB_iB; replace hrB := blk_a hrB gr d_rB_iB; replace hT := hT.away ap_iB gr hiB; replace fr := fr.newer ap_iB gr piB; replace ap_wB := ap_wB.grown ap_iB gr; replace ap_rB := ap_rB.grown ap_iB gr; replace ap_iB := ap_iB.grown ap_iB gr; replace bel := below_grown bel gr oiB (Nat.le_trans hlo bel.size); clear hiB; have hiB := hq; clear hq gr))
  go_cut [13, 14] from 9999 (fun s13 s14 W => ∃ g13 : Nat, ∃ fp : Int, ∃ g0 : UInt8, ∃ g1 : UInt8, ∃ g2 : UInt8, ∃ g3 : UInt8, ∃ fo : Int, ∃ r : Int, s13 = .pointer (some ⟨g13, 0, none⟩) ∧ s14 = .int .i64 r ∧ W.heap[gn]? = some (.cells #[.pointer (some ⟨gt, 0, none⟩), .pointer (some ⟨gk, 0, none⟩), .int .i64 120, .int .i64 7200, .int .i64 30] 82 (0, 0)) ∧ W.heap[g6]? = some (.cells #[.int .u8 (c0.toNat : Int), .int .u8 (c1.toNat : Int), .int .u8 (c2.toNat : Int), .int .u8 (c3.toNat : Int)] 35 (0, 0)) ∧ W.heap[g8]? = some (.cells #[.int .u8 0, .int .u8 0, .int .u8 0, .int .u8 0] 35 (0, 0)) ∧ W.heap[g11]? = some (.cells #[.slice (some ⟨gB, oB, none⟩) nd cd, .int .i64 (h : Int)] 160 (0, 0)) ∧ W.heap[g13]? = some (.cells #[.int .i64 fp, .int .u8 (g0.toNat : Int), .int .u8 (g1.toNat : Int), .int .u8 (g2.toNat : Int), .int .u8 (g3.toNat : Int), .int .i64 fo] 164 (0, 0)) ∧ lo ≤ g13 ∧ w.heap.size ≤ g13 ∧ Hid (g13 ≠ g11) ∧ Hid (g13 ≠ gn) ∧ Hid (g13 ≠ g8) ∧ Hid (g13 ≠ g6) ∧ Hid (g11 ≠ gn) ∧ Hid (g11 ≠ g8) ∧ Hid (g11 ≠ g6) ∧ Hid (gn ≠ g8) ∧ Hid (gn ≠ g6) ∧ Hid (g8 ≠ g6) ∧ Sl W (some ⟨gB, oB, none⟩) (nd) (cd) (ld) ∧ Av (some ⟨gB, oB, none⟩) (nd) g13 ∧ Av (some ⟨gB, oB, none⟩) (nd) g11 ∧ Av (some ⟨gB, oB, none⟩) (nd) g8 ∧ Av (some ⟨gB, oB, none⟩) (nd) g6 ∧ Hid (r = 0 → okP fp fo) ∧ Np lo gn gt gk W s k ∧ Fn gn gt gk w W ∧ Anp gn gt gk W g6 ∧ Anp gn gt gk W g8 ∧ Anp gn gt gk W g11 ∧ Anp gn gt gk W g13 ∧ Below lo w W)
  case first =>
    replace bel := bel.drew
    replace hnt : w5.drew.heap[gn]? = _ := hnt
    replace hwB : w5.drew.heap[g6]? = _ := hwB
    replace hrB : w5.drew.heap[g8]? = _ := hrB
    replace hiB : w5.drew.heap[g11]? = _ := hiB
    replace pb := pb.drew
    replace hT := np_drew hT
    replace fr := fn_drew fr
    replace ap_wB := anp_drew ap_wB
    replace ap_rB := anp_drew ap_rB
    replace ap_iB := anp_drew ap_iB
    refine wp_region_held_drew (S := fun W => W.heap[g11]? = some (.cells #[.slice (some ⟨gB, oB, none⟩) nd cd, .int .i64 (h : Int)] 160 (0, 0)) ∧ W.heap[g6]? = some (.cells #[.int .u8 (c0.toNat : Int), .int .u8 (c1.toNat : Int), .int .u8 (c2.toNat : Int), .int .u8 (c3.toNat : Int)] 35 (0, 0))) (by kernel_rfl) ⟨hiB, hwB⟩ (fun hH => ?_)
    generalize w5.drew = w6 at bel hnt hwB hrB hiB pb hT fr ap_wB ap_rB ap_iB hH ⊢
    refine wpAnyH_take (i := 0) (v := .agg #[.slice (some ⟨gB, oB, none⟩) nd cd, .int .i64 (h : Int)]) rfl (by kernel_rfl) (by kernel_rfl) (by kernel_rfl) (fun _ _ _ h => h) (yieldsIf_load_part (by kernel_rfl) 160 _ rfl g11 0 2 rfl _ 160 (0, 0) (fun W hW => hW.1) _ rfl _ Tryz.underlying160 rfl (by kernel_rfl)) hH ?_
    simp only [Act.put, List.getElem_toArray, List.getElem_cons_zero, List.setIfInBounds_toArray, List.set_cons_zero, List.set_cons_succ]
    refine wpAnyH_take (i := 2) (v := .agg #[.int .u8 (c0.toNat : Int), .int .u8 (c1.toNat : Int), .int .u8 (c2.toNat : Int), .int .u8 (c3.toNat : Int)]) rfl (by kernel_rfl) (by kernel_rfl) (by kernel_rfl) (fun _ _ _ h => h) (yieldsIf_load_part (by kernel_rfl) 35 _ rfl g6 0 4 rfl _ 35 (0, 0) (fun W hW => hW.2) _ rfl _ Tryz.underlying35 rfl (by kernel_rfl)) hH ?_
    simp only [sq3, sq4]
    refine wpAnyH_ready (rs := [1, 7]) (by kernel_rfl) (by simp) ?_
    refine AllReadyH.cons (o := _) rfl (fun K hK => ?_) (AllReadyH.cons (o := _) rfl (fun K hK => ?_) AllReadyH.nil)
    rotate_left
    · simp only [sq3]
      rw [if_pos (by rfl)]
      refine wp_new_a 164 rfl #[.int .i64 0, .int .u8 0, .int .u8 0, .int .u8 0, .int .u8 0, .int .i64 0] (by kernel_rfl) ?_
      intro g13 w7 ge hh bb
      have ap_fB := hT.ap ge
      have d_nt_fB := ne_new (hlt hnt) ge
      have d_wB_fB := ne_new (hlt hwB) ge
      have d_rB_fB := ne_new (hlt hrB) ge
      have d_iB_fB := ne_new (hlt hiB) ge
      have av_pb_fB := pb.av_new ge
      have ofB := Nat.le_trans (Nat.le_trans hlo bel.size) ge
      have pfB := Nat.le_trans bel.size ge
      replace hnt := blk_u hnt bb
      replace hwB := blk_u hwB bb
      replace hrB := blk_u hrB bb
      replace hiB := blk_u hiB bb
      replace pb := pb.below bb
      replace hT := hT.below bb
      replace fr := fr.below bb
      replace ap_wB := ap_wB.below bb
      replace ap_rB := ap_rB.below bb
      replace ap_iB := ap_iB.below bb
      replace ap_fB := ap_fB.below bb
      replace bel := bel.trans (bb.mono (Nat.le_trans hlo bel.size))
      have hfB := hh
      clear hh ge bb
      refine hK.out _ _ ⟨hiB, hwB⟩ (fun hH8 => ?_)
      clear hK K
      simp only [sq4]
      refine wpAnyH_ready (rs := [1]) (by kernel_rfl) (by simp) ?_
      refine AllReadyH.cons (o := _) rfl (fun K hK => ?_) AllReadyH.nil
      simp only [sq3]
      go_simp
      with_reducible refine (insender _).mono ?_
      rintro e w9 ⟨rfl, b9⟩
      dsimp only
      replace hnt := blk_u hnt b9
      replace hwB := blk_u hwB b9
      replace hrB := blk_u hrB b9
      replace hiB := blk_u hiB b9
      replace hfB := blk_u hfB b9
      replace pb := pb.below b9
      replace hT := hT.below b9
      replace fr := fr.below b9
      replace ap_wB := ap_wB.below b9
      replace ap_rB := ap_rB.below b9
      replace ap_iB := ap_iB.below b9
      replace ap_fB := ap_fB.below b9
      replace bel := bel.trans (b9.mono (Nat.le_trans hlo bel.size))
      clear b9
      refine hK.out _ _ ⟨hiB, hwB⟩ (fun hH10 => ?_)
      clear hK K
      refine wpAnyH_ready (rs := [3]) (by kernel_rfl) (by simp) ?_
      refine AllReadyH.cons (o := _) rfl (fun K hK => ?_) AllReadyH.nil
      simp only [sq3]
      go_simp
      with_reducible refine (inflow_any _ pb HIN.out).mono ?_
      rintro e w11 ⟨fp, g0, g1, g2, g3, fo, r, rfl, HOK, b11⟩
      dsimp only
      replace hnt := blk_u hnt b11
      replace hwB := blk_u hwB b11
      replace hrB := blk_u hrB b11
      replace hiB := blk_u hiB b11
      replace hfB := blk_u hfB b11
      replace pb := pb.below b11
      replace hT := hT.below b11
      replace fr := fr.below b11
      replace ap_wB := ap_wB.below b11
      replace ap_rB := ap_rB.below b11
      replace ap_iB := ap_iB.below b11
      replace ap_fB := ap_fB.below b11
      replace bel := bel.trans (b11.mono (Nat.le_trans hlo bel.size))
      clear b11
      refine hK.out _ _ ⟨hiB, hwB⟩ (fun hH12 => ?_)
      clear hK K
      refine wpAnyH_take (i := 4) (v := ?_) rfl (by kernel_rfl) (by kernel_rfl) (by kernel_rfl) (fun _ _ _ h => h) (Or.inl ⟨by rfl, ?_⟩) hH12 ?_
      rotate_left
      · ((intro W hW; clear hW; go_simp) <;> with_reducible rfl)
      simp only [sq3, sq4]
      refine wpAnyH_take (i := 5) (v := ?_) rfl (by kernel_rfl) (by kernel_rfl) (by kernel_rfl) (fun _ _ _ h => h) (Or.inl ⟨by rfl, ?_⟩) hH12 ?_
      rotate_left
      · ((intro W hW; clear hW; go_simp) <;> with_reducible rfl)
      simp only [sq3, sq4]
      refine wpAnyH_take (i := 6) (v := ?_) rfl (by kernel_rfl) (by kernel_rfl) (by kernel_rfl) (fun _ _ _ h => h) (Or.inl ⟨by rfl, ?_⟩) hH12 ?_
      rotate_left
      · ((intro W hW; clear hW; go_simp) <;> with_reducible rfl)
      simp only [sq3, sq4]
      refine wpAnyH_ready (rs := [8]) (by kernel_rfl) (by simp) ?_
      refine AllReadyH.cons (o := _) rfl (fun K hK => ?_) AllReadyH.nil
      simp only [sq3]
      rw [if_pos (by rfl)]
      refine wp_store_blk 164 (.tmp 13) (.tmp 29) rfl g13 rfl _ rfl _ 164 hfB (by rfl) (by kernel_rfl) (by kernel_rfl) ?_
      intro w13 hq gr
      replace pb := pb.away av_pb_fB gr
      replace hnt := blk_a hnt gr d_nt_fB
      replace hwB := blk_a hwB gr d_wB_fB
      replace hrB := blk_a hrB gr d_rB_fB
      replace hiB := blk_a hiB gr d_iB_fB
      replace hT := hT.away ap_fB gr hfB
      replace fr := fr.newer ap_fB gr pfB
      replace ap_wB := ap_wB.grown ap_fB gr
      replace ap_rB := ap_rB.grown ap_fB gr
      replace ap_iB := ap_iB.grown ap_fB gr
      replace ap_fB := ap_fB.grown ap_fB gr
      replace bel := below_grown bel gr ofB (Nat.le_trans hlo bel.size)
      clear hfB
      have hfB := hq
      clear hq gr
      refine hK.out _ _ ⟨hiB, hwB⟩ (fun hH14 => ?_)
      clear hK K
      simp only [Act.put]
      refine wpAnyH_take (i := 9) (v := ?_) rfl (by kernel_rfl) (by kernel_rfl) (by kernel_rfl) (fun _ _ _ h => h) (Or.inl ⟨by rfl, ?_⟩) hH14 ?_
      rotate_left
      · ((intro W hW; clear hW; go_simp) <;> with_reducible rfl)
      simp only [sq3, sq4]
      refine wpAnyH_done (by kernel_rfl) ?_ _
      go_wp2_with fail
      go_meet
      case rel => exact ⟨g13, fp, g0, g1, g2, g3, fo, r, rfl, rfl, hnt, hwB, hrB, hiB, hfB, ofB, pfB, (ne_symm d_iB_fB), (ne_symm d_nt_fB), (ne_symm d_rB_fB), (ne_symm d_wB_fB), (ne_symm d_nt_iB), (ne_symm d_rB_iB), (ne_symm d_wB_iB), d_nt_rB, d_nt_wB, (ne_symm d_wB_rB), pb, av_pb_fB, av_pb_iB, av_pb_rB, av_pb_wB, HOK, hT, fr, ap_wB, ap_rB, ap_iB, ap_fB, bel⟩
    simp only [sq3]
    go_simp
    with_reducible refine (insender _).mono ?_
    rintro e w7 ⟨rfl, b7⟩
    dsimp only
    replace hnt := blk_u hnt b7
    replace hwB := blk_u hwB b7
    replace hrB := blk_u hrB b7
    replace hiB := blk_u hiB b7
    replace pb := pb.below b7
    replace hT := hT.below b7
    replace fr := fr.below b7
    replace ap_wB := ap_wB.below b7
    replace ap_rB := ap_rB.below b7
    replace ap_iB := ap_iB.below b7
    replace bel := bel.trans (b7.mono (Nat.le_trans hlo bel.size))
    clear b7
    refine hK.out _ _ ⟨hiB, hwB⟩ (fun hH8 => ?_)
    clear hK K
    refine wpAnyH_ready (rs := [3, 7]) (by kernel_rfl) (by simp) ?_
    refine AllReadyH.cons (o := _) rfl (fun K hK => ?_) (AllReadyH.cons (o := _) rfl (fun K hK => ?_) AllReadyH.nil)
    · simp only [sq3]
      go_simp
      with_reducible refine (inflow_any _ pb HIN.out).mono ?_
      rintro e w9 ⟨fp, g0, g1, g2, g3, fo, r, rfl, HOK, b9⟩
      dsimp only
      replace hnt := blk_u hnt b9
      replace hwB := blk_u hwB b9
      replace hrB := blk_u hrB b9
      replace hiB := blk_u hiB b9
      replace pb := pb.below b9
      replace hT := hT.below b9
      replace fr := fr.below b9
      replace ap_wB := ap_wB.below b9
      replace ap_rB := ap_rB.below b9
      replace ap_iB := ap_iB.below b9
      replace bel := bel.trans (b9.mono (Nat.le_trans hlo bel.size))
      clear b9
      refine hK.out _ _ ⟨hiB, hwB⟩ (fun hH10 => ?_)
      clear hK K
      refine wpAnyH_take (i := 4) (v := ?_) rfl (by kernel_rfl) (by kernel_rfl) (by kernel_rfl) (fun _ _ _ h => h) (Or.inl ⟨by rfl, ?_⟩) hH10 ?_
      rotate_left
      · ((intro W hW; clear hW; go_simp) <;> with_reducible rfl)
      simp only [sq3, sq4]
      refine wpAnyH_take (i := 5) (v := ?_) rfl (by kernel_rfl) (by kernel_rfl) (by kernel_rfl) (fun _ _ _ h => h) (Or.inl ⟨by rfl, ?_⟩) hH10 ?_
      rotate_left
      · ((intro W hW; clear hW; go_simp) <;> with_reducible rfl)
      simp only [sq3, sq4]
      refine wpAnyH_take (i := 6) (v := ?_) rfl (by kernel_rfl) (by kernel_rfl) (by kernel_rfl) (fun _ _ _ h => h) (Or.inl ⟨by rfl, ?_⟩) hH10 ?_
      rotate_left
      · ((intro W hW; clear hW; go_simp) <;> with_reducible rfl)
      simp only [sq3, sq4]
      refine wpAnyH_ready (rs := [7]) (by kernel_rfl) (by simp) ?_
      refine AllReadyH.cons (o := _) rfl (fun K hK => ?_) AllReadyH.nil
      simp only [sq3]
      rw [if_pos (by rfl)]
      refine wp_new_a 164 rfl #[.int .i64 0, .int .u8 0, .int .u8 0, .int .u8 0, .int .u8 0, .int .i64 0] (by kernel_rfl) ?_
      intro g13 w11 ge hh bb
      have ap_fB := hT.ap ge
      have d_nt_fB := ne_new (hlt hnt) ge
      have d_wB_fB := ne_new (hlt hwB) ge
      have d_rB_fB := ne_new (hlt hrB) ge
      have d_iB_fB := ne_new (hlt hiB) ge
      have av_pb_fB := pb.av_new ge
      have ofB := Nat.le_trans (Nat.le_trans hlo bel.size) ge
      have pfB := Nat.le_trans bel.size ge
      replace hnt := blk_u hnt bb
      replace hwB := blk_u hwB bb
      replace hrB := blk_u hrB bb
      replace hiB := blk_u hiB bb
      replace pb := pb.below bb
      replace hT := hT.below bb
      replace fr := fr.below bb
      replace ap_wB := ap_wB.below bb
      replace ap_rB := ap_rB.below bb
      replace ap_iB := ap_iB.below bb
      replace ap_fB := ap_fB.below bb
      replace bel := bel.trans (bb.mono (Nat.le_trans hlo bel.size))
      have hfB := hh
      clear hh ge bb
      refine hK.out _ _ ⟨hiB, hwB⟩ (fun hH12 => ?_)
      clear hK K
      simp only [sq4]
      refine wpAnyH_ready (rs := [8]) (by kernel_rfl) (by simp) ?_
      refine AllReadyH.cons (o := _) rfl (fun K hK => ?_) AllReadyH.nil
      simp only [sq3]
      rw [if_pos (by rfl)]
      refine wp_store_blk 164 (.tmp 13) (.tmp 29) rfl g13 rfl _ rfl _ 164 hfB (by rfl) (by kernel_rfl) (by kernel_rfl) ?_
      intro w13 hq gr
      replace pb := pb.away av_pb_fB gr
      replace hnt := blk_a hnt gr d_nt_fB
      replace hwB := blk_a hwB gr d_wB_fB
      replace hrB := blk_a hrB gr d_rB_fB
      replace hiB := blk_a hiB gr d_iB_fB
      replace hT := hT.away ap_fB gr hfB
      replace fr := fr.newer ap_fB gr pfB
      replace ap_wB := ap_wB.grown ap_fB gr
      replace ap_rB := ap_rB.grown ap_fB gr
      replace ap_iB := ap_iB.grown ap_fB gr
      replace ap_fB := ap_fB.grown ap_fB gr
      replace bel := below_grown bel gr ofB (Nat.le_trans hlo bel.size)
      clear hfB
      have hfB := hq
      clear hq gr
      refine hK.out _ _ ⟨hiB, hwB⟩ (fun hH14 => ?_)
      clear hK K
      simp only [Act.put]
      refine wpAnyH_take (i := 9) (v := ?_) rfl (by kernel_rfl) (by kernel_rfl) (by kernel_rfl) (fun _ _ _ h => h) (Or.inl ⟨by rfl, ?_⟩) hH14 ?_
      rotate_left
      · ((intro W hW; clear hW; go_simp) <;> with_reducible rfl)
      simp only [sq3, sq4]
      refine wpAnyH_done (by kernel_rfl) ?_ _
      go_wp2_with fail
      go_meet
      case rel => exact ⟨g13, fp, g0, g1, g2, g3, fo, r, rfl, rfl, hnt, hwB, hrB, hiB, hfB, ofB, pfB, (ne_symm d_iB_fB), (ne_symm d_nt_fB), (ne_symm d_rB_fB), (ne_symm d_wB_fB), (ne_symm d_nt_iB), (ne_symm d_rB_iB), (ne_symm d_wB_iB), d_nt_rB, d_nt_wB, (ne_symm d_wB_rB), pb, av_pb_fB, av_pb_iB, av_pb_rB, av_pb_wB, HOK, hT, fr, ap_wB, ap_rB, ap_iB, ap_fB, bel⟩
    simp only [sq3]
    rw [if_pos (by rfl)]
    refine wp_new_a 164 rfl #[.int .i64 0, .int .u8 0, .int .u8 0, .int .u8 0, .int .u8 0, .int .i64 0] (by kernel_rfl) ?_
    intro g13 w9 ge hh bb
    have ap_fB := hT.ap ge
    have d_nt_fB := ne_new (hlt hnt) ge
    have d_wB_fB := ne_new (hlt hwB) ge
    have d_rB_fB := ne_new (hlt hrB) ge
    have d_iB_fB := ne_new (hlt hiB) ge
    have av_pb_fB := pb.av_new ge
    have ofB := Nat.le_trans (Nat.le_trans hlo bel.size) ge
    have pfB := Nat.le_trans bel.size ge
    replace hnt := blk_u hnt bb
    replace hwB := blk_u hwB bb
    replace hrB := blk_u hrB bb
    replace hiB := blk_u hiB bb
    replace pb := pb.below bb
    replace hT := hT.below bb
    replace fr := fr.below bb
    replace ap_wB := ap_wB.below bb
    replace ap_rB := ap_rB.below bb
    replace ap_iB := ap_iB.below bb
    replace ap_fB := ap_fB.below bb
    replace bel := bel.trans (bb.mono (Nat.le_trans hlo bel.size))
    have hfB := hh
    clear hh ge bb
    refine hK.out _ _ ⟨hiB, hwB⟩ (fun hH10 => ?_)
    clear hK K
    simp only [sq4]
    refine wpAnyH_ready (rs := [3]) (by kernel_rfl) (by simp) ?_
    refine AllReadyH.cons (o := _) rfl (fun K hK => ?_) AllReadyH.nil
    simp only [sq3]
    go_simp
    with_reducible refine (inflow_any _ pb HIN.out).mono ?_
    rintro e w11 ⟨fp, g0, g1, g2, g3, fo, r, rfl, HOK, b11⟩
    dsimp only
    replace hnt := blk_u hnt b11
    replace hwB := blk_u hwB b11
    replace hrB := blk_u hrB b11
    replace hiB := blk_u hiB b11
    replace hfB := blk_u hfB b11
    replace pb := pb.below b11
    replace hT := hT.below b11
    replace fr := fr.below b11
    replace ap_wB := ap_wB.below b11
    replace ap_rB := ap_rB.below b11
    replace ap_iB := ap_iB.below b11
    replace ap_fB := ap_fB.below b11
    replace bel := bel.trans (b11.mono (Nat.le_trans hlo bel.size))
    clear b11
    refine hK.out _ _ ⟨hiB, hwB⟩ (fun hH12 => ?_)
    clear hK K
    refine wpAnyH_take (i := 4) (v := ?_) rfl (by kernel_rfl) (by kernel_rfl) (by kernel_rfl) (fun _ _ _ h => h) (Or.inl ⟨by rfl, ?_⟩) hH12 ?_
    rotate_left
    · ((intro W hW; clear hW; go_simp) <;> with_reducible rfl)
    simp only [sq3, sq4]
    refine wpAnyH_take (i := 5) (v := ?_) rfl (by kernel_rfl) (by kernel_rfl) (by kernel_rfl) (fun _ _ _ h => h) (Or.inl ⟨by rfl, ?_⟩) hH12 ?_
    rotate_left
    · ((intro W hW; clear hW; go_simp) <;> with_reducible rfl)
    simp only [sq3, sq4]
    refine wpAnyH_take (i := 6) (v := ?_) rfl (by kernel_rfl) (by kernel_rfl) (by kernel_rfl) (fun _ _ _ h => h) (Or.inl ⟨by rfl, ?_⟩) hH12 ?_
    rotate_left
    · ((intro W hW; clear hW; go_simp) <;> with_reducible rfl)
    simp only [sq3, sq4]
    refine wpAnyH_ready (rs := [8]) (by kernel_rfl) (by simp) ?_
    refine AllReadyH.cons (o := _) rfl (fun K hK => ?_) AllReadyH.nil
    simp only [sq3]
    rw [if_pos (by rfl)]
    refine wp_store_blk 164 (.tmp 13) (.tmp 29) rfl g13 rfl _ rfl _ 164 hfB (by rfl) (by kernel_rfl) (by kernel_rfl) ?_
    intro w13 hq gr
    replace pb := pb.away av_pb_fB gr
    replace hnt := blk_a hnt gr d_nt_fB
    replace hwB := blk_a hwB gr d_wB_fB
    replace hrB := blk_a hrB gr d_rB_fB
    replace hiB := blk_a hiB gr d_iB_fB
    replace hT := hT.away ap_fB gr hfB
    replace fr := fr.newer ap_fB gr pfB
    replace ap_wB := ap_wB.grown ap_fB gr
    replace ap_rB := ap_rB.grown ap_fB gr
    replace ap_iB := ap_iB.grown ap_fB gr
    replace ap_fB := ap_fB.grown ap_fB gr
    replace bel := below_grown bel gr ofB (Nat.le_trans hlo bel.size)
    clear hfB
    have hfB := hq
    clear hq gr
    refine hK.out _ _ ⟨hiB, hwB⟩ (fun hH14 => ?_)
    clear hK K
    simp only [Act.put]
    refine wpAnyH_take (i := 9) (v := ?_) rfl (by kernel_rfl) (by kernel_rfl) (by kernel_rfl) (fun _ _ _ h => h) (Or.inl ⟨by rfl, ?_⟩) hH14 ?_
    rotate_left
    · ((intro W hW; clear hW; go_simp) <;> with_reducible rfl)
    simp only [sq3, sq4]
    refine wpAnyH_done (by kernel_rfl) ?_ _
    go_wp2_with fail
    go_meet
    case rel => exact ⟨g13, fp, g0, g1, g2, g3, fo, r, rfl, rfl, hnt, hwB, hrB, hiB, hfB, ofB, pfB, (ne_symm d_iB_fB), (ne_symm d_nt_fB), (ne_symm d_rB_fB), (ne_symm d_wB_fB), (ne_symm d_nt_iB), (ne_symm d_rB_iB), (ne_symm d_wB_iB), d_nt_rB, d_nt_wB, (ne_symm d_wB_rB), pb, av_pb_fB, av_pb_iB, av_pb_rB, av_pb_wB, HOK, hT, fr, ap_wB, ap_rB, ap_iB, ap_fB, bel⟩
  obtain ⟨w15, hw_⟩ : ∃ x, x = wc := ⟨_, rfl⟩
  subst hw_
  obtain ⟨g13, fp, g0, g1, g2, g3, fo, r, rfl, rfl, hnt, hwB, hrB, hiB, hfB, ofB, pfB, d_fB_iB, d_fB_nt, d_fB_rB, d_fB_wB, d_iB_nt, d_iB_rB, d_iB_wB, d_nt_rB, d_nt_wB, d_rB_wB, pb, av_pb_fB, av_pb_iB, av_pb_rB, av_pb_wB, HOK, hT, fr, ap_wB, ap_rB, ap_iB, ap_fB, bel⟩ := hcut
  by_cases hr0 : r = 0
  rotate_left
  · have HNR := Lib.hid hr0
    have q1_ : (r == 0) = false := beq_eq_false_iff_ne.2 hr0
    have q2_ : (r != 0) = true := bne_iff_ne.2 hr0
    clear hr0
    go_wp2_with (first | ((with_reducible show wpList _ _ _ (⟨none, Op.store _ (.tmp 8) _, _, _, _, _⟩ :: _) _ _); refine wpList_store_blk rfl 35 (.tmp 8) (.tmp 33) rfl g8 rfl _ rfl _ 35 hrB (by rfl) (by kernel_rfl) (by kernel_rfl) ?_; intro w16 hq gr; replace pb := pb.away av_pb_rB gr; replace hnt := blk_a hnt gr d_nt_rB; replace hwB := blk_a hwB gr (ne_symm d_rB_wB); replace hiB := blk_a hiB gr d_iB_rB; replace hfB := blk_a hfB gr d_fB_rB; replace hT := hT.away ap_rB gr hrB; replace fr := fr.newer ap_rB gr prB; replace ap_wB := ap_wB.grown ap_rB gr; replace ap_rB := ap_rB.grown ap_rB gr; replace ap_iB := ap_iB.grown ap_rB gr; replace ap_fB := ap_fB.grown ap_rB gr; replace bel := below_grown bel gr orB (Nat.le_trans hlo bel.size); clear hrB; have hrB := hq; clear hq gr))
    exact bodyPost_ret (results_cell_tt_row rfl _ _ _ _ _ _ _ rfl hrB Tryz.underlying35 rfl (by kernel_rfl) _ _ rfl rfl) rfl ⟨r, rfl, HNR.out, Or.inl hT, fr, bel⟩
  have HO2 := Lib.hid (HOK.out hr0)
  have q1_ : (r == 0) = true := beq_iff_eq.2 hr0
  have q2_ : (r != 0) = false := by unfold bne; rw [q1_]; rfl
  clear hr0
  have R38 := cell_lit hfB 0 _ rfl
  have R40 := cell_lit hfB 5 _ rfl
  go_wp2_with fail
  clear R38 R40
  with_reducible refine (nat_none _ hT (hc _ _ HO2.out)).mono ?_
  rintro e w16 ⟨rfl, hT_, f_, bb⟩
  clear hnt
  have x_ := f_ _ _ _ _ hwB ap_wB
  replace hwB := x_.1
  replace ap_wB := x_.2
  clear x_
  have x_ := f_ _ _ _ _ hrB ap_rB
  replace hrB := x_.1
  replace ap_rB := x_.2
  clear x_
  have x_ := f_ _ _ _ _ hiB ap_iB
  replace hiB := x_.1
  replace ap_iB := x_.2
  clear x_
  have x_ := f_ _ _ _ _ hfB ap_fB
  replace hfB := x_.1
  replace ap_fB := x_.2
  clear x_
  clear pb
  replace fr := fr.trans f_
  clear hT
  have hT := hT_
  replace bel := bel.trans bb
  clear bb f_ hT_
  have hnt := hT.nat
  go_wp2_with (first | ((with_reducible show wpList _ _ _ (⟨some 15, _, _, _, _, _⟩ :: _) _ _); refine wpList_new_a rfl 65 rfl #[.int .i64 0, .int .i64 0, .int .u8 0, .int .u8 0, .int .u8 0, .int .u8 0, .int .i64 0, .int .i64 0, .int .i64 0] (by kernel_rfl) ?_; intro g15 w17 ge hh bb; have ap_mB := hT.ap ge; have d_wB_mB := ne_new (hlt hwB) ge; have d_rB_mB := ne_new (hlt hrB) ge; have d_iB_mB := ne_new (hlt hiB) ge; have d_fB_mB := ne_new (hlt hfB) ge; have d_nt_mB := ne_new (hlt hnt) ge; have omB := Nat.le_trans (Nat.le_trans hlo bel.size) ge; have pmB := Nat.le_trans bel.size ge; replace hwB := blk_u hwB bb; replace hrB := blk_u hrB bb; replace hiB := blk_u hiB bb; replace hfB := blk_u hfB bb; replace hnt := blk_u hnt bb; replace hT := hT.below bb; replace fr := fr.below bb; replace ap_wB := ap_wB.below bb; replace ap_rB := ap_rB.below bb; replace ap_iB := ap_iB.below bb; replace ap_fB := ap_fB.below bb; replace ap_mB := ap_mB.below bb; replace bel := bel.trans (bb.mono (Nat.le_trans hlo bel.size)); have hmB := hh; clear hh ge bb) | ((with_reducible show wpList _ _ _ (⟨none, Op.store _ (.tmp 15) _, _, _, _, _⟩ :: _) _ _); refine wpList_store_blk rfl 65 (.tmp 15) (.tmp 43) rfl g15 rfl _ rfl _ 65 hmB (by rfl) (by kernel_rfl) (by kernel_rfl) ?_; intro w18 hq gr; replace hwB := blk_a hwB gr d_wB_mB; replace hrB := blk_a hrB gr d_rB_mB; replace hiB := blk_a hiB gr d_iB_mB; replace hfB := blk_a hfB gr d_fB_mB; replace hnt := blk_a hnt gr d_nt_mB; replace hT := hT.away ap_mB gr hmB; replace fr := fr.newer ap_mB gr pmB; replace ap_wB := ap_wB.grown ap_mB gr; replace ap_rB := ap_rB.grown ap_mB gr; replace ap_iB := ap_iB.grown ap_mB gr; replace ap_fB := ap_fB.grown ap_mB gr; replace ap_mB := ap_mB.grown ap_mB gr; replace bel := below_grown bel gr omB (Nat.le_trans hlo bel.size); clear hmB; have hmB := hq; clear hq gr) | ((with_reducible show wpList _ _ _ (⟨none, Op.store _ (.tmp 8) _, _, _, _, _⟩ :: _) _ _); refine wpList_store_blk rfl 35 (.tmp 8) (.tmp 47) rfl g8 rfl _ rfl _ 35 hrB (by rfl) (by kernel_rfl) (by kernel_rfl) ?_; intro w19 hq gr; replace hwB := blk_a hwB gr (ne_symm d_rB_wB); replace hiB := blk_a hiB gr d_iB_rB; replace hfB := blk_a hfB gr d_fB_rB; replace hnt := blk_a hnt gr d_nt_rB; replace hmB := blk_a hmB gr (ne_symm d_rB_mB); replace hT := hT.away ap_rB gr hrB; replace fr := fr.newer ap_rB gr prB; replace ap_wB := ap_wB.grown ap_rB gr; replace ap_rB := ap_rB.grown ap_rB gr; replace ap_iB := ap_iB.grown ap_rB gr; replace ap_fB := ap_fB.grown ap_rB gr; replace ap_mB := ap_mB.grown ap_rB gr; replace bel := below_grown bel gr orB (Nat.le_trans hlo bel.size); clear hrB; have hrB := hq; clear hq gr))
  exact bodyPost_ret (results_cell_tt_row rfl _ _ _ _ _ _ _ rfl hrB Tryz.underlying35 rfl (by kernel_rfl) _ _ rfl rfl) rfl ⟨6, rfl, (by decide), Or.inr hT, fr, bel⟩
set_option linter.unusedVariables false in
set_option linter.unusedVariables false in
set_option linter.unusedSimpArgs false in
set_option maxRecDepth 100000 in
set_option maxHeartbeats 16000000 in
theorem nqin_no {lo gn gt gk : Nat} {s : Ts} {k : Ks} {s' : Ts} {re o t : Int} (w : World) (hT : Np lo gn gt gk w s k) (hc : InE lo gt s s' 1 o t)  : Calls Tryz.prog 72 #[.pointer (some ⟨gn, 0, none⟩), .int .u32 re, .int .i64 o, .int .i64 t] w fun e w' => e = .returned (.tuple #[.agg #[.int .u8 0, .int .u8 0, .int .u8 0, .int .u8 0], .int .u32 0, .int .i64 6]) ∧ Np lo gn gt gk w' s' k ∧ Fn gn gt gk w w' ∧ Below lo w w' := by
  have hlo : lo ≤ w.heap.size := hT.lo_le
  have HLO := Lib.hid hlo
  have hnt := hT.nat
  have fr := Fn.refl gn gt gk w
  have bel := Below.refl lo w
  go_enter Tryz.func72, Tryz.ntmps72
  go_wp2_with (first | ((with_reducible show wpList _ _ _ (⟨some 8, _, _, _, _, _⟩ :: _) _ _); refine wpList_new_a rfl 35 rfl #[.int .u8 0, .int .u8 0, .int .u8 0, .int .u8 0] (by kernel_rfl) ?_; intro g8 w1 ge hh bb; have ap_rB := hT.ap ge; have d_nt_rB := ne_new (hlt hnt) ge; have orB := Nat.le_trans (Nat.le_trans hlo bel.size) ge; have prB := Nat.le_trans bel.size ge; replace hnt := blk_u hnt bb; replace hT := hT.below bb; replace fr := fr.below bb; replace ap_rB := ap_rB.below bb; replace bel := bel.trans (bb.mono (Nat.le_trans hlo bel.size)); have hrB := hh; clear hh ge bb))
  with_reducible refine (nat_none _ hT hc).mono ?_
  rintro e w2 ⟨rfl, hT_, f_, bb⟩
  clear hnt
  have x_ := f_ _ _ _ _ hrB ap_rB
  replace hrB := x_.1
  replace ap_rB := x_.2
  clear x_
  replace fr := fr.trans f_
  clear hT
  have hT := hT_
  replace bel := bel.trans bb
  clear bb f_ hT_
  have hnt := hT.nat
  go_wp2_with (first | ((with_reducible show wpList _ _ _ (⟨some 11, _, _, _, _, _⟩ :: _) _ _); refine wpList_new_a rfl 65 rfl #[.int .i64 0, .int .i64 0, .int .u8 0, .int .u8 0, .int .u8 0, .int .u8 0, .int .i64 0, .int .i64 0, .int .i64 0] (by kernel_rfl) ?_; intro g11 w3 ge hh bb; have ap_mB := hT.ap ge; have d_rB_mB := ne_new (hlt hrB) ge; have d_nt_mB := ne_new (hlt hnt) ge; have omB := Nat.le_trans (Nat.le_trans hlo bel.size) ge; have pmB := Nat.le_trans bel.size ge; replace hrB := blk_u hrB bb; replace hnt := blk_u hnt bb; replace hT := hT.below bb; replace fr := fr.below bb; replace ap_rB := ap_rB.below bb; replace ap_mB := ap_mB.below bb; replace bel := bel.trans (bb.mono (Nat.le_trans hlo bel.size)); have hmB := hh; clear hh ge bb) | ((with_reducible show wpList _ _ _ (⟨none, Op.store _ (.tmp 11) _, _, _, _, _⟩ :: _) _ _); refine wpList_store_blk rfl 65 (.tmp 11) (.tmp 18) rfl g11 rfl _ rfl _ 65 hmB (by rfl) (by kernel_rfl) (by kernel_rfl) ?_; intro w4 hq gr; replace hrB := blk_a hrB gr d_rB_mB; replace hnt := blk_a hnt gr d_nt_mB; replace hT := hT.away ap_mB gr hmB; replace fr := fr.newer ap_mB gr pmB; replace ap_rB := ap_rB.grown ap_mB gr; replace ap_mB := ap_mB.grown ap_mB gr; replace bel := below_grown bel gr omB (Nat.le_trans hlo bel.size); clear hmB; have hmB := hq; clear hq gr) | ((with_reducible show wpList _ _ _ (⟨none, Op.store _ (.tmp 8) _, _, _, _, _⟩ :: _) _ _); refine wpList_store_blk rfl 35 (.tmp 8) (.tmp 22) rfl g8 rfl _ rfl _ 35 hrB (by rfl) (by kernel_rfl) (by kernel_rfl) ?_; intro w5 hq gr; replace hnt := blk_a hnt gr d_nt_rB; replace hmB := blk_a hmB gr (ne_symm d_rB_mB); replace hT := hT.away ap_rB gr hrB; replace fr := fr.newer ap_rB gr prB; replace ap_rB := ap_rB.grown ap_rB gr; replace ap_mB := ap_mB.grown ap_rB gr; replace bel := below_grown bel gr orB (Nat.le_trans hlo bel.size); clear hrB; have hrB := hq; clear hq gr))
  exact bodyPost_ret (results_cell_tt_row rfl _ _ _ _ _ _ _ rfl hrB Tryz.underlying35 rfl (by kernel_rfl) _ _ rfl rfl) rfl ⟨rfl, hT, fr, bel⟩
theorem Nq.below {lo gn gt gk : Nat} {w w' : World} {s s' : Ts} {k : Ks} (h : Nq lo gn gt gk w s s' k) (b : Below w.heap.size w w') : Nq lo gn gt gk w' s s' k := h.elim (fun h => .inl (h.below b)) (fun h => .inr (h.below b))
theorem Nq.away {lo gn gt gk q : Nat} {w w' : World} {s s' : Ts} {k : Ks} {c : Array Value} {T : TypeId} {fz : Nat × Nat} (h : Nq lo gn gt gk w s s' k) (ap : Anp gn gt gk w q) (g : w.grownBy w' (some q)) (hq : w.heap[q]? = some (.cells c T fz)) : Nq lo gn gt gk w' s s' k := h.elim (fun h => .inl (h.away ap g hq)) (fun h => .inr (h.away ap g hq))
theorem Nq.nat {lo gn gt gk : Nat} {w : World} {s s' : Ts} {k : Ks} (h : Nq lo gn gt gk w s s' k) : w.heap[gn]? = some (.cells #[.pointer (some ⟨gt, 0, none⟩), .pointer (some ⟨gk, 0, none⟩), .int .i64 120, .int .i64 7200, .int .i64 30] 82 (0, 0)) := h.elim (fun h => h.nat) (fun h => h.nat)
theorem Nq.ap {lo gn gt gk q : Nat} {w : World} {s s' : Ts} {k : Ks} (h : Nq lo gn gt gk w s s' k) (hq : w.heap.size ≤ q) : Anp gn gt gk w q := h.elim (fun h => h.ap hq) (fun h => h.ap hq)
set_option linter.unusedVariables false in
set_option linter.unusedVariables false in
set_option linter.unusedSimpArgs false in
set_option maxRecDepth 100000 in
set_option maxHeartbeats 16000000 in
theorem nmsgin_any {lo gn gt gk : Nat} {s : Ts} {k : Ks} {s' : Ts} {tos id fl pt ttl : Int} {a0 a1 a2 a3 b0 b1 b2 b3 : UInt8} {So Sb : Option Addr} {no co nb cb : Nat} {lp lb : List UInt8} {c0 c1 c2 c3 : UInt8} {t : Int} (w : World) (hT : Np lo gn gt gk w s k) (pb : Sl w Sb nb cb lb) (hm : nb ≤ 100000) (hc : ∀ pr o, okP pr o → InE lo gt s s' pr o t)  : Calls Tryz.prog 35 #[.pointer (some ⟨gn, 0, none⟩), .agg #[.int .i64 tos, .int .i64 id, .int .i64 fl, .int .i64 pt, .int .i64 ttl, .int .i64 1, .int .u8 (a0.toNat : Int), .int .u8 (a1.toNat : Int), .int .u8 (a2.toNat : Int), .int .u8 (a3.toNat : Int), .int .u8 (b0.toNat : Int), .int .u8 (b1.toNat : Int), .int .u8 (b2.toNat : Int), .int .u8 (b3.toNat : Int), .slice So no co, .slice Sb nb cb], .agg #[.int .u8 (c0.toNat : Int), .int .u8 (c1.toNat : Int), .int .u8 (c2.toNat : Int), .int .u8 (c3.toNat : Int)], .int .i64 t] w fun e w' => ∃ r, e = .returned (.tuple #[.agg #[.int .i64 0, .int .i64 0, .int .i64 0, .int .i64 0, .int .i64 0, .int .i64 0, .int .u8 0, .int .u8 0, .int .u8 0, .int .u8 0, .int .u8 0, .int .u8 0, .int .u8 0, .int .u8 0, .slice none 0 0, .slice none 0 0], .int .i64 r]) ∧ r ≠ 0 ∧ Nq lo gn gt gk w' s s' k ∧ Fn gn gt gk w w' ∧ Below lo w w' := by
  have hlo : lo ≤ w.heap.size := hT.lo_le
  have HLO := Lib.hid hlo
  have hnt := hT.nat
  have fr := Fn.refl gn gt gk w
  have HM := Lib.hid hm
  clear hm
  have bel := Below.refl lo w
  go_enter Tryz.func35, Tryz.ntmps35
  by_cases hg : icErr fl pt 1 lb = 0
  rotate_left
  · obtain ⟨er, her⟩ : ∃ er, icErr fl pt 1 lb = er := ⟨_, rfl⟩
    rw [her] at hg
    have HG := Lib.hid her
    have HNR := Lib.hid hg
    have q1_ : (er == 0) = false := beq_eq_false_iff_ne.2 hg
    have q2_ : (er != 0) = true := bne_iff_ne.2 hg
    clear her hg
    go_wp2_with (first | ((with_reducible show wpList _ _ _ (⟨some 5, _, _, _, _, _⟩ :: _) _ _); refine wpList_box_n rfl 38 (.tmp 1) rfl #[.int .i64 tos, .int .i64 id, .int .i64 fl, .int .i64 pt, .int .i64 ttl, .int .i64 1, .int .u8 (a0.toNat : Int), .int .u8 (a1.toNat : Int), .int .u8 (a2.toNat : Int), .int .u8 (a3.toNat : Int), .int .u8 (b0.toNat : Int), .int .u8 (b1.toNat : Int), .int .u8 (b2.toNat : Int), .int .u8 (b3.toNat : Int), .slice So no co, .slice Sb nb cb] rfl ?_; intro g5 w1 ge lt hh bb; have ap_pB := hT.ap ge; have d_nt_pB := ne_new (hlt hnt) ge; have av_pb_pB := pb.av_new ge; have opB := Nat.le_trans (Nat.le_trans hlo bel.size) ge; have ppB := Nat.le_trans bel.size ge; replace hnt := blk_u hnt bb; replace pb := pb.below bb; replace hT := hT.below bb; replace fr := fr.below bb; replace ap_pB := ap_pB.below bb; replace bel := bel.trans (bb.mono (Nat.le_trans hlo bel.size)); have hpB := hh; clear hh lt ge bb) | ((with_reducible show wpList _ _ _ (⟨some 6, _, _, _, _, _⟩ :: _) _ _); refine wpList_box_n rfl 35 (.tmp 2) rfl #[.int .u8 (c0.toNat : Int), .int .u8 (c1.toNat : Int), .int .u8 (c2.toNat : Int), .int .u8 (c3.toNat : Int)] rfl ?_; intro g6 w2 ge lt hh bb; have ap_wB := hT.ap ge; have d_nt_wB := ne_new (hlt hnt) ge; have d_pB_wB := ne_new (hlt hpB) ge; have av_pb_wB := pb.av_new ge; have owB := Nat.le_trans (Nat.le_trans hlo bel.size) ge; have pwB := Nat.le_trans bel.size ge; replace hnt := blk_u hnt bb; replace hpB := blk_u hpB bb; replace pb := pb.below bb; replace hT := hT.below bb; replace fr := fr.below bb; replace ap_pB := ap_pB.below bb; replace ap_wB := ap_wB.below bb; replace bel := bel.trans (bb.mono (Nat.le_trans hlo bel.size)); have hwB := hh; clear hh lt ge bb) | ((with_reducible show wpList _ _ _ (⟨some 8, _, _, _, _, _⟩ :: _) _ _); refine wpList_new_a rfl 38 rfl #[.int .i64 0, .int .i64 0, .int .i64 0, .int .i64 0, .int .i64 0, .int .i64 0, .int .u8 0, .int .u8 0, .int .u8 0, .int .u8 0, .int .u8 0, .int .u8 0, .int .u8 0, .int .u8 0, .slice none 0 0, .slice none 0 0] (by kernel_rfl) ?_; intro g8 w3 ge hh bb; have ap_rB := hT.ap ge; have d_nt_rB := ne_new (hlt hnt) ge; have d_pB_rB := ne_new (hlt hpB) ge; have d_wB_rB := ne_new (hlt hwB) ge; have av_pb_rB := pb.av_new ge; have orB := Nat.le_trans (Nat.le_trans hlo bel.size) ge; have prB := Nat.le_trans bel.size ge; replace hnt := blk_u hnt bb; replace hpB := blk_u hpB bb; replace hwB := blk_u hwB bb; replace pb := pb.below bb; replace hT := hT.below bb; replace fr := fr.below bb; replace ap_pB := ap_pB.below bb; replace ap_wB := ap_wB.below bb; replace ap_rB := ap_rB.below bb; replace bel := bel.trans (bb.mono (Nat.le_trans hlo bel.size)); have hrB := hh; clear hh ge bb; have R15 := Lib.hid (range_lit hpB 0 16 [.int .i64 tos, .int .i64 id, .int .i64 fl, .int .i64 pt, .int .i64 ttl, .int .i64 1, .int .u8 (a0.toNat : Int), .int .u8 (a1.toNat : Int), .int .u8 (a2.toNat : Int), .int .u8 (a3.toNat : Int), .int .u8 (b0.toNat : Int), .int .u8 (b1.toNat : Int), .int .u8 (b2.toNat : Int), .int .u8 (b3.toNat : Int), .slice So no co, .slice Sb nb cb] rfl)) | ((with_reducible show wpList _ _ _ (⟨some 15, _, _, _, _, _⟩ :: _) _ _); refine wpList_load_rng 38 (.tmp 5) rfl (by kernel_rfl) _ _ rfl _ R15.out _ Tryz.underlying38 rfl (by kernel_rfl) ?_))
    try clear R15
    with_reducible refine (icget_er _ _ _ _ _ _ _ _ _ _ _ _ _ _ _ _ _ _ _ _  pb HM.out HG.out).mono ?_
    rintro e w4 ⟨x0, x1, x2, D, nd, cd, rfl, b4⟩
    replace hnt := blk_u hnt b4
    replace hpB := blk_u hpB b4
    replace hwB := blk_u hwB b4
    replace hrB := blk_u hrB b4
    replace pb := pb.below b4
    replace hT := hT.below b4
    replace fr := fr.below b4
    replace ap_pB := ap_pB.below b4
    replace ap_wB := ap_wB.below b4
    replace ap_rB := ap_rB.below b4
    replace bel := bel.trans (b4.mono (Nat.le_trans hlo bel.size))
    clear b4
    go_wp2_with (first | ((with_reducible show wpList _ _ _ (⟨some 10, _, _, _, _, _⟩ :: _) _ _); refine wpList_new_a rfl 47 rfl #[.int .i64 0, .int .i64 0, .int .u32 0, .slice none 0 0] (by kernel_rfl) ?_; intro g10 w5 ge hh bb; have ap_gB := hT.ap ge; have d_nt_gB := ne_new (hlt hnt) ge; have d_pB_gB := ne_new (hlt hpB) ge; have d_wB_gB := ne_new (hlt hwB) ge; have d_rB_gB := ne_new (hlt hrB) ge; have av_pb_gB := pb.av_new ge; have ogB := Nat.le_trans (Nat.le_trans hlo bel.size) ge; have pgB := Nat.le_trans bel.size ge; replace hnt := blk_u hnt bb; replace hpB := blk_u hpB bb; replace hwB := blk_u hwB bb; replace hrB := blk_u hrB bb; replace pb := pb.below bb; replace hT := hT.below bb; replace fr := fr.below bb; replace ap_pB := ap_pB.below bb; replace ap_wB := ap_wB.below bb; replace ap_rB := ap_rB.below bb; replace ap_gB := ap_gB.below bb; replace bel := bel.trans (bb.mono (Nat.le_trans hlo bel.size)); have hgB := hh; clear hh ge bb) | ((with_reducible show wpList _ _ _ (⟨none, Op.store _ (.tmp 10) _, _, _, _, _⟩ :: _) _ _); refine wpList_store_blk rfl 47 (.tmp 10) (.tmp 17) rfl g10 rfl _ rfl _ 47 hgB (by rfl) (by kernel_rfl) (by kernel_rfl) ?_; intro w6 hq gr; replace pb := pb.away av_pb_gB gr; replace hnt := blk_a hnt gr d_nt_gB; replace hpB := blk_a hpB gr d_pB_gB; replace hwB := blk_a hwB gr d_wB_gB; replace hrB := blk_a hrB gr d_rB_gB; replace hT := hT.away ap_gB gr hgB; replace fr := fr.newer ap_gB gr pgB; replace ap_pB := ap_pB.grown ap_gB gr; replace ap_wB := ap_wB.grown ap_gB gr; replace ap_rB := ap_rB.grown ap_gB gr; replace ap_gB := ap_gB.grown ap_gB gr; replace bel := below_grown bel gr ogB (Nat.le_trans hlo bel.size); clear hgB; have hgB := hq; clear hq gr) | ((with_reducible show wpList _ _ _ (⟨none, Op.store _ (.tmp 8) _, _, _, _, _⟩ :: _) _ _); refine wpList_store_blk rfl 38 (.tmp 8) (.tmp 21) rfl g8 rfl _ rfl _ 38 hrB (by rfl) (by kernel_rfl) (by kernel_rfl) ?_; intro w7 hq gr; replace pb := pb.away av_pb_rB gr; replace hnt := blk_a hnt gr d_nt_rB; replace hpB := blk_a hpB gr d_pB_rB; replace hwB := blk_a hwB gr d_wB_rB; replace hgB := blk_a hgB gr (ne_symm d_rB_gB); replace hT := hT.away ap_rB gr hrB; replace fr := fr.newer ap_rB gr prB; replace ap_pB := ap_pB.grown ap_rB gr; replace ap_wB := ap_wB.grown ap_rB gr; replace ap_rB := ap_rB.grown ap_rB gr; replace ap_gB := ap_gB.grown ap_rB gr; replace bel := below_grown bel gr orB (Nat.le_trans hlo bel.size); clear hrB; have hrB := hq; clear hq gr))
    exact bodyPost_ret (results_cell_tmp_row rfl _ _ _ _ _ _ _ rfl hrB Tryz.underlying38 rfl (by kernel_rfl) (.int .i64 er) rfl) rfl ⟨er, rfl, HNR.out, Or.inl hT, fr, bel⟩
  have HG := Lib.hid hg
  clear hg
  go_wp2_with (first | ((with_reducible show wpList _ _ _ (⟨some 5, _, _, _, _, _⟩ :: _) _ _); refine wpList_box_n rfl 38 (.tmp 1) rfl #[.int .i64 tos, .int .i64 id, .int .i64 fl, .int .i64 pt, .int .i64 ttl, .int .i64 1, .int .u8 (a0.toNat : Int), .int .u8 (a1.toNat : Int), .int .u8 (a2.toNat : Int), .int .u8 (a3.toNat : Int), .int .u8 (b0.toNat : Int), .int .u8 (b1.toNat : Int), .int .u8 (b2.toNat : Int), .int .u8 (b3.toNat : Int), .slice So no co, .slice Sb nb cb] rfl ?_; intro g5 w1 ge lt hh bb; have ap_pB := hT.ap ge; have d_nt_pB := ne_new (hlt hnt) ge; have av_pb_pB := pb.av_new ge; have opB := Nat.le_trans (Nat.le_trans hlo bel.size) ge; have ppB := Nat.le_trans bel.size ge; replace hnt := blk_u hnt bb; replace pb := pb.below bb; replace hT := hT.below bb; replace fr := fr.below bb; replace ap_pB := ap_pB.below bb; replace bel := bel.trans (bb.mono (Nat.le_trans hlo bel.size)); have hpB := hh; clear hh lt ge bb) | ((with_reducible show wpList _ _ _ (⟨some 6, _, _, _, _, _⟩ :: _) _ _); refine wpList_box_n rfl 35 (.tmp 2) rfl #[.int .u8 (c0.toNat : Int), .int .u8 (c1.toNat : Int), .int .u8 (c2.toNat : Int), .int .u8 (c3.toNat : Int)] rfl ?_; intro g6 w2 ge lt hh bb; have ap_wB := hT.ap ge; have d_nt_wB := ne_new (hlt hnt) ge; have d_pB_wB := ne_new (hlt hpB) ge; have av_pb_wB := pb.av_new ge; have owB := Nat.le_trans (Nat.le_trans hlo bel.size) ge; have pwB := Nat.le_trans bel.size ge; replace hnt := blk_u hnt bb; replace hpB := blk_u hpB bb; replace pb := pb.below bb; replace hT := hT.below bb; replace fr := fr.below bb; replace ap_pB := ap_pB.below bb; replace ap_wB := ap_wB.below bb; replace bel := bel.trans (bb.mono (Nat.le_trans hlo bel.size)); have hwB := hh; clear hh lt ge bb) | ((with_reducible show wpList _ _ _ (⟨some 8, _, _, _, _, _⟩ :: _) _ _); refine wpList_new_a rfl 38 rfl #[.int .i64 0, .int .i64 0, .int .i64 0, .int .i64 0, .int .i64 0, .int .i64 0, .int .u8 0, .int .u8 0, .int .u8 0, .int .u8 0, .int .u8 0, .int .u8 0, .int .u8 0, .int .u8 0, .slice none 0 0, .slice none 0 0] (by kernel_rfl) ?_; intro g8 w3 ge hh bb; have ap_rB := hT.ap ge; have d_nt_rB := ne_new (hlt hnt) ge; have d_pB_rB := ne_new (hlt hpB) ge; have d_wB_rB := ne_new (hlt hwB) ge; have av_pb_rB := pb.av_new ge; have orB := Nat.le_trans (Nat.le_trans hlo bel.size) ge; have prB := Nat.le_trans bel.size ge; replace hnt := blk_u hnt bb; replace hpB := blk_u hpB bb; replace hwB := blk_u hwB bb; replace pb := pb.below bb; replace hT := hT.below bb; replace fr := fr.below bb; replace ap_pB := ap_pB.below bb; replace ap_wB := ap_wB.below bb; replace ap_rB := ap_rB.below bb; replace bel := bel.trans (bb.mono (Nat.le_trans hlo bel.size)); have hrB := hh; clear hh ge bb; have R15 := Lib.hid (range_lit hpB 0 16 [.int .i64 tos, .int .i64 id, .int .i64 fl, .int .i64 pt, .int .i64 ttl, .int .i64 1, .int .u8 (a0.toNat : Int), .int .u8 (a1.toNat : Int), .int .u8 (a2.toNat : Int), .int .u8 (a3.toNat : Int), .int .u8 (b0.toNat : Int), .int .u8 (b1.toNat : Int), .int .u8 (b2.toNat : Int), .int .u8 (b3.toNat : Int), .slice So no co, .slice Sb nb cb] rfl)) | ((with_reducible show wpList _ _ _ (⟨some 15, _, _, _, _, _⟩ :: _) _ _); refine wpList_load_rng 38 (.tmp 5) rfl (by kernel_rfl) _ _ rfl _ R15.out _ Tryz.underlying38 rfl (by kernel_rfl) ?_))
  try clear R15
  with_reducible refine (icget_ok _ _ _ _ _ _ _ _ _ _ _ _ _ _ _ _ _ _ _ _  pb HM.out HG.out).mono ?_
  rintro e w4 ⟨x0, x1, x2, ld, D, nd, cd, rfl, gd, fd, HND, HX2, b4⟩
  have av_gd_nt := fd.av (hlt hnt)
  have av_gd_pB := fd.av (hlt hpB)
  have av_gd_wB := fd.av (hlt hwB)
  have av_gd_rB := fd.av (hlt hrB)
  have an_gd := hT.an fd
  replace hnt := blk_u hnt b4
  replace hpB := blk_u hpB b4
  replace hwB := blk_u hwB b4
  replace hrB := blk_u hrB b4
  replace pb := pb.below b4
  replace hT := hT.below b4
  replace fr := fr.below b4
  replace ap_pB := ap_pB.below b4
  replace ap_wB := ap_wB.below b4
  replace ap_rB := ap_rB.below b4
  replace an_gd := an_gd.below b4
  replace bel := bel.trans (b4.mono (Nat.le_trans hlo bel.size))
  clear b4
  replace gd : Sl w4 (D) (nd) (cd) (ld) := gd
  rcases hq : (echoT x0 && decide (x1 = 0)) with _ | _
  rotate_left
  · have HE0 : Hid (echoT x0 = true) := Lib.hid (Bool.and_eq_true_iff.1 hq).1
    have HC0 : Hid (x1 = 0) := Lib.hid (of_decide_eq_true (Bool.and_eq_true_iff.1 hq).2)
    clear hq
    go_wp2_with (first | ((with_reducible show wpList _ _ _ (⟨some 10, _, _, _, _, _⟩ :: _) _ _); refine wpList_new_a rfl 47 rfl #[.int .i64 0, .int .i64 0, .int .u32 0, .slice none 0 0] (by kernel_rfl) ?_; intro g10 w5 ge hh bb; have ap_gB := hT.ap ge; have d_nt_gB := ne_new (hlt hnt) ge; have d_pB_gB := ne_new (hlt hpB) ge; have d_wB_gB := ne_new (hlt hwB) ge; have d_rB_gB := ne_new (hlt hrB) ge; have av_pb_gB := pb.av_new ge; have av_gd_gB := gd.av_new ge; have ogB := Nat.le_trans (Nat.le_trans hlo bel.size) ge; have pgB := Nat.le_trans bel.size ge; replace hnt := blk_u hnt bb; replace hpB := blk_u hpB bb; replace hwB := blk_u hwB bb; replace hrB := blk_u hrB bb; replace pb := pb.below bb; replace gd := gd.below bb; replace hT := hT.below bb; replace fr := fr.below bb; replace ap_pB := ap_pB.below bb; replace ap_wB := ap_wB.below bb; replace ap_rB := ap_rB.below bb; replace an_gd := an_gd.below bb; replace ap_gB := ap_gB.below bb; replace bel := bel.trans (bb.mono (Nat.le_trans hlo bel.size)); have hgB := hh; clear hh ge bb) | ((with_reducible show wpList _ _ _ (⟨none, Op.store _ (.tmp 10) _, _, _, _, _⟩ :: _) _ _); refine wpList_store_blk rfl 47 (.tmp 10) (.tmp 17) rfl g10 rfl _ rfl _ 47 hgB (by rfl) (by kernel_rfl) (by kernel_rfl) ?_; intro w6 hq gr; replace pb := pb.away av_pb_gB gr; replace gd := gd.away av_gd_gB gr; replace hnt := blk_a hnt gr d_nt_gB; replace hpB := blk_a hpB gr d_pB_gB; replace hwB := blk_a hwB gr d_wB_gB; replace hrB := blk_a hrB gr d_rB_gB; replace hT := hT.away ap_gB gr hgB; replace fr := fr.newer ap_gB gr pgB; replace ap_pB := ap_pB.grown ap_gB gr; replace ap_wB := ap_wB.grown ap_gB gr; replace ap_rB := ap_rB.grown ap_gB gr; replace an_gd := an_gd.grown ap_gB gr; replace ap_gB := ap_gB.grown ap_gB gr; replace bel := below_grown bel gr ogB (Nat.le_trans hlo bel.size); clear hgB; have hgB := hq; clear hq gr; have R24 := Lib.hid (range_lit hgB 0 4 [.int .i64 x0, .int .i64 x1, .int .u32 x2, .slice D nd cd] rfl)) | ((with_reducible show wpList _ _ _ (⟨some 24, _, _, _, _, _⟩ :: _) _ _); refine wpList_load_rng 47 (.tmp 10) rfl (by kernel_rfl) _ _ rfl _ R24.out _ Tryz.underlying47 rfl (by kernel_rfl) ?_))
    try clear R24
    with_reducible refine (icquery_2 _ _ _ _ _ _ HE0.out HC0.out HX2.out.1 HX2.out.2 _).mono ?_
    rintro e w7 ⟨rfl, b7⟩
    replace hnt := blk_u hnt b7
    replace hpB := blk_u hpB b7
    replace hwB := blk_u hwB b7
    replace hrB := blk_u hrB b7
    replace hgB := blk_u hgB b7
    replace pb := pb.below b7
    replace gd := gd.below b7
    replace hT := hT.below b7
    replace fr := fr.below b7
    replace ap_pB := ap_pB.below b7
    replace ap_wB := ap_wB.below b7
    replace ap_rB := ap_rB.below b7
    replace an_gd := an_gd.below b7
    replace ap_gB := ap_gB.below b7
    replace bel := bel.trans (b7.mono (Nat.le_trans hlo bel.size))
    clear b7
    have R33 := cell_lit hgB 2 _ rfl
    go_wp2_with fail
    clear R33
    with_reducible refine (nqin_no _ hT (hc _ _ (okP_mk (by decide) (by decide) (by have := HX2.out; omega) (by have := HX2.out; omega)))).mono ?_
    rintro e w8 ⟨rfl, hT_, f_, bb⟩
    clear hnt
    have x_ := f_ _ _ _ _ hpB ap_pB
    replace hpB := x_.1
    replace ap_pB := x_.2
    clear x_
    have x_ := f_ _ _ _ _ hwB ap_wB
    replace hwB := x_.1
    replace ap_wB := x_.2
    clear x_
    have x_ := f_ _ _ _ _ hrB ap_rB
    replace hrB := x_.1
    replace ap_rB := x_.2
    clear x_
    have x_ := f_ _ _ _ _ hgB ap_gB
    replace hgB := x_.1
    replace ap_gB := x_.2
    clear x_
    clear pb
    have x_ := f_.sl gd an_gd
    replace gd := x_.1
    replace an_gd := x_.2
    clear x_
    replace fr := fr.trans f_
    clear hT
    have hT := hT_
    replace bel := bel.trans bb
    clear bb f_ hT_
    have hnt := hT.nat
    go_wp2_with (first | ((with_reducible show wpList _ _ _ (⟨none, Op.store _ (.tmp 40) _, _, _, _, _⟩ :: _) _ _); refine wpList_store_part rfl 35 (.tmp 40) (.tmp 37) rfl g5 10 rfl [.int .u8 0, .int .u8 0, .int .u8 0, .int .u8 0] rfl [.int .i64 tos, .int .i64 id, .int .i64 fl, .int .i64 pt, .int .i64 ttl, .int .i64 1, .int .u8 (a0.toNat : Int), .int .u8 (a1.toNat : Int), .int .u8 (a2.toNat : Int), .int .u8 (a3.toNat : Int), .int .u8 (b0.toNat : Int), .int .u8 (b1.toNat : Int), .int .u8 (b2.toNat : Int), .int .u8 (b3.toNat : Int), .slice So no co, .slice Sb nb cb] 38 hpB (by simp) [.int .i64 tos, .int .i64 id, .int .i64 fl, .int .i64 pt, .int .i64 ttl, .int .i64 1, .int .u8 (a0.toNat : Int), .int .u8 (a1.toNat : Int), .int .u8 (a2.toNat : Int), .int .u8 (a3.toNat : Int), .int .u8 0, .int .u8 0, .int .u8 0, .int .u8 0, .slice So no co, .slice Sb nb cb] rfl (by kernel_rfl) (by rfl) ?_; intro w9 hq gr; replace gd := gd.away av_gd_pB gr; replace hwB := blk_a hwB gr (ne_symm d_pB_wB); replace hrB := blk_a hrB gr (ne_symm d_pB_rB); replace hgB := blk_a hgB gr (ne_symm d_pB_gB); replace hnt := blk_a hnt gr d_nt_pB; replace hT := hT.away ap_pB gr hpB; replace fr := fr.newer ap_pB gr ppB; replace ap_pB := ap_pB.grown ap_pB gr; replace ap_wB := ap_wB.grown ap_pB gr; replace ap_rB := ap_rB.grown ap_pB gr; replace an_gd := an_gd.grown ap_pB gr; replace ap_gB := ap_gB.grown ap_pB gr; replace bel := below_grown bel gr opB (Nat.le_trans hlo bel.size); clear hpB; have hpB := hq; clear hq gr) | ((with_reducible show wpList _ _ _ (⟨none, Op.store _ (.tmp 41) _, _, _, _, _⟩ :: _) _ _); refine wpList_store_part rfl 45 (.tmp 41) (.tmp 38) rfl g10 2 rfl [.int .u32 0] rfl [.int .i64 x0, .int .i64 x1, .int .u32 x2, .slice D nd cd] 47 hgB (by simp) [.int .i64 x0, .int .i64 x1, .int .u32 0, .slice D nd cd] rfl (by kernel_rfl) (by rfl) ?_; intro w10 hq gr; replace gd := gd.away av_gd_gB gr; replace hpB := blk_a hpB gr d_pB_gB; replace hwB := blk_a hwB gr d_wB_gB; replace hrB := blk_a hrB gr d_rB_gB; replace hnt := blk_a hnt gr d_nt_gB; replace hT := hT.away ap_gB gr hgB; replace fr := fr.newer ap_gB gr pgB; replace ap_pB := ap_pB.grown ap_gB gr; replace ap_wB := ap_wB.grown ap_gB gr; replace ap_rB := ap_rB.grown ap_gB gr; replace an_gd := an_gd.grown ap_gB gr; replace ap_gB := ap_gB.grown ap_gB gr; replace bel := below_grown bel gr ogB (Nat.le_trans hlo bel.size); clear hgB; have hgB := hq; clear hq gr) | ((with_reducible show wpList _ _ _ (⟨none, Op.store _ (.tmp 8) _, _, _, _, _⟩ :: _) _ _); refine wpList_store_blk rfl 38 (.tmp 8) (.tmp 59) rfl g8 rfl _ rfl _ 38 hrB (by rfl) (by kernel_rfl) (by kernel_rfl) ?_; intro w11 hq gr; replace gd := gd.away av_gd_rB gr; replace hpB := blk_a hpB gr d_pB_rB; replace hwB := blk_a hwB gr d_wB_rB; replace hgB := blk_a hgB gr (ne_symm d_rB_gB); replace hnt := blk_a hnt gr d_nt_rB; replace hT := hT.away ap_rB gr hrB; replace fr := fr.newer ap_rB gr prB; replace ap_pB := ap_pB.grown ap_rB gr; replace ap_wB := ap_wB.grown ap_rB gr; replace ap_rB := ap_rB.grown ap_rB gr; replace an_gd := an_gd.grown ap_rB gr; replace ap_gB := ap_gB.grown ap_rB gr; replace bel := below_grown bel gr orB (Nat.le_trans hlo bel.size); clear hrB; have hrB := hq; clear hq gr))
    exact bodyPost_ret (results_cell_tmp_row rfl _ _ _ _ _ _ _ rfl hrB Tryz.underlying38 rfl (by kernel_rfl) (.int .i64 6) rfl) rfl ⟨6, rfl, (by decide), Or.inr hT, fr, bel⟩
  have HQ := Lib.hid hq
  clear hq
  go_wp2_with (first | ((with_reducible show wpList _ _ _ (⟨some 10, _, _, _, _, _⟩ :: _) _ _); refine wpList_new_a rfl 47 rfl #[.int .i64 0, .int .i64 0, .int .u32 0, .slice none 0 0] (by kernel_rfl) ?_; intro g10 w5 ge hh bb; have ap_gB := hT.ap ge; have d_nt_gB := ne_new (hlt hnt) ge; have d_pB_gB := ne_new (hlt hpB) ge; have d_wB_gB := ne_new (hlt hwB) ge; have d_rB_gB := ne_new (hlt hrB) ge; have av_pb_gB := pb.av_new ge; have av_gd_gB := gd.av_new ge; have ogB := Nat.le_trans (Nat.le_trans hlo bel.size) ge; have pgB := Nat.le_trans bel.size ge; replace hnt := blk_u hnt bb; replace hpB := blk_u hpB bb; replace hwB := blk_u hwB bb; replace hrB := blk_u hrB bb; replace pb := pb.below bb; replace gd := gd.below bb; replace hT := hT.below bb; replace fr := fr.below bb; replace ap_pB := ap_pB.below bb; replace ap_wB := ap_wB.below bb; replace ap_rB := ap_rB.below bb; replace an_gd := an_gd.below bb; replace ap_gB := ap_gB.below bb; replace bel := bel.trans (bb.mono (Nat.le_trans hlo bel.size)); have hgB := hh; clear hh ge bb) | ((with_reducible show wpList _ _ _ (⟨none, Op.store _ (.tmp 10) _, _, _, _, _⟩ :: _) _ _); refine wpList_store_blk rfl 47 (.tmp 10) (.tmp 17) rfl g10 rfl _ rfl _ 47 hgB (by rfl) (by kernel_rfl) (by kernel_rfl) ?_; intro w6 hq gr; replace pb := pb.away av_pb_gB gr; replace gd := gd.away av_gd_gB gr; replace hnt := blk_a hnt gr d_nt_gB; replace hpB := blk_a hpB gr d_pB_gB; replace hwB := blk_a hwB gr d_wB_gB; replace hrB := blk_a hrB gr d_rB_gB; replace hT := hT.away ap_gB gr hgB; replace fr := fr.newer ap_gB gr pgB; replace ap_pB := ap_pB.grown ap_gB gr; replace ap_wB := ap_wB.grown ap_gB gr; replace ap_rB := ap_rB.grown ap_gB gr; replace an_gd := an_gd.grown ap_gB gr; replace ap_gB := ap_gB.grown ap_gB gr; replace bel := below_grown bel gr ogB (Nat.le_trans hlo bel.size); clear hgB; have hgB := hq; clear hq gr; have R24 := Lib.hid (range_lit hgB 0 4 [.int .i64 x0, .int .i64 x1, .int .u32 x2, .slice D nd cd] rfl)) | ((with_reducible show wpList _ _ _ (⟨some 24, _, _, _, _, _⟩ :: _) _ _); refine wpList_load_rng 47 (.tmp 10) rfl (by kernel_rfl) _ _ rfl _ R24.out _ Tryz.underlying47 rfl (by kernel_rfl) ?_))
  try clear R24
  with_reducible refine (icquery_no _ _ _ _ _ _ HQ.out _).mono ?_
  rintro e w7 ⟨rfl, b7⟩
  replace hnt := blk_u hnt b7
  replace hpB := blk_u hpB b7
  replace hwB := blk_u hwB b7
  replace hrB := blk_u hrB b7
  replace hgB := blk_u hgB b7
  replace pb := pb.below b7
  replace gd := gd.below b7
  replace hT := hT.below b7
  replace fr := fr.below b7
  replace ap_pB := ap_pB.below b7
  replace ap_wB := ap_wB.below b7
  replace ap_rB := ap_rB.below b7
  replace an_gd := an_gd.below b7
  replace ap_gB := ap_gB.below b7
  replace bel := bel.trans (b7.mono (Nat.le_trans hlo bel.size))
  clear b7
  rcases hf : faultT x0 with _ | _
  · have HF := Lib.hid hf
    clear hf
    have R43 := Lib.hid (range_lit hgB 0 4 [.int .i64 x0, .int .i64 x1, .int .u32 x2, .slice D nd cd] rfl)
    go_wp2_with (first | ((with_reducible show wpList _ _ _ (⟨some 43, _, _, _, _, _⟩ :: _) _ _); refine wpList_load_rng 47 (.tmp 10) rfl (by kernel_rfl) _ _ rfl _ R43.out _ Tryz.underlying47 rfl (by kernel_rfl) ?_))
    try clear R43
    with_reducible refine (icfault_any _ _ _ _ _ _ _).mono ?_
    rintro e w8 ⟨rfl, b8⟩
    replace hnt := blk_u hnt b8
    replace hpB := blk_u hpB b8
    replace hwB := blk_u hwB b8
    replace hrB := blk_u hrB b8
    replace hgB := blk_u hgB b8
    replace pb := pb.below b8
    replace gd := gd.below b8
    replace hT := hT.below b8
    replace fr := fr.below b8
    replace ap_pB := ap_pB.below b8
    replace ap_wB := ap_wB.below b8
    replace ap_rB := ap_rB.below b8
    replace an_gd := an_gd.below b8
    replace ap_gB := ap_gB.below b8
    replace bel := bel.trans (b8.mono (Nat.le_trans hlo bel.size))
    clear b8
    rw [HF.out]
    go_wp2_with (first | ((with_reducible show wpList _ _ _ (⟨none, Op.store _ (.tmp 8) _, _, _, _, _⟩ :: _) _ _); refine wpList_store_blk rfl 38 (.tmp 8) (.tmp 59) rfl g8 rfl _ rfl _ 38 hrB (by rfl) (by kernel_rfl) (by kernel_rfl) ?_; intro w9 hq gr; replace pb := pb.away av_pb_rB gr; replace gd := gd.away av_gd_rB gr; replace hnt := blk_a hnt gr d_nt_rB; replace hpB := blk_a hpB gr d_pB_rB; replace hwB := blk_a hwB gr d_wB_rB; replace hgB := blk_a hgB gr (ne_symm d_rB_gB); replace hT := hT.away ap_rB gr hrB; replace fr := fr.newer ap_rB gr prB; replace ap_pB := ap_pB.grown ap_rB gr; replace ap_wB := ap_wB.grown ap_rB gr; replace ap_rB := ap_rB.grown ap_rB gr; replace an_gd := an_gd.grown ap_rB gr; replace ap_gB := ap_gB.grown ap_rB gr; replace bel := below_grown bel gr orB (Nat.le_trans hlo bel.size); clear hrB; have hrB := hq; clear hq gr))
    exact bodyPost_ret (results_cell_tmp_row rfl _ _ _ _ _ _ _ rfl hrB Tryz.underlying38 rfl (by kernel_rfl) (.int .i64 11) rfl) rfl ⟨11, rfl, (by decide), Or.inl hT, fr, bel⟩
  have HF := Lib.hid hf
  clear hf
  have R43 := Lib.hid (range_lit hgB 0 4 [.int .i64 x0, .int .i64 x1, .int .u32 x2, .slice D nd cd] rfl)
  go_wp2_with (first | ((with_reducible show wpList _ _ _ (⟨some 43, _, _, _, _, _⟩ :: _) _ _); refine wpList_load_rng 47 (.tmp 10) rfl (by kernel_rfl) _ _ rfl _ R43.out _ Tryz.underlying47 rfl (by kernel_rfl) ?_))
  try clear R43
  with_reducible refine (icfault_any _ _ _ _ _ _ _).mono ?_
  rintro e w8 ⟨rfl, b8⟩
  replace hnt := blk_u hnt b8
  replace hpB := blk_u hpB b8
  replace hwB := blk_u hwB b8
  replace hrB := blk_u hrB b8
  replace hgB := blk_u hgB b8
  replace pb := pb.below b8
  replace gd := gd.below b8
  replace hT := hT.below b8
  replace fr := fr.below b8
  replace ap_pB := ap_pB.below b8
  replace ap_wB := ap_wB.below b8
  replace ap_rB := ap_rB.below b8
  replace an_gd := an_gd.below b8
  replace ap_gB := ap_gB.below b8
  replace bel := bel.trans (b8.mono (Nat.le_trans hlo bel.size))
  clear b8
  rw [HF.out]
  have R48 := cell_lit hgB 3 _ rfl
  have R49 := Lib.hid (range_lit hwB 0 4 [.int .u8 (c0.toNat : Int), .int .u8 (c1.toNat : Int), .int .u8 (c2.toNat : Int), .int .u8 (c3.toNat : Int)] rfl)
  go_wp2_with (first | ((with_reducible show wpList _ _ _ (⟨some 49, _, _, _, _, _⟩ :: _) _ _); refine wpList_load_rng 35 (.tmp 6) rfl (by kernel_rfl) _ _ rfl _ R49.out _ Tryz.underlying35 rfl (by kernel_rfl) ?_))
  try clear R48
  try clear R49
  with_reducible refine (nfin_any _ hT gd HND.out hc).mono ?_
  rintro e w9 ⟨r, rfl, HNR, hT_, f_, bb⟩
  clear hnt
  have x_ := f_ _ _ _ _ hpB ap_pB
  replace hpB := x_.1
  replace ap_pB := x_.2
  clear x_
  have x_ := f_ _ _ _ _ hwB ap_wB
  replace hwB := x_.1
  replace ap_wB := x_.2
  clear x_
  have x_ := f_ _ _ _ _ hrB ap_rB
  replace hrB := x_.1
  replace ap_rB := x_.2
  clear x_
  have x_ := f_ _ _ _ _ hgB ap_gB
  replace hgB := x_.1
  replace ap_gB := x_.2
  clear x_
  clear pb
  have x_ := f_.sl gd an_gd
  replace gd := x_.1
  replace an_gd := x_.2
  clear x_
  replace fr := fr.trans f_
  clear hT
  have hT := hT_
  replace bel := bel.trans bb
  clear bb f_ hT_
  have hnt := hT.nat
  have q1_ : (r == 0) = false := beq_eq_false_iff_ne.2 HNR
  have q2_ : (r != 0) = true := bne_iff_ne.2 HNR
  replace HNR := Lib.hid HNR
  go_wp2_with (first | ((with_reducible show wpList _ _ _ (⟨none, Op.store _ (.tmp 55) _, _, _, _, _⟩ :: _) _ _); refine wpList_store_part rfl 35 (.tmp 55) (.tmp 52) rfl g5 10 rfl [.int .u8 0, .int .u8 0, .int .u8 0, .int .u8 0] rfl [.int .i64 tos, .int .i64 id, .int .i64 fl, .int .i64 pt, .int .i64 ttl, .int .i64 1, .int .u8 (a0.toNat : Int), .int .u8 (a1.toNat : Int), .int .u8 (a2.toNat : Int), .int .u8 (a3.toNat : Int), .int .u8 (b0.toNat : Int), .int .u8 (b1.toNat : Int), .int .u8 (b2.toNat : Int), .int .u8 (b3.toNat : Int), .slice So no co, .slice Sb nb cb] 38 hpB (by simp) [.int .i64 tos, .int .i64 id, .int .i64 fl, .int .i64 pt, .int .i64 ttl, .int .i64 1, .int .u8 (a0.toNat : Int), .int .u8 (a1.toNat : Int), .int .u8 (a2.toNat : Int), .int .u8 (a3.toNat : Int), .int .u8 0, .int .u8 0, .int .u8 0, .int .u8 0, .slice So no co, .slice Sb nb cb] rfl (by kernel_rfl) (by rfl) ?_; intro w10 hq gr; replace gd := gd.away av_gd_pB gr; replace hwB := blk_a hwB gr (ne_symm d_pB_wB); replace hrB := blk_a hrB gr (ne_symm d_pB_rB); replace hgB := blk_a hgB gr (ne_symm d_pB_gB); replace hnt := blk_a hnt gr d_nt_pB; replace hT := hT.away ap_pB gr hpB; replace fr := fr.newer ap_pB gr ppB; replace ap_pB := ap_pB.grown ap_pB gr; replace ap_wB := ap_wB.grown ap_pB gr; replace ap_rB := ap_rB.grown ap_pB gr; replace an_gd := an_gd.grown ap_pB gr; replace ap_gB := ap_gB.grown ap_pB gr; replace bel := below_grown bel gr opB (Nat.le_trans hlo bel.size); clear hpB; have hpB := hq; clear hq gr) | ((with_reducible show wpList _ _ _ (⟨none, Op.store _ (.tmp 56) _, _, _, _, _⟩ :: _) _ _); refine wpList_store_part rfl 36 (.tmp 56) (.tmp 53) rfl g10 3 rfl [.slice none 0 0] rfl [.int .i64 x0, .int .i64 x1, .int .u32 x2, .slice D nd cd] 47 hgB (by simp) [.int .i64 x0, .int .i64 x1, .int .u32 x2, .slice none 0 0] rfl (by kernel_rfl) (by rfl) ?_; intro w11 hq gr; replace gd := gd.away av_gd_gB gr; replace hpB := blk_a hpB gr d_pB_gB; replace hwB := blk_a hwB gr d_wB_gB; replace hrB := blk_a hrB gr d_rB_gB; replace hnt := blk_a hnt gr d_nt_gB; replace hT := hT.away ap_gB gr hgB; replace fr := fr.newer ap_gB gr pgB; replace ap_pB := ap_pB.grown ap_gB gr; replace ap_wB := ap_wB.grown ap_gB gr; replace ap_rB := ap_rB.grown ap_gB gr; replace an_gd := an_gd.grown ap_gB gr; replace ap_gB := ap_gB.grown ap_gB gr; replace bel := below_grown bel gr ogB (Nat.le_trans hlo bel.size); clear hgB; have hgB := hq; clear hq gr) | ((with_reducible show wpList _ _ _ (⟨none, Op.store _ (.tmp 8) _, _, _, _, _⟩ :: _) _ _); refine wpList_store_blk rfl 38 (.tmp 8) (.tmp 59) rfl g8 rfl _ rfl _ 38 hrB (by rfl) (by kernel_rfl) (by kernel_rfl) ?_; intro w12 hq gr; replace gd := gd.away av_gd_rB gr; replace hpB := blk_a hpB gr d_pB_rB; replace hwB := blk_a hwB gr d_wB_rB; replace hgB := blk_a hgB gr (ne_symm d_rB_gB); replace hnt := blk_a hnt gr d_nt_rB; replace hT := hT.away ap_rB gr hrB; replace fr := fr.newer ap_rB gr prB; replace ap_pB := ap_pB.grown ap_rB gr; replace ap_wB := ap_wB.grown ap_rB gr; replace ap_rB := ap_rB.grown ap_rB gr; replace an_gd := an_gd.grown ap_rB gr; replace ap_gB := ap_gB.grown ap_rB gr; replace bel := below_grown bel gr orB (Nat.le_trans hlo bel.size); clear hrB; have hrB := hq; clear hq gr))
  exact bodyPost_ret (results_cell_tmp_row rfl _ _ _ _ _ _ _ rfl hrB Tryz.underlying38 rfl (by kernel_rfl) (.int .i64 r) rfl) rfl ⟨r, rfl, HNR.out, hT, fr, bel⟩
set_option linter.unusedVariables false in
set_option linter.unusedVariables false in
set_option linter.unusedSimpArgs false in
set_option maxRecDepth 100000 in
set_option maxHeartbeats 16000000 in
theorem nseg_any {lo gn gt gk : Nat} {s : Ts} {k : Ks} {s' : Ts} {tos id fl pt ttl : Int} {a0 a1 a2 a3 b0 b1 b2 b3 : UInt8} {So Sb : Option Addr} {no co nb cb : Nat} {lp lb : List UInt8} {t : Int} (w : World) (hT : Np lo gn gt gk w s k) (pb : Sl w Sb nb cb lb) (hm : nb ≤ 100000) (hc : ∀ pr o, okP pr o → InE lo gt s s' pr o t)  : Calls Tryz.prog 34 #[.pointer (some ⟨gn, 0, none⟩), .agg #[.int .i64 tos, .int .i64 id, .int .i64 fl, .int .i64 pt, .int .i64 ttl, .int .i64 6, .int .u8 (a0.toNat : Int), .int .u8 (a1.toNat : Int), .int .u8 (a2.toNat : Int), .int .u8 (a3.toNat : Int), .int .u8 (b0.toNat : Int), .int .u8 (b1.toNat : Int), .int .u8 (b2.toNat : Int), .int .u8 (b3.toNat : Int), .slice So no co, .slice Sb nb cb], .int .i64 t] w fun e w' => ∃ r, e = .returned (.tuple #[.agg #[.int .i64 0, .int .i64 0, .int .i64 0, .int .i64 0, .int .i64 0, .int .i64 0, .int .u8 0, .int .u8 0, .int .u8 0, .int .u8 0, .int .u8 0, .int .u8 0, .int .u8 0, .int .u8 0, .slice none 0 0, .slice none 0 0], .int .i64 r]) ∧ r ≠ 0 ∧ Nq lo gn gt gk w' s s' k ∧ Fn gn gt gk w w' ∧ Below lo w w' := by
  have hlo : lo ≤ w.heap.size := hT.lo_le
  have HLO := Lib.hid hlo
  have hnt := hT.nat
  have fr := Fn.refl gn gt gk w
  have HM := Lib.hid hm
  clear hm
  have bel := Below.refl lo w
  go_enter Tryz.func34, Tryz.ntmps34
  by_cases hg : tcErr fl pt 6 a0 a1 a2 a3 b0 b1 b2 b3 lb = 0
  rotate_left
  · obtain ⟨er, her⟩ : ∃ er, tcErr fl pt 6 a0 a1 a2 a3 b0 b1 b2 b3 lb = er := ⟨_, rfl⟩
    rw [her] at hg
    have HG := Lib.hid her
    have HNR := Lib.hid hg
    have q1_ : (er == 0) = false := beq_eq_false_iff_ne.2 hg
    have q2_ : (er != 0) = true := bne_iff_ne.2 hg
    clear her hg
    go_wp2_with (first | ((with_reducible show wpList _ _ _ (⟨some 4, _, _, _, _, _⟩ :: _) _ _); refine wpList_box_n rfl 38 (.tmp 1) rfl #[.int .i64 tos, .int .i64 id, .int .i64 fl, .int .i64 pt, .int .i64 ttl, .int .i64 6, .int .u8 (a0.toNat : Int), .int .u8 (a1.toNat : Int), .int .u8 (a2.toNat : Int), .int .u8 (a3.toNat : Int), .int .u8 (b0.toNat : Int), .int .u8 (b1.toNat : Int), .int .u8 (b2.toNat : Int), .int .u8 (b3.toNat : Int), .slice So no co, .slice Sb nb cb] rfl ?_; intro g4 w1 ge lt hh bb; have ap_pB := hT.ap ge; have d_nt_pB := ne_new (hlt hnt) ge; have av_pb_pB := pb.av_new ge; have opB := Nat.le_trans (Nat.le_trans hlo bel.size) ge; have ppB := Nat.le_trans bel.size ge; replace hnt := blk_u hnt bb; replace pb := pb.below bb; replace hT := hT.below bb; replace fr := fr.below bb; replace ap_pB := ap_pB.below bb; replace bel := bel.trans (bb.mono (Nat.le_trans hlo bel.size)); have hpB := hh; clear hh lt ge bb) | ((with_reducible show wpList _ _ _ (⟨some 6, _, _, _, _, _⟩ :: _) _ _); refine wpList_new_a rfl 38 rfl #[.int .i64 0, .int .i64 0, .int .i64 0, .int .i64 0, .int .i64 0, .int .i64 0, .int .u8 0, .int .u8 0, .int .u8 0, .int .u8 0, .int .u8 0, .int .u8 0, .int .u8 0, .int .u8 0, .slice none 0 0, .slice none 0 0] (by kernel_rfl) ?_; intro g6 w2 ge hh bb; have ap_rB := hT.ap ge; have d_nt_rB := ne_new (hlt hnt) ge; have d_pB_rB := ne_new (hlt hpB) ge; have av_pb_rB := pb.av_new ge; have orB := Nat.le_trans (Nat.le_trans hlo bel.size) ge; have prB := Nat.le_trans bel.size ge; replace hnt := blk_u hnt bb; replace hpB := blk_u hpB bb; replace pb := pb.below bb; replace hT := hT.below bb; replace fr := fr.below bb; replace ap_pB := ap_pB.below bb; replace ap_rB := ap_rB.below bb; replace bel := bel.trans (bb.mono (Nat.le_trans hlo bel.size)); have hrB := hh; clear hh ge bb; have R13 := Lib.hid (range_lit hpB 0 16 [.int .i64 tos, .int .i64 id, .int .i64 fl, .int .i64 pt, .int .i64 ttl, .int .i64 6, .int .u8 (a0.toNat : Int), .int .u8 (a1.toNat : Int), .int .u8 (a2.toNat : Int), .int .u8 (a3.toNat : Int), .int .u8 (b0.toNat : Int), .int .u8 (b1.toNat : Int), .int .u8 (b2.toNat : Int), .int .u8 (b3.toNat : Int), .slice So no co, .slice Sb nb cb] rfl)) | ((with_reducible show wpList _ _ _ (⟨some 13, _, _, _, _, _⟩ :: _) _ _); refine wpList_load_rng 38 (.tmp 4) rfl (by kernel_rfl) _ _ rfl _ R13.out _ Tryz.underlying38 rfl (by kernel_rfl) ?_))
    try clear R13
    with_reducible refine (tcget_er _ _ _ _ _ _ _ _ _ _ _ _ _ _ _ _ _ _ _ _  pb HM.out HG.out).mono ?_
    rintro e w3 ⟨x0, x1, x2, x3, x4, x5, x6, Q, nq, cq, D, nd, cd, rfl, b3⟩
    replace hnt := blk_u hnt b3
    replace hpB := blk_u hpB b3
    replace hrB := blk_u hrB b3
    replace pb := pb.below b3
    replace hT := hT.below b3
    replace fr := fr.below b3
    replace ap_pB := ap_pB.below b3
    replace ap_rB := ap_rB.below b3
    replace bel := bel.trans (b3.mono (Nat.le_trans hlo bel.size))
    clear b3
    go_wp2_with (first | ((with_reducible show wpList _ _ _ (⟨some 8, _, _, _, _, _⟩ :: _) _ _); refine wpList_new_a rfl 105 rfl #[.int .i64 0, .int .i64 0, .int .u32 0, .int .u32 0, .int .i64 0, .int .i64 0, .int .i64 0, .slice none 0 0, .slice none 0 0] (by kernel_rfl) ?_; intro g8 w4 ge hh bb; have ap_sB := hT.ap ge; have d_nt_sB := ne_new (hlt hnt) ge; have d_pB_sB := ne_new (hlt hpB) ge; have d_rB_sB := ne_new (hlt hrB) ge; have av_pb_sB := pb.av_new ge; have osB := Nat.le_trans (Nat.le_trans hlo bel.size) ge; have psB := Nat.le_trans bel.size ge; replace hnt := blk_u hnt bb; replace hpB := blk_u hpB bb; replace hrB := blk_u hrB bb; replace pb := pb.below bb; replace hT := hT.below bb; replace fr := fr.below bb; replace ap_pB := ap_pB.below bb; replace ap_rB := ap_rB.below bb; replace ap_sB := ap_sB.below bb; replace bel := bel.trans (bb.mono (Nat.le_trans hlo bel.size)); have hsB := hh; clear hh ge bb) | ((with_reducible show wpList _ _ _ (⟨none, Op.store _ (.tmp 8) _, _, _, _, _⟩ :: _) _ _); refine wpList_store_blk rfl 105 (.tmp 8) (.tmp 15) rfl g8 rfl _ rfl _ 105 hsB (by rfl) (by kernel_rfl) (by kernel_rfl) ?_; intro w5 hq gr; replace pb := pb.away av_pb_sB gr; replace hnt := blk_a hnt gr d_nt_sB; replace hpB := blk_a hpB gr d_pB_sB; replace hrB := blk_a hrB gr d_rB_sB; replace hT := hT.away ap_sB gr hsB; replace fr := fr.newer ap_sB gr psB; replace ap_pB := ap_pB.grown ap_sB gr; replace ap_rB := ap_rB.grown ap_sB gr; replace ap_sB := ap_sB.grown ap_sB gr; replace bel := below_grown bel gr osB (Nat.le_trans hlo bel.size); clear hsB; have hsB := hq; clear hq gr) | ((with_reducible show wpList _ _ _ (⟨none, Op.store _ (.tmp 6) _, _, _, _, _⟩ :: _) _ _); refine wpList_store_blk rfl 38 (.tmp 6) (.tmp 19) rfl g6 rfl _ rfl _ 38 hrB (by rfl) (by kernel_rfl) (by kernel_rfl) ?_; intro w6 hq gr; replace pb := pb.away av_pb_rB gr; replace hnt := blk_a hnt gr d_nt_rB; replace hpB := blk_a hpB gr d_pB_rB; replace hsB := blk_a hsB gr (ne_symm d_rB_sB); replace hT := hT.away ap_rB gr hrB; replace fr := fr.newer ap_rB gr prB; replace ap_pB := ap_pB.grown ap_rB gr; replace ap_rB := ap_rB.grown ap_rB gr; replace ap_sB := ap_sB.grown ap_rB gr; replace bel := below_grown bel gr orB (Nat.le_trans hlo bel.size); clear hrB; have hrB := hq; clear hq gr))
    exact bodyPost_ret (results_cell_tmp_row rfl _ _ _ _ _ _ _ rfl hrB Tryz.underlying38 rfl (by kernel_rfl) (.int .i64 er) rfl) rfl ⟨er, rfl, HNR.out, Or.inl hT, fr, bel⟩
  have HG := Lib.hid hg
  clear hg
  go_wp2_with (first | ((with_reducible show wpList _ _ _ (⟨some 4, _, _, _, _, _⟩ :: _) _ _); refine wpList_box_n rfl 38 (.tmp 1) rfl #[.int .i64 tos, .int .i64 id, .int .i64 fl, .int .i64 pt, .int .i64 ttl, .int .i64 6, .int .u8 (a0.toNat : Int), .int .u8 (a1.toNat : Int), .int .u8 (a2.toNat : Int), .int .u8 (a3.toNat : Int), .int .u8 (b0.toNat : Int), .int .u8 (b1.toNat : Int), .int .u8 (b2.toNat : Int), .int .u8 (b3.toNat : Int), .slice So no co, .slice Sb nb cb] rfl ?_; intro g4 w1 ge lt hh bb; have ap_pB := hT.ap ge; have d_nt_pB := ne_new (hlt hnt) ge; have av_pb_pB := pb.av_new ge; have opB := Nat.le_trans (Nat.le_trans hlo bel.size) ge; have ppB := Nat.le_trans bel.size ge; replace hnt := blk_u hnt bb; replace pb := pb.below bb; replace hT := hT.below bb; replace fr := fr.below bb; replace ap_pB := ap_pB.below bb; replace bel := bel.trans (bb.mono (Nat.le_trans hlo bel.size)); have hpB := hh; clear hh lt ge bb) | ((with_reducible show wpList _ _ _ (⟨some 6, _, _, _, _, _⟩ :: _) _ _); refine wpList_new_a rfl 38 rfl #[.int .i64 0, .int .i64 0, .int .i64 0, .int .i64 0, .int .i64 0, .int .i64 0, .int .u8 0, .int .u8 0, .int .u8 0, .int .u8 0, .int .u8 0, .int .u8 0, .int .u8 0, .int .u8 0, .slice none 0 0, .slice none 0 0] (by kernel_rfl) ?_; intro g6 w2 ge hh bb; have ap_rB := hT.ap ge; have d_nt_rB := ne_new (hlt hnt) ge; have d_pB_rB := ne_new (hlt hpB) ge; have av_pb_rB := pb.av_new ge; have orB := Nat.le_trans (Nat.le_trans hlo bel.size) ge; have prB := Nat.le_trans bel.size ge; replace hnt := blk_u hnt bb; replace hpB := blk_u hpB bb; replace pb := pb.below bb; replace hT := hT.below bb; replace fr := fr.below bb; replace ap_pB := ap_pB.below bb; replace ap_rB := ap_rB.below bb; replace bel := bel.trans (bb.mono (Nat.le_trans hlo bel.size)); have hrB := hh; clear hh ge bb; have R13 := Lib.hid (range_lit hpB 0 16 [.int .i64 tos, .int .i64 id, .int .i64 fl, .int .i64 pt, .int .i64 ttl, .int .i64 6, .int .u8 (a0.toNat : Int), .int .u8 (a1.toNat : Int), .int .u8 (a2.toNat : Int), .int .u8 (a3.toNat : Int), .int .u8 (b0.toNat : Int), .int .u8 (b1.toNat : Int), .int .u8 (b2.toNat : Int), .int .u8 (b3.toNat : Int), .slice So no co, .slice Sb nb cb] rfl)) | ((with_reducible show wpList _ _ _ (⟨some 13, _, _, _, _, _⟩ :: _) _ _); refine wpList_load_rng 38 (.tmp 4) rfl (by kernel_rfl) _ _ rfl _ R13.out _ Tryz.underlying38 rfl (by kernel_rfl) ?_))
  try clear R13
  with_reducible refine (tcget_to _ _ _ _ _ _ _ _ _ _ _ _ _ _ _ _ _ _ _ _  pb HM.out HG.out).mono ?_
  rintro e w3 ⟨x0, x1, x2, x3, x4, x5, x6, Q, nq, cq, D, nd, cd, rfl, HX1, b3⟩
  replace hnt := blk_u hnt b3
  replace hpB := blk_u hpB b3
  replace hrB := blk_u hrB b3
  replace pb := pb.below b3
  replace hT := hT.below b3
  replace fr := fr.below b3
  replace ap_pB := ap_pB.below b3
  replace ap_rB := ap_rB.below b3
  replace bel := bel.trans (b3.mono (Nat.le_trans hlo bel.size))
  clear b3
  go_wp2_with (first | ((with_reducible show wpList _ _ _ (⟨some 8, _, _, _, _, _⟩ :: _) _ _); refine wpList_new_a rfl 105 rfl #[.int .i64 0, .int .i64 0, .int .u32 0, .int .u32 0, .int .i64 0, .int .i64 0, .int .i64 0, .slice none 0 0, .slice none 0 0] (by kernel_rfl) ?_; intro g8 w4 ge hh bb; have ap_sB := hT.ap ge; have d_nt_sB := ne_new (hlt hnt) ge; have d_pB_sB := ne_new (hlt hpB) ge; have d_rB_sB := ne_new (hlt hrB) ge; have av_pb_sB := pb.av_new ge; have osB := Nat.le_trans (Nat.le_trans hlo bel.size) ge; have psB := Nat.le_trans bel.size ge; replace hnt := blk_u hnt bb; replace hpB := blk_u hpB bb; replace hrB := blk_u hrB bb; replace pb := pb.below bb; replace hT := hT.below bb; replace fr := fr.below bb; replace ap_pB := ap_pB.below bb; replace ap_rB := ap_rB.below bb; replace ap_sB := ap_sB.below bb; replace bel := bel.trans (bb.mono (Nat.le_trans hlo bel.size)); have hsB := hh; clear hh ge bb) | ((with_reducible show wpList _ _ _ (⟨none, Op.store _ (.tmp 8) _, _, _, _, _⟩ :: _) _ _); refine wpList_store_blk rfl 105 (.tmp 8) (.tmp 15) rfl g8 rfl _ rfl _ 105 hsB (by rfl) (by kernel_rfl) (by kernel_rfl) ?_; intro w5 hq gr; replace pb := pb.away av_pb_sB gr; replace hnt := blk_a hnt gr d_nt_sB; replace hpB := blk_a hpB gr d_pB_sB; replace hrB := blk_a hrB gr d_rB_sB; replace hT := hT.away ap_sB gr hsB; replace fr := fr.newer ap_sB gr psB; replace ap_pB := ap_pB.grown ap_sB gr; replace ap_rB := ap_rB.grown ap_sB gr; replace ap_sB := ap_sB.grown ap_sB gr; replace bel := below_grown bel gr osB (Nat.le_trans hlo bel.size); clear hsB; have hsB := hq; clear hq gr; have R24 := cell_lit hsB 1 _ rfl))
  try clear R24
  with_reducible refine (nat_none _ hT (hc _ _ (okP_mk (by decide) (by decide) HX1.out.1 HX1.out.2))).mono ?_
  rintro e w6 ⟨rfl, hT_, f_, bb⟩
  clear hnt
  have x_ := f_ _ _ _ _ hpB ap_pB
  replace hpB := x_.1
  replace ap_pB := x_.2
  clear x_
  have x_ := f_ _ _ _ _ hrB ap_rB
  replace hrB := x_.1
  replace ap_rB := x_.2
  clear x_
  have x_ := f_ _ _ _ _ hsB ap_sB
  replace hsB := x_.1
  replace ap_sB := x_.2
  clear x_
  clear pb
  replace fr := fr.trans f_
  clear hT
  have hT := hT_
  replace bel := bel.trans bb
  clear bb f_ hT_
  have hnt := hT.nat
  go_wp2_with (first | ((with_reducible show wpList _ _ _ (⟨some 10, _, _, _, _, _⟩ :: _) _ _); refine wpList_new_a rfl 65 rfl #[.int .i64 0, .int .i64 0, .int .u8 0, .int .u8 0, .int .u8 0, .int .u8 0, .int .i64 0, .int .i64 0, .int .i64 0] (by kernel_rfl) ?_; intro g10 w7 ge hh bb; have ap_mB := hT.ap ge; have d_pB_mB := ne_new (hlt hpB) ge; have d_rB_mB := ne_new (hlt hrB) ge; have d_sB_mB := ne_new (hlt hsB) ge; have d_nt_mB := ne_new (hlt hnt) ge; have omB := Nat.le_trans (Nat.le_trans hlo bel.size) ge; have pmB := Nat.le_trans bel.size ge; replace hpB := blk_u hpB bb; replace hrB := blk_u hrB bb; replace hsB := blk_u hsB bb; replace hnt := blk_u hnt bb; replace hT := hT.below bb; replace fr := fr.below bb; replace ap_pB := ap_pB.below bb; replace ap_rB := ap_rB.below bb; replace ap_sB := ap_sB.below bb; replace ap_mB := ap_mB.below bb; replace bel := bel.trans (bb.mono (Nat.le_trans hlo bel.size)); have hmB := hh; clear hh ge bb) | ((with_reducible show wpList _ _ _ (⟨none, Op.store _ (.tmp 10) _, _, _, _, _⟩ :: _) _ _); refine wpList_store_blk rfl 65 (.tmp 10) (.tmp 27) rfl g10 rfl _ rfl _ 65 hmB (by rfl) (by kernel_rfl) (by kernel_rfl) ?_; intro w8 hq gr; replace hpB := blk_a hpB gr d_pB_mB; replace hrB := blk_a hrB gr d_rB_mB; replace hsB := blk_a hsB gr d_sB_mB; replace hnt := blk_a hnt gr d_nt_mB; replace hT := hT.away ap_mB gr hmB; replace fr := fr.newer ap_mB gr pmB; replace ap_pB := ap_pB.grown ap_mB gr; replace ap_rB := ap_rB.grown ap_mB gr; replace ap_sB := ap_sB.grown ap_mB gr; replace ap_mB := ap_mB.grown ap_mB gr; replace bel := below_grown bel gr omB (Nat.le_trans hlo bel.size); clear hmB; have hmB := hq; clear hq gr) | ((with_reducible show wpList _ _ _ (⟨none, Op.store _ (.tmp 6) _, _, _, _, _⟩ :: _) _ _); refine wpList_store_blk rfl 38 (.tmp 6) (.tmp 31) rfl g6 rfl _ rfl _ 38 hrB (by rfl) (by kernel_rfl) (by kernel_rfl) ?_; intro w9 hq gr; replace hpB := blk_a hpB gr d_pB_rB; replace hsB := blk_a hsB gr (ne_symm d_rB_sB); replace hnt := blk_a hnt gr d_nt_rB; replace hmB := blk_a hmB gr (ne_symm d_rB_mB); replace hT := hT.away ap_rB gr hrB; replace fr := fr.newer ap_rB gr prB; replace ap_pB := ap_pB.grown ap_rB gr; replace ap_rB := ap_rB.grown ap_rB gr; replace ap_sB := ap_sB.grown ap_rB gr; replace ap_mB := ap_mB.grown ap_rB gr; replace bel := below_grown bel gr orB (Nat.le_trans hlo bel.size); clear hrB; have hrB := hq; clear hq gr))
  exact bodyPost_ret (results_cell_tmp_row rfl _ _ _ _ _ _ _ rfl hrB Tryz.underlying38 rfl (by kernel_rfl) (.int .i64 6) rfl) rfl ⟨6, rfl, (by decide), Or.inr hT, fr, bel⟩
set_option linter.unusedVariables false in
set_option linter.unusedVariables false in
set_option linter.unusedSimpArgs false in
set_option maxRecDepth 100000 in
set_option maxHeartbeats 16000000 in
theorem nin_tq {lo gn gt gk : Nat} {s : Ts} {k : Ks} {s' : Ts} {tos id fl pt ttl : Int} {a0 a1 a2 a3 b0 b1 b2 b3 : UInt8} {So Sb : Option Addr} {no co nb cb : Nat} {lp lb : List UInt8} {t : Int} (w : World) (hT : Np lo gn gt gk w s k) (pb : Sl w Sb nb cb lb) (hm : nb ≤ 100000) (hw : (decide (pt = 0) && decide (fl % 2 = 0)) = true) (hc : ∀ pr o, okP pr o → InE lo gt s s' pr o t)  : Calls Tryz.prog 14 #[.pointer (some ⟨gn, 0, none⟩), .agg #[.int .i64 tos, .int .i64 id, .int .i64 fl, .int .i64 pt, .int .i64 ttl, .int .i64 6, .int .u8 (a0.toNat : Int), .int .u8 (a1.toNat : Int), .int .u8 (a2.toNat : Int), .int .u8 (a3.toNat : Int), .int .u8 (b0.toNat : Int), .int .u8 (b1.toNat : Int), .int .u8 (b2.toNat : Int), .int .u8 (b3.toNat : Int), .slice So no co, .slice Sb nb cb], .agg #[.int .u8 (b0.toNat : Int), .int .u8 (b1.toNat : Int), .int .u8 (b2.toNat : Int), .int .u8 (b3.toNat : Int)], .int .i64 t] w fun e w' => ∃ r, e = .returned (.tuple #[.agg #[.int .i64 0, .int .i64 0, .int .i64 0, .int .i64 0, .int .i64 0, .int .i64 0, .int .u8 0, .int .u8 0, .int .u8 0, .int .u8 0, .int .u8 0, .int .u8 0, .int .u8 0, .int .u8 0, .slice none 0 0, .slice none 0 0], .int .i64 r]) ∧ r ≠ 0 ∧ Nq lo gn gt gk w' s s' k ∧ Fn gn gt gk w w' ∧ Below lo w w' := by
  have hlo : lo ≤ w.heap.size := hT.lo_le
  have HLO := Lib.hid hlo
  have hnt := hT.nat
  have fr := Fn.refl gn gt gk w
  have hab : ∀ W, (binOp .neq 35 (.agg #[.int .u8 (b0.toNat : Int), .int .u8 (b1.toNat : Int), .int .u8 (b2.toNat : Int), .int .u8 (b3.toNat : Int)]) (.agg #[.int .u8 (b0.toNat : Int), .int .u8 (b1.toNat : Int), .int .u8 (b2.toNat : Int), .int .u8 (b3.toNat : Int)])).run Tryz.prog W = .ok (.bool false) W := fun W => by have h_ := nea_b ⟨b0, b1, b2, b3⟩ ⟨b0, b1, b2, b3⟩ W; rw [Ad4.eqB_self] at h_; exact h_
  have HW := Lib.hid hw
  clear hw
  have HM := Lib.hid hm
  clear hm
  have bel := Below.refl lo w
  go_enter Tryz.func14, Tryz.ntmps14
  go_wp2_with (first | ((with_reducible show wpList _ _ _ (⟨some 5, _, _, _, _, _⟩ :: _) _ _); refine wpList_box_n rfl 38 (.tmp 1) rfl #[.int .i64 tos, .int .i64 id, .int .i64 fl, .int .i64 pt, .int .i64 ttl, .int .i64 6, .int .u8 (a0.toNat : Int), .int .u8 (a1.toNat : Int), .int .u8 (a2.toNat : Int), .int .u8 (a3.toNat : Int), .int .u8 (b0.toNat : Int), .int .u8 (b1.toNat : Int), .int .u8 (b2.toNat : Int), .int .u8 (b3.toNat : Int), .slice So no co, .slice Sb nb cb] rfl ?_; intro g5 w1 ge lt hh bb; have ap_pB := hT.ap ge; have d_nt_pB := ne_new (hlt hnt) ge; have av_pb_pB := pb.av_new ge; have opB := Nat.le_trans (Nat.le_trans hlo bel.size) ge; have ppB := Nat.le_trans bel.size ge; replace hnt := blk_u hnt bb; replace pb := pb.below bb; replace hT := hT.below bb; replace fr := fr.below bb; replace ap_pB := ap_pB.below bb; replace bel := bel.trans (bb.mono (Nat.le_trans hlo bel.size)); have hpB := hh; clear hh lt ge bb) | ((with_reducible show wpList _ _ _ (⟨some 6, _, _, _, _, _⟩ :: _) _ _); refine wpList_box_n rfl 35 (.tmp 2) rfl #[.int .u8 (b0.toNat : Int), .int .u8 (b1.toNat : Int), .int .u8 (b2.toNat : Int), .int .u8 (b3.toNat : Int)] rfl ?_; intro g6 w2 ge lt hh bb; have ap_wB := hT.ap ge; have d_nt_wB := ne_new (hlt hnt) ge; have d_pB_wB := ne_new (hlt hpB) ge; have av_pb_wB := pb.av_new ge; have owB := Nat.le_trans (Nat.le_trans hlo bel.size) ge; have pwB := Nat.le_trans bel.size ge; replace hnt := blk_u hnt bb; replace hpB := blk_u hpB bb; replace pb := pb.below bb; replace hT := hT.below bb; replace fr := fr.below bb; replace ap_pB := ap_pB.below bb; replace ap_wB := ap_wB.below bb; replace bel := bel.trans (bb.mono (Nat.le_trans hlo bel.size)); have hwB := hh; clear hh lt ge bb) | ((with_reducible show wpList _ _ _ (⟨some 8, _, _, _, _, _⟩ :: _) _ _); refine wpList_new_a rfl 38 rfl #[.int .i64 0, .int .i64 0, .int .i64 0, .int .i64 0, .int .i64 0, .int .i64 0, .int .u8 0, .int .u8 0, .int .u8 0, .int .u8 0, .int .u8 0, .int .u8 0, .int .u8 0, .int .u8 0, .slice none 0 0, .slice none 0 0] (by kernel_rfl) ?_; intro g8 w3 ge hh bb; have ap_rB := hT.ap ge; have d_nt_rB := ne_new (hlt hnt) ge; have d_pB_rB := ne_new (hlt hpB) ge; have d_wB_rB := ne_new (hlt hwB) ge; have av_pb_rB := pb.av_new ge; have orB := Nat.le_trans (Nat.le_trans hlo bel.size) ge; have prB := Nat.le_trans bel.size ge; replace hnt := blk_u hnt bb; replace hpB := blk_u hpB bb; replace hwB := blk_u hwB bb; replace pb := pb.below bb; replace hT := hT.below bb; replace fr := fr.below bb; replace ap_pB := ap_pB.below bb; replace ap_wB := ap_wB.below bb; replace ap_rB := ap_rB.below bb; replace bel := bel.trans (bb.mono (Nat.le_trans hlo bel.size)); have hrB := hh; clear hh ge bb; have R11 := Lib.hid (range_lit hpB 10 4 [.int .u8 (b0.toNat : Int), .int .u8 (b1.toNat : Int), .int .u8 (b2.toNat : Int), .int .u8 (b3.toNat : Int)] rfl)) | ((with_reducible show wpList _ _ _ (⟨some 11, _, _, _, _, _⟩ :: _) _ _); refine wpList_load_rng 35 (.tmp 10) rfl (by kernel_rfl) _ _ rfl _ R11.out _ Tryz.underlying35 rfl (by kernel_rfl) ?_; have R12 := Lib.hid (range_lit hwB 0 4 [.int .u8 (b0.toNat : Int), .int .u8 (b1.toNat : Int), .int .u8 (b2.toNat : Int), .int .u8 (b3.toNat : Int)] rfl)) | ((with_reducible show wpList _ _ _ (⟨some 12, _, _, _, _, _⟩ :: _) _ _); refine wpList_load_rng 35 (.tmp 6) rfl (by kernel_rfl) _ _ rfl _ R12.out _ Tryz.underlying35 rfl (by kernel_rfl) ?_; have R15 := Lib.hid (range_lit hpB 0 16 [.int .i64 tos, .int .i64 id, .int .i64 fl, .int .i64 pt, .int .i64 ttl, .int .i64 6, .int .u8 (a0.toNat : Int), .int .u8 (a1.toNat : Int), .int .u8 (a2.toNat : Int), .int .u8 (a3.toNat : Int), .int .u8 (b0.toNat : Int), .int .u8 (b1.toNat : Int), .int .u8 (b2.toNat : Int), .int .u8 (b3.toNat : Int), .slice So no co, .slice Sb nb cb] rfl)) | ((with_reducible show wpList _ _ _ (⟨some 15, _, _, _, _, _⟩ :: _) _ _); refine wpList_load_rng 38 (.tmp 5) rfl (by kernel_rfl) _ _ rfl _ R15.out _ Tryz.underlying38 rfl (by kernel_rfl) ?_))
  try clear R11
  try clear R12
  try clear R15
  with_reducible refine (ipwhole_any _ _ _ _ _ _ _ _ _ _ _ _ _ _ _ _ _ _ _ _ _ ).mono ?_
  rintro e w4 ⟨rfl, b4⟩
  replace hnt := blk_u hnt b4
  replace hpB := blk_u hpB b4
  replace hwB := blk_u hwB b4
  replace hrB := blk_u hrB b4
  replace pb := pb.below b4
  replace hT := hT.below b4
  replace fr := fr.below b4
  replace ap_pB := ap_pB.below b4
  replace ap_wB := ap_wB.below b4
  replace ap_rB := ap_rB.below b4
  replace bel := bel.trans (b4.mono (Nat.le_trans hlo bel.size))
  clear b4
  rw [HW.out]
  have R20 := cell_lit hpB 5 _ rfl
  have R32 := Lib.hid (range_lit hpB 0 16 [.int .i64 tos, .int .i64 id, .int .i64 fl, .int .i64 pt, .int .i64 ttl, .int .i64 6, .int .u8 (a0.toNat : Int), .int .u8 (a1.toNat : Int), .int .u8 (a2.toNat : Int), .int .u8 (a3.toNat : Int), .int .u8 (b0.toNat : Int), .int .u8 (b1.toNat : Int), .int .u8 (b2.toNat : Int), .int .u8 (b3.toNat : Int), .slice So no co, .slice Sb nb cb] rfl)
  go_wp2_with (first | ((with_reducible show wpList _ _ _ (⟨some 32, _, _, _, _, _⟩ :: _) _ _); refine wpList_load_rng 38 (.tmp 5) rfl (by kernel_rfl) _ _ rfl _ R32.out _ Tryz.underlying38 rfl (by kernel_rfl) ?_))
  try clear R20
  try clear R32
  with_reducible refine (nseg_any (lp := lp) _ hT pb HM.out hc).mono ?_
  rintro e w5 ⟨r, rfl, HNR, hT_, f_, bb⟩
  clear hnt
  have x_ := f_ _ _ _ _ hpB ap_pB
  replace hpB := x_.1
  replace ap_pB := x_.2
  clear x_
  have x_ := f_ _ _ _ _ hwB ap_wB
  replace hwB := x_.1
  replace ap_wB := x_.2
  clear x_
  have x_ := f_ _ _ _ _ hrB ap_rB
  replace hrB := x_.1
  replace ap_rB := x_.2
  clear x_
  clear pb
  replace fr := fr.trans f_
  clear hT
  have hT := hT_
  replace bel := bel.trans bb
  clear bb f_ hT_
  have hnt := hT.nat
  replace HNR := Lib.hid HNR
  go_wp2_with (first | ((with_reducible show wpList _ _ _ (⟨none, Op.store _ (.tmp 8) _, _, _, _, _⟩ :: _) _ _); refine wpList_store_blk rfl 38 (.tmp 8) (.tmp 35) rfl g8 rfl _ rfl _ 38 hrB (by rfl) (by kernel_rfl) (by kernel_rfl) ?_; intro w6 hq gr; replace hpB := blk_a hpB gr d_pB_rB; replace hwB := blk_a hwB gr d_wB_rB; replace hnt := blk_a hnt gr d_nt_rB; replace hT := hT.away ap_rB gr hrB; replace fr := fr.newer ap_rB gr prB; replace ap_pB := ap_pB.grown ap_rB gr; replace ap_wB := ap_wB.grown ap_rB gr; replace ap_rB := ap_rB.grown ap_rB gr; replace bel := below_grown bel gr orB (Nat.le_trans hlo bel.size); clear hrB; have hrB := hq; clear hq gr))
  exact bodyPost_ret (results_cell_tmp_row rfl _ _ _ _ _ _ _ rfl hrB Tryz.underlying38 rfl (by kernel_rfl) (.int .i64 r) rfl) rfl ⟨r, rfl, HNR.out, hT, fr, bel⟩
set_option linter.unusedVariables false in
set_option linter.unusedVariables false in
set_option linter.unusedSimpArgs false in
set_option maxRecDepth 100000 in
set_option maxHeartbeats 16000000 in
theorem nin_mq {lo gn gt gk : Nat} {s : Ts} {k : Ks} {s' : Ts} {tos id fl pt ttl : Int} {a0 a1 a2 a3 b0 b1 b2 b3 : UInt8} {So Sb : Option Addr} {no co nb cb : Nat} {lp lb : List UInt8} {t : Int} (w : World) (hT : Np lo gn gt gk w s k) (pb : Sl w Sb nb cb lb) (hm : nb ≤ 100000) (hw : (decide (pt = 0) && decide (fl % 2 = 0)) = true) (hc : ∀ pr o, okP pr o → InE lo gt s s' pr o t)  : Calls Tryz.prog 14 #[.pointer (some ⟨gn, 0, none⟩), .agg #[.int .i64 tos, .int .i64 id, .int .i64 fl, .int .i64 pt, .int .i64 ttl, .int .i64 1, .int .u8 (a0.toNat : Int), .int .u8 (a1.toNat : Int), .int .u8 (a2.toNat : Int), .int .u8 (a3.toNat : Int), .int .u8 (b0.toNat : Int), .int .u8 (b1.toNat : Int), .int .u8 (b2.toNat : Int), .int .u8 (b3.toNat : Int), .slice So no co, .slice Sb nb cb], .agg #[.int .u8 (b0.toNat : Int), .int .u8 (b1.toNat : Int), .int .u8 (b2.toNat : Int), .int .u8 (b3.toNat : Int)], .int .i64 t] w fun e w' => ∃ r, e = .returned (.tuple #[.agg #[.int .i64 0, .int .i64 0, .int .i64 0, .int .i64 0, .int .i64 0, .int .i64 0, .int .u8 0, .int .u8 0, .int .u8 0, .int .u8 0, .int .u8 0, .int .u8 0, .int .u8 0, .int .u8 0, .slice none 0 0, .slice none 0 0], .int .i64 r]) ∧ r ≠ 0 ∧ Nq lo gn gt gk w' s s' k ∧ Fn gn gt gk w w' ∧ Below lo w w' := by
  have hlo : lo ≤ w.heap.size := hT.lo_le
  have HLO := Lib.hid hlo
  have hnt := hT.nat
  have fr := Fn.refl gn gt gk w
  have hab : ∀ W, (binOp .neq 35 (.agg #[.int .u8 (b0.toNat : Int), .int .u8 (b1.toNat : Int), .int .u8 (b2.toNat : Int), .int .u8 (b3.toNat : Int)]) (.agg #[.int .u8 (b0.toNat : Int), .int .u8 (b1.toNat : Int), .int .u8 (b2.toNat : Int), .int .u8 (b3.toNat : Int)])).run Tryz.prog W = .ok (.bool false) W := fun W => by have h_ := nea_b ⟨b0, b1, b2, b3⟩ ⟨b0, b1, b2, b3⟩ W; rw [Ad4.eqB_self] at h_; exact h_
  have HW := Lib.hid hw
  clear hw
  have HM := Lib.hid hm
  clear hm
  have bel := Below.refl lo w
  go_enter Tryz.func14, Tryz.ntmps14
  go_wp2_with (first | ((with_reducible show wpList _ _ _ (⟨some 5, _, _, _, _, _⟩ :: _) _ _); refine wpList_box_n rfl 38 (.tmp 1) rfl #[.int .i64 tos, .int .i64 id, .int .i64 fl, .int .i64 pt, .int .i64 ttl, .int .i64 1, .int .u8 (a0.toNat : Int), .int .u8 (a1.toNat : Int), .int .u8 (a2.toNat : Int), .int .u8 (a3.toNat : Int), .int .u8 (b0.toNat : Int), .int .u8 (b1.toNat : Int), .int .u8 (b2.toNat : Int), .int .u8 (b3.toNat : Int), .slice So no co, .slice Sb nb cb] rfl ?_; intro g5 w1 ge lt hh bb; have ap_pB := hT.ap ge; have d_nt_pB := ne_new (hlt hnt) ge; have av_pb_pB := pb.av_new ge; have opB := Nat.le_trans (Nat.le_trans hlo bel.size) ge; have ppB := Nat.le_trans bel.size ge; replace hnt := blk_u hnt bb; replace pb := pb.below bb; replace hT := hT.below bb; replace fr := fr.below bb; replace ap_pB := ap_pB.below bb; replace bel := bel.trans (bb.mono (Nat.le_trans hlo bel.size)); have hpB := hh; clear hh lt ge bb) | ((with_reducible show wpList _ _ _ (⟨some 6, _, _, _, _, _⟩ :: _) _ _); refine wpList_box_n rfl 35 (.tmp 2) rfl #[.int .u8 (b0.toNat : Int), .int .u8 (b1.toNat : Int), .int .u8 (b2.toNat : Int), .int .u8 (b3.toNat : Int)] rfl ?_; intro g6 w2 ge lt hh bb; have ap_wB := hT.ap ge; have d_nt_wB := ne_new (hlt hnt) ge; have d_pB_wB := ne_new (hlt hpB) ge; have av_pb_wB := pb.av_new ge; have owB := Nat.le_trans (Nat.le_trans hlo bel.size) ge; have pwB := Nat.le_trans bel.size ge; replace hnt := blk_u hnt bb; replace hpB := blk_u hpB bb; replace pb := pb.below bb; replace hT := hT.below bb; replace fr := fr.below bb; replace ap_pB := ap_pB.below bb; replace ap_wB := ap_wB.below bb; replace bel := bel.trans (bb.mono (Nat.le_trans hlo bel.size)); have hwB := hh; clear hh lt ge bb) | ((with_reducible show wpList _ _ _ (⟨some 8, _, _, _, _, _⟩ :: _) _ _); refine wpList_new_a rfl 38 rfl #[.int .i64 0, .int .i64 0, .int .i64 0, .int .i64 0, .int .i64 0, .int .i64 0, .int .u8 0, .int .u8 0, .int .u8 0, .int .u8 0, .int .u8 0, .int .u8 0, .int .u8 0, .int .u8 0, .slice none 0 0, .slice none 0 0] (by kernel_rfl) ?_; intro g8 w3 ge hh bb; have ap_rB := hT.ap ge; have d_nt_rB := ne_new (hlt hnt) ge; have d_pB_rB := ne_new (hlt hpB) ge; have d_wB_rB := ne_new (hlt hwB) ge; have av_pb_rB := pb.av_new ge; have orB := Nat.le_trans (Nat.le_trans hlo bel.size) ge; have prB := Nat.le_trans bel.size ge; replace hnt := blk_u hnt bb; replace hpB := blk_u hpB bb; replace hwB := blk_u hwB bb; replace pb := pb.below bb; replace hT := hT.below bb; replace fr := fr.below bb; replace ap_pB := ap_pB.below bb; replace ap_wB := ap_wB.below bb; replace ap_rB := ap_rB.below bb; replace bel := bel.trans (bb.mono (Nat.le_trans hlo bel.size)); have hrB := hh; clear hh ge bb; have R11 := Lib.hid (range_lit hpB 10 4 [.int .u8 (b0.toNat : Int), .int .u8 (b1.toNat : Int), .int .u8 (b2.toNat : Int), .int .u8 (b3.toNat : Int)] rfl)) | ((with_reducible show wpList _ _ _ (⟨some 11, _, _, _, _, _⟩ :: _) _ _); refine wpList_load_rng 35 (.tmp 10) rfl (by kernel_rfl) _ _ rfl _ R11.out _ Tryz.underlying35 rfl (by kernel_rfl) ?_; have R12 := Lib.hid (range_lit hwB 0 4 [.int .u8 (b0.toNat : Int), .int .u8 (b1.toNat : Int), .int .u8 (b2.toNat : Int), .int .u8 (b3.toNat : Int)] rfl)) | ((with_reducible show wpList _ _ _ (⟨some 12, _, _, _, _, _⟩ :: _) _ _); refine wpList_load_rng 35 (.tmp 6) rfl (by kernel_rfl) _ _ rfl _ R12.out _ Tryz.underlying35 rfl (by kernel_rfl) ?_; have R15 := Lib.hid (range_lit hpB 0 16 [.int .i64 tos, .int .i64 id, .int .i64 fl, .int .i64 pt, .int .i64 ttl, .int .i64 1, .int .u8 (a0.toNat : Int), .int .u8 (a1.toNat : Int), .int .u8 (a2.toNat : Int), .int .u8 (a3.toNat : Int), .int .u8 (b0.toNat : Int), .int .u8 (b1.toNat : Int), .int .u8 (b2.toNat : Int), .int .u8 (b3.toNat : Int), .slice So no co, .slice Sb nb cb] rfl)) | ((with_reducible show wpList _ _ _ (⟨some 15, _, _, _, _, _⟩ :: _) _ _); refine wpList_load_rng 38 (.tmp 5) rfl (by kernel_rfl) _ _ rfl _ R15.out _ Tryz.underlying38 rfl (by kernel_rfl) ?_))
  try clear R11
  try clear R12
  try clear R15
  with_reducible refine (ipwhole_any _ _ _ _ _ _ _ _ _ _ _ _ _ _ _ _ _ _ _ _ _ ).mono ?_
  rintro e w4 ⟨rfl, b4⟩
  replace hnt := blk_u hnt b4
  replace hpB := blk_u hpB b4
  replace hwB := blk_u hwB b4
  replace hrB := blk_u hrB b4
  replace pb := pb.below b4
  replace hT := hT.below b4
  replace fr := fr.below b4
  replace ap_pB := ap_pB.below b4
  replace ap_wB := ap_wB.below b4
  replace ap_rB := ap_rB.below b4
  replace bel := bel.trans (b4.mono (Nat.le_trans hlo bel.size))
  clear b4
  rw [HW.out]
  have R20 := cell_lit hpB 5 _ rfl
  have R40 := Lib.hid (range_lit hpB 0 16 [.int .i64 tos, .int .i64 id, .int .i64 fl, .int .i64 pt, .int .i64 ttl, .int .i64 1, .int .u8 (a0.toNat : Int), .int .u8 (a1.toNat : Int), .int .u8 (a2.toNat : Int), .int .u8 (a3.toNat : Int), .int .u8 (b0.toNat : Int), .int .u8 (b1.toNat : Int), .int .u8 (b2.toNat : Int), .int .u8 (b3.toNat : Int), .slice So no co, .slice Sb nb cb] rfl)
  go_wp2_with (first | ((with_reducible show wpList _ _ _ (⟨some 40, _, _, _, _, _⟩ :: _) _ _); refine wpList_load_rng 38 (.tmp 5) rfl (by kernel_rfl) _ _ rfl _ R40.out _ Tryz.underlying38 rfl (by kernel_rfl) ?_; have R41 := Lib.hid (range_lit hwB 0 4 [.int .u8 (b0.toNat : Int), .int .u8 (b1.toNat : Int), .int .u8 (b2.toNat : Int), .int .u8 (b3.toNat : Int)] rfl)) | ((with_reducible show wpList _ _ _ (⟨some 41, _, _, _, _, _⟩ :: _) _ _); refine wpList_load_rng 35 (.tmp 6) rfl (by kernel_rfl) _ _ rfl _ R41.out _ Tryz.underlying35 rfl (by kernel_rfl) ?_))
  try clear R20
  try clear R40
  try clear R41
  with_reducible refine (nmsgin_any (lp := lp) _ hT pb HM.out hc).mono ?_
  rintro e w5 ⟨r, rfl, HNR, hT_, f_, bb⟩
  clear hnt
  have x_ := f_ _ _ _ _ hpB ap_pB
  replace hpB := x_.1
  replace ap_pB := x_.2
  clear x_
  have x_ := f_ _ _ _ _ hwB ap_wB
  replace hwB := x_.1
  replace ap_wB := x_.2
  clear x_
  have x_ := f_ _ _ _ _ hrB ap_rB
  replace hrB := x_.1
  replace ap_rB := x_.2
  clear x_
  clear pb
  replace fr := fr.trans f_
  clear hT
  have hT := hT_
  replace bel := bel.trans bb
  clear bb f_ hT_
  have hnt := hT.nat
  replace HNR := Lib.hid HNR
  go_wp2_with (first | ((with_reducible show wpList _ _ _ (⟨none, Op.store _ (.tmp 8) _, _, _, _, _⟩ :: _) _ _); refine wpList_store_blk rfl 38 (.tmp 8) (.tmp 44) rfl g8 rfl _ rfl _ 38 hrB (by rfl) (by kernel_rfl) (by kernel_rfl) ?_; intro w6 hq gr; replace hpB := blk_a hpB gr d_pB_rB; replace hwB := blk_a hwB gr d_wB_rB; replace hnt := blk_a hnt gr d_nt_rB; replace hT := hT.away ap_rB gr hrB; replace fr := fr.newer ap_rB gr prB; replace ap_pB := ap_pB.grown ap_rB gr; replace ap_wB := ap_wB.grown ap_rB gr; replace ap_rB := ap_rB.grown ap_rB gr; replace bel := below_grown bel gr orB (Nat.le_trans hlo bel.size); clear hrB; have hrB := hq; clear hq gr))
  exact bodyPost_ret (results_cell_tmp_row rfl _ _ _ _ _ _ _ rfl hrB Tryz.underlying38 rfl (by kernel_rfl) (.int .i64 r) rfl) rfl ⟨r, rfl, HNR.out, hT, fr, bel⟩
open Go.RowKit

def sN (x : Int) : Ts := ⟨40000, 128, x, [], []⟩
theorem sN_adv (x t : Int) : (sN x).adv t = sN (padv x t) := by
  by_cases h : x < t ∧ t ≤ 1099511627776
  · have e : padv x t = t := if_pos h
    rw [Ts.adv_yes h.1 h.2, e]
    rfl
  · have e : padv x t = x := if_neg h
    rw [e]
    unfold Ts.adv
    exact if_neg h
theorem padv_twice (t : Int) : padv (padv 0 t) t = padv 0 t := by
  by_cases h : (0 : Int) < t ∧ t ≤ 1099511627776
  · have e : padv 0 t = t := if_pos h
    rw [e]
    exact if_neg (fun h => absurd h.1 (Int.lt_irrefl t))
  · have e : padv 0 t = 0 := if_neg h
    rw [e, e]
theorem shut_no {lo gt : Nat} {t pr o : Int} (h : okP pr o) : InE lo gt (sN 0) (sN (padv 0 t)) pr o t := fun W hT => in_none (s1 := sN (padv 0 t)) W hT (sN_adv 0 t) h rfl
theorem shut_len {lo gn gt gk : Nat} {t : Int} (w : World) (hT : Nq lo gn gt gk w (sN 0) (sN (padv 0 t)) nK0) : Calls Tryz.prog 26 #[.pointer (some ⟨gt, 0, none⟩), .int .i64 t] w fun e w' => e = .returned (.int .i64 0) ∧ Np lo gn gt gk w' (sN (padv 0 t)) nK0 ∧ Fn gn gt gk w w' ∧ Below lo w w' := by
  rcases hT with h | h
  · exact np_t h (len_is (s1 := sN (padv 0 t)) w h.tp (sN_adv 0 t) rfl)
  · exact np_t h (len_is (s1 := sN (padv 0 t)) w h.tp (by rw [sN_adv, padv_twice]) rfl)
set_option linter.unusedVariables false in
set_option maxRecDepth 100000 in
theorem shut_wan {lo gn gt gk : Nat} {tos id fl pt ttl pr t : Int} {a0 a1 a2 a3 : UInt8} {So Sb : Option Addr} {no co nb cb : Nat} {lp lb : List UInt8} (w : World) (hT : Np lo gn gt gk w (sN 0) nK0) (po : Sl w So no co lp) (pb : Sl w Sb nb cb lb) (an_po : An gn gt gk w So no) (hm : nb ≤ 100000) (hno : no ≤ 100000) : Calls Tryz.prog 14 #[.pointer (some ⟨gn, 0, none⟩), .agg #[.int .i64 tos, .int .i64 id, .int .i64 fl, .int .i64 pt, .int .i64 ttl, .int .i64 pr, .int .u8 (a0.toNat : Int), .int .u8 (a1.toNat : Int), .int .u8 (a2.toNat : Int), .int .u8 (a3.toNat : Int), .int .u8 203, .int .u8 0, .int .u8 113, .int .u8 7, .slice So no co, .slice Sb nb cb], .agg #[.int .u8 203, .int .u8 0, .int .u8 113, .int .u8 7], .int .i64 t] w fun e w' => ∃ r, e = .returned (.tuple #[.agg #[.int .i64 0, .int .i64 0, .int .i64 0, .int .i64 0, .int .i64 0, .int .i64 0, .int .u8 0, .int .u8 0, .int .u8 0, .int .u8 0, .int .u8 0, .int .u8 0, .int .u8 0, .int .u8 0, .slice none 0 0, .slice none 0 0], .int .i64 r]) ∧ r ≠ 0 ∧ Nq lo gn gt gk w' (sN 0) (sN (padv 0 t)) nK0 ∧ Fn gn gt gk w w' ∧ Below lo w w' := by
  have hc : ∀ pr o, okP pr o → InE lo gt (sN 0) (sN (padv 0 t)) pr o t := fun pr o h => shut_no h
  rcases hw : (decide (pt = 0) && decide (fl % 2 = 0)) with _ | _
  · have h_ := nin_frag (t := t) (pr := pr) (lp := lp) (lb := lb) (tos := tos) (id := id) (ttl := ttl) (a0 := a0) (a1 := a1) (a2 := a2) (a3 := a3) (So := So) (no := no) (co := co) (Sb := Sb) (nb := nb) (cb := cb) (b0 := 203) (b1 := 0) (b2 := 113) (b3 := 7) w hT hw
    refine h_.mono ?_
    rintro e w' ⟨rfl, h1, h2, h3⟩
    exact ⟨10, rfl, by decide, .inl h1, h2, h3⟩
  by_cases n17 : pr = 17
  · subst n17
    by_cases he : udErr fl pt 17 a0 a1 a2 a3 203 0 113 7 lb = 0
    · have hg : udGet fl pt 17 a0 a1 a2 a3 203 0 113 7 lb = ((((be (lb.take 2) : Nat) : Int), ((be ((lb.drop 2).take 2) : Nat) : Int)), (lb.drop 8).take (be ((lb.drop 4).take 2) - 8), 0) := by
        unfold udGet
        rw [if_neg (not_not_intro he)]
      have hb := be_pr (lb.drop 2)
      have h_ := nin_uno (t := t) (tos := tos) (id := id) (ttl := ttl) (a0 := a0) (a1 := a1) (a2 := a2) (a3 := a3) (So := So) (no := no) (co := co) (Sb := Sb) (nb := nb) (cb := cb) (b0 := 203) (b1 := 0) (b2 := 113) (b3 := 7) w hT po pb an_po hm hno hw hg rfl (hc 17 _ (okP_mk (by decide) (by decide) hb.1 hb.2))
      refine h_.mono ?_
      rintro e w' ⟨rfl, h1, h2, h3⟩
      exact ⟨6, rfl, by decide, .inr h1, h2, h3⟩
    · have h_ := nin_uer (t := t) (tos := tos) (id := id) (ttl := ttl) (a0 := a0) (a1 := a1) (a2 := a2) (a3 := a3) (So := So) (no := no) (co := co) (Sb := Sb) (nb := nb) (cb := cb) (b0 := 203) (b1 := 0) (b2 := 113) (b3 := 7) w hT po pb an_po hm hno hw rfl he
      refine h_.mono ?_
      rintro e w' ⟨rfl, h1, h2, h3⟩
      exact ⟨_, rfl, he, .inl h1, h2, h3⟩
  by_cases n6 : pr = 6
  · subst n6
    have h_ := nin_tq (t := t) (lp := lp) (tos := tos) (id := id) (ttl := ttl) (a0 := a0) (a1 := a1) (a2 := a2) (a3 := a3) (So := So) (no := no) (co := co) (Sb := Sb) (nb := nb) (cb := cb) (b0 := 203) (b1 := 0) (b2 := 113) (b3 := 7) w hT pb hm hw hc
    exact h_
  by_cases n1 : pr = 1
  · subst n1
    have h_ := nin_mq (t := t) (lp := lp) (tos := tos) (id := id) (ttl := ttl) (a0 := a0) (a1 := a1) (a2 := a2) (a3 := a3) (So := So) (no := no) (co := co) (Sb := Sb) (nb := nb) (cb := cb) (b0 := 203) (b1 := 0) (b2 := 113) (b3 := 7) w hT pb hm hw hc
    exact h_
  have h_ := nin_other (t := t) (lp := lp) (lb := lb) (tos := tos) (id := id) (ttl := ttl) (a0 := a0) (a1 := a1) (a2 := a2) (a3 := a3) (So := So) (no := no) (co := co) (Sb := Sb) (nb := nb) (cb := cb) (b0 := 203) (b1 := 0) (b2 := 113) (b3 := 7) w hT hw n17 n6 n1
  refine h_.mono ?_
  rintro e w' ⟨rfl, h1, h2, h3⟩
  exact ⟨11, rfl, by decide, .inl h1, h2, h3⟩
set_option linter.unusedVariables false in
set_option maxRecDepth 100000 in
theorem shut_in {lo gn gt gk : Nat} {tos id fl pt ttl pr t : Int} {a0 a1 a2 a3 b0 b1 b2 b3 : UInt8} {So Sb : Option Addr} {no co nb cb : Nat} {lp lb : List UInt8} (w : World) (hT : Np lo gn gt gk w (sN 0) nK0) (po : Sl w So no co lp) (pb : Sl w Sb nb cb lb) (an_po : An gn gt gk w So no) (hm : nb ≤ 100000) (hno : no ≤ 100000) : Calls Tryz.prog 14 #[.pointer (some ⟨gn, 0, none⟩), .agg #[.int .i64 tos, .int .i64 id, .int .i64 fl, .int .i64 pt, .int .i64 ttl, .int .i64 pr, .int .u8 (a0.toNat : Int), .int .u8 (a1.toNat : Int), .int .u8 (a2.toNat : Int), .int .u8 (a3.toNat : Int), .int .u8 (b0.toNat : Int), .int .u8 (b1.toNat : Int), .int .u8 (b2.toNat : Int), .int .u8 (b3.toNat : Int), .slice So no co, .slice Sb nb cb], .agg #[.int .u8 203, .int .u8 0, .int .u8 113, .int .u8 7], .int .i64 t] w fun e w' => ∃ r, e = .returned (.tuple #[.agg #[.int .i64 0, .int .i64 0, .int .i64 0, .int .i64 0, .int .i64 0, .int .i64 0, .int .u8 0, .int .u8 0, .int .u8 0, .int .u8 0, .int .u8 0, .int .u8 0, .int .u8 0, .int .u8 0, .slice none 0 0, .slice none 0 0], .int .i64 r]) ∧ r ≠ 0 ∧ Nq lo gn gt gk w' (sN 0) (sN (padv 0 t)) nK0 ∧ Fn gn gt gk w w' ∧ Below lo w w' := by
  rcases he : (⟨b0, b1, b2, b3⟩ : Ad4).eqB ⟨203, 0, 113, 7⟩ with _ | _
  · have h_ := nin_deny (t := t) (fl := fl) (pt := pt) (pr := pr) (lp := lp) (lb := lb) (tos := tos) (id := id) (ttl := ttl) (a0 := a0) (a1 := a1) (a2 := a2) (a3 := a3) (b0 := b0) (b1 := b1) (b2 := b2) (b3 := b3) (So := So) (no := no) (co := co) (Sb := Sb) (nb := nb) (cb := cb) (c0 := 203) (c1 := 0) (c2 := 113) (c3 := 7) w hT he
    refine h_.mono ?_
    rintro e w' ⟨rfl, h1, h2, h3⟩
    exact ⟨11, rfl, by decide, .inl h1, h2, h3⟩
  · have e4 := Ad4.eqB_iff.1 he
    injection e4 with e0 e1 e2 e3
    subst e0; subst e1; subst e2; subst e3
    exact shut_wan w hT po pb an_po hm hno
set_option linter.unusedVariables false in
set_option linter.unusedVariables false in
set_option linter.unusedSimpArgs false in
set_option maxRecDepth 100000 in
set_option maxHeartbeats 16000000 in
theorem natShut_walk (tos id fl pt ttl pr : Int) (a0 a1 a2 a3 b0 b1 b2 b3 : UInt8) (So : Option Addr) (no co : Nat) (lp : List UInt8) (Sb : Option Addr) (nb cb : Nat) (lb : List UInt8) (t : Int) (w : World) (po : Sl w So no co lp) (pb : Sl w Sb nb cb lb) : Calls Tryz.prog 5 #[.agg #[.int .i64 tos, .int .i64 id, .int .i64 fl, .int .i64 pt, .int .i64 ttl, .int .i64 pr, .int .u8 (a0.toNat : Int), .int .u8 (a1.toNat : Int), .int .u8 (a2.toNat : Int), .int .u8 (a3.toNat : Int), .int .u8 (b0.toNat : Int), .int .u8 (b1.toNat : Int), .int .u8 (b2.toNat : Int), .int .u8 (b3.toNat : Int), .slice So no co, .slice Sb nb cb], .int .i64 t] w fun e w' => e = .returned (.bool true) ∧ Below w.heap.size w w' := by
  have bel := Below.refl w.heap.size w
  go_enter Tryz.func5, Tryz.ntmps5
  go_wp2_with (first | ((with_reducible show wpList _ _ _ (⟨some 2, _, _, _, _, _⟩ :: _) _ _); refine wpList_box_n rfl 38 (.tmp 0) rfl #[.int .i64 tos, .int .i64 id, .int .i64 fl, .int .i64 pt, .int .i64 ttl, .int .i64 pr, .int .u8 (a0.toNat : Int), .int .u8 (a1.toNat : Int), .int .u8 (a2.toNat : Int), .int .u8 (a3.toNat : Int), .int .u8 (b0.toNat : Int), .int .u8 (b1.toNat : Int), .int .u8 (b2.toNat : Int), .int .u8 (b3.toNat : Int), .slice So no co, .slice Sb nb cb] rfl ?_; intro g2 w1 ge lt hh bb; have av_po_pB := po.av_new ge; have av_pb_pB := pb.av_new ge; have opB := Nat.le_trans bel.size ge; replace po := po.below bb; replace pb := pb.below bb; replace bel := bel.trans (bb.mono bel.size); have hpB := hh; clear hh lt ge bb))
  with_reducible refine (awake19 _).mono ?_
  rintro e w2 ⟨rfl, b2⟩
  replace hpB := blk_u hpB b2
  replace po := po.below b2
  replace pb := pb.below b2
  replace bel := bel.trans (b2.mono bel.size)
  clear b2
  by_cases c1 : (1500 : Int) < nb
  · have R12 := cell_lit hpB 15 _ rfl
    go_wp2_with fail
    clear R12
    go_ret
    exact ⟨rfl, bel⟩
  have Hc1 : Hid ((nb : Int) ≤ 1500) := Lib.hid (by omega)
  replace c1 : decide ((1500 : Int) < nb) = false := decide_eq_false c1
  by_cases c2 : (60 : Int) < no
  · have R12 := cell_lit hpB 15 _ rfl
    have R17 := cell_lit hpB 14 _ rfl
    go_wp2_with fail
    clear R12 R17
    go_ret
    exact ⟨rfl, bel⟩
  have Hc2 : Hid ((no : Int) ≤ 60) := Lib.hid (by omega)
  replace c2 : decide ((60 : Int) < no) = false := decide_eq_false c2
  have R12 := cell_lit hpB 15 _ rfl
  have R17 := cell_lit hpB 14 _ rfl
  go_wp2_with fail
  clear R12 R17
  have HLO_ := bel.size
  have lt_pB := hlt hpB
  have blp := po.bl_new
  with_reducible refine (begun19 _).mono ?_
  rintro e w3 ⟨gn, gt, gk, rfl, hT, b3⟩
  replace hpB := blk_u hpB b3
  replace po := po.below b3
  replace pb := pb.below b3
  replace bel := bel.trans (b3.mono bel.size)
  clear b3
  have ap_pB := hT.old lt_pB
  clear lt_pB
  have an_po := hT.an_old blp
  clear blp
  replace hT : Np w.heap.size gn gt gk w3 nS0 nK0 := hT.lo_mono HLO_
  clear HLO_
  go_wp2_with fail
  go_cut [8] from 9999 (fun s8 W => ∃ g7 : Nat, ∃ r : Int, s8 = .int .i64 r ∧ W.heap[g2]? = some (.cells #[.int .i64 tos, .int .i64 id, .int .i64 fl, .int .i64 pt, .int .i64 ttl, .int .i64 pr, .int .u8 (a0.toNat : Int), .int .u8 (a1.toNat : Int), .int .u8 (a2.toNat : Int), .int .u8 (a3.toNat : Int), .int .u8 (b0.toNat : Int), .int .u8 (b1.toNat : Int), .int .u8 (b2.toNat : Int), .int .u8 (b3.toNat : Int), .slice So no co, .slice Sb nb cb] 38 (0, 0)) ∧ W.heap[g7]? = some (.cells #[.int .i64 0, .int .i64 0, .int .i64 0, .int .i64 0, .int .i64 0, .int .i64 0, .int .u8 0, .int .u8 0, .int .u8 0, .int .u8 0, .int .u8 0, .int .u8 0, .int .u8 0, .int .u8 0, .slice none 0 0, .slice none 0 0] 38 (0, 0)) ∧ w.heap.size ≤ g7 ∧ Hid (g2 ≠ g7) ∧ Sl W (So) (no) (co) (lp) ∧ Av (So) (no) g2 ∧ Av (So) (no) g7 ∧ (r == 0) = false ∧ (r != 0) = true ∧ Nq w.heap.size gn gt gk W (sN 0) (sN (padv 0 t)) nK0 ∧ Anp gn gt gk W g2 ∧ An gn gt gk W (So) (no) ∧ Anp gn gt gk W g7 ∧ Below w.heap.size w W)
  case first =>
    replace bel := bel.drew
    replace hpB : w3.drew.heap[g2]? = _ := hpB
    replace po := po.drew
    replace pb := pb.drew
    replace hT := np_drew hT
    replace ap_pB := anp_drew ap_pB
    replace an_po := an_drew an_po
    refine wp_region_held_drew (S := fun W => W.heap[g2]? = some (.cells #[.int .i64 tos, .int .i64 id, .int .i64 fl, .int .i64 pt, .int .i64 ttl, .int .i64 pr, .int .u8 (a0.toNat : Int), .int .u8 (a1.toNat : Int), .int .u8 (a2.toNat : Int), .int .u8 (a3.toNat : Int), .int .u8 (b0.toNat : Int), .int .u8 (b1.toNat : Int), .int .u8 (b2.toNat : Int), .int .u8 (b3.toNat : Int), .slice So no co, .slice Sb nb cb] 38 (0, 0))) (by kernel_rfl) hpB (fun hH => ?_)
    generalize w3.drew = w4 at bel hpB po pb hT ap_pB an_po hH ⊢
    refine wpAnyH_take (i := 0) (v := ?_) rfl (by kernel_rfl) (by kernel_rfl) (by kernel_rfl) (fun _ _ _ h => h) (Or.inl ⟨by rfl, ?_⟩) hH ?_
    rotate_left
    · ((intro W hW; clear hW; go_simp) <;> with_reducible rfl)
    simp only [Act.put, List.getElem_toArray, List.getElem_cons_zero, List.setIfInBounds_toArray, List.set_cons_zero, List.set_cons_succ]
    refine wpAnyH_take (i := 1) (v := .agg #[.int .i64 tos, .int .i64 id, .int .i64 fl, .int .i64 pt, .int .i64 ttl, .int .i64 pr, .int .u8 (a0.toNat : Int), .int .u8 (a1.toNat : Int), .int .u8 (a2.toNat : Int), .int .u8 (a3.toNat : Int), .int .u8 (b0.toNat : Int), .int .u8 (b1.toNat : Int), .int .u8 (b2.toNat : Int), .int .u8 (b3.toNat : Int), .slice So no co, .slice Sb nb cb]) rfl (by kernel_rfl) (by kernel_rfl) (by kernel_rfl) (fun _ _ _ h => h) (yieldsIf_load_part (by kernel_rfl) 38 _ rfl g2 0 16 rfl _ 38 (0, 0) (fun W hW => hW) _ rfl _ Tryz.underlying38 rfl (by kernel_rfl)) hH ?_
    simp only [sq3, sq4]
    refine wpAnyH_take (i := 3) (v := ?_) rfl (by kernel_rfl) (by kernel_rfl) (by kernel_rfl) (fun _ _ _ h => h) (Or.inl ⟨by rfl, ?_⟩) hH ?_
    rotate_left
    · ((intro W hW; clear hW; go_simp) <;> with_reducible rfl)
    simp only [sq3, sq4]
    refine wpAnyH_ready (rs := [2, 8]) (by kernel_rfl) (by simp) ?_
    refine AllReadyH.cons (o := _) rfl (fun K hK => ?_) (AllReadyH.cons (o := _) rfl (fun K hK => ?_) AllReadyH.nil)
    rotate_left
    · simp only [sq3]
      rw [if_pos (by rfl)]
      refine wp_new_a 38 rfl #[.int .i64 0, .int .i64 0, .int .i64 0, .int .i64 0, .int .i64 0, .int .i64 0, .int .u8 0, .int .u8 0, .int .u8 0, .int .u8 0, .int .u8 0, .int .u8 0, .int .u8 0, .int .u8 0, .slice none 0 0, .slice none 0 0] (by kernel_rfl) ?_
      intro g7 w5 ge hh bb
      have ap_rB := hT.ap ge
      have d_pB_rB := ne_new (hlt hpB) ge
      have av_po_rB := po.av_new ge
      have av_pb_rB := pb.av_new ge
      have orB := Nat.le_trans bel.size ge
      replace hpB := blk_u hpB bb
      replace po := po.below bb
      replace pb := pb.below bb
      replace hT := hT.below bb
      replace ap_pB := ap_pB.below bb
      replace an_po := an_po.below bb
      replace ap_rB := ap_rB.below bb
      replace bel := bel.trans (bb.mono bel.size)
      have hrB := hh
      clear hh ge bb
      refine hK.out _ _ hpB (fun hH6 => ?_)
      clear hK K
      simp only [sq4]
      refine wpAnyH_ready (rs := [2]) (by kernel_rfl) (by simp) ?_
      refine AllReadyH.cons (o := _) rfl (fun K hK => ?_) AllReadyH.nil
      simp only [sq3]
      go_simp
      with_reducible refine (wan19 _).mono ?_
      rintro e w7 ⟨rfl, b7⟩
      dsimp only
      replace hpB := blk_u hpB b7
      replace hrB := blk_u hrB b7
      replace po := po.below b7
      replace pb := pb.below b7
      replace hT := hT.below b7
      replace ap_pB := ap_pB.below b7
      replace an_po := an_po.below b7
      replace ap_rB := ap_rB.below b7
      replace bel := bel.trans (b7.mono bel.size)
      clear b7
      refine hK.out _ _ hpB (fun hH8 => ?_)
      clear hK K
      refine wpAnyH_ready (rs := [4]) (by kernel_rfl) (by simp) ?_
      refine AllReadyH.cons (o := _) rfl (fun K hK => ?_) AllReadyH.nil
      simp only [sq3]
      go_simp
      with_reducible refine (shut_in _ hT po pb an_po (by have := Hc1.out; omega) (by have := Hc2.out; omega)).mono ?_
      rintro e w9 ⟨r, rfl, hr_, hT_, f_, bb⟩
      dsimp only
      have x_ := f_ _ _ _ _ hpB ap_pB
      replace hpB := x_.1
      replace ap_pB := x_.2
      clear x_
      have x_ := f_ _ _ _ _ hrB ap_rB
      replace hrB := x_.1
      replace ap_rB := x_.2
      clear x_
      have x_ := f_.sl po an_po
      replace po := x_.1
      replace an_po := x_.2
      clear x_
      clear pb
      clear hT
      have hT := hT_
      replace bel := bel.trans bb
      clear bb f_ hT_
      have q1_ : (r == 0) = false := beq_eq_false_iff_ne.2 hr_
      have q2_ : (r != 0) = true := bne_iff_ne.2 hr_
      clear hr_
      refine hK.out _ _ hpB (fun hH10 => ?_)
      clear hK K
      refine wpAnyH_take (i := 5) (v := ?_) rfl (by kernel_rfl) (by kernel_rfl) (by kernel_rfl) (fun _ _ _ h => h) (Or.inl ⟨by rfl, ?_⟩) hH10 ?_
      rotate_left
      · ((intro W hW; clear hW; go_simp) <;> with_reducible rfl)
      simp only [sq3, sq4]
      refine wpAnyH_take (i := 6) (v := ?_) rfl (by kernel_rfl) (by kernel_rfl) (by kernel_rfl) (fun _ _ _ h => h) (Or.inl ⟨by rfl, ?_⟩) hH10 ?_
      rotate_left
      · ((intro W hW; clear hW; go_simp) <;> with_reducible rfl)
      simp only [sq3, sq4]
      refine wpAnyH_take (i := 7) (v := ?_) rfl (by kernel_rfl) (by kernel_rfl) (by kernel_rfl) (fun _ _ _ h => h) (Or.inl ⟨by rfl, ?_⟩) hH10 ?_
      rotate_left
      · ((intro W hW; clear hW; go_simp) <;> with_reducible rfl)
      simp only [sq3, sq4]
      refine wpAnyH_ready (rs := [9]) (by kernel_rfl) (by simp) ?_
      refine AllReadyH.cons (o := _) rfl (fun K hK => ?_) AllReadyH.nil
      simp only [sq3]
      rw [if_pos (by rfl)]
      refine wp_store_blk 38 (.tmp 7) (.tmp 31) rfl g7 rfl _ rfl _ 38 hrB (by rfl) (by kernel_rfl) (by kernel_rfl) ?_
      intro w11 hq gr
      replace po := po.away av_po_rB gr
      replace hpB := blk_a hpB gr d_pB_rB
      replace hT := hT.away ap_rB gr hrB
      replace ap_pB := ap_pB.grown ap_rB gr
      replace an_po := an_po.grown ap_rB gr
      replace ap_rB := ap_rB.grown ap_rB gr
      replace bel := below_grown bel gr orB bel.size
      clear hrB
      have hrB := hq
      clear hq gr
      refine hK.out _ _ hpB (fun hH12 => ?_)
      clear hK K
      simp only [Act.put]
      refine wpAnyH_take (i := 10) (v := ?_) rfl (by kernel_rfl) (by kernel_rfl) (by kernel_rfl) (fun _ _ _ h => h) (Or.inl ⟨by rfl, ?_⟩) hH12 ?_
      rotate_left
      · ((intro W hW; clear hW; go_simp) <;> with_reducible rfl)
      simp only [sq3, sq4]
      refine wpAnyH_done (by kernel_rfl) ?_ _
      go_wp2_with fail
      go_meet
      case rel => exact ⟨g7, r, rfl, hpB, hrB, orB, d_pB_rB, po, av_po_pB, av_po_rB, q1_, q2_, hT, ap_pB, an_po, ap_rB, bel⟩
    simp only [sq3]
    go_simp
    with_reducible refine (wan19 _).mono ?_
    rintro e w5 ⟨rfl, b5⟩
    dsimp only
    replace hpB := blk_u hpB b5
    replace po := po.below b5
    replace pb := pb.below b5
    replace hT := hT.below b5
    replace ap_pB := ap_pB.below b5
    replace an_po := an_po.below b5
    replace bel := bel.trans (b5.mono bel.size)
    clear b5
    refine hK.out _ _ hpB (fun hH6 => ?_)
    clear hK K
    refine wpAnyH_ready (rs := [4, 8]) (by kernel_rfl) (by simp) ?_
    refine AllReadyH.cons (o := _) rfl (fun K hK => ?_) (AllReadyH.cons (o := _) rfl (fun K hK => ?_) AllReadyH.nil)
    · simp only [sq3]
      go_simp
      with_reducible refine (shut_in _ hT po pb an_po (by have := Hc1.out; omega) (by have := Hc2.out; omega)).mono ?_
      rintro e w7 ⟨r, rfl, hr_, hT_, f_, bb⟩
      dsimp only
      have x_ := f_ _ _ _ _ hpB ap_pB
      replace hpB := x_.1
      replace ap_pB := x_.2
      clear x_
      have x_ := f_.sl po an_po
      replace po := x_.1
      replace an_po := x_.2
      clear x_
      clear pb
      clear hT
      have hT := hT_
      replace bel := bel.trans bb
      clear bb f_ hT_
      have q1_ : (r == 0) = false := beq_eq_false_iff_ne.2 hr_
      have q2_ : (r != 0) = true := bne_iff_ne.2 hr_
      clear hr_
      refine hK.out _ _ hpB (fun hH8 => ?_)
      clear hK K
      refine wpAnyH_take (i := 5) (v := ?_) rfl (by kernel_rfl) (by kernel_rfl) (by kernel_rfl) (fun _ _ _ h => h) (Or.inl ⟨by rfl, ?_⟩) hH8 ?_
      rotate_left
      · ((intro W hW; clear hW; go_simp) <;> with_reducible rfl)
      simp only [sq3, sq4]
      refine wpAnyH_take (i := 6) (v := ?_) rfl (by kernel_rfl) (by kernel_rfl) (by kernel_rfl) (fun _ _ _ h => h) (Or.inl ⟨by rfl, ?_⟩) hH8 ?_
      rotate_left
      · ((intro W hW; clear hW; go_simp) <;> with_reducible rfl)
      simp only [sq3, sq4]
      refine wpAnyH_take (i := 7) (v := ?_) rfl (by kernel_rfl) (by kernel_rfl) (by kernel_rfl) (fun _ _ _ h => h) (Or.inl ⟨by rfl, ?_⟩) hH8 ?_
      rotate_left
      · ((intro W hW; clear hW; go_simp) <;> with_reducible rfl)
      simp only [sq3, sq4]
      refine wpAnyH_ready (rs := [8]) (by kernel_rfl) (by simp) ?_
      refine AllReadyH.cons (o := _) rfl (fun K hK => ?_) AllReadyH.nil
      simp only [sq3]
      rw [if_pos (by rfl)]
      refine wp_new_a 38 rfl #[.int .i64 0, .int .i64 0, .int .i64 0, .int .i64 0, .int .i64 0, .int .i64 0, .int .u8 0, .int .u8 0, .int .u8 0, .int .u8 0, .int .u8 0, .int .u8 0, .int .u8 0, .int .u8 0, .slice none 0 0, .slice none 0 0] (by kernel_rfl) ?_
      intro g7 w9 ge hh bb
      have ap_rB := hT.ap ge
      have d_pB_rB := ne_new (hlt hpB) ge
      have av_po_rB := po.av_new ge
      have orB := Nat.le_trans bel.size ge
      replace hpB := blk_u hpB bb
      replace po := po.below bb
      replace hT := hT.below bb
      replace ap_pB := ap_pB.below bb
      replace an_po := an_po.below bb
      replace ap_rB := ap_rB.below bb
      replace bel := bel.trans (bb.mono bel.size)
      have hrB := hh
      clear hh ge bb
      refine hK.out _ _ hpB (fun hH10 => ?_)
      clear hK K
      simp only [sq4]
      refine wpAnyH_ready (rs := [9]) (by kernel_rfl) (by simp) ?_
      refine AllReadyH.cons (o := _) rfl (fun K hK => ?_) AllReadyH.nil
      simp only [sq3]
      rw [if_pos (by rfl)]
      refine wp_store_blk 38 (.tmp 7) (.tmp 31) rfl g7 rfl _ rfl _ 38 hrB (by rfl) (by kernel_rfl) (by kernel_rfl) ?_
      intro w11 hq gr
      replace po := po.away av_po_rB gr
      replace hpB := blk_a hpB gr d_pB_rB
      replace hT := hT.away ap_rB gr hrB
      replace ap_pB := ap_pB.grown ap_rB gr
      replace an_po := an_po.grown ap_rB gr
      replace ap_rB := ap_rB.grown ap_rB gr
      replace bel := below_grown bel gr orB bel.size
      clear hrB
      have hrB := hq
      clear hq gr
      refine hK.out _ _ hpB (fun hH12 => ?_)
      clear hK K
      simp only [Act.put]
      refine wpAnyH_take (i := 10) (v := ?_) rfl (by kernel_rfl) (by kernel_rfl) (by kernel_rfl) (fun _ _ _ h => h) (Or.inl ⟨by rfl, ?_⟩) hH12 ?_
      rotate_left
      · ((intro W hW; clear hW; go_simp) <;> with_reducible rfl)
      simp only [sq3, sq4]
      refine wpAnyH_done (by kernel_rfl) ?_ _
      go_wp2_with fail
      go_meet
      case rel => exact ⟨g7, r, rfl, hpB, hrB, orB, d_pB_rB, po, av_po_pB, av_po_rB, q1_, q2_, hT, ap_pB, an_po, ap_rB, bel⟩
    simp only [sq3]
    rw [if_pos (by rfl)]
    refine wp_new_a 38 rfl #[.int .i64 0, .int .i64 0, .int .i64 0, .int .i64 0, .int .i64 0, .int .i64 0, .int .u8 0, .int .u8 0, .int .u8 0, .int .u8 0, .int .u8 0, .int .u8 0, .int .u8 0, .int .u8 0, .slice none 0 0, .slice none 0 0] (by kernel_rfl) ?_
    intro g7 w7 ge hh bb
    have ap_rB := hT.ap ge
    have d_pB_rB := ne_new (hlt hpB) ge
    have av_po_rB := po.av_new ge
    have av_pb_rB := pb.av_new ge
    have orB := Nat.le_trans bel.size ge
    replace hpB := blk_u hpB bb
    replace po := po.below bb
    replace pb := pb.below bb
    replace hT := hT.below bb
    replace ap_pB := ap_pB.below bb
    replace an_po := an_po.below bb
    replace ap_rB := ap_rB.below bb
    replace bel := bel.trans (bb.mono bel.size)
    have hrB := hh
    clear hh ge bb
    refine hK.out _ _ hpB (fun hH8 => ?_)
    clear hK K
    simp only [sq4]
    refine wpAnyH_ready (rs := [4]) (by kernel_rfl) (by simp) ?_
    refine AllReadyH.cons (o := _) rfl (fun K hK => ?_) AllReadyH.nil
    simp only [sq3]
    go_simp
    with_reducible refine (shut_in _ hT po pb an_po (by have := Hc1.out; omega) (by have := Hc2.out; omega)).mono ?_
    rintro e w9 ⟨r, rfl, hr_, hT_, f_, bb⟩
    dsimp only
    have x_ := f_ _ _ _ _ hpB ap_pB
    replace hpB := x_.1
    replace ap_pB := x_.2
    clear x_
    have x_ := f_ _ _ _ _ hrB ap_rB
    replace hrB := x_.1
    replace ap_rB := x_.2
    clear x_
    have x_ := f_.sl po an_po
    replace po := x_.1
    replace an_po := x_.2
    clear x_
    clear pb
    clear hT
    have hT := hT_
    replace bel := bel.trans bb
    clear bb f_ hT_
    have q1_ : (r == 0) = false := beq_eq_false_iff_ne.2 hr_
    have q2_ : (r != 0) = true := bne_iff_ne.2 hr_
    clear hr_
    refine hK.out _ _ hpB (fun hH10 => ?_)
    clear hK K
    refine wpAnyH_take (i := 5) (v := ?_) rfl (by kernel_rfl) (by kernel_rfl) (by kernel_rfl) (fun _ _ _ h => h) (Or.inl ⟨by rfl, ?_⟩) hH10 ?_
    rotate_left
    · ((intro W hW; clear hW; go_simp) <;> with_reducible rfl)
    simp only [sq3, sq4]
    refine wpAnyH_take (i := 6) (v := ?_) rfl (by kernel_rfl) (by kernel_rfl) (by kernel_rfl) (fun _ _ _ h => h) (Or.inl ⟨by rfl, ?_⟩) hH10 ?_
    rotate_left
    · ((intro W hW; clear hW; go_simp) <;> with_reducible rfl)
    simp only [sq3, sq4]
    refine wpAnyH_take (i := 7) (v := ?_) rfl (by kernel_rfl) (by kernel_rfl) (by kernel_rfl) (fun _ _ _ h => h) (Or.inl ⟨by rfl, ?_⟩) hH10 ?_
    rotate_left
    · ((intro W hW; clear hW; go_simp) <;> with_reducible rfl)
    simp only [sq3, sq4]
    refine wpAnyH_ready (rs := [9]) (by kernel_rfl) (by simp) ?_
    refine AllReadyH.cons (o := _) rfl (fun K hK => ?_) AllReadyH.nil
    simp only [sq3]
    rw [if_pos (by rfl)]
    refine wp_store_blk 38 (.tmp 7) (.tmp 31) rfl g7 rfl _ rfl _ 38 hrB (by rfl) (by kernel_rfl) (by kernel_rfl) ?_
    intro w11 hq gr
    replace po := po.away av_po_rB gr
    replace hpB := blk_a hpB gr d_pB_rB
    replace hT := hT.away ap_rB gr hrB
    replace ap_pB := ap_pB.grown ap_rB gr
    replace an_po := an_po.grown ap_rB gr
    replace ap_rB := ap_rB.grown ap_rB gr
    replace bel := below_grown bel gr orB bel.size
    clear hrB
    have hrB := hq
    clear hq gr
    refine hK.out _ _ hpB (fun hH12 => ?_)
    clear hK K
    simp only [Act.put]
    refine wpAnyH_take (i := 10) (v := ?_) rfl (by kernel_rfl) (by kernel_rfl) (by kernel_rfl) (fun _ _ _ h => h) (Or.inl ⟨by rfl, ?_⟩) hH12 ?_
    rotate_left
    · ((intro W hW; clear hW; go_simp) <;> with_reducible rfl)
    simp only [sq3, sq4]
    refine wpAnyH_done (by kernel_rfl) ?_ _
    go_wp2_with fail
    go_meet
    case rel => exact ⟨g7, r, rfl, hpB, hrB, orB, d_pB_rB, po, av_po_pB, av_po_rB, q1_, q2_, hT, ap_pB, an_po, ap_rB, bel⟩
  obtain ⟨w13, hw_⟩ : ∃ x, x = wc := ⟨_, rfl⟩
  subst hw_
  obtain ⟨g7, r, rfl, hpB, hrB, orB, d_pB_rB, po, av_po_pB, av_po_rB, q1_, q2_, hT, ap_pB, an_po, ap_rB, bel⟩ := hcut
  go_wp2_with fail
  with_reducible refine (shut_len _ hT).mono ?_
  rintro e w14 ⟨rfl, hT_, f_, bb⟩
  have x_ := f_ _ _ _ _ hpB ap_pB
  replace hpB := x_.1
  replace ap_pB := x_.2
  clear x_
  have x_ := f_ _ _ _ _ hrB ap_rB
  replace hrB := x_.1
  replace ap_rB := x_.2
  clear x_
  have x_ := f_.sl po an_po
  replace po := x_.1
  replace an_po := x_.2
  clear x_
  clear hT
  have hT := hT_
  replace bel := bel.trans bb
  clear bb f_ hT_
  go_wp2_with fail
  go_ret
  exact ⟨rfl, bel⟩
end Go.Proofs.YtbdaejodbcjmfaaGreat
