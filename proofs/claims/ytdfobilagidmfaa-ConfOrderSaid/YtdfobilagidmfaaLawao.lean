/- ConfOrder: lines of unlike names, once each, may stand in any order. -/
import Derived.Test.YtdfobilagidmfaaCgf
namespace Go.Proofs.Ytdfobilagidmfaa
open Go.RowKit

def inf (v : Int) : List Value := [.int .i64 v]
theorem inf_len (x : Int) : (inf x).length = 1 := rfl
theorem Sle.inc {w : World} {g o n c i : Nat} {l : List Int} {x : Int} (h : Sle inf 1 w (some ⟨g, o, none⟩) n c l) (hx : l[i]? = some x) : w.cell? ⟨g, o + i, none⟩ = some (.int .i64 x) := by
  have := Sle.cell (j := 0) h hx rfl
  rw [Nat.mul_one, Nat.add_zero] at this
  exact this
theorem sli_of_row {w : World} {a : Option Addr} {len cap : Nat} {zs : List Int}
    (h : (a = none ∧ len = 0 ∧ cap = 0 ∧ zs = []) ∨ ∃ x, a = some x ∧ len ≤ cap ∧ cap ≤ maxLen ∧ zs.length = cap ∧ (∀ i, i < zs.length → w.cell? (x.add i) = some (.int .i64 (zs.getD i 0))) ∧ ∀ n ∈ zs, (Lit.int .i64 n).wf = true) :
    ∃ l, Sle inf 1 w a len cap l := by
  rcases h with ⟨rfl, rfl, rfl, rfl⟩ | ⟨x, rfl, hl, hm, hz, hcell, hwz⟩
  · exact ⟨[], Sle.nil (by decide) inf_len w⟩
  · refine ⟨zs.take len, by simp; omega, hl, hm, fun hn => ?_, by decide, inf_len⟩
    obtain ⟨b, off, spot⟩ := x
    have h0 := hcell 0 (by omega)
    have hspot : spot = none := by simpa [Addr.add] using World.cell?_spot h0
    subst hspot
    have e : (zs.take len).flatMap inf = (zs.take len).map (fun v => Value.int .i64 v) := by
      induction zs.take len with
      | nil => rfl
      | cons x l ih => rw [List.flatMap_cons, ih]; rfl
    refine ⟨b, off, rfl, fun j u hj => ?_⟩
    rw [e] at hj
    have hjl : j < zs.length := by
      have := (List.getElem?_eq_some_iff.1 hj).1
      simp at this; omega
    have hc := hcell j hjl
    rw [Addr.add_lit] at hc
    rw [hc]
    rw [List.getElem?_map, List.getElem?_take] at hj
    split at hj
    · rw [List.getElem?_eq_getElem hjl] at hj
      simp only [Option.map_some, Option.some.injEq] at hj
      subst hj
      simp [List.getD, List.getElem?_eq_getElem hjl]
    · simp at hj

def ordLs : List (List UInt8) := [[116, 105, 109, 101, 32, 61, 32, 54, 48, 48], [117, 100, 112, 116, 105, 109, 101, 32, 61, 32, 53, 48], [116, 99, 112, 116, 105, 109, 101, 32, 61, 32, 53, 48, 48], [105, 99, 109, 112, 116, 105, 109, 101, 32, 61, 32, 50, 48], [108, 111, 119, 32, 61, 32, 51, 48, 48, 48, 48], [100, 110, 115, 32, 61, 32, 49, 46, 49, 46, 49, 46, 49], [108, 97, 110, 109, 97, 99, 32, 61, 32, 48, 50, 58, 48, 48, 58, 48, 48, 58, 48, 48, 58, 48, 48, 58, 48, 97], [119, 97, 110, 109, 97, 99, 32, 61, 32, 48, 50, 58, 48, 48, 58, 48, 48, 58, 48, 48, 58, 48, 48, 58, 48, 98], [102, 105, 114, 115, 116, 32, 61, 32, 49, 57, 50, 46, 49, 54, 56, 46, 49, 46, 53, 48], [108, 97, 115, 116, 32, 61, 32, 49, 57, 50, 46, 49, 54, 56, 46, 49, 46, 54, 48]]
def ordNs : List (List UInt8) := [[116, 105, 109, 101], [117, 100, 112, 116, 105, 109, 101], [116, 99, 112, 116, 105, 109, 101], [105, 99, 109, 112, 116, 105, 109, 101], [108, 111, 119], [100, 110, 115], [108, 97, 110, 109, 97, 99], [119, 97, 110, 109, 97, 99], [102, 105, 114, 115, 116], [108, 97, 115, 116]]
def ordL (v : Int) : List UInt8 := ordLs.getD v.toNat []
def ordN (v : Int) : List UInt8 := ordNs.getD v.toNat []
def updC (c : Cf) (v : Int) : Cf := { c with
  time := if v = 0 then 600 else c.time,
  udp := if v = 1 then 50 else c.udp,
  tcp := if v = 2 then 500 else c.tcp,
  icmp := if v = 3 then 20 else c.icmp,
  low := if v = 4 then 30000 else c.low,
  dns := if v = 5 then ⟨1, 1, 1, 1⟩ else c.dns,
  lanmac := if v = 6 then ⟨2, 0, 0, 0, 0, 10⟩ else c.lanmac,
  wanmac := if v = 7 then ⟨2, 0, 0, 0, 0, 11⟩ else c.wanmac,
  first := if v = 8 then ⟨192, 168, 1, 50⟩ else c.first,
  last := if v = 9 then ⟨192, 168, 1, 60⟩ else c.last }
theorem upd_comm (c : Cf) (u v : Int) : updC (updC c u) v = updC (updC c v) u := by
  unfold updC
  simp only [Cf.mk.injEq, true_and, and_true]
  refine ⟨?_, ?_, ?_, ?_, ?_, ?_, ?_, ?_, ?_, ?_⟩ <;> (split <;> split <;> rfl)
theorem ten_cases {v : Int} (h0 : 0 ≤ v) (h9 : v ≤ 9) : v = 0 ∨ v = 1 ∨ v = 2 ∨ v = 3 ∨ v = 4 ∨ v = 5 ∨ v = 6 ∨ v = 7 ∨ v = 8 ∨ v = 9 := by omega
theorem ord_line {v : Int} (h0 : 0 ≤ v) (h9 : v ≤ 9) (c : Cf) (ns : List (List UInt8)) : lineE ns (ordL v) = (if ns.contains (ordN v) = true then 8 else 0) ∧ lineC c (ordL v) = updC c v ∧ lineN ns (ordL v) = ns ++ [ordN v] ∧ (∀ x ∈ ordL v, x ≠ 10) ∧ (ordL v).length ≤ 30 := by
  rcases ten_cases h0 h9 with rfl | rfl | rfl | rfl | rfl | rfl | rfl | rfl | rfl | rfl <;> exact ⟨by kernel_rfl, by kernel_rfl, by kernel_rfl, by decide, by decide⟩
theorem ordN_inj {u v : Int} (hu : 0 ≤ u ∧ u ≤ 9) (hv : 0 ≤ v ∧ v ≤ 9) (h : ordN u = ordN v) : u = v := by
  have key : ∀ i j : Fin 10, ordNs.getD i.val [] = ordNs.getD j.val [] → i.val = j.val := by decide +kernel
  have := key ⟨u.toNat, by omega⟩ ⟨v.toNat, by omega⟩ h
  simp only at this
  omega
theorem run_ord {ls : List (List UInt8)} : ∀ (is : List Int) (c : Cf) (ns : List (List UInt8)) (j : Nat), (∀ v ∈ is, 0 ≤ v ∧ v ≤ 9) → is.Nodup → (∀ v ∈ is, ns.contains (ordN v) = false) → runL c ns (is.map ordL ++ ls) j = runL (is.foldl updC c) (ns ++ is.map ordN) ls (j + is.length)
  | [], c, ns, j, _, _, _ => by simp
  | v :: is, c, ns, j, h, hd, hn => by
    obtain ⟨h1, h2, h3, _⟩ := ord_line (h v (by simp)).1 (h v (by simp)).2 c ns
    rw [hn v (by simp), if_neg (by decide)] at h1
    rw [List.nodup_cons] at hd
    rw [List.map_cons, List.cons_append, runL, if_pos h1, h2, h3, run_ord is _ _ _ (fun x hx => h x (by simp [hx])) hd.2 ?_]
    · simp only [List.foldl_cons, List.map_cons, List.append_assoc, List.singleton_append, List.length_cons]
      congr 1
      omega
    · intro x hx
      have hx1 := hn x (by simp [hx])
      have hne : ordN v ≠ ordN x := fun e => hd.1 (by rw [ordN_inj (h v (by simp)) (h x (by simp [hx])) e]; exact hx)
      rw [Bool.eq_false_iff] at hx1 ⊢
      intro hc
      rw [List.contains_iff_mem] at hc
      rcases List.mem_append.1 hc with hc | hc
      · exact hx1 (List.contains_iff_mem.2 hc)
      · exact hne (List.mem_singleton.1 hc).symm
def finC (is : List Int) : Cf := (is.foldl updC usualC).fill (is.map ordN)
theorem upd_lists (c : Cf) (v : Int) : (updC c v).fixed = c.fixed ∧ (updC c v).opens = c.opens := ⟨rfl, rfl⟩
theorem fold_lists : ∀ (is : List Int) (c : Cf), (is.foldl updC c).fixed = c.fixed ∧ (is.foldl updC c).opens = c.opens
  | [], _ => ⟨rfl, rfl⟩
  | v :: is, c => by rw [List.foldl_cons]; exact fold_lists is (updC c v)
theorem fill_lists (c : Cf) (ns : List (List UInt8)) : (c.fill ns).fixed = c.fixed ∧ (c.fill ns).opens = c.opens := by
  unfold Cf.fill Cf.fill1
  split <;> split <;> exact ⟨rfl, rfl⟩
theorem fin_lists (is : List Int) : (finC is).fixed = [] ∧ (finC is).opens = [] := by
  unfold finC
  obtain ⟨h1, h2⟩ := fill_lists (is.foldl updC usualC) (is.map ordN)
  obtain ⟨h3, h4⟩ := fold_lists is usualC
  exact ⟨h1.trans h3, h2.trans h4⟩
theorem fin_rev (is : List Int) : finC is.reverse = finC is := by
  have hf : is.reverse.foldl updC usualC = is.foldl updC usualC :=
    List.Perm.foldl_eq' (List.reverse_perm is) (fun x _ y _ z => upd_comm z x y) usualC
  have hm : ∀ s, (is.reverse.map ordN).contains s = (is.map ordN).contains s := fun s => by
    rw [Bool.eq_iff_iff, List.contains_iff_mem, List.contains_iff_mem]
    simp
  unfold finC Cf.fill Cf.fill1
  rw [hf, hm, hm]
theorem ord_law {is : List Int} (h : ∀ v ∈ is, 0 ≤ v ∧ v ≤ 9) (hd : is.Nodup) (hl : is.length ≤ 10) : parseS (txt (is.map ordL)) = (if (finC is).check = true then (finC is, 0, 0) else (zeroC, 0, 1)) ∧ (txt (is.map ordL)).length ≤ 310 := by
  have hall : ∀ l ∈ is.map ordL, (∀ c ∈ l, c ≠ 10) ∧ l.length ≤ 30 := by
    intro l hm
    obtain ⟨v, hv, rfl⟩ := List.mem_map.1 hm
    exact (ord_line (h v hv).1 (h v hv).2 usualC []).2.2.2
  have htl := txt_len (fun l hm => (hall l hm).2)
  rw [List.length_map] at htl
  have hr := run_ord (ls := []) is usualC [] 0 h hd (fun _ _ => rfl)
  rw [List.append_nil, List.nil_append] at hr
  refine ⟨?_, by omega⟩
  unfold parseS
  rw [if_neg (by omega), lines_txt (fun l hm => (hall l hm).1), if_neg (by rw [List.length_map]; omega), hr, runL]
  rfl

theorem txt_more (l : List UInt8) (xs : List (List UInt8)) : txt (xs ++ [l]) = txt xs ++ l ++ [10] := by
  rw [txt_append]; unfold txt; simp
theorem txt_front (l : List UInt8) (xs : List (List UInt8)) : txt (l :: xs) = l ++ [10] ++ txt xs := by unfold txt; rw [List.flatMap_cons]
def ordOk (l : List Int) : Prop := l.Nodup ∧ ∀ v ∈ l, 0 ≤ v ∧ v ≤ 9
theorem ordOk_nil : ordOk [] := ⟨List.nodup_nil, fun _ h => by cases h⟩
theorem ordOk_more {l : List Int} {v : Int} (h : ordOk l) (hv : v ∉ l) (h0 : 0 ≤ v ∧ v ≤ 9) : ordOk (l ++ [v]) := by
  obtain ⟨h1, h2⟩ := h
  refine ⟨?_, fun x hx => ?_⟩
  · rw [List.nodup_append]
    refine ⟨h1, by simp, fun a ha b hb => ?_⟩
    rw [List.mem_singleton.1 hb]
    rintro rfl
    exact hv ha
  · rcases List.mem_append.1 hx with hx | hx
    · exact h2 x hx
    · rw [List.mem_singleton.1 hx]; exact h0
theorem not_in_more {l : List Int} {k : Nat} {x y : Int} (h : x ∉ l.take k) (hy : l[k]? = some y) (e : (y == x) = false) : x ∉ l.take (k + 1) := by
  rw [take_snoc hy]
  intro hx
  rcases List.mem_append.1 hx with hx | hx
  · exact h hx
  · rw [List.mem_singleton.1 hx] at e
    simp at e
theorem ordL_at {r : Nat} {bd : List UInt8} (h : ordLs[r]? = some bd) : ordL (r : Int) = bd := by
  unfold ordL
  rw [Int.toNat_natCast, List.getD_eq_getElem?_getD, h]; rfl
theorem ordL_len {bd : List UInt8} {r : Nat} (h : ordLs[r]? = some bd) : bd.length ≤ 30 :=
  (by decide +kernel : ∀ b ∈ ordLs, b.length ≤ 30) bd (List.mem_of_getElem? h)
theorem ord_both {l : List Int} (h : ordOk l) (hl : l.length ≤ 10) : parseS (txt (l.map ordL)) = (if (finC l).check = true then (finC l, 0, 0) else (zeroC, 0, 1)) ∧ parseS (txt (l.reverse.map ordL)) = (if (finC l).check = true then (finC l, 0, 0) else (zeroC, 0, 1)) := by
  obtain ⟨h1, h2⟩ := h
  have hr := (ord_law (is := l.reverse) (fun v hv => h2 v (List.mem_reverse.1 hv)) ((List.reverse_perm l).nodup_iff.2 h1) (by rw [List.length_reverse]; exact hl)).1
  rw [fin_rev] at hr
  exact ⟨(ord_law h2 h1 hl).1, hr⟩
set_option linter.unusedVariables false in
set_option linter.unusedSimpArgs false in
set_option maxRecDepth 100000 in
set_option maxHeartbeats 16000000 in
theorem confOrder_walk (A : Option Addr) (n cp : Nat) (is : List Int) (w : World) (pI : Sle inf 1 w A n cp is) : Calls Try.prog 4 #[.slice A n cp] w fun e w' => e = .returned (.bool true) ∧ Below w.heap.size w w' := by
  have bel := Below.refl w.heap.size w
  go_enter Try.func4, Try.ntmps4
  go_wp2_with fail
  with_reducible refine (awake_any _).mono ?_
  rintro e w1 ⟨rfl, b1⟩
  replace pI := pI.below b1
  replace bel := bel.trans (b1.mono bel.size)
  clear b1
  by_cases h10 : 10 < n
  · have h10_ : (10 : Int) < n := by omega
    go_wp2_with (first | ((with_reducible show wpList _ _ _ (⟨some 16, _, _, _, _, _⟩ :: _) _ _); refine wpList_lit_n rfl 47 9 10 _ rfl #[.string ⟨#[116, 105, 109, 101, 32, 61, 32, 54, 48, 48]⟩, .string ⟨#[117, 100, 112, 116, 105, 109, 101, 32, 61, 32, 53, 48]⟩, .string ⟨#[116, 99, 112, 116, 105, 109, 101, 32, 61, 32, 53, 48, 48]⟩, .string ⟨#[105, 99, 109, 112, 116, 105, 109, 101, 32, 61, 32, 50, 48]⟩, .string ⟨#[108, 111, 119, 32, 61, 32, 51, 48, 48, 48, 48]⟩, .string ⟨#[100, 110, 115, 32, 61, 32, 49, 46, 49, 46, 49, 46, 49]⟩, .string ⟨#[108, 97, 110, 109, 97, 99, 32, 61, 32, 48, 50, 58, 48, 48, 58, 48, 48, 58, 48, 48, 58, 48, 48, 58, 48, 97]⟩, .string ⟨#[119, 97, 110, 109, 97, 99, 32, 61, 32, 48, 50, 58, 48, 48, 58, 48, 48, 58, 48, 48, 58, 48, 48, 58, 48, 98]⟩, .string ⟨#[102, 105, 114, 115, 116, 32, 61, 32, 49, 57, 50, 46, 49, 54, 56, 46, 49, 46, 53, 48]⟩, .string ⟨#[108, 97, 115, 116, 32, 61, 32, 49, 57, 50, 46, 49, 54, 56, 46, 49, 46, 54, 48]⟩] (.string ⟨#[]⟩) Try.underlying47 (by kernel_rfl) 1 (by kernel_rfl) (by decide) (by kernel_rfl) ?_; intro g16 w2 ge lt hh bb; have av_pI_b16 := pI.av_new ge; have ob16 := Nat.le_trans bel.size ge; replace pI := pI.below bb; replace bel := bel.trans (bb.mono bel.size); have hb16 := hh; clear hh lt ge bb; have lt : Sle stf 1 w2 (some ⟨g16, 0, none⟩) (10) (10) (ordLs) := sle_lit ordLs (by decide) stf_len hb16 rfl (by simp [maxLen])))
    go_ret
    exact ⟨rfl, bel⟩
  · have h10_ : decide (10 < (n : Int)) = false := decide_eq_false (by omega)
    go_wp2_with (first | ((with_reducible show wpList _ _ _ (⟨some 16, _, _, _, _, _⟩ :: _) _ _); refine wpList_lit_n rfl 47 9 10 _ rfl #[.string ⟨#[116, 105, 109, 101, 32, 61, 32, 54, 48, 48]⟩, .string ⟨#[117, 100, 112, 116, 105, 109, 101, 32, 61, 32, 53, 48]⟩, .string ⟨#[116, 99, 112, 116, 105, 109, 101, 32, 61, 32, 53, 48, 48]⟩, .string ⟨#[105, 99, 109, 112, 116, 105, 109, 101, 32, 61, 32, 50, 48]⟩, .string ⟨#[108, 111, 119, 32, 61, 32, 51, 48, 48, 48, 48]⟩, .string ⟨#[100, 110, 115, 32, 61, 32, 49, 46, 49, 46, 49, 46, 49]⟩, .string ⟨#[108, 97, 110, 109, 97, 99, 32, 61, 32, 48, 50, 58, 48, 48, 58, 48, 48, 58, 48, 48, 58, 48, 48, 58, 48, 97]⟩, .string ⟨#[119, 97, 110, 109, 97, 99, 32, 61, 32, 48, 50, 58, 48, 48, 58, 48, 48, 58, 48, 48, 58, 48, 48, 58, 48, 98]⟩, .string ⟨#[102, 105, 114, 115, 116, 32, 61, 32, 49, 57, 50, 46, 49, 54, 56, 46, 49, 46, 53, 48]⟩, .string ⟨#[108, 97, 115, 116, 32, 61, 32, 49, 57, 50, 46, 49, 54, 56, 46, 49, 46, 54, 48]⟩] (.string ⟨#[]⟩) Try.underlying47 (by kernel_rfl) 1 (by kernel_rfl) (by decide) (by kernel_rfl) ?_; intro g16 w2 ge lt hh bb; have av_pI_b16 := pI.av_new ge; have ob16 := Nat.le_trans bel.size ge; replace pI := pI.below bb; replace bel := bel.trans (bb.mono bel.size); have hb16 := hh; clear hh lt ge bb; have lt : Sle stf 1 w2 (some ⟨g16, 0, none⟩) (10) (10) (ordLs) := sle_lit ordLs (by decide) stf_len hb16 rfl (by simp [maxLen])))
    go_loopg [4, 5, 6] (n + 1) (fun gk s4 s5 s6 wr => ∃ i : Nat, ∃ xa : List UInt8, ∃ xb : List UInt8, gk = n + 1 - i ∧ i ≤ n ∧ Hid (ordOk (is.take i)) ∧ Hid (xa = txt ((is.take i).map ordL)) ∧ Hid (xb = txt ((is.take i).reverse.map ordL)) ∧ xa.length ≤ 31 * i ∧ xb.length ≤ 31 * i ∧ s4 = .string ⟨(xa).toArray⟩ ∧ s5 = .string ⟨(xb).toArray⟩ ∧ s6 = .int .i64 (i : Int) ∧ wr.heap[g16]? = some (.cells #[.string ⟨#[116, 105, 109, 101, 32, 61, 32, 54, 48, 48]⟩, .string ⟨#[117, 100, 112, 116, 105, 109, 101, 32, 61, 32, 53, 48]⟩, .string ⟨#[116, 99, 112, 116, 105, 109, 101, 32, 61, 32, 53, 48, 48]⟩, .string ⟨#[105, 99, 109, 112, 116, 105, 109, 101, 32, 61, 32, 50, 48]⟩, .string ⟨#[108, 111, 119, 32, 61, 32, 51, 48, 48, 48, 48]⟩, .string ⟨#[100, 110, 115, 32, 61, 32, 49, 46, 49, 46, 49, 46, 49]⟩, .string ⟨#[108, 97, 110, 109, 97, 99, 32, 61, 32, 48, 50, 58, 48, 48, 58, 48, 48, 58, 48, 48, 58, 48, 48, 58, 48, 97]⟩, .string ⟨#[119, 97, 110, 109, 97, 99, 32, 61, 32, 48, 50, 58, 48, 48, 58, 48, 48, 58, 48, 48, 58, 48, 48, 58, 48, 98]⟩, .string ⟨#[102, 105, 114, 115, 116, 32, 61, 32, 49, 57, 50, 46, 49, 54, 56, 46, 49, 46, 53, 48]⟩, .string ⟨#[108, 97, 115, 116, 32, 61, 32, 49, 57, 50, 46, 49, 54, 56, 46, 49, 46, 54, 48]⟩] 9 (0, 0)) ∧ Sle inf 1 wr (A) (n) (cp) (is) ∧ Sle stf 1 wr (some ⟨g16, 0, none⟩) (10) (10) (ordLs) ∧ Below w.heap.size w wr)
    case atStart => exact ⟨0, [], [], rfl, Nat.zero_le _, Lib.hid ordOk_nil, Lib.hid rfl, Lib.hid rfl, Nat.zero_le _, Nat.zero_le _, rfl, rfl, rfl, hb16, pI, lt, bel⟩
    case round =>
      clear hb16 pI lt bel
      obtain ⟨i, xa, xb, HGK, hi, HOK, HA, HB, hal, hbl, rfl, rfl, rfl, hb16, pI, lt, bel⟩ := hrel
      have HGK_ := Lib.hid HGK
      clear HGK
      have HGKI := HGK_
      have i0 : (0 : Int) ≤ i := by omega
      have i1 : (i : Int) ≤ 10 := by omega
      by_cases hi2 : i < n
      · obtain ⟨gI, oI, hP⟩ := pI.place (by omega)
        subst hP
        obtain ⟨x, hx_⟩ : ∃ x, is[i]? = some x := ⟨_, List.getElem?_eq_getElem (by rw [pI.1]; exact hi2)⟩
        have HX := Lib.hid hx_
        clear hx_
        go_wp2_with fail
        go_loopg [7] (i + 1) (fun gk s7 wr => ∃ k : Nat, gk = i + 1 - k ∧ k ≤ i ∧ Hid (x ∉ is.take k) ∧ s7 = .int .i64 (k : Int) ∧ wr.heap[g16]? = some (.cells #[.string ⟨#[116, 105, 109, 101, 32, 61, 32, 54, 48, 48]⟩, .string ⟨#[117, 100, 112, 116, 105, 109, 101, 32, 61, 32, 53, 48]⟩, .string ⟨#[116, 99, 112, 116, 105, 109, 101, 32, 61, 32, 53, 48, 48]⟩, .string ⟨#[105, 99, 109, 112, 116, 105, 109, 101, 32, 61, 32, 50, 48]⟩, .string ⟨#[108, 111, 119, 32, 61, 32, 51, 48, 48, 48, 48]⟩, .string ⟨#[100, 110, 115, 32, 61, 32, 49, 46, 49, 46, 49, 46, 49]⟩, .string ⟨#[108, 97, 110, 109, 97, 99, 32, 61, 32, 48, 50, 58, 48, 48, 58, 48, 48, 58, 48, 48, 58, 48, 48, 58, 48, 97]⟩, .string ⟨#[119, 97, 110, 109, 97, 99, 32, 61, 32, 48, 50, 58, 48, 48, 58, 48, 48, 58, 48, 48, 58, 48, 48, 58, 48, 98]⟩, .string ⟨#[102, 105, 114, 115, 116, 32, 61, 32, 49, 57, 50, 46, 49, 54, 56, 46, 49, 46, 53, 48]⟩, .string ⟨#[108, 97, 115, 116, 32, 61, 32, 49, 57, 50, 46, 49, 54, 56, 46, 49, 46, 54, 48]⟩] 9 (0, 0)) ∧ Sle inf 1 wr (some ⟨gI, oI, none⟩) (n) (cp) (is) ∧ Sle stf 1 wr (some ⟨g16, 0, none⟩) (10) (10) (ordLs) ∧ Below w.heap.size w wr)
        case atStart => exact ⟨0, rfl, Nat.zero_le _, Lib.hid (by simp), rfl, hb16, pI, lt, bel⟩
        case round =>
          clear hb16 pI lt bel
          obtain ⟨k, HGK, hk, HN, rfl, hb16, pI, lt, bel⟩ := hrel
          have HGK_ := Lib.hid HGK
          clear HGK
          have k0 : (0 : Int) ≤ k := by omega
          have k1 : (k : Int) ≤ 10 := by omega
          by_cases hk2 : k < i
          · have hkn : k < n := by omega
            obtain ⟨y, hx_⟩ : ∃ x, is[k]? = some x := ⟨_, List.getElem?_eq_getElem (by rw [pI.1]; exact by omega)⟩
            have HY := Lib.hid hx_
            clear hx_
            rcases (by decide : ∀ b : Bool, b = true ∨ b = false) (y == x) with b1 | b1
            · go_wp2_with fail
              replace bel := bel.drew
              replace hb16 : wr.drew.heap[g16]? = _ := hb16
              replace pI := pI.drew
              replace lt := lt.drew
              refine wp_region_held_drew (S := fun W => Sle inf 1 W (some ⟨gI, oI, none⟩) (n) (cp) (is)) (by kernel_rfl) pI (fun hH => ?_)
              generalize wr.drew = w3 at bel hb16 pI lt hH ⊢
              refine wpAnyH_take (i := 0) (v := ?_) rfl (by kernel_rfl) (by kernel_rfl) (by kernel_rfl) (fun _ _ _ h => h) (Or.inl ⟨by rfl, ?_⟩) hH ?_
              rotate_left
              · ((intro W hW; clear hW; go_simp) <;> with_reducible rfl)
              simp only [Act.put, List.getElem_toArray, List.getElem_cons_zero, List.setIfInBounds_toArray, List.set_cons_zero, List.set_cons_succ]
              refine wpAnyH_take (i := 1) (v := ?_) rfl (by kernel_rfl) (by kernel_rfl) (by kernel_rfl) (fun _ _ _ h => h) (Or.inl ⟨by rfl, ?_⟩) hH ?_
              rotate_left
              · ((intro W hW; clear hW; go_simp) <;> with_reducible rfl)
              simp only [Act.put, List.getElem_toArray, List.getElem_cons_zero, List.getElem_cons_succ, List.setIfInBounds_toArray, List.set_cons_zero, List.set_cons_succ]
              refine wpAnyH_take (i := 2) (v := ?_) rfl (by kernel_rfl) (by kernel_rfl) (by kernel_rfl) (fun _ _ _ h => h) (Or.inl ⟨by rfl, ?_⟩) hH ?_
              rotate_left
              · ((intro W hW; clear hW; go_simp) <;> with_reducible rfl)
              simp only [Act.put, List.getElem_toArray, List.getElem_cons_zero, List.getElem_cons_succ, List.setIfInBounds_toArray, List.set_cons_zero, List.set_cons_succ]
              refine wpAnyH_take (i := 3) (v := ?_) rfl (by kernel_rfl) (by kernel_rfl) (by kernel_rfl) (fun _ _ _ h => h) (Or.inl ⟨by rfl, ?_⟩) hH ?_
              rotate_left
              · ((intro W hW; have hk := Sle.inc (i := k) (hW) HY.out; clear hW; go_simp) <;> with_reducible rfl)
              simp only [Act.put, List.getElem_toArray, List.getElem_cons_zero, List.getElem_cons_succ, List.setIfInBounds_toArray, List.set_cons_zero, List.set_cons_succ]
              refine wpAnyH_take (i := 4) (v := ?_) rfl (by kernel_rfl) (by kernel_rfl) (by kernel_rfl) (fun _ _ _ h => h) (Or.inl ⟨by rfl, ?_⟩) hH ?_
              rotate_left
              · ((intro W hW; clear hW; go_simp) <;> with_reducible rfl)
              simp only [Act.put, List.getElem_toArray, List.getElem_cons_zero, List.getElem_cons_succ, List.setIfInBounds_toArray, List.set_cons_zero, List.set_cons_succ]
              refine wpAnyH_take (i := 5) (v := ?_) rfl (by kernel_rfl) (by kernel_rfl) (by kernel_rfl) (fun _ _ _ h => h) (Or.inl ⟨by rfl, ?_⟩) hH ?_
              rotate_left
              · ((intro W hW; clear hW; go_simp) <;> with_reducible rfl)
              simp only [Act.put, List.getElem_toArray, List.getElem_cons_zero, List.getElem_cons_succ, List.setIfInBounds_toArray, List.set_cons_zero, List.set_cons_succ]
              refine wpAnyH_take (i := 6) (v := ?_) rfl (by kernel_rfl) (by kernel_rfl) (by kernel_rfl) (fun _ _ _ h => h) (Or.inl ⟨by rfl, ?_⟩) hH ?_
              rotate_left
              · ((intro W hW; clear hW; go_simp) <;> with_reducible rfl)
              simp only [Act.put, List.getElem_toArray, List.getElem_cons_zero, List.getElem_cons_succ, List.setIfInBounds_toArray, List.set_cons_zero, List.set_cons_succ]
              refine wpAnyH_take (i := 7) (v := ?_) rfl (by kernel_rfl) (by kernel_rfl) (by kernel_rfl) (fun _ _ _ h => h) (Or.inl ⟨by rfl, ?_⟩) hH ?_
              rotate_left
              · ((intro W hW; have hk := Sle.inc (i := i) (hW) HX.out; clear hW; go_simp) <;> with_reducible rfl)
              simp only [Act.put, List.getElem_toArray, List.getElem_cons_zero, List.getElem_cons_succ, List.setIfInBounds_toArray, List.set_cons_zero, List.set_cons_succ]
              refine wpAnyH_take (i := 8) (v := ?_) rfl (by kernel_rfl) (by kernel_rfl) (by kernel_rfl) (fun _ _ _ h => h) (Or.inl ⟨by rfl, ?_⟩) hH ?_
              rotate_left
              · ((intro W hW; clear hW; go_simp) <;> with_reducible rfl)
              simp only [Act.put, List.getElem_toArray, List.getElem_cons_zero, List.getElem_cons_succ, List.setIfInBounds_toArray, List.set_cons_zero, List.set_cons_succ]
              refine wpAnyH_done (by kernel_rfl) ?_ _
              go_wp2_with fail
              go_ret
              exact ⟨rfl, bel⟩
            · have HN3 := Lib.hid (not_in_more HN.out HY.out b1)
              go_wp2_with fail
              replace bel := bel.drew
              replace hb16 : wr.drew.heap[g16]? = _ := hb16
              replace pI := pI.drew
              replace lt := lt.drew
              refine wp_region_held_drew (S := fun W => Sle inf 1 W (some ⟨gI, oI, none⟩) (n) (cp) (is)) (by kernel_rfl) pI (fun hH => ?_)
              generalize wr.drew = w3 at bel hb16 pI lt hH ⊢
              refine wpAnyH_take (i := 0) (v := ?_) rfl (by kernel_rfl) (by kernel_rfl) (by kernel_rfl) (fun _ _ _ h => h) (Or.inl ⟨by rfl, ?_⟩) hH ?_
              rotate_left
              · ((intro W hW; clear hW; go_simp) <;> with_reducible rfl)
              simp only [Act.put, List.getElem_toArray, List.getElem_cons_zero, List.setIfInBounds_toArray, List.set_cons_zero, List.set_cons_succ]
              refine wpAnyH_take (i := 1) (v := ?_) rfl (by kernel_rfl) (by kernel_rfl) (by kernel_rfl) (fun _ _ _ h => h) (Or.inl ⟨by rfl, ?_⟩) hH ?_
              rotate_left
              · ((intro W hW; clear hW; go_simp) <;> with_reducible rfl)
              simp only [Act.put, List.getElem_toArray, List.getElem_cons_zero, List.getElem_cons_succ, List.setIfInBounds_toArray, List.set_cons_zero, List.set_cons_succ]
              refine wpAnyH_take (i := 2) (v := ?_) rfl (by kernel_rfl) (by kernel_rfl) (by kernel_rfl) (fun _ _ _ h => h) (Or.inl ⟨by rfl, ?_⟩) hH ?_
              rotate_left
              · ((intro W hW; clear hW; go_simp) <;> with_reducible rfl)
              simp only [Act.put, List.getElem_toArray, List.getElem_cons_zero, List.getElem_cons_succ, List.setIfInBounds_toArray, List.set_cons_zero, List.set_cons_succ]
              refine wpAnyH_take (i := 3) (v := ?_) rfl (by kernel_rfl) (by kernel_rfl) (by kernel_rfl) (fun _ _ _ h => h) (Or.inl ⟨by rfl, ?_⟩) hH ?_
              rotate_left
              · ((intro W hW; have hk := Sle.inc (i := k) (hW) HY.out; clear hW; go_simp) <;> with_reducible rfl)
              simp only [Act.put, List.getElem_toArray, List.getElem_cons_zero, List.getElem_cons_succ, List.setIfInBounds_toArray, List.set_cons_zero, List.set_cons_succ]
              refine wpAnyH_take (i := 4) (v := ?_) rfl (by kernel_rfl) (by kernel_rfl) (by kernel_rfl) (fun _ _ _ h => h) (Or.inl ⟨by rfl, ?_⟩) hH ?_
              rotate_left
              · ((intro W hW; clear hW; go_simp) <;> with_reducible rfl)
              simp only [Act.put, List.getElem_toArray, List.getElem_cons_zero, List.getElem_cons_succ, List.setIfInBounds_toArray, List.set_cons_zero, List.set_cons_succ]
              refine wpAnyH_take (i := 5) (v := ?_) rfl (by kernel_rfl) (by kernel_rfl) (by kernel_rfl) (fun _ _ _ h => h) (Or.inl ⟨by rfl, ?_⟩) hH ?_
              rotate_left
              · ((intro W hW; clear hW; go_simp) <;> with_reducible rfl)
              simp only [Act.put, List.getElem_toArray, List.getElem_cons_zero, List.getElem_cons_succ, List.setIfInBounds_toArray, List.set_cons_zero, List.set_cons_succ]
              refine wpAnyH_take (i := 6) (v := ?_) rfl (by kernel_rfl) (by kernel_rfl) (by kernel_rfl) (fun _ _ _ h => h) (Or.inl ⟨by rfl, ?_⟩) hH ?_
              rotate_left
              · ((intro W hW; clear hW; go_simp) <;> with_reducible rfl)
              simp only [Act.put, List.getElem_toArray, List.getElem_cons_zero, List.getElem_cons_succ, List.setIfInBounds_toArray, List.set_cons_zero, List.set_cons_succ]
              refine wpAnyH_take (i := 7) (v := ?_) rfl (by kernel_rfl) (by kernel_rfl) (by kernel_rfl) (fun _ _ _ h => h) (Or.inl ⟨by rfl, ?_⟩) hH ?_
              rotate_left
              · ((intro W hW; have hk := Sle.inc (i := i) (hW) HX.out; clear hW; go_simp) <;> with_reducible rfl)
              simp only [Act.put, List.getElem_toArray, List.getElem_cons_zero, List.getElem_cons_succ, List.setIfInBounds_toArray, List.set_cons_zero, List.set_cons_succ]
              refine wpAnyH_take (i := 8) (v := ?_) rfl (by kernel_rfl) (by kernel_rfl) (by kernel_rfl) (fun _ _ _ h => h) (Or.inl ⟨by rfl, ?_⟩) hH ?_
              rotate_left
              · ((intro W hW; clear hW; go_simp) <;> with_reducible rfl)
              simp only [Act.put, List.getElem_toArray, List.getElem_cons_zero, List.getElem_cons_succ, List.setIfInBounds_toArray, List.set_cons_zero, List.set_cons_succ]
              refine wpAnyH_done (by kernel_rfl) ?_ _
              go_wp2_with fail
              go_roundg (i + 1 - (k + 1))
              case measure => have := HGK_.out; omega
              case rel => exact ⟨k + 1, rfl, by omega, HN3, by go_num, hb16, pI, lt, bel⟩
          · have hki : k = i := by omega
            have HN2 : Hid (x ∉ is.take i) := Lib.hid (by have h := HN.out; rwa [hki] at h)
            have hk3 : decide ((k : Int) < i) = false := decide_eq_false (by omega)
            clear HN
            by_cases hx0 : x < 0
            · have R43 := Sle.inc (i := i) pI HX.out
              go_wp2_with fail
              clear R43
              go_ret
              exact ⟨rfl, bel⟩
            · have hx0_ : decide (x < 0) = false := decide_eq_false hx0
              by_cases hx9 : 9 < x
              · have R43 := Sle.inc (i := i) pI HX.out
                have R49 := Sle.inc (i := i) pI HX.out
                go_wp2_with fail
                clear R43 R49
                go_ret
                exact ⟨rfl, bel⟩
              · have hx9_ : decide (9 < x) = false := decide_eq_false hx9
                obtain ⟨r, hr⟩ : ∃ r : Nat, x = (r : Int) := ⟨x.toNat, by omega⟩
                subst hr
                have r0 : (0 : Int) ≤ r := by omega
                have r1 : (r : Int) < 10 := by omega
                have hr10 : r < 10 := by omega
                obtain ⟨bd, hbd⟩ : ∃ bd, ordLs[r]? = some bd := ⟨_, List.getElem?_eq_getElem hr10⟩
                have HBD := Lib.hid hbd
                have hbdl := ordL_len hbd
                clear hbd
                obtain ⟨ya, hya⟩ : ∃ z, xa ++ bd = z := ⟨_, rfl⟩
                have HYA := Lib.hid hya
                have BYA : Hid (xa.length + bd.length ≤ 8388608) := Lib.hid (by omega)
                have hyal : ya.length ≤ 31 * i + 30 := by rw [← hya]; simp; omega
                obtain ⟨yb, hyb⟩ : ∃ z, ya ++ [10] = z := ⟨_, rfl⟩
                have HYB := Lib.hid hyb
                have BYB : Hid (ya.length + [10].length ≤ 8388608) := Lib.hid (by simp; omega)
                have hybl : yb.length ≤ 31 * (i + 1) := by rw [← hyb]; simp; omega
                obtain ⟨za, hza⟩ : ∃ z, bd ++ [10] = z := ⟨_, rfl⟩
                have HZA := Lib.hid hza
                have BZA : Hid (bd.length + [10].length ≤ 8388608) := Lib.hid (by simp; omega)
                have hzal : za.length ≤ 31 := by rw [← hza]; simp; omega
                obtain ⟨zb, hzb⟩ : ∃ z, za ++ xb = z := ⟨_, rfl⟩
                have HZB := Lib.hid hzb
                have BZB : Hid (za.length + xb.length ≤ 8388608) := Lib.hid (by omega)
                have hzbl : zb.length ≤ 31 * (i + 1) := by rw [← hzb]; simp; omega
                clear hya hyb hza hzb
                have HOK2 : Hid (ordOk (is.take (i + 1))) := Lib.hid (by rw [take_snoc HX.out]; exact ordOk_more HOK.out HN2.out (by omega))
                have HA2 : Hid (yb = txt ((is.take (i + 1)).map ordL)) := Lib.hid (by rw [take_snoc HX.out, List.map_append, List.map_singleton, txt_more, ← HA.out, ordL_at HBD.out, HYA.out, HYB.out])
                have HB2 : Hid (zb = txt ((is.take (i + 1)).reverse.map ordL)) := Lib.hid (by rw [take_snoc HX.out, List.reverse_append, List.reverse_singleton, List.singleton_append, List.map_cons, txt_front, ← HB.out, ordL_at HBD.out, HZA.out, HZB.out])
                clear HN2
                have R43 := Sle.inc (i := i) pI HX.out
                have R49 := Sle.inc (i := i) pI HX.out
                have R57 := Sle.inc (i := i) pI HX.out
                have R59 := (by have h_ := Sle.st (i := r) lt HBD.out; rw [Nat.zero_add] at h_; exact h_)
                have R60 := fun W => st_cat HYA.out BYA.out W
                have R61 := fun W => st_cat HYB.out BYB.out W
                have R66 := Sle.inc (i := i) pI HX.out
                have R68 := (by have h_ := Sle.st (i := r) lt HBD.out; rw [Nat.zero_add] at h_; exact h_)
                have R69 := fun W => st_cat HZA.out BZA.out W
                have R71 := fun W => st_cat HZB.out BZB.out W
                go_wp2_with fail
                clear R43 R49 R57 R59 R60 R61 R66 R68 R69 R71
                go_roundg (n + 1 - (i + 1))
                case measure => have := HGKI.out; omega
                case rel => exact ⟨i + 1, yb, zb, rfl, by omega, HOK2, HA2, HB2, hybl, hzbl, by go_num, by go_num, by go_num, hb16, pI, lt, bel⟩
      · have hie : i = n := by omega
        subst hie
        have hi3 : decide (i < i) = false := decide_eq_false hi2
        have hll := pI.1
        have HOK2 : Hid (ordOk is) := Lib.hid (by have h := HOK.out; rwa [List.take_of_length_le (by omega)] at h)
        have HA2 : Hid (xa = txt (is.map ordL)) := Lib.hid (by have h := HA.out; rwa [List.take_of_length_le (by omega)] at h)
        have HB2 : Hid (xb = txt (is.reverse.map ordL)) := Lib.hid (by have h := HB.out; rwa [List.take_of_length_le (by omega)] at h)
        have HLW := Lib.hid (ord_both HOK2.out (by omega))
        rw [← HA2.out, ← HB2.out] at HLW
        have HLA : Hid (xa.length ≤ 1000000) := Lib.hid (by omega)
        have HLB : Hid (xb.length ≤ 1000000) := Lib.hid (by omega)
        have HCL := Lib.hid (fin_lists is)
        obtain ⟨cc, hcc⟩ : ∃ z, finC is = z := ⟨_, rfl⟩
        rw [hcc] at HLW HCL
        clear hcc HOK HA HB HOK2 HA2 HB2 hll hal hbl
        obtain ⟨bk, hbk⟩ : ∃ z, cc.check = z := ⟨_, rfl⟩
        have HCK := Lib.hid hbk
        clear hbk
        rcases bk with _ | _
        · have HPA : Hid (parseS xa = (zeroC, 0, 1)) := Lib.hid (by rw [HLW.out.1, HCK.out]; rfl)
          have HPB : Hid (parseS xb = (zeroC, 0, 1)) := Lib.hid (by rw [HLW.out.2, HCK.out]; rfl)
          go_wp2_with fail
          with_reducible refine (cparse_is HPA.out HLA.out _).mono ?_
          rintro e w3 ⟨Fx, nf, cf, Ox, nx, cx, rfl, hf, ho, frF, frO, b3⟩
          replace hb16 := blk_u hb16 b3
          replace pI := pI.below b3
          replace lt := lt.below b3
          replace bel := bel.trans (b3.mono bel.size)
          clear b3
          clear hf ho frF frO
          go_wp2_with (first | ((with_reducible show wpList _ _ _ (⟨some 8, _, _, _, _, _⟩ :: _) _ _); refine wpList_new_a rfl 32 rfl #[.int .u8 0, .int .u8 0, .int .u8 0, .int .u8 0, .int .u8 0, .int .u8 0, .int .u8 0, .int .u8 0, .int .i64 0, .int .u8 0, .int .u8 0, .int .u8 0, .int .u8 0, .int .u8 0, .int .u8 0, .int .u8 0, .int .u8 0, .int .u8 0, .int .u8 0, .int .u8 0, .int .u8 0, .int .u8 0, .int .u8 0, .int .u8 0, .int .u8 0, .int .u8 0, .int .u8 0, .int .u8 0, .int .u8 0, .int .i64 0, .int .u8 0, .int .u8 0, .int .u8 0, .int .u8 0, .int .i64 0, .int .i64 0, .int .i64 0, .int .i64 0, .slice none 0 0, .slice none 0 0] (by kernel_rfl) ?_; intro g8 w4 ge hh bb; have d_b16_ca := ne_new (hlt hb16) ge; have av_pI_ca := pI.av_new ge; have av_lt_ca := lt.av_new ge; have oca := Nat.le_trans bel.size ge; replace hb16 := blk_u hb16 bb; replace pI := pI.below bb; replace lt := lt.below bb; replace bel := bel.trans (bb.mono bel.size); have hca := hh; clear hh ge bb) | ((with_reducible show wpList _ _ _ (⟨none, Op.store _ (.tmp 8) _, _, _, _, _⟩ :: _) _ _); refine wpList_store_blk rfl 32 (.tmp 8) (.tmp 75) rfl g8 rfl _ rfl _ 32 hca (by rfl) (by kernel_rfl) (by kernel_rfl) ?_; intro w5 hq gr; replace pI := pI.away av_pI_ca gr; replace lt := lt.away av_lt_ca gr; replace hb16 := blk_a hb16 gr d_b16_ca; replace bel := below_grown bel gr oca bel.size; clear hca; have hca := hq; clear hq gr))
          with_reducible refine (cparse_is HPB.out HLB.out _).mono ?_
          rintro e w6 ⟨Fy, nf2, cf2, Oy, nx2, cx2, rfl, hf, ho, frF, frO, b6⟩
          replace hb16 := blk_u hb16 b6
          replace hca := blk_u hca b6
          replace pI := pI.below b6
          replace lt := lt.below b6
          replace bel := bel.trans (b6.mono bel.size)
          clear b6
          clear hf ho frF frO
          go_wp2_with (first | ((with_reducible show wpList _ _ _ (⟨some 11, _, _, _, _, _⟩ :: _) _ _); refine wpList_new_a rfl 32 rfl #[.int .u8 0, .int .u8 0, .int .u8 0, .int .u8 0, .int .u8 0, .int .u8 0, .int .u8 0, .int .u8 0, .int .i64 0, .int .u8 0, .int .u8 0, .int .u8 0, .int .u8 0, .int .u8 0, .int .u8 0, .int .u8 0, .int .u8 0, .int .u8 0, .int .u8 0, .int .u8 0, .int .u8 0, .int .u8 0, .int .u8 0, .int .u8 0, .int .u8 0, .int .u8 0, .int .u8 0, .int .u8 0, .int .u8 0, .int .i64 0, .int .u8 0, .int .u8 0, .int .u8 0, .int .u8 0, .int .i64 0, .int .i64 0, .int .i64 0, .int .i64 0, .slice none 0 0, .slice none 0 0] (by kernel_rfl) ?_; intro g11 w7 ge hh bb; have d_b16_cb := ne_new (hlt hb16) ge; have d_ca_cb := ne_new (hlt hca) ge; have av_pI_cb := pI.av_new ge; have av_lt_cb := lt.av_new ge; have ocb := Nat.le_trans bel.size ge; replace hb16 := blk_u hb16 bb; replace hca := blk_u hca bb; replace pI := pI.below bb; replace lt := lt.below bb; replace bel := bel.trans (bb.mono bel.size); have hcb := hh; clear hh ge bb) | ((with_reducible show wpList _ _ _ (⟨none, Op.store _ (.tmp 11) _, _, _, _, _⟩ :: _) _ _); refine wpList_store_blk rfl 32 (.tmp 11) (.tmp 81) rfl g11 rfl _ rfl _ 32 hcb (by rfl) (by kernel_rfl) (by kernel_rfl) ?_; intro w8 hq gr; replace pI := pI.away av_pI_cb gr; replace lt := lt.away av_lt_cb gr; replace hb16 := blk_a hb16 gr d_b16_cb; replace hca := blk_a hca gr d_ca_cb; replace bel := below_grown bel gr ocb bel.size; clear hcb; have hcb := hq; clear hq gr))
          replace bel := bel.drew
          replace hb16 : w8.drew.heap[g16]? = _ := hb16
          replace hca : w8.drew.heap[g8]? = _ := hca
          replace hcb : w8.drew.heap[g11]? = _ := hcb
          replace pI := pI.drew
          replace lt := lt.drew
          refine wp_region_held_drew (S := fun W => W.heap[g8]? = some (.cells (cfl zeroC Fx nf cf Ox nx cx).toArray 32 (0, 0)) ∧ W.heap[g11]? = some (.cells (cfl zeroC Fy nf2 cf2 Oy nx2 cx2).toArray 32 (0, 0))) (by kernel_rfl) ⟨hca, hcb⟩ (fun hH => ?_)
          generalize w8.drew = w9 at bel hb16 hca hcb pI lt hH ⊢
          refine wpAnyH_take (i := 0) (v := ?_) rfl (by kernel_rfl) (by kernel_rfl) (by kernel_rfl) (fun _ _ _ h => h) (Or.inl ⟨by rfl, ?_⟩) hH ?_
          rotate_left
          · ((intro W hW; clear hW; go_simp) <;> with_reducible rfl)
          simp only [Act.put, List.getElem_toArray, List.getElem_cons_zero, List.setIfInBounds_toArray, List.set_cons_zero, List.set_cons_succ]
          refine wpAnyH_take (i := 1) (v := ?_) rfl (by kernel_rfl) (by kernel_rfl) (by kernel_rfl) (fun _ _ _ h => h) (Or.inl ⟨by rfl, ?_⟩) hH ?_
          rotate_left
          · ((intro W hW; clear hW; go_simp) <;> with_reducible rfl)
          simp only [Act.put, List.getElem_toArray, List.getElem_cons_zero, List.getElem_cons_succ, List.setIfInBounds_toArray, List.set_cons_zero, List.set_cons_succ]
          refine wpAnyH_take (i := 2) (v := ?_) rfl (by kernel_rfl) (by kernel_rfl) (by kernel_rfl) (fun _ _ _ h => h) (Or.inl ⟨by rfl, ?_⟩) hH ?_
          rotate_left
          · ((intro W hW; clear hW; go_simp) <;> with_reducible rfl)
          simp only [Act.put, List.getElem_toArray, List.getElem_cons_zero, List.getElem_cons_succ, List.setIfInBounds_toArray, List.set_cons_zero, List.set_cons_succ]
          refine wpAnyH_take (i := 3) (v := ?_) rfl (by kernel_rfl) (by kernel_rfl) (by kernel_rfl) (fun _ _ _ h => h) (Or.inl ⟨by rfl, ?_⟩) hH ?_
          rotate_left
          · ((intro W hW; clear hW; go_simp) <;> with_reducible rfl)
          simp only [Act.put, List.getElem_toArray, List.getElem_cons_zero, List.getElem_cons_succ, List.setIfInBounds_toArray, List.set_cons_zero, List.set_cons_succ]
          refine wpAnyH_take (i := 4) (v := ?_) rfl (by kernel_rfl) (by kernel_rfl) (by kernel_rfl) (fun _ _ _ h => h) (Or.inl ⟨by rfl, ?_⟩) hH ?_
          rotate_left
          · ((intro W hW; clear hW; go_simp) <;> with_reducible rfl)
          simp only [Act.put, List.getElem_toArray, List.getElem_cons_zero, List.getElem_cons_succ, List.setIfInBounds_toArray, List.set_cons_zero, List.set_cons_succ]
          refine wpAnyH_take (i := 5) (v := ?_) rfl (by kernel_rfl) (by kernel_rfl) (by kernel_rfl) (fun _ _ _ h => h) (Or.inl ⟨by rfl, ?_⟩) hH ?_
          rotate_left
          · ((intro W hW; clear hW; go_simp) <;> with_reducible rfl)
          simp only [Act.put, List.getElem_toArray, List.getElem_cons_zero, List.getElem_cons_succ, List.setIfInBounds_toArray, List.set_cons_zero, List.set_cons_succ]
          refine wpAnyH_take (i := 6) (v := ?_) rfl (by kernel_rfl) (by kernel_rfl) (by kernel_rfl) (fun _ _ _ h => h) (Or.inl ⟨by rfl, ?_⟩) hH ?_
          rotate_left
          · ((intro W hW; clear hW; go_simp) <;> with_reducible rfl)
          simp only [Act.put, List.getElem_toArray, List.getElem_cons_zero, List.getElem_cons_succ, List.setIfInBounds_toArray, List.set_cons_zero, List.set_cons_succ]
          refine wpAnyH_take (i := 7) (v := ?_) rfl (by kernel_rfl) (by kernel_rfl) (by kernel_rfl) (fun _ _ _ h => h) (Or.inl ⟨by rfl, ?_⟩) hH ?_
          rotate_left
          · ((intro W hW; clear hW; go_simp) <;> with_reducible rfl)
          simp only [Act.put, List.getElem_toArray, List.getElem_cons_zero, List.getElem_cons_succ, List.setIfInBounds_toArray, List.set_cons_zero, List.set_cons_succ]
          refine wpAnyH_take (i := 8) (v := ?_) rfl (by kernel_rfl) (by kernel_rfl) (by kernel_rfl) (fun _ _ _ h => h) (Or.inl ⟨by rfl, ?_⟩) hH ?_
          rotate_left
          · ((intro W hW; clear hW; go_simp) <;> with_reducible rfl)
          simp only [Act.put, List.getElem_toArray, List.getElem_cons_zero, List.getElem_cons_succ, List.setIfInBounds_toArray, List.set_cons_zero, List.set_cons_succ]
          refine wpAnyH_take (i := 9) (v := ?_) rfl (by kernel_rfl) (by kernel_rfl) (by kernel_rfl) (fun _ _ _ h => h) (Or.inl ⟨by rfl, ?_⟩) hH ?_
          rotate_left
          · ((intro W hW; clear hW; go_simp) <;> with_reducible rfl)
          simp only [Act.put, List.getElem_toArray, List.getElem_cons_zero, List.getElem_cons_succ, List.setIfInBounds_toArray, List.set_cons_zero, List.set_cons_succ]
          refine wpAnyH_take (i := 10) (v := ?_) rfl (by kernel_rfl) (by kernel_rfl) (by kernel_rfl) (fun _ _ _ h => h) (Or.inl ⟨by rfl, ?_⟩) hH ?_
          rotate_left
          · ((intro W hW; clear hW; go_simp) <;> with_reducible rfl)
          simp only [Act.put, List.getElem_toArray, List.getElem_cons_zero, List.getElem_cons_succ, List.setIfInBounds_toArray, List.set_cons_zero, List.set_cons_succ]
          refine wpAnyH_take (i := 11) (v := ?_) rfl (by kernel_rfl) (by kernel_rfl) (by kernel_rfl) (fun _ _ _ h => h) (Or.inl ⟨by rfl, ?_⟩) hH ?_
          rotate_left
          · ((intro W hW; clear hW; go_simp) <;> with_reducible rfl)
          simp only [Act.put, List.getElem_toArray, List.getElem_cons_zero, List.getElem_cons_succ, List.setIfInBounds_toArray, List.set_cons_zero, List.set_cons_succ]
          refine wpAnyH_take (i := 12) (v := ?_) rfl (by kernel_rfl) (by kernel_rfl) (by kernel_rfl) (fun _ _ _ h => h) (Or.inl ⟨by rfl, ?_⟩) hH ?_
          rotate_left
          · ((intro W hW; clear hW; go_simp) <;> with_reducible rfl)
          simp only [Act.put, List.getElem_toArray, List.getElem_cons_zero, List.getElem_cons_succ, List.setIfInBounds_toArray, List.set_cons_zero, List.set_cons_succ]
          refine wpAnyH_take (i := 13) (v := ?_) rfl (by kernel_rfl) (by kernel_rfl) (by kernel_rfl) (fun _ _ _ h => h) (Or.inl ⟨by rfl, ?_⟩) hH ?_
          rotate_left
          · ((intro W hW; clear hW; go_simp) <;> with_reducible rfl)
          simp only [Act.put, List.getElem_toArray, List.getElem_cons_zero, List.getElem_cons_succ, List.setIfInBounds_toArray, List.set_cons_zero, List.set_cons_succ]
          refine wpAnyH_take (i := 14) (v := ?_) rfl (by kernel_rfl) (by kernel_rfl) (by kernel_rfl) (fun _ _ _ h => h) (Or.inl ⟨by rfl, ?_⟩) hH ?_
          rotate_left
          · ((intro W hW; clear hW; go_simp) <;> with_reducible rfl)
          simp only [Act.put, List.getElem_toArray, List.getElem_cons_zero, List.getElem_cons_succ, List.setIfInBounds_toArray, List.set_cons_zero, List.set_cons_succ]
          refine wpAnyH_take (i := 15) (v := undef) rfl (by kernel_rfl) (by kernel_rfl) (by kernel_rfl) (fun _ _ _ h => h) (Or.inr ⟨by rfl, rfl⟩) hH ?_
          simp only [Act.put, List.getElem_toArray, List.getElem_cons_zero, List.getElem_cons_succ, List.setIfInBounds_toArray, List.set_cons_zero, List.set_cons_succ]
          refine wpAnyH_take (i := 16) (v := undef) rfl (by kernel_rfl) (by kernel_rfl) (by kernel_rfl) (fun _ _ _ h => h) (Or.inr ⟨by rfl, rfl⟩) hH ?_
          simp only [Act.put, List.getElem_toArray, List.getElem_cons_zero, List.getElem_cons_succ, List.setIfInBounds_toArray, List.set_cons_zero, List.set_cons_succ]
          refine wpAnyH_take (i := 17) (v := undef) rfl (by kernel_rfl) (by kernel_rfl) (by kernel_rfl) (fun _ _ _ h => h) (Or.inr ⟨by rfl, rfl⟩) hH ?_
          simp only [Act.put, List.getElem_toArray, List.getElem_cons_zero, List.getElem_cons_succ, List.setIfInBounds_toArray, List.set_cons_zero, List.set_cons_succ]
          refine wpAnyH_take (i := 18) (v := undef) rfl (by kernel_rfl) (by kernel_rfl) (by kernel_rfl) (fun _ _ _ h => h) (Or.inr ⟨by rfl, rfl⟩) hH ?_
          simp only [Act.put, List.getElem_toArray, List.getElem_cons_zero, List.getElem_cons_succ, List.setIfInBounds_toArray, List.set_cons_zero, List.set_cons_succ]
          refine wpAnyH_take (i := 19) (v := undef) rfl (by kernel_rfl) (by kernel_rfl) (by kernel_rfl) (fun _ _ _ h => h) (Or.inr ⟨by rfl, rfl⟩) hH ?_
          simp only [Act.put, List.getElem_toArray, List.getElem_cons_zero, List.getElem_cons_succ, List.setIfInBounds_toArray, List.set_cons_zero, List.set_cons_succ]
          refine wpAnyH_take (i := 20) (v := ?_) rfl (by kernel_rfl) (by kernel_rfl) (by kernel_rfl) (fun _ _ _ h => h) (Or.inl ⟨by rfl, ?_⟩) hH ?_
          rotate_left
          · ((intro W hW; clear hW; go_simp) <;> with_reducible rfl)
          simp only [Act.put, List.getElem_toArray, List.getElem_cons_zero, List.getElem_cons_succ, List.setIfInBounds_toArray, List.set_cons_zero, List.set_cons_succ]
          refine wpAnyH_take (i := 21) (v := ?_) rfl (by kernel_rfl) (by kernel_rfl) (by kernel_rfl) (fun _ _ _ h => h) (Or.inl ⟨by rfl, ?_⟩) hH ?_
          rotate_left
          · ((intro W hW; clear hW; go_simp) <;> with_reducible rfl)
          simp only [Act.put, List.getElem_toArray, List.getElem_cons_zero, List.getElem_cons_succ, List.setIfInBounds_toArray, List.set_cons_zero, List.set_cons_succ]
          refine wpAnyH_take (i := 22) (v := ?_) rfl (by kernel_rfl) (by kernel_rfl) (by kernel_rfl) (fun _ _ _ h => h) (Or.inl ⟨by rfl, ?_⟩) hH ?_
          rotate_left
          · ((intro W hW; clear hW; go_simp) <;> with_reducible rfl)
          simp only [Act.put, List.getElem_toArray, List.getElem_cons_zero, List.getElem_cons_succ, List.setIfInBounds_toArray, List.set_cons_zero, List.set_cons_succ]
          refine wpAnyH_done (by kernel_rfl) ?_ _
          go_wp2_with fail
          go_ret
          exact ⟨rfl, bel⟩
        · have HPA : Hid (parseS xa = (cc, 0, 0)) := Lib.hid (by rw [HLW.out.1, HCK.out]; rfl)
          have HPB : Hid (parseS xb = (cc, 0, 0)) := Lib.hid (by rw [HLW.out.2, HCK.out]; rfl)
          go_wp2_with fail
          with_reducible refine (cparse_is HPA.out HLA.out _).mono ?_
          rintro e w3 ⟨Fx, nf, cf, Ox, nx, cx, rfl, hf, ho, frF, frO, b3⟩
          have av_hf_b16 := frF.av (hlt hb16)
          have av_ho_b16 := frO.av (hlt hb16)
          replace hb16 := blk_u hb16 b3
          replace pI := pI.below b3
          replace lt := lt.below b3
          replace bel := bel.trans (b3.mono bel.size)
          clear b3
          replace hf : Sle fxf 10 w3 (Fx) (nf) (cf) (cc.fixed) := hf
          replace ho : Sle opf 7 w3 (Ox) (nx) (cx) (cc.opens) := ho
          have hnf : nf ≤ 1000 := by rw [← hf.1, HCL.out.1]; decide
          have hnx : nx ≤ 1000 := by rw [← ho.1, HCL.out.2]; decide
          go_wp2_with (first | ((with_reducible show wpList _ _ _ (⟨some 8, _, _, _, _, _⟩ :: _) _ _); refine wpList_new_a rfl 32 rfl #[.int .u8 0, .int .u8 0, .int .u8 0, .int .u8 0, .int .u8 0, .int .u8 0, .int .u8 0, .int .u8 0, .int .i64 0, .int .u8 0, .int .u8 0, .int .u8 0, .int .u8 0, .int .u8 0, .int .u8 0, .int .u8 0, .int .u8 0, .int .u8 0, .int .u8 0, .int .u8 0, .int .u8 0, .int .u8 0, .int .u8 0, .int .u8 0, .int .u8 0, .int .u8 0, .int .u8 0, .int .u8 0, .int .u8 0, .int .i64 0, .int .u8 0, .int .u8 0, .int .u8 0, .int .u8 0, .int .i64 0, .int .i64 0, .int .i64 0, .int .i64 0, .slice none 0 0, .slice none 0 0] (by kernel_rfl) ?_; intro g8 w4 ge hh bb; have d_b16_ca := ne_new (hlt hb16) ge; have av_pI_ca := pI.av_new ge; have av_lt_ca := lt.av_new ge; have av_hf_ca := hf.av_new ge; have av_ho_ca := ho.av_new ge; have oca := Nat.le_trans bel.size ge; replace hb16 := blk_u hb16 bb; replace pI := pI.below bb; replace lt := lt.below bb; replace hf := hf.below bb; replace ho := ho.below bb; replace bel := bel.trans (bb.mono bel.size); have hca := hh; clear hh ge bb) | ((with_reducible show wpList _ _ _ (⟨none, Op.store _ (.tmp 8) _, _, _, _, _⟩ :: _) _ _); refine wpList_store_blk rfl 32 (.tmp 8) (.tmp 75) rfl g8 rfl _ rfl _ 32 hca (by rfl) (by kernel_rfl) (by kernel_rfl) ?_; intro w5 hq gr; replace pI := pI.away av_pI_ca gr; replace lt := lt.away av_lt_ca gr; replace hf := hf.away av_hf_ca gr; replace ho := ho.away av_ho_ca gr; replace hb16 := blk_a hb16 gr d_b16_ca; replace bel := below_grown bel gr oca bel.size; clear hca; have hca := hq; clear hq gr))
          with_reducible refine (cparse_is HPB.out HLB.out _).mono ?_
          rintro e w6 ⟨Fy, nf2, cf2, Oy, nx2, cx2, rfl, hf2, ho2, frF2, frO2, b6⟩
          have av_hf2_b16 := frF2.av (hlt hb16)
          have av_hf2_ca := frF2.av (hlt hca)
          have av_ho2_b16 := frO2.av (hlt hb16)
          have av_ho2_ca := frO2.av (hlt hca)
          replace hb16 := blk_u hb16 b6
          replace hca := blk_u hca b6
          replace pI := pI.below b6
          replace lt := lt.below b6
          replace hf := hf.below b6
          replace ho := ho.below b6
          replace bel := bel.trans (b6.mono bel.size)
          clear b6
          replace hf2 : Sle fxf 10 w6 (Fy) (nf2) (cf2) (cc.fixed) := hf2
          replace ho2 : Sle opf 7 w6 (Oy) (nx2) (cx2) (cc.opens) := ho2
          have hnf2 : nf2 ≤ 1000 := by rw [← hf2.1, HCL.out.1]; decide
          have hnx2 : nx2 ≤ 1000 := by rw [← ho2.1, HCL.out.2]; decide
          go_wp2_with (first | ((with_reducible show wpList _ _ _ (⟨some 11, _, _, _, _, _⟩ :: _) _ _); refine wpList_new_a rfl 32 rfl #[.int .u8 0, .int .u8 0, .int .u8 0, .int .u8 0, .int .u8 0, .int .u8 0, .int .u8 0, .int .u8 0, .int .i64 0, .int .u8 0, .int .u8 0, .int .u8 0, .int .u8 0, .int .u8 0, .int .u8 0, .int .u8 0, .int .u8 0, .int .u8 0, .int .u8 0, .int .u8 0, .int .u8 0, .int .u8 0, .int .u8 0, .int .u8 0, .int .u8 0, .int .u8 0, .int .u8 0, .int .u8 0, .int .u8 0, .int .i64 0, .int .u8 0, .int .u8 0, .int .u8 0, .int .u8 0, .int .i64 0, .int .i64 0, .int .i64 0, .int .i64 0, .slice none 0 0, .slice none 0 0] (by kernel_rfl) ?_; intro g11 w7 ge hh bb; have d_b16_cb := ne_new (hlt hb16) ge; have d_ca_cb := ne_new (hlt hca) ge; have av_pI_cb := pI.av_new ge; have av_lt_cb := lt.av_new ge; have av_hf_cb := hf.av_new ge; have av_ho_cb := ho.av_new ge; have av_hf2_cb := hf2.av_new ge; have av_ho2_cb := ho2.av_new ge; have ocb := Nat.le_trans bel.size ge; replace hb16 := blk_u hb16 bb; replace hca := blk_u hca bb; replace pI := pI.below bb; replace lt := lt.below bb; replace hf := hf.below bb; replace ho := ho.below bb; replace hf2 := hf2.below bb; replace ho2 := ho2.below bb; replace bel := bel.trans (bb.mono bel.size); have hcb := hh; clear hh ge bb) | ((with_reducible show wpList _ _ _ (⟨none, Op.store _ (.tmp 11) _, _, _, _, _⟩ :: _) _ _); refine wpList_store_blk rfl 32 (.tmp 11) (.tmp 81) rfl g11 rfl _ rfl _ 32 hcb (by rfl) (by kernel_rfl) (by kernel_rfl) ?_; intro w8 hq gr; replace pI := pI.away av_pI_cb gr; replace lt := lt.away av_lt_cb gr; replace hf := hf.away av_hf_cb gr; replace ho := ho.away av_ho_cb gr; replace hf2 := hf2.away av_hf2_cb gr; replace ho2 := ho2.away av_ho2_cb gr; replace hb16 := blk_a hb16 gr d_b16_cb; replace hca := blk_a hca gr d_ca_cb; replace bel := below_grown bel gr ocb bel.size; clear hcb; have hcb := hq; clear hq gr))
          replace bel := bel.drew
          replace hb16 : w8.drew.heap[g16]? = _ := hb16
          replace hca : w8.drew.heap[g8]? = _ := hca
          replace hcb : w8.drew.heap[g11]? = _ := hcb
          replace pI := pI.drew
          replace lt := lt.drew
          replace hf := hf.drew
          replace ho := ho.drew
          replace hf2 := hf2.drew
          replace ho2 := ho2.drew
          refine wp_region_held_drew (S := fun W => W.heap[g8]? = some (.cells (cfl cc Fx nf cf Ox nx cx).toArray 32 (0, 0)) ∧ W.heap[g11]? = some (.cells (cfl cc Fy nf2 cf2 Oy nx2 cx2).toArray 32 (0, 0))) (by kernel_rfl) ⟨hca, hcb⟩ (fun hH => ?_)
          generalize w8.drew = w9 at bel hb16 hca hcb pI lt hf ho hf2 ho2 hH ⊢
          refine wpAnyH_take (i := 0) (v := ?_) rfl (by kernel_rfl) (by kernel_rfl) (by kernel_rfl) (fun _ _ _ h => h) (Or.inl ⟨by rfl, ?_⟩) hH ?_
          rotate_left
          · ((intro W hW; clear hW; go_simp) <;> with_reducible rfl)
          simp only [Act.put, List.getElem_toArray, List.getElem_cons_zero, List.setIfInBounds_toArray, List.set_cons_zero, List.set_cons_succ]
          refine wpAnyH_take (i := 1) (v := ?_) rfl (by kernel_rfl) (by kernel_rfl) (by kernel_rfl) (fun _ _ _ h => h) (Or.inl ⟨by rfl, ?_⟩) hH ?_
          rotate_left
          · ((intro W hW; clear hW; go_simp) <;> with_reducible rfl)
          simp only [Act.put, List.getElem_toArray, List.getElem_cons_zero, List.getElem_cons_succ, List.setIfInBounds_toArray, List.set_cons_zero, List.set_cons_succ]
          refine wpAnyH_take (i := 2) (v := ?_) rfl (by kernel_rfl) (by kernel_rfl) (by kernel_rfl) (fun _ _ _ h => h) (Or.inl ⟨by rfl, ?_⟩) hH ?_
          rotate_left
          · ((intro W hW; clear hW; go_simp) <;> with_reducible rfl)
          simp only [Act.put, List.getElem_toArray, List.getElem_cons_zero, List.getElem_cons_succ, List.setIfInBounds_toArray, List.set_cons_zero, List.set_cons_succ]
          refine wpAnyH_take (i := 3) (v := ?_) rfl (by kernel_rfl) (by kernel_rfl) (by kernel_rfl) (fun _ _ _ h => h) (Or.inl ⟨by rfl, ?_⟩) hH ?_
          rotate_left
          · ((intro W hW; clear hW; go_simp) <;> with_reducible rfl)
          simp only [Act.put, List.getElem_toArray, List.getElem_cons_zero, List.getElem_cons_succ, List.setIfInBounds_toArray, List.set_cons_zero, List.set_cons_succ]
          refine wpAnyH_take (i := 4) (v := ?_) rfl (by kernel_rfl) (by kernel_rfl) (by kernel_rfl) (fun _ _ _ h => h) (Or.inl ⟨by rfl, ?_⟩) hH ?_
          rotate_left
          · ((intro W hW; clear hW; go_simp) <;> with_reducible rfl)
          simp only [Act.put, List.getElem_toArray, List.getElem_cons_zero, List.getElem_cons_succ, List.setIfInBounds_toArray, List.set_cons_zero, List.set_cons_succ]
          refine wpAnyH_take (i := 5) (v := ?_) rfl (by kernel_rfl) (by kernel_rfl) (by kernel_rfl) (fun _ _ _ h => h) (Or.inl ⟨by rfl, ?_⟩) hH ?_
          rotate_left
          · ((intro W hW; clear hW; go_simp) <;> with_reducible rfl)
          simp only [Act.put, List.getElem_toArray, List.getElem_cons_zero, List.getElem_cons_succ, List.setIfInBounds_toArray, List.set_cons_zero, List.set_cons_succ]
          refine wpAnyH_take (i := 6) (v := ?_) rfl (by kernel_rfl) (by kernel_rfl) (by kernel_rfl) (fun _ _ _ h => h) (Or.inl ⟨by rfl, ?_⟩) hH ?_
          rotate_left
          · ((intro W hW; clear hW; go_simp) <;> with_reducible rfl)
          simp only [Act.put, List.getElem_toArray, List.getElem_cons_zero, List.getElem_cons_succ, List.setIfInBounds_toArray, List.set_cons_zero, List.set_cons_succ]
          refine wpAnyH_take (i := 7) (v := undef) rfl (by kernel_rfl) (by kernel_rfl) (by kernel_rfl) (fun _ _ _ h => h) (Or.inr ⟨by rfl, rfl⟩) hH ?_
          simp only [Act.put, List.getElem_toArray, List.getElem_cons_zero, List.getElem_cons_succ, List.setIfInBounds_toArray, List.set_cons_zero, List.set_cons_succ]
          refine wpAnyH_take (i := 8) (v := undef) rfl (by kernel_rfl) (by kernel_rfl) (by kernel_rfl) (fun _ _ _ h => h) (Or.inr ⟨by rfl, rfl⟩) hH ?_
          simp only [Act.put, List.getElem_toArray, List.getElem_cons_zero, List.getElem_cons_succ, List.setIfInBounds_toArray, List.set_cons_zero, List.set_cons_succ]
          refine wpAnyH_take (i := 9) (v := ?_) rfl (by kernel_rfl) (by kernel_rfl) (by kernel_rfl) (fun _ _ _ h => h) (Or.inl ⟨by rfl, ?_⟩) hH ?_
          rotate_left
          · ((intro W hW; clear hW; go_simp) <;> with_reducible rfl)
          simp only [Act.put, List.getElem_toArray, List.getElem_cons_zero, List.getElem_cons_succ, List.setIfInBounds_toArray, List.set_cons_zero, List.set_cons_succ]
          refine wpAnyH_take (i := 10) (v := ?_) rfl (by kernel_rfl) (by kernel_rfl) (by kernel_rfl) (fun _ _ _ h => h) (Or.inl ⟨by rfl, ?_⟩) hH ?_
          rotate_left
          · ((intro W hW; clear hW; go_simp) <;> with_reducible rfl)
          simp only [Act.put, List.getElem_toArray, List.getElem_cons_zero, List.getElem_cons_succ, List.setIfInBounds_toArray, List.set_cons_zero, List.set_cons_succ]
          refine wpAnyH_take (i := 11) (v := ?_) rfl (by kernel_rfl) (by kernel_rfl) (by kernel_rfl) (fun _ _ _ h => h) (Or.inl ⟨by rfl, ?_⟩) hH ?_
          rotate_left
          · ((intro W hW; clear hW; go_simp) <;> with_reducible rfl)
          simp only [Act.put, List.getElem_toArray, List.getElem_cons_zero, List.getElem_cons_succ, List.setIfInBounds_toArray, List.set_cons_zero, List.set_cons_succ]
          refine wpAnyH_take (i := 12) (v := ?_) rfl (by kernel_rfl) (by kernel_rfl) (by kernel_rfl) (fun _ _ _ h => h) (Or.inl ⟨by rfl, ?_⟩) hH ?_
          rotate_left
          · ((intro W hW; clear hW; go_simp) <;> with_reducible rfl)
          simp only [Act.put, List.getElem_toArray, List.getElem_cons_zero, List.getElem_cons_succ, List.setIfInBounds_toArray, List.set_cons_zero, List.set_cons_succ]
          refine wpAnyH_take (i := 13) (v := ?_) rfl (by kernel_rfl) (by kernel_rfl) (by kernel_rfl) (fun _ _ _ h => h) (Or.inl ⟨by rfl, ?_⟩) hH ?_
          rotate_left
          · ((intro W hW; clear hW; go_simp) <;> with_reducible rfl)
          simp only [Act.put, List.getElem_toArray, List.getElem_cons_zero, List.getElem_cons_succ, List.setIfInBounds_toArray, List.set_cons_zero, List.set_cons_succ]
          refine wpAnyH_take (i := 14) (v := ?_) rfl (by kernel_rfl) (by kernel_rfl) (by kernel_rfl) (fun _ _ _ h => h) (Or.inl ⟨by rfl, ?_⟩) hH ?_
          rotate_left
          · ((intro W hW; clear hW; go_simp) <;> with_reducible rfl)
          simp only [Act.put, List.getElem_toArray, List.getElem_cons_zero, List.getElem_cons_succ, List.setIfInBounds_toArray, List.set_cons_zero, List.set_cons_succ]
          refine wpAnyH_take (i := 15) (v := .agg (cfl cc Fx nf cf Ox nx cx).toArray) rfl (by kernel_rfl) (by kernel_rfl) (by kernel_rfl) (fun _ _ _ h => h) (yieldsIf_load_part (by kernel_rfl) 32 _ rfl g8 0 40 rfl _ 32 (0, 0) (fun W hW => hW.1) _ rfl _ Try.underlying32 rfl (by kernel_rfl)) hH ?_
          simp only [Act.put, List.getElem_toArray, List.getElem_cons_zero, List.getElem_cons_succ, List.setIfInBounds_toArray, List.set_cons_zero, List.set_cons_succ]
          refine wpAnyH_take (i := 17) (v := .agg (cfl cc Fy nf2 cf2 Oy nx2 cx2).toArray) rfl (by kernel_rfl) (by kernel_rfl) (by kernel_rfl) (fun _ _ _ h => h) (yieldsIf_load_part (by kernel_rfl) 32 _ rfl g11 0 40 rfl _ 32 (0, 0) (fun W hW => hW.2) _ rfl _ Try.underlying32 rfl (by kernel_rfl)) hH ?_
          simp only [Act.put, List.getElem_toArray, List.getElem_cons_zero, List.getElem_cons_succ, List.setIfInBounds_toArray, List.set_cons_zero, List.set_cons_succ]
          refine wpAnyH_ready (rs := [16]) (by kernel_rfl) (by simp) ?_
          refine AllReadyH.cons (o := _) rfl (fun K hK => ?_) AllReadyH.nil
          simp only [List.getElem_toArray, List.getElem_cons_zero, List.getElem_cons_succ]
          go_simp
          with_reducible refine (own_any cc _ _ _ _ _ _ _ hf ho hnf hnx).mono ?_
          rintro e w10 ⟨Gx, ng, cg, Hx, nh, ch, rfl, hg, hh2, frG, frH, b10⟩
          dsimp only
          have av_hg_b16 := frG.av (hlt hb16)
          have av_hg_ca := frG.av (hlt hca)
          have av_hg_cb := frG.av (hlt hcb)
          have av_hh2_b16 := frH.av (hlt hb16)
          have av_hh2_ca := frH.av (hlt hca)
          have av_hh2_cb := frH.av (hlt hcb)
          replace hb16 := blk_u hb16 b10
          replace hca := blk_u hca b10
          replace hcb := blk_u hcb b10
          replace pI := pI.below b10
          replace lt := lt.below b10
          replace hf := hf.below b10
          replace ho := ho.below b10
          replace hf2 := hf2.below b10
          replace ho2 := ho2.below b10
          replace bel := bel.trans (b10.mono bel.size)
          clear b10
          replace hg : Sle fxf 10 w10 (Gx) (ng) (cg) (cc.fixed) := hg
          replace hh2 : Sle opf 7 w10 (Hx) (nh) (ch) (cc.opens) := hh2
          have hng : ng ≤ 1000 := by rw [← hg.1, HCL.out.1]; decide
          have hnh : nh ≤ 1000 := by rw [← hh2.1, HCL.out.2]; decide
          refine hK.out _ _ ⟨hca, hcb⟩ (fun hH11 => ?_)
          clear hK K
          refine wpAnyH_ready (rs := [18]) (by kernel_rfl) (by simp) ?_
          refine AllReadyH.cons (o := _) rfl (fun K hK => ?_) AllReadyH.nil
          simp only [List.getElem_toArray, List.getElem_cons_zero, List.getElem_cons_succ]
          go_simp
          with_reducible refine (own_any cc _ _ _ _ _ _ _ hf2 ho2 hnf2 hnx2).mono ?_
          rintro e w12 ⟨Gy, ng2, cg2, Hy, nh2, ch2, rfl, hg3, hh3, frG3, frH3, b12⟩
          dsimp only
          have av_hg3_b16 := frG3.av (hlt hb16)
          have av_hg3_ca := frG3.av (hlt hca)
          have av_hg3_cb := frG3.av (hlt hcb)
          have av_hh3_b16 := frH3.av (hlt hb16)
          have av_hh3_ca := frH3.av (hlt hca)
          have av_hh3_cb := frH3.av (hlt hcb)
          replace hb16 := blk_u hb16 b12
          replace hca := blk_u hca b12
          replace hcb := blk_u hcb b12
          replace pI := pI.below b12
          replace lt := lt.below b12
          replace hf := hf.below b12
          replace ho := ho.below b12
          replace hf2 := hf2.below b12
          replace ho2 := ho2.below b12
          replace hg := hg.below b12
          replace hh2 := hh2.below b12
          replace bel := bel.trans (b12.mono bel.size)
          clear b12
          replace hg3 : Sle fxf 10 w12 (Gy) (ng2) (cg2) (cc.fixed) := hg3
          replace hh3 : Sle opf 7 w12 (Hy) (nh2) (ch2) (cc.opens) := hh3
          refine hK.out _ _ ⟨hca, hcb⟩ (fun hH13 => ?_)
          clear hK K
          refine wpAnyH_ready (rs := [19]) (by kernel_rfl) (by simp) ?_
          refine AllReadyH.cons (o := _) rfl (fun K hK => ?_) AllReadyH.nil
          simp only [List.getElem_toArray, List.getElem_cons_zero, List.getElem_cons_succ]
          go_simp
          with_reducible refine (same_any cc _ _ _ _ _ _ _ _ _ _ _ _ _ hg hh2 hg3 hh3 hng hnh).mono ?_
          rintro e w14 ⟨rfl, b14⟩
          dsimp only
          replace hb16 := blk_u hb16 b14
          replace hca := blk_u hca b14
          replace hcb := blk_u hcb b14
          replace pI := pI.below b14
          replace lt := lt.below b14
          replace hf := hf.below b14
          replace ho := ho.below b14
          replace hf2 := hf2.below b14
          replace ho2 := ho2.below b14
          replace hg := hg.below b14
          replace hh2 := hh2.below b14
          replace hg3 := hg3.below b14
          replace hh3 := hh3.below b14
          replace bel := bel.trans (b14.mono bel.size)
          clear b14
          clear hg
          clear hh2
          clear hg3
          clear hh3
          refine hK.out _ _ ⟨hca, hcb⟩ (fun hH15 => ?_)
          clear hK K
          refine wpAnyH_take (i := 20) (v := ?_) rfl (by kernel_rfl) (by kernel_rfl) (by kernel_rfl) (fun _ _ _ h => h) (Or.inl ⟨by rfl, ?_⟩) hH15 ?_
          rotate_left
          · ((intro W hW; clear hW; go_simp) <;> with_reducible rfl)
          simp only [Act.put, List.getElem_toArray, List.getElem_cons_zero, List.getElem_cons_succ, List.setIfInBounds_toArray, List.set_cons_zero, List.set_cons_succ]
          refine wpAnyH_take (i := 21) (v := ?_) rfl (by kernel_rfl) (by kernel_rfl) (by kernel_rfl) (fun _ _ _ h => h) (Or.inl ⟨by rfl, ?_⟩) hH15 ?_
          rotate_left
          · ((intro W hW; clear hW; go_simp) <;> with_reducible rfl)
          simp only [Act.put, List.getElem_toArray, List.getElem_cons_zero, List.getElem_cons_succ, List.setIfInBounds_toArray, List.set_cons_zero, List.set_cons_succ]
          refine wpAnyH_take (i := 22) (v := ?_) rfl (by kernel_rfl) (by kernel_rfl) (by kernel_rfl) (fun _ _ _ h => h) (Or.inl ⟨by rfl, ?_⟩) hH15 ?_
          rotate_left
          · ((intro W hW; clear hW; go_simp) <;> with_reducible rfl)
          simp only [Act.put, List.getElem_toArray, List.getElem_cons_zero, List.getElem_cons_succ, List.setIfInBounds_toArray, List.set_cons_zero, List.set_cons_succ]
          refine wpAnyH_done (by kernel_rfl) ?_ _
          go_wp2_with fail
          go_ret
          exact ⟨rfl, bel⟩
end Go.Proofs.Ytdfobilagidmfaa
