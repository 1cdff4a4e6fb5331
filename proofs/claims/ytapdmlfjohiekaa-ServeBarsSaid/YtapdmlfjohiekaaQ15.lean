/- Texts put together: Cg4. -/
import Derived.Test.YtapdmlfjohiekaaQ1
import Derived.Test.YtapdmlfjohiekaaQ13
import Derived.Test.YtapdmlfjohiekaaQ14
namespace Go.Proofs.Ytapdmlfjohiekaa
open Go.RowKit

def fN (n : Ad4) (bt : Int) : Nat := firstN n.num (clamp bt)
def lN (n : Ad4) (bt : Int) : Nat := lastN n.num (clamp bt)
theorem fN_lt (n : Ad4) (bt : Int) : fN n bt < 4294967296 := Nat.lt_of_le_of_lt (firstN_le _ _) n.lt
theorem lN_lt (n : Ad4) (bt : Int) : lN n bt < 4294967296 := lastN_lt _ _ (clamp_le _) n.lt
/-- A host's address in a net. -/
def hostB (n : Ad4) (bt : Int) (x : Ad4) : Bool := (fN n bt == fN x bt) && (!(x.num == fN n bt) && !(x.num == lN n bt))
def Cf.lanB (c : Cf) : Bool := inI c.bits 8 30 && ((c.lan.num == fN c.own c.bits) && hostB c.own c.bits c.own)
def Cf.poolB (c : Cf) : Bool := c.inner c.first && (c.inner c.last && (decide (c.first.num ≤ c.last.num) && (decide (c.last.num - c.first.num < 64) && (decide (c.own.num < c.first.num) || decide (c.last.num < c.own.num)))))
def Cf.restB (c : Cf) : Bool := !isGroup c.lanmac.l && (!isGroup c.wanmac.l && (inI c.time 60 86400 && (inI (c.dns.a.toNat : Int) 1 223 && (inI c.udp 10 86400 && (inI c.tcp 10 86400 && (inI c.icmp 10 86400 && inI c.low 1024 60000))))))
def Cf.fixB (c : Cf) : Bool := !decide (32 < c.fixed.length) && c.fixAll [] c.fixed
def Cf.opnB (c : Cf) : Bool := !decide (32 < c.opens.length) && c.opAll [] c.opens
/-- Check's answer as a number. -/
def errC (b : Bool) : Int := if b then 0 else 1
theorem firstN_idem (n m : Nat) : firstN (firstN n m) m = firstN n m := by
  unfold firstN
  rw [Nat.mul_div_cancel_left _ (Nat.two_pow_pos _)]
theorem lan_eq (c : Cf) : (c.lan.num == fN c.own c.bits && hostB c.own c.bits c.own) = (c.lan.num == c.fst && c.inner c.own) := by
  unfold Cf.inner Cf.has Cf.fst Cf.lst hostB fN lN
  rw [Bool.eq_iff_iff]
  simp only [Bool.and_eq_true, beq_iff_eq, Bool.not_eq_true', beq_eq_false_iff_ne]
  constructor
  · rintro ⟨h1, -, h2, h3⟩
    have hf : firstN c.lan.num (clamp c.bits) = firstN c.own.num (clamp c.bits) := by rw [h1, firstN_idem]
    have hl : lastN c.lan.num (clamp c.bits) = lastN c.own.num (clamp c.bits) := by
      have e : lastN c.lan.num (clamp c.bits) = firstN c.lan.num (clamp c.bits) + (2 ^ (32 - clamp c.bits) - 1) := rfl
      rw [e, hf]; rfl
    exact ⟨by rw [hf]; exact h1, hf, by rw [hf]; exact h2, by rw [hl]; exact h3⟩
  · rintro ⟨h1, h2, h3, h4⟩
    have hl : lastN c.lan.num (clamp c.bits) = lastN c.own.num (clamp c.bits) := by
      have e : lastN c.lan.num (clamp c.bits) = firstN c.lan.num (clamp c.bits) + (2 ^ (32 - clamp c.bits) - 1) := rfl
      rw [e, h2]; rfl
    exact ⟨by rw [← h2]; exact h1, trivial, by rw [← h2]; exact h3, by rw [← hl]; exact h4⟩
theorem Cf.check_is (c : Cf) : c.check = (c.lanB && (c.poolB && (c.restB && (c.fixB && c.opnB)))) := by
  have hl := lan_eq c
  unfold Cf.check Cf.checkA Cf.checkB Cf.checkC Cf.lanB Cf.poolB Cf.restB Cf.fixB Cf.opnB
  rw [hl]
  have e1 : (!decide (c.last.num < c.first.num)) = decide (c.first.num ≤ c.last.num) := by
    rw [Bool.eq_iff_iff]; simp
  have e2 : (!decide (64 ≤ c.last.num - c.first.num)) = decide (c.last.num - c.first.num < 64) := by
    rw [Bool.eq_iff_iff]; simp
  have e3 : (!(decide (c.first.num ≤ c.own.num) && decide (c.own.num ≤ c.last.num))) = (decide (c.own.num < c.first.num) || decide (c.last.num < c.own.num)) := by
    rw [Bool.eq_iff_iff]; simp <;> omega
  rw [e1, e2, e3, Bool.not_not]
  generalize inI c.bits 8 30 = a0
  generalize (c.lan.num == c.fst) = a1
  generalize c.inner c.own = a2
  generalize isGroup c.lanmac.l = a3
  generalize isGroup c.wanmac.l = a4
  generalize c.inner c.first = a5
  generalize c.inner c.last = a6
  generalize decide (c.first.num ≤ c.last.num) = a7
  generalize decide (c.last.num - c.first.num < 64) = a8
  generalize (decide (c.own.num < c.first.num) || decide (c.last.num < c.own.num)) = a9
  generalize inI c.time 60 86400 = b0
  generalize inI (c.dns.a.toNat : Int) 1 223 = b1
  generalize inI c.udp 10 86400 = b2
  generalize inI c.tcp 10 86400 = b3
  generalize inI c.icmp 10 86400 = b4
  generalize inI c.low 1024 60000 = b5
  generalize decide (32 < c.fixed.length) = b6
  generalize decide (32 < c.opens.length) = b7
  generalize c.fixAll [] c.fixed = b8
  generalize c.opAll [] c.opens = b9
  rw [Bool.eq_iff_iff]
  simp only [Bool.and_eq_true, Bool.not_eq_true']
  constructor
  · rintro ⟨⟨h0, h1, h2, h3, h4⟩, ⟨h5, h6, h7, h8, h9⟩, ⟨k0, k1, k2, k3, k4, k5, k6, k7⟩, k8, k9⟩
    exact ⟨⟨h0, h1, h2⟩, ⟨h5, h6, h7, h8, h9⟩, ⟨h3, h4, k0, k1, k2, k3, k4, k5⟩, ⟨k6, k8⟩, k7, k9⟩
  · rintro ⟨⟨h0, h1, h2⟩, ⟨h5, h6, h7, h8, h9⟩, ⟨h3, h4, k0, k1, k2, k3, k4, k5⟩, ⟨k6, k8⟩, k7, k9⟩
    exact ⟨⟨h0, h1, h2, h3, h4⟩, ⟨h5, h6, h7, h8, h9⟩, ⟨k0, k1, k2, k3, k4, k5, k6, k7⟩, k8, k9⟩
theorem ad_neq2 (x y : Ad4) (W : World) : (binOp .neq 28 (.agg #[.int .u8 (x.a.toNat : Int), .int .u8 (x.b.toNat : Int), .int .u8 (x.c.toNat : Int), .int .u8 (x.d.toNat : Int)]) (.agg #[.int .u8 (y.a.toNat : Int), .int .u8 (y.b.toNat : Int), .int .u8 (y.c.toNat : Int), .int .u8 (y.d.toNat : Int)])).run Try.prog W = .ok (.bool (!(x.num == y.num))) W := by
  rw [← y.cells]; exact ad_neq x _ y.lt W
theorem beq_flip {α : Type} [BEq α] [LawfulBEq α] (a b : α) : (a == b) = (b == a) := by
  rw [Bool.eq_iff_iff, beq_iff_eq, beq_iff_eq]; exact eq_comm
/-- The front of a slice of any elements. -/
theorem sle_front {α : Type} {f : α → List Value} {k : Nat} {w : World} {A : Option Addr} {n c : Nat} {l : List α} (T e : TypeId) (hu : Try.prog.underlying T = some (.slice (Try.prog.elem T))) (he : Try.prog.elem T = e) (hz : ∀ w, (Go.sizeOf e).run Try.prog w = .ok k w) (h : Sle f k w A n c l) {m : Nat} (hm : m ≤ n) :
    ∃ A' c', (∀ W, (Instr.slice T (.slice A n c) none (some (.int .i64 (m : Int))) none).run Try.prog W = .ok (.slice A' m c') W) ∧ (∀ W, Sle f k W A n c l → Sle f k W A' m c' (l.take m)) ∧ Sub A' m A n := by
  have h2 := h.2.1
  have hA : (if c = 0 then A else A.map (·.add (0 * k))) = A := by
    split
    · rfl
    · cases A with
      | none => rfl
      | some a => simp [Addr.add]
  refine ⟨(if c = 0 then A else A.map (·.add (0 * k))), c - 0, fun W => ?_, fun W hW => ?_, ?_⟩
  · rw [run_slice_h W T A n c hu .i64 _ (by omega) (by omega), he, hz]
    simp [Result.andThen, sliced]
  · rw [hA]
    exact hW.take hm
  · rw [hA]
    exact fun h0 => ⟨by omega, fun a o p e => ⟨o, p, e⟩⟩
theorem take_get {α : Type} {l : List α} {i j : Nat} {x : α} (h : j < i) (hx : l[j]? = some x) : (l.take i)[j]? = some x := by rw [List.getElem?_take, if_pos h]; exact hx
set_option linter.unusedVariables false in
set_option linter.unusedSimpArgs false in
set_option maxRecDepth 100000 in
set_option maxHeartbeats 16000000 in
theorem isHost_any (n x : Ad4) (bt : Int) (w : World) : Calls Try.prog 55 #[.agg #[.int .u8 (n.a.toNat : Int), .int .u8 (n.b.toNat : Int), .int .u8 (n.c.toNat : Int), .int .u8 (n.d.toNat : Int), .int .i64 bt], .agg #[.int .u8 (x.a.toNat : Int), .int .u8 (x.b.toNat : Int), .int .u8 (x.c.toNat : Int), .int .u8 (x.d.toNat : Int)]] w fun e w' => e = .returned (.bool (hostB n bt x)) ∧ Below w.heap.size w w' := by
  have gd := ad_guard
  have bel := Below.refl w.heap.size w
  go_enter Try.func55, Try.ntmps55
  go_wp2_with (first | ((with_reducible show wpList _ _ _ (⟨some 2, _, _, _, _, _⟩ :: _) _ _); refine wpList_box_n rfl 30 (.tmp 0) rfl #[.int .u8 (n.a.toNat : Int), .int .u8 (n.b.toNat : Int), .int .u8 (n.c.toNat : Int), .int .u8 (n.d.toNat : Int), .int .i64 bt] rfl ?_; intro g2 w1 ge lt hh bb; have op := Nat.le_trans bel.size ge; replace bel := bel.trans (bb.mono bel.size); have hp := hh; clear hh lt ge bb) | ((with_reducible show wpList _ _ _ (⟨some 3, _, _, _, _, _⟩ :: _) _ _); refine wpList_box_n rfl 28 (.tmp 1) rfl #[.int .u8 (x.a.toNat : Int), .int .u8 (x.b.toNat : Int), .int .u8 (x.c.toNat : Int), .int .u8 (x.d.toNat : Int)] rfl ?_; intro g3 w2 ge lt hh bb; have d_p_y := ne_new (hlt hp) ge; have oy := Nat.le_trans bel.size ge; replace hp := blk_u hp bb; replace bel := bel.trans (bb.mono bel.size); have hy := hh; clear hh lt ge bb))
  replace bel := bel.drew
  replace hp : w2.drew.heap[g2]? = _ := hp
  replace hy : w2.drew.heap[g3]? = _ := hy
  refine wp_region_held_drew (S := fun W => W.heap[g2]? = some (.cells #[.int .u8 (n.a.toNat : Int), .int .u8 (n.b.toNat : Int), .int .u8 (n.c.toNat : Int), .int .u8 (n.d.toNat : Int), .int .i64 bt] 30 (0, 0)) ∧ W.heap[g3]? = some (.cells #[.int .u8 (x.a.toNat : Int), .int .u8 (x.b.toNat : Int), .int .u8 (x.c.toNat : Int), .int .u8 (x.d.toNat : Int)] 28 (0, 0))) (by kernel_rfl) ⟨hp, hy⟩ (fun hH => ?_)
  generalize w2.drew = w3 at bel hp hy hH ⊢
  refine wpAnyH_take (i := 0) (v := .agg #[.int .u8 (n.a.toNat : Int), .int .u8 (n.b.toNat : Int), .int .u8 (n.c.toNat : Int), .int .u8 (n.d.toNat : Int), .int .i64 bt]) rfl (by kernel_rfl) (by kernel_rfl) (by kernel_rfl) (fun _ _ _ h => h) (yieldsIf_load_part (by kernel_rfl) 30 _ rfl g2 0 5 rfl _ 30 (0, 0) (fun W hW => hW.1) _ rfl _ Try.underlying30 rfl (by kernel_rfl)) hH ?_
  simp only [Act.put, List.getElem_toArray, List.getElem_cons_zero, List.setIfInBounds_toArray, List.set_cons_zero, List.set_cons_succ]
  refine wpAnyH_take (i := 1) (v := .agg #[.int .u8 (x.a.toNat : Int), .int .u8 (x.b.toNat : Int), .int .u8 (x.c.toNat : Int), .int .u8 (x.d.toNat : Int)]) rfl (by kernel_rfl) (by kernel_rfl) (by kernel_rfl) (fun _ _ _ h => h) (yieldsIf_load_part (by kernel_rfl) 28 _ rfl g3 0 4 rfl _ 28 (0, 0) (fun W hW => hW.2) _ rfl _ Try.underlying28 rfl (by kernel_rfl)) hH ?_
  simp only [sq3, sq4]
  refine wpAnyH_ready (rs := [2]) (by kernel_rfl) (by simp) ?_
  refine AllReadyH.cons (o := _) rfl (fun K hK => ?_) AllReadyH.nil
  simp only [sq3]
  go_simp
  with_reducible refine (ahas_any _ _ _ _ _ _ _ _ _ _).mono ?_
  rintro e w4 ⟨rfl, b4⟩
  dsimp only
  replace hp := blk_u hp b4
  replace hy := blk_u hy b4
  replace bel := bel.trans (b4.mono bel.size)
  clear b4
  rw [show (firstN (be [n.a, n.b, n.c, n.d]) (clamp bt) == firstN (be [x.a, x.b, x.c, x.d]) (clamp bt)) = (fN n bt == fN x bt) from rfl]
  obtain ⟨h1, HH1_⟩ : ∃ b, (fN n bt == fN x bt) = b := ⟨_, rfl⟩
  have HH1 := Lib.hid HH1_
  rw [HH1_]
  clear HH1_
  refine hK.out _ _ ⟨hp, hy⟩ (fun hH5 => ?_)
  clear hK K
  refine wpAnyH_take (i := 3) (v := ?_) rfl (by kernel_rfl) (by kernel_rfl) (by kernel_rfl) (fun _ _ _ h => h) (Or.inl ⟨by rfl, ?_⟩) hH5 ?_
  rotate_left
  · ((intro W hW; clear hW; go_simp) <;> with_reducible rfl)
  simp only [sq3, sq4]
  rcases h1 with _ | _
  · have HP : Hid (hostB n bt x = false) := Lib.hid (by unfold hostB; rw [HH1.out, Bool.false_and])
    refine wpAnyH_take (i := 4) (v := undef) rfl (by kernel_rfl) (by kernel_rfl) (by kernel_rfl) (fun _ _ _ h => h) (Or.inr ⟨by rfl, rfl⟩) hH5 ?_
    simp only [sq3, sq4]
    refine wpAnyH_take (i := 5) (v := undef) rfl (by kernel_rfl) (by kernel_rfl) (by kernel_rfl) (fun _ _ _ h => h) (Or.inr ⟨by rfl, rfl⟩) hH5 ?_
    simp only [sq3, sq4]
    refine wpAnyH_take (i := 6) (v := undef) rfl (by kernel_rfl) (by kernel_rfl) (by kernel_rfl) (fun _ _ _ h => h) (Or.inr ⟨by rfl, rfl⟩) hH5 ?_
    simp only [sq3, sq4]
    refine wpAnyH_take (i := 7) (v := undef) rfl (by kernel_rfl) (by kernel_rfl) (by kernel_rfl) (fun _ _ _ h => h) (Or.inr ⟨by rfl, rfl⟩) hH5 ?_
    simp only [sq3, sq4]
    refine wpAnyH_take (i := 8) (v := ?_) rfl (by kernel_rfl) (by kernel_rfl) (by kernel_rfl) (fun _ _ _ h => h) (Or.inl ⟨by rfl, ?_⟩) hH5 ?_
    rotate_left
    · ((intro W hW; clear hW; go_simp) <;> with_reducible rfl)
    simp only [sq3, sq4]
    refine wpAnyH_take (i := 9) (v := ?_) rfl (by kernel_rfl) (by kernel_rfl) (by kernel_rfl) (fun _ _ _ h => h) (Or.inl ⟨by rfl, ?_⟩) hH5 ?_
    rotate_left
    · ((intro W hW; clear hW; go_simp) <;> with_reducible rfl)
    simp only [sq3, sq4]
    refine wpAnyH_take (i := 10) (v := undef) rfl (by kernel_rfl) (by kernel_rfl) (by kernel_rfl) (fun _ _ _ h => h) (Or.inr ⟨by rfl, rfl⟩) hH5 ?_
    simp only [sq3, sq4]
    refine wpAnyH_take (i := 11) (v := undef) rfl (by kernel_rfl) (by kernel_rfl) (by kernel_rfl) (fun _ _ _ h => h) (Or.inr ⟨by rfl, rfl⟩) hH5 ?_
    simp only [sq3, sq4]
    refine wpAnyH_take (i := 12) (v := undef) rfl (by kernel_rfl) (by kernel_rfl) (by kernel_rfl) (fun _ _ _ h => h) (Or.inr ⟨by rfl, rfl⟩) hH5 ?_
    simp only [sq3, sq4]
    refine wpAnyH_take (i := 13) (v := undef) rfl (by kernel_rfl) (by kernel_rfl) (by kernel_rfl) (fun _ _ _ h => h) (Or.inr ⟨by rfl, rfl⟩) hH5 ?_
    simp only [sq3, sq4]
    refine wpAnyH_take (i := 14) (v := ?_) rfl (by kernel_rfl) (by kernel_rfl) (by kernel_rfl) (fun _ _ _ h => h) (Or.inl ⟨by rfl, ?_⟩) hH5 ?_
    rotate_left
    · ((intro W hW; clear hW; go_simp) <;> with_reducible rfl)
    simp only [sq3, sq4]
    refine wpAnyH_take (i := 15) (v := ?_) rfl (by kernel_rfl) (by kernel_rfl) (by kernel_rfl) (fun _ _ _ h => h) (Or.inl ⟨by rfl, ?_⟩) hH5 ?_
    rotate_left
    · ((intro W hW; clear hW; go_simp) <;> with_reducible rfl)
    simp only [sq3, sq4]
    refine wpAnyH_done (by kernel_rfl) ?_ _
    go_wp2_with fail
    go_ret
    exact ⟨by rw [HP.out]; rfl, bel⟩
  · refine wpAnyH_take (i := 4) (v := .agg #[.int .u8 (x.a.toNat : Int), .int .u8 (x.b.toNat : Int), .int .u8 (x.c.toNat : Int), .int .u8 (x.d.toNat : Int)]) rfl (by kernel_rfl) (by kernel_rfl) (by kernel_rfl) (fun _ _ _ h => h) (yieldsIf_load_part (by kernel_rfl) 28 _ rfl g3 0 4 rfl _ 28 (0, 0) (fun W hW => hW.2) _ rfl _ Try.underlying28 rfl (by kernel_rfl)) hH5 ?_
    simp only [sq3, sq4]
    refine wpAnyH_take (i := 5) (v := .agg #[.int .u8 (n.a.toNat : Int), .int .u8 (n.b.toNat : Int), .int .u8 (n.c.toNat : Int), .int .u8 (n.d.toNat : Int), .int .i64 bt]) rfl (by kernel_rfl) (by kernel_rfl) (by kernel_rfl) (fun _ _ _ h => h) (yieldsIf_load_part (by kernel_rfl) 30 _ rfl g2 0 5 rfl _ 30 (0, 0) (fun W hW => hW.1) _ rfl _ Try.underlying30 rfl (by kernel_rfl)) hH5 ?_
    simp only [sq3, sq4]
    refine wpAnyH_ready (rs := [6]) (by kernel_rfl) (by simp) ?_
    refine AllReadyH.cons (o := _) rfl (fun K hK => ?_) AllReadyH.nil
    simp only [sq3]
    go_simp
    with_reducible refine (afirst_any _ _ _ _ _ _).mono ?_
    rintro e w6 ⟨rfl, b6⟩
    dsimp only
    replace hp := blk_u hp b6
    replace hy := blk_u hy b6
    replace bel := bel.trans (b6.mono bel.size)
    clear b6
    rw [show firstN (be [n.a, n.b, n.c, n.d]) (clamp bt) = fN n bt from rfl]
    obtain ⟨h2, HH2_⟩ : ∃ b, (!(x.num == fN n bt)) = b := ⟨_, rfl⟩
    have HH2 := Lib.hid HH2_
    have qh2 : ∀ W, (binOp .neq 28 (.agg #[.int .u8 (x.a.toNat : Int), .int .u8 (x.b.toNat : Int), .int .u8 (x.c.toNat : Int), .int .u8 (x.d.toNat : Int)]) (adr (fN n bt))).run Try.prog W = .ok (.bool h2) W := fun W => by rw [ad_neq x _ (fN_lt _ _), HH2_]
    clear HH2_
    refine hK.out _ _ ⟨hp, hy⟩ (fun hH7 => ?_)
    clear hK K
    refine wpAnyH_take (i := 7) (v := ?_) rfl (by kernel_rfl) (by kernel_rfl) (by kernel_rfl) (fun _ _ _ h => h) (Or.inl ⟨by rfl, ?_⟩) hH7 ?_
    rotate_left
    · ((intro W hW; clear hW; go_simp) <;> with_reducible rfl)
    simp only [sq3, sq4]
    refine wpAnyH_take (i := 8) (v := ?_) rfl (by kernel_rfl) (by kernel_rfl) (by kernel_rfl) (fun _ _ _ h => h) (Or.inl ⟨by rfl, ?_⟩) hH7 ?_
    rotate_left
    · ((intro W hW; clear hW; go_simp) <;> with_reducible rfl)
    simp only [sq3, sq4]
    refine wpAnyH_take (i := 9) (v := ?_) rfl (by kernel_rfl) (by kernel_rfl) (by kernel_rfl) (fun _ _ _ h => h) (Or.inl ⟨by rfl, ?_⟩) hH7 ?_
    rotate_left
    · ((intro W hW; clear hW; go_simp) <;> with_reducible rfl)
    simp only [sq3, sq4]
    rcases h2 with _ | _
    · have HP : Hid (hostB n bt x = false) := Lib.hid (by unfold hostB; rw [HH1.out, HH2.out]; rfl)
      refine wpAnyH_take (i := 10) (v := undef) rfl (by kernel_rfl) (by kernel_rfl) (by kernel_rfl) (fun _ _ _ h => h) (Or.inr ⟨by rfl, rfl⟩) hH7 ?_
      simp only [sq3, sq4]
      refine wpAnyH_take (i := 11) (v := undef) rfl (by kernel_rfl) (by kernel_rfl) (by kernel_rfl) (fun _ _ _ h => h) (Or.inr ⟨by rfl, rfl⟩) hH7 ?_
      simp only [sq3, sq4]
      refine wpAnyH_take (i := 12) (v := undef) rfl (by kernel_rfl) (by kernel_rfl) (by kernel_rfl) (fun _ _ _ h => h) (Or.inr ⟨by rfl, rfl⟩) hH7 ?_
      simp only [sq3, sq4]
      refine wpAnyH_take (i := 13) (v := undef) rfl (by kernel_rfl) (by kernel_rfl) (by kernel_rfl) (fun _ _ _ h => h) (Or.inr ⟨by rfl, rfl⟩) hH7 ?_
      simp only [sq3, sq4]
      refine wpAnyH_take (i := 14) (v := ?_) rfl (by kernel_rfl) (by kernel_rfl) (by kernel_rfl) (fun _ _ _ h => h) (Or.inl ⟨by rfl, ?_⟩) hH7 ?_
      rotate_left
      · ((intro W hW; clear hW; go_simp) <;> with_reducible rfl)
      simp only [sq3, sq4]
      refine wpAnyH_take (i := 15) (v := ?_) rfl (by kernel_rfl) (by kernel_rfl) (by kernel_rfl) (fun _ _ _ h => h) (Or.inl ⟨by rfl, ?_⟩) hH7 ?_
      rotate_left
      · ((intro W hW; clear hW; go_simp) <;> with_reducible rfl)
      simp only [sq3, sq4]
      refine wpAnyH_done (by kernel_rfl) ?_ _
      go_wp2_with fail
      go_ret
      exact ⟨by rw [HP.out]; rfl, bel⟩
    · refine wpAnyH_take (i := 10) (v := .agg #[.int .u8 (x.a.toNat : Int), .int .u8 (x.b.toNat : Int), .int .u8 (x.c.toNat : Int), .int .u8 (x.d.toNat : Int)]) rfl (by kernel_rfl) (by kernel_rfl) (by kernel_rfl) (fun _ _ _ h => h) (yieldsIf_load_part (by kernel_rfl) 28 _ rfl g3 0 4 rfl _ 28 (0, 0) (fun W hW => hW.2) _ rfl _ Try.underlying28 rfl (by kernel_rfl)) hH7 ?_
      simp only [sq3, sq4]
      refine wpAnyH_take (i := 11) (v := .agg #[.int .u8 (n.a.toNat : Int), .int .u8 (n.b.toNat : Int), .int .u8 (n.c.toNat : Int), .int .u8 (n.d.toNat : Int), .int .i64 bt]) rfl (by kernel_rfl) (by kernel_rfl) (by kernel_rfl) (fun _ _ _ h => h) (yieldsIf_load_part (by kernel_rfl) 30 _ rfl g2 0 5 rfl _ 30 (0, 0) (fun W hW => hW.1) _ rfl _ Try.underlying30 rfl (by kernel_rfl)) hH7 ?_
      simp only [sq3, sq4]
      refine wpAnyH_ready (rs := [12]) (by kernel_rfl) (by simp) ?_
      refine AllReadyH.cons (o := _) rfl (fun K hK => ?_) AllReadyH.nil
      simp only [sq3]
      go_simp
      with_reducible refine (alast_any _ _ _ _ _ _).mono ?_
      rintro e w8 ⟨rfl, b8⟩
      dsimp only
      replace hp := blk_u hp b8
      replace hy := blk_u hy b8
      replace bel := bel.trans (b8.mono bel.size)
      clear b8
      rw [show lastN (be [n.a, n.b, n.c, n.d]) (clamp bt) = lN n bt from rfl]
      obtain ⟨h3, HH3_⟩ : ∃ b, (!(x.num == lN n bt)) = b := ⟨_, rfl⟩
      have HH3 := Lib.hid HH3_
      have qh3 : ∀ W, (binOp .neq 28 (.agg #[.int .u8 (x.a.toNat : Int), .int .u8 (x.b.toNat : Int), .int .u8 (x.c.toNat : Int), .int .u8 (x.d.toNat : Int)]) (adr (lN n bt))).run Try.prog W = .ok (.bool h3) W := fun W => by rw [ad_neq x _ (lN_lt _ _), HH3_]
      clear HH3_
      refine hK.out _ _ ⟨hp, hy⟩ (fun hH9 => ?_)
      clear hK K
      refine wpAnyH_take (i := 13) (v := ?_) rfl (by kernel_rfl) (by kernel_rfl) (by kernel_rfl) (fun _ _ _ h => h) (Or.inl ⟨by rfl, ?_⟩) hH9 ?_
      rotate_left
      · ((intro W hW; clear hW; go_simp) <;> with_reducible rfl)
      simp only [sq3, sq4]
      refine wpAnyH_take (i := 14) (v := ?_) rfl (by kernel_rfl) (by kernel_rfl) (by kernel_rfl) (fun _ _ _ h => h) (Or.inl ⟨by rfl, ?_⟩) hH9 ?_
      rotate_left
      · ((intro W hW; clear hW; go_simp) <;> with_reducible rfl)
      simp only [sq3, sq4]
      refine wpAnyH_take (i := 15) (v := ?_) rfl (by kernel_rfl) (by kernel_rfl) (by kernel_rfl) (fun _ _ _ h => h) (Or.inl ⟨by rfl, ?_⟩) hH9 ?_
      rotate_left
      · ((intro W hW; clear hW; go_simp) <;> with_reducible rfl)
      simp only [sq3, sq4]
      have HP : Hid (hostB n bt x = h3) := Lib.hid (by unfold hostB; rw [HH1.out, HH2.out, HH3.out]; rfl)
      refine wpAnyH_done (by kernel_rfl) ?_ _
      go_wp2_with fail
      go_ret
      exact ⟨by rw [HP.out]; rfl, bel⟩
set_option linter.unusedVariables false in
set_option linter.unusedSimpArgs false in
set_option maxRecDepth 100000 in
set_option maxHeartbeats 16000000 in
theorem isOther_any (c : Cf) (x : Ad4) (Fx : Option Addr) (nf cf : Nat) (Ox : Option Addr) (nx cx : Nat) (w : World) : Calls Try.prog 57 #[.agg (cfl c Fx nf cf Ox nx cx).toArray, .agg #[.int .u8 (x.a.toNat : Int), .int .u8 (x.b.toNat : Int), .int .u8 (x.c.toNat : Int), .int .u8 (x.d.toNat : Int)]] w fun e w' => e = .returned (.bool (c.inner x && !(x.num == c.own.num))) ∧ Below w.heap.size w w' := by
  have gd := ad_guard2
  have bel := Below.refl w.heap.size w
  go_enter Try.func57, Try.ntmps57
  go_wp2_with (first | ((with_reducible show wpList _ _ _ (⟨some 2, _, _, _, _, _⟩ :: _) _ _); refine wpList_box_n rfl 36 (.tmp 0) rfl (cfl c Fx nf cf Ox nx cx).toArray rfl ?_; intro g2 w1 ge lt hh bb; have op := Nat.le_trans bel.size ge; replace bel := bel.trans (bb.mono bel.size); have hp := hh; clear hh lt ge bb) | ((with_reducible show wpList _ _ _ (⟨some 3, _, _, _, _, _⟩ :: _) _ _); refine wpList_box_n rfl 28 (.tmp 1) rfl #[.int .u8 (x.a.toNat : Int), .int .u8 (x.b.toNat : Int), .int .u8 (x.c.toNat : Int), .int .u8 (x.d.toNat : Int)] rfl ?_; intro g3 w2 ge lt hh bb; have d_p_y := ne_new (hlt hp) ge; have oy := Nat.le_trans bel.size ge; replace hp := blk_u hp bb; replace bel := bel.trans (bb.mono bel.size); have hy := hh; clear hh lt ge bb; have R6 := Lib.hid (range_lit hp 4 5 [.int .u8 (c.lan.a.toNat : Int), .int .u8 (c.lan.b.toNat : Int), .int .u8 (c.lan.c.toNat : Int), .int .u8 (c.lan.d.toNat : Int), .int .i64 c.bits] rfl)) | ((with_reducible show wpList _ _ _ (⟨some 6, _, _, _, _, _⟩ :: _) _ _); refine wpList_load_rng 30 (.tmp 5) rfl (by kernel_rfl) _ _ rfl _ R6.out _ Try.underlying30 rfl (by kernel_rfl) ?_; have R7 := Lib.hid (range_lit hy 0 4 [.int .u8 (x.a.toNat : Int), .int .u8 (x.b.toNat : Int), .int .u8 (x.c.toNat : Int), .int .u8 (x.d.toNat : Int)] rfl)) | ((with_reducible show wpList _ _ _ (⟨some 7, _, _, _, _, _⟩ :: _) _ _); refine wpList_load_rng 28 (.tmp 3) rfl (by kernel_rfl) _ _ rfl _ R7.out _ Try.underlying28 rfl (by kernel_rfl) ?_))
  try clear R6
  try clear R7
  with_reducible refine (isHost_any (c.lan) (x) (c.bits) _).mono ?_
  rintro e w3 ⟨rfl, b3⟩
  replace hp := blk_u hp b3
  replace hy := blk_u hy b3
  replace bel := bel.trans (b3.mono bel.size)
  clear b3
  rw [show hostB (c.lan) (c.bits) (x) = c.inner x from rfl]
  obtain ⟨h1, HH1_⟩ : ∃ b, c.inner x = b := ⟨_, rfl⟩
  have HH1 := Lib.hid HH1_
  rw [HH1_]
  clear HH1_
  rcases h1 with _ | _
  · have HP : Hid ((c.inner x && !(x.num == c.own.num)) = false) := Lib.hid (by rw [HH1.out]; rfl)
    go_wp2_with fail
    go_ret
    exact ⟨by rw [HP.out]; rfl, bel⟩
  · obtain ⟨h2, HH2_⟩ : ∃ b, (!(x.num == c.own.num)) = b := ⟨_, rfl⟩
    have HH2 := Lib.hid HH2_
    have HP : Hid ((c.inner x && !(x.num == c.own.num)) = h2) := Lib.hid (by rw [HH1.out, HH2.out]; rfl)
    have q2 : ∀ W, (binOp .neq 28 (.agg #[.int .u8 (x.a.toNat : Int), .int .u8 (x.b.toNat : Int), .int .u8 (x.c.toNat : Int), .int .u8 (x.d.toNat : Int)]) (.agg #[.int .u8 (c.own.a.toNat : Int), .int .u8 (c.own.b.toNat : Int), .int .u8 (c.own.c.toNat : Int), .int .u8 (c.own.d.toNat : Int)])).run Try.prog W = .ok (.bool h2) W := fun W => by rw [ad_neq2, HH2_]
    clear HH2_
    have R10 := Lib.hid (range_lit hy 0 4 [.int .u8 (x.a.toNat : Int), .int .u8 (x.b.toNat : Int), .int .u8 (x.c.toNat : Int), .int .u8 (x.d.toNat : Int)] rfl)
    go_wp2_with (first | ((with_reducible show wpList _ _ _ (⟨some 10, _, _, _, _, _⟩ :: _) _ _); refine wpList_load_rng 28 (.tmp 3) rfl (by kernel_rfl) _ _ rfl _ R10.out _ Try.underlying28 rfl (by kernel_rfl) ?_; have R12 := Lib.hid (range_lit hp 0 4 [.int .u8 (c.own.a.toNat : Int), .int .u8 (c.own.b.toNat : Int), .int .u8 (c.own.c.toNat : Int), .int .u8 (c.own.d.toNat : Int)] rfl)) | ((with_reducible show wpList _ _ _ (⟨some 12, _, _, _, _, _⟩ :: _) _ _); refine wpList_load_rng 28 (.tmp 11) rfl (by kernel_rfl) _ _ rfl _ R12.out _ Try.underlying28 rfl (by kernel_rfl) ?_))
    try clear R10
    try clear R12
    go_ret
    exact ⟨by rw [HP.out]; rfl, bel⟩
set_option linter.unusedVariables false in
set_option linter.unusedSimpArgs false in
set_option maxRecDepth 100000 in
set_option maxHeartbeats 16000000 in
theorem lanFits_any (c : Cf) (Fx : Option Addr) (nf cf : Nat) (Ox : Option Addr) (nx cx : Nat) (w : World) : Calls Try.prog 31 #[.agg (cfl c Fx nf cf Ox nx cx).toArray] w fun e w' => e = .returned (.bool (c.lanB)) ∧ Below w.heap.size w w' := by
  have gd := ad_guard
  have gd2 := ad_guard2
  have bel := Below.refl w.heap.size w
  go_enter Try.func31, Try.ntmps31
  go_wp2_with (first | ((with_reducible show wpList _ _ _ (⟨some 1, _, _, _, _, _⟩ :: _) _ _); refine wpList_box_n rfl 36 (.tmp 0) rfl (cfl c Fx nf cf Ox nx cx).toArray rfl ?_; intro g1 w1 ge lt hh bb; have op := Nat.le_trans bel.size ge; replace bel := bel.trans (bb.mono bel.size); have hp := hh; clear hh lt ge bb; have R6 := cell_lit hp 8 _ rfl))
  try clear R6
  with_reducible refine (within_any _ _ _ _).mono ?_
  rintro e _ ⟨rfl, rfl⟩
  obtain ⟨b0, HB0_⟩ : ∃ b, inI (c.bits) 8 30 = b := ⟨_, rfl⟩
  have HB0 := Lib.hid HB0_
  rw [HB0_]
  clear HB0_
  rcases b0 with _ | _
  · have HP : Hid (c.lanB = false) := Lib.hid (by unfold Cf.lanB; rw [HB0.out]; simp)
    go_wp2_with fail
    go_ret
    exact ⟨by rw [HP.out]; rfl, bel⟩
  · have R10 := Lib.hid (range_lit hp 0 4 [.int .u8 (c.own.a.toNat : Int), .int .u8 (c.own.b.toNat : Int), .int .u8 (c.own.c.toNat : Int), .int .u8 (c.own.d.toNat : Int)] rfl)
    go_wp2_with (first | ((with_reducible show wpList _ _ _ (⟨some 10, _, _, _, _, _⟩ :: _) _ _); refine wpList_load_rng 28 (.tmp 9) rfl (by kernel_rfl) _ _ rfl _ R10.out _ Try.underlying28 rfl (by kernel_rfl) ?_; have R13 := cell_lit hp 8 _ rfl) | ((with_reducible show wpList _ _ _ (⟨some 3, _, _, _, _, _⟩ :: _) _ _); refine wpList_new_a rfl 30 rfl #[.int .u8 0, .int .u8 0, .int .u8 0, .int .u8 0, .int .i64 0] (by kernel_rfl) ?_; intro g3 w2 ge hh bb; have d_p_n := ne_new (hlt hp) ge; have on := Nat.le_trans bel.size ge; replace hp := blk_u hp bb; replace bel := bel.trans (bb.mono bel.size); have hn := hh; clear hh ge bb) | ((with_reducible show wpList _ _ _ (⟨none, Op.store _ (.tmp 3) _, _, _, _, _⟩ :: _) _ _); refine wpList_store_blk rfl 30 (.tmp 3) (.tmp 14) rfl g3 rfl _ rfl _ 30 hn (by rfl) (by kernel_rfl) (by kernel_rfl) ?_; intro w3 hq gr; replace hp := blk_a hp gr d_p_n; replace bel := below_grown bel gr on bel.size; clear hn; have hn := hq; clear hq gr))
    try clear R10
    try clear R13
    replace bel := bel.drew
    replace hp : w3.drew.heap[g1]? = _ := hp
    replace hn : w3.drew.heap[g3]? = _ := hn
    refine wp_region_held_drew (S := fun W => W.heap[g1]? = some (.cells (cfl c Fx nf cf Ox nx cx).toArray 36 (0, 0)) ∧ W.heap[g3]? = some (.cells #[.int .u8 (c.own.a.toNat : Int), .int .u8 (c.own.b.toNat : Int), .int .u8 (c.own.c.toNat : Int), .int .u8 (c.own.d.toNat : Int), .int .i64 c.bits] 30 (0, 0))) (by kernel_rfl) ⟨hp, hn⟩ (fun hH => ?_)
    generalize w3.drew = w4 at bel hp hn hH ⊢
    refine wpAnyH_take (i := 0) (v := ?_) rfl (by kernel_rfl) (by kernel_rfl) (by kernel_rfl) (fun _ _ _ h => h) (Or.inl ⟨by rfl, ?_⟩) hH ?_
    rotate_left
    · ((intro W hW; clear hW; go_simp) <;> with_reducible rfl)
    simp only [Act.put, List.getElem_toArray, List.getElem_cons_zero, List.setIfInBounds_toArray, List.set_cons_zero, List.set_cons_succ]
    refine wpAnyH_take (i := 1) (v := ?_) rfl (by kernel_rfl) (by kernel_rfl) (by kernel_rfl) (fun _ _ _ h => h) (Or.inl ⟨by rfl, ?_⟩) hH ?_
    rotate_left
    · ((intro W hW; clear hW; go_simp) <;> with_reducible rfl)
    simp only [sq3, sq4]
    refine wpAnyH_take (i := 2) (v := .agg #[.int .u8 (c.lan.a.toNat : Int), .int .u8 (c.lan.b.toNat : Int), .int .u8 (c.lan.c.toNat : Int), .int .u8 (c.lan.d.toNat : Int)]) rfl (by kernel_rfl) (by kernel_rfl) (by kernel_rfl) (fun _ _ _ h => h) (yieldsIf_load_part (by kernel_rfl) 28 _ rfl g1 4 4 rfl _ 36 (0, 0) (fun W hW => hW.1) _ rfl _ Try.underlying28 rfl (by kernel_rfl)) hH ?_
    simp only [sq3, sq4]
    refine wpAnyH_take (i := 3) (v := .agg #[.int .u8 (c.own.a.toNat : Int), .int .u8 (c.own.b.toNat : Int), .int .u8 (c.own.c.toNat : Int), .int .u8 (c.own.d.toNat : Int), .int .i64 c.bits]) rfl (by kernel_rfl) (by kernel_rfl) (by kernel_rfl) (fun _ _ _ h => h) (yieldsIf_load_part (by kernel_rfl) 30 _ rfl g3 0 5 rfl _ 30 (0, 0) (fun W hW => hW.2) _ rfl _ Try.underlying30 rfl (by kernel_rfl)) hH ?_
    simp only [sq3, sq4]
    refine wpAnyH_ready (rs := [4]) (by kernel_rfl) (by simp) ?_
    refine AllReadyH.cons (o := _) rfl (fun K hK => ?_) AllReadyH.nil
    simp only [sq3]
    go_simp
    with_reducible refine (afirst_any _ _ _ _ _ _).mono ?_
    rintro e w5 ⟨rfl, b5⟩
    dsimp only
    replace hp := blk_u hp b5
    replace hn := blk_u hn b5
    replace bel := bel.trans (b5.mono bel.size)
    clear b5
    rw [show firstN (be [c.own.a, c.own.b, c.own.c, c.own.d]) (clamp c.bits) = fN c.own c.bits from rfl]
    obtain ⟨b1, HB1_⟩ : ∃ b, ((c.lan.num == fN c.own c.bits)) = b := ⟨_, rfl⟩
    have HB1 := Lib.hid HB1_
    have qb1 : ∀ W, (binOp .eql 28 (.agg #[.int .u8 (c.lan.a.toNat : Int), .int .u8 (c.lan.b.toNat : Int), .int .u8 (c.lan.c.toNat : Int), .int .u8 (c.lan.d.toNat : Int)]) (adr (fN c.own c.bits))).run Try.prog W = .ok (.bool b1) W := fun W => by rw [ad_eql c.lan _ (fN_lt _ _), HB1_]
    clear HB1_
    refine hK.out _ _ ⟨hp, hn⟩ (fun hH6 => ?_)
    clear hK K
    refine wpAnyH_take (i := 5) (v := ?_) rfl (by kernel_rfl) (by kernel_rfl) (by kernel_rfl) (fun _ _ _ h => h) (Or.inl ⟨by rfl, ?_⟩) hH6 ?_
    rotate_left
    · ((intro W hW; clear hW; go_simp) <;> with_reducible rfl)
    simp only [sq3, sq4]
    refine wpAnyH_take (i := 6) (v := ?_) rfl (by kernel_rfl) (by kernel_rfl) (by kernel_rfl) (fun _ _ _ h => h) (Or.inl ⟨by rfl, ?_⟩) hH6 ?_
    rotate_left
    · ((intro W hW; clear hW; go_simp) <;> with_reducible rfl)
    simp only [sq3, sq4]
    rcases b1 with _ | _
    · have HP : Hid (c.lanB = false) := Lib.hid (by unfold Cf.lanB; rw [HB0.out, HB1.out]; simp)
      refine wpAnyH_take (i := 7) (v := undef) rfl (by kernel_rfl) (by kernel_rfl) (by kernel_rfl) (fun _ _ _ h => h) (Or.inr ⟨by rfl, rfl⟩) hH6 ?_
      simp only [sq3, sq4]
      refine wpAnyH_take (i := 8) (v := undef) rfl (by kernel_rfl) (by kernel_rfl) (by kernel_rfl) (fun _ _ _ h => h) (Or.inr ⟨by rfl, rfl⟩) hH6 ?_
      simp only [sq3, sq4]
      refine wpAnyH_take (i := 9) (v := undef) rfl (by kernel_rfl) (by kernel_rfl) (by kernel_rfl) (fun _ _ _ h => h) (Or.inr ⟨by rfl, rfl⟩) hH6 ?_
      simp only [sq3, sq4]
      refine wpAnyH_take (i := 10) (v := undef) rfl (by kernel_rfl) (by kernel_rfl) (by kernel_rfl) (fun _ _ _ h => h) (Or.inr ⟨by rfl, rfl⟩) hH6 ?_
      simp only [sq3, sq4]
      refine wpAnyH_take (i := 11) (v := ?_) rfl (by kernel_rfl) (by kernel_rfl) (by kernel_rfl) (fun _ _ _ h => h) (Or.inl ⟨by rfl, ?_⟩) hH6 ?_
      rotate_left
      · ((intro W hW; clear hW; go_simp) <;> with_reducible rfl)
      simp only [sq3, sq4]
      refine wpAnyH_take (i := 12) (v := ?_) rfl (by kernel_rfl) (by kernel_rfl) (by kernel_rfl) (fun _ _ _ h => h) (Or.inl ⟨by rfl, ?_⟩) hH6 ?_
      rotate_left
      · ((intro W hW; clear hW; go_simp) <;> with_reducible rfl)
      simp only [sq3, sq4]
      refine wpAnyH_done (by kernel_rfl) ?_ _
      go_wp2_with fail
      go_ret
      exact ⟨by rw [HP.out]; rfl, bel⟩
    · refine wpAnyH_take (i := 7) (v := .agg #[.int .u8 (c.own.a.toNat : Int), .int .u8 (c.own.b.toNat : Int), .int .u8 (c.own.c.toNat : Int), .int .u8 (c.own.d.toNat : Int), .int .i64 c.bits]) rfl (by kernel_rfl) (by kernel_rfl) (by kernel_rfl) (fun _ _ _ h => h) (yieldsIf_load_part (by kernel_rfl) 30 _ rfl g3 0 5 rfl _ 30 (0, 0) (fun W hW => hW.2) _ rfl _ Try.underlying30 rfl (by kernel_rfl)) hH6 ?_
      simp only [sq3, sq4]
      refine wpAnyH_take (i := 8) (v := ?_) rfl (by kernel_rfl) (by kernel_rfl) (by kernel_rfl) (fun _ _ _ h => h) (Or.inl ⟨by rfl, ?_⟩) hH6 ?_
      rotate_left
      · ((intro W hW; clear hW; go_simp) <;> with_reducible rfl)
      simp only [sq3, sq4]
      refine wpAnyH_take (i := 9) (v := .agg #[.int .u8 (c.own.a.toNat : Int), .int .u8 (c.own.b.toNat : Int), .int .u8 (c.own.c.toNat : Int), .int .u8 (c.own.d.toNat : Int)]) rfl (by kernel_rfl) (by kernel_rfl) (by kernel_rfl) (fun _ _ _ h => h) (yieldsIf_load_part (by kernel_rfl) 28 _ rfl g1 0 4 rfl _ 36 (0, 0) (fun W hW => hW.1) _ rfl _ Try.underlying28 rfl (by kernel_rfl)) hH6 ?_
      simp only [sq3, sq4]
      refine wpAnyH_ready (rs := [10]) (by kernel_rfl) (by simp) ?_
      refine AllReadyH.cons (o := _) rfl (fun K hK => ?_) AllReadyH.nil
      simp only [sq3]
      go_simp
      with_reducible refine (isHost_any (c.own) (c.own) (c.bits) _).mono ?_
      rintro e w7 ⟨rfl, b7⟩
      dsimp only
      replace hp := blk_u hp b7
      replace hn := blk_u hn b7
      replace bel := bel.trans (b7.mono bel.size)
      clear b7
      rw [show hostB (c.own) (c.bits) (c.own) = hostB c.own c.bits c.own from rfl]
      obtain ⟨b2, HB2_⟩ : ∃ b, hostB c.own c.bits c.own = b := ⟨_, rfl⟩
      have HB2 := Lib.hid HB2_
      rw [HB2_]
      clear HB2_
      refine hK.out _ _ ⟨hp, hn⟩ (fun hH8 => ?_)
      clear hK K
      refine wpAnyH_take (i := 11) (v := ?_) rfl (by kernel_rfl) (by kernel_rfl) (by kernel_rfl) (fun _ _ _ h => h) (Or.inl ⟨by rfl, ?_⟩) hH8 ?_
      rotate_left
      · ((intro W hW; clear hW; go_simp) <;> with_reducible rfl)
      simp only [sq3, sq4]
      refine wpAnyH_take (i := 12) (v := ?_) rfl (by kernel_rfl) (by kernel_rfl) (by kernel_rfl) (fun _ _ _ h => h) (Or.inl ⟨by rfl, ?_⟩) hH8 ?_
      rotate_left
      · ((intro W hW; clear hW; go_simp) <;> with_reducible rfl)
      simp only [sq3, sq4]
      have HP : Hid (c.lanB = b2) := Lib.hid (by unfold Cf.lanB; rw [HB0.out, HB1.out, HB2.out]; rfl)
      refine wpAnyH_done (by kernel_rfl) ?_ _
      go_wp2_with fail
      go_ret
      exact ⟨by rw [HP.out]; rfl, bel⟩
set_option linter.unusedVariables false in
set_option linter.unusedSimpArgs false in
set_option maxRecDepth 100000 in
set_option maxHeartbeats 16000000 in
theorem poolFits_any (c : Cf) (Fx : Option Addr) (nf cf : Nat) (Ox : Option Addr) (nx cx : Nat) (w : World) : Calls Try.prog 32 #[.agg (cfl c Fx nf cf Ox nx cx).toArray] w fun e w' => e = .returned (.bool (c.poolB)) ∧ Below w.heap.size w w' := by
  have bel := Below.refl w.heap.size w
  go_enter Try.func32, Try.ntmps32
  go_wp2_with (first | ((with_reducible show wpList _ _ _ (⟨some 1, _, _, _, _, _⟩ :: _) _ _); refine wpList_box_n rfl 36 (.tmp 0) rfl (cfl c Fx nf cf Ox nx cx).toArray rfl ?_; intro g1 w1 ge lt hh bb; have op := Nat.le_trans bel.size ge; replace bel := bel.trans (bb.mono bel.size); have hp := hh; clear hh lt ge bb))
  replace bel := bel.drew
  replace hp : w1.drew.heap[g1]? = _ := hp
  refine wp_region_held_drew (S := fun W => W.heap[g1]? = some (.cells (cfl c Fx nf cf Ox nx cx).toArray 36 (0, 0))) (by kernel_rfl) hp (fun hH => ?_)
  generalize w1.drew = w2 at bel hp hH ⊢
  refine wpAnyH_take (i := 0) (v := ?_) rfl (by kernel_rfl) (by kernel_rfl) (by kernel_rfl) (fun _ _ _ h => h) (Or.inl ⟨by rfl, ?_⟩) hH ?_
  rotate_left
  · ((intro W hW; clear hW; go_simp) <;> with_reducible rfl)
  simp only [Act.put, List.getElem_toArray, List.getElem_cons_zero, List.setIfInBounds_toArray, List.set_cons_zero, List.set_cons_succ]
  refine wpAnyH_take (i := 1) (v := .agg #[.int .u8 (c.first.a.toNat : Int), .int .u8 (c.first.b.toNat : Int), .int .u8 (c.first.c.toNat : Int), .int .u8 (c.first.d.toNat : Int)]) rfl (by kernel_rfl) (by kernel_rfl) (by kernel_rfl) (fun _ _ _ h => h) (yieldsIf_load_part (by kernel_rfl) 28 _ rfl g1 21 4 rfl _ 36 (0, 0) (fun W hW => hW) _ rfl _ Try.underlying28 rfl (by kernel_rfl)) hH ?_
  simp only [sq3, sq4]
  refine wpAnyH_take (i := 3) (v := ?_) rfl (by kernel_rfl) (by kernel_rfl) (by kernel_rfl) (fun _ _ _ h => h) (Or.inl ⟨by rfl, ?_⟩) hH ?_
  rotate_left
  · ((intro W hW; clear hW; go_simp) <;> with_reducible rfl)
  simp only [sq3, sq4]
  refine wpAnyH_take (i := 4) (v := .agg #[.int .u8 (c.last.a.toNat : Int), .int .u8 (c.last.b.toNat : Int), .int .u8 (c.last.c.toNat : Int), .int .u8 (c.last.d.toNat : Int)]) rfl (by kernel_rfl) (by kernel_rfl) (by kernel_rfl) (fun _ _ _ h => h) (yieldsIf_load_part (by kernel_rfl) 28 _ rfl g1 25 4 rfl _ 36 (0, 0) (fun W hW => hW) _ rfl _ Try.underlying28 rfl (by kernel_rfl)) hH ?_
  simp only [sq3, sq4]
  refine wpAnyH_take (i := 6) (v := ?_) rfl (by kernel_rfl) (by kernel_rfl) (by kernel_rfl) (fun _ _ _ h => h) (Or.inl ⟨by rfl, ?_⟩) hH ?_
  rotate_left
  · ((intro W hW; clear hW; go_simp) <;> with_reducible rfl)
  simp only [sq3, sq4]
  refine wpAnyH_take (i := 7) (v := .agg #[.int .u8 (c.own.a.toNat : Int), .int .u8 (c.own.b.toNat : Int), .int .u8 (c.own.c.toNat : Int), .int .u8 (c.own.d.toNat : Int)]) rfl (by kernel_rfl) (by kernel_rfl) (by kernel_rfl) (fun _ _ _ h => h) (yieldsIf_load_part (by kernel_rfl) 28 _ rfl g1 0 4 rfl _ 36 (0, 0) (fun W hW => hW) _ rfl _ Try.underlying28 rfl (by kernel_rfl)) hH ?_
  simp only [sq3, sq4]
  refine wpAnyH_ready (rs := [2]) (by kernel_rfl) (by simp) ?_
  refine AllReadyH.cons (o := _) rfl (fun K hK => ?_) AllReadyH.nil
  simp only [sq3]
  go_simp
  with_reducible refine (anum_any _ _ _ _ _).mono ?_
  rintro e w3 ⟨rfl, b3⟩
  dsimp only
  replace hp := blk_u hp b3
  replace bel := bel.trans (b3.mono bel.size)
  clear b3
  rw [show be [c.first.a, c.first.b, c.first.c, c.first.d] = c.first.num from rfl]
  refine hK.out _ _ hp (fun hH4 => ?_)
  clear hK K
  refine wpAnyH_ready (rs := [5]) (by kernel_rfl) (by simp) ?_
  refine AllReadyH.cons (o := _) rfl (fun K hK => ?_) AllReadyH.nil
  simp only [sq3]
  go_simp
  with_reducible refine (anum_any _ _ _ _ _).mono ?_
  rintro e w5 ⟨rfl, b5⟩
  dsimp only
  replace hp := blk_u hp b5
  replace bel := bel.trans (b5.mono bel.size)
  clear b5
  rw [show be [c.last.a, c.last.b, c.last.c, c.last.d] = c.last.num from rfl]
  refine hK.out _ _ hp (fun hH6 => ?_)
  clear hK K
  refine wpAnyH_ready (rs := [8]) (by kernel_rfl) (by simp) ?_
  refine AllReadyH.cons (o := _) rfl (fun K hK => ?_) AllReadyH.nil
  simp only [sq3]
  go_simp
  with_reducible refine (anum_any _ _ _ _ _).mono ?_
  rintro e w7 ⟨rfl, b7⟩
  dsimp only
  replace hp := blk_u hp b7
  replace bel := bel.trans (b7.mono bel.size)
  clear b7
  rw [show be [c.own.a, c.own.b, c.own.c, c.own.d] = c.own.num from rfl]
  refine hK.out _ _ hp (fun hH8 => ?_)
  clear hK K
  refine wpAnyH_take (i := 9) (v := ?_) rfl (by kernel_rfl) (by kernel_rfl) (by kernel_rfl) (fun _ _ _ h => h) (Or.inl ⟨by rfl, ?_⟩) hH8 ?_
  rotate_left
  · ((intro W hW; clear hW; go_simp) <;> with_reducible rfl)
  simp only [sq3, sq4]
  refine wpAnyH_take (i := 10) (v := ?_) rfl (by kernel_rfl) (by kernel_rfl) (by kernel_rfl) (fun _ _ _ h => h) (Or.inl ⟨by rfl, ?_⟩) hH8 ?_
  rotate_left
  · ((intro W hW; clear hW; go_simp) <;> with_reducible rfl)
  simp only [sq3, sq4]
  refine wpAnyH_take (i := 11) (v := ?_) rfl (by kernel_rfl) (by kernel_rfl) (by kernel_rfl) (fun _ _ _ h => h) (Or.inl ⟨by rfl, ?_⟩) hH8 ?_
  rotate_left
  · ((intro W hW; clear hW; go_simp) <;> with_reducible rfl)
  simp only [sq3, sq4]
  refine wpAnyH_done (by kernel_rfl) ?_ _
  have R16 := Lib.hid (range_lit hp 4 5 [.int .u8 (c.lan.a.toNat : Int), .int .u8 (c.lan.b.toNat : Int), .int .u8 (c.lan.c.toNat : Int), .int .u8 (c.lan.d.toNat : Int), .int .i64 c.bits] rfl)
  go_wp2_with (first | ((with_reducible show wpList _ _ _ (⟨some 16, _, _, _, _, _⟩ :: _) _ _); refine wpList_load_rng 30 (.tmp 15) rfl (by kernel_rfl) _ _ rfl _ R16.out _ Try.underlying30 rfl (by kernel_rfl) ?_; have R18 := Lib.hid (range_lit hp 21 4 [.int .u8 (c.first.a.toNat : Int), .int .u8 (c.first.b.toNat : Int), .int .u8 (c.first.c.toNat : Int), .int .u8 (c.first.d.toNat : Int)] rfl)) | ((with_reducible show wpList _ _ _ (⟨some 18, _, _, _, _, _⟩ :: _) _ _); refine wpList_load_rng 28 (.tmp 17) rfl (by kernel_rfl) _ _ rfl _ R18.out _ Try.underlying28 rfl (by kernel_rfl) ?_))
  try clear R16
  try clear R18
  with_reducible refine (isHost_any (c.lan) (c.first) (c.bits) _).mono ?_
  rintro e w9 ⟨rfl, b9⟩
  replace hp := blk_u hp b9
  replace bel := bel.trans (b9.mono bel.size)
  clear b9
  rw [show hostB (c.lan) (c.bits) (c.first) = c.inner (c.first) from rfl]
  obtain ⟨b0, HB0_⟩ : ∃ b, c.inner (c.first) = b := ⟨_, rfl⟩
  have HB0 := Lib.hid HB0_
  rw [HB0_]
  clear HB0_
  rcases b0 with _ | _
  · have HP : Hid (c.poolB = false) := Lib.hid (by unfold Cf.poolB; rw [HB0.out]; simp)
    go_wp2_with fail
    go_ret
    exact ⟨by rw [HP.out]; rfl, bel⟩
  · have R22 := Lib.hid (range_lit hp 4 5 [.int .u8 (c.lan.a.toNat : Int), .int .u8 (c.lan.b.toNat : Int), .int .u8 (c.lan.c.toNat : Int), .int .u8 (c.lan.d.toNat : Int), .int .i64 c.bits] rfl)
    go_wp2_with (first | ((with_reducible show wpList _ _ _ (⟨some 22, _, _, _, _, _⟩ :: _) _ _); refine wpList_load_rng 30 (.tmp 21) rfl (by kernel_rfl) _ _ rfl _ R22.out _ Try.underlying30 rfl (by kernel_rfl) ?_; have R24 := Lib.hid (range_lit hp 25 4 [.int .u8 (c.last.a.toNat : Int), .int .u8 (c.last.b.toNat : Int), .int .u8 (c.last.c.toNat : Int), .int .u8 (c.last.d.toNat : Int)] rfl)) | ((with_reducible show wpList _ _ _ (⟨some 24, _, _, _, _, _⟩ :: _) _ _); refine wpList_load_rng 28 (.tmp 23) rfl (by kernel_rfl) _ _ rfl _ R24.out _ Try.underlying28 rfl (by kernel_rfl) ?_))
    try clear R22
    try clear R24
    with_reducible refine (isHost_any (c.lan) (c.last) (c.bits) _).mono ?_
    rintro e w10 ⟨rfl, b10⟩
    replace hp := blk_u hp b10
    replace bel := bel.trans (b10.mono bel.size)
    clear b10
    rw [show hostB (c.lan) (c.bits) (c.last) = c.inner (c.last) from rfl]
    obtain ⟨b1, HB1_⟩ : ∃ b, c.inner (c.last) = b := ⟨_, rfl⟩
    have HB1 := Lib.hid HB1_
    rw [HB1_]
    clear HB1_
    rcases b1 with _ | _
    · have HP : Hid (c.poolB = false) := Lib.hid (by unfold Cf.poolB; rw [HB0.out, HB1.out]; simp)
      go_wp2_with fail
      go_ret
      exact ⟨by rw [HP.out]; rfl, bel⟩
    · by_cases d1 : c.first.num ≤ c.last.num
      · by_cases d2 : c.last.num - c.first.num < 64
        · have d2w : IntKind.u32.wrap ((c.last.num : Int) - c.first.num) = (c.last.num : Int) - c.first.num := IntWalk.u32_in _ (by have := c.last.lt; omega)
          have d2k : (c.last.num : Int) - c.first.num < 64 := by omega
          by_cases d3 : c.own.num < c.first.num
          · have HP : Hid (c.poolB = true) := Lib.hid (by unfold Cf.poolB; rw [HB0.out, HB1.out, decide_eq_true d1, decide_eq_true d2, decide_eq_true d3]; rfl)
            go_wp2_with fail
            go_ret
            exact ⟨by rw [HP.out]; rfl, bel⟩
          · have d3_ : decide (c.own.num < c.first.num) = false := decide_eq_false d3
            by_cases d4 : c.last.num < c.own.num
            · have HP : Hid (c.poolB = true) := Lib.hid (by unfold Cf.poolB; rw [HB0.out, HB1.out, decide_eq_true d1, decide_eq_true d2, decide_eq_false d3, decide_eq_true d4]; rfl)
              go_wp2_with fail
              go_ret
              exact ⟨by rw [HP.out]; rfl, bel⟩
            · have d4_ : decide (c.last.num < c.own.num) = false := decide_eq_false d4
              have HP : Hid (c.poolB = false) := Lib.hid (by unfold Cf.poolB; rw [HB0.out, HB1.out, decide_eq_true d1, decide_eq_true d2, decide_eq_false d3, decide_eq_false d4]; simp)
              go_wp2_with fail
              go_ret
              exact ⟨by rw [HP.out]; rfl, bel⟩
        · have d2w : IntKind.u32.wrap ((c.last.num : Int) - c.first.num) = (c.last.num : Int) - c.first.num := IntWalk.u32_in _ (by have := c.last.lt; omega)
          have d2k : decide ((c.last.num : Int) - c.first.num < 64) = false := decide_eq_false (by omega)
          have HP : Hid (c.poolB = false) := Lib.hid (by unfold Cf.poolB; rw [HB0.out, HB1.out, decide_eq_true d1, decide_eq_false d2]; simp)
          go_wp2_with fail
          go_ret
          exact ⟨by rw [HP.out]; rfl, bel⟩
      · have d1_ : decide (c.first.num ≤ c.last.num) = false := decide_eq_false d1
        have HP : Hid (c.poolB = false) := Lib.hid (by unfold Cf.poolB; rw [HB0.out, HB1.out, decide_eq_false d1]; simp)
        go_wp2_with fail
        go_ret
        exact ⟨by rw [HP.out]; rfl, bel⟩
set_option linter.unusedVariables false in
set_option linter.unusedSimpArgs false in
set_option maxRecDepth 100000 in
set_option maxHeartbeats 16000000 in
theorem restFits_any (c : Cf) (Fx : Option Addr) (nf cf : Nat) (Ox : Option Addr) (nx cx : Nat) (w : World) : Calls Try.prog 33 #[.agg (cfl c Fx nf cf Ox nx cx).toArray] w fun e w' => e = .returned (.bool (c.restB)) ∧ Below w.heap.size w w' := by
  have zd0 : (0 : Int) ≤ c.dns.a.toNat := by omega
  have zd1 : (c.dns.a.toNat : Int) < 256 := by have := c.dns.a.toNat_lt; omega
  have bel := Below.refl w.heap.size w
  go_enter Try.func33, Try.ntmps33
  go_wp2_with (first | ((with_reducible show wpList _ _ _ (⟨some 1, _, _, _, _, _⟩ :: _) _ _); refine wpList_box_n rfl 36 (.tmp 0) rfl (cfl c Fx nf cf Ox nx cx).toArray rfl ?_; intro g1 w1 ge lt hh bb; have op := Nat.le_trans bel.size ge; replace bel := bel.trans (bb.mono bel.size); have hp := hh; clear hh lt ge bb; have R4 := Lib.hid (range_lit hp 9 6 [.int .u8 (c.lanmac.a.toNat : Int), .int .u8 (c.lanmac.b.toNat : Int), .int .u8 (c.lanmac.c.toNat : Int), .int .u8 (c.lanmac.d.toNat : Int), .int .u8 (c.lanmac.e.toNat : Int), .int .u8 (c.lanmac.f.toNat : Int)] rfl)) | ((with_reducible show wpList _ _ _ (⟨some 4, _, _, _, _, _⟩ :: _) _ _); refine wpList_load_rng 32 (.tmp 3) rfl (by kernel_rfl) _ _ rfl _ R4.out _ Try.underlying32 rfl (by kernel_rfl) ?_))
  try clear R4
  with_reducible refine (isGroup_any c.lanmac _).mono ?_
  rintro e w2 ⟨rfl, b2⟩
  replace hp := blk_u hp b2
  replace bel := bel.trans (b2.mono bel.size)
  clear b2
  obtain ⟨b0, HB0_⟩ : ∃ b, isGroup (c.lanmac).l = b := ⟨_, rfl⟩
  have HB0 := Lib.hid HB0_
  rw [HB0_]
  clear HB0_
  rcases b0 with _ | _
  · have R9 := Lib.hid (range_lit hp 15 6 [.int .u8 (c.wanmac.a.toNat : Int), .int .u8 (c.wanmac.b.toNat : Int), .int .u8 (c.wanmac.c.toNat : Int), .int .u8 (c.wanmac.d.toNat : Int), .int .u8 (c.wanmac.e.toNat : Int), .int .u8 (c.wanmac.f.toNat : Int)] rfl)
    go_wp2_with (first | ((with_reducible show wpList _ _ _ (⟨some 9, _, _, _, _, _⟩ :: _) _ _); refine wpList_load_rng 32 (.tmp 8) rfl (by kernel_rfl) _ _ rfl _ R9.out _ Try.underlying32 rfl (by kernel_rfl) ?_))
    try clear R9
    with_reducible refine (isGroup_any c.wanmac _).mono ?_
    rintro e w3 ⟨rfl, b3⟩
    replace hp := blk_u hp b3
    replace bel := bel.trans (b3.mono bel.size)
    clear b3
    obtain ⟨b1, HB1_⟩ : ∃ b, isGroup (c.wanmac).l = b := ⟨_, rfl⟩
    have HB1 := Lib.hid HB1_
    rw [HB1_]
    clear HB1_
    rcases b1 with _ | _
    · have R15 := cell_lit hp 29 _ rfl
      go_wp2_with fail
      clear R15
      with_reducible refine (within_any _ _ _ _).mono ?_
      rintro e _ ⟨rfl, rfl⟩
      obtain ⟨b2, HB2_⟩ : ∃ b, inI (c.time) 60 86400 = b := ⟨_, rfl⟩
      have HB2 := Lib.hid HB2_
      rw [HB2_]
      clear HB2_
      rcases b2 with _ | _
      · have HP : Hid (c.restB = false) := Lib.hid (by unfold Cf.restB; rw [HB0.out, HB1.out, HB2.out]; simp)
        go_wp2_with fail
        go_ret
        exact ⟨by rw [HP.out]; rfl, bel⟩
      · have R21 := cell_lit hp 30 _ rfl
        go_wp2_with fail
        clear R21
        with_reducible refine (within_any _ _ _ _).mono ?_
        rintro e _ ⟨rfl, rfl⟩
        obtain ⟨b3, HB3_⟩ : ∃ b, inI (c.dns.a.toNat : Int) 1 223 = b := ⟨_, rfl⟩
        have HB3 := Lib.hid HB3_
        rw [HB3_]
        clear HB3_
        rcases b3 with _ | _
        · have HP : Hid (c.restB = false) := Lib.hid (by unfold Cf.restB; rw [HB0.out, HB1.out, HB2.out, HB3.out]; simp)
          go_wp2_with fail
          go_ret
          exact ⟨by rw [HP.out]; rfl, bel⟩
        · have R27 := cell_lit hp 34 _ rfl
          go_wp2_with fail
          clear R27
          with_reducible refine (within_any _ _ _ _).mono ?_
          rintro e _ ⟨rfl, rfl⟩
          obtain ⟨b4, HB4_⟩ : ∃ b, inI (c.udp) 10 86400 = b := ⟨_, rfl⟩
          have HB4 := Lib.hid HB4_
          rw [HB4_]
          clear HB4_
          rcases b4 with _ | _
          · have HP : Hid (c.restB = false) := Lib.hid (by unfold Cf.restB; rw [HB0.out, HB1.out, HB2.out, HB3.out, HB4.out]; simp)
            go_wp2_with fail
            go_ret
            exact ⟨by rw [HP.out]; rfl, bel⟩
          · have R32 := cell_lit hp 35 _ rfl
            go_wp2_with fail
            clear R32
            with_reducible refine (within_any _ _ _ _).mono ?_
            rintro e _ ⟨rfl, rfl⟩
            obtain ⟨b5, HB5_⟩ : ∃ b, inI (c.tcp) 10 86400 = b := ⟨_, rfl⟩
            have HB5 := Lib.hid HB5_
            rw [HB5_]
            clear HB5_
            rcases b5 with _ | _
            · have HP : Hid (c.restB = false) := Lib.hid (by unfold Cf.restB; rw [HB0.out, HB1.out, HB2.out, HB3.out, HB4.out, HB5.out]; simp)
              go_wp2_with fail
              go_ret
              exact ⟨by rw [HP.out]; rfl, bel⟩
            · have R37 := cell_lit hp 36 _ rfl
              go_wp2_with fail
              clear R37
              with_reducible refine (within_any _ _ _ _).mono ?_
              rintro e _ ⟨rfl, rfl⟩
              obtain ⟨b6, HB6_⟩ : ∃ b, inI (c.icmp) 10 86400 = b := ⟨_, rfl⟩
              have HB6 := Lib.hid HB6_
              rw [HB6_]
              clear HB6_
              rcases b6 with _ | _
              · have HP : Hid (c.restB = false) := Lib.hid (by unfold Cf.restB; rw [HB0.out, HB1.out, HB2.out, HB3.out, HB4.out, HB5.out, HB6.out]; simp)
                go_wp2_with fail
                go_ret
                exact ⟨by rw [HP.out]; rfl, bel⟩
              · have R42 := cell_lit hp 37 _ rfl
                go_wp2_with fail
                clear R42
                with_reducible refine (within_any _ _ _ _).mono ?_
                rintro e _ ⟨rfl, rfl⟩
                obtain ⟨b7, HB7_⟩ : ∃ b, inI (c.low) 1024 60000 = b := ⟨_, rfl⟩
                have HB7 := Lib.hid HB7_
                rw [HB7_]
                clear HB7_
                rcases b7 with _ | _
                · have HP : Hid (c.restB = false) := Lib.hid (by unfold Cf.restB; rw [HB0.out, HB1.out, HB2.out, HB3.out, HB4.out, HB5.out, HB6.out, HB7.out]; simp)
                  go_wp2_with fail
                  go_ret
                  exact ⟨by rw [HP.out]; rfl, bel⟩
                · have HP : Hid (c.restB = true) := Lib.hid (by unfold Cf.restB; rw [HB0.out, HB1.out, HB2.out, HB3.out, HB4.out, HB5.out, HB6.out, HB7.out]; rfl)
                  go_wp2_with fail
                  go_ret
                  exact ⟨by rw [HP.out]; rfl, bel⟩
    · have HP : Hid (c.restB = false) := Lib.hid (by unfold Cf.restB; rw [HB0.out, HB1.out]; simp)
      go_wp2_with fail
      go_ret
      exact ⟨by rw [HP.out]; rfl, bel⟩
  · have HP : Hid (c.restB = false) := Lib.hid (by unfold Cf.restB; rw [HB0.out]; simp)
    go_wp2_with fail
    go_ret
    exact ⟨by rw [HP.out]; rfl, bel⟩
theorem one_okF {c : Cf} {d : List (Mc6 × Ad4)} {x : Mc6 × Ad4} (h : (c.inner x.2 && !(x.2.num == c.own.num)) = true) (ha : d.any (fixBad x) = false) : c.fixOne d x = true := by
  unfold Cf.fixOne
  rw [← Bool.and_assoc, h, ha]
  rfl
theorem one_okO {c : Cf} {d : List (Int × Int × Ad4 × Int)} {x : Int × Int × Ad4 × Int} (h : (((x.1 == 17) || (x.1 == 6)) && (inI x.2.1 1 (c.low - 1) && (inI x.2.2.2 1 65535 && (c.inner x.2.2.1 && !(x.2.2.1.num == c.own.num))))) = true) (ha : d.any (opBad x) = false) : c.opOne d x = true := by
  unfold Cf.opOne
  simp only [Bool.and_eq_true] at h
  obtain ⟨h0, h1, h2, h3, h4⟩ := h
  rw [h0, h1, h2, h3, h4, ha]
  rfl
set_option linter.unusedVariables false in
set_option linter.unusedSimpArgs false in
set_option maxRecDepth 100000 in
set_option maxHeartbeats 16000000 in
theorem fixedFits_any (c : Cf) (Fx : Option Addr) (nf cf : Nat) (Ox : Option Addr) (nx cx : Nat) (w : World) (hf : Sle fxf 10 w Fx nf cf c.fixed) : Calls Try.prog 34 #[.agg (cfl c Fx nf cf Ox nx cx).toArray] w fun e w' => e = .returned (.bool (c.fixB)) ∧ Below w.heap.size w w' := by
  have gd2 := ad_guard2
  have gd3 := mc_guard2
  have HLN := Lib.hid hf.1
  have bel := Below.refl w.heap.size w
  go_enter Try.func34, Try.ntmps34
  by_cases hbig : 32 < nf
  · have hbk : (32 : Int) < nf := by omega
    have HP : Hid (c.fixB = false) := Lib.hid (by unfold Cf.fixB; rw [HLN.out, decide_eq_true hbig]; rfl)
    go_wp2_with (first | ((with_reducible show wpList _ _ _ (⟨some 1, _, _, _, _, _⟩ :: _) _ _); refine wpList_box_n rfl 36 (.tmp 0) rfl (cfl c Fx nf cf Ox nx cx).toArray rfl ?_; intro g1 w1 ge lt hh bb; have av_hf_p := hf.av_new ge; have op := Nat.le_trans bel.size ge; replace hf := hf.below bb; replace bel := bel.trans (bb.mono bel.size); have hp := hh; clear hh lt ge bb; have R8 := cell_lit hp 38 _ rfl))
    try clear R8
    go_ret
    exact ⟨by rw [HP.out]; rfl, bel⟩
  · have hbk : decide ((32 : Int) < nf) = false := decide_eq_false (by omega)
    have HBG := Lib.hid (decide_eq_false hbig)
    go_wp2_with (first | ((with_reducible show wpList _ _ _ (⟨some 1, _, _, _, _, _⟩ :: _) _ _); refine wpList_box_n rfl 36 (.tmp 0) rfl (cfl c Fx nf cf Ox nx cx).toArray rfl ?_; intro g1 w1 ge lt hh bb; have av_hf_p := hf.av_new ge; have op := Nat.le_trans bel.size ge; replace hf := hf.below bb; replace bel := bel.trans (bb.mono bel.size); have hp := hh; clear hh lt ge bb; have R8 := cell_lit hp 38 _ rfl; have R12 := cell_lit hp 38 _ rfl))
    try clear R8
    try clear R12
    go_loopg [14] (nf + 1) (fun gk s14 wr => ∃ i : Nat, gk = nf + 1 - i ∧ i ≤ nf ∧ Hid (c.fixAll (c.fixed.take i) (c.fixed.drop i) = c.fixAll [] c.fixed) ∧ s14 = .int .i64 (i : Int) ∧ wr.heap[g1]? = some (.cells (cfl c Fx nf cf Ox nx cx).toArray 36 (0, 0)) ∧ Sle fxf 10 wr (Fx) (nf) (cf) (c.fixed) ∧ Below w.heap.size w wr)
    case atStart => exact ⟨0, rfl, Nat.zero_le _, Lib.hid rfl, rfl, hp, hf, bel⟩
    case round =>
      clear hp hf bel
      obtain ⟨i, HGK, hi, HWf, rfl, hp, hf, bel⟩ := hrel
      have HGK_ := Lib.hid HGK
      clear HGK
      have HGKo := HGK_
      clear HGK_
      have i0 : (0 : Int) ≤ i := by omega
      have i1 : (i : Int) ≤ 32 := by omega
      by_cases hil : i < nf
      · obtain ⟨gF, oF, hF⟩ := hf.place (by omega)
        subst hF
        obtain ⟨x, hx⟩ : ∃ x, c.fixed[i]? = some x := ⟨_, List.getElem?_eq_getElem (by rw [HLN.out]; exact hil)⟩
        have HX := Lib.hid hx
        clear hx
        have R18 := Lib.hid (Sle.range0 hf HX.out 10 [.int .u8 (x.1.a.toNat : Int), .int .u8 (x.1.b.toNat : Int), .int .u8 (x.1.c.toNat : Int), .int .u8 (x.1.d.toNat : Int), .int .u8 (x.1.e.toNat : Int), .int .u8 (x.1.f.toNat : Int), .int .u8 (x.2.a.toNat : Int), .int .u8 (x.2.b.toNat : Int), .int .u8 (x.2.c.toNat : Int), .int .u8 (x.2.d.toNat : Int)] rfl)
        go_wp2_with (first | ((with_reducible show wpList _ _ _ (⟨some 18, _, _, _, _, _⟩ :: _) _ _); refine wpList_load_rng 66 (.tmp 17) rfl (by kernel_rfl) _ _ rfl _ R18.out _ Try.underlying66 rfl (by kernel_rfl) ?_) | ((with_reducible show wpList _ _ _ (⟨some 4, _, _, _, _, _⟩ :: _) _ _); refine wpList_new_a rfl 66 rfl #[.int .u8 0, .int .u8 0, .int .u8 0, .int .u8 0, .int .u8 0, .int .u8 0, .int .u8 0, .int .u8 0, .int .u8 0, .int .u8 0] (by kernel_rfl) ?_; intro g4 w2 ge hh bb; have d_p_xb := ne_new (hlt hp) ge; have av_hf_xb := hf.av_new ge; have oxb := Nat.le_trans bel.size ge; replace hp := blk_u hp bb; replace hf := hf.below bb; replace bel := bel.trans (bb.mono bel.size); have hxb := hh; clear hh ge bb) | ((with_reducible show wpList _ _ _ (⟨none, Op.store _ (.tmp 4) _, _, _, _, _⟩ :: _) _ _); refine wpList_store_blk rfl 66 (.tmp 4) (.tmp 18) rfl g4 rfl _ rfl _ 66 hxb (by rfl) (by kernel_rfl) (by kernel_rfl) ?_; intro w3 hq gr; replace hf := hf.away av_hf_xb gr; replace hp := blk_a hp gr d_p_xb; replace bel := below_grown bel gr oxb bel.size; clear hxb; have hxb := hq; clear hq gr; have R19 := Lib.hid (range_lit hp 0 40 [.int .u8 (c.own.a.toNat : Int), .int .u8 (c.own.b.toNat : Int), .int .u8 (c.own.c.toNat : Int), .int .u8 (c.own.d.toNat : Int), .int .u8 (c.lan.a.toNat : Int), .int .u8 (c.lan.b.toNat : Int), .int .u8 (c.lan.c.toNat : Int), .int .u8 (c.lan.d.toNat : Int), .int .i64 c.bits, .int .u8 (c.lanmac.a.toNat : Int), .int .u8 (c.lanmac.b.toNat : Int), .int .u8 (c.lanmac.c.toNat : Int), .int .u8 (c.lanmac.d.toNat : Int), .int .u8 (c.lanmac.e.toNat : Int), .int .u8 (c.lanmac.f.toNat : Int), .int .u8 (c.wanmac.a.toNat : Int), .int .u8 (c.wanmac.b.toNat : Int), .int .u8 (c.wanmac.c.toNat : Int), .int .u8 (c.wanmac.d.toNat : Int), .int .u8 (c.wanmac.e.toNat : Int), .int .u8 (c.wanmac.f.toNat : Int), .int .u8 (c.first.a.toNat : Int), .int .u8 (c.first.b.toNat : Int), .int .u8 (c.first.c.toNat : Int), .int .u8 (c.first.d.toNat : Int), .int .u8 (c.last.a.toNat : Int), .int .u8 (c.last.b.toNat : Int), .int .u8 (c.last.c.toNat : Int), .int .u8 (c.last.d.toNat : Int), .int .i64 c.time, .int .u8 (c.dns.a.toNat : Int), .int .u8 (c.dns.b.toNat : Int), .int .u8 (c.dns.c.toNat : Int), .int .u8 (c.dns.d.toNat : Int), .int .i64 c.udp, .int .i64 c.tcp, .int .i64 c.icmp, .int .i64 c.low, .slice (some ⟨gF, oF, none⟩) nf cf, .slice Ox nx cx] rfl)) | ((with_reducible show wpList _ _ _ (⟨some 19, _, _, _, _, _⟩ :: _) _ _); refine wpList_load_rng 36 (.tmp 1) rfl (by kernel_rfl) _ _ rfl _ R19.out _ Try.underlying36 rfl (by kernel_rfl) ?_; have R21 := Lib.hid (range_lit hxb 6 4 [.int .u8 (x.2.a.toNat : Int), .int .u8 (x.2.b.toNat : Int), .int .u8 (x.2.c.toNat : Int), .int .u8 (x.2.d.toNat : Int)] rfl)) | ((with_reducible show wpList _ _ _ (⟨some 21, _, _, _, _, _⟩ :: _) _ _); refine wpList_load_rng 28 (.tmp 20) rfl (by kernel_rfl) _ _ rfl _ R21.out _ Try.underlying28 rfl (by kernel_rfl) ?_))
        try clear R18
        try clear R19
        try clear R21
        with_reducible refine (isOther_any c (x.2) _ _ _ _ _ _ _).mono ?_
        rintro e w4 ⟨rfl, b4⟩
        replace hp := blk_u hp b4
        replace hxb := blk_u hxb b4
        replace hf := hf.below b4
        replace bel := bel.trans (b4.mono bel.size)
        clear b4
        obtain ⟨b5, HI1_⟩ : ∃ b, (c.inner (x.2) && !((x.2).num == c.own.num)) = b := ⟨_, rfl⟩
        have HI1 := Lib.hid HI1_
        rw [HI1_]
        clear HI1_
        rcases b5 with _ | _
        · have HP : Hid (c.fixB = false) := Lib.hid (by unfold Cf.fixB; rw [← HWf.out, Cf.fix_step HX.out]; unfold Cf.fixOne; have h_ := HI1.out; rcases Bool.and_eq_false_iff.1 h_ with h_ | h_ <;> rw [h_] <;> simp)
          go_wp2_with fail
          go_ret
          exact ⟨by rw [HP.out]; rfl, bel⟩
        · have HONE : Hid ((c.inner x.2 && !(x.2.num == c.own.num)) = true) := Lib.hid HI1.out
          obtain ⟨A27, c27, r27, f27, u27⟩ := sle_front 33 66 (by kernel_rfl) (by kernel_rfl) (fun w => by kernel_rfl) hf (m := i) (by omega)
          have pf := f27 _ hf
          have av_pf_p := av_hf_p.sub u27
          clear f27 u27
          have R25 := cell_lit hp 38 _ rfl
          go_wp2_with fail
          clear R25
          go_loopg [29] (i + 1) (fun gk s29 wr => ∃ j : Nat, gk = i + 1 - j ∧ j ≤ i ∧ Hid ((c.fixed.take j).any (fixBad x) = false) ∧ s29 = .int .i64 (j : Int) ∧ wr.heap[g1]? = some (.cells #[.int .u8 (c.own.a.toNat : Int), .int .u8 (c.own.b.toNat : Int), .int .u8 (c.own.c.toNat : Int), .int .u8 (c.own.d.toNat : Int), .int .u8 (c.lan.a.toNat : Int), .int .u8 (c.lan.b.toNat : Int), .int .u8 (c.lan.c.toNat : Int), .int .u8 (c.lan.d.toNat : Int), .int .i64 c.bits, .int .u8 (c.lanmac.a.toNat : Int), .int .u8 (c.lanmac.b.toNat : Int), .int .u8 (c.lanmac.c.toNat : Int), .int .u8 (c.lanmac.d.toNat : Int), .int .u8 (c.lanmac.e.toNat : Int), .int .u8 (c.lanmac.f.toNat : Int), .int .u8 (c.wanmac.a.toNat : Int), .int .u8 (c.wanmac.b.toNat : Int), .int .u8 (c.wanmac.c.toNat : Int), .int .u8 (c.wanmac.d.toNat : Int), .int .u8 (c.wanmac.e.toNat : Int), .int .u8 (c.wanmac.f.toNat : Int), .int .u8 (c.first.a.toNat : Int), .int .u8 (c.first.b.toNat : Int), .int .u8 (c.first.c.toNat : Int), .int .u8 (c.first.d.toNat : Int), .int .u8 (c.last.a.toNat : Int), .int .u8 (c.last.b.toNat : Int), .int .u8 (c.last.c.toNat : Int), .int .u8 (c.last.d.toNat : Int), .int .i64 c.time, .int .u8 (c.dns.a.toNat : Int), .int .u8 (c.dns.b.toNat : Int), .int .u8 (c.dns.c.toNat : Int), .int .u8 (c.dns.d.toNat : Int), .int .i64 c.udp, .int .i64 c.tcp, .int .i64 c.icmp, .int .i64 c.low, .slice (some ⟨gF, oF, none⟩) nf cf, .slice Ox nx cx] 36 (0, 0)) ∧ wr.heap[g4]? = some (.cells #[.int .u8 (x.1.a.toNat : Int), .int .u8 (x.1.b.toNat : Int), .int .u8 (x.1.c.toNat : Int), .int .u8 (x.1.d.toNat : Int), .int .u8 (x.1.e.toNat : Int), .int .u8 (x.1.f.toNat : Int), .int .u8 (x.2.a.toNat : Int), .int .u8 (x.2.b.toNat : Int), .int .u8 (x.2.c.toNat : Int), .int .u8 (x.2.d.toNat : Int)] 66 (0, 0)) ∧ Sle fxf 10 wr (some ⟨gF, oF, none⟩) (nf) (cf) (c.fixed) ∧ Sle fxf 10 wr (A27) (i) (c27) (c.fixed.take i) ∧ Below w.heap.size w wr)
          case atStart => exact ⟨0, rfl, Nat.zero_le _, Lib.hid rfl, rfl, hp, hxb, hf, pf, bel⟩
          case round =>
            clear hp hxb hf pf bel
            obtain ⟨j, HGK, hj, HA, rfl, hp, hxb, hf, pf, bel⟩ := hrel
            have HGK_ := Lib.hid HGK
            clear HGK
            have HGKi := HGK_
            clear HGK_
            have j0 : (0 : Int) ≤ j := by omega
            have j1 : (j : Int) ≤ 32 := by omega
            by_cases hl2 : j < i
            · obtain ⟨gP, oP, hP⟩ := pf.place (by omega)
              subst hP
              have hjf : j < nf := by omega
              obtain ⟨y, hy⟩ : ∃ y, c.fixed[j]? = some y := ⟨_, List.getElem?_eq_getElem (by rw [HLN.out]; exact hjf)⟩
              have HY := Lib.hid hy
              have HYT := Lib.hid (take_get hl2 hy)
              clear hy
              obtain ⟨b7, HJ7_⟩ : ∃ b, (y.1.l == x.1.l) = b := ⟨_, rfl⟩
              have HJ7 := Lib.hid HJ7_
              have q7 : ∀ W, (binOp .eql 32 (.agg #[.int .u8 (x.1.a.toNat : Int), .int .u8 (x.1.b.toNat : Int), .int .u8 (x.1.c.toNat : Int), .int .u8 (x.1.d.toNat : Int), .int .u8 (x.1.e.toNat : Int), .int .u8 (x.1.f.toNat : Int)]) (.agg #[.int .u8 (y.1.a.toNat : Int), .int .u8 (y.1.b.toNat : Int), .int .u8 (y.1.c.toNat : Int), .int .u8 (y.1.d.toNat : Int), .int .u8 (y.1.e.toNat : Int), .int .u8 (y.1.f.toNat : Int)])).run Try.prog W = .ok (.bool b7) W := fun W => by rw [mc_eq2, beq_flip, HJ7_]
              clear HJ7_
              obtain ⟨b8, HJ8_⟩ : ∃ b, (y.2.num == x.2.num) = b := ⟨_, rfl⟩
              have HJ8 := Lib.hid HJ8_
              have q8 : ∀ W, (binOp .eql 28 (.agg #[.int .u8 (x.2.a.toNat : Int), .int .u8 (x.2.b.toNat : Int), .int .u8 (x.2.c.toNat : Int), .int .u8 (x.2.d.toNat : Int)]) (.agg #[.int .u8 (y.2.a.toNat : Int), .int .u8 (y.2.b.toNat : Int), .int .u8 (y.2.c.toNat : Int), .int .u8 (y.2.d.toNat : Int)])).run Try.prog W = .ok (.bool b8) W := fun W => by rw [ad_eq2, beq_flip, HJ8_]
              clear HJ8_
              rcases b7 with _ | _
              · rcases b8 with _ | _
                · have R32 := Lib.hid (Sle.range0 pf HYT.out 10 [.int .u8 (y.1.a.toNat : Int), .int .u8 (y.1.b.toNat : Int), .int .u8 (y.1.c.toNat : Int), .int .u8 (y.1.d.toNat : Int), .int .u8 (y.1.e.toNat : Int), .int .u8 (y.1.f.toNat : Int), .int .u8 (y.2.a.toNat : Int), .int .u8 (y.2.b.toNat : Int), .int .u8 (y.2.c.toNat : Int), .int .u8 (y.2.d.toNat : Int)] rfl)
                  go_wp2_with (first | ((with_reducible show wpList _ _ _ (⟨some 32, _, _, _, _, _⟩ :: _) _ _); refine wpList_load_rng 66 (.tmp 31) rfl (by kernel_rfl) _ _ rfl _ R32.out _ Try.underlying66 rfl (by kernel_rfl) ?_) | ((with_reducible show wpList _ _ _ (⟨some 6, _, _, _, _, _⟩ :: _) _ _); refine wpList_new_a rfl 66 rfl #[.int .u8 0, .int .u8 0, .int .u8 0, .int .u8 0, .int .u8 0, .int .u8 0, .int .u8 0, .int .u8 0, .int .u8 0, .int .u8 0] (by kernel_rfl) ?_; intro g6 w5 ge hh bb; have d_p_yb := ne_new (hlt hp) ge; have d_xb_yb := ne_new (hlt hxb) ge; have av_hf_yb := hf.av_new ge; have av_pf_yb := pf.av_new ge; have oyb := Nat.le_trans bel.size ge; replace hp := blk_u hp bb; replace hxb := blk_u hxb bb; replace hf := hf.below bb; replace pf := pf.below bb; replace bel := bel.trans (bb.mono bel.size); have hyb := hh; clear hh ge bb) | ((with_reducible show wpList _ _ _ (⟨none, Op.store _ (.tmp 6) _, _, _, _, _⟩ :: _) _ _); refine wpList_store_blk rfl 66 (.tmp 6) (.tmp 32) rfl g6 rfl _ rfl _ 66 hyb (by rfl) (by kernel_rfl) (by kernel_rfl) ?_; intro w6 hq gr; replace hf := hf.away av_hf_yb gr; replace pf := pf.away av_pf_yb gr; replace hp := blk_a hp gr d_p_yb; replace hxb := blk_a hxb gr d_xb_yb; replace bel := below_grown bel gr oyb bel.size; clear hyb; have hyb := hq; clear hq gr; have R34 := Lib.hid (range_lit hxb 0 6 [.int .u8 (x.1.a.toNat : Int), .int .u8 (x.1.b.toNat : Int), .int .u8 (x.1.c.toNat : Int), .int .u8 (x.1.d.toNat : Int), .int .u8 (x.1.e.toNat : Int), .int .u8 (x.1.f.toNat : Int)] rfl)) | ((with_reducible show wpList _ _ _ (⟨some 34, _, _, _, _, _⟩ :: _) _ _); refine wpList_load_rng 32 (.tmp 33) rfl (by kernel_rfl) _ _ rfl _ R34.out _ Try.underlying32 rfl (by kernel_rfl) ?_; have R36 := Lib.hid (range_lit hyb 0 6 [.int .u8 (y.1.a.toNat : Int), .int .u8 (y.1.b.toNat : Int), .int .u8 (y.1.c.toNat : Int), .int .u8 (y.1.d.toNat : Int), .int .u8 (y.1.e.toNat : Int), .int .u8 (y.1.f.toNat : Int)] rfl)) | ((with_reducible show wpList _ _ _ (⟨some 36, _, _, _, _, _⟩ :: _) _ _); refine wpList_load_rng 32 (.tmp 35) rfl (by kernel_rfl) _ _ rfl _ R36.out _ Try.underlying32 rfl (by kernel_rfl) ?_; have R40 := Lib.hid (range_lit hxb 6 4 [.int .u8 (x.2.a.toNat : Int), .int .u8 (x.2.b.toNat : Int), .int .u8 (x.2.c.toNat : Int), .int .u8 (x.2.d.toNat : Int)] rfl)) | ((with_reducible show wpList _ _ _ (⟨some 40, _, _, _, _, _⟩ :: _) _ _); refine wpList_load_rng 28 (.tmp 39) rfl (by kernel_rfl) _ _ rfl _ R40.out _ Try.underlying28 rfl (by kernel_rfl) ?_; have R42 := Lib.hid (range_lit hyb 6 4 [.int .u8 (y.2.a.toNat : Int), .int .u8 (y.2.b.toNat : Int), .int .u8 (y.2.c.toNat : Int), .int .u8 (y.2.d.toNat : Int)] rfl)) | ((with_reducible show wpList _ _ _ (⟨some 42, _, _, _, _, _⟩ :: _) _ _); refine wpList_load_rng 28 (.tmp 41) rfl (by kernel_rfl) _ _ rfl _ R42.out _ Try.underlying28 rfl (by kernel_rfl) ?_))
                  try clear R32
                  try clear R34
                  try clear R36
                  try clear R40
                  try clear R42
                  go_roundg (i + 1 - (j + 1))
                  case measure => have := HGKi.out; omega
                  case rel => exact ⟨j + 1, rfl, by omega, Lib.hid (any_more HY.out HA.out (by unfold fixBad; rw [HJ7.out, HJ8.out]; rfl)), by go_num, hp, hxb, hf, pf, bel⟩
                · have HP : Hid (c.fixB = false) := Lib.hid (by unfold Cf.fixB; rw [← HWf.out, Cf.fix_step HX.out]; unfold Cf.fixOne; rw [any_hit hl2 HY.out (by unfold fixBad; rw [HJ7.out, HJ8.out]; rfl)]; simp)
                  have R32 := Lib.hid (Sle.range0 pf HYT.out 10 [.int .u8 (y.1.a.toNat : Int), .int .u8 (y.1.b.toNat : Int), .int .u8 (y.1.c.toNat : Int), .int .u8 (y.1.d.toNat : Int), .int .u8 (y.1.e.toNat : Int), .int .u8 (y.1.f.toNat : Int), .int .u8 (y.2.a.toNat : Int), .int .u8 (y.2.b.toNat : Int), .int .u8 (y.2.c.toNat : Int), .int .u8 (y.2.d.toNat : Int)] rfl)
                  go_wp2_with (first | ((with_reducible show wpList _ _ _ (⟨some 32, _, _, _, _, _⟩ :: _) _ _); refine wpList_load_rng 66 (.tmp 31) rfl (by kernel_rfl) _ _ rfl _ R32.out _ Try.underlying66 rfl (by kernel_rfl) ?_) | ((with_reducible show wpList _ _ _ (⟨some 6, _, _, _, _, _⟩ :: _) _ _); refine wpList_new_a rfl 66 rfl #[.int .u8 0, .int .u8 0, .int .u8 0, .int .u8 0, .int .u8 0, .int .u8 0, .int .u8 0, .int .u8 0, .int .u8 0, .int .u8 0] (by kernel_rfl) ?_; intro g6 w5 ge hh bb; have d_p_yb := ne_new (hlt hp) ge; have d_xb_yb := ne_new (hlt hxb) ge; have av_hf_yb := hf.av_new ge; have av_pf_yb := pf.av_new ge; have oyb := Nat.le_trans bel.size ge; replace hp := blk_u hp bb; replace hxb := blk_u hxb bb; replace hf := hf.below bb; replace pf := pf.below bb; replace bel := bel.trans (bb.mono bel.size); have hyb := hh; clear hh ge bb) | ((with_reducible show wpList _ _ _ (⟨none, Op.store _ (.tmp 6) _, _, _, _, _⟩ :: _) _ _); refine wpList_store_blk rfl 66 (.tmp 6) (.tmp 32) rfl g6 rfl _ rfl _ 66 hyb (by rfl) (by kernel_rfl) (by kernel_rfl) ?_; intro w6 hq gr; replace hf := hf.away av_hf_yb gr; replace pf := pf.away av_pf_yb gr; replace hp := blk_a hp gr d_p_yb; replace hxb := blk_a hxb gr d_xb_yb; replace bel := below_grown bel gr oyb bel.size; clear hyb; have hyb := hq; clear hq gr; have R34 := Lib.hid (range_lit hxb 0 6 [.int .u8 (x.1.a.toNat : Int), .int .u8 (x.1.b.toNat : Int), .int .u8 (x.1.c.toNat : Int), .int .u8 (x.1.d.toNat : Int), .int .u8 (x.1.e.toNat : Int), .int .u8 (x.1.f.toNat : Int)] rfl)) | ((with_reducible show wpList _ _ _ (⟨some 34, _, _, _, _, _⟩ :: _) _ _); refine wpList_load_rng 32 (.tmp 33) rfl (by kernel_rfl) _ _ rfl _ R34.out _ Try.underlying32 rfl (by kernel_rfl) ?_; have R36 := Lib.hid (range_lit hyb 0 6 [.int .u8 (y.1.a.toNat : Int), .int .u8 (y.1.b.toNat : Int), .int .u8 (y.1.c.toNat : Int), .int .u8 (y.1.d.toNat : Int), .int .u8 (y.1.e.toNat : Int), .int .u8 (y.1.f.toNat : Int)] rfl)) | ((with_reducible show wpList _ _ _ (⟨some 36, _, _, _, _, _⟩ :: _) _ _); refine wpList_load_rng 32 (.tmp 35) rfl (by kernel_rfl) _ _ rfl _ R36.out _ Try.underlying32 rfl (by kernel_rfl) ?_; have R40 := Lib.hid (range_lit hxb 6 4 [.int .u8 (x.2.a.toNat : Int), .int .u8 (x.2.b.toNat : Int), .int .u8 (x.2.c.toNat : Int), .int .u8 (x.2.d.toNat : Int)] rfl)) | ((with_reducible show wpList _ _ _ (⟨some 40, _, _, _, _, _⟩ :: _) _ _); refine wpList_load_rng 28 (.tmp 39) rfl (by kernel_rfl) _ _ rfl _ R40.out _ Try.underlying28 rfl (by kernel_rfl) ?_; have R42 := Lib.hid (range_lit hyb 6 4 [.int .u8 (y.2.a.toNat : Int), .int .u8 (y.2.b.toNat : Int), .int .u8 (y.2.c.toNat : Int), .int .u8 (y.2.d.toNat : Int)] rfl)) | ((with_reducible show wpList _ _ _ (⟨some 42, _, _, _, _, _⟩ :: _) _ _); refine wpList_load_rng 28 (.tmp 41) rfl (by kernel_rfl) _ _ rfl _ R42.out _ Try.underlying28 rfl (by kernel_rfl) ?_))
                  try clear R32
                  try clear R34
                  try clear R36
                  try clear R40
                  try clear R42
                  go_ret
                  exact ⟨by rw [HP.out]; rfl, bel⟩
              · have HP : Hid (c.fixB = false) := Lib.hid (by unfold Cf.fixB; rw [← HWf.out, Cf.fix_step HX.out]; unfold Cf.fixOne; rw [any_hit hl2 HY.out (by unfold fixBad; rw [HJ7.out]; rfl)]; simp)
                have R32 := Lib.hid (Sle.range0 pf HYT.out 10 [.int .u8 (y.1.a.toNat : Int), .int .u8 (y.1.b.toNat : Int), .int .u8 (y.1.c.toNat : Int), .int .u8 (y.1.d.toNat : Int), .int .u8 (y.1.e.toNat : Int), .int .u8 (y.1.f.toNat : Int), .int .u8 (y.2.a.toNat : Int), .int .u8 (y.2.b.toNat : Int), .int .u8 (y.2.c.toNat : Int), .int .u8 (y.2.d.toNat : Int)] rfl)
                go_wp2_with (first | ((with_reducible show wpList _ _ _ (⟨some 32, _, _, _, _, _⟩ :: _) _ _); refine wpList_load_rng 66 (.tmp 31) rfl (by kernel_rfl) _ _ rfl _ R32.out _ Try.underlying66 rfl (by kernel_rfl) ?_) | ((with_reducible show wpList _ _ _ (⟨some 6, _, _, _, _, _⟩ :: _) _ _); refine wpList_new_a rfl 66 rfl #[.int .u8 0, .int .u8 0, .int .u8 0, .int .u8 0, .int .u8 0, .int .u8 0, .int .u8 0, .int .u8 0, .int .u8 0, .int .u8 0] (by kernel_rfl) ?_; intro g6 w5 ge hh bb; have d_p_yb := ne_new (hlt hp) ge; have d_xb_yb := ne_new (hlt hxb) ge; have av_hf_yb := hf.av_new ge; have av_pf_yb := pf.av_new ge; have oyb := Nat.le_trans bel.size ge; replace hp := blk_u hp bb; replace hxb := blk_u hxb bb; replace hf := hf.below bb; replace pf := pf.below bb; replace bel := bel.trans (bb.mono bel.size); have hyb := hh; clear hh ge bb) | ((with_reducible show wpList _ _ _ (⟨none, Op.store _ (.tmp 6) _, _, _, _, _⟩ :: _) _ _); refine wpList_store_blk rfl 66 (.tmp 6) (.tmp 32) rfl g6 rfl _ rfl _ 66 hyb (by rfl) (by kernel_rfl) (by kernel_rfl) ?_; intro w6 hq gr; replace hf := hf.away av_hf_yb gr; replace pf := pf.away av_pf_yb gr; replace hp := blk_a hp gr d_p_yb; replace hxb := blk_a hxb gr d_xb_yb; replace bel := below_grown bel gr oyb bel.size; clear hyb; have hyb := hq; clear hq gr; have R34 := Lib.hid (range_lit hxb 0 6 [.int .u8 (x.1.a.toNat : Int), .int .u8 (x.1.b.toNat : Int), .int .u8 (x.1.c.toNat : Int), .int .u8 (x.1.d.toNat : Int), .int .u8 (x.1.e.toNat : Int), .int .u8 (x.1.f.toNat : Int)] rfl)) | ((with_reducible show wpList _ _ _ (⟨some 34, _, _, _, _, _⟩ :: _) _ _); refine wpList_load_rng 32 (.tmp 33) rfl (by kernel_rfl) _ _ rfl _ R34.out _ Try.underlying32 rfl (by kernel_rfl) ?_; have R36 := Lib.hid (range_lit hyb 0 6 [.int .u8 (y.1.a.toNat : Int), .int .u8 (y.1.b.toNat : Int), .int .u8 (y.1.c.toNat : Int), .int .u8 (y.1.d.toNat : Int), .int .u8 (y.1.e.toNat : Int), .int .u8 (y.1.f.toNat : Int)] rfl)) | ((with_reducible show wpList _ _ _ (⟨some 36, _, _, _, _, _⟩ :: _) _ _); refine wpList_load_rng 32 (.tmp 35) rfl (by kernel_rfl) _ _ rfl _ R36.out _ Try.underlying32 rfl (by kernel_rfl) ?_))
                try clear R32
                try clear R34
                try clear R36
                go_ret
                exact ⟨by rw [HP.out]; rfl, bel⟩
            · have hl3 : decide (j < i) = false := decide_eq_false hl2
              have HJ : Hid (j = i) := Lib.hid (by omega)
              go_wp2_with fail
              go_roundg (nf + 1 - (i + 1))
              case measure => have := HGKo.out; omega
              case rel => exact ⟨i + 1, rfl, by omega, Lib.hid (by have h := HWf.out; rw [Cf.fix_step HX.out] at h; rw [← h, show c.fixOne (c.fixed.take i) x = true from one_okF (HONE.out) (by rw [← HJ.out]; exact HA.out), Bool.true_and]), by go_num, hp, hf, bel⟩
      · have hl1 : decide (i < nf) = false := decide_eq_false hil
        have HP : Hid (c.fixB = true) := Lib.hid (by unfold Cf.fixB; rw [HLN.out, HBG.out, ← HWf.out, List.drop_eq_nil_of_le (by rw [HLN.out]; omega)]; rfl)
        go_wp2_with fail
        go_ret
        exact ⟨by rw [HP.out]; rfl, bel⟩
set_option linter.unusedVariables false in
set_option linter.unusedSimpArgs false in
set_option maxRecDepth 100000 in
set_option maxHeartbeats 16000000 in
theorem openFits_any (c : Cf) (Fx : Option Addr) (nf cf : Nat) (Ox : Option Addr) (nx cx : Nat) (w : World) (ho : Sle opf 7 w Ox nx cx c.opens) (hlow : 1024 ≤ c.low ∧ c.low ≤ 60000) : Calls Try.prog 35 #[.agg (cfl c Fx nf cf Ox nx cx).toArray] w fun e w' => e = .returned (.bool (c.opnB)) ∧ Below w.heap.size w w' := by
  have gd2 := ad_guard2
  have gd3 := mc_guard2
  have HLN := Lib.hid ho.1
  have hloww : IntKind.i64.wrap (c.low - 1) = c.low - 1 := IntWalk.i64_in _ (by omega)
  have bel := Below.refl w.heap.size w
  go_enter Try.func35, Try.ntmps35
  by_cases hbig : 32 < nx
  · have hbk : (32 : Int) < nx := by omega
    have HP : Hid (c.opnB = false) := Lib.hid (by unfold Cf.opnB; rw [HLN.out, decide_eq_true hbig]; rfl)
    go_wp2_with (first | ((with_reducible show wpList _ _ _ (⟨some 1, _, _, _, _, _⟩ :: _) _ _); refine wpList_box_n rfl 36 (.tmp 0) rfl (cfl c Fx nf cf Ox nx cx).toArray rfl ?_; intro g1 w1 ge lt hh bb; have av_ho_p := ho.av_new ge; have op := Nat.le_trans bel.size ge; replace ho := ho.below bb; replace bel := bel.trans (bb.mono bel.size); have hp := hh; clear hh lt ge bb; have R8 := cell_lit hp 39 _ rfl))
    try clear R8
    go_ret
    exact ⟨by rw [HP.out]; rfl, bel⟩
  · have hbk : decide ((32 : Int) < nx) = false := decide_eq_false (by omega)
    have HBG := Lib.hid (decide_eq_false hbig)
    go_wp2_with (first | ((with_reducible show wpList _ _ _ (⟨some 1, _, _, _, _, _⟩ :: _) _ _); refine wpList_box_n rfl 36 (.tmp 0) rfl (cfl c Fx nf cf Ox nx cx).toArray rfl ?_; intro g1 w1 ge lt hh bb; have av_ho_p := ho.av_new ge; have op := Nat.le_trans bel.size ge; replace ho := ho.below bb; replace bel := bel.trans (bb.mono bel.size); have hp := hh; clear hh lt ge bb; have R8 := cell_lit hp 39 _ rfl; have R12 := cell_lit hp 39 _ rfl))
    try clear R8
    try clear R12
    go_loopg [14] (nx + 1) (fun gk s14 wr => ∃ i : Nat, gk = nx + 1 - i ∧ i ≤ nx ∧ Hid (c.opAll (c.opens.take i) (c.opens.drop i) = c.opAll [] c.opens) ∧ s14 = .int .i64 (i : Int) ∧ wr.heap[g1]? = some (.cells (cfl c Fx nf cf Ox nx cx).toArray 36 (0, 0)) ∧ Sle opf 7 wr (Ox) (nx) (cx) (c.opens) ∧ Below w.heap.size w wr)
    case atStart => exact ⟨0, rfl, Nat.zero_le _, Lib.hid rfl, rfl, hp, ho, bel⟩
    case round =>
      clear hp ho bel
      obtain ⟨i, HGK, hi, HWf, rfl, hp, ho, bel⟩ := hrel
      have HGK_ := Lib.hid HGK
      clear HGK
      have HGKo := HGK_
      clear HGK_
      have i0 : (0 : Int) ≤ i := by omega
      have i1 : (i : Int) ≤ 32 := by omega
      by_cases hil : i < nx
      · obtain ⟨gO, oO, hF⟩ := ho.place (by omega)
        subst hF
        obtain ⟨x, hx⟩ : ∃ x, c.opens[i]? = some x := ⟨_, List.getElem?_eq_getElem (by rw [HLN.out]; exact hil)⟩
        have HX := Lib.hid hx
        clear hx
        rcases (by decide : ∀ b : Bool, b = true ∨ b = false) (x.1 == 17) with b0_ | b0_
        · have f0 : (x.1 != 17) = false := by rw [bne, b0_]; rfl
          have HI0 : Hid (((x.1 == 17) || (x.1 == 6)) = true) := Lib.hid (by rw [b0_]; rfl)
          have R18 := Lib.hid (Sle.range0 ho HX.out 7 [.int .i64 x.1, .int .i64 x.2.1, .int .u8 (x.2.2.1.a.toNat : Int), .int .u8 (x.2.2.1.b.toNat : Int), .int .u8 (x.2.2.1.c.toNat : Int), .int .u8 (x.2.2.1.d.toNat : Int), .int .i64 x.2.2.2] rfl)
          go_wp2_with (first | ((with_reducible show wpList _ _ _ (⟨some 18, _, _, _, _, _⟩ :: _) _ _); refine wpList_load_rng 111 (.tmp 17) rfl (by kernel_rfl) _ _ rfl _ R18.out _ Try.underlying111 rfl (by kernel_rfl) ?_) | ((with_reducible show wpList _ _ _ (⟨some 4, _, _, _, _, _⟩ :: _) _ _); refine wpList_new_a rfl 111 rfl #[.int .i64 0, .int .i64 0, .int .u8 0, .int .u8 0, .int .u8 0, .int .u8 0, .int .i64 0] (by kernel_rfl) ?_; intro g4 w2 ge hh bb; have d_p_xb := ne_new (hlt hp) ge; have av_ho_xb := ho.av_new ge; have oxb := Nat.le_trans bel.size ge; replace hp := blk_u hp bb; replace ho := ho.below bb; replace bel := bel.trans (bb.mono bel.size); have hxb := hh; clear hh ge bb) | ((with_reducible show wpList _ _ _ (⟨none, Op.store _ (.tmp 4) _, _, _, _, _⟩ :: _) _ _); refine wpList_store_blk rfl 111 (.tmp 4) (.tmp 18) rfl g4 rfl _ rfl _ 111 hxb (by rfl) (by kernel_rfl) (by kernel_rfl) ?_; intro w3 hq gr; replace ho := ho.away av_ho_xb gr; replace hp := blk_a hp gr d_p_xb; replace bel := below_grown bel gr oxb bel.size; clear hxb; have hxb := hq; clear hq gr; have R20 := cell_lit hxb 0 _ rfl; have R28 := Lib.hid (range_lit hp 0 40 [.int .u8 (c.own.a.toNat : Int), .int .u8 (c.own.b.toNat : Int), .int .u8 (c.own.c.toNat : Int), .int .u8 (c.own.d.toNat : Int), .int .u8 (c.lan.a.toNat : Int), .int .u8 (c.lan.b.toNat : Int), .int .u8 (c.lan.c.toNat : Int), .int .u8 (c.lan.d.toNat : Int), .int .i64 c.bits, .int .u8 (c.lanmac.a.toNat : Int), .int .u8 (c.lanmac.b.toNat : Int), .int .u8 (c.lanmac.c.toNat : Int), .int .u8 (c.lanmac.d.toNat : Int), .int .u8 (c.lanmac.e.toNat : Int), .int .u8 (c.lanmac.f.toNat : Int), .int .u8 (c.wanmac.a.toNat : Int), .int .u8 (c.wanmac.b.toNat : Int), .int .u8 (c.wanmac.c.toNat : Int), .int .u8 (c.wanmac.d.toNat : Int), .int .u8 (c.wanmac.e.toNat : Int), .int .u8 (c.wanmac.f.toNat : Int), .int .u8 (c.first.a.toNat : Int), .int .u8 (c.first.b.toNat : Int), .int .u8 (c.first.c.toNat : Int), .int .u8 (c.first.d.toNat : Int), .int .u8 (c.last.a.toNat : Int), .int .u8 (c.last.b.toNat : Int), .int .u8 (c.last.c.toNat : Int), .int .u8 (c.last.d.toNat : Int), .int .i64 c.time, .int .u8 (c.dns.a.toNat : Int), .int .u8 (c.dns.b.toNat : Int), .int .u8 (c.dns.c.toNat : Int), .int .u8 (c.dns.d.toNat : Int), .int .i64 c.udp, .int .i64 c.tcp, .int .i64 c.icmp, .int .i64 c.low, .slice Fx nf cf, .slice (some ⟨gO, oO, none⟩) nx cx] rfl)) | ((with_reducible show wpList _ _ _ (⟨some 28, _, _, _, _, _⟩ :: _) _ _); refine wpList_load_rng 36 (.tmp 1) rfl (by kernel_rfl) _ _ rfl _ R28.out _ Try.underlying36 rfl (by kernel_rfl) ?_; have R30 := Lib.hid (range_lit hxb 2 4 [.int .u8 (x.2.2.1.a.toNat : Int), .int .u8 (x.2.2.1.b.toNat : Int), .int .u8 (x.2.2.1.c.toNat : Int), .int .u8 (x.2.2.1.d.toNat : Int)] rfl)) | ((with_reducible show wpList _ _ _ (⟨some 30, _, _, _, _, _⟩ :: _) _ _); refine wpList_load_rng 28 (.tmp 29) rfl (by kernel_rfl) _ _ rfl _ R30.out _ Try.underlying28 rfl (by kernel_rfl) ?_))
          try clear R18
          try clear R20
          try clear R28
          try clear R30
          with_reducible refine (isOther_any c (x.2.2.1) _ _ _ _ _ _ _).mono ?_
          rintro e w4 ⟨rfl, b4⟩
          replace hp := blk_u hp b4
          replace hxb := blk_u hxb b4
          replace ho := ho.below b4
          replace bel := bel.trans (b4.mono bel.size)
          clear b4
          obtain ⟨b5, HI1_⟩ : ∃ b, (c.inner (x.2.2.1) && !((x.2.2.1).num == c.own.num)) = b := ⟨_, rfl⟩
          have HI1 := Lib.hid HI1_
          rw [HI1_]
          clear HI1_
          rcases b5 with _ | _
          · have HP : Hid (c.opnB = false) := Lib.hid (by unfold Cf.opnB; rw [← HWf.out, Cf.op_step HX.out]; unfold Cf.opOne; have h_ := HI1.out; rcases Bool.and_eq_false_iff.1 h_ with h_ | h_ <;> rw [h_] <;> simp)
            go_wp2_with fail
            go_ret
            exact ⟨by rw [HP.out]; rfl, bel⟩
          · have R35 := cell_lit hxb 1 _ rfl
            have R37 := cell_lit hp 37 _ rfl
            go_wp2_with fail
            clear R35 R37
            with_reducible refine (within_any _ _ _ _).mono ?_
            rintro e _ ⟨rfl, rfl⟩
            obtain ⟨b2, HI2_⟩ : ∃ b, inI (x.2.1) 1 (c.low - 1) = b := ⟨_, rfl⟩
            have HI2 := Lib.hid HI2_
            rw [HI2_]
            clear HI2_
            rcases b2 with _ | _
            · have HP : Hid (c.opnB = false) := Lib.hid (by unfold Cf.opnB; rw [← HWf.out, Cf.op_step HX.out]; unfold Cf.opOne; rw [HI2.out]; simp)
              go_wp2_with fail
              go_ret
              exact ⟨by rw [HP.out]; rfl, bel⟩
            · have R43 := cell_lit hxb 6 _ rfl
              go_wp2_with fail
              clear R43
              with_reducible refine (within_any _ _ _ _).mono ?_
              rintro e _ ⟨rfl, rfl⟩
              obtain ⟨b3, HI3_⟩ : ∃ b, inI (x.2.2.2) 1 65535 = b := ⟨_, rfl⟩
              have HI3 := Lib.hid HI3_
              rw [HI3_]
              clear HI3_
              rcases b3 with _ | _
              · have HP : Hid (c.opnB = false) := Lib.hid (by unfold Cf.opnB; rw [← HWf.out, Cf.op_step HX.out]; unfold Cf.opOne; rw [HI3.out]; simp)
                go_wp2_with fail
                go_ret
                exact ⟨by rw [HP.out]; rfl, bel⟩
              · have HONE : Hid ((((x.1 == 17) || (x.1 == 6)) && (inI x.2.1 1 (c.low - 1) && (inI x.2.2.2 1 65535 && (c.inner x.2.2.1 && !(x.2.2.1.num == c.own.num))))) = true) := Lib.hid (by rw [HI0.out, HI2.out, HI3.out, HI1.out]; rfl)
                obtain ⟨A27, c27, r27, f27, u27⟩ := sle_front 34 111 (by kernel_rfl) (by kernel_rfl) (fun w => by kernel_rfl) ho (m := i) (by omega)
                have pf := f27 _ ho
                have av_pf_p := av_ho_p.sub u27
                clear f27 u27
                have R48 := cell_lit hp 39 _ rfl
                go_wp2_with fail
                clear R48
                go_loopg [52] (i + 1) (fun gk s52 wr => ∃ j : Nat, gk = i + 1 - j ∧ j ≤ i ∧ Hid ((c.opens.take j).any (opBad x) = false) ∧ s52 = .int .i64 (j : Int) ∧ wr.heap[g1]? = some (.cells #[.int .u8 (c.own.a.toNat : Int), .int .u8 (c.own.b.toNat : Int), .int .u8 (c.own.c.toNat : Int), .int .u8 (c.own.d.toNat : Int), .int .u8 (c.lan.a.toNat : Int), .int .u8 (c.lan.b.toNat : Int), .int .u8 (c.lan.c.toNat : Int), .int .u8 (c.lan.d.toNat : Int), .int .i64 c.bits, .int .u8 (c.lanmac.a.toNat : Int), .int .u8 (c.lanmac.b.toNat : Int), .int .u8 (c.lanmac.c.toNat : Int), .int .u8 (c.lanmac.d.toNat : Int), .int .u8 (c.lanmac.e.toNat : Int), .int .u8 (c.lanmac.f.toNat : Int), .int .u8 (c.wanmac.a.toNat : Int), .int .u8 (c.wanmac.b.toNat : Int), .int .u8 (c.wanmac.c.toNat : Int), .int .u8 (c.wanmac.d.toNat : Int), .int .u8 (c.wanmac.e.toNat : Int), .int .u8 (c.wanmac.f.toNat : Int), .int .u8 (c.first.a.toNat : Int), .int .u8 (c.first.b.toNat : Int), .int .u8 (c.first.c.toNat : Int), .int .u8 (c.first.d.toNat : Int), .int .u8 (c.last.a.toNat : Int), .int .u8 (c.last.b.toNat : Int), .int .u8 (c.last.c.toNat : Int), .int .u8 (c.last.d.toNat : Int), .int .i64 c.time, .int .u8 (c.dns.a.toNat : Int), .int .u8 (c.dns.b.toNat : Int), .int .u8 (c.dns.c.toNat : Int), .int .u8 (c.dns.d.toNat : Int), .int .i64 c.udp, .int .i64 c.tcp, .int .i64 c.icmp, .int .i64 c.low, .slice Fx nf cf, .slice (some ⟨gO, oO, none⟩) nx cx] 36 (0, 0)) ∧ wr.heap[g4]? = some (.cells #[.int .i64 x.1, .int .i64 x.2.1, .int .u8 (x.2.2.1.a.toNat : Int), .int .u8 (x.2.2.1.b.toNat : Int), .int .u8 (x.2.2.1.c.toNat : Int), .int .u8 (x.2.2.1.d.toNat : Int), .int .i64 x.2.2.2] 111 (0, 0)) ∧ Sle opf 7 wr (some ⟨gO, oO, none⟩) (nx) (cx) (c.opens) ∧ Sle opf 7 wr (A27) (i) (c27) (c.opens.take i) ∧ Below w.heap.size w wr)
                case atStart => exact ⟨0, rfl, Nat.zero_le _, Lib.hid rfl, rfl, hp, hxb, ho, pf, bel⟩
                case round =>
                  clear hp hxb ho pf bel
                  obtain ⟨j, HGK, hj, HA, rfl, hp, hxb, ho, pf, bel⟩ := hrel
                  have HGK_ := Lib.hid HGK
                  clear HGK
                  have HGKi := HGK_
                  clear HGK_
                  have j0 : (0 : Int) ≤ j := by omega
                  have j1 : (j : Int) ≤ 32 := by omega
                  by_cases hl2 : j < i
                  · obtain ⟨gP, oP, hP⟩ := pf.place (by omega)
                    subst hP
                    have hjf : j < nx := by omega
                    obtain ⟨y, hy⟩ : ∃ y, c.opens[j]? = some y := ⟨_, List.getElem?_eq_getElem (by rw [HLN.out]; exact hjf)⟩
                    have HY := Lib.hid hy
                    have HYT := Lib.hid (take_get hl2 hy)
                    clear hy
                    obtain ⟨b7, HJ7_⟩ : ∃ b, (y.1 == x.1) = b := ⟨_, rfl⟩
                    have HJ7 := Lib.hid HJ7_
                    have q7 : (x.1 == y.1) = b7 := by rw [beq_flip, HJ7_]
                    clear HJ7_
                    obtain ⟨b8, HJ8_⟩ : ∃ b, (y.2.1 == x.2.1) = b := ⟨_, rfl⟩
                    have HJ8 := Lib.hid HJ8_
                    have q8 : (x.2.1 == y.2.1) = b8 := by rw [beq_flip, HJ8_]
                    clear HJ8_
                    rcases b7 with _ | _
                    · have R55 := Lib.hid (Sle.range0 pf HYT.out 7 [.int .i64 y.1, .int .i64 y.2.1, .int .u8 (y.2.2.1.a.toNat : Int), .int .u8 (y.2.2.1.b.toNat : Int), .int .u8 (y.2.2.1.c.toNat : Int), .int .u8 (y.2.2.1.d.toNat : Int), .int .i64 y.2.2.2] rfl)
                      go_wp2_with (first | ((with_reducible show wpList _ _ _ (⟨some 55, _, _, _, _, _⟩ :: _) _ _); refine wpList_load_rng 111 (.tmp 54) rfl (by kernel_rfl) _ _ rfl _ R55.out _ Try.underlying111 rfl (by kernel_rfl) ?_) | ((with_reducible show wpList _ _ _ (⟨some 6, _, _, _, _, _⟩ :: _) _ _); refine wpList_new_a rfl 111 rfl #[.int .i64 0, .int .i64 0, .int .u8 0, .int .u8 0, .int .u8 0, .int .u8 0, .int .i64 0] (by kernel_rfl) ?_; intro g6 w5 ge hh bb; have d_p_yb := ne_new (hlt hp) ge; have d_xb_yb := ne_new (hlt hxb) ge; have av_ho_yb := ho.av_new ge; have av_pf_yb := pf.av_new ge; have oyb := Nat.le_trans bel.size ge; replace hp := blk_u hp bb; replace hxb := blk_u hxb bb; replace ho := ho.below bb; replace pf := pf.below bb; replace bel := bel.trans (bb.mono bel.size); have hyb := hh; clear hh ge bb) | ((with_reducible show wpList _ _ _ (⟨none, Op.store _ (.tmp 6) _, _, _, _, _⟩ :: _) _ _); refine wpList_store_blk rfl 111 (.tmp 6) (.tmp 55) rfl g6 rfl _ rfl _ 111 hyb (by rfl) (by kernel_rfl) (by kernel_rfl) ?_; intro w6 hq gr; replace ho := ho.away av_ho_yb gr; replace pf := pf.away av_pf_yb gr; replace hp := blk_a hp gr d_p_yb; replace hxb := blk_a hxb gr d_xb_yb; replace bel := below_grown bel gr oyb bel.size; clear hyb; have hyb := hq; clear hq gr; have R57 := cell_lit hxb 0 _ rfl; have R59 := cell_lit hyb 0 _ rfl))
                      try clear R55
                      try clear R57
                      try clear R59
                      go_roundg (i + 1 - (j + 1))
                      case measure => have := HGKi.out; omega
                      case rel => exact ⟨j + 1, rfl, by omega, Lib.hid (any_more HY.out HA.out (by unfold opBad; rw [HJ7.out]; rfl)), by go_num, hp, hxb, ho, pf, bel⟩
                    · rcases b8 with _ | _
                      · have R55 := Lib.hid (Sle.range0 pf HYT.out 7 [.int .i64 y.1, .int .i64 y.2.1, .int .u8 (y.2.2.1.a.toNat : Int), .int .u8 (y.2.2.1.b.toNat : Int), .int .u8 (y.2.2.1.c.toNat : Int), .int .u8 (y.2.2.1.d.toNat : Int), .int .i64 y.2.2.2] rfl)
                        go_wp2_with (first | ((with_reducible show wpList _ _ _ (⟨some 55, _, _, _, _, _⟩ :: _) _ _); refine wpList_load_rng 111 (.tmp 54) rfl (by kernel_rfl) _ _ rfl _ R55.out _ Try.underlying111 rfl (by kernel_rfl) ?_) | ((with_reducible show wpList _ _ _ (⟨some 6, _, _, _, _, _⟩ :: _) _ _); refine wpList_new_a rfl 111 rfl #[.int .i64 0, .int .i64 0, .int .u8 0, .int .u8 0, .int .u8 0, .int .u8 0, .int .i64 0] (by kernel_rfl) ?_; intro g6 w5 ge hh bb; have d_p_yb := ne_new (hlt hp) ge; have d_xb_yb := ne_new (hlt hxb) ge; have av_ho_yb := ho.av_new ge; have av_pf_yb := pf.av_new ge; have oyb := Nat.le_trans bel.size ge; replace hp := blk_u hp bb; replace hxb := blk_u hxb bb; replace ho := ho.below bb; replace pf := pf.below bb; replace bel := bel.trans (bb.mono bel.size); have hyb := hh; clear hh ge bb) | ((with_reducible show wpList _ _ _ (⟨none, Op.store _ (.tmp 6) _, _, _, _, _⟩ :: _) _ _); refine wpList_store_blk rfl 111 (.tmp 6) (.tmp 55) rfl g6 rfl _ rfl _ 111 hyb (by rfl) (by kernel_rfl) (by kernel_rfl) ?_; intro w6 hq gr; replace ho := ho.away av_ho_yb gr; replace pf := pf.away av_pf_yb gr; replace hp := blk_a hp gr d_p_yb; replace hxb := blk_a hxb gr d_xb_yb; replace bel := below_grown bel gr oyb bel.size; clear hyb; have hyb := hq; clear hq gr; have R57 := cell_lit hxb 0 _ rfl; have R59 := cell_lit hyb 0 _ rfl; have R63 := cell_lit hxb 1 _ rfl; have R65 := cell_lit hyb 1 _ rfl))
                        try clear R55
                        try clear R57
                        try clear R59
                        try clear R63
                        try clear R65
                        go_roundg (i + 1 - (j + 1))
                        case measure => have := HGKi.out; omega
                        case rel => exact ⟨j + 1, rfl, by omega, Lib.hid (any_more HY.out HA.out (by unfold opBad; rw [HJ7.out, HJ8.out]; rfl)), by go_num, hp, hxb, ho, pf, bel⟩
                      · have HP : Hid (c.opnB = false) := Lib.hid (by unfold Cf.opnB; rw [← HWf.out, Cf.op_step HX.out]; unfold Cf.opOne; rw [any_hit hl2 HY.out (by unfold opBad; rw [HJ7.out, HJ8.out]; rfl)]; simp)
                        have R55 := Lib.hid (Sle.range0 pf HYT.out 7 [.int .i64 y.1, .int .i64 y.2.1, .int .u8 (y.2.2.1.a.toNat : Int), .int .u8 (y.2.2.1.b.toNat : Int), .int .u8 (y.2.2.1.c.toNat : Int), .int .u8 (y.2.2.1.d.toNat : Int), .int .i64 y.2.2.2] rfl)
                        go_wp2_with (first | ((with_reducible show wpList _ _ _ (⟨some 55, _, _, _, _, _⟩ :: _) _ _); refine wpList_load_rng 111 (.tmp 54) rfl (by kernel_rfl) _ _ rfl _ R55.out _ Try.underlying111 rfl (by kernel_rfl) ?_) | ((with_reducible show wpList _ _ _ (⟨some 6, _, _, _, _, _⟩ :: _) _ _); refine wpList_new_a rfl 111 rfl #[.int .i64 0, .int .i64 0, .int .u8 0, .int .u8 0, .int .u8 0, .int .u8 0, .int .i64 0] (by kernel_rfl) ?_; intro g6 w5 ge hh bb; have d_p_yb := ne_new (hlt hp) ge; have d_xb_yb := ne_new (hlt hxb) ge; have av_ho_yb := ho.av_new ge; have av_pf_yb := pf.av_new ge; have oyb := Nat.le_trans bel.size ge; replace hp := blk_u hp bb; replace hxb := blk_u hxb bb; replace ho := ho.below bb; replace pf := pf.below bb; replace bel := bel.trans (bb.mono bel.size); have hyb := hh; clear hh ge bb) | ((with_reducible show wpList _ _ _ (⟨none, Op.store _ (.tmp 6) _, _, _, _, _⟩ :: _) _ _); refine wpList_store_blk rfl 111 (.tmp 6) (.tmp 55) rfl g6 rfl _ rfl _ 111 hyb (by rfl) (by kernel_rfl) (by kernel_rfl) ?_; intro w6 hq gr; replace ho := ho.away av_ho_yb gr; replace pf := pf.away av_pf_yb gr; replace hp := blk_a hp gr d_p_yb; replace hxb := blk_a hxb gr d_xb_yb; replace bel := below_grown bel gr oyb bel.size; clear hyb; have hyb := hq; clear hq gr; have R57 := cell_lit hxb 0 _ rfl; have R59 := cell_lit hyb 0 _ rfl; have R63 := cell_lit hxb 1 _ rfl; have R65 := cell_lit hyb 1 _ rfl))
                        try clear R55
                        try clear R57
                        try clear R59
                        try clear R63
                        try clear R65
                        go_ret
                        exact ⟨by rw [HP.out]; rfl, bel⟩
                  · have hl3 : decide (j < i) = false := decide_eq_false hl2
                    have HJ : Hid (j = i) := Lib.hid (by omega)
                    go_wp2_with fail
                    go_roundg (nx + 1 - (i + 1))
                    case measure => have := HGKo.out; omega
                    case rel => exact ⟨i + 1, rfl, by omega, Lib.hid (by have h := HWf.out; rw [Cf.op_step HX.out] at h; rw [← h, show c.opOne (c.opens.take i) x = true from one_okO (HONE.out) (by rw [← HJ.out]; exact HA.out), Bool.true_and]), by go_num, hp, ho, bel⟩
        · have f0 : (x.1 != 17) = true := by rw [bne, b0_]; rfl
          rcases (by decide : ∀ b : Bool, b = true ∨ b = false) (x.1 == 6) with b9_ | b9_
          · have f9 : (x.1 != 6) = false := by rw [bne, b9_]; rfl
            have HI0 : Hid (((x.1 == 17) || (x.1 == 6)) = true) := Lib.hid (by rw [b0_, b9_]; rfl)
            have R18 := Lib.hid (Sle.range0 ho HX.out 7 [.int .i64 x.1, .int .i64 x.2.1, .int .u8 (x.2.2.1.a.toNat : Int), .int .u8 (x.2.2.1.b.toNat : Int), .int .u8 (x.2.2.1.c.toNat : Int), .int .u8 (x.2.2.1.d.toNat : Int), .int .i64 x.2.2.2] rfl)
            go_wp2_with (first | ((with_reducible show wpList _ _ _ (⟨some 18, _, _, _, _, _⟩ :: _) _ _); refine wpList_load_rng 111 (.tmp 17) rfl (by kernel_rfl) _ _ rfl _ R18.out _ Try.underlying111 rfl (by kernel_rfl) ?_) | ((with_reducible show wpList _ _ _ (⟨some 4, _, _, _, _, _⟩ :: _) _ _); refine wpList_new_a rfl 111 rfl #[.int .i64 0, .int .i64 0, .int .u8 0, .int .u8 0, .int .u8 0, .int .u8 0, .int .i64 0] (by kernel_rfl) ?_; intro g4 w2 ge hh bb; have d_p_xb := ne_new (hlt hp) ge; have av_ho_xb := ho.av_new ge; have oxb := Nat.le_trans bel.size ge; replace hp := blk_u hp bb; replace ho := ho.below bb; replace bel := bel.trans (bb.mono bel.size); have hxb := hh; clear hh ge bb) | ((with_reducible show wpList _ _ _ (⟨none, Op.store _ (.tmp 4) _, _, _, _, _⟩ :: _) _ _); refine wpList_store_blk rfl 111 (.tmp 4) (.tmp 18) rfl g4 rfl _ rfl _ 111 hxb (by rfl) (by kernel_rfl) (by kernel_rfl) ?_; intro w3 hq gr; replace ho := ho.away av_ho_xb gr; replace hp := blk_a hp gr d_p_xb; replace bel := below_grown bel gr oxb bel.size; clear hxb; have hxb := hq; clear hq gr; have R20 := cell_lit hxb 0 _ rfl; have R24 := cell_lit hxb 0 _ rfl; have R28 := Lib.hid (range_lit hp 0 40 [.int .u8 (c.own.a.toNat : Int), .int .u8 (c.own.b.toNat : Int), .int .u8 (c.own.c.toNat : Int), .int .u8 (c.own.d.toNat : Int), .int .u8 (c.lan.a.toNat : Int), .int .u8 (c.lan.b.toNat : Int), .int .u8 (c.lan.c.toNat : Int), .int .u8 (c.lan.d.toNat : Int), .int .i64 c.bits, .int .u8 (c.lanmac.a.toNat : Int), .int .u8 (c.lanmac.b.toNat : Int), .int .u8 (c.lanmac.c.toNat : Int), .int .u8 (c.lanmac.d.toNat : Int), .int .u8 (c.lanmac.e.toNat : Int), .int .u8 (c.lanmac.f.toNat : Int), .int .u8 (c.wanmac.a.toNat : Int), .int .u8 (c.wanmac.b.toNat : Int), .int .u8 (c.wanmac.c.toNat : Int), .int .u8 (c.wanmac.d.toNat : Int), .int .u8 (c.wanmac.e.toNat : Int), .int .u8 (c.wanmac.f.toNat : Int), .int .u8 (c.first.a.toNat : Int), .int .u8 (c.first.b.toNat : Int), .int .u8 (c.first.c.toNat : Int), .int .u8 (c.first.d.toNat : Int), .int .u8 (c.last.a.toNat : Int), .int .u8 (c.last.b.toNat : Int), .int .u8 (c.last.c.toNat : Int), .int .u8 (c.last.d.toNat : Int), .int .i64 c.time, .int .u8 (c.dns.a.toNat : Int), .int .u8 (c.dns.b.toNat : Int), .int .u8 (c.dns.c.toNat : Int), .int .u8 (c.dns.d.toNat : Int), .int .i64 c.udp, .int .i64 c.tcp, .int .i64 c.icmp, .int .i64 c.low, .slice Fx nf cf, .slice (some ⟨gO, oO, none⟩) nx cx] rfl)) | ((with_reducible show wpList _ _ _ (⟨some 28, _, _, _, _, _⟩ :: _) _ _); refine wpList_load_rng 36 (.tmp 1) rfl (by kernel_rfl) _ _ rfl _ R28.out _ Try.underlying36 rfl (by kernel_rfl) ?_; have R30 := Lib.hid (range_lit hxb 2 4 [.int .u8 (x.2.2.1.a.toNat : Int), .int .u8 (x.2.2.1.b.toNat : Int), .int .u8 (x.2.2.1.c.toNat : Int), .int .u8 (x.2.2.1.d.toNat : Int)] rfl)) | ((with_reducible show wpList _ _ _ (⟨some 30, _, _, _, _, _⟩ :: _) _ _); refine wpList_load_rng 28 (.tmp 29) rfl (by kernel_rfl) _ _ rfl _ R30.out _ Try.underlying28 rfl (by kernel_rfl) ?_))
            try clear R18
            try clear R20
            try clear R24
            try clear R28
            try clear R30
            with_reducible refine (isOther_any c (x.2.2.1) _ _ _ _ _ _ _).mono ?_
            rintro e w4 ⟨rfl, b4⟩
            replace hp := blk_u hp b4
            replace hxb := blk_u hxb b4
            replace ho := ho.below b4
            replace bel := bel.trans (b4.mono bel.size)
            clear b4
            obtain ⟨b5, HI1_⟩ : ∃ b, (c.inner (x.2.2.1) && !((x.2.2.1).num == c.own.num)) = b := ⟨_, rfl⟩
            have HI1 := Lib.hid HI1_
            rw [HI1_]
            clear HI1_
            rcases b5 with _ | _
            · have HP : Hid (c.opnB = false) := Lib.hid (by unfold Cf.opnB; rw [← HWf.out, Cf.op_step HX.out]; unfold Cf.opOne; have h_ := HI1.out; rcases Bool.and_eq_false_iff.1 h_ with h_ | h_ <;> rw [h_] <;> simp)
              go_wp2_with fail
              go_ret
              exact ⟨by rw [HP.out]; rfl, bel⟩
            · have R35 := cell_lit hxb 1 _ rfl
              have R37 := cell_lit hp 37 _ rfl
              go_wp2_with fail
              clear R35 R37
              with_reducible refine (within_any _ _ _ _).mono ?_
              rintro e _ ⟨rfl, rfl⟩
              obtain ⟨b2, HI2_⟩ : ∃ b, inI (x.2.1) 1 (c.low - 1) = b := ⟨_, rfl⟩
              have HI2 := Lib.hid HI2_
              rw [HI2_]
              clear HI2_
              rcases b2 with _ | _
              · have HP : Hid (c.opnB = false) := Lib.hid (by unfold Cf.opnB; rw [← HWf.out, Cf.op_step HX.out]; unfold Cf.opOne; rw [HI2.out]; simp)
                go_wp2_with fail
                go_ret
                exact ⟨by rw [HP.out]; rfl, bel⟩
              · have R43 := cell_lit hxb 6 _ rfl
                go_wp2_with fail
                clear R43
                with_reducible refine (within_any _ _ _ _).mono ?_
                rintro e _ ⟨rfl, rfl⟩
                obtain ⟨b3, HI3_⟩ : ∃ b, inI (x.2.2.2) 1 65535 = b := ⟨_, rfl⟩
                have HI3 := Lib.hid HI3_
                rw [HI3_]
                clear HI3_
                rcases b3 with _ | _
                · have HP : Hid (c.opnB = false) := Lib.hid (by unfold Cf.opnB; rw [← HWf.out, Cf.op_step HX.out]; unfold Cf.opOne; rw [HI3.out]; simp)
                  go_wp2_with fail
                  go_ret
                  exact ⟨by rw [HP.out]; rfl, bel⟩
                · have HONE : Hid ((((x.1 == 17) || (x.1 == 6)) && (inI x.2.1 1 (c.low - 1) && (inI x.2.2.2 1 65535 && (c.inner x.2.2.1 && !(x.2.2.1.num == c.own.num))))) = true) := Lib.hid (by rw [HI0.out, HI2.out, HI3.out, HI1.out]; rfl)
                  obtain ⟨A27, c27, r27, f27, u27⟩ := sle_front 34 111 (by kernel_rfl) (by kernel_rfl) (fun w => by kernel_rfl) ho (m := i) (by omega)
                  have pf := f27 _ ho
                  have av_pf_p := av_ho_p.sub u27
                  clear f27 u27
                  have R48 := cell_lit hp 39 _ rfl
                  go_wp2_with fail
                  clear R48
                  go_loopg [52] (i + 1) (fun gk s52 wr => ∃ j : Nat, gk = i + 1 - j ∧ j ≤ i ∧ Hid ((c.opens.take j).any (opBad x) = false) ∧ s52 = .int .i64 (j : Int) ∧ wr.heap[g1]? = some (.cells #[.int .u8 (c.own.a.toNat : Int), .int .u8 (c.own.b.toNat : Int), .int .u8 (c.own.c.toNat : Int), .int .u8 (c.own.d.toNat : Int), .int .u8 (c.lan.a.toNat : Int), .int .u8 (c.lan.b.toNat : Int), .int .u8 (c.lan.c.toNat : Int), .int .u8 (c.lan.d.toNat : Int), .int .i64 c.bits, .int .u8 (c.lanmac.a.toNat : Int), .int .u8 (c.lanmac.b.toNat : Int), .int .u8 (c.lanmac.c.toNat : Int), .int .u8 (c.lanmac.d.toNat : Int), .int .u8 (c.lanmac.e.toNat : Int), .int .u8 (c.lanmac.f.toNat : Int), .int .u8 (c.wanmac.a.toNat : Int), .int .u8 (c.wanmac.b.toNat : Int), .int .u8 (c.wanmac.c.toNat : Int), .int .u8 (c.wanmac.d.toNat : Int), .int .u8 (c.wanmac.e.toNat : Int), .int .u8 (c.wanmac.f.toNat : Int), .int .u8 (c.first.a.toNat : Int), .int .u8 (c.first.b.toNat : Int), .int .u8 (c.first.c.toNat : Int), .int .u8 (c.first.d.toNat : Int), .int .u8 (c.last.a.toNat : Int), .int .u8 (c.last.b.toNat : Int), .int .u8 (c.last.c.toNat : Int), .int .u8 (c.last.d.toNat : Int), .int .i64 c.time, .int .u8 (c.dns.a.toNat : Int), .int .u8 (c.dns.b.toNat : Int), .int .u8 (c.dns.c.toNat : Int), .int .u8 (c.dns.d.toNat : Int), .int .i64 c.udp, .int .i64 c.tcp, .int .i64 c.icmp, .int .i64 c.low, .slice Fx nf cf, .slice (some ⟨gO, oO, none⟩) nx cx] 36 (0, 0)) ∧ wr.heap[g4]? = some (.cells #[.int .i64 x.1, .int .i64 x.2.1, .int .u8 (x.2.2.1.a.toNat : Int), .int .u8 (x.2.2.1.b.toNat : Int), .int .u8 (x.2.2.1.c.toNat : Int), .int .u8 (x.2.2.1.d.toNat : Int), .int .i64 x.2.2.2] 111 (0, 0)) ∧ Sle opf 7 wr (some ⟨gO, oO, none⟩) (nx) (cx) (c.opens) ∧ Sle opf 7 wr (A27) (i) (c27) (c.opens.take i) ∧ Below w.heap.size w wr)
                  case atStart => exact ⟨0, rfl, Nat.zero_le _, Lib.hid rfl, rfl, hp, hxb, ho, pf, bel⟩
                  case round =>
                    clear hp hxb ho pf bel
                    obtain ⟨j, HGK, hj, HA, rfl, hp, hxb, ho, pf, bel⟩ := hrel
                    have HGK_ := Lib.hid HGK
                    clear HGK
                    have HGKi := HGK_
                    clear HGK_
                    have j0 : (0 : Int) ≤ j := by omega
                    have j1 : (j : Int) ≤ 32 := by omega
                    by_cases hl2 : j < i
                    · obtain ⟨gP, oP, hP⟩ := pf.place (by omega)
                      subst hP
                      have hjf : j < nx := by omega
                      obtain ⟨y, hy⟩ : ∃ y, c.opens[j]? = some y := ⟨_, List.getElem?_eq_getElem (by rw [HLN.out]; exact hjf)⟩
                      have HY := Lib.hid hy
                      have HYT := Lib.hid (take_get hl2 hy)
                      clear hy
                      obtain ⟨b7, HJ7_⟩ : ∃ b, (y.1 == x.1) = b := ⟨_, rfl⟩
                      have HJ7 := Lib.hid HJ7_
                      have q7 : (x.1 == y.1) = b7 := by rw [beq_flip, HJ7_]
                      clear HJ7_
                      obtain ⟨b8, HJ8_⟩ : ∃ b, (y.2.1 == x.2.1) = b := ⟨_, rfl⟩
                      have HJ8 := Lib.hid HJ8_
                      have q8 : (x.2.1 == y.2.1) = b8 := by rw [beq_flip, HJ8_]
                      clear HJ8_
                      rcases b7 with _ | _
                      · have R55 := Lib.hid (Sle.range0 pf HYT.out 7 [.int .i64 y.1, .int .i64 y.2.1, .int .u8 (y.2.2.1.a.toNat : Int), .int .u8 (y.2.2.1.b.toNat : Int), .int .u8 (y.2.2.1.c.toNat : Int), .int .u8 (y.2.2.1.d.toNat : Int), .int .i64 y.2.2.2] rfl)
                        go_wp2_with (first | ((with_reducible show wpList _ _ _ (⟨some 55, _, _, _, _, _⟩ :: _) _ _); refine wpList_load_rng 111 (.tmp 54) rfl (by kernel_rfl) _ _ rfl _ R55.out _ Try.underlying111 rfl (by kernel_rfl) ?_) | ((with_reducible show wpList _ _ _ (⟨some 6, _, _, _, _, _⟩ :: _) _ _); refine wpList_new_a rfl 111 rfl #[.int .i64 0, .int .i64 0, .int .u8 0, .int .u8 0, .int .u8 0, .int .u8 0, .int .i64 0] (by kernel_rfl) ?_; intro g6 w5 ge hh bb; have d_p_yb := ne_new (hlt hp) ge; have d_xb_yb := ne_new (hlt hxb) ge; have av_ho_yb := ho.av_new ge; have av_pf_yb := pf.av_new ge; have oyb := Nat.le_trans bel.size ge; replace hp := blk_u hp bb; replace hxb := blk_u hxb bb; replace ho := ho.below bb; replace pf := pf.below bb; replace bel := bel.trans (bb.mono bel.size); have hyb := hh; clear hh ge bb) | ((with_reducible show wpList _ _ _ (⟨none, Op.store _ (.tmp 6) _, _, _, _, _⟩ :: _) _ _); refine wpList_store_blk rfl 111 (.tmp 6) (.tmp 55) rfl g6 rfl _ rfl _ 111 hyb (by rfl) (by kernel_rfl) (by kernel_rfl) ?_; intro w6 hq gr; replace ho := ho.away av_ho_yb gr; replace pf := pf.away av_pf_yb gr; replace hp := blk_a hp gr d_p_yb; replace hxb := blk_a hxb gr d_xb_yb; replace bel := below_grown bel gr oyb bel.size; clear hyb; have hyb := hq; clear hq gr; have R57 := cell_lit hxb 0 _ rfl; have R59 := cell_lit hyb 0 _ rfl))
                        try clear R55
                        try clear R57
                        try clear R59
                        go_roundg (i + 1 - (j + 1))
                        case measure => have := HGKi.out; omega
                        case rel => exact ⟨j + 1, rfl, by omega, Lib.hid (any_more HY.out HA.out (by unfold opBad; rw [HJ7.out]; rfl)), by go_num, hp, hxb, ho, pf, bel⟩
                      · rcases b8 with _ | _
                        · have R55 := Lib.hid (Sle.range0 pf HYT.out 7 [.int .i64 y.1, .int .i64 y.2.1, .int .u8 (y.2.2.1.a.toNat : Int), .int .u8 (y.2.2.1.b.toNat : Int), .int .u8 (y.2.2.1.c.toNat : Int), .int .u8 (y.2.2.1.d.toNat : Int), .int .i64 y.2.2.2] rfl)
                          go_wp2_with (first | ((with_reducible show wpList _ _ _ (⟨some 55, _, _, _, _, _⟩ :: _) _ _); refine wpList_load_rng 111 (.tmp 54) rfl (by kernel_rfl) _ _ rfl _ R55.out _ Try.underlying111 rfl (by kernel_rfl) ?_) | ((with_reducible show wpList _ _ _ (⟨some 6, _, _, _, _, _⟩ :: _) _ _); refine wpList_new_a rfl 111 rfl #[.int .i64 0, .int .i64 0, .int .u8 0, .int .u8 0, .int .u8 0, .int .u8 0, .int .i64 0] (by kernel_rfl) ?_; intro g6 w5 ge hh bb; have d_p_yb := ne_new (hlt hp) ge; have d_xb_yb := ne_new (hlt hxb) ge; have av_ho_yb := ho.av_new ge; have av_pf_yb := pf.av_new ge; have oyb := Nat.le_trans bel.size ge; replace hp := blk_u hp bb; replace hxb := blk_u hxb bb; replace ho := ho.below bb; replace pf := pf.below bb; replace bel := bel.trans (bb.mono bel.size); have hyb := hh; clear hh ge bb) | ((with_reducible show wpList _ _ _ (⟨none, Op.store _ (.tmp 6) _, _, _, _, _⟩ :: _) _ _); refine wpList_store_blk rfl 111 (.tmp 6) (.tmp 55) rfl g6 rfl _ rfl _ 111 hyb (by rfl) (by kernel_rfl) (by kernel_rfl) ?_; intro w6 hq gr; replace ho := ho.away av_ho_yb gr; replace pf := pf.away av_pf_yb gr; replace hp := blk_a hp gr d_p_yb; replace hxb := blk_a hxb gr d_xb_yb; replace bel := below_grown bel gr oyb bel.size; clear hyb; have hyb := hq; clear hq gr; have R57 := cell_lit hxb 0 _ rfl; have R59 := cell_lit hyb 0 _ rfl; have R63 := cell_lit hxb 1 _ rfl; have R65 := cell_lit hyb 1 _ rfl))
                          try clear R55
                          try clear R57
                          try clear R59
                          try clear R63
                          try clear R65
                          go_roundg (i + 1 - (j + 1))
                          case measure => have := HGKi.out; omega
                          case rel => exact ⟨j + 1, rfl, by omega, Lib.hid (any_more HY.out HA.out (by unfold opBad; rw [HJ7.out, HJ8.out]; rfl)), by go_num, hp, hxb, ho, pf, bel⟩
                        · have HP : Hid (c.opnB = false) := Lib.hid (by unfold Cf.opnB; rw [← HWf.out, Cf.op_step HX.out]; unfold Cf.opOne; rw [any_hit hl2 HY.out (by unfold opBad; rw [HJ7.out, HJ8.out]; rfl)]; simp)
                          have R55 := Lib.hid (Sle.range0 pf HYT.out 7 [.int .i64 y.1, .int .i64 y.2.1, .int .u8 (y.2.2.1.a.toNat : Int), .int .u8 (y.2.2.1.b.toNat : Int), .int .u8 (y.2.2.1.c.toNat : Int), .int .u8 (y.2.2.1.d.toNat : Int), .int .i64 y.2.2.2] rfl)
                          go_wp2_with (first | ((with_reducible show wpList _ _ _ (⟨some 55, _, _, _, _, _⟩ :: _) _ _); refine wpList_load_rng 111 (.tmp 54) rfl (by kernel_rfl) _ _ rfl _ R55.out _ Try.underlying111 rfl (by kernel_rfl) ?_) | ((with_reducible show wpList _ _ _ (⟨some 6, _, _, _, _, _⟩ :: _) _ _); refine wpList_new_a rfl 111 rfl #[.int .i64 0, .int .i64 0, .int .u8 0, .int .u8 0, .int .u8 0, .int .u8 0, .int .i64 0] (by kernel_rfl) ?_; intro g6 w5 ge hh bb; have d_p_yb := ne_new (hlt hp) ge; have d_xb_yb := ne_new (hlt hxb) ge; have av_ho_yb := ho.av_new ge; have av_pf_yb := pf.av_new ge; have oyb := Nat.le_trans bel.size ge; replace hp := blk_u hp bb; replace hxb := blk_u hxb bb; replace ho := ho.below bb; replace pf := pf.below bb; replace bel := bel.trans (bb.mono bel.size); have hyb := hh; clear hh ge bb) | ((with_reducible show wpList _ _ _ (⟨none, Op.store _ (.tmp 6) _, _, _, _, _⟩ :: _) _ _); refine wpList_store_blk rfl 111 (.tmp 6) (.tmp 55) rfl g6 rfl _ rfl _ 111 hyb (by rfl) (by kernel_rfl) (by kernel_rfl) ?_; intro w6 hq gr; replace ho := ho.away av_ho_yb gr; replace pf := pf.away av_pf_yb gr; replace hp := blk_a hp gr d_p_yb; replace hxb := blk_a hxb gr d_xb_yb; replace bel := below_grown bel gr oyb bel.size; clear hyb; have hyb := hq; clear hq gr; have R57 := cell_lit hxb 0 _ rfl; have R59 := cell_lit hyb 0 _ rfl; have R63 := cell_lit hxb 1 _ rfl; have R65 := cell_lit hyb 1 _ rfl))
                          try clear R55
                          try clear R57
                          try clear R59
                          try clear R63
                          try clear R65
                          go_ret
                          exact ⟨by rw [HP.out]; rfl, bel⟩
                    · have hl3 : decide (j < i) = false := decide_eq_false hl2
                      have HJ : Hid (j = i) := Lib.hid (by omega)
                      go_wp2_with fail
                      go_roundg (nx + 1 - (i + 1))
                      case measure => have := HGKo.out; omega
                      case rel => exact ⟨i + 1, rfl, by omega, Lib.hid (by have h := HWf.out; rw [Cf.op_step HX.out] at h; rw [← h, show c.opOne (c.opens.take i) x = true from one_okO (HONE.out) (by rw [← HJ.out]; exact HA.out), Bool.true_and]), by go_num, hp, ho, bel⟩
          · have f9 : (x.1 != 6) = true := by rw [bne, b9_]; rfl
            have HP : Hid (c.opnB = false) := Lib.hid (by unfold Cf.opnB; rw [← HWf.out, Cf.op_step HX.out]; unfold Cf.opOne; rw [b0_, b9_]; simp)
            have R18 := Lib.hid (Sle.range0 ho HX.out 7 [.int .i64 x.1, .int .i64 x.2.1, .int .u8 (x.2.2.1.a.toNat : Int), .int .u8 (x.2.2.1.b.toNat : Int), .int .u8 (x.2.2.1.c.toNat : Int), .int .u8 (x.2.2.1.d.toNat : Int), .int .i64 x.2.2.2] rfl)
            go_wp2_with (first | ((with_reducible show wpList _ _ _ (⟨some 18, _, _, _, _, _⟩ :: _) _ _); refine wpList_load_rng 111 (.tmp 17) rfl (by kernel_rfl) _ _ rfl _ R18.out _ Try.underlying111 rfl (by kernel_rfl) ?_) | ((with_reducible show wpList _ _ _ (⟨some 4, _, _, _, _, _⟩ :: _) _ _); refine wpList_new_a rfl 111 rfl #[.int .i64 0, .int .i64 0, .int .u8 0, .int .u8 0, .int .u8 0, .int .u8 0, .int .i64 0] (by kernel_rfl) ?_; intro g4 w2 ge hh bb; have d_p_xb := ne_new (hlt hp) ge; have av_ho_xb := ho.av_new ge; have oxb := Nat.le_trans bel.size ge; replace hp := blk_u hp bb; replace ho := ho.below bb; replace bel := bel.trans (bb.mono bel.size); have hxb := hh; clear hh ge bb) | ((with_reducible show wpList _ _ _ (⟨none, Op.store _ (.tmp 4) _, _, _, _, _⟩ :: _) _ _); refine wpList_store_blk rfl 111 (.tmp 4) (.tmp 18) rfl g4 rfl _ rfl _ 111 hxb (by rfl) (by kernel_rfl) (by kernel_rfl) ?_; intro w3 hq gr; replace ho := ho.away av_ho_xb gr; replace hp := blk_a hp gr d_p_xb; replace bel := below_grown bel gr oxb bel.size; clear hxb; have hxb := hq; clear hq gr; have R20 := cell_lit hxb 0 _ rfl; have R24 := cell_lit hxb 0 _ rfl))
            try clear R18
            try clear R20
            try clear R24
            go_ret
            exact ⟨by rw [HP.out]; rfl, bel⟩
      · have hl1 : decide (i < nx) = false := decide_eq_false hil
        have HP : Hid (c.opnB = true) := Lib.hid (by unfold Cf.opnB; rw [HLN.out, HBG.out, ← HWf.out, List.drop_eq_nil_of_le (by rw [HLN.out]; omega)]; rfl)
        go_wp2_with fail
        go_ret
        exact ⟨by rw [HP.out]; rfl, bel⟩
theorem low_of {c : Cf} (h : c.restB = true) : 1024 ≤ c.low ∧ c.low ≤ 60000 := by
  unfold Cf.restB inI at h
  simp only [Bool.and_eq_true, decide_eq_true_eq] at h
  omega
set_option linter.unusedVariables false in
set_option linter.unusedSimpArgs false in
set_option maxRecDepth 100000 in
set_option maxHeartbeats 16000000 in
theorem ccheck_any (c : Cf) (Fx : Option Addr) (nf cf : Nat) (Ox : Option Addr) (nx cx : Nat) (w : World) (hf : Sle fxf 10 w Fx nf cf c.fixed) (ho : Sle opf 7 w Ox nx cx c.opens) : Calls Try.prog 17 #[.agg (cfl c Fx nf cf Ox nx cx).toArray] w fun e w' => e = .returned (.int .i64 (errC c.check)) ∧ Below w.heap.size w w' := by
  have bel := Below.refl w.heap.size w
  go_enter Try.func17, Try.ntmps17
  go_wp2_with (first | ((with_reducible show wpList _ _ _ (⟨some 1, _, _, _, _, _⟩ :: _) _ _); refine wpList_box_n rfl 36 (.tmp 0) rfl (cfl c Fx nf cf Ox nx cx).toArray rfl ?_; intro g1 w1 ge lt hh bb; have av_hf_p := hf.av_new ge; have av_ho_p := ho.av_new ge; have op := Nat.le_trans bel.size ge; replace hf := hf.below bb; replace ho := ho.below bb; replace bel := bel.trans (bb.mono bel.size); have hp := hh; clear hh lt ge bb; have R3 := Lib.hid (range_lit hp 0 40 (cfl c Fx nf cf Ox nx cx) rfl)) | ((with_reducible show wpList _ _ _ (⟨some 3, _, _, _, _, _⟩ :: _) _ _); refine wpList_load_rng 36 (.tmp 1) rfl (by kernel_rfl) _ _ rfl _ R3.out _ Try.underlying36 rfl (by kernel_rfl) ?_))
  try clear R3
  with_reducible refine (lanFits_any c _ _ _ _ _ _ _).mono ?_
  rintro e w2 ⟨rfl, b2⟩
  replace hp := blk_u hp b2
  replace hf := hf.below b2
  replace ho := ho.below b2
  replace bel := bel.trans (b2.mono bel.size)
  clear b2
  obtain ⟨b0, HB0_⟩ : ∃ b, c.lanB = b := ⟨_, rfl⟩
  have HB0 := Lib.hid HB0_
  rw [HB0_]
  clear HB0_
  rcases b0 with _ | _
  · have HP : Hid (errC c.check = 1) := Lib.hid (by rw [show c.check = false by rw [Cf.check_is, HB0.out]; simp]; rfl)
    go_wp2_with fail
    go_ret
    exact ⟨by rw [HP.out]; rfl, bel⟩
  · have R6 := Lib.hid (range_lit hp 0 40 (cfl c Fx nf cf Ox nx cx) rfl)
    go_wp2_with (first | ((with_reducible show wpList _ _ _ (⟨some 6, _, _, _, _, _⟩ :: _) _ _); refine wpList_load_rng 36 (.tmp 1) rfl (by kernel_rfl) _ _ rfl _ R6.out _ Try.underlying36 rfl (by kernel_rfl) ?_))
    try clear R6
    with_reducible refine (poolFits_any c _ _ _ _ _ _ _).mono ?_
    rintro e w3 ⟨rfl, b3⟩
    replace hp := blk_u hp b3
    replace hf := hf.below b3
    replace ho := ho.below b3
    replace bel := bel.trans (b3.mono bel.size)
    clear b3
    obtain ⟨b1, HB1_⟩ : ∃ b, c.poolB = b := ⟨_, rfl⟩
    have HB1 := Lib.hid HB1_
    rw [HB1_]
    clear HB1_
    rcases b1 with _ | _
    · have HP : Hid (errC c.check = 1) := Lib.hid (by rw [show c.check = false by rw [Cf.check_is, HB0.out, HB1.out]; simp]; rfl)
      go_wp2_with fail
      go_ret
      exact ⟨by rw [HP.out]; rfl, bel⟩
    · have R10 := Lib.hid (range_lit hp 0 40 (cfl c Fx nf cf Ox nx cx) rfl)
      go_wp2_with (first | ((with_reducible show wpList _ _ _ (⟨some 10, _, _, _, _, _⟩ :: _) _ _); refine wpList_load_rng 36 (.tmp 1) rfl (by kernel_rfl) _ _ rfl _ R10.out _ Try.underlying36 rfl (by kernel_rfl) ?_))
      try clear R10
      with_reducible refine (restFits_any c _ _ _ _ _ _ _).mono ?_
      rintro e w4 ⟨rfl, b4⟩
      replace hp := blk_u hp b4
      replace hf := hf.below b4
      replace ho := ho.below b4
      replace bel := bel.trans (b4.mono bel.size)
      clear b4
      obtain ⟨b2, HB2_⟩ : ∃ b, c.restB = b := ⟨_, rfl⟩
      have HB2 := Lib.hid HB2_
      rw [HB2_]
      clear HB2_
      rcases b2 with _ | _
      · have HP : Hid (errC c.check = 1) := Lib.hid (by rw [show c.check = false by rw [Cf.check_is, HB0.out, HB1.out, HB2.out]; simp]; rfl)
        go_wp2_with fail
        go_ret
        exact ⟨by rw [HP.out]; rfl, bel⟩
      · have HLOW : Hid (1024 ≤ c.low ∧ c.low ≤ 60000) := Lib.hid (low_of HB2.out)
        have R14 := Lib.hid (range_lit hp 0 40 (cfl c Fx nf cf Ox nx cx) rfl)
        go_wp2_with (first | ((with_reducible show wpList _ _ _ (⟨some 14, _, _, _, _, _⟩ :: _) _ _); refine wpList_load_rng 36 (.tmp 1) rfl (by kernel_rfl) _ _ rfl _ R14.out _ Try.underlying36 rfl (by kernel_rfl) ?_))
        try clear R14
        with_reducible refine (fixedFits_any c _ _ _ _ _ _ _ hf).mono ?_
        rintro e w5 ⟨rfl, b5⟩
        replace hp := blk_u hp b5
        replace hf := hf.below b5
        replace ho := ho.below b5
        replace bel := bel.trans (b5.mono bel.size)
        clear b5
        obtain ⟨b3, HB3_⟩ : ∃ b, c.fixB = b := ⟨_, rfl⟩
        have HB3 := Lib.hid HB3_
        rw [HB3_]
        clear HB3_
        rcases b3 with _ | _
        · have HP : Hid (errC c.check = 1) := Lib.hid (by rw [show c.check = false by rw [Cf.check_is, HB0.out, HB1.out, HB2.out, HB3.out]; simp]; rfl)
          go_wp2_with fail
          go_ret
          exact ⟨by rw [HP.out]; rfl, bel⟩
        · have R18 := Lib.hid (range_lit hp 0 40 (cfl c Fx nf cf Ox nx cx) rfl)
          go_wp2_with (first | ((with_reducible show wpList _ _ _ (⟨some 18, _, _, _, _, _⟩ :: _) _ _); refine wpList_load_rng 36 (.tmp 1) rfl (by kernel_rfl) _ _ rfl _ R18.out _ Try.underlying36 rfl (by kernel_rfl) ?_))
          try clear R18
          with_reducible refine (openFits_any c _ _ _ _ _ _ _ ho HLOW.out).mono ?_
          rintro e w6 ⟨rfl, b6⟩
          replace hp := blk_u hp b6
          replace hf := hf.below b6
          replace ho := ho.below b6
          replace bel := bel.trans (b6.mono bel.size)
          clear b6
          obtain ⟨b4, HB4_⟩ : ∃ b, c.opnB = b := ⟨_, rfl⟩
          have HB4 := Lib.hid HB4_
          rw [HB4_]
          clear HB4_
          rcases b4 with _ | _
          · have HP : Hid (errC c.check = 1) := Lib.hid (by rw [show c.check = false by rw [Cf.check_is, HB0.out, HB1.out, HB2.out, HB3.out, HB4.out]; simp]; rfl)
            go_wp2_with fail
            go_ret
            exact ⟨by rw [HP.out]; rfl, bel⟩
          · have HP : Hid (errC c.check = 0) := Lib.hid (by rw [show c.check = true by rw [Cf.check_is, HB0.out, HB1.out, HB2.out, HB3.out, HB4.out]; rfl]; rfl)
            go_wp2_with fail
            go_ret
            exact ⟨by rw [HP.out]; rfl, bel⟩
end Go.Proofs.Ytapdmlfjohiekaa
