/- reserve, New. -/
import Derived.Test.YthcjepafcemmnaaPl9
namespace Go.Proofs.Ythcjepafcemmnaa
open Go.RowKit

/-- A map's block is written into: blocks of cells stay. -/
theorem Hm.blk {lo mb q : Nat} {w w' : World} {hs : List (Mc6 × Ad4)} {c : Array Value} {T : TypeId} {fz : Nat × Nat} (h : Hm lo mb w hs) (g : w.grownBy w' (some mb)) (hq : w.heap[q]? = some (.cells c T fz)) : w'.heap[q]? = some (.cells c T fz) :=
  (g.block q (hlt hq) (fun e => h.ne hq (by injection e with e; exact e.symm))).trans hq
theorem Hm.own {lo mb B k n : Nat} {w w' : World} {hs : List (Mc6 × Ad4)} {T : TypeId} {v : Value} {xs : List Value} (h : Hm lo mb w hs) (g : w.grownBy w' (some mb)) (ho : w.ownsRow B T k v n xs) : w'.ownsRow B T k v n xs := by
  refine ⟨ho.1, ?_⟩
  rcases ho.2 with h2 | ⟨g', cap, cur, e2, hb, hh, h3⟩
  · exact .inl h2
  · exact .inr ⟨g', cap, cur, e2, hb, h.blk g hh, h3⟩
theorem Hm.lo {lo mb : Nat} {w : World} {hs : List (Mc6 × Ad4)} (h : Hm lo mb w hs) : lo ≤ mb := by
  obtain ⟨_, _, _, h, _⟩ := h
  exact h
theorem Hm.bel {lo mb : Nat} {w0 w w' : World} {hs : List (Mc6 × Ad4)} (h : Hm lo mb w hs) (b : Below lo w0 w) (g : w.grownBy w' (some mb)) (hl : lo ≤ w.heap.size) : Below lo w0 w' := b.grown g hl (fun k e => by cases e; exact h.lo)
theorem wp_hm_put {o : Oper} {a : Act} {w : World} {K : Act → World → Prop} {Q : Exit → Act → World → Prop} (px py pz : Operand) (ho : o.op = .mapUpdate 55 px py pz) {lo mb : Nat} {hs : List (Mc6 × Ad4)} (m : Mc6) (ad : Ad4)
    (hx : a.eval px = .map (some mb)) (hy : a.eval py = macV m) (hz : a.eval pz = adV ad) (h : Hm lo mb w hs) (hm : ∀ p ∈ hs, p.1 ≠ m) (hK : ∀ w', Hm lo mb w' (hs ++ [(m, ad)]) → w.grownBy w' (some mb) → K (a.put o.dst undef) w') : Oper.wp Try.prog o a w K Q := by
  obtain ⟨w', hr, h1, h2⟩ := h.put m ad hm
  unfold Oper.wp execOp
  simp only [ho, hx, hy, hz, Sem.run_bind, Sem.run_pure, Result.andThen_ok, hr]
  exact hK _ h1 h2
theorem wp_hm_len {o : Oper} {a : Act} {w : World} {K : Act → World → Prop} {Q : Exit → Act → World → Prop} (px : Operand) (ho : o.op = .call { callee := .builtin .len, args := #[px], argTypes := #[55] }) {lo mb n : Nat} {hs : List (Mc6 × Ad4)}
    (hx : a.eval px = .map (some mb)) (h : Hm lo mb w hs) (hn : hs.length = n) (hK : K (a.put o.dst (.int .i64 (n : Int))) w) : Oper.wp Try.prog o a w K Q := by
  have hr := h.len o.type
  rw [hn] at hr
  unfold Oper.wp execOp
  simp only [ho, resolve, invoke, builtin, Sem.run_bind, Sem.run_pure, Result.andThen_ok, List.map_toArray, List.map_cons, List.map_nil, hx, hr]
  exact hK
theorem wpList_hm_len {ops : Array Oper} {rest : List Oper} {o : Oper} {a : Act} {w : World} {Q : Exit → Act → World → Prop} (hgd : o.guard = none) (px : Operand) (ho : o.op = .call { callee := .builtin .len, args := #[px], argTypes := #[55] }) {lo mb n : Nat} {hs : List (Mc6 × Ad4)}
    (hx : a.eval px = .map (some mb)) (h : Hm lo mb w hs) (hn : hs.length = n) (hK : wpList Try.prog ops Q rest (a.put o.dst (.int .i64 (n : Int))) w) : wpList Try.prog ops Q (o :: rest) a w :=
  wpList_plain hgd fun _ hK' => wp_hm_len px ho hx h hn (hK' _ _ hK)
def slotF (e : Le) : Sd := ⟨Mc6.zero, e.ad, 0, true, false, false, 0⟩
def Le.pr (e : Le) : Mc6 × Ad4 := (e.m, e.ad)
theorem slotF_srt {fl : List Le} (h : (fl.map (fun e => e.ad.num)).Pairwise (fun a b => a < b)) : SSrt (fl.map slotF) := by
  unfold SSrt
  rw [List.pairwise_map] at h ⊢
  exact h
theorem pr_new {fl : List Le} {k : Nat} {e : Le} (he : fl[k]? = some e) (h : (fl.map (·.m)).Nodup) : ∀ p ∈ (fl.take k).map Le.pr, p.1 ≠ e.m := by
  intro p hp
  obtain ⟨x, hx, rfl⟩ := List.mem_map.1 hp
  obtain ⟨j, hj⟩ := List.getElem?_of_mem hx
  rw [List.getElem?_take] at hj
  split at hj
  · rename_i hjk
    intro hxe
    have h1 := (List.getElem?_eq_some_iff.1 hj)
    have h2 := (List.getElem?_eq_some_iff.1 he)
    obtain ⟨a1, a2⟩ := h1
    obtain ⟨b1, b2⟩ := h2
    have hj' : (fl.map (·.m))[j]'(by simpa using a1) = (fl.map (·.m))[k]'(by simpa using b1) := by
      rw [List.getElem_map, List.getElem_map, a2, b2]; exact hxe
    exact List.pairwise_iff_getElem.1 h j k (by simpa using a1) (by simpa using b1) hjk hj'
  · cases hj
theorem take_pr {fl : List Le} {k : Nat} {e : Le} (he : fl[k]? = some e) : (fl.take k).map Le.pr ++ [(e.m, e.ad)] = (fl.take (k + 1)).map Le.pr := by
  rw [List.take_add_one, he, List.map_append]; rfl
theorem take_sf {fl : List Le} {k : Nat} {e : Le} (he : fl[k]? = some e) : (fl.take k).map slotF ++ [slotF e] = (fl.take (k + 1)).map slotF := by
  rw [List.take_add_one, he, List.map_append]; rfl
set_option linter.unusedVariables false in
set_option linter.unusedSimpArgs false in
set_option maxRecDepth 100000 in
set_option maxHeartbeats 16000000 in
theorem preserve_any {lo gt mb n c : Nat} {now : Int} {A : Option Addr} {fl : List Le} (w : World) (htb : w.heap[gt]? = some (.cells #[.int .i64 now, .map (some mb), .slice none 0 0] 58 (0, 0))) (otb : lo ≤ gt) (hlo : lo ≤ w.heap.size) (hM : Hm lo mb w []) (fx0 : Sle leE 11 w A n c fl) (hbl : Bl A n lo) (hn : n ≤ 2) (hsl : (fl.map (fun e => e.ad.num)).Pairwise (fun a b => a < b)) (hnd : (fl.map (·.m)).Nodup) : Calls Try.prog 22 #[.pointer (some ⟨gt, 0, none⟩), .slice A n c] w fun e w' => e = .returned (.bool true) ∧ ∃ A2 c2, w'.heap[gt]? = some (.cells #[.int .i64 now, .map (some mb), .slice A2 fl.length c2] 58 (0, 0)) ∧ Hm lo mb w' (fl.map Le.pr) ∧ w'.ownsRow lo 66 15 (.slice A2 fl.length c2) fl.length ((fl.map slotF).flatMap slE) ∧ Below lo w w' := by
  have HFX := Lib.hid fx0
  have HBL := Lib.hid hbl
  have HSL := Lib.hid hsl
  have HND := Lib.hid hnd
  have HN : Hid (fl.length = n) := Lib.hid fx0.1
  have HLO := Lib.hid hlo
  have HHN := Lib.hid hn
  have hn0 : (n : Int) ≤ 2 := by omega
  have hn1 : (0 : Int) ≤ n := by omega
  have own : w.ownsRow lo 66 15 (.slice none 0 0) 0 (([] : List Sd).flatMap slE) := World.ownsRow_nil _ _ _ _
  have off_tb := ofs_type own htb (by decide)
  obtain ⟨ie, hie, hie0, hie1, hie2⟩ := info_parts Try.info_slot
  clear fx0 hbl hsl hnd
  have bel := Below.refl lo w
  go_enter Try.func22, Try.ntmps22
  go_wp2_with fail
  go_loopg [10] (n) (fun gk s10 wr => ∃ k : Nat, ∃ Ak : Option Addr, ∃ ck : Nat, gk = n - k ∧ k ≤ n ∧ wr.ownsRow lo 66 15 (.slice Ak k ck) k (((fl.take k).map slotF).flatMap slE) ∧ Hm lo mb wr ((fl.take k).map Le.pr) ∧ s10 = .int .i64 (k : Int) ∧ wr.heap[gt]? = some (.cells #[.int .i64 now, .map (some mb), .slice Ak k ck] 58 (0, 0)) ∧ Below lo w wr)
  case atStart => exact ⟨0, none, 0, Nat.sub_zero _, Nat.zero_le _, own, hM, rfl, htb, bel⟩
  case round =>
    clear own hM htb bel
    obtain ⟨k, Ak, ck, HGK, hkn, own, hM, rfl, htb, bel⟩ := hrel
    have HGK_ := Lib.hid HGK
    clear HGK
    have off_tb := ofs_type own htb (by decide)
    by_cases h : k < n
    · obtain ⟨f, hf⟩ : ∃ f, fl[k]? = some f := ⟨_, List.getElem?_eq_getElem (by have := HN.out; omega)⟩
      have HF := Lib.hid hf
      have fx := HFX.out.under HBL.out bel
      obtain ⟨gF, oF, rfl⟩ := fx.place (by omega)
      have k0 : (0 : Int) ≤ k := by omega
      have k1 : (k : Int) < n := by omega
      have HB1 : Hid (k + 1 ≤ maxLen) := Lib.hid (by have := HHN.out; unfold maxLen; omega)
      have HB2 : Hid ((k + 1) * 40 ≤ 140737488355328) := Lib.hid (by have := HHN.out; omega)
      clear hf
      have av_fx_tb : Av (some ⟨gF, oF, none⟩) n gt := fun hn_ a_ o_ p_ e_ => Nat.ne_of_lt (Nat.lt_of_lt_of_le (HBL.out hn_ a_ o_ p_ e_) otb)
      have R13 := Lib.hid (Sle.range0 fx HF.out 11 [.int .u8 (f.m.a.toNat : Int), .int .u8 (f.m.b.toNat : Int), .int .u8 (f.m.c.toNat : Int), .int .u8 (f.m.d.toNat : Int), .int .u8 (f.m.e.toNat : Int), .int .u8 (f.m.f.toNat : Int), .int .u8 (f.ad.a.toNat : Int), .int .u8 (f.ad.b.toNat : Int), .int .u8 (f.ad.c.toNat : Int), .int .u8 (f.ad.d.toNat : Int), .int .i64 f.u] rfl)
      go_wp2_with (first | ((with_reducible show wpList _ _ _ (⟨some 13, _, _, _, _, _⟩ :: _) _ _); refine wpList_load_rng 34 (.tmp 12) rfl (by kernel_rfl) _ _ rfl _ R13.out _ Try.underlying34 rfl (by kernel_rfl) ?_) | ((with_reducible show wpList _ _ _ (⟨some 6, _, _, _, _, _⟩ :: _) _ _); refine wpList_new_a rfl 34 rfl #[.int .u8 0, .int .u8 0, .int .u8 0, .int .u8 0, .int .u8 0, .int .u8 0, .int .u8 0, .int .u8 0, .int .u8 0, .int .u8 0, .int .i64 0] (by kernel_rfl) ?_; intro g6 w1 ge hh bb; have d_tb_fB := ne_new (hlt htb) ge; have av_fx_fB := fx.av_new ge; have ofB := Nat.le_trans (Nat.le_trans hlo bel.size) ge; have off_fB := owk_new own ge; replace htb := blk_u htb bb; replace fx := fx.below bb; replace own := owk_under own bb; replace hM := hM.below bb; replace bel := bel.trans (bb.mono (Nat.le_trans hlo bel.size)); have hfB := hh; clear hh ge bb) | ((with_reducible show wpList _ _ _ (⟨none, Op.store _ (.tmp 6) _, _, _, _, _⟩ :: _) _ _); refine wpList_store_blk rfl 34 (.tmp 6) (.tmp 13) rfl g6 rfl _ rfl _ 34 hfB (by rfl) (by kernel_rfl) (by kernel_rfl) ?_; intro w2 hq gr; replace fx := fx.away av_fx_fB gr; replace htb := blk_a htb gr d_tb_fB; replace own := owk_off own off_fB gr; replace hM := hM.grown gr hfB; replace bel := below_grown bel gr ofB (Nat.le_trans hlo bel.size); clear hfB; have hfB := hq; clear hq gr))
      try clear R13
      replace bel := bel.drew
      replace htb : w2.drew.heap[gt]? = _ := htb
      replace hfB : w2.drew.heap[g6]? = _ := hfB
      replace fx := fx.drew
      replace own := World.ownsRow.drew own
      replace hM := hm_drew hM
      refine wp_region_held_drew (S := fun W => W.heap[gt]? = some (.cells #[.int .i64 now, .map (some mb), .slice Ak k ck] 58 (0, 0)) ∧ W.heap[g6]? = some (.cells #[.int .u8 (f.m.a.toNat : Int), .int .u8 (f.m.b.toNat : Int), .int .u8 (f.m.c.toNat : Int), .int .u8 (f.m.d.toNat : Int), .int .u8 (f.m.e.toNat : Int), .int .u8 (f.m.f.toNat : Int), .int .u8 (f.ad.a.toNat : Int), .int .u8 (f.ad.b.toNat : Int), .int .u8 (f.ad.c.toNat : Int), .int .u8 (f.ad.d.toNat : Int), .int .i64 f.u] 34 (0, 0))) (by kernel_rfl) ⟨htb, hfB⟩ (fun hH => ?_)
      generalize w2.drew = w3 at bel htb hfB fx own hM hH ⊢
      refine wpAnyH_take (i := 0) (v := ?_) rfl (by kernel_rfl) (by kernel_rfl) (by kernel_rfl) (fun _ _ _ h => h) (Or.inl ⟨by rfl, ?_⟩) hH ?_
      rotate_left
      · ((intro W hW; clear hW; go_simp) <;> with_reducible rfl)
      simp only [Act.put, List.getElem_toArray, List.getElem_cons_zero, List.setIfInBounds_toArray, List.set_cons_zero, List.set_cons_succ]
      refine wpAnyH_take (i := 1) (v := ?_) rfl (by kernel_rfl) (by kernel_rfl) (by kernel_rfl) (fun _ _ _ h => h) (Or.inl ⟨by rfl, ?_⟩) hH ?_
      rotate_left
      · ((intro W hW; clear hW; go_simp) <;> with_reducible rfl)
      simp only [Act.put, List.getElem_toArray, List.getElem_cons_zero, List.getElem_cons_succ, List.setIfInBounds_toArray, List.set_cons_zero, List.set_cons_succ]
      refine wpAnyH_take (i := 2) (v := ?_) rfl (by kernel_rfl) (by kernel_rfl) (by kernel_rfl) (fun _ _ _ h => h) (Or.inl ⟨by rfl, ?_⟩) hH ?_
      rotate_left
      · ((intro W hW; clear hW; go_simp) <;> with_reducible rfl)
      simp only [Act.put, List.getElem_toArray, List.getElem_cons_zero, List.getElem_cons_succ, List.setIfInBounds_toArray, List.set_cons_zero, List.set_cons_succ]
      refine wpAnyH_take (i := 3) (v := ?_) rfl (by kernel_rfl) (by kernel_rfl) (by kernel_rfl) (fun _ _ _ h => h) (Or.inl ⟨by rfl, ?_⟩) hH ?_
      rotate_left
      · ((intro W hW; have hk := cell_lit (hW.1) 1 _ rfl; clear hW; go_simp) <;> with_reducible rfl)
      simp only [Act.put, List.getElem_toArray, List.getElem_cons_zero, List.getElem_cons_succ, List.setIfInBounds_toArray, List.set_cons_zero, List.set_cons_succ]
      refine wpAnyH_take (i := 4) (v := ?_) rfl (by kernel_rfl) (by kernel_rfl) (by kernel_rfl) (fun _ _ _ h => h) (Or.inl ⟨by rfl, ?_⟩) hH ?_
      rotate_left
      · ((intro W hW; clear hW; go_simp) <;> with_reducible rfl)
      simp only [Act.put, List.getElem_toArray, List.getElem_cons_zero, List.getElem_cons_succ, List.setIfInBounds_toArray, List.set_cons_zero, List.set_cons_succ]
      refine wpAnyH_take (i := 5) (v := .agg #[.int .u8 (f.m.a.toNat : Int), .int .u8 (f.m.b.toNat : Int), .int .u8 (f.m.c.toNat : Int), .int .u8 (f.m.d.toNat : Int), .int .u8 (f.m.e.toNat : Int), .int .u8 (f.m.f.toNat : Int)]) rfl (by kernel_rfl) (by kernel_rfl) (by kernel_rfl) (fun _ _ _ h => h) (yieldsIf_load_part (by kernel_rfl) 31 _ rfl g6 0 6 rfl _ 34 (0, 0) (fun W hW => hW.2) _ rfl _ Try.underlying31 rfl (by kernel_rfl)) hH ?_
      simp only [Act.put, List.getElem_toArray, List.getElem_cons_zero, List.getElem_cons_succ, List.setIfInBounds_toArray, List.set_cons_zero, List.set_cons_succ]
      refine wpAnyH_take (i := 6) (v := ?_) rfl (by kernel_rfl) (by kernel_rfl) (by kernel_rfl) (fun _ _ _ h => h) (Or.inl ⟨by rfl, ?_⟩) hH ?_
      rotate_left
      · ((intro W hW; clear hW; go_simp) <;> with_reducible rfl)
      simp only [Act.put, List.getElem_toArray, List.getElem_cons_zero, List.getElem_cons_succ, List.setIfInBounds_toArray, List.set_cons_zero, List.set_cons_succ]
      refine wpAnyH_take (i := 7) (v := .agg #[.int .u8 (f.ad.a.toNat : Int), .int .u8 (f.ad.b.toNat : Int), .int .u8 (f.ad.c.toNat : Int), .int .u8 (f.ad.d.toNat : Int)]) rfl (by kernel_rfl) (by kernel_rfl) (by kernel_rfl) (fun _ _ _ h => h) (yieldsIf_load_part (by kernel_rfl) 28 _ rfl g6 6 4 rfl _ 34 (0, 0) (fun W hW => hW.2) _ rfl _ Try.underlying28 rfl (by kernel_rfl)) hH ?_
      simp only [Act.put, List.getElem_toArray, List.getElem_cons_zero, List.getElem_cons_succ, List.setIfInBounds_toArray, List.set_cons_zero, List.set_cons_succ]
      refine wpAnyH_ready (rs := [8]) (by kernel_rfl) (by simp) ?_
      refine AllReadyH.cons (o := _) rfl (fun K hK => ?_) AllReadyH.nil
      simp only [List.getElem_toArray, List.getElem_cons_zero, List.getElem_cons_succ]
      rw [if_pos (by rfl)]
      refine wp_hm_put (.tmp 17) (.tmp 19) (.tmp 21) rfl f.m f.ad rfl rfl rfl hM (pr_new HF.out HND.out) ?_
      intro w70 hM_ gm
      replace htb := hM.blk gm htb
      replace hfB := hM.blk gm hfB
      replace own := hM.own gm own
      replace bel := hM.bel bel gm (Nat.le_trans HLO.out bel.size)
      clear hM gm
      rw [take_pr HF.out] at hM_
      have hM := hM_
      clear hM_
      clear fx
      refine hK.out _ _ ⟨htb, hfB⟩ (fun hH4 => ?_)
      clear hK K
      simp only [Act.put]
      refine wpAnyH_done (by kernel_rfl) ?_ _
      go_wp2_with fail
      replace bel := bel.drew
      replace htb : w70.drew.heap[gt]? = _ := htb
      replace hfB : w70.drew.heap[g6]? = _ := hfB
      replace own := World.ownsRow.drew own
      replace hM := hm_drew hM
      refine wp_region_z 13 (S := fun W => W.heap[gt]? = some (.cells #[.int .i64 now, .map (some mb), .slice Ak k ck] 58 (0, 0)) ∧ W.heap[g6]? = some (.cells #[.int .u8 (f.m.a.toNat : Int), .int .u8 (f.m.b.toNat : Int), .int .u8 (f.m.c.toNat : Int), .int .u8 (f.m.d.toNat : Int), .int .u8 (f.m.e.toNat : Int), .int .u8 (f.m.f.toNat : Int), .int .u8 (f.ad.a.toNat : Int), .int .u8 (f.ad.b.toNat : Int), .int .u8 (f.ad.c.toNat : Int), .int .u8 (f.ad.d.toNat : Int), .int .i64 f.u] 34 (0, 0))) (by kernel_rfl) ⟨htb, hfB⟩ (fun hH => ?_)
      generalize w70.drew = w5 at bel htb hfB own hM hH ⊢
      refine wpAnyZ_take (i := 0) (v := ?_) rfl (by kernel_rfl) (by kernel_rfl) (by kernel_rfl) (fun _ _ _ h => h) (Or.inl ⟨by rfl, ?_⟩) hH ?_
      rotate_left
      · ((intro W hW; clear hW; go_simp) <;> with_reducible rfl)
      simp only [Act.put, List.getElem_toArray, List.getElem_cons_zero, List.setIfInBounds_toArray, List.set_cons_zero, List.set_cons_succ]
      refine wpAnyZ_take (i := 1) (v := ?_) rfl (by kernel_rfl) (by kernel_rfl) (by kernel_rfl) (fun _ _ _ h => h) (Or.inl ⟨by rfl, ?_⟩) hH ?_
      rotate_left
      · ((intro W hW; clear hW; go_simp) <;> with_reducible rfl)
      simp only [Act.put, List.getElem_toArray, List.getElem_cons_zero, List.getElem_cons_succ, List.setIfInBounds_toArray, List.set_cons_zero, List.set_cons_succ]
      refine wpAnyZ_take (i := 2) (v := ?_) rfl (by kernel_rfl) (by kernel_rfl) (by kernel_rfl) (fun _ _ _ h => h) (Or.inl ⟨by rfl, ?_⟩) hH ?_
      rotate_left
      · ((intro W hW; clear hW; go_simp) <;> with_reducible rfl)
      simp only [Act.put, List.getElem_toArray, List.getElem_cons_zero, List.getElem_cons_succ, List.setIfInBounds_toArray, List.set_cons_zero, List.set_cons_succ]
      refine wpAnyZ_take (i := 3) (v := ?_) rfl (by kernel_rfl) (by kernel_rfl) (by kernel_rfl) (fun _ _ _ h => h) (Or.inl ⟨by rfl, ?_⟩) hH ?_
      rotate_left
      · ((intro W hW; clear hW; go_simp) <;> with_reducible rfl)
      simp only [Act.put, List.getElem_toArray, List.getElem_cons_zero, List.getElem_cons_succ, List.setIfInBounds_toArray, List.set_cons_zero, List.set_cons_succ]
      refine wpAnyZ_take (i := 4) (v := ?_) rfl (by kernel_rfl) (by kernel_rfl) (by kernel_rfl) (fun _ _ _ h => h) (Or.inl ⟨by rfl, ?_⟩) hH ?_
      rotate_left
      · ((intro W hW; have hk := cell_lit (hW.1) 2 _ rfl; clear hW; go_simp) <;> with_reducible rfl)
      simp only [Act.put, List.getElem_toArray, List.getElem_cons_zero, List.getElem_cons_succ, List.setIfInBounds_toArray, List.set_cons_zero, List.set_cons_succ]
      refine wpAnyZ_take (i := 5) (v := ?_) rfl (by kernel_rfl) (by kernel_rfl) (by kernel_rfl) (fun _ _ _ h => h) (Or.inl ⟨by rfl, ?_⟩) hH ?_
      rotate_left
      · ((intro W hW; clear hW; go_simp) <;> with_reducible rfl)
      simp only [Act.put, List.getElem_toArray, List.getElem_cons_zero, List.getElem_cons_succ, List.setIfInBounds_toArray, List.set_cons_zero, List.set_cons_succ]
      refine wpAnyZ_take (i := 6) (v := .agg #[.int .u8 (f.ad.a.toNat : Int), .int .u8 (f.ad.b.toNat : Int), .int .u8 (f.ad.c.toNat : Int), .int .u8 (f.ad.d.toNat : Int)]) rfl (by kernel_rfl) (by kernel_rfl) (by kernel_rfl) (fun _ _ _ h => h) (yieldsIf_load_part (by kernel_rfl) 28 _ rfl g6 6 4 rfl _ 34 (0, 0) (fun W hW => hW.2) _ rfl _ Try.underlying28 rfl (by kernel_rfl)) hH ?_
      simp only [Act.put, List.getElem_toArray, List.getElem_cons_zero, List.getElem_cons_succ, List.setIfInBounds_toArray, List.set_cons_zero, List.set_cons_succ]
      refine wpAnyZ_take (i := 7) (v := ?_) rfl (by kernel_rfl) (by kernel_rfl) (by kernel_rfl) (fun _ _ _ h => h) (Or.inl ⟨by rfl, ?_⟩) hH ?_
      rotate_left
      · ((intro W hW; clear hW; go_simp) <;> with_reducible rfl)
      simp only [Act.put, List.getElem_toArray, List.getElem_cons_zero, List.getElem_cons_succ, List.setIfInBounds_toArray, List.set_cons_zero, List.set_cons_succ]
      refine wpAnyZ_take (i := 8) (v := ?_) rfl (by kernel_rfl) (by kernel_rfl) (by kernel_rfl) (fun _ _ _ h => h) (Or.inl ⟨by rfl, ?_⟩) hH ?_
      rotate_left
      · ((intro W hW; clear hW; go_simp) <;> with_reducible rfl)
      simp only [Act.put, List.getElem_toArray, List.getElem_cons_zero, List.getElem_cons_succ, List.setIfInBounds_toArray, List.set_cons_zero, List.set_cons_succ]
      refine wpAnyZ_ready (rs := [9]) (by kernel_rfl) (by simp) ?_
      refine AllReadyZ.cons (o := _) rfl (fun K hK => ?_) AllReadyZ.nil
      simp only [List.getElem_toArray, List.getElem_cons_zero, List.getElem_cons_succ]
      rw [if_pos (by rfl)]
      refine wp_lit_n 56 66 1 _ rfl #[.int .u8 0, .int .u8 0, .int .u8 0, .int .u8 0, .int .u8 0, .int .u8 0, .int .u8 (f.ad.a.toNat : Int), .int .u8 (f.ad.b.toNat : Int), .int .u8 (f.ad.c.toNat : Int), .int .u8 (f.ad.d.toNat : Int), .int .i64 0, .bool true, .bool false, .bool false, .int .i64 0] (.agg #[.int .u8 0, .int .u8 0, .int .u8 0, .int .u8 0, .int .u8 0, .int .u8 0, .int .u8 0, .int .u8 0, .int .u8 0, .int .u8 0, .int .i64 0, .bool false, .bool false, .bool false, .int .i64 0]) Try.underlying56 (by kernel_rfl) 15 (by kernel_rfl) (by decide) (by kernel_rfl) ?_
      intro g31 w6 ge lt hh bb
      have d_tb_b31 := ne_new (hlt htb) ge
      have d_fB_b31 := ne_new (hlt hfB) ge
      have ob31 := Nat.le_trans (Nat.le_trans hlo bel.size) ge
      have off_b31 := owk_new own ge
      replace htb := blk_u htb bb
      replace hfB := blk_u hfB bb
      replace own := owk_under own bb
      replace hM := hM.below bb
      replace bel := bel.trans (bb.mono (Nat.le_trans hlo bel.size))
      have hb31 := hh
      clear hh lt ge bb
      refine hK.out _ _ ⟨htb, hfB⟩ (fun hH7 => ?_)
      clear hK K
      simp only [Act.put, List.setIfInBounds_toArray, List.set_cons_zero, List.set_cons_succ]
      refine wpAnyZ_ready (rs := [10]) (by kernel_rfl) (by simp) ?_
      refine AllReadyZ.cons (o := _) rfl (fun K hK => ?_) AllReadyZ.nil
      simp only [List.getElem_toArray, List.getElem_cons_zero, List.getElem_cons_succ]
      rw [if_pos (by rfl)]
      have HLO_ := Nat.le_trans HLO.out bel.size
      have lt : Sle slE 15 w6 (some ⟨g31, 0, none⟩) 1 1 [slotF f] := sle_lit [slotF f] (by decide) slE_len hb31 rfl (by simp [maxLen])
      refine wp_append_sle (.tmp 26) (.tmp 31) 56 rfl lo 66 ie (.agg #[.int .u8 0, .int .u8 0, .int .u8 0, .int .u8 0, .int .u8 0, .int .u8 0, .int .u8 0, .int .u8 0, .int .u8 0, .int .u8 0, .int .i64 0, .bool false, .bool false, .bool false, .int .i64 0]) 40 Try.underlying56 hie hie0 hie1 hie2 rfl slE_one _ k ((fl.take k).map slotF) rfl own (some ⟨g31, 0, none⟩) 1 1 [slotF f] rfl lt HB1.out HB2.out HLO_ ?_
      intro v32 w71 own_ bb gw ofw
      have off_tb_ := ofw _ (hlt htb) off_tb
      replace htb := blk_own htb gw off_tb
      replace hfB := blk_own hfB gw off_fB
      replace hM := hM.row gw own
      replace bel := bel.trans bb
      clear own lt bb gw ofw off_tb off_fB off_b31 hb31 HLO_
      rw [take_sf HF.out] at own_
      obtain ⟨A32, c32, rfl⟩ := owk_val own_
      have own := own_
      have off_tb := off_tb_
      clear own_ off_tb_
      refine hK.out _ _ ⟨htb, hfB⟩ (fun hH8 => ?_)
      clear hK K
      simp only [Act.put, List.setIfInBounds_toArray, List.set_cons_zero, List.set_cons_succ]
      refine wpAnyZ_take (i := 11) (v := ?_) rfl (by kernel_rfl) (by kernel_rfl) (by kernel_rfl) (fun _ _ _ h => h) (Or.inl ⟨by rfl, ?_⟩) hH8 ?_
      rotate_left
      · ((intro W hW; clear hW; go_simp) <;> with_reducible rfl)
      simp only [Act.put, List.getElem_toArray, List.getElem_cons_zero, List.getElem_cons_succ, List.setIfInBounds_toArray, List.set_cons_zero, List.set_cons_succ]
      refine wpAnyZ_take (i := 12) (v := ?_) rfl (by kernel_rfl) (by kernel_rfl) (by kernel_rfl) (fun _ _ _ h => h) (Or.inl ⟨by rfl, ?_⟩) hH8 ?_
      rotate_left
      · ((intro W hW; clear hW; go_simp) <;> with_reducible rfl)
      simp only [Act.put, List.getElem_toArray, List.getElem_cons_zero, List.getElem_cons_succ, List.setIfInBounds_toArray, List.set_cons_zero, List.set_cons_succ]
      refine wpAnyZ_ready (rs := [13]) (by kernel_rfl) (by simp) ?_
      refine AllReadyZ.last (o := _) rfl (fun K hK => ?_)
      simp only [List.getElem_toArray, List.getElem_cons_zero, List.getElem_cons_succ]
      rw [if_pos (by rfl)]
      refine wp_store_part 56 (.tmp 34) (.tmp 32) rfl gt 2 rfl [.slice A32 (k + 1) c32] rfl [.int .i64 now, .map (some mb), .slice Ak k ck] 58 htb (by simp) [.int .i64 now, .map (some mb), .slice A32 (k + 1) c32] rfl (by kernel_rfl) (by rfl) ?_
      intro w9 hq gr
      replace hfB := blk_a hfB gr (ne_symm d_tb_fB)
      replace own := owk_off own off_tb gr
      replace hM := hM.grown gr htb
      replace bel := below_grown bel gr otb (Nat.le_trans hlo bel.size)
      clear htb
      have htb := hq
      clear hq gr
      refine hK.out _ _ trivial (fun hH10 => ?_)
      clear hK K
      simp only [Act.put]
      refine wpAnyZ_done (by kernel_rfl) ?_ _
      go_wp2_with fail
      go_roundg (n - (k + 1))
      case measure => have := HGK_.out; omega
      case rel => exact ⟨k + 1, A32, c32, rfl, by omega, own, hM, by go_num, htb, bel⟩
    obtain rfl : k = n := by omega
    replace h : decide (k < k) = false := decide_eq_false (by omega)
    have HT1 : Hid ((fl.take k) = fl) := Lib.hid (List.take_of_length_le (Nat.le_of_eq HN.out))
    rw [HT1.out] at own hM
    have HSS := Lib.hid (slotF_srt HSL.out)
    have HLS : Hid ((fl.map slotF).length = k) := Lib.hid (by rw [List.length_map]; exact HN.out)
    have en := (owk_sle (by decide) slE_len own).1
    have av_en_tb := owk_av own off_tb
    obtain ⟨Ar, hAr⟩ : ∃ x, x = Ak := ⟨_, rfl⟩
    subst hAr
    have R39 := cell_lit htb 2 _ rfl
    go_wp2_with fail
    clear R39
    with_reducible refine (psort_any _ en HSS.out HHN.out).mono ?_
    rintro e w1 ⟨rfl, b1⟩
    replace htb := blk_u htb b1
    replace en := en.below b1
    replace own := owk_under own b1
    replace hM := hM.below b1
    replace bel := bel.trans (b1.mono (Nat.le_trans hlo bel.size))
    clear b1
    have R44 := cell_lit htb 2 _ rfl
    go_wp2_with fail
    clear R44
    go_loopg [46] (k) (fun gk s46 wr => ∃ j : Nat, gk = k - j ∧ j ≤ k ∧ wr.ownsRow lo 66 15 (.slice Ar k ck) k ((fl.map slotF).flatMap slE) ∧ Hm lo mb wr (fl.map Le.pr) ∧ s46 = .int .i64 (j : Int) ∧ wr.heap[gt]? = some (.cells #[.int .i64 now, .map (some mb), .slice Ar k ck] 58 (0, 0)) ∧ Sle slE 15 wr (Ar) (k) (ck) (fl.map slotF) ∧ Below lo w wr)
    case atStart => exact ⟨0, Nat.sub_zero _, Nat.zero_le _, own, hM, rfl, htb, en, bel⟩
    case round =>
      clear own hM htb en bel
      obtain ⟨j, HGK, hjk, own, hM, rfl, htb, en, bel⟩ := hrel
      have HGK_ := Lib.hid HGK
      clear HGK
      by_cases h : j < k
      rotate_left
      · obtain rfl : j = k := by omega
        replace h : decide (j < j) = false := decide_eq_false (by omega)
        have hlm_ : Hid ((fl.map Le.pr).length = j) := Lib.hid (by rw [List.length_map]; exact HN.out)
        have R77 := cell_lit htb 1 _ rfl
        go_wp2_with (first | ((with_reducible show wpList _ _ _ (⟨some 78, _, _, _, _, _⟩ :: _) _ _); refine wpList_hm_len rfl (.tmp 77) rfl rfl hM hlm_.out ?_))
        try clear R77
        go_ret
        exact ⟨rfl, Ar, ck, (by have h_ := htb; rw [← HN.out] at h_; exact h_), hM, (by have h_ := own; rw [← HN.out] at h_; exact h_), bel⟩
      obtain ⟨x, hx⟩ : ∃ x, (fl.map slotF)[j]? = some x := ⟨_, List.getElem?_eq_getElem (by have := HLS.out; omega)⟩
      have j0 : (0 : Int) ≤ j := by omega
      have j1 : (j : Int) < k := by omega
      have j2 : (j : Int) ≤ 2 := by have := HHN.out; omega
      obtain ⟨gE, rfl, _⟩ := row_at own (by omega)
      rcases Nat.eq_zero_or_pos j with hj | hj
      · obtain rfl : j = 0 := by omega
        clear hj
        have HX := Lib.hid hx
        clear hx
        go_wp2_with fail
        replace bel := bel.drew
        replace htb : wr.drew.heap[gt]? = _ := htb
        replace en := en.drew
        replace own := World.ownsRow.drew own
        replace hM := hm_drew hM
        refine wp_region_held_drew (S := fun W => W.heap[gt]? = some (.cells #[.int .i64 now, .map (some mb), .slice (some ⟨gE, 0, none⟩) k ck] 58 (0, 0)) ∧ Sle slE 15 W (some ⟨gE, 0, none⟩) (k) (ck) (fl.map slotF)) (by kernel_rfl) ⟨htb, en⟩ (fun hH => ?_)
        generalize wr.drew = w2 at bel htb en own hM hH ⊢
        refine wpAnyH_take (i := 0) (v := ?_) rfl (by kernel_rfl) (by kernel_rfl) (by kernel_rfl) (fun _ _ _ h => h) (Or.inl ⟨by rfl, ?_⟩) hH ?_
        rotate_left
        · ((intro W hW; clear hW; go_simp) <;> with_reducible rfl)
        simp only [Act.put, List.getElem_toArray, List.getElem_cons_zero, List.setIfInBounds_toArray, List.set_cons_zero, List.set_cons_succ]
        refine wpAnyH_take (i := 1) (v := ?_) rfl (by kernel_rfl) (by kernel_rfl) (by kernel_rfl) (fun _ _ _ h => h) (Or.inl ⟨by rfl, ?_⟩) hH ?_
        rotate_left
        · ((intro W hW; clear hW; go_simp) <;> with_reducible rfl)
        simp only [Act.put, List.getElem_toArray, List.getElem_cons_zero, List.getElem_cons_succ, List.setIfInBounds_toArray, List.set_cons_zero, List.set_cons_succ]
        refine wpAnyH_take (i := 2) (v := ?_) rfl (by kernel_rfl) (by kernel_rfl) (by kernel_rfl) (fun _ _ _ h => h) (Or.inl ⟨by rfl, ?_⟩) hH ?_
        rotate_left
        · ((intro W hW; clear hW; go_simp) <;> with_reducible rfl)
        simp only [Act.put, List.getElem_toArray, List.getElem_cons_zero, List.getElem_cons_succ, List.setIfInBounds_toArray, List.set_cons_zero, List.set_cons_succ]
        refine wpAnyH_take (i := 3) (v := undef) rfl (by kernel_rfl) (by kernel_rfl) (by kernel_rfl) (fun _ _ _ h => h) (Or.inr ⟨by rfl, rfl⟩) hH ?_
        simp only [Act.put, List.getElem_toArray, List.getElem_cons_zero, List.getElem_cons_succ, List.setIfInBounds_toArray, List.set_cons_zero, List.set_cons_succ]
        refine wpAnyH_take (i := 4) (v := undef) rfl (by kernel_rfl) (by kernel_rfl) (by kernel_rfl) (fun _ _ _ h => h) (Or.inr ⟨by rfl, rfl⟩) hH ?_
        simp only [Act.put, List.getElem_toArray, List.getElem_cons_zero, List.getElem_cons_succ, List.setIfInBounds_toArray, List.set_cons_zero, List.set_cons_succ]
        refine wpAnyH_take (i := 5) (v := undef) rfl (by kernel_rfl) (by kernel_rfl) (by kernel_rfl) (fun _ _ _ h => h) (Or.inr ⟨by rfl, rfl⟩) hH ?_
        simp only [Act.put, List.getElem_toArray, List.getElem_cons_zero, List.getElem_cons_succ, List.setIfInBounds_toArray, List.set_cons_zero, List.set_cons_succ]
        refine wpAnyH_take (i := 6) (v := undef) rfl (by kernel_rfl) (by kernel_rfl) (by kernel_rfl) (fun _ _ _ h => h) (Or.inr ⟨by rfl, rfl⟩) hH ?_
        simp only [Act.put, List.getElem_toArray, List.getElem_cons_zero, List.getElem_cons_succ, List.setIfInBounds_toArray, List.set_cons_zero, List.set_cons_succ]
        refine wpAnyH_take (i := 7) (v := undef) rfl (by kernel_rfl) (by kernel_rfl) (by kernel_rfl) (fun _ _ _ h => h) (Or.inr ⟨by rfl, rfl⟩) hH ?_
        simp only [Act.put, List.getElem_toArray, List.getElem_cons_zero, List.getElem_cons_succ, List.setIfInBounds_toArray, List.set_cons_zero, List.set_cons_succ]
        refine wpAnyH_take (i := 8) (v := undef) rfl (by kernel_rfl) (by kernel_rfl) (by kernel_rfl) (fun _ _ _ h => h) (Or.inr ⟨by rfl, rfl⟩) hH ?_
        simp only [Act.put, List.getElem_toArray, List.getElem_cons_zero, List.getElem_cons_succ, List.setIfInBounds_toArray, List.set_cons_zero, List.set_cons_succ]
        refine wpAnyH_take (i := 9) (v := undef) rfl (by kernel_rfl) (by kernel_rfl) (by kernel_rfl) (fun _ _ _ h => h) (Or.inr ⟨by rfl, rfl⟩) hH ?_
        simp only [Act.put, List.getElem_toArray, List.getElem_cons_zero, List.getElem_cons_succ, List.setIfInBounds_toArray, List.set_cons_zero, List.set_cons_succ]
        refine wpAnyH_take (i := 10) (v := undef) rfl (by kernel_rfl) (by kernel_rfl) (by kernel_rfl) (fun _ _ _ h => h) (Or.inr ⟨by rfl, rfl⟩) hH ?_
        simp only [Act.put, List.getElem_toArray, List.getElem_cons_zero, List.getElem_cons_succ, List.setIfInBounds_toArray, List.set_cons_zero, List.set_cons_succ]
        refine wpAnyH_take (i := 11) (v := undef) rfl (by kernel_rfl) (by kernel_rfl) (by kernel_rfl) (fun _ _ _ h => h) (Or.inr ⟨by rfl, rfl⟩) hH ?_
        simp only [Act.put, List.getElem_toArray, List.getElem_cons_zero, List.getElem_cons_succ, List.setIfInBounds_toArray, List.set_cons_zero, List.set_cons_succ]
        refine wpAnyH_take (i := 12) (v := undef) rfl (by kernel_rfl) (by kernel_rfl) (by kernel_rfl) (fun _ _ _ h => h) (Or.inr ⟨by rfl, rfl⟩) hH ?_
        simp only [Act.put, List.getElem_toArray, List.getElem_cons_zero, List.getElem_cons_succ, List.setIfInBounds_toArray, List.set_cons_zero, List.set_cons_succ]
        refine wpAnyH_take (i := 13) (v := undef) rfl (by kernel_rfl) (by kernel_rfl) (by kernel_rfl) (fun _ _ _ h => h) (Or.inr ⟨by rfl, rfl⟩) hH ?_
        simp only [Act.put, List.getElem_toArray, List.getElem_cons_zero, List.getElem_cons_succ, List.setIfInBounds_toArray, List.set_cons_zero, List.set_cons_succ]
        refine wpAnyH_take (i := 14) (v := undef) rfl (by kernel_rfl) (by kernel_rfl) (by kernel_rfl) (fun _ _ _ h => h) (Or.inr ⟨by rfl, rfl⟩) hH ?_
        simp only [Act.put, List.getElem_toArray, List.getElem_cons_zero, List.getElem_cons_succ, List.setIfInBounds_toArray, List.set_cons_zero, List.set_cons_succ]
        refine wpAnyH_take (i := 15) (v := undef) rfl (by kernel_rfl) (by kernel_rfl) (by kernel_rfl) (fun _ _ _ h => h) (Or.inr ⟨by rfl, rfl⟩) hH ?_
        simp only [Act.put, List.getElem_toArray, List.getElem_cons_zero, List.getElem_cons_succ, List.setIfInBounds_toArray, List.set_cons_zero, List.set_cons_succ]
        refine wpAnyH_take (i := 16) (v := undef) rfl (by kernel_rfl) (by kernel_rfl) (by kernel_rfl) (fun _ _ _ h => h) (Or.inr ⟨by rfl, rfl⟩) hH ?_
        simp only [Act.put, List.getElem_toArray, List.getElem_cons_zero, List.getElem_cons_succ, List.setIfInBounds_toArray, List.set_cons_zero, List.set_cons_succ]
        refine wpAnyH_take (i := 17) (v := undef) rfl (by kernel_rfl) (by kernel_rfl) (by kernel_rfl) (fun _ _ _ h => h) (Or.inr ⟨by rfl, rfl⟩) hH ?_
        simp only [Act.put, List.getElem_toArray, List.getElem_cons_zero, List.getElem_cons_succ, List.setIfInBounds_toArray, List.set_cons_zero, List.set_cons_succ]
        refine wpAnyH_take (i := 18) (v := undef) rfl (by kernel_rfl) (by kernel_rfl) (by kernel_rfl) (fun _ _ _ h => h) (Or.inr ⟨by rfl, rfl⟩) hH ?_
        simp only [Act.put, List.getElem_toArray, List.getElem_cons_zero, List.getElem_cons_succ, List.setIfInBounds_toArray, List.set_cons_zero, List.set_cons_succ]
        refine wpAnyH_take (i := 19) (v := undef) rfl (by kernel_rfl) (by kernel_rfl) (by kernel_rfl) (fun _ _ _ h => h) (Or.inr ⟨by rfl, rfl⟩) hH ?_
        simp only [Act.put, List.getElem_toArray, List.getElem_cons_zero, List.getElem_cons_succ, List.setIfInBounds_toArray, List.set_cons_zero, List.set_cons_succ]
        refine wpAnyH_take (i := 20) (v := undef) rfl (by kernel_rfl) (by kernel_rfl) (by kernel_rfl) (fun _ _ _ h => h) (Or.inr ⟨by rfl, rfl⟩) hH ?_
        simp only [Act.put, List.getElem_toArray, List.getElem_cons_zero, List.getElem_cons_succ, List.setIfInBounds_toArray, List.set_cons_zero, List.set_cons_succ]
        refine wpAnyH_take (i := 21) (v := undef) rfl (by kernel_rfl) (by kernel_rfl) (by kernel_rfl) (fun _ _ _ h => h) (Or.inr ⟨by rfl, rfl⟩) hH ?_
        simp only [Act.put, List.getElem_toArray, List.getElem_cons_zero, List.getElem_cons_succ, List.setIfInBounds_toArray, List.set_cons_zero, List.set_cons_succ]
        refine wpAnyH_take (i := 22) (v := undef) rfl (by kernel_rfl) (by kernel_rfl) (by kernel_rfl) (fun _ _ _ h => h) (Or.inr ⟨by rfl, rfl⟩) hH ?_
        simp only [Act.put, List.getElem_toArray, List.getElem_cons_zero, List.getElem_cons_succ, List.setIfInBounds_toArray, List.set_cons_zero, List.set_cons_succ]
        refine wpAnyH_take (i := 23) (v := ?_) rfl (by kernel_rfl) (by kernel_rfl) (by kernel_rfl) (fun _ _ _ h => h) (Or.inl ⟨by rfl, ?_⟩) hH ?_
        rotate_left
        · ((intro W hW; clear hW; go_simp) <;> with_reducible rfl)
        simp only [Act.put, List.getElem_toArray, List.getElem_cons_zero, List.getElem_cons_succ, List.setIfInBounds_toArray, List.set_cons_zero, List.set_cons_succ]
        refine wpAnyH_done (by kernel_rfl) ?_ _
        go_wp2_with fail
        go_roundg (k - (0 + 1))
        case measure => have := HGK_.out; omega
        case rel => exact ⟨0 + 1, rfl, by omega, own, hM, by go_num, htb, en, bel⟩
      obtain ⟨q, hq⟩ : ∃ q, q + 1 = j := ⟨j - 1, by omega⟩
      have hqq : (j : Int) - 1 = (q : Int) := by omega
      obtain ⟨y, hy⟩ : ∃ y, (fl.map slotF)[q]? = some y := ⟨_, List.getElem?_eq_getElem (by have := HLS.out; omega)⟩
      have hlt_ := HSS.out.lt (by omega : q < j) hy hx
      have HNE : Hid (x.ad.eqB y.ad = false) := Lib.hid (Ad4.eqB_no (fun e => by unfold Sd.num at hlt_; rw [e] at hlt_; omega))
      have q0 : (0 : Int) ≤ q := by omega
      have q1 : (q : Int) < k := by omega
      have hwq : IntKind.i64.wrap (q : Int) = (q : Int) := IntWalk.i64_in _ (by omega)
      have HX := Lib.hid hx
      have HY := Lib.hid hy
      have hj0 : (0 : Int) < j := by omega
      have hj0n : 0 < j := hj
      have q71 : ∀ W, (binOp .eql 28 (.agg #[.int .u8 (x.ad.a.toNat : Int), .int .u8 (x.ad.b.toNat : Int), .int .u8 (x.ad.c.toNat : Int), .int .u8 (x.ad.d.toNat : Int)]) (.agg #[.int .u8 (y.ad.a.toNat : Int), .int .u8 (y.ad.b.toNat : Int), .int .u8 (y.ad.c.toNat : Int), .int .u8 (y.ad.d.toNat : Int)])).run Try.prog W = .ok (.bool false) W := fun W => by have h_ := eqa_b x.ad y.ad W; rw [HNE.out] at h_; exact h_
      clear hx hy hlt_ hq hj
      go_wp2_with fail
      replace bel := bel.drew
      replace htb : wr.drew.heap[gt]? = _ := htb
      replace en := en.drew
      replace own := World.ownsRow.drew own
      replace hM := hm_drew hM
      refine wp_region_held_drew (S := fun W => W.heap[gt]? = some (.cells #[.int .i64 now, .map (some mb), .slice (some ⟨gE, 0, none⟩) k ck] 58 (0, 0)) ∧ Sle slE 15 W (some ⟨gE, 0, none⟩) (k) (ck) (fl.map slotF)) (by kernel_rfl) ⟨htb, en⟩ (fun hH => ?_)
      generalize wr.drew = w2 at bel htb en own hM hH ⊢
      refine wpAnyH_take (i := 0) (v := ?_) rfl (by kernel_rfl) (by kernel_rfl) (by kernel_rfl) (fun _ _ _ h => h) (Or.inl ⟨by rfl, ?_⟩) hH ?_
      rotate_left
      · ((intro W hW; clear hW; go_simp) <;> with_reducible rfl)
      simp only [Act.put, List.getElem_toArray, List.getElem_cons_zero, List.setIfInBounds_toArray, List.set_cons_zero, List.set_cons_succ]
      refine wpAnyH_take (i := 1) (v := ?_) rfl (by kernel_rfl) (by kernel_rfl) (by kernel_rfl) (fun _ _ _ h => h) (Or.inl ⟨by rfl, ?_⟩) hH ?_
      rotate_left
      · ((intro W hW; clear hW; go_simp) <;> with_reducible rfl)
      simp only [Act.put, List.getElem_toArray, List.getElem_cons_zero, List.getElem_cons_succ, List.setIfInBounds_toArray, List.set_cons_zero, List.set_cons_succ]
      refine wpAnyH_take (i := 2) (v := ?_) rfl (by kernel_rfl) (by kernel_rfl) (by kernel_rfl) (fun _ _ _ h => h) (Or.inl ⟨by rfl, ?_⟩) hH ?_
      rotate_left
      · ((intro W hW; clear hW; go_simp) <;> with_reducible rfl)
      simp only [Act.put, List.getElem_toArray, List.getElem_cons_zero, List.getElem_cons_succ, List.setIfInBounds_toArray, List.set_cons_zero, List.set_cons_succ]
      refine wpAnyH_take (i := 3) (v := ?_) rfl (by kernel_rfl) (by kernel_rfl) (by kernel_rfl) (fun _ _ _ h => h) (Or.inl ⟨by rfl, ?_⟩) hH ?_
      rotate_left
      · ((intro W hW; clear hW; go_simp) <;> with_reducible rfl)
      simp only [Act.put, List.getElem_toArray, List.getElem_cons_zero, List.getElem_cons_succ, List.setIfInBounds_toArray, List.set_cons_zero, List.set_cons_succ]
      refine wpAnyH_take (i := 4) (v := ?_) rfl (by kernel_rfl) (by kernel_rfl) (by kernel_rfl) (fun _ _ _ h => h) (Or.inl ⟨by rfl, ?_⟩) hH ?_
      rotate_left
      · ((intro W hW; clear hW; go_simp) <;> with_reducible rfl)
      simp only [Act.put, List.getElem_toArray, List.getElem_cons_zero, List.getElem_cons_succ, List.setIfInBounds_toArray, List.set_cons_zero, List.set_cons_succ]
      refine wpAnyH_take (i := 5) (v := ?_) rfl (by kernel_rfl) (by kernel_rfl) (by kernel_rfl) (fun _ _ _ h => h) (Or.inl ⟨by rfl, ?_⟩) hH ?_
      rotate_left
      · ((intro W hW; clear hW; go_simp) <;> with_reducible rfl)
      simp only [Act.put, List.getElem_toArray, List.getElem_cons_zero, List.getElem_cons_succ, List.setIfInBounds_toArray, List.set_cons_zero, List.set_cons_succ]
      refine wpAnyH_take (i := 6) (v := ?_) rfl (by kernel_rfl) (by kernel_rfl) (by kernel_rfl) (fun _ _ _ h => h) (Or.inl ⟨by rfl, ?_⟩) hH ?_
      rotate_left
      · ((intro W hW; have hk := cell_lit (hW.1) 2 _ rfl; clear hW; go_simp) <;> with_reducible rfl)
      simp only [Act.put, List.getElem_toArray, List.getElem_cons_zero, List.getElem_cons_succ, List.setIfInBounds_toArray, List.set_cons_zero, List.set_cons_succ]
      refine wpAnyH_take (i := 7) (v := ?_) rfl (by kernel_rfl) (by kernel_rfl) (by kernel_rfl) (fun _ _ _ h => h) (Or.inl ⟨by rfl, ?_⟩) hH ?_
      rotate_left
      · ((intro W hW; clear hW; go_simp) <;> with_reducible rfl)
      simp only [Act.put, List.getElem_toArray, List.getElem_cons_zero, List.getElem_cons_succ, List.setIfInBounds_toArray, List.set_cons_zero, List.set_cons_succ]
      refine wpAnyH_take (i := 8) (v := ?_) rfl (by kernel_rfl) (by kernel_rfl) (by kernel_rfl) (fun _ _ _ h => h) (Or.inl ⟨by rfl, ?_⟩) hH ?_
      rotate_left
      · ((intro W hW; clear hW; go_simp) <;> with_reducible rfl)
      simp only [Act.put, List.getElem_toArray, List.getElem_cons_zero, List.getElem_cons_succ, List.setIfInBounds_toArray, List.set_cons_zero, List.set_cons_succ]
      refine wpAnyH_take (i := 9) (v := ?_) rfl (by kernel_rfl) (by kernel_rfl) (by kernel_rfl) (fun _ _ _ h => h) (Or.inl ⟨by rfl, ?_⟩) hH ?_
      rotate_left
      · ((intro W hW; clear hW; go_simp) <;> with_reducible rfl)
      simp only [Act.put, List.getElem_toArray, List.getElem_cons_zero, List.getElem_cons_succ, List.setIfInBounds_toArray, List.set_cons_zero, List.set_cons_succ]
      refine wpAnyH_take (i := 10) (v := ?_) rfl (by kernel_rfl) (by kernel_rfl) (by kernel_rfl) (fun _ _ _ h => h) (Or.inl ⟨by rfl, ?_⟩) hH ?_
      rotate_left
      · ((intro W hW; clear hW; go_simp) <;> with_reducible rfl)
      simp only [Act.put, List.getElem_toArray, List.getElem_cons_zero, List.getElem_cons_succ, List.setIfInBounds_toArray, List.set_cons_zero, List.set_cons_succ]
      refine wpAnyH_take (i := 11) (v := .agg #[.int .u8 (x.ad.a.toNat : Int), .int .u8 (x.ad.b.toNat : Int), .int .u8 (x.ad.c.toNat : Int), .int .u8 (x.ad.d.toNat : Int)]) rfl (by kernel_rfl) (by kernel_rfl) (by kernel_rfl) (fun _ _ _ h => h) (yieldsIf_load_mid (by kernel_rfl) 28 _ rfl gE (j * 15 + 6) rfl [.int .u8 (x.ad.a.toNat : Int), .int .u8 (x.ad.b.toNat : Int), .int .u8 (x.ad.c.toNat : Int), .int .u8 (x.ad.d.toNat : Int)] _ (fun W hW => Sle.zrange (hW.2) HX.out 6 4 [.int .u8 (x.ad.a.toNat : Int), .int .u8 (x.ad.b.toNat : Int), .int .u8 (x.ad.c.toNat : Int), .int .u8 (x.ad.d.toNat : Int)] rfl) Try.underlying28 rfl (by kernel_rfl)) hH ?_
      simp only [Act.put, List.getElem_toArray, List.getElem_cons_zero, List.getElem_cons_succ, List.setIfInBounds_toArray, List.set_cons_zero, List.set_cons_succ]
      refine wpAnyH_take (i := 12) (v := ?_) rfl (by kernel_rfl) (by kernel_rfl) (by kernel_rfl) (fun _ _ _ h => h) (Or.inl ⟨by rfl, ?_⟩) hH ?_
      rotate_left
      · ((intro W hW; clear hW; go_simp) <;> with_reducible rfl)
      simp only [Act.put, List.getElem_toArray, List.getElem_cons_zero, List.getElem_cons_succ, List.setIfInBounds_toArray, List.set_cons_zero, List.set_cons_succ]
      refine wpAnyH_take (i := 13) (v := ?_) rfl (by kernel_rfl) (by kernel_rfl) (by kernel_rfl) (fun _ _ _ h => h) (Or.inl ⟨by rfl, ?_⟩) hH ?_
      rotate_left
      · ((intro W hW; clear hW; go_simp) <;> with_reducible rfl)
      simp only [Act.put, List.getElem_toArray, List.getElem_cons_zero, List.getElem_cons_succ, List.setIfInBounds_toArray, List.set_cons_zero, List.set_cons_succ]
      refine wpAnyH_take (i := 14) (v := ?_) rfl (by kernel_rfl) (by kernel_rfl) (by kernel_rfl) (fun _ _ _ h => h) (Or.inl ⟨by rfl, ?_⟩) hH ?_
      rotate_left
      · ((intro W hW; clear hW; go_simp) <;> with_reducible rfl)
      simp only [Act.put, List.getElem_toArray, List.getElem_cons_zero, List.getElem_cons_succ, List.setIfInBounds_toArray, List.set_cons_zero, List.set_cons_succ]
      refine wpAnyH_take (i := 15) (v := ?_) rfl (by kernel_rfl) (by kernel_rfl) (by kernel_rfl) (fun _ _ _ h => h) (Or.inl ⟨by rfl, ?_⟩) hH ?_
      rotate_left
      · ((intro W hW; have hk := cell_lit (hW.1) 2 _ rfl; clear hW; go_simp) <;> with_reducible rfl)
      simp only [Act.put, List.getElem_toArray, List.getElem_cons_zero, List.getElem_cons_succ, List.setIfInBounds_toArray, List.set_cons_zero, List.set_cons_succ]
      refine wpAnyH_take (i := 16) (v := ?_) rfl (by kernel_rfl) (by kernel_rfl) (by kernel_rfl) (fun _ _ _ h => h) (Or.inl ⟨by rfl, ?_⟩) hH ?_
      rotate_left
      · ((intro W hW; clear hW; go_simp) <;> with_reducible rfl)
      simp only [Act.put, List.getElem_toArray, List.getElem_cons_zero, List.getElem_cons_succ, List.setIfInBounds_toArray, List.set_cons_zero, List.set_cons_succ]
      refine wpAnyH_take (i := 17) (v := ?_) rfl (by kernel_rfl) (by kernel_rfl) (by kernel_rfl) (fun _ _ _ h => h) (Or.inl ⟨by rfl, ?_⟩) hH ?_
      rotate_left
      · ((intro W hW; clear hW; go_simp) <;> with_reducible rfl)
      simp only [Act.put, List.getElem_toArray, List.getElem_cons_zero, List.getElem_cons_succ, List.setIfInBounds_toArray, List.set_cons_zero, List.set_cons_succ]
      refine wpAnyH_take (i := 18) (v := ?_) rfl (by kernel_rfl) (by kernel_rfl) (by kernel_rfl) (fun _ _ _ h => h) (Or.inl ⟨by rfl, ?_⟩) hH ?_
      rotate_left
      · ((intro W hW; clear hW; go_simp) <;> with_reducible rfl)
      simp only [Act.put, List.getElem_toArray, List.getElem_cons_zero, List.getElem_cons_succ, List.setIfInBounds_toArray, List.set_cons_zero, List.set_cons_succ]
      refine wpAnyH_take (i := 19) (v := ?_) rfl (by kernel_rfl) (by kernel_rfl) (by kernel_rfl) (fun _ _ _ h => h) (Or.inl ⟨by rfl, ?_⟩) hH ?_
      rotate_left
      · ((intro W hW; clear hW; go_simp) <;> with_reducible rfl)
      simp only [Act.put, List.getElem_toArray, List.getElem_cons_zero, List.getElem_cons_succ, List.setIfInBounds_toArray, List.set_cons_zero, List.set_cons_succ]
      refine wpAnyH_take (i := 20) (v := ?_) rfl (by kernel_rfl) (by kernel_rfl) (by kernel_rfl) (fun _ _ _ h => h) (Or.inl ⟨by rfl, ?_⟩) hH ?_
      rotate_left
      · ((intro W hW; clear hW; go_simp) <;> with_reducible rfl)
      simp only [Act.put, List.getElem_toArray, List.getElem_cons_zero, List.getElem_cons_succ, List.setIfInBounds_toArray, List.set_cons_zero, List.set_cons_succ]
      refine wpAnyH_take (i := 21) (v := .agg #[.int .u8 (y.ad.a.toNat : Int), .int .u8 (y.ad.b.toNat : Int), .int .u8 (y.ad.c.toNat : Int), .int .u8 (y.ad.d.toNat : Int)]) rfl (by kernel_rfl) (by kernel_rfl) (by kernel_rfl) (fun _ _ _ h => h) (yieldsIf_load_mid (by kernel_rfl) 28 _ rfl gE (q * 15 + 6) rfl [.int .u8 (y.ad.a.toNat : Int), .int .u8 (y.ad.b.toNat : Int), .int .u8 (y.ad.c.toNat : Int), .int .u8 (y.ad.d.toNat : Int)] _ (fun W hW => Sle.zrange (hW.2) HY.out 6 4 [.int .u8 (y.ad.a.toNat : Int), .int .u8 (y.ad.b.toNat : Int), .int .u8 (y.ad.c.toNat : Int), .int .u8 (y.ad.d.toNat : Int)] rfl) Try.underlying28 rfl (by kernel_rfl)) hH ?_
      simp only [Act.put, List.getElem_toArray, List.getElem_cons_zero, List.getElem_cons_succ, List.setIfInBounds_toArray, List.set_cons_zero, List.set_cons_succ]
      refine wpAnyH_take (i := 22) (v := ?_) rfl (by kernel_rfl) (by kernel_rfl) (by kernel_rfl) (fun _ _ _ h => h) (Or.inl ⟨by rfl, ?_⟩) hH ?_
      rotate_left
      · ((intro W hW; clear hW; go_simp) <;> with_reducible rfl)
      simp only [Act.put, List.getElem_toArray, List.getElem_cons_zero, List.getElem_cons_succ, List.setIfInBounds_toArray, List.set_cons_zero, List.set_cons_succ]
      refine wpAnyH_take (i := 23) (v := ?_) rfl (by kernel_rfl) (by kernel_rfl) (by kernel_rfl) (fun _ _ _ h => h) (Or.inl ⟨by rfl, ?_⟩) hH ?_
      rotate_left
      · ((intro W hW; clear hW; go_simp) <;> with_reducible rfl)
      simp only [Act.put, List.getElem_toArray, List.getElem_cons_zero, List.getElem_cons_succ, List.setIfInBounds_toArray, List.set_cons_zero, List.set_cons_succ]
      refine wpAnyH_done (by kernel_rfl) ?_ _
      go_wp2_with fail
      go_roundg (k - (j + 1))
      case measure => have := HGK_.out; omega
      case rel => exact ⟨j + 1, rfl, by omega, own, hM, by go_num, htb, en, bel⟩
end Go.Proofs.Ythcjepafcemmnaa
