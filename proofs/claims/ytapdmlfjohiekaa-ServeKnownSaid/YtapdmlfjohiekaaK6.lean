/- Texts put together: Pl5. -/
import Derived.Test.YtapdmlfjohiekaaK1
import Derived.Test.YtapdmlfjohiekaaK5
namespace Go.Proofs.Ytapdmlfjohiekaa
open Go.RowKit

/-- The pool at block gt: what is of the call's own from lo on; what it holds. -/
def Pl (lo gt : Nat) (w : World) (s : St) : Prop := ∃ (A : Option Addr) (n c mb : Nat), w.heap[gt]? = some (.cells #[.int .i64 s.now, .map (some mb), .slice A n c] 84 (0, 0)) ∧ lo ≤ gt ∧ Hm lo mb w s.hs ∧ w.ownsRow lo 101 15 (.slice A n c) n (s.l.flatMap slE) ∧ s.ok
theorem Pl.below {lo gt : Nat} {w w' : World} {s : St} (h : Pl lo gt w s) (b : Below w.heap.size w w') : Pl lo gt w' s := by
  obtain ⟨A, n, c, mb, h1, h2, h3, h4, h5⟩ := h
  exact ⟨A, n, c, mb, blk_u h1 b, h2, h3.below b, owk_under h4 b, h5⟩
theorem pl_drew {lo gt : Nat} {w : World} {s : St} (h : Pl lo gt w s) : Pl lo gt w.drew s := h
theorem Pl.grown {lo gt q : Nat} {w w' : World} {s : St} {c : Array Value} {T : TypeId} {fz : Nat × Nat} (h : Pl lo gt w s) (g : w.grownBy w' (some q)) (hq : w.heap[q]? = some (.cells c T fz)) (h1 : T ≠ 84) (h2 : T ≠ 101) : Pl lo gt w' s := by
  obtain ⟨A, n, c', mb, e1, e2, e3, e4, e5⟩ := h
  have k : Kt [T] w w' := kt_grown g hq (by simp)
  exact ⟨A, n, c', mb, k.blk e1 (by simpa using fun e => h1 e.symm), e2, e3.grown g hq, k.own e4 (by simpa using fun e => h2 e.symm), e5⟩
theorem Pl.lo_le {lo gt : Nat} {w : World} {s : St} (h : Pl lo gt w s) : lo ≤ w.heap.size := by
  obtain ⟨A, n, c, mb, h1, h2, _⟩ := h
  exact Nat.le_trans h2 (Nat.le_of_lt (hlt h1))
theorem Pl.lo_mono {lo lo' gt : Nat} {w : World} {s : St} (h : Pl lo gt w s) (hl : lo' ≤ lo) : Pl lo' gt w s := by
  obtain ⟨A, n, c, mb, h1, h2, h3, h4, h5⟩ := h
  exact ⟨A, n, c, mb, h1, Nat.le_trans hl h2, h3.lo_le hl, owk_lo h4 hl, h5⟩
theorem Pl.ok {lo gt : Nat} {w : World} {s : St} (h : Pl lo gt w s) : s.ok := by
  obtain ⟨_, _, _, _, _, _, _, _, h⟩ := h
  exact h
def slot0 (a : Ad4) : Sd := ⟨Mc6.zero, a, 0, false, false, false, 0⟩
def addL (l : List Sd) (a : Ad4) : List Sd := if sfhas l a.num = true then l else sins l (slot0 a)
theorem sfhas_ins {l : List Sd} {e : Sd} {x : Nat} (h : SSrt l) (hn : sfhas l e.num = false) (hx : sfhas l x = true) : sfhas (sins l e) x = true := by
  obtain ⟨y, hy, he⟩ := sfhas_true hx
  have hm : y ∈ sins l e := by
    unfold sins
    have := List.mem_of_getElem? hy
    rw [← List.take_append_drop (sfpos l e.num) l] at this
    rcases List.mem_append.1 this with h1 | h1
    · exact List.mem_append_left _ h1
    · exact List.mem_append_right _ (List.mem_cons_of_mem _ h1)
  obtain ⟨j, hj⟩ := List.getElem?_of_mem hm
  exact ((h.insd hn).found hj he).2
theorem addL_ok {now : Int} {hs : List (Mc6 × Ad4)} {l : List Sd} {a : Ad4} (h : St.ok ⟨now, hs, l⟩) (hl : l.length < 1000) : St.ok ⟨now, hs, addL l a⟩ := by
  unfold addL
  split
  · exact h
  · rename_i hf
    have hn : sfhas l (slot0 a).num = false := by
      have h2 : sfhas l a.num = false := by simpa using hf
      exact h2
    refine ⟨h.srt.insd hn, h.n0, h.n1, ?_, fun p hp => sfhas_ins h.srt hn (h.hom p hp)⟩
    show (sins l (slot0 a)).length ≤ 1000
    rw [sins_len]; omega
set_option linter.unusedVariables false in
set_option linter.unusedSimpArgs false in
set_option maxRecDepth 100000 in
set_option maxHeartbeats 16000000 in
theorem padd_has {lo gt : Nat} {now : Int} {hs : List (Mc6 × Ad4)} {l : List Sd} (a : Ad4) (w : World) (hT : Pl lo gt w ⟨now, hs, l⟩) (hf : sfhas l a.num = true) : Calls Try.prog 38 #[.pointer (some ⟨gt, 0, none⟩), .agg #[.int .u8 (a.a.toNat : Int), .int .u8 (a.b.toNat : Int), .int .u8 (a.c.toNat : Int), .int .u8 (a.d.toNat : Int)]] w fun e w' => e = .returned (.tuple #[]) ∧ Pl lo gt w' ⟨now, hs, l⟩ ∧ Kt [84, 101] w w' ∧ Below lo w w' := by
  obtain ⟨A, n, c, mb, htb, otb, hM, own, hok⟩ := hT
  dsimp only at htb hM own
  have hlo : lo ≤ w.heap.size := Nat.le_trans otb (Nat.le_of_lt (hlt htb))
  have off_tb := ofs_type own htb (by decide)
  have hl := row_len (by decide) slE_len own
  have HLL := Lib.hid hl
  have HLO := Lib.hid hlo
  have HOK := Lib.hid hok
  have H32 : Hid (n ≤ 1000) := Lib.hid (by have := hok.len; simp only at this; omega)
  have kt := Kt.refl [84, 101] w
  clear hl hok
  obtain ⟨p, hp⟩ : ∃ p, sfpos l a.num = p := ⟨_, rfl⟩
  have HPN : Hid (p ≤ n) := Lib.hid (by rw [← hp, ← HLL.out]; exact sfpos_le _ _)
  have HP := Lib.hid hp
  have HF := Lib.hid hf
  clear hp hf
  have bel := Below.refl lo w
  go_enter Try.func38, Try.ntmps38
  go_wp2_with (first | ((with_reducible show wpList _ _ _ (⟨some 3, _, _, _, _, _⟩ :: _) _ _); refine wpList_box_n rfl 28 (.tmp 1) rfl #[.int .u8 (a.a.toNat : Int), .int .u8 (a.b.toNat : Int), .int .u8 (a.c.toNat : Int), .int .u8 (a.d.toNat : Int)] rfl ?_; intro g3 w1 ge lt hh bb; have d_tb_aB := ne_new (hlt htb) ge; have oaB := Nat.le_trans (Nat.le_trans hlo bel.size) ge; have off_aB := owk_new own ge; have pn_aB := Nat.le_trans bel.size ge; replace htb := blk_u htb bb; replace own := owk_under own bb; replace kt := kt.trans (kt_below bb); replace hM := hM.below bb; replace bel := bel.trans (bb.mono (Nat.le_trans hlo bel.size)); have haB := hh; clear hh lt ge bb; have R8 := Lib.hid (range_lit haB 0 4 [.int .u8 (a.a.toNat : Int), .int .u8 (a.b.toNat : Int), .int .u8 (a.c.toNat : Int), .int .u8 (a.d.toNat : Int)] rfl)) | ((with_reducible show wpList _ _ _ (⟨some 8, _, _, _, _, _⟩ :: _) _ _); refine wpList_load_rng 28 (.tmp 3) rfl (by kernel_rfl) _ _ rfl _ R8.out _ Try.underlying28 rfl (by kernel_rfl) ?_))
  try clear R8
  with_reducible refine (pfind_is a _ htb (owk_sle (by decide) slE_len own).1 HOK.out.srt H32.out HP.out HF.out).mono ?_
  rintro e w2 ⟨rfl, b2⟩
  replace htb := blk_u htb b2
  replace haB := blk_u haB b2
  replace own := owk_under own b2
  replace kt := kt.trans (kt_below b2)
  replace hM := hM.below b2
  replace bel := bel.trans (b2.mono (Nat.le_trans hlo bel.size))
  clear b2
  go_wp2_with fail
  exact bodyPost_end (results_none rfl _ _ _) rfl ⟨rfl, ⟨A, n, c, mb, htb, otb, hM, own, HOK.out⟩, kt, bel⟩
set_option linter.unusedVariables false in
set_option linter.unusedSimpArgs false in
set_option maxRecDepth 100000 in
set_option maxHeartbeats 16000000 in
theorem padd_new {lo gt : Nat} {now : Int} {hs : List (Mc6 × Ad4)} {l : List Sd} (a : Ad4) (w : World) (hT : Pl lo gt w ⟨now, hs, l⟩) (hf : sfhas l a.num = false) (hlen : l.length < 1000) : Calls Try.prog 38 #[.pointer (some ⟨gt, 0, none⟩), .agg #[.int .u8 (a.a.toNat : Int), .int .u8 (a.b.toNat : Int), .int .u8 (a.c.toNat : Int), .int .u8 (a.d.toNat : Int)]] w fun e w' => e = .returned (.tuple #[]) ∧ Pl lo gt w' ⟨now, hs, (sins l (slot0 a))⟩ ∧ Kt [84, 101] w w' ∧ Below lo w w' := by
  obtain ⟨A, n, c, mb, htb, otb, hM, own, hok⟩ := hT
  dsimp only at htb hM own
  have hlo : lo ≤ w.heap.size := Nat.le_trans otb (Nat.le_of_lt (hlt htb))
  have off_tb := ofs_type own htb (by decide)
  have hl := row_len (by decide) slE_len own
  have HLL := Lib.hid hl
  have HLO := Lib.hid hlo
  have HOK := Lib.hid hok
  have H32 : Hid (n ≤ 1000) := Lib.hid (by have := hok.len; simp only at this; omega)
  have kt := Kt.refl [84, 101] w
  clear hl hok
  obtain ⟨p, hp⟩ : ∃ p, sfpos l a.num = p := ⟨_, rfl⟩
  have HPN : Hid (p ≤ n) := Lib.hid (by rw [← hp, ← HLL.out]; exact sfpos_le _ _)
  have HP := Lib.hid hp
  have HF := Lib.hid hf
  clear hp hf
  have HOKI : Hid (St.ok ⟨now, hs, sins l (slot0 a)⟩) := Lib.hid (by have h_ := addL_ok (a := a) HOK.out hlen; unfold addL at h_; rw [HF.out] at h_; exact h_)
  clear hlen
  have bel := Below.refl lo w
  go_enter Try.func38, Try.ntmps38
  go_wp2_with (first | ((with_reducible show wpList _ _ _ (⟨some 3, _, _, _, _, _⟩ :: _) _ _); refine wpList_box_n rfl 28 (.tmp 1) rfl #[.int .u8 (a.a.toNat : Int), .int .u8 (a.b.toNat : Int), .int .u8 (a.c.toNat : Int), .int .u8 (a.d.toNat : Int)] rfl ?_; intro g3 w1 ge lt hh bb; have d_tb_aB := ne_new (hlt htb) ge; have oaB := Nat.le_trans (Nat.le_trans hlo bel.size) ge; have off_aB := owk_new own ge; have pn_aB := Nat.le_trans bel.size ge; replace htb := blk_u htb bb; replace own := owk_under own bb; replace kt := kt.trans (kt_below bb); replace hM := hM.below bb; replace bel := bel.trans (bb.mono (Nat.le_trans hlo bel.size)); have haB := hh; clear hh lt ge bb; have R8 := Lib.hid (range_lit haB 0 4 [.int .u8 (a.a.toNat : Int), .int .u8 (a.b.toNat : Int), .int .u8 (a.c.toNat : Int), .int .u8 (a.d.toNat : Int)] rfl)) | ((with_reducible show wpList _ _ _ (⟨some 8, _, _, _, _, _⟩ :: _) _ _); refine wpList_load_rng 28 (.tmp 3) rfl (by kernel_rfl) _ _ rfl _ R8.out _ Try.underlying28 rfl (by kernel_rfl) ?_))
  try clear R8
  with_reducible refine (pfind_is a _ htb (owk_sle (by decide) slE_len own).1 HOK.out.srt H32.out HP.out HF.out).mono ?_
  rintro e w2 ⟨rfl, b2⟩
  replace htb := blk_u htb b2
  replace haB := blk_u haB b2
  replace own := owk_under own b2
  replace kt := kt.trans (kt_below b2)
  replace hM := hM.below b2
  replace bel := bel.trans (b2.mono (Nat.le_trans hlo bel.size))
  clear b2
  go_wp2_with fail
  replace bel := bel.drew
  replace htb : w2.drew.heap[gt]? = _ := htb
  replace haB : w2.drew.heap[g3]? = _ := haB
  replace own := World.ownsRow.drew own
  replace kt := kt_drew kt
  replace hM := hm_drew hM
  refine wp_region_z 13 (S := fun W => W.heap[gt]? = some (.cells #[.int .i64 now, .map (some mb), .slice A n c] 84 (0, 0)) ∧ W.heap[g3]? = some (.cells #[.int .u8 (a.a.toNat : Int), .int .u8 (a.b.toNat : Int), .int .u8 (a.c.toNat : Int), .int .u8 (a.d.toNat : Int)] 28 (0, 0))) (by kernel_rfl) ⟨htb, haB⟩ (fun hH => ?_)
  generalize w2.drew = w3 at bel htb haB own kt hM hH ⊢
  refine wpAnyZ_take (i := 0) (v := ?_) rfl (by kernel_rfl) (by kernel_rfl) (by kernel_rfl) (fun _ _ _ h => h) (Or.inl ⟨by rfl, ?_⟩) hH ?_
  rotate_left
  · ((intro W hW; clear hW; go_simp) <;> with_reducible rfl)
  simp only [Act.put, List.getElem_toArray, List.getElem_cons_zero, List.setIfInBounds_toArray, List.set_cons_zero, List.set_cons_succ]
  refine wpAnyZ_take (i := 1) (v := ?_) rfl (by kernel_rfl) (by kernel_rfl) (by kernel_rfl) (fun _ _ _ h => h) (Or.inl ⟨by rfl, ?_⟩) hH ?_
  rotate_left
  · ((intro W hW; clear hW; go_simp) <;> with_reducible rfl)
  simp only [sq3, sq4]
  refine wpAnyZ_take (i := 2) (v := ?_) rfl (by kernel_rfl) (by kernel_rfl) (by kernel_rfl) (fun _ _ _ h => h) (Or.inl ⟨by rfl, ?_⟩) hH ?_
  rotate_left
  · ((intro W hW; clear hW; go_simp) <;> with_reducible rfl)
  simp only [sq3, sq4]
  refine wpAnyZ_take (i := 3) (v := ?_) rfl (by kernel_rfl) (by kernel_rfl) (by kernel_rfl) (fun _ _ _ h => h) (Or.inl ⟨by rfl, ?_⟩) hH ?_
  rotate_left
  · ((intro W hW; clear hW; go_simp) <;> with_reducible rfl)
  simp only [sq3, sq4]
  refine wpAnyZ_take (i := 4) (v := ?_) rfl (by kernel_rfl) (by kernel_rfl) (by kernel_rfl) (fun _ _ _ h => h) (Or.inl ⟨by rfl, ?_⟩) hH ?_
  rotate_left
  · ((intro W hW; have hk := cell_lit (hW.1) 2 _ rfl; clear hW; go_simp) <;> with_reducible rfl)
  simp only [sq3, sq4]
  refine wpAnyZ_take (i := 5) (v := ?_) rfl (by kernel_rfl) (by kernel_rfl) (by kernel_rfl) (fun _ _ _ h => h) (Or.inl ⟨by rfl, ?_⟩) hH ?_
  rotate_left
  · ((intro W hW; clear hW; go_simp) <;> with_reducible rfl)
  simp only [sq3, sq4]
  refine wpAnyZ_take (i := 6) (v := .agg #[.int .u8 (a.a.toNat : Int), .int .u8 (a.b.toNat : Int), .int .u8 (a.c.toNat : Int), .int .u8 (a.d.toNat : Int)]) rfl (by kernel_rfl) (by kernel_rfl) (by kernel_rfl) (fun _ _ _ h => h) (yieldsIf_load_part (by kernel_rfl) 28 _ rfl g3 0 4 rfl _ 28 (0, 0) (fun W hW => hW.2) _ rfl _ Try.underlying28 rfl (by kernel_rfl)) hH ?_
  simp only [sq3, sq4]
  refine wpAnyZ_take (i := 7) (v := ?_) rfl (by kernel_rfl) (by kernel_rfl) (by kernel_rfl) (fun _ _ _ h => h) (Or.inl ⟨by rfl, ?_⟩) hH ?_
  rotate_left
  · ((intro W hW; clear hW; go_simp) <;> with_reducible rfl)
  simp only [sq3, sq4]
  refine wpAnyZ_take (i := 8) (v := ?_) rfl (by kernel_rfl) (by kernel_rfl) (by kernel_rfl) (fun _ _ _ h => h) (Or.inl ⟨by rfl, ?_⟩) hH ?_
  rotate_left
  · ((intro W hW; clear hW; go_simp) <;> with_reducible rfl)
  simp only [sq3, sq4]
  refine wpAnyZ_ready (rs := [9]) (by kernel_rfl) (by simp) ?_
  refine AllReadyZ.cons (o := _) rfl (fun K hK => ?_) AllReadyZ.nil
  simp only [sq3]
  rw [if_pos (by rfl)]
  refine wp_lit_n 82 101 1 _ rfl #[.int .u8 0, .int .u8 0, .int .u8 0, .int .u8 0, .int .u8 0, .int .u8 0, .int .u8 (a.a.toNat : Int), .int .u8 (a.b.toNat : Int), .int .u8 (a.c.toNat : Int), .int .u8 (a.d.toNat : Int), .int .i64 0, .bool false, .bool false, .bool false, .int .i64 0] (.agg #[.int .u8 0, .int .u8 0, .int .u8 0, .int .u8 0, .int .u8 0, .int .u8 0, .int .u8 0, .int .u8 0, .int .u8 0, .int .u8 0, .int .i64 0, .bool false, .bool false, .bool false, .int .i64 0]) Try.underlying82 (by kernel_rfl) 15 (by kernel_rfl) (by decide) (by kernel_rfl) ?_
  intro g23 w4 ge lt hh bb
  have d_tb_b23 := ne_new (hlt htb) ge
  have d_aB_b23 := ne_new (hlt haB) ge
  have ob23 := Nat.le_trans (Nat.le_trans hlo bel.size) ge
  have off_b23 := owk_new own ge
  have pn_b23 := Nat.le_trans bel.size ge
  replace htb := blk_u htb bb
  replace haB := blk_u haB bb
  replace own := owk_under own bb
  replace kt := kt.trans (kt_below bb)
  replace hM := hM.below bb
  replace bel := bel.trans (bb.mono (Nat.le_trans hlo bel.size))
  have hb23 := hh
  clear hh lt ge bb
  refine hK.out _ _ ⟨htb, haB⟩ (fun hH5 => ?_)
  clear hK K
  simp only [sq4]
  refine wpAnyZ_ready (rs := [10]) (by kernel_rfl) (by simp) ?_
  refine AllReadyZ.cons (o := _) rfl (fun K hK => ?_) AllReadyZ.nil
  simp only [sq3]
  go_simp
  have hvx : w4.heap[g23]? = some (.cells (slE (slot0 a)).toArray 101 (0, 0)) := hb23
  have HLO_ := Nat.le_trans HLO.out bel.size
  with_reducible refine (sl_insert _ HLO_ own H32.out hvx off_b23 HPN.out).mono ?_
  rintro e w6 ⟨A2, c2, rfl, own_, gw, ofw⟩
  dsimp only
  replace bel := bel.trans (row_bel gw own (Nat.le_trans hlo bel.size))
  have off_tb_ := ofw _ (hlt htb) off_tb
  replace htb := blk_own (v := .slice A n c) htb gw off_tb
  clear off_tb
  have off_tb := off_tb_
  clear off_tb_
  have off_aB_ := ofw _ (hlt haB) off_aB
  replace haB := blk_own (v := .slice A n c) haB gw off_aB
  clear off_aB
  have off_aB := off_aB_
  clear off_aB_
  have off_b23_ := ofw _ (hlt hb23) off_b23
  replace hb23 := blk_own (v := .slice A n c) hb23 gw off_b23
  clear off_b23
  have off_b23 := off_b23_
  clear off_b23_
  replace kt := kt.trans (kt_row gw own (by simp))
  replace hM := hM.row gw own
  clear own
  have own := own_
  clear own_ gw ofw
  clear hvx HLO_
  refine hK.out _ _ ⟨htb, haB⟩ (fun hH7 => ?_)
  clear hK K
  refine wpAnyZ_take (i := 11) (v := ?_) rfl (by kernel_rfl) (by kernel_rfl) (by kernel_rfl) (fun _ _ _ h => h) (Or.inl ⟨by rfl, ?_⟩) hH7 ?_
  rotate_left
  · ((intro W hW; clear hW; go_simp) <;> with_reducible rfl)
  simp only [sq3, sq4]
  refine wpAnyZ_take (i := 12) (v := ?_) rfl (by kernel_rfl) (by kernel_rfl) (by kernel_rfl) (fun _ _ _ h => h) (Or.inl ⟨by rfl, ?_⟩) hH7 ?_
  rotate_left
  · ((intro W hW; clear hW; go_simp) <;> with_reducible rfl)
  simp only [sq3, sq4]
  refine wpAnyZ_ready (rs := [13]) (by kernel_rfl) (by simp) ?_
  refine AllReadyZ.last (o := _) rfl (fun K hK => ?_)
  simp only [sq3]
  rw [if_pos (by rfl)]
  refine wp_store_part 82 (.tmp 26) (.tmp 24) rfl gt 2 rfl [.slice A2 (n + 1) c2] rfl [.int .i64 now, .map (some mb), .slice A n c] 84 htb (by simp) [.int .i64 now, .map (some mb), .slice A2 (n + 1) c2] rfl (by kernel_rfl) (by rfl) ?_
  intro w8 hq gr
  replace haB := blk_a haB gr (ne_symm d_tb_aB)
  replace hb23 := blk_a hb23 gr (ne_symm d_tb_b23)
  replace own := owk_off own off_tb gr
  replace kt := kt.trans (kt_grown gr htb (by simp))
  replace hM := hM.grown gr htb
  replace bel := below_grown bel gr otb (Nat.le_trans hlo bel.size)
  clear htb
  have htb := hq
  clear hq gr
  refine hK.out _ _ trivial (fun hH9 => ?_)
  clear hK K
  simp only [Act.put]
  refine wpAnyZ_done (by kernel_rfl) ?_ _
  go_wp2_with fail
  exact bodyPost_end (results_none rfl _ _ _) rfl ⟨rfl, ⟨A2, n + 1, c2, mb, htb, otb, hM, (by have h_ := own; rw [← HP.out] at h_; exact h_), HOKI.out⟩, kt, bel⟩
theorem padd_any {lo gt : Nat} {now : Int} {hs : List (Mc6 × Ad4)} {l : List Sd} (a : Ad4) (w : World) (hT : Pl lo gt w ⟨now, hs, l⟩) (hlen : l.length < 1000) : Calls Try.prog 38 #[.pointer (some ⟨gt, 0, none⟩), .agg #[.int .u8 (a.a.toNat : Int), .int .u8 (a.b.toNat : Int), .int .u8 (a.c.toNat : Int), .int .u8 (a.d.toNat : Int)]] w fun e w' => e = .returned (.tuple #[]) ∧ Pl lo gt w' ⟨now, hs, addL l a⟩ ∧ Kt [84, 101] w w' ∧ Below lo w w' := by
  unfold addL
  cases hf : sfhas l a.num with
  | true => exact padd_has a w hT hf
  | false => exact padd_new a w hT hf hlen
end Go.Proofs.Ytapdmlfjohiekaa
