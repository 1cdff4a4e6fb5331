/- What waits: bytes.Clone, wait, firstRequest; due and request of an entry of the table. -/
import Derived.Test.YtfghmckeogajnaaNr5
import Derived.WalkSpells
namespace Go.Proofs.Ytfghmckeogajnaa
open Go.RowKit

theorem Try.info_u8 : (Try.prog.info? 5).map (fun i => (i.zero, i.size, i.bytes)) = some (some (.int .u8 0), 1, 1) := by kernel_rfl
theorem Try.info_sl : (Try.prog.info? 42).map (fun i => (i.zero, i.size, i.bytes)) = some (some (.slice none 0 0), 1, 24) := by kernel_rfl
/-- A slice as a cell. -/
def hdf (h : Option Addr × Nat × Nat) : List Value := [.slice h.1 h.2.1 h.2.2]
theorem hdf_len (h : Option Addr × Nat × Nat) : (hdf h).length = 1 := rfl
theorem hdf_one (h : Option Addr × Nat × Nat) : ∀ u ∈ hdf h, u.oneCell' = true := by
  intro u hu
  simp only [hdf, List.mem_cons, List.not_mem_nil, or_false] at hu
  rw [hu]; rfl
/-- What waits reads as these packets, each in a row of its own. -/
def Pk (lo : Nat) (w : World) (A : Option Addr) (n c : Nat) (ps : List (List UInt8)) : Prop := ∃ hs : List (Option Addr × Nat × Nat), hs.length = ps.length ∧ w.ownsRow lo 42 1 (.slice A n c) n (hs.flatMap hdf) ∧
  ∀ (i : Nat) (h : Option Addr × Nat × Nat) (p : List UInt8), hs[i]? = some h → ps[i]? = some p → w.ownsRow lo 5 1 (.slice h.1 h.2.1 h.2.2) h.2.1 (p.map u8v)
theorem Pk.kt {S : List TypeId} {lo n c : Nat} {w w' : World} {A : Option Addr} {ps : List (List UInt8)} (h : Pk lo w A n c ps) (k : Kt S w w') (h1 : 42 ∉ S) (h2 : 5 ∉ S) : Pk lo w' A n c ps := by
  obtain ⟨hs, hl, ho, hp⟩ := h
  exact ⟨hs, hl, k.own ho h1, fun i h p hh hq => k.own (hp i h p hh hq) h2⟩
theorem Pk.nil (lo : Nat) (w : World) : Pk lo w none 0 0 [] := ⟨[], rfl, World.ownsRow_nil _ _ _ _, fun i h p hh => by simp at hh⟩
theorem Pk.len {lo n c : Nat} {w : World} {A : Option Addr} {ps : List (List UInt8)} (h : Pk lo w A n c ps) : ps.length = n := by
  obtain ⟨hs, hl, ho, _⟩ := h
  rw [← hl]; exact row_len (by decide) hdf_len ho
theorem Pk.one {lo c m k : Nat} {w : World} {A B : Option Addr} {l : List UInt8} (ho : w.ownsRow lo 42 1 (.slice A 1 c) 1 ([(B, m, k)].flatMap hdf)) (pw : w.ownsRow lo 5 1 (.slice B m k) m (l.map u8v)) : Pk lo w A 1 c [l] :=
  ⟨[(B, m, k)], rfl, ho, fun i h p hh hq => by
    have hi : i < 1 := by simpa using (List.getElem?_eq_some_iff.1 hh).1
    obtain rfl : i = 0 := by omega
    simp only [List.getElem?_cons_zero, Option.some.injEq] at hh hq
    subst hh; subst hq; exact pw⟩
theorem Pk.push {S : List TypeId} {lo c m k n : Nat} {w w' : World} {A B : Option Addr} {l : List UInt8} {hs : List (Option Addr × Nat × Nat)} {ps : List (List UInt8)} (kt : Kt S w w') (h2 : 5 ∉ S) (hl : hs.length = ps.length)
    (hp : ∀ (i : Nat) (h : Option Addr × Nat × Nat) (p : List UInt8), hs[i]? = some h → ps[i]? = some p → w.ownsRow lo 5 1 (.slice h.1 h.2.1 h.2.2) h.2.1 (p.map u8v))
    (ho : w'.ownsRow lo 42 1 (.slice A n c) n ((hs ++ [(B, m, k)]).flatMap hdf)) (pw : w'.ownsRow lo 5 1 (.slice B m k) m (l.map u8v)) : Pk lo w' A n c (ps ++ [l]) :=
  ⟨hs ++ [(B, m, k)], by simp [hl], ho, fun i h p hh hq => by
    rcases Nat.lt_or_ge i hs.length with h0 | h0
    · rw [List.getElem?_append_left h0] at hh
      rw [List.getElem?_append_left (by omega)] at hq
      exact kt.own (hp i h p hh hq) h2
    · rw [List.getElem?_append_right h0] at hh
      rw [List.getElem?_append_right (by omega)] at hq
      have hi : i - hs.length < 1 := by simpa using (List.getElem?_eq_some_iff.1 hh).1
      obtain rfl : i = hs.length := by omega
      rw [Nat.sub_self] at hh
      rw [hl, Nat.sub_self] at hq
      simp only [List.getElem?_cons_zero, Option.some.injEq] at hh hq
      subst hh; subst hq; exact pw⟩
theorem kt_drew {S : List TypeId} {w w' : World} (h : Kt S w w') : Kt S w w'.drew := h
theorem own_ub {w w' : World} {B lo k n : Nat} {e : TypeId} {v : Value} {xs : List Value} (h : w.ownsRow lo e k v n xs) (b : Below B w w') (hB : ∀ g, v.ownBlock = some g → g < B) : w'.ownsRow lo e k v n xs := by
  refine ⟨h.1, ?_⟩
  rcases h.2 with h | ⟨g, cap, cur, e2, hg, hh, h⟩
  · exact .inl h
  · exact .inr ⟨g, cap, cur, e2, hg, (b.block g (hB g (by rw [e2]; rfl))).trans hh, h⟩
theorem gk_under {w0 w w' : World} {b : Option Nat} {B : Nat} (h : w0.grownBy w b) (h2 : Below B w w') (hB : w0.heap.size ≤ B) : w0.grownBy w' b :=
  ⟨h2.os.trans h.os, h2.tape.trans h.tape, h2.output.trans h.output, Nat.le_trans h.size h2.size, fun k hk hne => (h2.block k (Nat.lt_of_lt_of_le hk hB)).trans (h.block k hk hne)⟩
set_option linter.unusedVariables false in
set_option linter.unusedSimpArgs false in
set_option maxRecDepth 100000 in
set_option maxHeartbeats 16000000 in
theorem bclone_nil {n c : Nat} {l : List UInt8} (w : World) (hs : Sl w none n c l) : Calls Try.prog 34 #[.slice none n c] w fun e w' => ∃ A' c', e = .returned (.slice A' n c') ∧ w'.ownsRow w.heap.size 5 1 (.slice A' n c') n (l.map u8v) ∧ Below w.heap.size w w' := by
  have r4 := fun W => Lib.run_eql_slice_nil (P := Try.prog) W 42 5 none n c 0 0 Try.underlying42
  simp only [Option.isNone_none] at r4
  have HN : Hid (n = 0) := Lib.hid (by rcases Nat.eq_zero_or_pos n with h_ | h_; exact h_; obtain ⟨g, o, e, _⟩ := hs.2.2.2 h_; cases e)
  have HL : Hid (l = []) := Lib.hid (List.eq_nil_of_length_eq_zero (hs.1.trans HN.out))
  clear hs
  have bel := Below.refl w.heap.size w
  go_enter Try.func34, Try.ntmps34
  have R4 := r4
  go_wp2_with fail
  clear R4
  go_ret
  exact ⟨none, 0, by rw [HN.out]; rfl, by rw [HN.out, HL.out]; exact World.ownsRow_nil _ _ _ _, bel⟩
set_option linter.unusedVariables false in
set_option linter.unusedSimpArgs false in
set_option maxRecDepth 100000 in
set_option maxHeartbeats 16000000 in
theorem bclone_some {ad : Addr} {n c : Nat} {l : List UInt8} (w : World) (hs : Sl w (some ad) n c l) (hn : n ≤ 100000) : Calls Try.prog 34 #[.slice (some ad) n c] w fun e w' => ∃ A' c', e = .returned (.slice A' n c') ∧ w'.ownsRow w.heap.size 5 1 (.slice A' n c') n (l.map u8v) ∧ Below w.heap.size w w' := by
  have r4 := fun W => Lib.run_eql_slice_nil (P := Try.prog) W 42 5 (some ad) n c 0 0 Try.underlying42
  simp only [Option.isNone_some] at r4
  obtain ⟨ii, hii, hz0, hz1, hz2⟩ := info_parts Try.info_u8
  obtain ⟨is, his, his0, his1, his2⟩ := info_parts Try.info_sl
  have bel := Below.refl w.heap.size w
  go_enter Try.func34, Try.ntmps34
  have R4 := r4
  go_wp2_with (first | ((with_reducible show wpList _ _ _ (⟨some 5, _, _, _, _, _⟩ :: _) _ _); refine wpList_lit_n rfl 42 5 0 _ rfl #[] (.int .u8 0) Try.underlying42 (by kernel_rfl) 1 (by kernel_rfl) (by decide) (by kernel_rfl) ?_; intro g5 w1 ge lt hh bb; have hl : w1.heap[g5]? = some (.cells (([] : List UInt8).map u8v).toArray 5 (0, 0)) := (by simpa [u8v, byteOf_val] using hh); have e0w := own_lit (B := w.heap.size) ([]) hl ge 0 rfl (by simp [maxLen]); have e0 := (own_sl e0w).1; have e0lo := bel.size; clear hl; have e0ge := ge; have lz_e0 := bb.size; have bl_hs_e0 := hs.bl_new; replace hs := hs.below bb; replace bel := bel.trans (bb.mono bel.size); clear hh lt ge bb) | ((with_reducible show wpList _ _ _ (⟨some 7, _, _, _, _, _⟩ :: _) _ _); refine wpList_append_bb _ rfl (.tmp 5) (.tmp 6) 42 rfl (w.heap.size) 5 ii (.int .u8 0) Try.underlying42 hii hz0 hz1 hz2 rfl _ (0) ([]) rfl e0w (some ad) (n) (c) (l) rfl hs (by omega) lz_e0 ?_; intro v7 w2 own_ bb; replace hs := hs.under bl_hs_e0 bb; replace bel := bel.trans (bb.mono e0lo); have lz_cl := Nat.le_trans lz_e0 bb.size; clear bb; clear e0 e0w lz_e0; replace own_ : w2.ownsRow (w.heap.size) 5 1 v7 (n) ((l : List UInt8).map u8v) := (by simpa using own_); obtain ⟨A7, c7, rfl⟩ := own_val own_; have clw := own_; have cl := (own_sl own_).1; have fr_cl := (own_sl own_).2; clear own_))
  try clear R4
  go_ret
  exact ⟨A7, c7, rfl, owk_lo clw e0lo, bel⟩
theorem bclone_any {A : Option Addr} {n c : Nat} {l : List UInt8} (w : World) (hs : Sl w A n c l) (hn : n ≤ 100000) : Calls Try.prog 34 #[.slice A n c] w fun e w' => ∃ A' c', e = .returned (.slice A' n c') ∧ w'.ownsRow w.heap.size 5 1 (.slice A' n c') n (l.map u8v) ∧ Below w.heap.size w w' := by
  cases A with
  | none => exact bclone_nil w hs
  | some ad => exact bclone_some w hs hn
set_option linter.unusedVariables false in
set_option linter.unusedSimpArgs false in
set_option maxRecDepth 100000 in
set_option maxHeartbeats 16000000 in
theorem wait_box {lo ge nb cb : Nat} {Ab : Option Addr} {lb : List UInt8} {x : En} (w : World) (hlo : lo ≤ w.heap.size) (oeb : lo ≤ ge) (heb : w.heap[ge]? = some (.cells #[.int .u8 (x.ad.a.toNat : Int), .int .u8 (x.ad.b.toNat : Int), .int .u8 (x.ad.c.toNat : Int), .int .u8 (x.ad.d.toNat : Int), .int .i64 x.t, .bool x.k, .int .u8 (x.m.a.toNat : Int), .int .u8 (x.m.b.toNat : Int), .int .u8 (x.m.c.toNat : Int), .int .u8 (x.m.d.toNat : Int), .int .u8 (x.m.e.toNat : Int), .int .u8 (x.m.f.toNat : Int), .int .i64 x.r, .slice none 0 0] 52 (0, 0))) (sb : Sl w Ab nb cb lb) (hnb : nb ≤ 100000) : Calls Try.prog 22 #[.pointer (some ⟨ge, 0, none⟩), .slice Ab nb cb] w fun e w' => ∃ A1 c1, e = .returned (.tuple #[]) ∧ w'.heap[ge]? = some (.cells #[.int .u8 (x.ad.a.toNat : Int), .int .u8 (x.ad.b.toNat : Int), .int .u8 (x.ad.c.toNat : Int), .int .u8 (x.ad.d.toNat : Int), .int .i64 x.t, .bool x.k, .int .u8 (x.m.a.toNat : Int), .int .u8 (x.m.b.toNat : Int), .int .u8 (x.m.c.toNat : Int), .int .u8 (x.m.d.toNat : Int), .int .u8 (x.m.e.toNat : Int), .int .u8 (x.m.f.toNat : Int), .int .i64 x.r, .slice A1 1 c1] 52 (0, 0)) ∧ Pk lo w' A1 1 c1 [lb] ∧ w.grownBy w' (some ge) := by
  obtain ⟨ii, hii, hz0, hz1, hz2⟩ := info_parts Try.info_u8
  obtain ⟨is, his, his0, his1, his2⟩ := info_parts Try.info_sl
  have gk := World.grownBy.refl w (some ge)
  have bel := Below.refl lo w
  go_enter Try.func22, Try.ntmps22
  have R7 := cell_lit heb 13 _ rfl
  go_wp2_with fail
  clear R7
  replace bel := bel.drew
  replace heb : w.drew.heap[ge]? = _ := heb
  replace sb := sb.drew
  replace gk := gk_drew gk
  refine wp_region_z 11 (S := fun W => W.heap[ge]? = some (.cells #[.int .u8 (x.ad.a.toNat : Int), .int .u8 (x.ad.b.toNat : Int), .int .u8 (x.ad.c.toNat : Int), .int .u8 (x.ad.d.toNat : Int), .int .i64 x.t, .bool x.k, .int .u8 (x.m.a.toNat : Int), .int .u8 (x.m.b.toNat : Int), .int .u8 (x.m.c.toNat : Int), .int .u8 (x.m.d.toNat : Int), .int .u8 (x.m.e.toNat : Int), .int .u8 (x.m.f.toNat : Int), .int .i64 x.r, .slice none 0 0] 52 (0, 0))) (by kernel_rfl) heb (fun hH => ?_)
  generalize w.drew = w1 at bel heb sb gk hH ⊢
  refine wpAnyZ_take (i := 0) (v := ?_) rfl (by kernel_rfl) (by kernel_rfl) (by kernel_rfl) (fun _ _ _ h => h) (Or.inl ⟨by rfl, ?_⟩) hH ?_
  rotate_left
  · ((intro W hW; clear hW; go_simp) <;> with_reducible rfl)
  simp only [Act.put, List.getElem_toArray, List.getElem_cons_zero, List.setIfInBounds_toArray, List.set_cons_zero, List.set_cons_succ]
  refine wpAnyZ_take (i := 1) (v := ?_) rfl (by kernel_rfl) (by kernel_rfl) (by kernel_rfl) (fun _ _ _ h => h) (Or.inl ⟨by rfl, ?_⟩) hH ?_
  rotate_left
  · ((intro W hW; clear hW; go_simp) <;> with_reducible rfl)
  simp only [Act.put, List.getElem_toArray, List.getElem_cons_zero, List.getElem_cons_succ, List.setIfInBounds_toArray, List.set_cons_zero, List.set_cons_succ]
  refine wpAnyZ_take (i := 2) (v := ?_) rfl (by kernel_rfl) (by kernel_rfl) (by kernel_rfl) (fun _ _ _ h => h) (Or.inl ⟨by rfl, ?_⟩) hH ?_
  rotate_left
  · ((intro W hW; clear hW; go_simp) <;> with_reducible rfl)
  simp only [Act.put, List.getElem_toArray, List.getElem_cons_zero, List.getElem_cons_succ, List.setIfInBounds_toArray, List.set_cons_zero, List.set_cons_succ]
  refine wpAnyZ_take (i := 3) (v := ?_) rfl (by kernel_rfl) (by kernel_rfl) (by kernel_rfl) (fun _ _ _ h => h) (Or.inl ⟨by rfl, ?_⟩) hH ?_
  rotate_left
  · ((intro W hW; clear hW; go_simp) <;> with_reducible rfl)
  simp only [Act.put, List.getElem_toArray, List.getElem_cons_zero, List.getElem_cons_succ, List.setIfInBounds_toArray, List.set_cons_zero, List.set_cons_succ]
  refine wpAnyZ_take (i := 4) (v := ?_) rfl (by kernel_rfl) (by kernel_rfl) (by kernel_rfl) (fun _ _ _ h => h) (Or.inl ⟨by rfl, ?_⟩) hH ?_
  rotate_left
  · ((intro W hW; have hk := cell_lit (hW) 13 _ rfl; clear hW; go_simp) <;> with_reducible rfl)
  simp only [Act.put, List.getElem_toArray, List.getElem_cons_zero, List.getElem_cons_succ, List.setIfInBounds_toArray, List.set_cons_zero, List.set_cons_succ]
  refine wpAnyZ_take (i := 5) (v := ?_) rfl (by kernel_rfl) (by kernel_rfl) (by kernel_rfl) (fun _ _ _ h => h) (Or.inl ⟨by rfl, ?_⟩) hH ?_
  rotate_left
  · ((intro W hW; clear hW; go_simp) <;> with_reducible rfl)
  simp only [Act.put, List.getElem_toArray, List.getElem_cons_zero, List.getElem_cons_succ, List.setIfInBounds_toArray, List.set_cons_zero, List.set_cons_succ]
  refine wpAnyZ_ready (rs := [6]) (by kernel_rfl) (by simp) ?_
  refine AllReadyZ.cons (o := _) rfl (fun K hK => ?_) AllReadyZ.nil
  simp only [List.getElem_toArray, List.getElem_cons_zero, List.getElem_cons_succ]
  go_simp
  have HLO_ := Nat.le_trans hlo bel.size
  with_reducible refine (bclone_any _ sb hnb).mono ?_
  rintro e w2 ⟨A1, c1, rfl, pw, b2⟩
  dsimp only
  replace heb := blk_u heb b2
  replace sb := sb.below b2
  replace gk := gk.trans (grown_of_below b2)
  replace bel := bel.trans (b2.mono (Nat.le_trans hlo bel.size))
  clear b2
  replace pw := owk_lo pw HLO_
  clear HLO_
  clear sb
  refine hK.out _ _ heb (fun hH3 => ?_)
  clear hK K
  refine wpAnyZ_ready (rs := [7]) (by kernel_rfl) (by simp) ?_
  refine AllReadyZ.cons (o := _) rfl (fun K hK => ?_) AllReadyZ.nil
  simp only [List.getElem_toArray, List.getElem_cons_zero, List.getElem_cons_succ]
  rw [if_pos (by rfl)]
  refine wp_lit_n 27 42 1 _ rfl #[.slice A1 nb c1] (.slice none 0 0) Try.underlying27 (by kernel_rfl) 1 (by kernel_rfl) (by decide) (by kernel_rfl) ?_
  intro g17 w4 ge lt hh bb
  have d_eb_b17 := ne_new (hlt heb) ge
  have ob17 := Nat.le_trans (Nat.le_trans hlo bel.size) ge
  replace heb := blk_u heb bb
  replace gk := gk.trans (grown_of_below bb)
  replace pw := owk_under pw bb
  replace bel := bel.trans (bb.mono (Nat.le_trans hlo bel.size))
  have hb17 := hh
  clear hh lt ge bb
  have lt : Sle hdf 1 w4 (some ⟨g17, 0, none⟩) (1) (1) ([(A1, nb, c1)]) := sle_lit ([(A1, nb, c1)]) (by decide) hdf_len hb17 rfl (by simp [maxLen])
  refine hK.out _ _ heb (fun hH5 => ?_)
  clear hK K
  simp only [Act.put, List.setIfInBounds_toArray, List.set_cons_zero, List.set_cons_succ]
  refine wpAnyZ_ready (rs := [8]) (by kernel_rfl) (by simp) ?_
  refine AllReadyZ.cons (o := _) rfl (fun K hK => ?_) AllReadyZ.nil
  simp only [List.getElem_toArray, List.getElem_cons_zero, List.getElem_cons_succ]
  rw [if_pos (by rfl)]
  have nil18w : w4.ownsRow w4.heap.size 42 1 (.slice none 0 0) 0 (([] : List (Option Addr × Nat × Nat)).flatMap hdf) := owk_nil _ _ _
  have nil18lo := (Nat.le_trans hlo bel.size)
  have lz_nil18 := Nat.le_refl (w4.heap.size)
  have nil18 := Sle.nil (f := hdf) (k := 1) (by decide) hdf_len w4
  have gkb_nil18 := gk.size
  have pwb_nil18 := fun g hg => (pw.lt g hg).2
  have y_nil18_eb := Lib.hid (hlt heb)
  have y_nil18_b17 := Lib.hid (hlt hb17)
  have bl_lt_nil18 := lt.bl_new
  refine wp_append_sle (.tmp 14) (.tmp 17) 27 rfl (w4.heap.size) 42 is (.slice none 0 0) 24 Try.underlying27 his his0 his1 his2 rfl hdf_one _ (0) ([]) rfl nil18w (some ⟨g17, 0, none⟩) (1) (1) ([(A1, nb, c1)]) rfl lt (by unfold maxLen; omega) (by omega) lz_nil18 ?_
  intro v18 w6 own_ bb gw ofw
  clear ofw
  replace lt := lt.under bl_lt_nil18 bb
  replace heb := blk_under heb bb y_nil18_eb.out
  replace hb17 := blk_under hb17 bb y_nil18_b17.out
  clear gw
  replace gk := gk_under gk bb gkb_nil18
  replace pw := own_ub pw bb pwb_nil18
  replace bel := bel.trans (bb.mono nil18lo)
  have lz_s18 := Nat.le_trans lz_nil18 bb.size
  clear bb
  clear nil18 nil18w lz_nil18
  replace own_ : w6.ownsRow (w4.heap.size) 42 1 v18 (1) (([(A1, nb, c1)] : List (Option Addr × Nat × Nat)).flatMap hdf) := (by simpa using own_)
  obtain ⟨A18, c18, rfl⟩ := owk_val own_
  have s18w := own_
  have s18 := (owk_sle (by decide) hdf_len own_).1
  have fr_s18 := (owk_sle (by decide) hdf_len own_).2
  clear own_
  have av_s18_eb := fr_s18.av y_nil18_eb.out
  have av_s18_b17 := fr_s18.av y_nil18_b17.out
  refine hK.out _ _ heb (fun hH7 => ?_)
  clear hK K
  simp only [Act.put, List.setIfInBounds_toArray, List.set_cons_zero, List.set_cons_succ]
  refine wpAnyZ_take (i := 9) (v := ?_) rfl (by kernel_rfl) (by kernel_rfl) (by kernel_rfl) (fun _ _ _ h => h) (Or.inl ⟨by rfl, ?_⟩) hH7 ?_
  rotate_left
  · ((intro W hW; clear hW; go_simp) <;> with_reducible rfl)
  simp only [Act.put, List.getElem_toArray, List.getElem_cons_zero, List.getElem_cons_succ, List.setIfInBounds_toArray, List.set_cons_zero, List.set_cons_succ]
  refine wpAnyZ_take (i := 10) (v := ?_) rfl (by kernel_rfl) (by kernel_rfl) (by kernel_rfl) (fun _ _ _ h => h) (Or.inl ⟨by rfl, ?_⟩) hH7 ?_
  rotate_left
  · ((intro W hW; clear hW; go_simp) <;> with_reducible rfl)
  simp only [Act.put, List.getElem_toArray, List.getElem_cons_zero, List.getElem_cons_succ, List.setIfInBounds_toArray, List.set_cons_zero, List.set_cons_succ]
  refine wpAnyZ_ready (rs := [11]) (by kernel_rfl) (by simp) ?_
  refine AllReadyZ.last (o := _) rfl (fun K hK => ?_)
  simp only [List.getElem_toArray, List.getElem_cons_zero, List.getElem_cons_succ]
  rw [if_pos (by rfl)]
  refine wp_store_part 27 (.tmp 20) (.tmp 18) rfl ge 13 rfl [.slice A18 1 c18] rfl [.int .u8 (x.ad.a.toNat : Int), .int .u8 (x.ad.b.toNat : Int), .int .u8 (x.ad.c.toNat : Int), .int .u8 (x.ad.d.toNat : Int), .int .i64 x.t, .bool x.k, .int .u8 (x.m.a.toNat : Int), .int .u8 (x.m.b.toNat : Int), .int .u8 (x.m.c.toNat : Int), .int .u8 (x.m.d.toNat : Int), .int .u8 (x.m.e.toNat : Int), .int .u8 (x.m.f.toNat : Int), .int .i64 x.r, .slice none 0 0] 52 heb (by simp) [.int .u8 (x.ad.a.toNat : Int), .int .u8 (x.ad.b.toNat : Int), .int .u8 (x.ad.c.toNat : Int), .int .u8 (x.ad.d.toNat : Int), .int .i64 x.t, .bool x.k, .int .u8 (x.m.a.toNat : Int), .int .u8 (x.m.b.toNat : Int), .int .u8 (x.m.c.toNat : Int), .int .u8 (x.m.d.toNat : Int), .int .u8 (x.m.e.toNat : Int), .int .u8 (x.m.f.toNat : Int), .int .i64 x.r, .slice A18 1 c18] rfl (by kernel_rfl) (by rfl) ?_
  intro w8 hq gr
  clear lt
  replace s18 := s18.away av_s18_eb gr
  replace s18w := owk_away s18w y_nil18_eb.out gr
  replace lz_s18 := Nat.le_trans lz_s18 gr.size
  replace hb17 := blk_a hb17 gr (ne_symm d_eb_b17)
  replace gk := gk.trans gr
  replace pw := owk_off pw (ofs_type pw heb (by decide)) gr
  replace bel := below_grown bel gr oeb (Nat.le_trans hlo bel.size)
  clear heb
  have heb := hq
  clear hq gr
  refine hK.out _ _ trivial (fun hH9 => ?_)
  clear hK K
  simp only [Act.put]
  refine wpAnyZ_done (by kernel_rfl) ?_ _
  go_wp2_with fail
  exact bodyPost_end (results_none rfl _ _ _) rfl ⟨A18, c18, rfl, heb, Pk.one (owk_lo s18w nil18lo) pw, gk⟩
theorem wait_first {lo ge nb cb : Nat} {Ab : Option Addr} {lb : List UInt8} {x : Ad4} {now : Int} (w : World) (hlo : lo ≤ w.heap.size) (oeb : lo ≤ ge) (heb : w.heap[ge]? = some (.cells #[.int .u8 (x.a.toNat : Int), .int .u8 (x.b.toNat : Int), .int .u8 (x.c.toNat : Int), .int .u8 (x.d.toNat : Int), .int .i64 now, .bool false, .int .u8 0, .int .u8 0, .int .u8 0, .int .u8 0, .int .u8 0, .int .u8 0, .int .i64 1, .slice none 0 0] 52 (0, 0))) (sb : Sl w Ab nb cb lb) (hnb : nb ≤ 100000) : Calls Try.prog 22 #[.pointer (some ⟨ge, 0, none⟩), .slice Ab nb cb] w fun e w' => ∃ A1 c1, e = .returned (.tuple #[]) ∧ w'.heap[ge]? = some (.cells #[.int .u8 (x.a.toNat : Int), .int .u8 (x.b.toNat : Int), .int .u8 (x.c.toNat : Int), .int .u8 (x.d.toNat : Int), .int .i64 now, .bool false, .int .u8 0, .int .u8 0, .int .u8 0, .int .u8 0, .int .u8 0, .int .u8 0, .int .i64 1, .slice A1 1 c1] 52 (0, 0)) ∧ Pk lo w' A1 1 c1 [lb] ∧ w.grownBy w' (some ge) :=
  wait_box (x := ⟨x, now, false, Mc6.zero, 1, none, 0, 0⟩) w hlo oeb heb sb hnb
set_option linter.unusedVariables false in
set_option linter.unusedSimpArgs false in
set_option maxRecDepth 100000 in
set_option maxHeartbeats 16000000 in
theorem first_any {gt nb cb n c : Nat} {A Ab : Option Addr} {age now : Int} {lb : List UInt8} (x : Ad4) (w : World) (htb : w.heap[gt]? = some (.cells #[.int .i64 age, .int .i64 now, .slice A n c] 49 (0, 0))) (sb : Sl w Ab nb cb lb) (hnb : nb ≤ 100000) : Calls Try.prog 21 #[.pointer (some ⟨gt, 0, none⟩), .agg #[.int .u8 (x.a.toNat : Int), .int .u8 (x.b.toNat : Int), .int .u8 (x.c.toNat : Int), .int .u8 (x.d.toNat : Int)], .slice Ab nb cb] w fun e w' => ∃ A1 c1, e = .returned (.agg (enE ⟨x, now, false, Mc6.zero, 1, A1, 1, c1⟩).toArray) ∧ Pk w.heap.size w' A1 1 c1 [lb] ∧ Below w.heap.size w w' := by
  have bel := Below.refl w.heap.size w
  go_enter Try.func21, Try.ntmps21
  go_wp2_with (first | ((with_reducible show wpList _ _ _ (⟨some 4, _, _, _, _, _⟩ :: _) _ _); refine wpList_box_n rfl 30 (.tmp 1) rfl #[.int .u8 (x.a.toNat : Int), .int .u8 (x.b.toNat : Int), .int .u8 (x.c.toNat : Int), .int .u8 (x.d.toNat : Int)] rfl ?_; intro g4 w1 ge lt hh bb; have d_tb_xb := ne_new (hlt htb) ge; have av_sb_xb := sb.av_new ge; have oxb := Nat.le_trans bel.size ge; replace htb := blk_u htb bb; replace sb := sb.below bb; replace bel := bel.trans (bb.mono bel.size); have hxb := hh; clear hh lt ge bb) | ((with_reducible show wpList _ _ _ (⟨some 6, _, _, _, _, _⟩ :: _) _ _); refine wpList_new_a rfl 52 rfl #[.int .u8 0, .int .u8 0, .int .u8 0, .int .u8 0, .int .i64 0, .bool false, .int .u8 0, .int .u8 0, .int .u8 0, .int .u8 0, .int .u8 0, .int .u8 0, .int .i64 0, .slice none 0 0] (by kernel_rfl) ?_; intro g6 w2 ge hh bb; have d_tb_rb := ne_new (hlt htb) ge; have d_xb_rb := ne_new (hlt hxb) ge; have av_sb_rb := sb.av_new ge; have orb := Nat.le_trans bel.size ge; replace htb := blk_u htb bb; replace hxb := blk_u hxb bb; replace sb := sb.below bb; replace bel := bel.trans (bb.mono bel.size); have hrb := hh; clear hh ge bb))
  replace bel := bel.drew
  replace htb : w2.drew.heap[gt]? = _ := htb
  replace hxb : w2.drew.heap[g4]? = _ := hxb
  replace hrb : w2.drew.heap[g6]? = _ := hrb
  replace sb := sb.drew
  refine wp_region_held_drew (S := fun W => W.heap[g4]? = some (.cells #[.int .u8 (x.a.toNat : Int), .int .u8 (x.b.toNat : Int), .int .u8 (x.c.toNat : Int), .int .u8 (x.d.toNat : Int)] 30 (0, 0)) ∧ W.heap[gt]? = some (.cells #[.int .i64 age, .int .i64 now, .slice A n c] 49 (0, 0))) (by kernel_rfl) ⟨hxb, htb⟩ (fun hH => ?_)
  generalize w2.drew = w3 at bel htb hxb hrb sb hH ⊢
  refine wpAnyH_take (i := 0) (v := .agg #[.int .u8 (x.a.toNat : Int), .int .u8 (x.b.toNat : Int), .int .u8 (x.c.toNat : Int), .int .u8 (x.d.toNat : Int)]) rfl (by kernel_rfl) (by kernel_rfl) (by kernel_rfl) (fun _ _ _ h => h) (yieldsIf_load_part (by kernel_rfl) 30 _ rfl g4 0 4 rfl _ 30 (0, 0) (fun W hW => hW.1) _ rfl _ Try.underlying30 rfl (by kernel_rfl)) hH ?_
  simp only [Act.put, List.getElem_toArray, List.getElem_cons_zero, List.setIfInBounds_toArray, List.set_cons_zero, List.set_cons_succ]
  refine wpAnyH_take (i := 1) (v := ?_) rfl (by kernel_rfl) (by kernel_rfl) (by kernel_rfl) (fun _ _ _ h => h) (Or.inl ⟨by rfl, ?_⟩) hH ?_
  rotate_left
  · ((intro W hW; clear hW; go_simp) <;> with_reducible rfl)
  simp only [Act.put, List.getElem_toArray, List.getElem_cons_zero, List.getElem_cons_succ, List.setIfInBounds_toArray, List.set_cons_zero, List.set_cons_succ]
  refine wpAnyH_take (i := 2) (v := ?_) rfl (by kernel_rfl) (by kernel_rfl) (by kernel_rfl) (fun _ _ _ h => h) (Or.inl ⟨by rfl, ?_⟩) hH ?_
  rotate_left
  · ((intro W hW; clear hW; go_simp) <;> with_reducible rfl)
  simp only [Act.put, List.getElem_toArray, List.getElem_cons_zero, List.getElem_cons_succ, List.setIfInBounds_toArray, List.set_cons_zero, List.set_cons_succ]
  refine wpAnyH_take (i := 3) (v := ?_) rfl (by kernel_rfl) (by kernel_rfl) (by kernel_rfl) (fun _ _ _ h => h) (Or.inl ⟨by rfl, ?_⟩) hH ?_
  rotate_left
  · ((intro W hW; clear hW; go_simp) <;> with_reducible rfl)
  simp only [Act.put, List.getElem_toArray, List.getElem_cons_zero, List.getElem_cons_succ, List.setIfInBounds_toArray, List.set_cons_zero, List.set_cons_succ]
  refine wpAnyH_take (i := 4) (v := ?_) rfl (by kernel_rfl) (by kernel_rfl) (by kernel_rfl) (fun _ _ _ h => h) (Or.inl ⟨by rfl, ?_⟩) hH ?_
  rotate_left
  · ((intro W hW; have hk := cell_lit (hW.2) 1 _ rfl; clear hW; go_simp) <;> with_reducible rfl)
  simp only [Act.put, List.getElem_toArray, List.getElem_cons_zero, List.getElem_cons_succ, List.setIfInBounds_toArray, List.set_cons_zero, List.set_cons_succ]
  refine wpAnyH_take (i := 5) (v := ?_) rfl (by kernel_rfl) (by kernel_rfl) (by kernel_rfl) (fun _ _ _ h => h) (Or.inl ⟨by rfl, ?_⟩) hH ?_
  rotate_left
  · ((intro W hW; clear hW; go_simp) <;> with_reducible rfl)
  simp only [Act.put, List.getElem_toArray, List.getElem_cons_zero, List.getElem_cons_succ, List.setIfInBounds_toArray, List.set_cons_zero, List.set_cons_succ]
  refine wpAnyH_ready (rs := [6]) (by kernel_rfl) (by simp) ?_
  refine AllReadyH.cons (o := _) rfl (fun K hK => ?_) AllReadyH.nil
  simp only [List.getElem_toArray, List.getElem_cons_zero, List.getElem_cons_succ]
  rw [if_pos (by rfl)]
  refine wp_new_a 52 rfl #[.int .u8 0, .int .u8 0, .int .u8 0, .int .u8 0, .int .i64 0, .bool false, .int .u8 0, .int .u8 0, .int .u8 0, .int .u8 0, .int .u8 0, .int .u8 0, .int .i64 0, .slice none 0 0] (by kernel_rfl) ?_
  intro g7 w4 ge hh bb
  have d_tb_eb := ne_new (hlt htb) ge
  have d_xb_eb := ne_new (hlt hxb) ge
  have d_rb_eb := ne_new (hlt hrb) ge
  have av_sb_eb := sb.av_new ge
  have oeb := Nat.le_trans bel.size ge
  replace htb := blk_u htb bb
  replace hxb := blk_u hxb bb
  replace hrb := blk_u hrb bb
  replace sb := sb.below bb
  replace bel := bel.trans (bb.mono bel.size)
  have heb := hh
  clear hh ge bb
  refine hK.out _ _ ⟨hxb, htb⟩ (fun hH5 => ?_)
  clear hK K
  simp only [Act.put, List.setIfInBounds_toArray, List.set_cons_zero, List.set_cons_succ]
  refine wpAnyH_ready (rs := [7]) (by kernel_rfl) (by simp) ?_
  refine AllReadyH.cons (o := _) rfl (fun K hK => ?_) AllReadyH.nil
  simp only [List.getElem_toArray, List.getElem_cons_zero, List.getElem_cons_succ]
  rw [if_pos (by rfl)]
  refine wp_store_blk 52 (.tmp 7) (.tmp 13) rfl g7 rfl _ rfl _ 52 heb (by rfl) (by kernel_rfl) (by kernel_rfl) ?_
  intro w6 hq gr
  replace sb := sb.away av_sb_eb gr
  replace htb := blk_a htb gr d_tb_eb
  replace hxb := blk_a hxb gr d_xb_eb
  replace hrb := blk_a hrb gr d_rb_eb
  replace bel := below_grown bel gr oeb bel.size
  clear heb
  have heb := hq
  clear hq gr
  refine hK.out _ _ ⟨hxb, htb⟩ (fun hH7 => ?_)
  clear hK K
  simp only [Act.put]
  refine wpAnyH_done (by kernel_rfl) ?_ _
  go_wp2_with fail
  have HLO_ := bel.size
  with_reducible refine (wait_first _ HLO_ oeb heb sb hnb).mono ?_
  rintro e w8 ⟨A1, c1, rfl, heb_, pk, b8⟩
  replace sb := sb.away av_sb_eb b8
  replace htb := blk_a htb b8 d_tb_eb
  replace hxb := blk_a hxb b8 d_xb_eb
  replace hrb := blk_a hrb b8 d_rb_eb
  replace bel := below_grown bel b8 oeb bel.size
  clear b8
  clear heb
  have heb := heb_
  clear heb_ HLO_
  have R16 := Lib.hid (range_lit heb 0 14 [.int .u8 (x.a.toNat : Int), .int .u8 (x.b.toNat : Int), .int .u8 (x.c.toNat : Int), .int .u8 (x.d.toNat : Int), .int .i64 now, .bool false, .int .u8 0, .int .u8 0, .int .u8 0, .int .u8 0, .int .u8 0, .int .u8 0, .int .i64 1, .slice A1 1 c1] rfl)
  go_wp2_with (first | ((with_reducible show wpList _ _ _ (⟨some 16, _, _, _, _, _⟩ :: _) _ _); refine wpList_load_rng 52 (.tmp 7) rfl (by kernel_rfl) _ _ rfl _ R16.out _ Try.underlying52 rfl (by kernel_rfl) ?_) | ((with_reducible show wpList _ _ _ (⟨none, Op.store _ (.tmp 6) _, _, _, _, _⟩ :: _) _ _); refine wpList_store_blk rfl 52 (.tmp 6) (.tmp 16) rfl g6 rfl _ rfl _ 52 hrb (by rfl) (by kernel_rfl) (by kernel_rfl) ?_; intro w9 hq gr; replace sb := sb.away av_sb_rb gr; replace htb := blk_a htb gr d_tb_rb; replace hxb := blk_a hxb gr d_xb_rb; replace heb := blk_a heb gr (ne_symm d_rb_eb); replace pk := pk.kt (S := [52]) (kt_grown gr hrb (by decide)) (by decide) (by decide); replace bel := below_grown bel gr orb bel.size; clear hrb; have hrb := hq; clear hq gr))
  try clear R16
  exact bodyPost_ret (results_cell_row' rfl _ _ _ _ _ _ _ rfl hrb Try.underlying52 rfl (by kernel_rfl)) rfl ⟨A1, c1, rfl, pk, bel⟩
set_option linter.unusedVariables false in
set_option linter.unusedSimpArgs false in
set_option maxRecDepth 100000 in
set_option maxHeartbeats 16000000 in
theorem due_el {lo gE n c i : Nat} {now : Int} {l : List En} {x : En} (w : World) (hown : w.ownsRow lo 52 14 (.slice (some ⟨gE, 0, none⟩) n c) n (l.flatMap enE)) (hx : l[i]? = some x) (n0 : 0 ≤ now) (n1 : now ≤ 1099511627776) (t0 : 0 ≤ x.t) (t1 : x.t ≤ now) : Calls Try.prog 35 #[.pointer (some ⟨gE, i * 14, none⟩), .int .i64 now] w fun e w' => e = .returned (.bool (decide (1 ≤ now - x.t))) ∧ w = w' := by
  have own := hown
  clear hown
  have HX := Lib.hid hx
  clear hx
  have en := (owk_sle (by decide) enE_len own).1
  skip
  go_enter Try.func35, Try.ntmps35
  have R9 := Sle.zcell en HX.out 4 _ rfl
  go_wp2_with fail
  clear R9
  go_ret
  exact ⟨rfl, rfl⟩
set_option linter.unusedVariables false in
set_option linter.unusedSimpArgs false in
set_option maxRecDepth 100000 in
set_option maxHeartbeats 16000000 in
theorem request_no {lo gE n c i : Nat} {now : Int} {l : List En} {x : En} (w : World) (hown : w.ownsRow lo 52 14 (.slice (some ⟨gE, 0, none⟩) n c) n (l.flatMap enE)) (hx : l[i]? = some x) (n0 : 0 ≤ now) (n1 : now ≤ 1099511627776) (t0 : 0 ≤ x.t) (t1 : x.t ≤ now) (hd : ¬ 1 ≤ now - x.t) : Calls Try.prog 23 #[.pointer (some ⟨gE, i * 14, none⟩), .int .i64 now] w fun e w' => e = .returned (.bool false) ∧ w = w' := by
  have own := hown
  clear hown
  have HX := Lib.hid hx
  clear hx
  have en := (owk_sle (by decide) enE_len own).1
  have HD : Hid (decide (1 ≤ now - x.t) = false) := Lib.hid (decide_eq_false hd)
  clear hd
  skip
  go_enter Try.func23, Try.ntmps23
  go_wp2_with fail
  with_reducible refine (due_el _ own HX.out n0 n1 t0 t1).mono ?_
  rintro e _ ⟨rfl, rfl⟩
  rw [HD.out]
  go_wp2_with fail
  go_ret
  exact ⟨rfl, rfl⟩
set_option linter.unusedVariables false in
set_option linter.unusedSimpArgs false in
set_option maxRecDepth 100000 in
set_option maxHeartbeats 16000000 in
theorem request_yes {lo gE n c i : Nat} {now : Int} {l : List En} {x : En} (w : World) (hown : w.ownsRow lo 52 14 (.slice (some ⟨gE, 0, none⟩) n c) n (l.flatMap enE)) (hx : l[i]? = some x) (hlo : lo ≤ w.heap.size) (n0 : 0 ≤ now) (n1 : now ≤ 1099511627776) (t0 : 0 ≤ x.t) (t1 : x.t ≤ now) (hd : 1 ≤ now - x.t) (r0 : 0 ≤ x.r) (r1 : x.r ≤ 1099511627777) : Calls Try.prog 23 #[.pointer (some ⟨gE, i * 14, none⟩), .int .i64 now] w fun e w' => e = .returned (.bool true) ∧ w'.ownsRow lo 52 14 (.slice (some ⟨gE, 0, none⟩) n c) n ((l.set i { x with r := x.r + 1, t := now }).flatMap enE) ∧ w.grownBy w' (some gE) := by
  have own := hown
  clear hown
  have HX := Lib.hid hx
  clear hx
  have en := (owk_sle (by decide) enE_len own).1
  have HD : Hid (decide (1 ≤ now - x.t) = true) := Lib.hid (decide_eq_true hd)
  clear hd
  have gk := World.grownBy.refl w (some gE)
  have bel := Below.refl lo w
  go_enter Try.func23, Try.ntmps23
  go_wp2_with fail
  with_reducible refine (due_el _ own HX.out n0 n1 t0 t1).mono ?_
  rintro e _ ⟨rfl, rfl⟩
  rw [HD.out]
  have R12 := Sle.zcell en HX.out 12 _ rfl
  go_wp2_with (first | ((with_reducible show wpList _ _ _ (⟨none, Op.store _ (.tmp 15) _, _, _, _, _⟩ :: _) _ _); refine wpList_store_el rfl 3 (.tmp 15) (.tmp 13) rfl gE i 12 x ({ x with r := x.r + 1 }) rfl [.int .i64 (x.r + 1)] rfl (by decide) enE_len own HX.out (Nat.le_of_ble_eq_true rfl) rfl (by kernel_rfl) (by rfl) ?_; intro w1 own_ gw; replace gk := gk.trans gw; replace bel := bel.trans (row_bel gw own (Nat.le_trans hlo bel.size)); clear own; have own := own_; clear own_ gw; replace en := (owk_sle (by decide) enE_len own).1; have HX1 : Hid ((l.set i { x with r := x.r + 1 })[i]? = some { x with r := x.r + 1 }) := Lib.hid (List.getElem?_set_self (List.getElem?_eq_some_iff.1 HX.out).1)) | ((with_reducible show wpList _ _ _ (⟨none, Op.store _ (.tmp 19) _, _, _, _, _⟩ :: _) _ _); refine wpList_store_el rfl 2 (.tmp 19) (.tmp 17) rfl gE i 4 ({ x with r := x.r + 1 }) ({ x with r := x.r + 1, t := now }) rfl [.int .i64 now] rfl (by decide) enE_len own HX1.out (Nat.le_of_ble_eq_true rfl) rfl (by kernel_rfl) (by rfl) ?_; intro w2 own_ gw; replace gk := gk.trans gw; replace bel := bel.trans (row_bel gw own (Nat.le_trans hlo bel.size)); clear own; have own := own_; clear own_ gw; replace en := (owk_sle (by decide) enE_len own).1))
  try clear R12
  go_ret
  exact ⟨rfl, by have h_ := own; rw [List.set_set] at h_; exact h_, gk⟩
set_option linter.unusedVariables false in
set_option linter.unusedSimpArgs false in
set_option maxRecDepth 100000 in
set_option maxHeartbeats 16000000 in
theorem wait_full {Ab : Option Addr} {nb cb : Nat} {lo gE n c i : Nat} {l : List En} {x : En} (w : World) (hown : w.ownsRow lo 52 14 (.slice (some ⟨gE, 0, none⟩) n c) n (l.flatMap enE)) (hx : l[i]? = some x) (hf : 4 ≤ x.wn) : Calls Try.prog 22 #[.pointer (some ⟨gE, i * 14, none⟩), .slice Ab nb cb] w fun e w' => e = .returned (.tuple #[]) ∧ w = w' := by
  have own := hown
  clear hown
  have HX := Lib.hid hx
  clear hx
  have en := (owk_sle (by decide) enE_len own).1
  have hfl : decide ((x.wn : Int) < 4) = false := decide_eq_false (by omega)
  skip
  go_enter Try.func22, Try.ntmps22
  have R7 := Sle.zcell en HX.out 13 _ rfl
  go_wp2_with fail
  clear R7
  exact bodyPost_end (results_none rfl _ _ _) rfl ⟨rfl, rfl⟩
set_option linter.unusedVariables false in
set_option linter.unusedSimpArgs false in
set_option maxRecDepth 100000 in
set_option maxHeartbeats 16000000 in
theorem wait_more {Ab : Option Addr} {nb cb : Nat} {lb : List UInt8} {ps : List (List UInt8)} {lo gE n c i : Nat} {l : List En} {x : En} (w : World) (hown : w.ownsRow lo 52 14 (.slice (some ⟨gE, 0, none⟩) n c) n (l.flatMap enE)) (hx : l[i]? = some x) (hlo : lo ≤ w.heap.size) (hf : x.wn < 4) (hPk : Pk lo w x.wA x.wn x.wc ps) (sb : Sl w Ab nb cb lb) (hnb : nb ≤ 100000) : Calls Try.prog 22 #[.pointer (some ⟨gE, i * 14, none⟩), .slice Ab nb cb] w fun e w' => ∃ A2 c2, e = .returned (.tuple #[]) ∧ w'.ownsRow lo 52 14 (.slice (some ⟨gE, 0, none⟩) n c) n ((l.set i { x with wA := A2, wn := x.wn + 1, wc := c2 }).flatMap enE) ∧ Pk lo w' A2 (x.wn + 1) c2 (ps ++ [lb]) ∧ Kt [52, 42] w w' ∧ Below lo w w' := by
  have own := hown
  clear hown
  have HX := Lib.hid hx
  clear hx
  have en := (owk_sle (by decide) enE_len own).1
  obtain ⟨ii, hii, hz0, hz1, hz2⟩ := info_parts Try.info_u8
  obtain ⟨is, his, his0, his1, his2⟩ := info_parts Try.info_sl
  obtain ⟨hs, hhl, pkw, hpk⟩ := hPk
  have HHL := Lib.hid hhl
  have HPK := Lib.hid hpk
  clear hhl hpk
  have hfl : (x.wn : Int) < 4 := by omega
  have HB1 : Hid (x.wn + 1 ≤ maxLen) := Lib.hid (by unfold maxLen; omega)
  have HB2 : Hid ((x.wn + 1) * 24 ≤ 140737488355328) := Lib.hid (by omega)
  have kt := Kt.refl [52, 42] w
  clear hf
  have bel := Below.refl lo w
  go_enter Try.func22, Try.ntmps22
  have R7 := Sle.zcell en HX.out 13 _ rfl
  go_wp2_with fail
  clear R7
  replace bel := bel.drew
  replace en := en.drew
  replace sb := sb.drew
  replace own := World.ownsRow.drew own
  replace kt := kt_drew kt
  replace pkw := World.ownsRow.drew pkw
  refine wp_region_z 11 (S := fun W => Sle enE 14 W (some ⟨gE, 0, none⟩) (n) (c) (l)) (by kernel_rfl) en (fun hH => ?_)
  generalize w.drew = w1 at bel en sb own kt pkw hH ⊢
  refine wpAnyZ_take (i := 0) (v := ?_) rfl (by kernel_rfl) (by kernel_rfl) (by kernel_rfl) (fun _ _ _ h => h) (Or.inl ⟨by rfl, ?_⟩) hH ?_
  rotate_left
  · ((intro W hW; clear hW; go_simp) <;> with_reducible rfl)
  simp only [Act.put, List.getElem_toArray, List.getElem_cons_zero, List.setIfInBounds_toArray, List.set_cons_zero, List.set_cons_succ]
  refine wpAnyZ_take (i := 1) (v := ?_) rfl (by kernel_rfl) (by kernel_rfl) (by kernel_rfl) (fun _ _ _ h => h) (Or.inl ⟨by rfl, ?_⟩) hH ?_
  rotate_left
  · ((intro W hW; clear hW; go_simp) <;> with_reducible rfl)
  simp only [Act.put, List.getElem_toArray, List.getElem_cons_zero, List.getElem_cons_succ, List.setIfInBounds_toArray, List.set_cons_zero, List.set_cons_succ]
  refine wpAnyZ_take (i := 2) (v := ?_) rfl (by kernel_rfl) (by kernel_rfl) (by kernel_rfl) (fun _ _ _ h => h) (Or.inl ⟨by rfl, ?_⟩) hH ?_
  rotate_left
  · ((intro W hW; clear hW; go_simp) <;> with_reducible rfl)
  simp only [Act.put, List.getElem_toArray, List.getElem_cons_zero, List.getElem_cons_succ, List.setIfInBounds_toArray, List.set_cons_zero, List.set_cons_succ]
  refine wpAnyZ_take (i := 3) (v := ?_) rfl (by kernel_rfl) (by kernel_rfl) (by kernel_rfl) (fun _ _ _ h => h) (Or.inl ⟨by rfl, ?_⟩) hH ?_
  rotate_left
  · ((intro W hW; clear hW; go_simp) <;> with_reducible rfl)
  simp only [Act.put, List.getElem_toArray, List.getElem_cons_zero, List.getElem_cons_succ, List.setIfInBounds_toArray, List.set_cons_zero, List.set_cons_succ]
  refine wpAnyZ_take (i := 4) (v := ?_) rfl (by kernel_rfl) (by kernel_rfl) (by kernel_rfl) (fun _ _ _ h => h) (Or.inl ⟨by rfl, ?_⟩) hH ?_
  rotate_left
  · ((intro W hW; have hk := Sle.zcell (hW) HX.out 13 _ rfl; clear hW; go_simp) <;> with_reducible rfl)
  simp only [Act.put, List.getElem_toArray, List.getElem_cons_zero, List.getElem_cons_succ, List.setIfInBounds_toArray, List.set_cons_zero, List.set_cons_succ]
  refine wpAnyZ_take (i := 5) (v := ?_) rfl (by kernel_rfl) (by kernel_rfl) (by kernel_rfl) (fun _ _ _ h => h) (Or.inl ⟨by rfl, ?_⟩) hH ?_
  rotate_left
  · ((intro W hW; clear hW; go_simp) <;> with_reducible rfl)
  simp only [Act.put, List.getElem_toArray, List.getElem_cons_zero, List.getElem_cons_succ, List.setIfInBounds_toArray, List.set_cons_zero, List.set_cons_succ]
  refine wpAnyZ_ready (rs := [6]) (by kernel_rfl) (by simp) ?_
  refine AllReadyZ.cons (o := _) rfl (fun K hK => ?_) AllReadyZ.nil
  simp only [List.getElem_toArray, List.getElem_cons_zero, List.getElem_cons_succ]
  go_simp
  have HLO_ := Nat.le_trans hlo bel.size
  with_reducible refine (bclone_any _ sb hnb).mono ?_
  rintro e w2 ⟨A1, c1, rfl, pw, b2⟩
  dsimp only
  replace en := en.below b2
  replace sb := sb.below b2
  replace own := owk_under own b2
  replace kt := kt.trans (kt_below b2)
  replace pkw := owk_under pkw b2
  replace bel := bel.trans (b2.mono (Nat.le_trans hlo bel.size))
  clear b2
  replace pw := owk_lo pw HLO_
  clear HLO_
  clear sb
  refine hK.out _ _ en (fun hH3 => ?_)
  clear hK K
  refine wpAnyZ_ready (rs := [7]) (by kernel_rfl) (by simp) ?_
  refine AllReadyZ.cons (o := _) rfl (fun K hK => ?_) AllReadyZ.nil
  simp only [List.getElem_toArray, List.getElem_cons_zero, List.getElem_cons_succ]
  rw [if_pos (by rfl)]
  refine wp_lit_n 27 42 1 _ rfl #[.slice A1 nb c1] (.slice none 0 0) Try.underlying27 (by kernel_rfl) 1 (by kernel_rfl) (by decide) (by kernel_rfl) ?_
  intro g17 w4 ge lt hh bb
  have av_en_b17 := en.av_new ge
  have ob17 := Nat.le_trans (Nat.le_trans hlo bel.size) ge
  have off_b17 := owk_new own ge
  replace en := en.below bb
  replace own := owk_under own bb
  replace kt := kt.trans (kt_below bb)
  replace pkw := owk_under pkw bb
  replace pw := owk_under pw bb
  replace bel := bel.trans (bb.mono (Nat.le_trans hlo bel.size))
  have hb17 := hh
  clear hh lt ge bb
  have lt : Sle hdf 1 w4 (some ⟨g17, 0, none⟩) (1) (1) ([(A1, nb, c1)]) := sle_lit ([(A1, nb, c1)]) (by decide) hdf_len hb17 rfl (by simp [maxLen])
  refine hK.out _ _ en (fun hH5 => ?_)
  clear hK K
  simp only [Act.put, List.setIfInBounds_toArray, List.set_cons_zero, List.set_cons_succ]
  refine wpAnyZ_ready (rs := [8]) (by kernel_rfl) (by simp) ?_
  refine AllReadyZ.cons (o := _) rfl (fun K hK => ?_) AllReadyZ.nil
  simp only [List.getElem_toArray, List.getElem_cons_zero, List.getElem_cons_succ]
  rw [if_pos (by rfl)]
  refine wp_append_sle (.tmp 14) (.tmp 17) 27 rfl lo 42 is (.slice none 0 0) 24 Try.underlying27 his his0 his1 his2 rfl hdf_one _ x.wn hs rfl pkw (some ⟨g17, 0, none⟩) 1 1 [(A1, nb, c1)] rfl lt HB1.out HB2.out (Nat.le_trans hlo bel.size) ?_
  intro v18 w9 own_ bb gw ofw
  have k9 := kt_row (S := [42]) gw pkw (by simp)
  replace own := k9.own own (by decide)
  replace en := (owk_sle (by decide) enE_len own).1
  replace pw := k9.own pw (by decide)
  replace kt := kt.trans (k9.mono (by simp))
  replace bel := bel.trans bb
  clear pkw k9 bb gw ofw lt hb17
  obtain ⟨A18, c18, rfl⟩ := owk_val own_
  have pkw := own_
  clear own_
  refine hK.out _ _ en (fun hH6 => ?_)
  clear hK K
  simp only [Act.put, List.setIfInBounds_toArray, List.set_cons_zero, List.set_cons_succ]
  refine wpAnyZ_take (i := 9) (v := ?_) rfl (by kernel_rfl) (by kernel_rfl) (by kernel_rfl) (fun _ _ _ h => h) (Or.inl ⟨by rfl, ?_⟩) hH6 ?_
  rotate_left
  · ((intro W hW; clear hW; go_simp) <;> with_reducible rfl)
  simp only [Act.put, List.getElem_toArray, List.getElem_cons_zero, List.getElem_cons_succ, List.setIfInBounds_toArray, List.set_cons_zero, List.set_cons_succ]
  refine wpAnyZ_take (i := 10) (v := ?_) rfl (by kernel_rfl) (by kernel_rfl) (by kernel_rfl) (fun _ _ _ h => h) (Or.inl ⟨by rfl, ?_⟩) hH6 ?_
  rotate_left
  · ((intro W hW; clear hW; go_simp) <;> with_reducible rfl)
  simp only [Act.put, List.getElem_toArray, List.getElem_cons_zero, List.getElem_cons_succ, List.setIfInBounds_toArray, List.set_cons_zero, List.set_cons_succ]
  refine wpAnyZ_ready (rs := [11]) (by kernel_rfl) (by simp) ?_
  refine AllReadyZ.last (o := _) rfl (fun K hK => ?_)
  simp only [List.getElem_toArray, List.getElem_cons_zero, List.getElem_cons_succ]
  rw [if_pos (by rfl)]
  refine wp_store_el 27 (.tmp 20) (.tmp 18) rfl gE i 13 x ({ x with wA := A18, wn := x.wn + 1, wc := c18 }) rfl [.slice A18 (x.wn + 1) c18] rfl (by decide) enE_len own HX.out (Nat.le_of_ble_eq_true rfl) rfl (by kernel_rfl) (by rfl) ?_
  intro w7 own_ gw
  replace kt := kt.trans (kt_row gw own (by simp))
  replace pkw := (kt_row gw own (by decide) : Kt [52] _ _).own pkw (by decide)
  replace pw := (kt_row gw own (by decide) : Kt [52] _ _).own pw (by decide)
  replace bel := bel.trans (row_bel gw own (Nat.le_trans hlo bel.size))
  clear own
  have own := own_
  clear own_ gw
  replace en := (owk_sle (by decide) enE_len own).1
  refine hK.out _ _ trivial (fun hH8 => ?_)
  clear hK K
  simp only [Act.put]
  refine wpAnyZ_done (by kernel_rfl) ?_ _
  go_wp2_with fail
  exact bodyPost_end (results_none rfl _ _ _) rfl ⟨A18, c18, rfl, own, Pk.push kt (by decide) HHL.out HPK.out pkw pw, kt, bel⟩
end Go.Proofs.Ytfghmckeogajnaa
