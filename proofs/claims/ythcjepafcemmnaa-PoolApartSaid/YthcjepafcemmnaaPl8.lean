/- All, Tick over the pool's predicate. -/
import Derived.Test.YthcjepafcemmnaaPl7
namespace Go.Proofs.Ythcjepafcemmnaa
open Go.RowKit

theorem Try.info_lease : (Try.prog.info? 34).map (fun i => (i.zero, i.size, i.bytes)) = some (some (.agg #[.int .u8 0, .int .u8 0, .int .u8 0, .int .u8 0, .int .u8 0, .int .u8 0, .int .u8 0, .int .u8 0, .int .u8 0, .int .u8 0, .int .i64 0]), 11, 24) := by kernel_rfl
/-- A row that is new is written into: what was there before stays. -/
theorem Kt.newrow {S : List TypeId} {w0 w w' : World} {B k n : Nat} {T : TypeId} {v : Value} {xs : List Value} (h : Kt S w0 w) (g : w.grownBy w' v.ownBlock) (ho : w.ownsRow B T k v n xs) (hB : w0.heap.size ≤ B) (hs : w0.heap.size ≤ w.heap.size) : Kt S w0 w' := fun i c T' fz hx hT =>
  (g.block i (Nat.lt_of_lt_of_le (hlt hx) hs) (fun e => by have h1 := (ho.lt i e.symm).1; have h2 := hlt hx; omega)).trans (h i c T' fz hx hT)
def tkE (now : Int) (e : Sd) : Sd := if e.overB now = true then { e with rp := true } else e
theorem tickL_eq (now : Int) (l : List Sd) : tickL now l = l.map (tkE now) := rfl
theorem pdrop_head {α : Type} {cur l : List α} {k : Nat} (h : cur.drop k = l.drop k) : cur[k]? = l[k]? := by
  have := congrArg (fun q => q[0]?) h
  simpa using this
theorem pdrop_more {α : Type} {cur l : List α} {k : Nat} (h : cur.drop k = l.drop k) : cur.drop (k + 1) = l.drop (k + 1) := by
  have := congrArg (fun q => q.drop 1) h
  simpa [List.drop_drop, Nat.add_comm] using this
theorem pdrop_set {α : Type} {cur l : List α} {k : Nat} {y : α} (h : cur.drop k = l.drop k) : (cur.set k y).drop (k + 1) = l.drop (k + 1) := by
  rw [List.drop_set, if_pos (by omega)]; exact pdrop_more h
theorem pmap_skip {α : Type} {l cur : List α} {k : Nat} {e : α} {f : α → α} (he : l[k]? = some e) (hx : cur[k]? = some e) (hf : f e = e) (h : cur.take k = (l.take k).map f) : cur.take (k + 1) = (l.take (k + 1)).map f := by
  rw [List.take_add_one, List.take_add_one, hx, he, List.map_append, h]
  simp [hf]
theorem pmap_set {α : Type} {l cur : List α} {k : Nat} {e y : α} {f : α → α} (he : l[k]? = some e) (hx : cur[k]? = some e) (hf : f e = y) (h : cur.take k = (l.take k).map f) : (cur.set k y).take (k + 1) = (l.take (k + 1)).map f := by
  have hk := (List.getElem?_eq_some_iff.1 hx).1
  rw [List.take_add_one, List.take_add_one, he, List.map_append, List.getElem?_set_self hk, List.take_set_of_le (Nat.le_refl _), h]
  simp [hf]
theorem pfil_skip {l : List Sd} {k : Nat} {e : Sd} {p : Sd → Bool} (he : l[k]? = some e) (hp : p e = false) : ((l.take (k + 1)).filter p).map (·.lease) = ((l.take k).filter p).map (·.lease) := by
  rw [List.take_add_one, he, List.filter_append]
  simp [hp]
theorem pfil_keep {l : List Sd} {k : Nat} {e : Sd} {p : Sd → Bool} (he : l[k]? = some e) (hp : p e = true) : ((l.take (k + 1)).filter p).map (·.lease) = ((l.take k).filter p).map (·.lease) ++ [e.lease] := by
  rw [List.take_add_one, he, List.filter_append]
  simp [hp]
set_option linter.unusedVariables false in
set_option linter.unusedSimpArgs false in
set_option maxRecDepth 100000 in
set_option maxHeartbeats 16000000 in
theorem pall_any {lo gt : Nat} {s : St} (t : Int) (w : World) (hT : Pl lo gt w s) : Calls Try.prog 18 #[.pointer (some ⟨gt, 0, none⟩), .int .i64 t] w fun e w' => ∃ A2 n2 c2, e = .returned (.slice A2 n2 c2) ∧ w'.ownsRow w.heap.size 34 11 (.slice A2 n2 c2) n2 ((allO (s.adv t).now s.l).flatMap leE) ∧ Pl lo gt w' (s.adv t) ∧ Kt [58, 66] w w' ∧ Below lo w w' := by
  obtain ⟨now, hs, l⟩ := s
  show Calls Try.prog 18 #[.pointer (some ⟨gt, 0, none⟩), .int .i64 t] w fun e w' => ∃ A2 n2 c2, e = .returned (.slice A2 n2 c2) ∧ w'.ownsRow w.heap.size 34 11 (.slice A2 n2 c2) n2 ((allO (padv now t) l).flatMap leE) ∧ Pl lo gt w' ⟨padv now t, hs, l⟩ ∧ Kt [58, 66] w w' ∧ Below lo w w'
  obtain ⟨A, n, c, mb, htb, otb, hM, own, hok⟩ := hT
  dsimp only at htb hM own
  have hlo : lo ≤ w.heap.size := Nat.le_trans otb (Nat.le_of_lt (hlt htb))
  have off_tb := ofs_type own htb (by decide)
  have hl := row_len (by decide) slE_len own
  have HLL := Lib.hid hl
  have HLO := Lib.hid hlo
  have HOK := Lib.hid hok
  have H32 : Hid (n ≤ 1000) := Lib.hid (by have := hok.len; simp only at this; omega)
  have kt := Kt.refl [58, 66] w
  clear hl hok
  obtain ⟨nw, hnw⟩ : ∃ x, padv now t = x := ⟨_, rfl⟩
  have HNW := Lib.hid hnw
  have HOK2 : Hid (St.ok ⟨nw, hs, l⟩) := Lib.hid (by rw [← hnw]; exact HOK.out.adv t)
  have n0_ : 0 ≤ nw := HOK2.out.n0
  have n1_ : nw ≤ 1099511627776 := HOK2.out.n1
  have N0_ := Lib.hid n0_
  have N1_ := Lib.hid n1_
  clear hnw n0_ n1_
  obtain ⟨il, hil, hil0, hil1, hil2⟩ := info_parts Try.info_lease
  have bel := Below.refl lo w
  go_enter Try.func18, Try.ntmps18
  go_wp2_with fail
  with_reducible refine (padv_any _ _ htb).mono ?_
  rintro e w1 ⟨rfl, htb_, b1⟩
  replace own := owk_off own off_tb b1
  replace kt := kt.trans (kt_grown b1 htb (by simp))
  replace hM := hM.grown b1 htb
  replace bel := below_grown bel b1 otb (Nat.le_trans hlo bel.size)
  clear b1
  clear htb
  rw [HNW.out] at htb_
  have htb := htb_
  clear htb_
  have ask : w1.ownsRow w.heap.size 34 11 (.slice none 0 0) 0 (([] : List Le).flatMap leE) := World.ownsRow_nil _ _ _ _
  have R14 := cell_lit htb 2 _ rfl
  go_wp2_with fail
  clear R14
  go_loopg [16, 5] (n) (fun gk s16 s5 wr => ∃ k : Nat, ∃ Aa : Option Addr, ∃ na : Nat, ∃ ca : Nat, ∃ la : List Le, gk = n - k ∧ k ≤ n ∧ Hid (la = ((l.take k).filter (fun e => e.liveB nw)).map (·.lease)) ∧ na ≤ k ∧ wr.ownsRow lo 66 15 (.slice A n c) n (l.flatMap slE) ∧ Kt [58, 66] w wr ∧ Hm lo mb wr hs ∧ wr.ownsRow w.heap.size 34 11 (.slice Aa na ca) na (la.flatMap leE) ∧ s16 = .int .i64 (k : Int) ∧ s5 = .slice Aa na ca ∧ wr.heap[gt]? = some (.cells #[.int .i64 nw, .map (some mb), .slice A n c] 58 (0, 0)) ∧ Below lo w wr)
  case atStart => exact ⟨0, none, 0, 0, [], Nat.sub_zero _, Nat.zero_le _, Lib.hid rfl, Nat.le_refl _, own, kt, hM, ask, rfl, rfl, htb, bel⟩
  case round =>
    clear own kt hM ask htb bel
    obtain ⟨k, Aa, na, ca, la, HGK, hkn, HLA, hnk, own, kt, hM, ask, rfl, rfl, htb, bel⟩ := hrel
    have HGK_ := Lib.hid HGK
    clear HGK
    by_cases h : k < n
    rotate_left
    · obtain rfl : k = n := by omega
      replace h : decide (k < k) = false := decide_eq_false (by omega)
      go_wp2_with fail
      go_ret
      exact ⟨Aa, na, ca, rfl, (by have h_ := ask; rw [HLA.out, List.take_of_length_le (Nat.le_of_eq HLL.out), ← HNW.out] at h_; exact h_), (by rw [HNW.out]; exact ⟨A, k, c, mb, htb, otb, hM, own, HOK2.out⟩), kt, bel⟩
    obtain ⟨x, hx⟩ : ∃ x, l[k]? = some x := ⟨_, List.getElem?_eq_getElem (by have := HLL.out; omega)⟩
    have HX := Lib.hid hx
    clear hx
    have k0 : (0 : Int) ≤ k := by omega
    have k1 : (k : Int) < n := by omega
    have k2 : (k : Int) ≤ 1000 := by have := H32.out; omega
    obtain ⟨gE, rfl, _⟩ := row_at own (by omega)
    have en := (owk_sle (by decide) slE_len own).1
    have av_en_tb := owk_av own off_tb
    obtain ⟨b1, H1_⟩ : ∃ b, x.liveB nw = b := ⟨_, rfl⟩
    have H1 := Lib.hid H1_
    clear H1_
    rcases b1 with _ | _
    · have R19 := Lib.hid (Sle.zrange0 en HX.out 15 [.int .u8 (x.m.a.toNat : Int), .int .u8 (x.m.b.toNat : Int), .int .u8 (x.m.c.toNat : Int), .int .u8 (x.m.d.toNat : Int), .int .u8 (x.m.e.toNat : Int), .int .u8 (x.m.f.toNat : Int), .int .u8 (x.ad.a.toNat : Int), .int .u8 (x.ad.b.toNat : Int), .int .u8 (x.ad.c.toNat : Int), .int .u8 (x.ad.d.toNat : Int), .int .i64 x.u, .bool x.fx, .bool x.le, .bool x.rp, .int .i64 x.br] rfl)
      go_wp2_with (first | ((with_reducible show wpList _ _ _ (⟨some 19, _, _, _, _, _⟩ :: _) _ _); refine wpList_load_rng 66 (.tmp 18) rfl (by kernel_rfl) _ _ rfl _ R19.out _ Try.underlying66 rfl (by kernel_rfl) ?_) | ((with_reducible show wpList _ _ _ (⟨some 7, _, _, _, _, _⟩ :: _) _ _); refine wpList_new_a rfl 66 rfl #[.int .u8 0, .int .u8 0, .int .u8 0, .int .u8 0, .int .u8 0, .int .u8 0, .int .u8 0, .int .u8 0, .int .u8 0, .int .u8 0, .int .i64 0, .bool false, .bool false, .bool false, .int .i64 0] (by kernel_rfl) ?_; intro g7 w2 ge hh bb; have d_tb_sB := ne_new (hlt htb) ge; have av_en_sB := en.av_new ge; have osB := Nat.le_trans (Nat.le_trans hlo bel.size) ge; have off_sB := owk_new own ge; have pn_sB := Nat.le_trans bel.size ge; replace htb := blk_u htb bb; replace en := en.below bb; replace own := owk_under own bb; replace kt := kt.trans (kt_below bb); replace hM := hM.below bb; replace ask := owk_under ask bb; replace bel := bel.trans (bb.mono (Nat.le_trans hlo bel.size)); have hsB := hh; clear hh ge bb) | ((with_reducible show wpList _ _ _ (⟨none, Op.store _ (.tmp 7) _, _, _, _, _⟩ :: _) _ _); refine wpList_store_blk rfl 66 (.tmp 7) (.tmp 19) rfl g7 rfl _ rfl _ 66 hsB (by rfl) (by kernel_rfl) (by kernel_rfl) ?_; intro w3 hq gr; replace en := en.away av_en_sB gr; replace htb := blk_a htb gr d_tb_sB; replace own := owk_off own off_sB gr; replace kt := kt.newer gr pn_sB bel.size; replace hM := hM.grown gr hsB; replace ask := owk_off ask (ofs_type ask hsB (by decide)) gr; replace bel := below_grown bel gr osB (Nat.le_trans hlo bel.size); clear hsB; have hsB := hq; clear hq gr; have R23 := cell_lit htb 0 _ rfl))
      try clear R19
      try clear R23
      with_reducible refine (live_box (x := x) _ hsB H1.out).mono ?_
      rintro e _ ⟨rfl, rfl⟩
      go_wp2_with fail
      go_roundg (n - (k + 1))
      case measure => have := HGK_.out; omega
      case rel => exact ⟨k + 1, Aa, na, ca, la, rfl, by omega, Lib.hid (by rw [pfil_skip HX.out H1.out]; exact HLA.out), by omega, own, kt, hM, ask, by go_num, by go_num, htb, bel⟩
    have HB1 : Hid (na + 1 ≤ maxLen) := Lib.hid (by have := H32.out; unfold maxLen; omega)
    have HB2 : Hid ((na + 1) * 24 ≤ 140737488355328) := Lib.hid (by have := H32.out; omega)
    have R19 := Lib.hid (Sle.zrange0 en HX.out 15 [.int .u8 (x.m.a.toNat : Int), .int .u8 (x.m.b.toNat : Int), .int .u8 (x.m.c.toNat : Int), .int .u8 (x.m.d.toNat : Int), .int .u8 (x.m.e.toNat : Int), .int .u8 (x.m.f.toNat : Int), .int .u8 (x.ad.a.toNat : Int), .int .u8 (x.ad.b.toNat : Int), .int .u8 (x.ad.c.toNat : Int), .int .u8 (x.ad.d.toNat : Int), .int .i64 x.u, .bool x.fx, .bool x.le, .bool x.rp, .int .i64 x.br] rfl)
    go_wp2_with (first | ((with_reducible show wpList _ _ _ (⟨some 19, _, _, _, _, _⟩ :: _) _ _); refine wpList_load_rng 66 (.tmp 18) rfl (by kernel_rfl) _ _ rfl _ R19.out _ Try.underlying66 rfl (by kernel_rfl) ?_) | ((with_reducible show wpList _ _ _ (⟨some 7, _, _, _, _, _⟩ :: _) _ _); refine wpList_new_a rfl 66 rfl #[.int .u8 0, .int .u8 0, .int .u8 0, .int .u8 0, .int .u8 0, .int .u8 0, .int .u8 0, .int .u8 0, .int .u8 0, .int .u8 0, .int .i64 0, .bool false, .bool false, .bool false, .int .i64 0] (by kernel_rfl) ?_; intro g7 w2 ge hh bb; have d_tb_sB := ne_new (hlt htb) ge; have av_en_sB := en.av_new ge; have osB := Nat.le_trans (Nat.le_trans hlo bel.size) ge; have off_sB := owk_new own ge; have pn_sB := Nat.le_trans bel.size ge; replace htb := blk_u htb bb; replace en := en.below bb; replace own := owk_under own bb; replace kt := kt.trans (kt_below bb); replace hM := hM.below bb; replace ask := owk_under ask bb; replace bel := bel.trans (bb.mono (Nat.le_trans hlo bel.size)); have hsB := hh; clear hh ge bb) | ((with_reducible show wpList _ _ _ (⟨none, Op.store _ (.tmp 7) _, _, _, _, _⟩ :: _) _ _); refine wpList_store_blk rfl 66 (.tmp 7) (.tmp 19) rfl g7 rfl _ rfl _ 66 hsB (by rfl) (by kernel_rfl) (by kernel_rfl) ?_; intro w3 hq gr; replace en := en.away av_en_sB gr; replace htb := blk_a htb gr d_tb_sB; replace own := owk_off own off_sB gr; replace kt := kt.newer gr pn_sB bel.size; replace hM := hM.grown gr hsB; replace ask := owk_off ask (ofs_type ask hsB (by decide)) gr; replace bel := below_grown bel gr osB (Nat.le_trans hlo bel.size); clear hsB; have hsB := hq; clear hq gr; have R23 := cell_lit htb 0 _ rfl))
    try clear R19
    try clear R23
    with_reducible refine (live_box (x := x) _ hsB H1.out).mono ?_
    rintro e _ ⟨rfl, rfl⟩
    have R27 := Lib.hid (range_lit hsB 0 11 [.int .u8 (x.m.a.toNat : Int), .int .u8 (x.m.b.toNat : Int), .int .u8 (x.m.c.toNat : Int), .int .u8 (x.m.d.toNat : Int), .int .u8 (x.m.e.toNat : Int), .int .u8 (x.m.f.toNat : Int), .int .u8 (x.ad.a.toNat : Int), .int .u8 (x.ad.b.toNat : Int), .int .u8 (x.ad.c.toNat : Int), .int .u8 (x.ad.d.toNat : Int), .int .i64 x.u] rfl)
    go_wp2_with (first | ((with_reducible show wpList _ _ _ (⟨some 27, _, _, _, _, _⟩ :: _) _ _); refine wpList_load_rng 34 (.tmp 26) rfl (by kernel_rfl) _ _ rfl _ R27.out _ Try.underlying34 rfl (by kernel_rfl) ?_) | ((with_reducible show wpList _ _ _ (⟨some 28, _, _, _, _, _⟩ :: _) _ _); refine wpList_lit_n rfl 35 34 1 _ rfl #[.int .u8 (x.m.a.toNat : Int), .int .u8 (x.m.b.toNat : Int), .int .u8 (x.m.c.toNat : Int), .int .u8 (x.m.d.toNat : Int), .int .u8 (x.m.e.toNat : Int), .int .u8 (x.m.f.toNat : Int), .int .u8 (x.ad.a.toNat : Int), .int .u8 (x.ad.b.toNat : Int), .int .u8 (x.ad.c.toNat : Int), .int .u8 (x.ad.d.toNat : Int), .int .i64 x.u] (.agg #[.int .u8 0, .int .u8 0, .int .u8 0, .int .u8 0, .int .u8 0, .int .u8 0, .int .u8 0, .int .u8 0, .int .u8 0, .int .u8 0, .int .i64 0]) Try.underlying35 (by kernel_rfl) 11 (by kernel_rfl) (by decide) (by kernel_rfl) ?_; intro g28 w4 ge lt hh bb; have d_tb_b28 := ne_new (hlt htb) ge; have d_sB_b28 := ne_new (hlt hsB) ge; have av_en_b28 := en.av_new ge; have ob28 := Nat.le_trans (Nat.le_trans hlo bel.size) ge; have off_b28 := owk_new own ge; have pn_b28 := Nat.le_trans bel.size ge; replace htb := blk_u htb bb; replace hsB := blk_u hsB bb; replace en := en.below bb; replace own := owk_under own bb; replace kt := kt.trans (kt_below bb); replace hM := hM.below bb; replace ask := owk_under ask bb; replace bel := bel.trans (bb.mono (Nat.le_trans hlo bel.size)); have hb28 := hh; clear hh lt ge bb; have lt : Sle leE 11 w4 (some ⟨g28, 0, none⟩) (1) (1) ([x.lease]) := sle_lit ([x.lease]) (by decide) leE_len hb28 rfl (by simp [maxLen])) | ((with_reducible show wpList _ _ _ (⟨some 29, _, _, _, _, _⟩ :: _) _ _); refine wpList_append_sle rfl (.tmp 25) (.tmp 28) 35 rfl (w.heap.size) 34 il (.agg #[.int .u8 0, .int .u8 0, .int .u8 0, .int .u8 0, .int .u8 0, .int .u8 0, .int .u8 0, .int .u8 0, .int .u8 0, .int .u8 0, .int .i64 0]) 24 Try.underlying35 hil hil0 hil1 hil2 rfl leE_one _ na la rfl ask (some ⟨g28, 0, none⟩) 1 1 [x.lease] rfl lt HB1.out HB2.out bel.size ?_; intro v29 w91 own_ bb gw ofw; have k9 := kt_row (S := [34]) gw ask (by simp); replace own := k9.own own (by decide); replace en := (owk_sle (by decide) slE_len own).1; replace htb := k9.blk htb (by decide); replace hM := hM.row gw ask; replace kt := kt.newrow gw ask (Nat.le_refl _) bel.size; replace bel := bel.trans (bb.mono hlo); clear ask k9 bb gw ofw lt hb28 hsB; obtain ⟨A29, c29, rfl⟩ := owk_val own_; have ask := own_; clear own_))
    try clear R27
    go_roundg (n - (k + 1))
    case measure => have := HGK_.out; omega
    case rel => exact ⟨k + 1, A29, na + 1, c29, la ++ [x.lease], rfl, by omega, Lib.hid (by rw [pfil_keep HX.out H1.out, HLA.out]), by omega, own, kt, hM, ask, by go_num, by go_num, htb, bel⟩
set_option linter.unusedVariables false in
set_option linter.unusedSimpArgs false in
set_option maxRecDepth 100000 in
set_option maxHeartbeats 16000000 in
theorem ptick_any {lo gt : Nat} {s : St} (t : Int) (w : World) (hT : Pl lo gt w s) : Calls Try.prog 16 #[.pointer (some ⟨gt, 0, none⟩), .int .i64 t] w fun e w' => ∃ A2 n2 c2, e = .returned (.slice A2 n2 c2) ∧ w'.ownsRow w.heap.size 34 11 (.slice A2 n2 c2) n2 ((tickO (s.adv t).now s.l).flatMap leE) ∧ Pl lo gt w' { s.adv t with l := tickL (s.adv t).now s.l } ∧ Kt [58, 66] w w' ∧ Below lo w w' := by
  obtain ⟨now, hs, l⟩ := s
  show Calls Try.prog 16 #[.pointer (some ⟨gt, 0, none⟩), .int .i64 t] w fun e w' => ∃ A2 n2 c2, e = .returned (.slice A2 n2 c2) ∧ w'.ownsRow w.heap.size 34 11 (.slice A2 n2 c2) n2 ((tickO (padv now t) l).flatMap leE) ∧ Pl lo gt w' ⟨padv now t, hs, tickL (padv now t) l⟩ ∧ Kt [58, 66] w w' ∧ Below lo w w'
  obtain ⟨A, n, c, mb, htb, otb, hM, own, hok⟩ := hT
  dsimp only at htb hM own
  have hlo : lo ≤ w.heap.size := Nat.le_trans otb (Nat.le_of_lt (hlt htb))
  have off_tb := ofs_type own htb (by decide)
  have hl := row_len (by decide) slE_len own
  have HLL := Lib.hid hl
  have HLO := Lib.hid hlo
  have HOK := Lib.hid hok
  have H32 : Hid (n ≤ 1000) := Lib.hid (by have := hok.len; simp only at this; omega)
  have kt := Kt.refl [58, 66] w
  clear hl hok
  obtain ⟨nw, hnw⟩ : ∃ x, padv now t = x := ⟨_, rfl⟩
  have HNW := Lib.hid hnw
  have HOK2 : Hid (St.ok ⟨nw, hs, l⟩) := Lib.hid (by rw [← hnw]; exact HOK.out.adv t)
  have n0_ : 0 ≤ nw := HOK2.out.n0
  have n1_ : nw ≤ 1099511627776 := HOK2.out.n1
  have N0_ := Lib.hid n0_
  have N1_ := Lib.hid n1_
  clear hnw n0_ n1_
  obtain ⟨il, hil, hil0, hil1, hil2⟩ := info_parts Try.info_lease
  have HOK3 : Hid (St.ok ⟨nw, hs, tickL nw l⟩) := Lib.hid (by rw [← HNW.out]; exact tickS_ok HOK.out t)
  have bel := Below.refl lo w
  go_enter Try.func16, Try.ntmps16
  go_wp2_with fail
  with_reducible refine (padv_any _ _ htb).mono ?_
  rintro e w1 ⟨rfl, htb_, b1⟩
  replace own := owk_off own off_tb b1
  replace kt := kt.trans (kt_grown b1 htb (by simp))
  replace hM := hM.grown b1 htb
  replace bel := below_grown bel b1 otb (Nat.le_trans hlo bel.size)
  clear b1
  clear htb
  rw [HNW.out] at htb_
  have htb := htb_
  clear htb_
  have ask : w1.ownsRow w.heap.size 34 11 (.slice none 0 0) 0 (([] : List Le).flatMap leE) := World.ownsRow_nil _ _ _ _
  have R14 := cell_lit htb 2 _ rfl
  go_wp2_with fail
  clear R14
  go_loopg [16, 5] (n) (fun gk s16 s5 wr => ∃ k : Nat, ∃ cur : List Sd, ∃ Aa : Option Addr, ∃ na : Nat, ∃ ca : Nat, ∃ la : List Le, gk = n - k ∧ k ≤ n ∧ Hid (cur.length = n) ∧ Hid (cur.take k = (l.take k).map (tkE nw)) ∧ Hid (cur.drop k = l.drop k) ∧ Hid (la = ((l.take k).filter (fun e => e.overB nw)).map (·.lease)) ∧ na ≤ k ∧ wr.ownsRow lo 66 15 (.slice A n c) n (cur.flatMap slE) ∧ Kt [58, 66] w wr ∧ Hm lo mb wr hs ∧ wr.ownsRow w.heap.size 34 11 (.slice Aa na ca) na (la.flatMap leE) ∧ s16 = .int .i64 (k : Int) ∧ s5 = .slice Aa na ca ∧ wr.heap[gt]? = some (.cells #[.int .i64 nw, .map (some mb), .slice A n c] 58 (0, 0)) ∧ Below lo w wr)
  case atStart => exact ⟨0, l, none, 0, 0, [], Nat.sub_zero _, Nat.zero_le _, HLL, Lib.hid rfl, Lib.hid rfl, Lib.hid rfl, Nat.le_refl _, own, kt, hM, ask, rfl, rfl, htb, bel⟩
  case round =>
    clear own kt hM ask htb bel
    obtain ⟨k, cur, Aa, na, ca, la, HGK, hkn, HCL, HCT, HCD, HLA, hnk, own, kt, hM, ask, rfl, rfl, htb, bel⟩ := hrel
    have HGK_ := Lib.hid HGK
    clear HGK
    by_cases h : k < n
    rotate_left
    · obtain rfl : k = n := by omega
      replace h : decide (k < k) = false := decide_eq_false (by omega)
      have HCT_ : Hid (cur = tickL nw l) := Lib.hid (by have h1 := HCT.out; rw [List.take_of_length_le (Nat.le_of_eq HCL.out), List.take_of_length_le (Nat.le_of_eq HLL.out)] at h1; exact h1)
      go_wp2_with fail
      go_ret
      exact ⟨Aa, na, ca, rfl, (by have h_ := ask; rw [HLA.out, List.take_of_length_le (Nat.le_of_eq HLL.out), ← HNW.out] at h_; exact h_), (by rw [HNW.out]; exact ⟨A, k, c, mb, htb, otb, hM, (by rw [← HCT_.out]; exact own), HOK3.out⟩), kt, bel⟩
    have HX0 := pdrop_head HCD.out
    obtain ⟨x, hx⟩ : ∃ x, l[k]? = some x := ⟨_, List.getElem?_eq_getElem (by have := HLL.out; omega)⟩
    have HXL := Lib.hid hx
    have HX : Hid (cur[k]? = some x) := Lib.hid (HX0.trans hx)
    clear HX0 hx
    have k0 : (0 : Int) ≤ k := by omega
    have k1 : (k : Int) < n := by omega
    have k2 : (k : Int) ≤ 1000 := by have := H32.out; omega
    obtain ⟨gE, rfl, _⟩ := row_at own (by omega)
    have en := (owk_sle (by decide) slE_len own).1
    have av_en_tb := owk_av own off_tb
    obtain ⟨xm, xa, xu, xf, xl, xr, xb⟩ := x
    rcases xl with _ | _
    · have HOV : Hid (Sd.overB nw ⟨xm, xa, xu, xf, false, xr, xb⟩ = false) := Lib.hid (rfl)
      have HUF : Hid (tkE nw ⟨xm, xa, xu, xf, false, xr, xb⟩ = ⟨xm, xa, xu, xf, false, xr, xb⟩) := Lib.hid (by unfold tkE; rw [HOV.out]; rfl)
      have R22 := cell_lit htb 2 _ rfl
      have R28 := Sle.zcell en HX.out 12 _ rfl
      go_wp2_with fail
      clear R22 R28
      go_roundg (n - (k + 1))
      case measure => have := HGK_.out; omega
      case rel => exact ⟨k + 1, cur, Aa, na, ca, la, rfl, by omega, HCL, Lib.hid (pmap_skip HXL.out HX.out HUF.out HCT.out), Lib.hid (pdrop_more HCD.out), Lib.hid (by rw [pfil_skip HXL.out HOV.out]; exact HLA.out), by omega, own, kt, hM, ask, by go_num, by go_num, htb, bel⟩
    rcases xr with _ | _
    rotate_left
    · have HOV : Hid (Sd.overB nw ⟨xm, xa, xu, xf, true, true, xb⟩ = false) := Lib.hid (rfl)
      have HUF : Hid (tkE nw ⟨xm, xa, xu, xf, true, true, xb⟩ = ⟨xm, xa, xu, xf, true, true, xb⟩) := Lib.hid (by unfold tkE; rw [HOV.out]; rfl)
      have R22 := cell_lit htb 2 _ rfl
      have R28 := Sle.zcell en HX.out 12 _ rfl
      have R33 := Sle.zcell en HX.out 13 _ rfl
      go_wp2_with fail
      clear R22 R28 R33
      go_roundg (n - (k + 1))
      case measure => have := HGK_.out; omega
      case rel => exact ⟨k + 1, cur, Aa, na, ca, la, rfl, by omega, HCL, Lib.hid (pmap_skip HXL.out HX.out HUF.out HCT.out), Lib.hid (pdrop_more HCD.out), Lib.hid (by rw [pfil_skip HXL.out HOV.out]; exact HLA.out), by omega, own, kt, hM, ask, by go_num, by go_num, htb, bel⟩
    obtain ⟨b1, H1_⟩ : ∃ b, Sd.liveB nw ⟨xm, xa, xu, xf, true, false, xb⟩ = b := ⟨_, rfl⟩
    have H1 := Lib.hid H1_
    clear H1_
    rcases b1 with _ | _
    rotate_left
    · have HOV : Hid (Sd.overB nw ⟨xm, xa, xu, xf, true, false, xb⟩ = false) := Lib.hid (by unfold Sd.overB; rw [H1.out]; rfl)
      have HUF : Hid (tkE nw ⟨xm, xa, xu, xf, true, false, xb⟩ = ⟨xm, xa, xu, xf, true, false, xb⟩) := Lib.hid (by unfold tkE; rw [HOV.out]; rfl)
      have R22 := cell_lit htb 2 _ rfl
      have R28 := Sle.zcell en HX.out 12 _ rfl
      have R33 := Sle.zcell en HX.out 13 _ rfl
      have R41 := cell_lit htb 0 _ rfl
      go_wp2_with fail
      clear R22 R28 R33 R41
      with_reducible refine (live_el _ en HX.out H1.out).mono ?_
      rintro e _ ⟨rfl, rfl⟩
      go_wp2_with fail
      go_roundg (n - (k + 1))
      case measure => have := HGK_.out; omega
      case rel => exact ⟨k + 1, cur, Aa, na, ca, la, rfl, by omega, HCL, Lib.hid (pmap_skip HXL.out HX.out HUF.out HCT.out), Lib.hid (pdrop_more HCD.out), Lib.hid (by rw [pfil_skip HXL.out HOV.out]; exact HLA.out), by omega, own, kt, hM, ask, by go_num, by go_num, htb, bel⟩
    have HOV : Hid (Sd.overB nw ⟨xm, xa, xu, xf, true, false, xb⟩ = true) := Lib.hid (by unfold Sd.overB; rw [H1.out]; rfl)
    have HUF : Hid (tkE nw ⟨xm, xa, xu, xf, true, false, xb⟩ = ⟨xm, xa, xu, xf, true, true, xb⟩) := Lib.hid (by unfold tkE; rw [HOV.out]; rfl)
    have HB1 : Hid (na + 1 ≤ maxLen) := Lib.hid (by have := H32.out; unfold maxLen; omega)
    have HB2 : Hid ((na + 1) * 24 ≤ 140737488355328) := Lib.hid (by have := H32.out; omega)
    have R22 := cell_lit htb 2 _ rfl
    have R28 := Sle.zcell en HX.out 12 _ rfl
    have R33 := Sle.zcell en HX.out 13 _ rfl
    have R41 := cell_lit htb 0 _ rfl
    go_wp2_with fail
    clear R22 R28 R33 R41
    with_reducible refine (live_el _ en HX.out H1.out).mono ?_
    rintro e _ ⟨rfl, rfl⟩
    go_wp2_with (first | ((with_reducible show wpList _ _ _ (⟨none, Op.store _ (.tmp 47) _, _, _, _, _⟩ :: _) _ _); refine wpList_store_el rfl 4 (.tmp 47) (.const (.bool true)) rfl gE k 13 (⟨xm, xa, xu, xf, true, false, xb⟩) (⟨xm, xa, xu, xf, true, true, xb⟩) rfl [.bool true] rfl (by decide) slE_len own HX.out (Nat.le_of_ble_eq_true rfl) rfl (by kernel_rfl) (by rfl) ?_; intro w2 own_ gw; replace bel := bel.trans (row_bel gw own (Nat.le_trans hlo bel.size)); replace htb := blk_own (v := .slice (some ⟨gE, 0, none⟩) n c) htb gw off_tb; replace kt := kt.trans (kt_row gw own (by simp)); replace hM := hM.row gw own; replace ask := (kt_row gw own (by decide) : Kt [66] _ _).own ask (by decide); clear own; have own := own_; clear own_ gw; replace en := (owk_sle (by decide) slE_len own).1; have HXY : Hid ((cur.set k ⟨xm, xa, xu, xf, true, true, xb⟩)[k]? = some ⟨xm, xa, xu, xf, true, true, xb⟩) := Lib.hid (List.getElem?_set_self (List.getElem?_eq_some_iff.1 HX.out).1); have R52 := Lib.hid (Sle.zrange0 en HXY.out 11 [.int .u8 (xm.a.toNat : Int), .int .u8 (xm.b.toNat : Int), .int .u8 (xm.c.toNat : Int), .int .u8 (xm.d.toNat : Int), .int .u8 (xm.e.toNat : Int), .int .u8 (xm.f.toNat : Int), .int .u8 (xa.a.toNat : Int), .int .u8 (xa.b.toNat : Int), .int .u8 (xa.c.toNat : Int), .int .u8 (xa.d.toNat : Int), .int .i64 xu] rfl)) | ((with_reducible show wpList _ _ _ (⟨some 52, _, _, _, _, _⟩ :: _) _ _); refine wpList_load_rng 34 (.tmp 51) rfl (by kernel_rfl) _ _ rfl _ R52.out _ Try.underlying34 rfl (by kernel_rfl) ?_) | ((with_reducible show wpList _ _ _ (⟨some 53, _, _, _, _, _⟩ :: _) _ _); refine wpList_lit_n rfl 35 34 1 _ rfl #[.int .u8 (xm.a.toNat : Int), .int .u8 (xm.b.toNat : Int), .int .u8 (xm.c.toNat : Int), .int .u8 (xm.d.toNat : Int), .int .u8 (xm.e.toNat : Int), .int .u8 (xm.f.toNat : Int), .int .u8 (xa.a.toNat : Int), .int .u8 (xa.b.toNat : Int), .int .u8 (xa.c.toNat : Int), .int .u8 (xa.d.toNat : Int), .int .i64 xu] (.agg #[.int .u8 0, .int .u8 0, .int .u8 0, .int .u8 0, .int .u8 0, .int .u8 0, .int .u8 0, .int .u8 0, .int .u8 0, .int .u8 0, .int .i64 0]) Try.underlying35 (by kernel_rfl) 11 (by kernel_rfl) (by decide) (by kernel_rfl) ?_; intro g53 w3 ge lt hh bb; have d_tb_b53 := ne_new (hlt htb) ge; have av_en_b53 := en.av_new ge; have ob53 := Nat.le_trans (Nat.le_trans hlo bel.size) ge; have off_b53 := owk_new own ge; have pn_b53 := Nat.le_trans bel.size ge; replace htb := blk_u htb bb; replace en := en.below bb; replace own := owk_under own bb; replace kt := kt.trans (kt_below bb); replace hM := hM.below bb; replace ask := owk_under ask bb; replace bel := bel.trans (bb.mono (Nat.le_trans hlo bel.size)); have hb53 := hh; clear hh lt ge bb; have lt : Sle leE 11 w3 (some ⟨g53, 0, none⟩) (1) (1) ([(⟨xm, xa, xu⟩ : Le)]) := sle_lit ([(⟨xm, xa, xu⟩ : Le)]) (by decide) leE_len hb53 rfl (by simp [maxLen])) | ((with_reducible show wpList _ _ _ (⟨some 54, _, _, _, _, _⟩ :: _) _ _); refine wpList_append_sle rfl (.tmp 48) (.tmp 53) 35 rfl (w.heap.size) 34 il (.agg #[.int .u8 0, .int .u8 0, .int .u8 0, .int .u8 0, .int .u8 0, .int .u8 0, .int .u8 0, .int .u8 0, .int .u8 0, .int .u8 0, .int .i64 0]) 24 Try.underlying35 hil hil0 hil1 hil2 rfl leE_one _ na la rfl ask (some ⟨g53, 0, none⟩) 1 1 [(⟨xm, xa, xu⟩ : Le)] rfl lt HB1.out HB2.out bel.size ?_; intro v54 w91 own_ bb gw ofw; have k9 := kt_row (S := [34]) gw ask (by simp); replace own := k9.own own (by decide); replace en := (owk_sle (by decide) slE_len own).1; replace htb := k9.blk htb (by decide); replace hM := hM.row gw ask; replace kt := kt.newrow gw ask (Nat.le_refl _) bel.size; replace bel := bel.trans (bb.mono hlo); clear ask k9 bb gw ofw lt hb53; obtain ⟨A54, c54, rfl⟩ := owk_val own_; have ask := own_; clear own_))
    try clear R52
    go_roundg (n - (k + 1))
    case measure => have := HGK_.out; omega
    case rel => exact ⟨k + 1, cur.set k ⟨xm, xa, xu, xf, true, true, xb⟩, A54, na + 1, c54, la ++ [(⟨xm, xa, xu⟩ : Le)], rfl, by omega, Lib.hid (by rw [List.length_set]; exact HCL.out), Lib.hid (pmap_set HXL.out HX.out HUF.out HCT.out), Lib.hid (pdrop_set HCD.out), Lib.hid (by rw [pfil_keep HXL.out HOV.out, HLA.out]; rfl), by omega, own, kt, hM, ask, by go_num, by go_num, htb, bel⟩
end Go.Proofs.Ythcjepafcemmnaa
