/- dhcp's writeHead, Put. -/
import Derived.Test.YtmljgpefbbifmaaDh1
import Derived.Test.YtmljgpefbbifmaaWalkw
import Derived.Test.YtmljgpefbbifmaaLaw12c
namespace Go.Proofs.Ytmljgpefbbifmaa
open Go.RowKit

/-- append of noughts onto a row of the call's own: nothing below the row's bound changes. -/
theorem wpList_append_zb {P : Program} {w : World} {ops : Array Oper} {rest : List Oper} {o : Oper} {a : Act} {Q : Exit → Act → World → Prop} (hgd : o.guard = none) (s x : Operand) (t tn : TypeId)
    (ho : o.op = .call { callee := .builtin .append, args := #[s, x], argTypes := #[t, tn] })
    (base : Nat) (e : TypeId) (i : TypeInfo) (kn : IntKind) (ht : P.underlying t = some (.slice e)) (htn : P.underlying tn = some (.int kn)) (hi : P.info? e = some i) (hz : i.zero = some (.int .u8 0))
    (hsize : i.size = 1) (hby : i.bytes = 1)
    (v : Value) (n : Nat) (l : List UInt8) (hs : a.eval s = v) (hown : w.ownsRow base e 1 v n (l.map u8v))
    (k : Nat) (hx : a.eval x = .int .i64 k)
    (h63 : n + k ≤ 140737488355328) (hbase : base ≤ w.heap.size)
    (h : ∀ v' w', w'.ownsRow base e 1 v' (n + k) ((l ++ List.replicate k 0).map u8v) → Below base w w' → wpList P ops Q rest (a.put o.dst v') w') :
    wpList P ops Q (o :: rest) a w :=
  wpList_append_zeros_if w (by simp [Region.wanted, hgd]) s x t tn ho base e i kn ht htn hi hz hsize hby v n l hs hown k hx h63 hbase
    (fun v' w' h1 h2 _ => h v' w' h1 ((Below.refl base w).grown h2 hbase (fun k hk => (hown.lt k hk).1)))
/-- max of two numbers. -/
theorem wpList_max {P : Program} {w : World} {ops : Array Oper} {rest : List Oper} {o : Oper} {a : Act} {Q : Exit → Act → World → Prop} (hgd : o.guard = none) (s x : Operand) (t tn : TypeId)
    (ho : o.op = .call { callee := .builtin .max, args := #[s, x], argTypes := #[t, tn] }) (k : IntKind) (i j m : Int) (hs : a.eval s = .int k i) (hx : a.eval x = .int k j) (hm : (if j > i then j else i) = m)
    (h : wpList P ops Q rest (a.put o.dst (.int k m)) w) : wpList P ops Q (o :: rest) a w := by
  subst hm
  refine wpList_wanted (by simp [Region.wanted, hgd]) fun K hK => ?_
  have hr : (Builtin.max_ #[t, tn] o.type #[.int k i, .int k j]).run P w = .ok (.int k (if j > i then j else i)) w := by
    simp [Builtin.max_, Builtin.max2]
  unfold Oper.wp execOp
  simp only [ho, resolve, invoke, builtin, Sem.run_bind, Sem.run_pure, Result.andThen_ok, List.map_toArray, List.map_cons, List.map_nil, hs, hx, hr]
  exact hK _ _ h
theorem w16_o (A : Option Addr) (n c : Nat) (l : List UInt8) (v0 : Int) (w : World) (hl : Sl w A n c l) (hs : n + 2 ≤ 140737488355328) :
    Calls Try.prog 46 #[.slice A n c, .int .i64 v0] w fun e w' => ∃ v, e = .returned v ∧ w'.ownsRow w.heap.size 5 1 v (n + 2) ((l ++ two v0).map u8v) ∧ Below w.heap.size w w' := by
  have hm := made2 v0 w
  have bel := (Below.refl w.heap.size w).alloc (Nat.le_refl _) (.cells #[.int .u8 (v0 / 256 % 256), .int .u8 (v0 % 256)] 5)
  have hl1 := hl.below bel
  go_enter Try.func46, Try.ntmps46
  go_wp2_with (go_at_call 39; refine (join_o A _ n c 2 2 l (two v0) _ hl1 hm hs).mono ?_; rintro e w1 ⟨v, rfl, hown, bel1⟩)
  go_ret
  exact ⟨v, rfl, ⟨hown.1, by rcases hown.2 with h | ⟨g, cap, cur, e, hb, h⟩; exact .inl h; exact .inr ⟨g, cap, cur, e, Nat.le_trans bel.size hb, h⟩⟩, bel.trans (bel1.mono bel.size)⟩

theorem w16_oto (A : Option Addr) (n m c : Nat) (l : List UInt8) (v0 : Int) (w : World) (hm : n + 2 = m) (hl : Sl w A n c l) (hs : n + 2 ≤ 140737488355328) :
    Calls Try.prog 46 #[.slice A n c, .int .i64 v0] w fun e w' => ∃ v, e = .returned v ∧ w'.ownsRow w.heap.size 5 1 v m ((l ++ two v0).map u8v) ∧ Below w.heap.size w w' := by
  subst hm; exact w16_o A n c l v0 w hl hs
theorem w32_o (A : Option Addr) (n c : Nat) (l : List UInt8) (v0 : Int) (w : World) (h0 : 0 ≤ v0) (h1 : v0 < 4294967296) (hl : Sl w A n c l) (hs : n + 4 ≤ 140737488355328) :
    Calls Try.prog 45 #[.slice A n c, .int .u32 v0] w fun e w' => ∃ v, e = .returned v ∧ w'.ownsRow w.heap.size 5 1 v (n + 4) ((l ++ four v0).map u8v) ∧ Below w.heap.size w w' := by
  have hm := made4 v0 w h0 h1
  have bel := (Below.refl w.heap.size w).alloc (Nat.le_refl _) (.cells #[.int .u8 (v0 / 16777216), .int .u8 (v0 / 65536 % 256), .int .u8 (v0 / 256 % 256), .int .u8 (v0 % 256)] 5)
  have hl1 := hl.below bel
  go_enter Try.func45, Try.ntmps45
  go_wp2_with (go_at_call 39; refine (join_o A _ n c 4 4 l (four v0) _ hl1 hm hs).mono ?_; rintro e w1 ⟨v, rfl, hown, bel1⟩)
  go_ret
  exact ⟨v, rfl, ownsRow_mono hown bel.size, bel.trans (bel1.mono bel.size)⟩
theorem w32_oto (A : Option Addr) (n m c : Nat) (l : List UInt8) (v0 : Int) (w : World) (h0 : 0 ≤ v0) (h1 : v0 < 4294967296) (hm : n + 4 = m) (hl : Sl w A n c l) (hs : n + 4 ≤ 140737488355328) :
    Calls Try.prog 45 #[.slice A n c, .int .u32 v0] w fun e w' => ∃ v, e = .returned v ∧ w'.ownsRow w.heap.size 5 1 v m ((l ++ four v0).map u8v) ∧ Below w.heap.size w w' := by
  subst hm; exact w32_o A n c l v0 w h0 h1 hl hs
theorem own_out {h : Mh} {w : World} {B : Nat} {v : Value} (o : w.ownsRow B 5 1 v 240 (([byteOf h.op, 1, 6, byteOf h.hops] ++ four h.xid ++ two h.secs ++ two h.flags ++ [h.c0, h.c1, h.c2, h.c3] ++ [h.y0, h.y1, h.y2, h.y3] ++ [h.s0, h.s1, h.s2, h.s3] ++ [h.r0, h.r1, h.r2, h.r3] ++ [h.m0, h.m1, h.m2, h.m3, h.m4, h.m5] ++ List.replicate 202 0 ++ four 1669485411 : List UInt8).map u8v)) : w.ownsRow B 5 1 v 240 ((headB h).map u8v) := o
set_option linter.unusedVariables false in
set_option linter.unusedSimpArgs false in
set_option maxRecDepth 100000 in
set_option maxHeartbeats 16000000 in
theorem dwhead_any (h : Mh) (A : Option Addr) (n c : Nat) (w : World) (h0 : 0 ≤ h.xid) (h1 : h.xid < 4294967296) : Calls Try.prog 22 #[.agg #[.int .i64 h.op, .int .i64 h.hops, .int .u32 h.xid, .int .i64 h.secs, .int .i64 h.flags, .int .u8 (h.c0.toNat : Int), .int .u8 (h.c1.toNat : Int), .int .u8 (h.c2.toNat : Int), .int .u8 (h.c3.toNat : Int), .int .u8 (h.y0.toNat : Int), .int .u8 (h.y1.toNat : Int), .int .u8 (h.y2.toNat : Int), .int .u8 (h.y3.toNat : Int), .int .u8 (h.s0.toNat : Int), .int .u8 (h.s1.toNat : Int), .int .u8 (h.s2.toNat : Int), .int .u8 (h.s3.toNat : Int), .int .u8 (h.r0.toNat : Int), .int .u8 (h.r1.toNat : Int), .int .u8 (h.r2.toNat : Int), .int .u8 (h.r3.toNat : Int), .int .u8 (h.m0.toNat : Int), .int .u8 (h.m1.toNat : Int), .int .u8 (h.m2.toNat : Int), .int .u8 (h.m3.toNat : Int), .int .u8 (h.m4.toNat : Int), .int .u8 (h.m5.toNat : Int), .slice A n c]] w fun e w' => ∃ v, e = .returned v ∧ w'.ownsRow w.heap.size 5 1 v 240 ((headB h).map u8v) ∧ Below w.heap.size w w' := by
  obtain ⟨ii, hii, hz0, hz1, hz2⟩ := info_parts Try.info_u8
  have bel := Below.refl w.heap.size w
  go_enter Try.func22, Try.ntmps22
  go_wp2_with (first | ((with_reducible show wpList _ _ _ (⟨some 1, _, _, _, _, _⟩ :: _) _ _); refine wpList_box_n rfl 30 (.tmp 0) rfl #[.int .i64 h.op, .int .i64 h.hops, .int .u32 h.xid, .int .i64 h.secs, .int .i64 h.flags, .int .u8 (h.c0.toNat : Int), .int .u8 (h.c1.toNat : Int), .int .u8 (h.c2.toNat : Int), .int .u8 (h.c3.toNat : Int), .int .u8 (h.y0.toNat : Int), .int .u8 (h.y1.toNat : Int), .int .u8 (h.y2.toNat : Int), .int .u8 (h.y3.toNat : Int), .int .u8 (h.s0.toNat : Int), .int .u8 (h.s1.toNat : Int), .int .u8 (h.s2.toNat : Int), .int .u8 (h.s3.toNat : Int), .int .u8 (h.r0.toNat : Int), .int .u8 (h.r1.toNat : Int), .int .u8 (h.r2.toNat : Int), .int .u8 (h.r3.toNat : Int), .int .u8 (h.m0.toNat : Int), .int .u8 (h.m1.toNat : Int), .int .u8 (h.m2.toNat : Int), .int .u8 (h.m3.toNat : Int), .int .u8 (h.m4.toNat : Int), .int .u8 (h.m5.toNat : Int), .slice A n c] rfl ?_; intro g1 w1 ge lt hh bb; have op := Nat.le_trans bel.size ge; replace bel := bel.trans (bb.mono bel.size); have hp := hh; clear hh lt ge bb; have R7 := cell_lit hp 0 _ rfl; have R10 := cell_lit hp 1 _ rfl) | ((with_reducible show wpList _ _ _ (⟨some 12, _, _, _, _, _⟩ :: _) _ _); refine wpList_lit_n rfl 34 5 4 _ rfl #[.int .u8 (h.op % 256), .int .u8 1, .int .u8 6, .int .u8 (h.hops % 256)] (.int .u8 0) Try.underlying34 (by kernel_rfl) 1 (by kernel_rfl) (by decide) (by kernel_rfl) ?_; intro g12 w2 ge lt hh bb; have hl : w2.heap[g12]? = some (.cells (([byteOf h.op, 1, 6, byteOf h.hops] : List UInt8).map u8v).toArray 5 (0, 0)) := (by simpa [u8v, byteOf_val] using hh); have s0w := own_lit (B := w1.heap.size) ([byteOf h.op, 1, 6, byteOf h.hops]) hl ge 4 rfl (by simp [maxLen]); have s0 := (own_sl s0w).1; have s0lo := bel.size; clear hl; have s0ge := ge; have lz_s0 := bb.size; have y_s0_p := Lib.hid (hlt hp); have d_p_b12 := ne_new (hlt hp) ge; have ob12 := Nat.le_trans bel.size ge; replace hp := blk_u hp bb; replace bel := bel.trans (bb.mono bel.size); have hb12 := hh; clear hh lt ge bb; have av_s0_p := (own_sl s0w).2.av y_s0_p.out; have R15 := cell_lit hp 2 _ rfl))
  try clear R7
  try clear R10
  try clear R15
  with_reducible refine (w32_oto _ 4 8 _ _ _ _ h0 h1 rfl s0 (by omega)).mono ?_
  rintro e w3 ⟨vsa, rfl, saw, b3⟩
  have y_sa_p := Lib.hid (hlt hp)
  have y_sa_b12 := Lib.hid (hlt hb12)
  have bl_s0_sa := s0.bl_new
  have salo := bel.size
  have lz_sa := b3.size
  replace hp := blk_u hp b3
  replace hb12 := blk_u hb12 b3
  replace s0 := s0.below b3
  replace s0w := own_under s0w b3
  replace lz_s0 := Nat.le_trans lz_s0 b3.size
  replace bel := bel.trans (b3.mono bel.size)
  clear b3
  obtain ⟨Asa, csa, rfl⟩ := own_val saw
  have sa := (own_sl saw).1
  have fr_sa := (own_sl saw).2
  have av_sa_p := fr_sa.av y_sa_p.out
  have av_sa_b12 := fr_sa.av y_sa_b12.out
  have R19 := cell_lit hp 3 _ rfl
  go_wp2_with fail
  clear R19
  with_reducible refine (w16_oto _ 8 10 _ _ _ _ rfl sa (by omega)).mono ?_
  rintro e w4 ⟨vsb, rfl, sbw, b4⟩
  have y_sb_p := Lib.hid (hlt hp)
  have y_sb_b12 := Lib.hid (hlt hb12)
  have bl_s0_sb := s0.bl_new
  have bl_sa_sb := sa.bl_new
  have sblo := bel.size
  have lz_sb := b4.size
  replace hp := blk_u hp b4
  replace hb12 := blk_u hb12 b4
  replace s0 := s0.below b4
  replace s0w := own_under s0w b4
  replace sa := sa.below b4
  replace saw := own_under saw b4
  replace lz_s0 := Nat.le_trans lz_s0 b4.size
  replace lz_sa := Nat.le_trans lz_sa b4.size
  replace bel := bel.trans (b4.mono bel.size)
  clear b4
  obtain ⟨Asb, csb, rfl⟩ := own_val sbw
  have sb := (own_sl sbw).1
  have fr_sb := (own_sl sbw).2
  have av_sb_p := fr_sb.av y_sb_p.out
  have av_sb_b12 := fr_sb.av y_sb_b12.out
  have R23 := cell_lit hp 4 _ rfl
  go_wp2_with fail
  clear R23
  with_reducible refine (w16_oto _ 10 12 _ _ _ _ rfl sb (by omega)).mono ?_
  rintro e w5 ⟨vsc, rfl, scw, b5⟩
  have y_sc_p := Lib.hid (hlt hp)
  have y_sc_b12 := Lib.hid (hlt hb12)
  have bl_s0_sc := s0.bl_new
  have bl_sa_sc := sa.bl_new
  have bl_sb_sc := sb.bl_new
  have sclo := bel.size
  have lz_sc := b5.size
  replace hp := blk_u hp b5
  replace hb12 := blk_u hb12 b5
  replace s0 := s0.below b5
  replace s0w := own_under s0w b5
  replace sa := sa.below b5
  replace saw := own_under saw b5
  replace sb := sb.below b5
  replace sbw := own_under sbw b5
  replace lz_s0 := Nat.le_trans lz_s0 b5.size
  replace lz_sa := Nat.le_trans lz_sa b5.size
  replace lz_sb := Nat.le_trans lz_sb b5.size
  replace bel := bel.trans (b5.mono bel.size)
  clear b5
  obtain ⟨Asc, csc, rfl⟩ := own_val scw
  have sc := (own_sl scw).1
  have fr_sc := (own_sl scw).2
  have av_sc_p := fr_sc.av y_sc_p.out
  have av_sc_b12 := fr_sc.av y_sc_b12.out
  have R26 := Lib.hid (range_lit hp 5 4 [.int .u8 (h.c0.toNat : Int), .int .u8 (h.c1.toNat : Int), .int .u8 (h.c2.toNat : Int), .int .u8 (h.c3.toNat : Int)] rfl)
  go_wp2_with (first | ((with_reducible show wpList _ _ _ (⟨some 26, _, _, _, _, _⟩ :: _) _ _); refine wpList_load_rng 25 (.tmp 25) rfl (by kernel_rfl) _ _ rfl _ R26.out _ Try.underlying25 rfl (by kernel_rfl) ?_; have R28 := Lib.hid (range_lit hp 9 4 [.int .u8 (h.y0.toNat : Int), .int .u8 (h.y1.toNat : Int), .int .u8 (h.y2.toNat : Int), .int .u8 (h.y3.toNat : Int)] rfl)) | ((with_reducible show wpList _ _ _ (⟨some 28, _, _, _, _, _⟩ :: _) _ _); refine wpList_load_rng 25 (.tmp 27) rfl (by kernel_rfl) _ _ rfl _ R28.out _ Try.underlying25 rfl (by kernel_rfl) ?_; have R30 := Lib.hid (range_lit hp 13 4 [.int .u8 (h.s0.toNat : Int), .int .u8 (h.s1.toNat : Int), .int .u8 (h.s2.toNat : Int), .int .u8 (h.s3.toNat : Int)] rfl)) | ((with_reducible show wpList _ _ _ (⟨some 30, _, _, _, _, _⟩ :: _) _ _); refine wpList_load_rng 25 (.tmp 29) rfl (by kernel_rfl) _ _ rfl _ R30.out _ Try.underlying25 rfl (by kernel_rfl) ?_; have R32 := Lib.hid (range_lit hp 17 4 [.int .u8 (h.r0.toNat : Int), .int .u8 (h.r1.toNat : Int), .int .u8 (h.r2.toNat : Int), .int .u8 (h.r3.toNat : Int)] rfl)) | ((with_reducible show wpList _ _ _ (⟨some 32, _, _, _, _, _⟩ :: _) _ _); refine wpList_load_rng 25 (.tmp 31) rfl (by kernel_rfl) _ _ rfl _ R32.out _ Try.underlying25 rfl (by kernel_rfl) ?_))
  try clear R26
  try clear R28
  try clear R30
  try clear R32
  refine wp_loop_rounds 5 ?_
  rw [rounds_succ]
  have R36 : ∀ W, (Instr.index 86 (.agg #[.int .u8 (h.c0.toNat : Int), .int .u8 (h.c1.toNat : Int), .int .u8 (h.c2.toNat : Int), .int .u8 (h.c3.toNat : Int), .int .u8 (h.y0.toNat : Int), .int .u8 (h.y1.toNat : Int), .int .u8 (h.y2.toNat : Int), .int .u8 (h.y3.toNat : Int), .int .u8 (h.s0.toNat : Int), .int .u8 (h.s1.toNat : Int), .int .u8 (h.s2.toNat : Int), .int .u8 (h.s3.toNat : Int), .int .u8 (h.r0.toNat : Int), .int .u8 (h.r1.toNat : Int), .int .u8 (h.r2.toNat : Int), .int .u8 (h.r3.toNat : Int)]) (.int .i64 0)).run Try.prog W = .ok (.agg #[.int .u8 (h.c0.toNat : Int), .int .u8 (h.c1.toNat : Int), .int .u8 (h.c2.toNat : Int), .int .u8 (h.c3.toNat : Int)]) W := (fun W => (by kernel_rfl))
  go_wp2_with (first | ((with_reducible show wpList _ _ _ (⟨some 5, _, _, _, _, _⟩ :: _) _ _); refine wpList_new_a rfl 25 rfl #[.int .u8 0, .int .u8 0, .int .u8 0, .int .u8 0] (by kernel_rfl) ?_; intro g5 w6 ge hh bb; have d_p_ab := ne_new (hlt hp) ge; have d_b12_ab := ne_new (hlt hb12) ge; have av_s0_ab := s0.av_new ge; have of_s0_ab := own_new s0w ge; have av_sa_ab := sa.av_new ge; have of_sa_ab := own_new saw ge; have av_sb_ab := sb.av_new ge; have of_sb_ab := own_new sbw ge; have av_sc_ab := sc.av_new ge; have of_sc_ab := own_new scw ge; have oab := Nat.le_trans bel.size ge; replace hp := blk_u hp bb; replace hb12 := blk_u hb12 bb; replace s0 := s0.below bb; replace s0w := own_under s0w bb; replace sa := sa.below bb; replace saw := own_under saw bb; replace sb := sb.below bb; replace sbw := own_under sbw bb; replace sc := sc.below bb; replace scw := own_under scw bb; replace lz_s0 := Nat.le_trans lz_s0 bb.size; replace lz_sa := Nat.le_trans lz_sa bb.size; replace lz_sb := Nat.le_trans lz_sb bb.size; replace lz_sc := Nat.le_trans lz_sc bb.size; replace bel := bel.trans (bb.mono bel.size); have hab := hh; clear hh ge bb) | ((with_reducible show wpList _ _ _ (⟨none, Op.store _ (.tmp 5) _, _, _, _, _⟩ :: _) _ _); refine wpList_store_blk rfl 25 (.tmp 5) (.tmp 36) rfl g5 rfl _ rfl _ 25 hab (by rfl) (by kernel_rfl) (by kernel_rfl) ?_; intro w7 hq gr; replace s0 := s0.away av_s0_ab gr; replace s0w := own_off s0w of_s0_ab gr; replace sa := sa.away av_sa_ab gr; replace saw := own_off saw of_sa_ab gr; replace sb := sb.away av_sb_ab gr; replace sbw := own_off sbw of_sb_ab gr; replace sc := sc.away av_sc_ab gr; replace scw := own_off scw of_sc_ab gr; replace lz_s0 := Nat.le_trans lz_s0 gr.size; replace lz_sa := Nat.le_trans lz_sa gr.size; replace lz_sb := Nat.le_trans lz_sb gr.size; replace lz_sc := Nat.le_trans lz_sc gr.size; replace hp := blk_a hp gr d_p_ab; replace hb12 := blk_a hb12 gr d_b12_ab; replace bel := below_grown bel gr oab bel.size; clear hab; have hab := hq; clear hq gr; have fa := sl_four (o := 0) h.c0 h.c1 h.c2 h.c3 hab rfl rfl rfl rfl) | ((with_reducible show wpList _ _ _ (⟨some 39, _, _, _, _, _⟩ :: _) _ _); refine wpList_append_bg _ rfl (.tmp 37) (.tmp 38) 34 rfl (w4.heap.size) 5 ii (.int .u8 0) Try.underlying34 hii hz0 hz1 hz2 rfl _ (12) ([byteOf h.op, 1, 6, byteOf h.hops] ++ four h.xid ++ two h.secs ++ two h.flags) rfl scw (some ⟨g5, 0, none⟩) (4) (4) ([h.c0, h.c1, h.c2, h.c3]) rfl fa (by omega) lz_sc ?_; intro v39 w8 own_ bb gw ofw; have of39_ab := ofw _ (hlt hab) of_sc_ab; clear ofw; replace s0 := s0.under bl_s0_sc bb; clear s0w lz_s0; replace sa := sa.under bl_sa_sc bb; clear saw lz_sa; replace sb := sb.under bl_sb_sc bb; clear sbw lz_sb; clear fa; replace hp := blk_under hp bb y_sc_p.out; replace hb12 := blk_under hb12 bb y_sc_b12.out; replace hab := blk_own hab gw of_sc_ab; clear gw; replace bel := bel.trans (bb.mono sclo); have lz_sd := Nat.le_trans lz_sc bb.size; clear bb; clear sc scw lz_sc; replace own_ : w8.ownsRow (w4.heap.size) 5 1 v39 (16) (([byteOf h.op, 1, 6, byteOf h.hops] ++ four h.xid ++ two h.secs ++ two h.flags ++ [h.c0, h.c1, h.c2, h.c3] : List UInt8).map u8v) := own_; obtain ⟨A39, c39, rfl⟩ := own_val own_; have sdw := own_; have sd := (own_sl own_).1; have fr_sd := (own_sl own_).2; clear own_; have av_sd_p := fr_sd.av y_sc_p.out; have av_sd_b12 := fr_sd.av y_sc_b12.out; have av_sd_ab := own_av sdw of39_ab; clear hab))
  try clear R36
  rw [rounds_succ]
  have R36 : ∀ W, (Instr.index 86 (.agg #[.int .u8 (h.c0.toNat : Int), .int .u8 (h.c1.toNat : Int), .int .u8 (h.c2.toNat : Int), .int .u8 (h.c3.toNat : Int), .int .u8 (h.y0.toNat : Int), .int .u8 (h.y1.toNat : Int), .int .u8 (h.y2.toNat : Int), .int .u8 (h.y3.toNat : Int), .int .u8 (h.s0.toNat : Int), .int .u8 (h.s1.toNat : Int), .int .u8 (h.s2.toNat : Int), .int .u8 (h.s3.toNat : Int), .int .u8 (h.r0.toNat : Int), .int .u8 (h.r1.toNat : Int), .int .u8 (h.r2.toNat : Int), .int .u8 (h.r3.toNat : Int)]) (.int .i64 1)).run Try.prog W = .ok (.agg #[.int .u8 (h.y0.toNat : Int), .int .u8 (h.y1.toNat : Int), .int .u8 (h.y2.toNat : Int), .int .u8 (h.y3.toNat : Int)]) W := (fun W => (by kernel_rfl))
  go_wp2_with (first | ((with_reducible show wpList _ _ _ (⟨some 5, _, _, _, _, _⟩ :: _) _ _); refine wpList_new_a rfl 25 rfl #[.int .u8 0, .int .u8 0, .int .u8 0, .int .u8 0] (by kernel_rfl) ?_; intro g5 w9 ge hh bb; have d_p_ab := ne_new (hlt hp) ge; have d_b12_ab := ne_new (hlt hb12) ge; have av_s0_ab := s0.av_new ge; have av_sa_ab := sa.av_new ge; have av_sb_ab := sb.av_new ge; have av_sd_ab := sd.av_new ge; have of_sd_ab := own_new sdw ge; have oab := Nat.le_trans bel.size ge; replace hp := blk_u hp bb; replace hb12 := blk_u hb12 bb; replace s0 := s0.below bb; replace sa := sa.below bb; replace sb := sb.below bb; replace sd := sd.below bb; replace sdw := own_under sdw bb; replace lz_sd := Nat.le_trans lz_sd bb.size; replace bel := bel.trans (bb.mono bel.size); have hab := hh; clear hh ge bb) | ((with_reducible show wpList _ _ _ (⟨none, Op.store _ (.tmp 5) _, _, _, _, _⟩ :: _) _ _); refine wpList_store_blk rfl 25 (.tmp 5) (.tmp 36) rfl g5 rfl _ rfl _ 25 hab (by rfl) (by kernel_rfl) (by kernel_rfl) ?_; intro w10 hq gr; replace s0 := s0.away av_s0_ab gr; replace sa := sa.away av_sa_ab gr; replace sb := sb.away av_sb_ab gr; replace sd := sd.away av_sd_ab gr; replace sdw := own_off sdw of_sd_ab gr; replace lz_sd := Nat.le_trans lz_sd gr.size; replace hp := blk_a hp gr d_p_ab; replace hb12 := blk_a hb12 gr d_b12_ab; replace bel := below_grown bel gr oab bel.size; clear hab; have hab := hq; clear hq gr; have fa := sl_four (o := 0) h.y0 h.y1 h.y2 h.y3 hab rfl rfl rfl rfl) | ((with_reducible show wpList _ _ _ (⟨some 39, _, _, _, _, _⟩ :: _) _ _); refine wpList_append_bg _ rfl (.tmp 37) (.tmp 38) 34 rfl (w4.heap.size) 5 ii (.int .u8 0) Try.underlying34 hii hz0 hz1 hz2 rfl _ (16) ([byteOf h.op, 1, 6, byteOf h.hops] ++ four h.xid ++ two h.secs ++ two h.flags ++ [h.c0, h.c1, h.c2, h.c3]) rfl sdw (some ⟨g5, 0, none⟩) (4) (4) ([h.y0, h.y1, h.y2, h.y3]) rfl fa (by omega) lz_sd ?_; intro v39 w11 own_ bb gw ofw; have of39_ab := ofw _ (hlt hab) of_sd_ab; clear ofw; replace s0 := s0.under bl_s0_sc bb; replace sa := sa.under bl_sa_sc bb; replace sb := sb.under bl_sb_sc bb; clear fa; replace hp := blk_under hp bb y_sc_p.out; replace hb12 := blk_under hb12 bb y_sc_b12.out; replace hab := blk_own hab gw of_sd_ab; clear gw; replace bel := bel.trans (bb.mono sclo); have lz_sd := Nat.le_trans lz_sd bb.size; clear bb; clear sd sdw; replace own_ : w11.ownsRow (w4.heap.size) 5 1 v39 (20) (([byteOf h.op, 1, 6, byteOf h.hops] ++ four h.xid ++ two h.secs ++ two h.flags ++ [h.c0, h.c1, h.c2, h.c3] ++ [h.y0, h.y1, h.y2, h.y3] : List UInt8).map u8v) := own_; obtain ⟨A39, c39, rfl⟩ := own_val own_; have sdw := own_; have sd := (own_sl own_).1; have fr_sd := (own_sl own_).2; clear own_; have av_sd_p := fr_sd.av y_sc_p.out; have av_sd_b12 := fr_sd.av y_sc_b12.out; have av_sd_ab := own_av sdw of39_ab; clear hab))
  try clear R36
  rw [rounds_succ]
  have R36 : ∀ W, (Instr.index 86 (.agg #[.int .u8 (h.c0.toNat : Int), .int .u8 (h.c1.toNat : Int), .int .u8 (h.c2.toNat : Int), .int .u8 (h.c3.toNat : Int), .int .u8 (h.y0.toNat : Int), .int .u8 (h.y1.toNat : Int), .int .u8 (h.y2.toNat : Int), .int .u8 (h.y3.toNat : Int), .int .u8 (h.s0.toNat : Int), .int .u8 (h.s1.toNat : Int), .int .u8 (h.s2.toNat : Int), .int .u8 (h.s3.toNat : Int), .int .u8 (h.r0.toNat : Int), .int .u8 (h.r1.toNat : Int), .int .u8 (h.r2.toNat : Int), .int .u8 (h.r3.toNat : Int)]) (.int .i64 2)).run Try.prog W = .ok (.agg #[.int .u8 (h.s0.toNat : Int), .int .u8 (h.s1.toNat : Int), .int .u8 (h.s2.toNat : Int), .int .u8 (h.s3.toNat : Int)]) W := (fun W => (by kernel_rfl))
  go_wp2_with (first | ((with_reducible show wpList _ _ _ (⟨some 5, _, _, _, _, _⟩ :: _) _ _); refine wpList_new_a rfl 25 rfl #[.int .u8 0, .int .u8 0, .int .u8 0, .int .u8 0] (by kernel_rfl) ?_; intro g5 w12 ge hh bb; have d_p_ab := ne_new (hlt hp) ge; have d_b12_ab := ne_new (hlt hb12) ge; have av_s0_ab := s0.av_new ge; have av_sa_ab := sa.av_new ge; have av_sb_ab := sb.av_new ge; have av_sd_ab := sd.av_new ge; have of_sd_ab := own_new sdw ge; have oab := Nat.le_trans bel.size ge; replace hp := blk_u hp bb; replace hb12 := blk_u hb12 bb; replace s0 := s0.below bb; replace sa := sa.below bb; replace sb := sb.below bb; replace sd := sd.below bb; replace sdw := own_under sdw bb; replace lz_sd := Nat.le_trans lz_sd bb.size; replace bel := bel.trans (bb.mono bel.size); have hab := hh; clear hh ge bb) | ((with_reducible show wpList _ _ _ (⟨none, Op.store _ (.tmp 5) _, _, _, _, _⟩ :: _) _ _); refine wpList_store_blk rfl 25 (.tmp 5) (.tmp 36) rfl g5 rfl _ rfl _ 25 hab (by rfl) (by kernel_rfl) (by kernel_rfl) ?_; intro w13 hq gr; replace s0 := s0.away av_s0_ab gr; replace sa := sa.away av_sa_ab gr; replace sb := sb.away av_sb_ab gr; replace sd := sd.away av_sd_ab gr; replace sdw := own_off sdw of_sd_ab gr; replace lz_sd := Nat.le_trans lz_sd gr.size; replace hp := blk_a hp gr d_p_ab; replace hb12 := blk_a hb12 gr d_b12_ab; replace bel := below_grown bel gr oab bel.size; clear hab; have hab := hq; clear hq gr; have fa := sl_four (o := 0) h.s0 h.s1 h.s2 h.s3 hab rfl rfl rfl rfl) | ((with_reducible show wpList _ _ _ (⟨some 39, _, _, _, _, _⟩ :: _) _ _); refine wpList_append_bg _ rfl (.tmp 37) (.tmp 38) 34 rfl (w4.heap.size) 5 ii (.int .u8 0) Try.underlying34 hii hz0 hz1 hz2 rfl _ (20) ([byteOf h.op, 1, 6, byteOf h.hops] ++ four h.xid ++ two h.secs ++ two h.flags ++ [h.c0, h.c1, h.c2, h.c3] ++ [h.y0, h.y1, h.y2, h.y3]) rfl sdw (some ⟨g5, 0, none⟩) (4) (4) ([h.s0, h.s1, h.s2, h.s3]) rfl fa (by omega) lz_sd ?_; intro v39 w14 own_ bb gw ofw; have of39_ab := ofw _ (hlt hab) of_sd_ab; clear ofw; replace s0 := s0.under bl_s0_sc bb; replace sa := sa.under bl_sa_sc bb; replace sb := sb.under bl_sb_sc bb; clear fa; replace hp := blk_under hp bb y_sc_p.out; replace hb12 := blk_under hb12 bb y_sc_b12.out; replace hab := blk_own hab gw of_sd_ab; clear gw; replace bel := bel.trans (bb.mono sclo); have lz_sd := Nat.le_trans lz_sd bb.size; clear bb; clear sd sdw; replace own_ : w14.ownsRow (w4.heap.size) 5 1 v39 (24) (([byteOf h.op, 1, 6, byteOf h.hops] ++ four h.xid ++ two h.secs ++ two h.flags ++ [h.c0, h.c1, h.c2, h.c3] ++ [h.y0, h.y1, h.y2, h.y3] ++ [h.s0, h.s1, h.s2, h.s3] : List UInt8).map u8v) := own_; obtain ⟨A39, c39, rfl⟩ := own_val own_; have sdw := own_; have sd := (own_sl own_).1; have fr_sd := (own_sl own_).2; clear own_; have av_sd_p := fr_sd.av y_sc_p.out; have av_sd_b12 := fr_sd.av y_sc_b12.out; have av_sd_ab := own_av sdw of39_ab; clear hab))
  try clear R36
  rw [rounds_succ]
  have R36 : ∀ W, (Instr.index 86 (.agg #[.int .u8 (h.c0.toNat : Int), .int .u8 (h.c1.toNat : Int), .int .u8 (h.c2.toNat : Int), .int .u8 (h.c3.toNat : Int), .int .u8 (h.y0.toNat : Int), .int .u8 (h.y1.toNat : Int), .int .u8 (h.y2.toNat : Int), .int .u8 (h.y3.toNat : Int), .int .u8 (h.s0.toNat : Int), .int .u8 (h.s1.toNat : Int), .int .u8 (h.s2.toNat : Int), .int .u8 (h.s3.toNat : Int), .int .u8 (h.r0.toNat : Int), .int .u8 (h.r1.toNat : Int), .int .u8 (h.r2.toNat : Int), .int .u8 (h.r3.toNat : Int)]) (.int .i64 3)).run Try.prog W = .ok (.agg #[.int .u8 (h.r0.toNat : Int), .int .u8 (h.r1.toNat : Int), .int .u8 (h.r2.toNat : Int), .int .u8 (h.r3.toNat : Int)]) W := (fun W => (by kernel_rfl))
  go_wp2_with (first | ((with_reducible show wpList _ _ _ (⟨some 5, _, _, _, _, _⟩ :: _) _ _); refine wpList_new_a rfl 25 rfl #[.int .u8 0, .int .u8 0, .int .u8 0, .int .u8 0] (by kernel_rfl) ?_; intro g5 w15 ge hh bb; have d_p_ab := ne_new (hlt hp) ge; have d_b12_ab := ne_new (hlt hb12) ge; have av_s0_ab := s0.av_new ge; have av_sa_ab := sa.av_new ge; have av_sb_ab := sb.av_new ge; have av_sd_ab := sd.av_new ge; have of_sd_ab := own_new sdw ge; have oab := Nat.le_trans bel.size ge; replace hp := blk_u hp bb; replace hb12 := blk_u hb12 bb; replace s0 := s0.below bb; replace sa := sa.below bb; replace sb := sb.below bb; replace sd := sd.below bb; replace sdw := own_under sdw bb; replace lz_sd := Nat.le_trans lz_sd bb.size; replace bel := bel.trans (bb.mono bel.size); have hab := hh; clear hh ge bb) | ((with_reducible show wpList _ _ _ (⟨none, Op.store _ (.tmp 5) _, _, _, _, _⟩ :: _) _ _); refine wpList_store_blk rfl 25 (.tmp 5) (.tmp 36) rfl g5 rfl _ rfl _ 25 hab (by rfl) (by kernel_rfl) (by kernel_rfl) ?_; intro w16 hq gr; replace s0 := s0.away av_s0_ab gr; replace sa := sa.away av_sa_ab gr; replace sb := sb.away av_sb_ab gr; replace sd := sd.away av_sd_ab gr; replace sdw := own_off sdw of_sd_ab gr; replace lz_sd := Nat.le_trans lz_sd gr.size; replace hp := blk_a hp gr d_p_ab; replace hb12 := blk_a hb12 gr d_b12_ab; replace bel := below_grown bel gr oab bel.size; clear hab; have hab := hq; clear hq gr; have fa := sl_four (o := 0) h.r0 h.r1 h.r2 h.r3 hab rfl rfl rfl rfl) | ((with_reducible show wpList _ _ _ (⟨some 39, _, _, _, _, _⟩ :: _) _ _); refine wpList_append_bg _ rfl (.tmp 37) (.tmp 38) 34 rfl (w4.heap.size) 5 ii (.int .u8 0) Try.underlying34 hii hz0 hz1 hz2 rfl _ (24) ([byteOf h.op, 1, 6, byteOf h.hops] ++ four h.xid ++ two h.secs ++ two h.flags ++ [h.c0, h.c1, h.c2, h.c3] ++ [h.y0, h.y1, h.y2, h.y3] ++ [h.s0, h.s1, h.s2, h.s3]) rfl sdw (some ⟨g5, 0, none⟩) (4) (4) ([h.r0, h.r1, h.r2, h.r3]) rfl fa (by omega) lz_sd ?_; intro v39 w17 own_ bb gw ofw; have of39_ab := ofw _ (hlt hab) of_sd_ab; clear ofw; replace s0 := s0.under bl_s0_sc bb; replace sa := sa.under bl_sa_sc bb; replace sb := sb.under bl_sb_sc bb; clear fa; replace hp := blk_under hp bb y_sc_p.out; replace hb12 := blk_under hb12 bb y_sc_b12.out; replace hab := blk_own hab gw of_sd_ab; clear gw; replace bel := bel.trans (bb.mono sclo); have lz_sd := Nat.le_trans lz_sd bb.size; clear bb; clear sd sdw; replace own_ : w17.ownsRow (w4.heap.size) 5 1 v39 (28) (([byteOf h.op, 1, 6, byteOf h.hops] ++ four h.xid ++ two h.secs ++ two h.flags ++ [h.c0, h.c1, h.c2, h.c3] ++ [h.y0, h.y1, h.y2, h.y3] ++ [h.s0, h.s1, h.s2, h.s3] ++ [h.r0, h.r1, h.r2, h.r3] : List UInt8).map u8v) := own_; obtain ⟨A39, c39, rfl⟩ := own_val own_; have sdw := own_; have sd := (own_sl own_).1; have fr_sd := (own_sl own_).2; clear own_; have av_sd_p := fr_sd.av y_sc_p.out; have av_sd_b12 := fr_sd.av y_sc_b12.out; have av_sd_ab := own_av sdw of39_ab; clear hab))
  try clear R36
  rw [rounds_succ]
  have fm := sl_six (o := 21) h.m0 h.m1 h.m2 h.m3 h.m4 h.m5 hp rfl rfl rfl rfl rfl rfl
  go_wp2_with (first | ((with_reducible show wpList _ _ _ (⟨some 44, _, _, _, _, _⟩ :: _) _ _); refine wpList_append_bb _ rfl (.tmp 41) (.tmp 43) 34 rfl (w4.heap.size) 5 ii (.int .u8 0) Try.underlying34 hii hz0 hz1 hz2 rfl _ (28) ([byteOf h.op, 1, 6, byteOf h.hops] ++ four h.xid ++ two h.secs ++ two h.flags ++ [h.c0, h.c1, h.c2, h.c3] ++ [h.y0, h.y1, h.y2, h.y3] ++ [h.s0, h.s1, h.s2, h.s3] ++ [h.r0, h.r1, h.r2, h.r3]) rfl sdw (some ⟨g1, 21, none⟩) (6) (6) ([h.m0, h.m1, h.m2, h.m3, h.m4, h.m5]) rfl fm (by omega) lz_sd ?_; intro v44 w18 own_ bb; replace s0 := s0.under bl_s0_sc bb; replace sa := sa.under bl_sa_sc bb; replace sb := sb.under bl_sb_sc bb; clear fm; replace hp := blk_under hp bb y_sc_p.out; replace hb12 := blk_under hb12 bb y_sc_b12.out; replace bel := bel.trans (bb.mono sclo); have lz_se := Nat.le_trans lz_sd bb.size; clear bb; clear sd sdw lz_sd; replace own_ : w18.ownsRow (w4.heap.size) 5 1 v44 (34) (([byteOf h.op, 1, 6, byteOf h.hops] ++ four h.xid ++ two h.secs ++ two h.flags ++ [h.c0, h.c1, h.c2, h.c3] ++ [h.y0, h.y1, h.y2, h.y3] ++ [h.s0, h.s1, h.s2, h.s3] ++ [h.r0, h.r1, h.r2, h.r3] ++ [h.m0, h.m1, h.m2, h.m3, h.m4, h.m5] : List UInt8).map u8v) := own_; obtain ⟨A44, c44, rfl⟩ := own_val own_; have sew := own_; have se := (own_sl own_).1; have fr_se := (own_sl own_).2; clear own_; have av_se_p := fr_se.av y_sc_p.out; have av_se_b12 := fr_se.av y_sc_b12.out) | ((with_reducible show wpList _ _ _ (⟨some 46, _, _, _, _, _⟩ :: _) _ _); refine wpList_append_zb rfl (.tmp 45) (.const (.int .i64 202)) 34 3 rfl (w4.heap.size) 5 ii .i64 Try.underlying34 Try.underlying3 hii hz0 hz1 hz2 _ (34) ([byteOf h.op, 1, 6, byteOf h.hops] ++ four h.xid ++ two h.secs ++ two h.flags ++ [h.c0, h.c1, h.c2, h.c3] ++ [h.y0, h.y1, h.y2, h.y3] ++ [h.s0, h.s1, h.s2, h.s3] ++ [h.r0, h.r1, h.r2, h.r3] ++ [h.m0, h.m1, h.m2, h.m3, h.m4, h.m5]) rfl sew (202) rfl (by omega) lz_se ?_; intro v46 w19 own_ bb; replace s0 := s0.under bl_s0_sc bb; replace sa := sa.under bl_sa_sc bb; replace sb := sb.under bl_sb_sc bb; replace hp := blk_under hp bb y_sc_p.out; replace hb12 := blk_under hb12 bb y_sc_b12.out; replace bel := bel.trans (bb.mono sclo); have lz_sf := Nat.le_trans lz_se bb.size; clear bb; clear se sew lz_se; replace own_ : w19.ownsRow (w4.heap.size) 5 1 v46 (236) (([byteOf h.op, 1, 6, byteOf h.hops] ++ four h.xid ++ two h.secs ++ two h.flags ++ [h.c0, h.c1, h.c2, h.c3] ++ [h.y0, h.y1, h.y2, h.y3] ++ [h.s0, h.s1, h.s2, h.s3] ++ [h.r0, h.r1, h.r2, h.r3] ++ [h.m0, h.m1, h.m2, h.m3, h.m4, h.m5] ++ (List.replicate 202 0) : List UInt8).map u8v) := own_; obtain ⟨A46, c46, rfl⟩ := own_val own_; have sfw := own_; have sf := (own_sl own_).1; have fr_sf := (own_sl own_).2; clear own_; have av_sf_p := fr_sf.av y_sc_p.out; have av_sf_b12 := fr_sf.av y_sc_b12.out))
  with_reducible refine (w32_oto _ 236 240 _ _ _ _ (by decide) (by decide) rfl sf (by omega)).mono ?_
  rintro e w20 ⟨vsz, rfl, szw, b20⟩
  have y_sz_p := Lib.hid (hlt hp)
  have y_sz_b12 := Lib.hid (hlt hb12)
  have bl_s0_sz := s0.bl_new
  have bl_sa_sz := sa.bl_new
  have bl_sb_sz := sb.bl_new
  have bl_sf_sz := sf.bl_new
  have szlo := bel.size
  have lz_sz := b20.size
  replace hp := blk_u hp b20
  replace hb12 := blk_u hb12 b20
  replace s0 := s0.below b20
  replace sa := sa.below b20
  replace sb := sb.below b20
  replace sf := sf.below b20
  replace sfw := own_under sfw b20
  replace lz_sf := Nat.le_trans lz_sf b20.size
  replace bel := bel.trans (b20.mono bel.size)
  clear b20
  obtain ⟨Asz, csz, rfl⟩ := own_val szw
  have sz := (own_sl szw).1
  have fr_sz := (own_sl szw).2
  have av_sz_p := fr_sz.av y_sz_p.out
  have av_sz_b12 := fr_sz.av y_sz_b12.out
  go_wp2_with fail
  go_ret
  exact ⟨_, rfl, own_out (ownsRow_mono szw szlo), bel⟩
set_option linter.unusedVariables false in
set_option linter.unusedSimpArgs false in
set_option maxRecDepth 100000 in
set_option maxHeartbeats 16000000 in
theorem dput_any {h : Mh} {A : Option Addr} {n c : Nat} {hs : List Oh} {L : OptL} (w : World) (en : Sle opE 2 w A n c hs) (hbd : Bd w hs L) (hn : n ≤ 100000) (hb : ∀ x ∈ hs, x.n ≤ 100000) (h0 : 0 ≤ h.xid) (h1 : h.xid < 4294967296) : Calls Try.prog 9 #[.agg #[.int .i64 h.op, .int .i64 h.hops, .int .u32 h.xid, .int .i64 h.secs, .int .i64 h.flags, .int .u8 (h.c0.toNat : Int), .int .u8 (h.c1.toNat : Int), .int .u8 (h.c2.toNat : Int), .int .u8 (h.c3.toNat : Int), .int .u8 (h.y0.toNat : Int), .int .u8 (h.y1.toNat : Int), .int .u8 (h.y2.toNat : Int), .int .u8 (h.y3.toNat : Int), .int .u8 (h.s0.toNat : Int), .int .u8 (h.s1.toNat : Int), .int .u8 (h.s2.toNat : Int), .int .u8 (h.s3.toNat : Int), .int .u8 (h.r0.toNat : Int), .int .u8 (h.r1.toNat : Int), .int .u8 (h.r2.toNat : Int), .int .u8 (h.r3.toNat : Int), .int .u8 (h.m0.toNat : Int), .int .u8 (h.m1.toNat : Int), .int .u8 (h.m2.toNat : Int), .int .u8 (h.m3.toNat : Int), .int .u8 (h.m4.toNat : Int), .int .u8 (h.m5.toNat : Int), .slice A n c]] w fun e w' => ∃ A' n' c', e = .returned (.tuple #[.slice A' n' c', .int .i64 (dPut h L).2]) ∧ Sl w' A' n' c' (dPut h L).1 ∧ Below w.heap.size w w' := by
  have HBD := Lib.hid hbd
  have HB := Lib.hid hb
  clear hbd hb
  obtain ⟨tt, htt⟩ : ∃ x, typeL L = x := ⟨_, rfl⟩
  obtain ⟨er, her⟩ : ∃ x, (putL L).2 = x := ⟨_, rfl⟩
  have HTT := Lib.hid htt
  have HER := Lib.hid her
  obtain ⟨ii, hii, hz0, hz1, hz2⟩ := info_parts Try.info_u8
  have bel := Below.refl w.heap.size w
  go_enter Try.func9, Try.ntmps9
  rcases (by decide : ∀ b : Bool, b = true ∨ b = false) (okM h) with hok | hok
  rotate_left
  · have HO := Lib.hid hok
    have HP : Hid (dPut h L = ([], 1)) := Lib.hid (dput_bad (.inl hok))
    clear hok htt her
    go_wp2_with (first | ((with_reducible show wpList _ _ _ (⟨some 1, _, _, _, _, _⟩ :: _) _ _); refine wpList_box_n rfl 30 (.tmp 0) rfl #[.int .i64 h.op, .int .i64 h.hops, .int .u32 h.xid, .int .i64 h.secs, .int .i64 h.flags, .int .u8 (h.c0.toNat : Int), .int .u8 (h.c1.toNat : Int), .int .u8 (h.c2.toNat : Int), .int .u8 (h.c3.toNat : Int), .int .u8 (h.y0.toNat : Int), .int .u8 (h.y1.toNat : Int), .int .u8 (h.y2.toNat : Int), .int .u8 (h.y3.toNat : Int), .int .u8 (h.s0.toNat : Int), .int .u8 (h.s1.toNat : Int), .int .u8 (h.s2.toNat : Int), .int .u8 (h.s3.toNat : Int), .int .u8 (h.r0.toNat : Int), .int .u8 (h.r1.toNat : Int), .int .u8 (h.r2.toNat : Int), .int .u8 (h.r3.toNat : Int), .int .u8 (h.m0.toNat : Int), .int .u8 (h.m1.toNat : Int), .int .u8 (h.m2.toNat : Int), .int .u8 (h.m3.toNat : Int), .int .u8 (h.m4.toNat : Int), .int .u8 (h.m5.toNat : Int), .slice A n c] rfl ?_; intro g1 w1 ge lt hh bb; have av_en_p := en.av_new ge; have op := Nat.le_trans bel.size ge; replace en := en.below bb; replace bel := bel.trans (bb.mono bel.size); have hp := hh; clear hh lt ge bb; have R7 := Lib.hid (range_lit hp 0 28 [.int .i64 h.op, .int .i64 h.hops, .int .u32 h.xid, .int .i64 h.secs, .int .i64 h.flags, .int .u8 (h.c0.toNat : Int), .int .u8 (h.c1.toNat : Int), .int .u8 (h.c2.toNat : Int), .int .u8 (h.c3.toNat : Int), .int .u8 (h.y0.toNat : Int), .int .u8 (h.y1.toNat : Int), .int .u8 (h.y2.toNat : Int), .int .u8 (h.y3.toNat : Int), .int .u8 (h.s0.toNat : Int), .int .u8 (h.s1.toNat : Int), .int .u8 (h.s2.toNat : Int), .int .u8 (h.s3.toNat : Int), .int .u8 (h.r0.toNat : Int), .int .u8 (h.r1.toNat : Int), .int .u8 (h.r2.toNat : Int), .int .u8 (h.r3.toNat : Int), .int .u8 (h.m0.toNat : Int), .int .u8 (h.m1.toNat : Int), .int .u8 (h.m2.toNat : Int), .int .u8 (h.m3.toNat : Int), .int .u8 (h.m4.toNat : Int), .int .u8 (h.m5.toNat : Int), .slice A n c] rfl)) | ((with_reducible show wpList _ _ _ (⟨some 7, _, _, _, _, _⟩ :: _) _ _); refine wpList_load_rng 30 (.tmp 1) rfl (by kernel_rfl) _ _ rfl _ R7.out _ Try.underlying30 rfl (by kernel_rfl) ?_))
    try clear R7
    with_reducible refine (dwritable_any h A n c _).mono ?_
    rintro e w2 ⟨rfl, b2⟩
    replace hp := blk_u hp b2
    replace en := en.below b2
    replace bel := bel.trans (b2.mono bel.size)
    clear b2
    rw [HO.out]
    go_wp2_with fail
    exact bodyPost_ret (v := .tuple #[.slice none 0 0, .int .i64 1]) (by simp [results, Try.results9, go_sem]) rfl ⟨none, 0, 0, by rw [HP.out], by rw [HP.out]; exact Sl.nil _, bel⟩
  have HO := Lib.hid hok
  go_wp2_with (first | ((with_reducible show wpList _ _ _ (⟨some 1, _, _, _, _, _⟩ :: _) _ _); refine wpList_box_n rfl 30 (.tmp 0) rfl #[.int .i64 h.op, .int .i64 h.hops, .int .u32 h.xid, .int .i64 h.secs, .int .i64 h.flags, .int .u8 (h.c0.toNat : Int), .int .u8 (h.c1.toNat : Int), .int .u8 (h.c2.toNat : Int), .int .u8 (h.c3.toNat : Int), .int .u8 (h.y0.toNat : Int), .int .u8 (h.y1.toNat : Int), .int .u8 (h.y2.toNat : Int), .int .u8 (h.y3.toNat : Int), .int .u8 (h.s0.toNat : Int), .int .u8 (h.s1.toNat : Int), .int .u8 (h.s2.toNat : Int), .int .u8 (h.s3.toNat : Int), .int .u8 (h.r0.toNat : Int), .int .u8 (h.r1.toNat : Int), .int .u8 (h.r2.toNat : Int), .int .u8 (h.r3.toNat : Int), .int .u8 (h.m0.toNat : Int), .int .u8 (h.m1.toNat : Int), .int .u8 (h.m2.toNat : Int), .int .u8 (h.m3.toNat : Int), .int .u8 (h.m4.toNat : Int), .int .u8 (h.m5.toNat : Int), .slice A n c] rfl ?_; intro g1 w1 ge lt hh bb; have av_en_p := en.av_new ge; have op := Nat.le_trans bel.size ge; replace en := en.below bb; replace bel := bel.trans (bb.mono bel.size); have hp := hh; clear hh lt ge bb; have R7 := Lib.hid (range_lit hp 0 28 [.int .i64 h.op, .int .i64 h.hops, .int .u32 h.xid, .int .i64 h.secs, .int .i64 h.flags, .int .u8 (h.c0.toNat : Int), .int .u8 (h.c1.toNat : Int), .int .u8 (h.c2.toNat : Int), .int .u8 (h.c3.toNat : Int), .int .u8 (h.y0.toNat : Int), .int .u8 (h.y1.toNat : Int), .int .u8 (h.y2.toNat : Int), .int .u8 (h.y3.toNat : Int), .int .u8 (h.s0.toNat : Int), .int .u8 (h.s1.toNat : Int), .int .u8 (h.s2.toNat : Int), .int .u8 (h.s3.toNat : Int), .int .u8 (h.r0.toNat : Int), .int .u8 (h.r1.toNat : Int), .int .u8 (h.r2.toNat : Int), .int .u8 (h.r3.toNat : Int), .int .u8 (h.m0.toNat : Int), .int .u8 (h.m1.toNat : Int), .int .u8 (h.m2.toNat : Int), .int .u8 (h.m3.toNat : Int), .int .u8 (h.m4.toNat : Int), .int .u8 (h.m5.toNat : Int), .slice A n c] rfl)) | ((with_reducible show wpList _ _ _ (⟨some 7, _, _, _, _, _⟩ :: _) _ _); refine wpList_load_rng 30 (.tmp 1) rfl (by kernel_rfl) _ _ rfl _ R7.out _ Try.underlying30 rfl (by kernel_rfl) ?_))
  try clear R7
  with_reducible refine (dwritable_any h A n c _).mono ?_
  rintro e w2 ⟨rfl, b2⟩
  replace hp := blk_u hp b2
  replace en := en.below b2
  replace bel := bel.trans (b2.mono bel.size)
  clear b2
  rw [HO.out]
  have R11 := Lib.hid (range_lit hp 0 28 [.int .i64 h.op, .int .i64 h.hops, .int .u32 h.xid, .int .i64 h.secs, .int .i64 h.flags, .int .u8 (h.c0.toNat : Int), .int .u8 (h.c1.toNat : Int), .int .u8 (h.c2.toNat : Int), .int .u8 (h.c3.toNat : Int), .int .u8 (h.y0.toNat : Int), .int .u8 (h.y1.toNat : Int), .int .u8 (h.y2.toNat : Int), .int .u8 (h.y3.toNat : Int), .int .u8 (h.s0.toNat : Int), .int .u8 (h.s1.toNat : Int), .int .u8 (h.s2.toNat : Int), .int .u8 (h.s3.toNat : Int), .int .u8 (h.r0.toNat : Int), .int .u8 (h.r1.toNat : Int), .int .u8 (h.r2.toNat : Int), .int .u8 (h.r3.toNat : Int), .int .u8 (h.m0.toNat : Int), .int .u8 (h.m1.toNat : Int), .int .u8 (h.m2.toNat : Int), .int .u8 (h.m3.toNat : Int), .int .u8 (h.m4.toNat : Int), .int .u8 (h.m5.toNat : Int), .slice A n c] rfl)
  go_wp2_with (first | ((with_reducible show wpList _ _ _ (⟨some 11, _, _, _, _, _⟩ :: _) _ _); refine wpList_load_rng 30 (.tmp 1) rfl (by kernel_rfl) _ _ rfl _ R11.out _ Try.underlying30 rfl (by kernel_rfl) ?_))
  try clear R11
  with_reducible refine (dtype_any (h := h) _ en (HBD.out.below bel) hn HB.out).mono ?_
  rintro e w3 ⟨rfl, b3⟩
  replace hp := blk_u hp b3
  replace en := en.below b3
  replace bel := bel.trans (b3.mono bel.size)
  clear b3
  rw [HTT.out]
  by_cases ht : tt = 0
  · have e0 : ((tt : Int) == 0) = true := by rw [ht]; rfl
    have HP : Hid (dPut h L = ([], 1)) := Lib.hid (dput_bad (.inr (htt.trans ht)))
    clear htt hok ht her
    go_wp2_with fail
    exact bodyPost_ret (v := .tuple #[.slice none 0 0, .int .i64 1]) (by simp [results, Try.results9, go_sem]) rfl ⟨none, 0, 0, by rw [HP.out], by rw [HP.out]; exact Sl.nil _, bel⟩
  have e0 : ((tt : Int) == 0) = false := beq_eq_false_iff_ne.2 (by omega)
  have R17 := cell_lit hp 27 _ rfl
  go_wp2_with fail
  clear R17
  with_reducible refine (oput_any _ en (HBD.out.below bel) hn HB.out).mono ?_
  rintro e w4 ⟨A4, np, c4, rfl, pb, b4⟩
  replace hp := blk_u hp b4
  replace en := en.below b4
  replace bel := bel.trans (b4.mono bel.size)
  clear b4
  replace pb : Sl w4 (A4) (np) (c4) ((putL L).1) := pb
  rw [HER.out]
  by_cases he : er = 0
  rotate_left
  · have e1 : (er != 0) = true := by rw [bne, beq_eq_false_iff_ne.2 he]; rfl
    have HP : Hid (dPut h L = ([], er)) := Lib.hid (by rw [dput_no hok (by rw [htt]; exact ht) (by rw [her]; exact he), her])
    clear htt hok ht her he
    go_wp2_with fail
    exact bodyPost_ret (v := .tuple #[.slice none 0 0, .int .i64 er]) (by simp [results, Try.results9, go_sem]) rfl ⟨none, 0, 0, by rw [HP.out], by rw [HP.out]; exact Sl.nil _, bel⟩
  obtain ⟨m, hm⟩ : ∃ m, 240 + np = m := ⟨_, rfl⟩
  have hpl := pb.1
  have hpl2 := put_len L
  have hm9 : m ≤ 2000 := by omega
  have HMM := Lib.hid hm
  have m0 : (0 : Int) ≤ m := by omega
  have m1 : (m : Int) ≤ 2000 := by omega
  have e1 : (er != 0) = false := by rw [he]; rfl
  by_cases hm3 : m ≤ 300
  rotate_left
  · have hk : 60 - (putL L).1.length = 0 := by omega
    obtain ⟨j, hj⟩ : ∃ j : Int, (300 : Int) - (m : Int) = j := ⟨_, rfl⟩
    have hw_ : IntKind.i64.wrap (300 - (m : Int)) = j := by rw [hj]; exact IntWalk.i64_in _ (by omega)
    have k0 : j < 0 := by omega
    have hmx : Hid ((if j > 0 then j else 0) = 0) := Lib.hid (by rw [if_neg (by omega)])
    have HP : Hid (dPut h L = (headB h ++ (putL L).1 ++ List.replicate 0 0, 0)) := Lib.hid (by rw [dput_ok hok (by rw [htt]; exact ht) (by rw [her]; exact he), hk])
    clear hm3 hk hj hm hpl hpl2 hm9 her htt
    have R24 := Lib.hid (range_lit hp 0 28 [.int .i64 h.op, .int .i64 h.hops, .int .u32 h.xid, .int .i64 h.secs, .int .i64 h.flags, .int .u8 (h.c0.toNat : Int), .int .u8 (h.c1.toNat : Int), .int .u8 (h.c2.toNat : Int), .int .u8 (h.c3.toNat : Int), .int .u8 (h.y0.toNat : Int), .int .u8 (h.y1.toNat : Int), .int .u8 (h.y2.toNat : Int), .int .u8 (h.y3.toNat : Int), .int .u8 (h.s0.toNat : Int), .int .u8 (h.s1.toNat : Int), .int .u8 (h.s2.toNat : Int), .int .u8 (h.s3.toNat : Int), .int .u8 (h.r0.toNat : Int), .int .u8 (h.r1.toNat : Int), .int .u8 (h.r2.toNat : Int), .int .u8 (h.r3.toNat : Int), .int .u8 (h.m0.toNat : Int), .int .u8 (h.m1.toNat : Int), .int .u8 (h.m2.toNat : Int), .int .u8 (h.m3.toNat : Int), .int .u8 (h.m4.toNat : Int), .int .u8 (h.m5.toNat : Int), .slice A n c] rfl)
    go_wp2_with (first | ((with_reducible show wpList _ _ _ (⟨some 24, _, _, _, _, _⟩ :: _) _ _); refine wpList_load_rng 30 (.tmp 1) rfl (by kernel_rfl) _ _ rfl _ R24.out _ Try.underlying30 rfl (by kernel_rfl) ?_))
    try clear R24
    with_reducible refine (dwhead_any h A n c _ h0 h1).mono ?_
    rintro e w5 ⟨v5, rfl, hdw, b5⟩
    have y_hd_p := Lib.hid (hlt hp)
    have bl_en_hd := en.bl_new
    have bl_pb_hd := pb.bl_new
    have hdlo := bel.size
    have lz_hd := b5.size
    replace hp := blk_u hp b5
    replace en := en.below b5
    replace pb := pb.below b5
    replace bel := bel.trans (b5.mono bel.size)
    clear b5
    obtain ⟨Ahd, chd, rfl⟩ := own_val hdw
    have hd := (own_sl hdw).1
    have fr_hd := (own_sl hdw).2
    have av_hd_p := fr_hd.av y_hd_p.out
    go_wp2_with (first | ((with_reducible show wpList _ _ _ (⟨some 27, _, _, _, _, _⟩ :: _) _ _); refine wpList_append_bb _ rfl (.tmp 25) (.tmp 26) 34 rfl (w4.heap.size) 5 ii (.int .u8 0) Try.underlying34 hii hz0 hz1 hz2 rfl _ (240) (headB h) rfl hdw (A4) (np) (c4) ((putL L).1) rfl pb (by have := HMM.out; omega) lz_hd ?_; intro v27 w6 own_ bb; replace en := en.under bl_en_hd bb; replace pb := pb.under bl_pb_hd bb; replace hp := blk_under hp bb y_hd_p.out; replace bel := bel.trans (bb.mono hdlo); have lz_ab := Nat.le_trans lz_hd bb.size; clear bb; clear hd hdw lz_hd; replace own_ : w6.ownsRow (w4.heap.size) 5 1 v27 (m) ((headB h ++ ((putL L).1) : List UInt8).map u8v) := (by have q_ := own_; rw [HMM.out] at q_; exact q_); obtain ⟨A27, c27, rfl⟩ := own_val own_; have abw := own_; have ab := (own_sl own_).1; have fr_ab := (own_sl own_).2; clear own_; have av_ab_p := fr_ab.av y_hd_p.out) | ((with_reducible show wpList _ _ _ (⟨some 32, _, _, _, _, _⟩ :: _) _ _); refine wpList_max rfl (.const (.int .i64 0)) (.tmp 31) 3 3 rfl .i64 0 (j) (0) rfl rfl hmx.out ?_) | ((with_reducible show wpList _ _ _ (⟨some 33, _, _, _, _, _⟩ :: _) _ _); refine wpList_append_zb rfl (.tmp 28) (.tmp 32) 34 3 rfl (w4.heap.size) 5 ii .i64 Try.underlying34 Try.underlying3 hii hz0 hz1 hz2 _ (m) (headB h ++ ((putL L).1)) rfl abw (0) rfl (by omega) lz_ab ?_; intro v33 w7 own_ bb; replace en := en.under bl_en_hd bb; replace pb := pb.under bl_pb_hd bb; replace hp := blk_under hp bb y_hd_p.out; replace bel := bel.trans (bb.mono hdlo); have lz_zr := Nat.le_trans lz_ab bb.size; clear bb; clear ab abw lz_ab; replace own_ : w7.ownsRow (w4.heap.size) 5 1 v33 (m) ((headB h ++ ((putL L).1) ++ (List.replicate 0 0) : List UInt8).map u8v) := own_; obtain ⟨A33, c33, rfl⟩ := own_val own_; have zrw := own_; have zr := (own_sl own_).1; have fr_zr := (own_sl own_).2; clear own_; have av_zr_p := fr_zr.av y_hd_p.out))
    exact bodyPost_ret (v := .tuple #[.slice A33 m c33, .int .i64 0]) (by simp [results, Try.results9, go_sem]) rfl ⟨_, _, _, by rw [HP.out], by rw [HP.out]; exact zr, bel⟩
  obtain ⟨k, hk⟩ : ∃ k, 60 - (putL L).1.length = k := ⟨_, rfl⟩
  have hmk : m + k = 300 := by omega
  have hw_ : IntKind.i64.wrap (300 - (m : Int)) = (k : Int) := by rw [show (300 : Int) - (m : Int) = (k : Int) by omega]; exact IntWalk.i64_in _ (by omega)
  have k0 : (0 : Int) ≤ k := by omega
  have HMK := Lib.hid hmk
  have hmx : Hid ((if (k : Int) > 0 then (k : Int) else 0) = k) := Lib.hid (by split <;> omega)
  have HP : Hid (dPut h L = (headB h ++ (putL L).1 ++ List.replicate k 0, 0)) := Lib.hid (by rw [dput_ok hok (by rw [htt]; exact ht) (by rw [her]; exact he), hk])
  clear hm3 hk hmk hm hpl hpl2 hm9 her htt
  have R24 := Lib.hid (range_lit hp 0 28 [.int .i64 h.op, .int .i64 h.hops, .int .u32 h.xid, .int .i64 h.secs, .int .i64 h.flags, .int .u8 (h.c0.toNat : Int), .int .u8 (h.c1.toNat : Int), .int .u8 (h.c2.toNat : Int), .int .u8 (h.c3.toNat : Int), .int .u8 (h.y0.toNat : Int), .int .u8 (h.y1.toNat : Int), .int .u8 (h.y2.toNat : Int), .int .u8 (h.y3.toNat : Int), .int .u8 (h.s0.toNat : Int), .int .u8 (h.s1.toNat : Int), .int .u8 (h.s2.toNat : Int), .int .u8 (h.s3.toNat : Int), .int .u8 (h.r0.toNat : Int), .int .u8 (h.r1.toNat : Int), .int .u8 (h.r2.toNat : Int), .int .u8 (h.r3.toNat : Int), .int .u8 (h.m0.toNat : Int), .int .u8 (h.m1.toNat : Int), .int .u8 (h.m2.toNat : Int), .int .u8 (h.m3.toNat : Int), .int .u8 (h.m4.toNat : Int), .int .u8 (h.m5.toNat : Int), .slice A n c] rfl)
  go_wp2_with (first | ((with_reducible show wpList _ _ _ (⟨some 24, _, _, _, _, _⟩ :: _) _ _); refine wpList_load_rng 30 (.tmp 1) rfl (by kernel_rfl) _ _ rfl _ R24.out _ Try.underlying30 rfl (by kernel_rfl) ?_))
  try clear R24
  with_reducible refine (dwhead_any h A n c _ h0 h1).mono ?_
  rintro e w5 ⟨v5, rfl, hdw, b5⟩
  have y_hd_p := Lib.hid (hlt hp)
  have bl_en_hd := en.bl_new
  have bl_pb_hd := pb.bl_new
  have hdlo := bel.size
  have lz_hd := b5.size
  replace hp := blk_u hp b5
  replace en := en.below b5
  replace pb := pb.below b5
  replace bel := bel.trans (b5.mono bel.size)
  clear b5
  obtain ⟨Ahd, chd, rfl⟩ := own_val hdw
  have hd := (own_sl hdw).1
  have fr_hd := (own_sl hdw).2
  have av_hd_p := fr_hd.av y_hd_p.out
  go_wp2_with (first | ((with_reducible show wpList _ _ _ (⟨some 27, _, _, _, _, _⟩ :: _) _ _); refine wpList_append_bb _ rfl (.tmp 25) (.tmp 26) 34 rfl (w4.heap.size) 5 ii (.int .u8 0) Try.underlying34 hii hz0 hz1 hz2 rfl _ (240) (headB h) rfl hdw (A4) (np) (c4) ((putL L).1) rfl pb (by have := HMM.out; omega) lz_hd ?_; intro v27 w6 own_ bb; replace en := en.under bl_en_hd bb; replace pb := pb.under bl_pb_hd bb; replace hp := blk_under hp bb y_hd_p.out; replace bel := bel.trans (bb.mono hdlo); have lz_ab := Nat.le_trans lz_hd bb.size; clear bb; clear hd hdw lz_hd; replace own_ : w6.ownsRow (w4.heap.size) 5 1 v27 (m) ((headB h ++ ((putL L).1) : List UInt8).map u8v) := (by have q_ := own_; rw [HMM.out] at q_; exact q_); obtain ⟨A27, c27, rfl⟩ := own_val own_; have abw := own_; have ab := (own_sl own_).1; have fr_ab := (own_sl own_).2; clear own_; have av_ab_p := fr_ab.av y_hd_p.out) | ((with_reducible show wpList _ _ _ (⟨some 32, _, _, _, _, _⟩ :: _) _ _); refine wpList_max rfl (.const (.int .i64 0)) (.tmp 31) 3 3 rfl .i64 0 (k) ((k : Int)) rfl rfl hmx.out ?_) | ((with_reducible show wpList _ _ _ (⟨some 33, _, _, _, _, _⟩ :: _) _ _); refine wpList_append_zb rfl (.tmp 28) (.tmp 32) 34 3 rfl (w4.heap.size) 5 ii .i64 Try.underlying34 Try.underlying3 hii hz0 hz1 hz2 _ (m) (headB h ++ ((putL L).1)) rfl abw (k) rfl (by have := HMK.out; omega) lz_ab ?_; intro v33 w7 own_ bb; replace en := en.under bl_en_hd bb; replace pb := pb.under bl_pb_hd bb; replace hp := blk_under hp bb y_hd_p.out; replace bel := bel.trans (bb.mono hdlo); have lz_zr := Nat.le_trans lz_ab bb.size; clear bb; clear ab abw lz_ab; replace own_ : w7.ownsRow (w4.heap.size) 5 1 v33 (300) ((headB h ++ ((putL L).1) ++ (List.replicate (k) 0) : List UInt8).map u8v) := (by have q_ := own_; rw [HMK.out] at q_; exact q_); obtain ⟨A33, c33, rfl⟩ := own_val own_; have zrw := own_; have zr := (own_sl own_).1; have fr_zr := (own_sl own_).2; clear own_; have av_zr_p := fr_zr.av y_hd_p.out))
  exact bodyPost_ret (v := .tuple #[.slice A33 300 c33, .int .i64 0]) (by simp [results, Try.results9, go_sem]) rfl ⟨_, _, _, by rw [HP.out], by rw [HP.out]; exact zr, bel⟩
end Go.Proofs.Ytmljgpefbbifmaa
