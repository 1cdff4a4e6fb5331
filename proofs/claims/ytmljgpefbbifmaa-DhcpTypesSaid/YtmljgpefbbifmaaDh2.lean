/- dhcp's readHead. -/
import Derived.Test.YtmljgpefbbifmaaDh1
namespace Go.Proofs.Ytmljgpefbbifmaa
open Go.RowKit

theorem sz_drew {B : Nat} {w : World} (h : B ≤ w.heap.size) : B ≤ w.drew.heap.size := h
/-- copy of bytes into a piece of a block, as one step of a region that draws its order ('rw [if_pos (by rfl)]' ahead of it). -/
theorem wp_copy_part {P : Program} {o : Oper} {a : Act} {w : World} {K : Act → World → Prop} {Q : Exit → Act → World → Prop} (d s : Operand) (dT sT : TypeId)
    (ho : o.op = .call { callee := .builtin .copy, args := #[d, s], argTypes := #[dT, sT] }) (elem : TypeId) (hu : P.underlying dT = some (.slice elem)) (hsz : (P.info? elem).map (·.size) = some 1)
    (g off n c : Nat) (A : Option Addr) (l : List UInt8) (cs cs2 : List Value) (t : TypeId) (hd : a.eval d = .slice (some ⟨g, off, none⟩) n n) (hs : a.eval s = .slice A n c)
    (hg : w.heap[g]? = some (.cells cs.toArray t (0, 0))) (hfit : off + n ≤ cs.length) (hl : Sl w A n c l) (hn : 0 < n) (hc2 : cs.take off ++ l.map u8v ++ cs.drop (off + n) = cs2)
    (h : ∀ w', w'.heap[g]? = some (.cells cs2.toArray t (0, 0)) → w.grownBy w' (some g) → K (a.put o.dst (goInt n)) w') : Oper.wp P o a w K Q := by
  obtain ⟨q, r, rfl, _⟩ := hl.2.2.2 hn
  have hlen : (l.map u8v).length = n := by rw [List.length_map, hl.1]
  have hrun := run_copy_row (P := P) w dT sT o.type elem g off n n ⟨q, r, none⟩ n c cs.toArray t (l.map u8v) hu hsz hg (by rw [hlen]; exact (Nat.min_self n).symm) (hl.cells _ rfl) (by rw [hlen]; simpa using hfit) (oneCell_u8 l)
  rw [hlen] at hrun
  have hrow : (cs.toArray.toList.take off ++ l.map u8v ++ cs.toArray.toList.drop (off + n)).toArray = cs2.toArray := by
    rw [← hc2]
  rw [hrow] at hrun
  unfold Oper.wp
  simp [execOp, ho, resolve, invoke, builtin, hd, hs, hrun, Result.andThen]
  exact h _ (setRow_heap w g _ _ t _ hg) ⟨rfl, rfl, rfl, by simp [World.setRow], fun k _ hk => setRow_other w g k _ (fun e => hk (by rw [e]))⟩

theorem mac_m {lo gr : Nat} {x28 x29 x30 x31 x32 x33 : UInt8} {r : List UInt8} {s : Bool} (w : World) (h : Rs lo gr w (x28 :: x29 :: x30 :: x31 :: x32 :: x33 :: r) s) : Calls Try.prog 37 #[.pointer (some ⟨gr, 0, none⟩), .int .i64 6] w fun e w' => ∃ A c, e = .returned (.slice A 6 c) ∧ w'.ownsRow w.heap.size 5 1 (.slice A 6 c) 6 (([x28, x29, x30, x31, x32, x33] : List UInt8).map u8v) ∧ Rs lo gr w' r s ∧ w.grownBy w' (some gr) ∧ Kt [79] w w' := rs_bytes (k := 6) w h (by simp) (by decide)
theorem skip_m {lo gr : Nat} {u r : List UInt8} {s : Bool} (w : World) (h : Rs lo gr w (u ++ r) s) (hu : u.length = 202) : Calls Try.prog 37 #[.pointer (some ⟨gr, 0, none⟩), .int .i64 202] w fun e w' => ∃ A c, e = .returned (.slice A 202 c) ∧ Rs lo gr w' r s ∧ w.grownBy w' (some gr) ∧ Kt [79] w w' := by
  refine (rs_bytes (k := 202) w h (by rw [List.length_append]; omega) (by decide)).mono ?_
  rintro e w' ⟨A, c, rfl, _, h1, h2, h3⟩
  rw [List.drop_left' hu] at h1
  exact ⟨A, c, rfl, h1, h2, h3⟩
set_option linter.unusedVariables false in
set_option linter.unusedSimpArgs false in
set_option maxRecDepth 100000 in
set_option maxHeartbeats 16000000 in
theorem dhead_any {LB gr : Nat} {x0 x1 x2 x3 x4 x5 x6 x7 x8 x9 x10 x11 x12 x13 x14 x15 x16 x17 x18 x19 x20 x21 x22 x23 x24 x25 x26 x27 x28 x29 x30 x31 x32 x33 k0 k1 k2 k3 : UInt8} {u : List UInt8} (w : World) (hlo : LB ≤ w.heap.size) (org : LB ≤ gr) (hr : Rs w.heap.size gr w (x0 :: x1 :: x2 :: x3 :: x4 :: x5 :: x6 :: x7 :: x8 :: x9 :: x10 :: x11 :: x12 :: x13 :: x14 :: x15 :: x16 :: x17 :: x18 :: x19 :: x20 :: x21 :: x22 :: x23 :: x24 :: x25 :: x26 :: x27 :: x28 :: x29 :: x30 :: x31 :: x32 :: x33 :: (u ++ k0 :: k1 :: k2 :: k3 :: [])) false) (hu : u.length = 202) : Calls Try.prog 17 #[.pointer (some ⟨gr, 0, none⟩)] w fun e w' => e = .returned (.tuple #[.agg #[.int .i64 (x0.toNat : Int), .int .i64 (x3.toNat : Int), .int .u32 ((be [x4, x5, x6, x7] : Nat) : Int), .int .i64 ((be [x8, x9] : Nat) : Int), .int .i64 ((be [x10, x11] : Nat) : Int), .int .u8 (x12.toNat : Int), .int .u8 (x13.toNat : Int), .int .u8 (x14.toNat : Int), .int .u8 (x15.toNat : Int), .int .u8 (x16.toNat : Int), .int .u8 (x17.toNat : Int), .int .u8 (x18.toNat : Int), .int .u8 (x19.toNat : Int), .int .u8 (x20.toNat : Int), .int .u8 (x21.toNat : Int), .int .u8 (x22.toNat : Int), .int .u8 (x23.toNat : Int), .int .u8 (x24.toNat : Int), .int .u8 (x25.toNat : Int), .int .u8 (x26.toNat : Int), .int .u8 (x27.toNat : Int), .int .u8 (x28.toNat : Int), .int .u8 (x29.toNat : Int), .int .u8 (x30.toNat : Int), .int .u8 (x31.toNat : Int), .int .u8 (x32.toNat : Int), .int .u8 (x33.toNat : Int), .slice none 0 0], .bool (isOp (x0.toNat : Int) && ((x1.toNat : Int) == 1) && ((x2.toNat : Int) == 6) && (((be [k0, k1, k2, k3] : Nat) : Int) == 1669485411))]) ∧ Below LB w w' := by
  have bel := Below.refl LB w
  have hsz := Nat.le_refl w.heap.size
  go_enter Try.func17, Try.ntmps17
  go_wp2_with (first | ((with_reducible show wpList _ _ _ (⟨some 2, _, _, _, _, _⟩ :: _) _ _); refine wpList_new_a rfl 30 rfl #[.int .i64 0, .int .i64 0, .int .u32 0, .int .i64 0, .int .i64 0, .int .u8 0, .int .u8 0, .int .u8 0, .int .u8 0, .int .u8 0, .int .u8 0, .int .u8 0, .int .u8 0, .int .u8 0, .int .u8 0, .int .u8 0, .int .u8 0, .int .u8 0, .int .u8 0, .int .u8 0, .int .u8 0, .int .u8 0, .int .u8 0, .int .u8 0, .int .u8 0, .int .u8 0, .int .u8 0, .slice none 0 0] (by kernel_rfl) ?_; intro g2 w1 ge hh bb; have oz := Nat.le_trans (Nat.le_trans hlo bel.size) ge; have lo_z := Nat.le_trans hsz ge; replace hr := hr.below bb; replace hsz := Nat.le_trans hsz bb.size; replace bel := bel.trans (bb.mono (Nat.le_trans hlo bel.size)); have hz := hh; clear hh ge bb))
  with_reducible refine (rs_u8 _ hr).mono ?_
  rintro e w2 ⟨rfl, hr_, gg, k_⟩
  replace hz := Kt.blk k_ hz (by decide)
  replace hsz := Nat.le_trans hsz gg.size
  replace bel := below_grown bel gg org (Nat.le_trans hlo bel.size)
  clear hr gg k_
  have hr := hr_
  clear hr_
  go_wp2_with (first | ((with_reducible show wpList _ _ _ (⟨some 4, _, _, _, _, _⟩ :: _) _ _); refine wpList_new_a rfl 30 rfl #[.int .i64 0, .int .i64 0, .int .u32 0, .int .i64 0, .int .i64 0, .int .u8 0, .int .u8 0, .int .u8 0, .int .u8 0, .int .u8 0, .int .u8 0, .int .u8 0, .int .u8 0, .int .u8 0, .int .u8 0, .int .u8 0, .int .u8 0, .int .u8 0, .int .u8 0, .int .u8 0, .int .u8 0, .int .u8 0, .int .u8 0, .int .u8 0, .int .u8 0, .int .u8 0, .int .u8 0, .slice none 0 0] (by kernel_rfl) ?_; intro g4 w3 ge hh bb; have d_z_m := ne_new (hlt hz) ge; have om := Nat.le_trans (Nat.le_trans hlo bel.size) ge; have lo_m := Nat.le_trans hsz ge; replace hz := blk_u hz bb; replace hr := hr.below bb; replace hsz := Nat.le_trans hsz bb.size; replace bel := bel.trans (bb.mono (Nat.le_trans hlo bel.size)); have hm := hh; clear hh ge bb) | ((with_reducible show wpList _ _ _ (⟨none, Op.store _ (.tmp 4) _, _, _, _, _⟩ :: _) _ _); refine wpList_store_blk rfl 30 (.tmp 4) (.tmp 10) rfl g4 rfl _ rfl _ 30 hm (by rfl) (by kernel_rfl) (by kernel_rfl) ?_; intro w4 hq gr; replace hz := blk_a hz gr d_z_m; replace hr := hr.away gr lo_m; replace hsz := Nat.le_trans hsz gr.size; replace bel := below_grown bel gr om (Nat.le_trans hlo bel.size); clear hm; have hm := hq; clear hq gr))
  with_reducible refine (rs_u8 _ hr).mono ?_
  rintro e w5 ⟨rfl, hr_, gg, k_⟩
  replace hz := Kt.blk k_ hz (by decide)
  replace hm := Kt.blk k_ hm (by decide)
  replace hsz := Nat.le_trans hsz gg.size
  replace bel := below_grown bel gg org (Nat.le_trans hlo bel.size)
  clear hr gg k_
  have hr := hr_
  clear hr_
  go_wp2_with fail
  with_reducible refine (rs_u8 _ hr).mono ?_
  rintro e w6 ⟨rfl, hr_, gg, k_⟩
  replace hz := Kt.blk k_ hz (by decide)
  replace hm := Kt.blk k_ hm (by decide)
  replace hsz := Nat.le_trans hsz gg.size
  replace bel := below_grown bel gg org (Nat.le_trans hlo bel.size)
  clear hr gg k_
  have hr := hr_
  clear hr_
  go_wp2_with fail
  with_reducible refine (rs_u8 _ hr).mono ?_
  rintro e w7 ⟨rfl, hr_, gg, k_⟩
  replace hz := Kt.blk k_ hz (by decide)
  replace hm := Kt.blk k_ hm (by decide)
  replace hsz := Nat.le_trans hsz gg.size
  replace bel := below_grown bel gg org (Nat.le_trans hlo bel.size)
  clear hr gg k_
  have hr := hr_
  clear hr_
  go_wp2_with (first | ((with_reducible show wpList _ _ _ (⟨none, Op.store _ (.tmp 17) _, _, _, _, _⟩ :: _) _ _); refine wpList_store_part rfl 3 (.tmp 17) (.tmp 16) rfl g4 1 rfl [.int .i64 (x3.toNat : Int)] rfl [.int .i64 (x0.toNat : Int), .int .i64 0, .int .u32 0, .int .i64 0, .int .i64 0, .int .u8 0, .int .u8 0, .int .u8 0, .int .u8 0, .int .u8 0, .int .u8 0, .int .u8 0, .int .u8 0, .int .u8 0, .int .u8 0, .int .u8 0, .int .u8 0, .int .u8 0, .int .u8 0, .int .u8 0, .int .u8 0, .int .u8 0, .int .u8 0, .int .u8 0, .int .u8 0, .int .u8 0, .int .u8 0, .slice none 0 0] 30 hm (by simp) [.int .i64 (x0.toNat : Int), .int .i64 (x3.toNat : Int), .int .u32 0, .int .i64 0, .int .i64 0, .int .u8 0, .int .u8 0, .int .u8 0, .int .u8 0, .int .u8 0, .int .u8 0, .int .u8 0, .int .u8 0, .int .u8 0, .int .u8 0, .int .u8 0, .int .u8 0, .int .u8 0, .int .u8 0, .int .u8 0, .int .u8 0, .int .u8 0, .int .u8 0, .int .u8 0, .int .u8 0, .int .u8 0, .int .u8 0, .slice none 0 0] rfl (by kernel_rfl) (by rfl) ?_; intro w8 hq gr; replace hz := blk_a hz gr d_z_m; replace hr := hr.away gr lo_m; replace hsz := Nat.le_trans hsz gr.size; replace bel := below_grown bel gr om (Nat.le_trans hlo bel.size); clear hm; have hm := hq; clear hq gr))
  with_reducible refine (rs_u32 _ hr).mono ?_
  rintro e w9 ⟨rfl, hr_, gg, k_⟩
  replace hz := Kt.blk k_ hz (by decide)
  replace hm := Kt.blk k_ hm (by decide)
  replace hsz := Nat.le_trans hsz gg.size
  replace bel := below_grown bel gg org (Nat.le_trans hlo bel.size)
  clear hr gg k_
  have hr := hr_
  clear hr_
  go_wp2_with (first | ((with_reducible show wpList _ _ _ (⟨none, Op.store _ (.tmp 20) _, _, _, _, _⟩ :: _) _ _); refine wpList_store_part rfl 23 (.tmp 20) (.tmp 19) rfl g4 2 rfl [.int .u32 ((be [x4, x5, x6, x7] : Nat) : Int)] rfl [.int .i64 (x0.toNat : Int), .int .i64 (x3.toNat : Int), .int .u32 0, .int .i64 0, .int .i64 0, .int .u8 0, .int .u8 0, .int .u8 0, .int .u8 0, .int .u8 0, .int .u8 0, .int .u8 0, .int .u8 0, .int .u8 0, .int .u8 0, .int .u8 0, .int .u8 0, .int .u8 0, .int .u8 0, .int .u8 0, .int .u8 0, .int .u8 0, .int .u8 0, .int .u8 0, .int .u8 0, .int .u8 0, .int .u8 0, .slice none 0 0] 30 hm (by simp) [.int .i64 (x0.toNat : Int), .int .i64 (x3.toNat : Int), .int .u32 ((be [x4, x5, x6, x7] : Nat) : Int), .int .i64 0, .int .i64 0, .int .u8 0, .int .u8 0, .int .u8 0, .int .u8 0, .int .u8 0, .int .u8 0, .int .u8 0, .int .u8 0, .int .u8 0, .int .u8 0, .int .u8 0, .int .u8 0, .int .u8 0, .int .u8 0, .int .u8 0, .int .u8 0, .int .u8 0, .int .u8 0, .int .u8 0, .int .u8 0, .int .u8 0, .int .u8 0, .slice none 0 0] rfl (by kernel_rfl) (by rfl) ?_; intro w10 hq gr; replace hz := blk_a hz gr d_z_m; replace hr := hr.away gr lo_m; replace hsz := Nat.le_trans hsz gr.size; replace bel := below_grown bel gr om (Nat.le_trans hlo bel.size); clear hm; have hm := hq; clear hq gr))
  with_reducible refine (rs_u16 _ hr).mono ?_
  rintro e w11 ⟨rfl, hr_, gg, k_⟩
  replace hz := Kt.blk k_ hz (by decide)
  replace hm := Kt.blk k_ hm (by decide)
  replace hsz := Nat.le_trans hsz gg.size
  replace bel := below_grown bel gg org (Nat.le_trans hlo bel.size)
  clear hr gg k_
  have hr := hr_
  clear hr_
  go_wp2_with (first | ((with_reducible show wpList _ _ _ (⟨none, Op.store _ (.tmp 23) _, _, _, _, _⟩ :: _) _ _); refine wpList_store_part rfl 3 (.tmp 23) (.tmp 22) rfl g4 3 rfl [.int .i64 ((be [x8, x9] : Nat) : Int)] rfl [.int .i64 (x0.toNat : Int), .int .i64 (x3.toNat : Int), .int .u32 ((be [x4, x5, x6, x7] : Nat) : Int), .int .i64 0, .int .i64 0, .int .u8 0, .int .u8 0, .int .u8 0, .int .u8 0, .int .u8 0, .int .u8 0, .int .u8 0, .int .u8 0, .int .u8 0, .int .u8 0, .int .u8 0, .int .u8 0, .int .u8 0, .int .u8 0, .int .u8 0, .int .u8 0, .int .u8 0, .int .u8 0, .int .u8 0, .int .u8 0, .int .u8 0, .int .u8 0, .slice none 0 0] 30 hm (by simp) [.int .i64 (x0.toNat : Int), .int .i64 (x3.toNat : Int), .int .u32 ((be [x4, x5, x6, x7] : Nat) : Int), .int .i64 ((be [x8, x9] : Nat) : Int), .int .i64 0, .int .u8 0, .int .u8 0, .int .u8 0, .int .u8 0, .int .u8 0, .int .u8 0, .int .u8 0, .int .u8 0, .int .u8 0, .int .u8 0, .int .u8 0, .int .u8 0, .int .u8 0, .int .u8 0, .int .u8 0, .int .u8 0, .int .u8 0, .int .u8 0, .int .u8 0, .int .u8 0, .int .u8 0, .int .u8 0, .slice none 0 0] rfl (by kernel_rfl) (by rfl) ?_; intro w12 hq gr; replace hz := blk_a hz gr d_z_m; replace hr := hr.away gr lo_m; replace hsz := Nat.le_trans hsz gr.size; replace bel := below_grown bel gr om (Nat.le_trans hlo bel.size); clear hm; have hm := hq; clear hq gr))
  with_reducible refine (rs_u16 _ hr).mono ?_
  rintro e w13 ⟨rfl, hr_, gg, k_⟩
  replace hz := Kt.blk k_ hz (by decide)
  replace hm := Kt.blk k_ hm (by decide)
  replace hsz := Nat.le_trans hsz gg.size
  replace bel := below_grown bel gg org (Nat.le_trans hlo bel.size)
  clear hr gg k_
  have hr := hr_
  clear hr_
  go_wp2_with (first | ((with_reducible show wpList _ _ _ (⟨none, Op.store _ (.tmp 26) _, _, _, _, _⟩ :: _) _ _); refine wpList_store_part rfl 3 (.tmp 26) (.tmp 25) rfl g4 4 rfl [.int .i64 ((be [x10, x11] : Nat) : Int)] rfl [.int .i64 (x0.toNat : Int), .int .i64 (x3.toNat : Int), .int .u32 ((be [x4, x5, x6, x7] : Nat) : Int), .int .i64 ((be [x8, x9] : Nat) : Int), .int .i64 0, .int .u8 0, .int .u8 0, .int .u8 0, .int .u8 0, .int .u8 0, .int .u8 0, .int .u8 0, .int .u8 0, .int .u8 0, .int .u8 0, .int .u8 0, .int .u8 0, .int .u8 0, .int .u8 0, .int .u8 0, .int .u8 0, .int .u8 0, .int .u8 0, .int .u8 0, .int .u8 0, .int .u8 0, .int .u8 0, .slice none 0 0] 30 hm (by simp) [.int .i64 (x0.toNat : Int), .int .i64 (x3.toNat : Int), .int .u32 ((be [x4, x5, x6, x7] : Nat) : Int), .int .i64 ((be [x8, x9] : Nat) : Int), .int .i64 ((be [x10, x11] : Nat) : Int), .int .u8 0, .int .u8 0, .int .u8 0, .int .u8 0, .int .u8 0, .int .u8 0, .int .u8 0, .int .u8 0, .int .u8 0, .int .u8 0, .int .u8 0, .int .u8 0, .int .u8 0, .int .u8 0, .int .u8 0, .int .u8 0, .int .u8 0, .int .u8 0, .int .u8 0, .int .u8 0, .int .u8 0, .int .u8 0, .slice none 0 0] rfl (by kernel_rfl) (by rfl) ?_; intro w14 hq gr; replace hz := blk_a hz gr d_z_m; replace hr := hr.away gr lo_m; replace hsz := Nat.le_trans hsz gr.size; replace bel := below_grown bel gr om (Nat.le_trans hlo bel.size); clear hm; have hm := hq; clear hq gr))
  with_reducible refine (rs_addr _ hr hsz).mono ?_
  rintro e w15 ⟨rfl, hr_, gg, k_⟩
  replace hz := Kt.blk k_ hz (by decide)
  replace hm := Kt.blk k_ hm (by decide)
  replace hsz := Nat.le_trans hsz gg.size
  replace bel := below_grown bel gg org (Nat.le_trans hlo bel.size)
  clear hr gg k_
  have hr := hr_
  clear hr_
  go_wp2_with (first | ((with_reducible show wpList _ _ _ (⟨none, Op.store _ (.tmp 29) _, _, _, _, _⟩ :: _) _ _); refine wpList_store_part rfl 25 (.tmp 29) (.tmp 28) rfl g4 5 rfl [.int .u8 (x12.toNat : Int), .int .u8 (x13.toNat : Int), .int .u8 (x14.toNat : Int), .int .u8 (x15.toNat : Int)] rfl [.int .i64 (x0.toNat : Int), .int .i64 (x3.toNat : Int), .int .u32 ((be [x4, x5, x6, x7] : Nat) : Int), .int .i64 ((be [x8, x9] : Nat) : Int), .int .i64 ((be [x10, x11] : Nat) : Int), .int .u8 0, .int .u8 0, .int .u8 0, .int .u8 0, .int .u8 0, .int .u8 0, .int .u8 0, .int .u8 0, .int .u8 0, .int .u8 0, .int .u8 0, .int .u8 0, .int .u8 0, .int .u8 0, .int .u8 0, .int .u8 0, .int .u8 0, .int .u8 0, .int .u8 0, .int .u8 0, .int .u8 0, .int .u8 0, .slice none 0 0] 30 hm (by simp) [.int .i64 (x0.toNat : Int), .int .i64 (x3.toNat : Int), .int .u32 ((be [x4, x5, x6, x7] : Nat) : Int), .int .i64 ((be [x8, x9] : Nat) : Int), .int .i64 ((be [x10, x11] : Nat) : Int), .int .u8 (x12.toNat : Int), .int .u8 (x13.toNat : Int), .int .u8 (x14.toNat : Int), .int .u8 (x15.toNat : Int), .int .u8 0, .int .u8 0, .int .u8 0, .int .u8 0, .int .u8 0, .int .u8 0, .int .u8 0, .int .u8 0, .int .u8 0, .int .u8 0, .int .u8 0, .int .u8 0, .int .u8 0, .int .u8 0, .int .u8 0, .int .u8 0, .int .u8 0, .int .u8 0, .slice none 0 0] rfl (by kernel_rfl) (by rfl) ?_; intro w16 hq gr; replace hz := blk_a hz gr d_z_m; replace hr := hr.away gr lo_m; replace hsz := Nat.le_trans hsz gr.size; replace bel := below_grown bel gr om (Nat.le_trans hlo bel.size); clear hm; have hm := hq; clear hq gr))
  with_reducible refine (rs_addr _ hr hsz).mono ?_
  rintro e w17 ⟨rfl, hr_, gg, k_⟩
  replace hz := Kt.blk k_ hz (by decide)
  replace hm := Kt.blk k_ hm (by decide)
  replace hsz := Nat.le_trans hsz gg.size
  replace bel := below_grown bel gg org (Nat.le_trans hlo bel.size)
  clear hr gg k_
  have hr := hr_
  clear hr_
  go_wp2_with (first | ((with_reducible show wpList _ _ _ (⟨none, Op.store _ (.tmp 32) _, _, _, _, _⟩ :: _) _ _); refine wpList_store_part rfl 25 (.tmp 32) (.tmp 31) rfl g4 9 rfl [.int .u8 (x16.toNat : Int), .int .u8 (x17.toNat : Int), .int .u8 (x18.toNat : Int), .int .u8 (x19.toNat : Int)] rfl [.int .i64 (x0.toNat : Int), .int .i64 (x3.toNat : Int), .int .u32 ((be [x4, x5, x6, x7] : Nat) : Int), .int .i64 ((be [x8, x9] : Nat) : Int), .int .i64 ((be [x10, x11] : Nat) : Int), .int .u8 (x12.toNat : Int), .int .u8 (x13.toNat : Int), .int .u8 (x14.toNat : Int), .int .u8 (x15.toNat : Int), .int .u8 0, .int .u8 0, .int .u8 0, .int .u8 0, .int .u8 0, .int .u8 0, .int .u8 0, .int .u8 0, .int .u8 0, .int .u8 0, .int .u8 0, .int .u8 0, .int .u8 0, .int .u8 0, .int .u8 0, .int .u8 0, .int .u8 0, .int .u8 0, .slice none 0 0] 30 hm (by simp) [.int .i64 (x0.toNat : Int), .int .i64 (x3.toNat : Int), .int .u32 ((be [x4, x5, x6, x7] : Nat) : Int), .int .i64 ((be [x8, x9] : Nat) : Int), .int .i64 ((be [x10, x11] : Nat) : Int), .int .u8 (x12.toNat : Int), .int .u8 (x13.toNat : Int), .int .u8 (x14.toNat : Int), .int .u8 (x15.toNat : Int), .int .u8 (x16.toNat : Int), .int .u8 (x17.toNat : Int), .int .u8 (x18.toNat : Int), .int .u8 (x19.toNat : Int), .int .u8 0, .int .u8 0, .int .u8 0, .int .u8 0, .int .u8 0, .int .u8 0, .int .u8 0, .int .u8 0, .int .u8 0, .int .u8 0, .int .u8 0, .int .u8 0, .int .u8 0, .int .u8 0, .slice none 0 0] rfl (by kernel_rfl) (by rfl) ?_; intro w18 hq gr; replace hz := blk_a hz gr d_z_m; replace hr := hr.away gr lo_m; replace hsz := Nat.le_trans hsz gr.size; replace bel := below_grown bel gr om (Nat.le_trans hlo bel.size); clear hm; have hm := hq; clear hq gr))
  with_reducible refine (rs_addr _ hr hsz).mono ?_
  rintro e w19 ⟨rfl, hr_, gg, k_⟩
  replace hz := Kt.blk k_ hz (by decide)
  replace hm := Kt.blk k_ hm (by decide)
  replace hsz := Nat.le_trans hsz gg.size
  replace bel := below_grown bel gg org (Nat.le_trans hlo bel.size)
  clear hr gg k_
  have hr := hr_
  clear hr_
  go_wp2_with (first | ((with_reducible show wpList _ _ _ (⟨none, Op.store _ (.tmp 35) _, _, _, _, _⟩ :: _) _ _); refine wpList_store_part rfl 25 (.tmp 35) (.tmp 34) rfl g4 13 rfl [.int .u8 (x20.toNat : Int), .int .u8 (x21.toNat : Int), .int .u8 (x22.toNat : Int), .int .u8 (x23.toNat : Int)] rfl [.int .i64 (x0.toNat : Int), .int .i64 (x3.toNat : Int), .int .u32 ((be [x4, x5, x6, x7] : Nat) : Int), .int .i64 ((be [x8, x9] : Nat) : Int), .int .i64 ((be [x10, x11] : Nat) : Int), .int .u8 (x12.toNat : Int), .int .u8 (x13.toNat : Int), .int .u8 (x14.toNat : Int), .int .u8 (x15.toNat : Int), .int .u8 (x16.toNat : Int), .int .u8 (x17.toNat : Int), .int .u8 (x18.toNat : Int), .int .u8 (x19.toNat : Int), .int .u8 0, .int .u8 0, .int .u8 0, .int .u8 0, .int .u8 0, .int .u8 0, .int .u8 0, .int .u8 0, .int .u8 0, .int .u8 0, .int .u8 0, .int .u8 0, .int .u8 0, .int .u8 0, .slice none 0 0] 30 hm (by simp) [.int .i64 (x0.toNat : Int), .int .i64 (x3.toNat : Int), .int .u32 ((be [x4, x5, x6, x7] : Nat) : Int), .int .i64 ((be [x8, x9] : Nat) : Int), .int .i64 ((be [x10, x11] : Nat) : Int), .int .u8 (x12.toNat : Int), .int .u8 (x13.toNat : Int), .int .u8 (x14.toNat : Int), .int .u8 (x15.toNat : Int), .int .u8 (x16.toNat : Int), .int .u8 (x17.toNat : Int), .int .u8 (x18.toNat : Int), .int .u8 (x19.toNat : Int), .int .u8 (x20.toNat : Int), .int .u8 (x21.toNat : Int), .int .u8 (x22.toNat : Int), .int .u8 (x23.toNat : Int), .int .u8 0, .int .u8 0, .int .u8 0, .int .u8 0, .int .u8 0, .int .u8 0, .int .u8 0, .int .u8 0, .int .u8 0, .int .u8 0, .slice none 0 0] rfl (by kernel_rfl) (by rfl) ?_; intro w20 hq gr; replace hz := blk_a hz gr d_z_m; replace hr := hr.away gr lo_m; replace hsz := Nat.le_trans hsz gr.size; replace bel := below_grown bel gr om (Nat.le_trans hlo bel.size); clear hm; have hm := hq; clear hq gr))
  with_reducible refine (rs_addr _ hr hsz).mono ?_
  rintro e w21 ⟨rfl, hr_, gg, k_⟩
  replace hz := Kt.blk k_ hz (by decide)
  replace hm := Kt.blk k_ hm (by decide)
  replace hsz := Nat.le_trans hsz gg.size
  replace bel := below_grown bel gg org (Nat.le_trans hlo bel.size)
  clear hr gg k_
  have hr := hr_
  clear hr_
  go_wp2_with (first | ((with_reducible show wpList _ _ _ (⟨none, Op.store _ (.tmp 38) _, _, _, _, _⟩ :: _) _ _); refine wpList_store_part rfl 25 (.tmp 38) (.tmp 37) rfl g4 17 rfl [.int .u8 (x24.toNat : Int), .int .u8 (x25.toNat : Int), .int .u8 (x26.toNat : Int), .int .u8 (x27.toNat : Int)] rfl [.int .i64 (x0.toNat : Int), .int .i64 (x3.toNat : Int), .int .u32 ((be [x4, x5, x6, x7] : Nat) : Int), .int .i64 ((be [x8, x9] : Nat) : Int), .int .i64 ((be [x10, x11] : Nat) : Int), .int .u8 (x12.toNat : Int), .int .u8 (x13.toNat : Int), .int .u8 (x14.toNat : Int), .int .u8 (x15.toNat : Int), .int .u8 (x16.toNat : Int), .int .u8 (x17.toNat : Int), .int .u8 (x18.toNat : Int), .int .u8 (x19.toNat : Int), .int .u8 (x20.toNat : Int), .int .u8 (x21.toNat : Int), .int .u8 (x22.toNat : Int), .int .u8 (x23.toNat : Int), .int .u8 0, .int .u8 0, .int .u8 0, .int .u8 0, .int .u8 0, .int .u8 0, .int .u8 0, .int .u8 0, .int .u8 0, .int .u8 0, .slice none 0 0] 30 hm (by simp) [.int .i64 (x0.toNat : Int), .int .i64 (x3.toNat : Int), .int .u32 ((be [x4, x5, x6, x7] : Nat) : Int), .int .i64 ((be [x8, x9] : Nat) : Int), .int .i64 ((be [x10, x11] : Nat) : Int), .int .u8 (x12.toNat : Int), .int .u8 (x13.toNat : Int), .int .u8 (x14.toNat : Int), .int .u8 (x15.toNat : Int), .int .u8 (x16.toNat : Int), .int .u8 (x17.toNat : Int), .int .u8 (x18.toNat : Int), .int .u8 (x19.toNat : Int), .int .u8 (x20.toNat : Int), .int .u8 (x21.toNat : Int), .int .u8 (x22.toNat : Int), .int .u8 (x23.toNat : Int), .int .u8 (x24.toNat : Int), .int .u8 (x25.toNat : Int), .int .u8 (x26.toNat : Int), .int .u8 (x27.toNat : Int), .int .u8 0, .int .u8 0, .int .u8 0, .int .u8 0, .int .u8 0, .int .u8 0, .slice none 0 0] rfl (by kernel_rfl) (by rfl) ?_; intro w22 hq gr; replace hz := blk_a hz gr d_z_m; replace hr := hr.away gr lo_m; replace hsz := Nat.le_trans hsz gr.size; replace bel := below_grown bel gr om (Nat.le_trans hlo bel.size); clear hm; have hm := hq; clear hq gr))
  replace bel := bel.drew
  replace hz : w22.drew.heap[g2]? = _ := hz
  replace hm : w22.drew.heap[g4]? = _ := hm
  replace hr := hr.drew
  replace hsz := sz_drew hsz
  refine wp_region_held_drew (S := fun _ => True) (by kernel_rfl) trivial (fun hH => ?_)
  generalize w22.drew = w23 at bel hz hm hr hsz hH ⊢
  refine wpAnyH_take (i := 0) (v := ?_) rfl (by kernel_rfl) (by kernel_rfl) (by kernel_rfl) (fun _ _ _ h => h) (Or.inl ⟨by rfl, ?_⟩) hH ?_
  rotate_left
  · ((intro W hW; clear hW; go_simp) <;> with_reducible rfl)
  simp only [Act.put, List.getElem_toArray, List.getElem_cons_zero, List.setIfInBounds_toArray, List.set_cons_zero, List.set_cons_succ]
  refine wpAnyH_take (i := 1) (v := ?_) rfl (by kernel_rfl) (by kernel_rfl) (by kernel_rfl) (fun _ _ _ h => h) (Or.inl ⟨by rfl, ?_⟩) hH ?_
  rotate_left
  · ((intro W hW; clear hW; go_simp) <;> with_reducible rfl)
  simp only [Act.put, List.getElem_toArray, List.getElem_cons_zero, List.getElem_cons_succ, List.setIfInBounds_toArray, List.set_cons_zero, List.set_cons_succ]
  refine wpAnyH_take (i := 2) (v := ?_) rfl (by kernel_rfl) (by kernel_rfl) (by kernel_rfl) (fun _ _ _ h => h) (Or.inl ⟨by rfl, ?_⟩) hH ?_
  rotate_left
  · ((intro W hW; clear hW; go_simp) <;> with_reducible rfl)
  simp only [Act.put, List.getElem_toArray, List.getElem_cons_zero, List.getElem_cons_succ, List.setIfInBounds_toArray, List.set_cons_zero, List.set_cons_succ]
  refine wpAnyH_ready (rs := [3]) (by kernel_rfl) (by simp) ?_
  refine AllReadyH.cons (o := _) rfl (fun K hK => ?_) AllReadyH.nil
  simp only [List.getElem_toArray, List.getElem_cons_zero, List.getElem_cons_succ]
  go_simp
  with_reducible refine (mac_m _ hr).mono ?_
  rintro e w24 ⟨Am, cm, rfl, ow, hr_, gg, k_⟩
  dsimp only
  replace hz := Kt.blk k_ hz (by decide)
  replace hm := Kt.blk k_ hm (by decide)
  have mb := (own_sl ow).1
  clear ow
  replace hsz := Nat.le_trans hsz gg.size
  replace bel := below_grown bel gg org (Nat.le_trans hlo bel.size)
  clear hr gg k_
  have hr := hr_
  clear hr_
  refine hK.out _ _ trivial (fun hH25 => ?_)
  clear hK K
  refine wpAnyH_ready (rs := [4]) (by kernel_rfl) (by simp) ?_
  refine AllReadyH.cons (o := _) rfl (fun K hK => ?_) AllReadyH.nil
  simp only [List.getElem_toArray, List.getElem_cons_zero, List.getElem_cons_succ]
  rw [if_pos (by rfl)]
  refine wp_copy_part (.tmp 40) (.tmp 42) 34 34 rfl 5 Try.underlying34 (by kernel_rfl) g4 21 6 cm Am [x28, x29, x30, x31, x32, x33] [.int .i64 (x0.toNat : Int), .int .i64 (x3.toNat : Int), .int .u32 ((be [x4, x5, x6, x7] : Nat) : Int), .int .i64 ((be [x8, x9] : Nat) : Int), .int .i64 ((be [x10, x11] : Nat) : Int), .int .u8 (x12.toNat : Int), .int .u8 (x13.toNat : Int), .int .u8 (x14.toNat : Int), .int .u8 (x15.toNat : Int), .int .u8 (x16.toNat : Int), .int .u8 (x17.toNat : Int), .int .u8 (x18.toNat : Int), .int .u8 (x19.toNat : Int), .int .u8 (x20.toNat : Int), .int .u8 (x21.toNat : Int), .int .u8 (x22.toNat : Int), .int .u8 (x23.toNat : Int), .int .u8 (x24.toNat : Int), .int .u8 (x25.toNat : Int), .int .u8 (x26.toNat : Int), .int .u8 (x27.toNat : Int), .int .u8 0, .int .u8 0, .int .u8 0, .int .u8 0, .int .u8 0, .int .u8 0, .slice none 0 0] [.int .i64 (x0.toNat : Int), .int .i64 (x3.toNat : Int), .int .u32 ((be [x4, x5, x6, x7] : Nat) : Int), .int .i64 ((be [x8, x9] : Nat) : Int), .int .i64 ((be [x10, x11] : Nat) : Int), .int .u8 (x12.toNat : Int), .int .u8 (x13.toNat : Int), .int .u8 (x14.toNat : Int), .int .u8 (x15.toNat : Int), .int .u8 (x16.toNat : Int), .int .u8 (x17.toNat : Int), .int .u8 (x18.toNat : Int), .int .u8 (x19.toNat : Int), .int .u8 (x20.toNat : Int), .int .u8 (x21.toNat : Int), .int .u8 (x22.toNat : Int), .int .u8 (x23.toNat : Int), .int .u8 (x24.toNat : Int), .int .u8 (x25.toNat : Int), .int .u8 (x26.toNat : Int), .int .u8 (x27.toNat : Int), .int .u8 (x28.toNat : Int), .int .u8 (x29.toNat : Int), .int .u8 (x30.toNat : Int), .int .u8 (x31.toNat : Int), .int .u8 (x32.toNat : Int), .int .u8 (x33.toNat : Int), .slice none 0 0] 30 rfl rfl hm (by simp) mb (by omega) rfl ?_
  intro w26 hq gr_
  clear mb
  replace hz := blk_a hz gr_ d_z_m
  replace hr := hr.away gr_ lo_m
  replace hsz := Nat.le_trans hsz gr_.size
  replace bel := below_grown bel gr_ om (Nat.le_trans hlo bel.size)
  clear hm
  have hm := hq
  clear hq gr_
  refine hK.out _ _ trivial (fun hH27 => ?_)
  clear hK K
  simp only [Act.put, List.setIfInBounds_toArray, List.set_cons_zero, List.set_cons_succ]
  refine wpAnyH_done (by kernel_rfl) ?_ _
  go_wp2_with fail
  with_reducible refine (skip_m _ hr hu).mono ?_
  rintro e w28 ⟨Au, cu, rfl, hr_, gg, k_⟩
  replace hz := Kt.blk k_ hz (by decide)
  replace hm := Kt.blk k_ hm (by decide)
  replace hsz := Nat.le_trans hsz gg.size
  replace bel := below_grown bel gg org (Nat.le_trans hlo bel.size)
  clear hr gg k_
  have hr := hr_
  clear hr_
  go_wp2_with fail
  with_reducible refine (rs_u32 _ hr).mono ?_
  rintro e w29 ⟨rfl, hr_, gg, k_⟩
  replace hz := Kt.blk k_ hz (by decide)
  replace hm := Kt.blk k_ hm (by decide)
  replace hsz := Nat.le_trans hsz gg.size
  replace bel := below_grown bel gg org (Nat.le_trans hlo bel.size)
  clear hr gg k_
  have hr := hr_
  clear hr_
  rcases (by decide : ∀ b : Bool, b = true ∨ b = false) (isOp (x0.toNat : Int)) with ho | ho
  rotate_left
  · have HP : Hid ((isOp (x0.toNat : Int) && ((x1.toNat : Int) == 1) && ((x2.toNat : Int) == 6) && (((be [k0, k1, k2, k3] : Nat) : Int) == 1669485411)) = false) := Lib.hid (by rw [ho]; simp)
    have HO := Lib.hid ho
    clear ho
    go_wp2_with fail
    replace bel := bel.drew
    replace hz : w29.drew.heap[g2]? = _ := hz
    replace hm : w29.drew.heap[g4]? = _ := hm
    replace hr := hr.drew
    replace hsz := sz_drew hsz
    refine wp_region_held_drew (S := fun W => W.heap[g4]? = some (.cells #[.int .i64 (x0.toNat : Int), .int .i64 (x3.toNat : Int), .int .u32 ((be [x4, x5, x6, x7] : Nat) : Int), .int .i64 ((be [x8, x9] : Nat) : Int), .int .i64 ((be [x10, x11] : Nat) : Int), .int .u8 (x12.toNat : Int), .int .u8 (x13.toNat : Int), .int .u8 (x14.toNat : Int), .int .u8 (x15.toNat : Int), .int .u8 (x16.toNat : Int), .int .u8 (x17.toNat : Int), .int .u8 (x18.toNat : Int), .int .u8 (x19.toNat : Int), .int .u8 (x20.toNat : Int), .int .u8 (x21.toNat : Int), .int .u8 (x22.toNat : Int), .int .u8 (x23.toNat : Int), .int .u8 (x24.toNat : Int), .int .u8 (x25.toNat : Int), .int .u8 (x26.toNat : Int), .int .u8 (x27.toNat : Int), .int .u8 (x28.toNat : Int), .int .u8 (x29.toNat : Int), .int .u8 (x30.toNat : Int), .int .u8 (x31.toNat : Int), .int .u8 (x32.toNat : Int), .int .u8 (x33.toNat : Int), .slice none 0 0] 30 (0, 0))) (by kernel_rfl) hm (fun hH => ?_)
    generalize w29.drew = w30 at bel hz hm hr hsz hH ⊢
    refine wpAnyH_take (i := 0) (v := .agg #[.int .i64 (x0.toNat : Int), .int .i64 (x3.toNat : Int), .int .u32 ((be [x4, x5, x6, x7] : Nat) : Int), .int .i64 ((be [x8, x9] : Nat) : Int), .int .i64 ((be [x10, x11] : Nat) : Int), .int .u8 (x12.toNat : Int), .int .u8 (x13.toNat : Int), .int .u8 (x14.toNat : Int), .int .u8 (x15.toNat : Int), .int .u8 (x16.toNat : Int), .int .u8 (x17.toNat : Int), .int .u8 (x18.toNat : Int), .int .u8 (x19.toNat : Int), .int .u8 (x20.toNat : Int), .int .u8 (x21.toNat : Int), .int .u8 (x22.toNat : Int), .int .u8 (x23.toNat : Int), .int .u8 (x24.toNat : Int), .int .u8 (x25.toNat : Int), .int .u8 (x26.toNat : Int), .int .u8 (x27.toNat : Int), .int .u8 (x28.toNat : Int), .int .u8 (x29.toNat : Int), .int .u8 (x30.toNat : Int), .int .u8 (x31.toNat : Int), .int .u8 (x32.toNat : Int), .int .u8 (x33.toNat : Int), .slice none 0 0]) rfl (by kernel_rfl) (by kernel_rfl) (by kernel_rfl) (fun _ _ _ h => h) (yieldsIf_load_part (by kernel_rfl) 30 _ rfl g4 0 28 rfl _ 30 (0, 0) (fun W hW => hW) _ rfl _ Try.underlying30 rfl (by kernel_rfl)) hH ?_
    simp only [Act.put, List.getElem_toArray, List.getElem_cons_zero, List.setIfInBounds_toArray, List.set_cons_zero, List.set_cons_succ]
    refine wpAnyH_take (i := 1) (v := ?_) rfl (by kernel_rfl) (by kernel_rfl) (by kernel_rfl) (fun _ _ _ h => h) (Or.inl ⟨by rfl, ?_⟩) hH ?_
    rotate_left
    · ((intro W hW; clear hW; go_simp) <;> with_reducible rfl)
    simp only [Act.put, List.getElem_toArray, List.getElem_cons_zero, List.getElem_cons_succ, List.setIfInBounds_toArray, List.set_cons_zero, List.set_cons_succ]
    refine wpAnyH_take (i := 2) (v := ?_) rfl (by kernel_rfl) (by kernel_rfl) (by kernel_rfl) (fun _ _ _ h => h) (Or.inl ⟨by rfl, ?_⟩) hH ?_
    rotate_left
    · ((intro W hW; have hk := cell_lit (hW) 0 _ rfl; clear hW; go_simp) <;> with_reducible rfl)
    simp only [Act.put, List.getElem_toArray, List.getElem_cons_zero, List.getElem_cons_succ, List.setIfInBounds_toArray, List.set_cons_zero, List.set_cons_succ]
    refine wpAnyH_ready (rs := [3]) (by kernel_rfl) (by simp) ?_
    refine AllReadyH.cons (o := _) rfl (fun K hK => ?_) AllReadyH.nil
    simp only [List.getElem_toArray, List.getElem_cons_zero, List.getElem_cons_succ]
    go_simp
    with_reducible refine (dknown_any _ _).mono ?_
    rintro e _ ⟨rfl, rfl⟩
    dsimp only
    rw [HO.out]
    refine hK.out _ _ hm (fun hH31 => ?_)
    clear hK K
    refine wpAnyH_take (i := 4) (v := ?_) rfl (by kernel_rfl) (by kernel_rfl) (by kernel_rfl) (fun _ _ _ h => h) (Or.inl ⟨by rfl, ?_⟩) hH31 ?_
    rotate_left
    · ((intro W hW; clear hW; go_simp) <;> with_reducible rfl)
    simp only [Act.put, List.getElem_toArray, List.getElem_cons_zero, List.getElem_cons_succ, List.setIfInBounds_toArray, List.set_cons_zero, List.set_cons_succ]
    refine wpAnyH_take (i := 5) (v := undef) rfl (by kernel_rfl) (by kernel_rfl) (by kernel_rfl) (fun _ _ _ h => h) (Or.inr ⟨by rfl, rfl⟩) hH31 ?_
    simp only [Act.put, List.getElem_toArray, List.getElem_cons_zero, List.getElem_cons_succ, List.setIfInBounds_toArray, List.set_cons_zero, List.set_cons_succ]
    refine wpAnyH_take (i := 6) (v := undef) rfl (by kernel_rfl) (by kernel_rfl) (by kernel_rfl) (fun _ _ _ h => h) (Or.inr ⟨by rfl, rfl⟩) hH31 ?_
    simp only [Act.put, List.getElem_toArray, List.getElem_cons_zero, List.getElem_cons_succ, List.setIfInBounds_toArray, List.set_cons_zero, List.set_cons_succ]
    refine wpAnyH_take (i := 7) (v := ?_) rfl (by kernel_rfl) (by kernel_rfl) (by kernel_rfl) (fun _ _ _ h => h) (Or.inl ⟨by rfl, ?_⟩) hH31 ?_
    rotate_left
    · ((intro W hW; clear hW; go_simp) <;> with_reducible rfl)
    simp only [Act.put, List.getElem_toArray, List.getElem_cons_zero, List.getElem_cons_succ, List.setIfInBounds_toArray, List.set_cons_zero, List.set_cons_succ]
    refine wpAnyH_take (i := 8) (v := ?_) rfl (by kernel_rfl) (by kernel_rfl) (by kernel_rfl) (fun _ _ _ h => h) (Or.inl ⟨by rfl, ?_⟩) hH31 ?_
    rotate_left
    · ((intro W hW; clear hW; go_simp) <;> with_reducible rfl)
    simp only [Act.put, List.getElem_toArray, List.getElem_cons_zero, List.getElem_cons_succ, List.setIfInBounds_toArray, List.set_cons_zero, List.set_cons_succ]
    refine wpAnyH_take (i := 9) (v := undef) rfl (by kernel_rfl) (by kernel_rfl) (by kernel_rfl) (fun _ _ _ h => h) (Or.inr ⟨by rfl, rfl⟩) hH31 ?_
    simp only [Act.put, List.getElem_toArray, List.getElem_cons_zero, List.getElem_cons_succ, List.setIfInBounds_toArray, List.set_cons_zero, List.set_cons_succ]
    refine wpAnyH_take (i := 10) (v := undef) rfl (by kernel_rfl) (by kernel_rfl) (by kernel_rfl) (fun _ _ _ h => h) (Or.inr ⟨by rfl, rfl⟩) hH31 ?_
    simp only [Act.put, List.getElem_toArray, List.getElem_cons_zero, List.getElem_cons_succ, List.setIfInBounds_toArray, List.set_cons_zero, List.set_cons_succ]
    refine wpAnyH_take (i := 11) (v := ?_) rfl (by kernel_rfl) (by kernel_rfl) (by kernel_rfl) (fun _ _ _ h => h) (Or.inl ⟨by rfl, ?_⟩) hH31 ?_
    rotate_left
    · ((intro W hW; clear hW; go_simp) <;> with_reducible rfl)
    simp only [Act.put, List.getElem_toArray, List.getElem_cons_zero, List.getElem_cons_succ, List.setIfInBounds_toArray, List.set_cons_zero, List.set_cons_succ]
    refine wpAnyH_take (i := 12) (v := ?_) rfl (by kernel_rfl) (by kernel_rfl) (by kernel_rfl) (fun _ _ _ h => h) (Or.inl ⟨by rfl, ?_⟩) hH31 ?_
    rotate_left
    · ((intro W hW; clear hW; go_simp) <;> with_reducible rfl)
    simp only [Act.put, List.getElem_toArray, List.getElem_cons_zero, List.getElem_cons_succ, List.setIfInBounds_toArray, List.set_cons_zero, List.set_cons_succ]
    refine wpAnyH_take (i := 13) (v := undef) rfl (by kernel_rfl) (by kernel_rfl) (by kernel_rfl) (fun _ _ _ h => h) (Or.inr ⟨by rfl, rfl⟩) hH31 ?_
    simp only [Act.put, List.getElem_toArray, List.getElem_cons_zero, List.getElem_cons_succ, List.setIfInBounds_toArray, List.set_cons_zero, List.set_cons_succ]
    refine wpAnyH_take (i := 14) (v := undef) rfl (by kernel_rfl) (by kernel_rfl) (by kernel_rfl) (fun _ _ _ h => h) (Or.inr ⟨by rfl, rfl⟩) hH31 ?_
    simp only [Act.put, List.getElem_toArray, List.getElem_cons_zero, List.getElem_cons_succ, List.setIfInBounds_toArray, List.set_cons_zero, List.set_cons_succ]
    refine wpAnyH_take (i := 15) (v := ?_) rfl (by kernel_rfl) (by kernel_rfl) (by kernel_rfl) (fun _ _ _ h => h) (Or.inl ⟨by rfl, ?_⟩) hH31 ?_
    rotate_left
    · ((intro W hW; clear hW; go_simp) <;> with_reducible rfl)
    simp only [Act.put, List.getElem_toArray, List.getElem_cons_zero, List.getElem_cons_succ, List.setIfInBounds_toArray, List.set_cons_zero, List.set_cons_succ]
    refine wpAnyH_ready (rs := [16]) (by kernel_rfl) (by simp) ?_
    refine AllReadyH.cons (o := _) rfl (fun K hK => ?_) AllReadyH.nil
    simp only [List.getElem_toArray, List.getElem_cons_zero, List.getElem_cons_succ]
    rw [if_pos (by rfl)]
    refine wp_store_blk 30 (.tmp 2) (.tmp 48) rfl g2 rfl _ rfl _ 30 hz (by rfl) (by kernel_rfl) (by kernel_rfl) ?_
    intro w32 hq gr
    replace hm := blk_a hm gr (ne_symm d_z_m)
    replace hr := hr.away gr lo_z
    replace hsz := Nat.le_trans hsz gr.size
    replace bel := below_grown bel gr oz (Nat.le_trans hlo bel.size)
    clear hz
    have hz := hq
    clear hq gr
    refine hK.out _ _ hm (fun hH33 => ?_)
    clear hK K
    simp only [Act.put]
    refine wpAnyH_take (i := 17) (v := ?_) rfl (by kernel_rfl) (by kernel_rfl) (by kernel_rfl) (fun _ _ _ h => h) (Or.inl ⟨by rfl, ?_⟩) hH33 ?_
    rotate_left
    · ((intro W hW; clear hW; go_simp) <;> with_reducible rfl)
    simp only [Act.put, List.getElem_toArray, List.getElem_cons_zero, List.getElem_cons_succ, List.setIfInBounds_toArray, List.set_cons_zero, List.set_cons_succ]
    refine wpAnyH_done (by kernel_rfl) ?_ _
    go_wp2_with fail
    exact bodyPost_ret (results_cell_tmp_row rfl _ _ _ _ _ _ _ rfl hz Try.underlying30 rfl (by kernel_rfl) (.bool false) rfl) rfl ⟨by rw [HP.out], bel⟩
  have HO := Lib.hid ho
  rcases (by decide : ∀ b : Bool, b = true ∨ b = false) ((x1.toNat : Int) == 1) with h1 | h1
  rotate_left
  · have HP : Hid ((isOp (x0.toNat : Int) && ((x1.toNat : Int) == 1) && ((x2.toNat : Int) == 6) && (((be [k0, k1, k2, k3] : Nat) : Int) == 1669485411)) = false) := Lib.hid (by rw [h1]; simp)
    clear ho
    go_wp2_with fail
    replace bel := bel.drew
    replace hz : w29.drew.heap[g2]? = _ := hz
    replace hm : w29.drew.heap[g4]? = _ := hm
    replace hr := hr.drew
    replace hsz := sz_drew hsz
    refine wp_region_held_drew (S := fun W => W.heap[g4]? = some (.cells #[.int .i64 (x0.toNat : Int), .int .i64 (x3.toNat : Int), .int .u32 ((be [x4, x5, x6, x7] : Nat) : Int), .int .i64 ((be [x8, x9] : Nat) : Int), .int .i64 ((be [x10, x11] : Nat) : Int), .int .u8 (x12.toNat : Int), .int .u8 (x13.toNat : Int), .int .u8 (x14.toNat : Int), .int .u8 (x15.toNat : Int), .int .u8 (x16.toNat : Int), .int .u8 (x17.toNat : Int), .int .u8 (x18.toNat : Int), .int .u8 (x19.toNat : Int), .int .u8 (x20.toNat : Int), .int .u8 (x21.toNat : Int), .int .u8 (x22.toNat : Int), .int .u8 (x23.toNat : Int), .int .u8 (x24.toNat : Int), .int .u8 (x25.toNat : Int), .int .u8 (x26.toNat : Int), .int .u8 (x27.toNat : Int), .int .u8 (x28.toNat : Int), .int .u8 (x29.toNat : Int), .int .u8 (x30.toNat : Int), .int .u8 (x31.toNat : Int), .int .u8 (x32.toNat : Int), .int .u8 (x33.toNat : Int), .slice none 0 0] 30 (0, 0))) (by kernel_rfl) hm (fun hH => ?_)
    generalize w29.drew = w30 at bel hz hm hr hsz hH ⊢
    refine wpAnyH_take (i := 0) (v := .agg #[.int .i64 (x0.toNat : Int), .int .i64 (x3.toNat : Int), .int .u32 ((be [x4, x5, x6, x7] : Nat) : Int), .int .i64 ((be [x8, x9] : Nat) : Int), .int .i64 ((be [x10, x11] : Nat) : Int), .int .u8 (x12.toNat : Int), .int .u8 (x13.toNat : Int), .int .u8 (x14.toNat : Int), .int .u8 (x15.toNat : Int), .int .u8 (x16.toNat : Int), .int .u8 (x17.toNat : Int), .int .u8 (x18.toNat : Int), .int .u8 (x19.toNat : Int), .int .u8 (x20.toNat : Int), .int .u8 (x21.toNat : Int), .int .u8 (x22.toNat : Int), .int .u8 (x23.toNat : Int), .int .u8 (x24.toNat : Int), .int .u8 (x25.toNat : Int), .int .u8 (x26.toNat : Int), .int .u8 (x27.toNat : Int), .int .u8 (x28.toNat : Int), .int .u8 (x29.toNat : Int), .int .u8 (x30.toNat : Int), .int .u8 (x31.toNat : Int), .int .u8 (x32.toNat : Int), .int .u8 (x33.toNat : Int), .slice none 0 0]) rfl (by kernel_rfl) (by kernel_rfl) (by kernel_rfl) (fun _ _ _ h => h) (yieldsIf_load_part (by kernel_rfl) 30 _ rfl g4 0 28 rfl _ 30 (0, 0) (fun W hW => hW) _ rfl _ Try.underlying30 rfl (by kernel_rfl)) hH ?_
    simp only [Act.put, List.getElem_toArray, List.getElem_cons_zero, List.setIfInBounds_toArray, List.set_cons_zero, List.set_cons_succ]
    refine wpAnyH_take (i := 1) (v := ?_) rfl (by kernel_rfl) (by kernel_rfl) (by kernel_rfl) (fun _ _ _ h => h) (Or.inl ⟨by rfl, ?_⟩) hH ?_
    rotate_left
    · ((intro W hW; clear hW; go_simp) <;> with_reducible rfl)
    simp only [Act.put, List.getElem_toArray, List.getElem_cons_zero, List.getElem_cons_succ, List.setIfInBounds_toArray, List.set_cons_zero, List.set_cons_succ]
    refine wpAnyH_take (i := 2) (v := ?_) rfl (by kernel_rfl) (by kernel_rfl) (by kernel_rfl) (fun _ _ _ h => h) (Or.inl ⟨by rfl, ?_⟩) hH ?_
    rotate_left
    · ((intro W hW; have hk := cell_lit (hW) 0 _ rfl; clear hW; go_simp) <;> with_reducible rfl)
    simp only [Act.put, List.getElem_toArray, List.getElem_cons_zero, List.getElem_cons_succ, List.setIfInBounds_toArray, List.set_cons_zero, List.set_cons_succ]
    refine wpAnyH_ready (rs := [3]) (by kernel_rfl) (by simp) ?_
    refine AllReadyH.cons (o := _) rfl (fun K hK => ?_) AllReadyH.nil
    simp only [List.getElem_toArray, List.getElem_cons_zero, List.getElem_cons_succ]
    go_simp
    with_reducible refine (dknown_any _ _).mono ?_
    rintro e _ ⟨rfl, rfl⟩
    dsimp only
    rw [HO.out]
    refine hK.out _ _ hm (fun hH31 => ?_)
    clear hK K
    refine wpAnyH_take (i := 4) (v := ?_) rfl (by kernel_rfl) (by kernel_rfl) (by kernel_rfl) (fun _ _ _ h => h) (Or.inl ⟨by rfl, ?_⟩) hH31 ?_
    rotate_left
    · ((intro W hW; clear hW; go_simp) <;> with_reducible rfl)
    simp only [Act.put, List.getElem_toArray, List.getElem_cons_zero, List.getElem_cons_succ, List.setIfInBounds_toArray, List.set_cons_zero, List.set_cons_succ]
    refine wpAnyH_take (i := 5) (v := ?_) rfl (by kernel_rfl) (by kernel_rfl) (by kernel_rfl) (fun _ _ _ h => h) (Or.inl ⟨by rfl, ?_⟩) hH31 ?_
    rotate_left
    · ((intro W hW; clear hW; go_simp) <;> with_reducible rfl)
    simp only [Act.put, List.getElem_toArray, List.getElem_cons_zero, List.getElem_cons_succ, List.setIfInBounds_toArray, List.set_cons_zero, List.set_cons_succ]
    refine wpAnyH_take (i := 6) (v := ?_) rfl (by kernel_rfl) (by kernel_rfl) (by kernel_rfl) (fun _ _ _ h => h) (Or.inl ⟨by rfl, ?_⟩) hH31 ?_
    rotate_left
    · ((intro W hW; clear hW; go_simp) <;> with_reducible rfl)
    simp only [Act.put, List.getElem_toArray, List.getElem_cons_zero, List.getElem_cons_succ, List.setIfInBounds_toArray, List.set_cons_zero, List.set_cons_succ]
    refine wpAnyH_take (i := 7) (v := ?_) rfl (by kernel_rfl) (by kernel_rfl) (by kernel_rfl) (fun _ _ _ h => h) (Or.inl ⟨by rfl, ?_⟩) hH31 ?_
    rotate_left
    · ((intro W hW; clear hW; go_simp) <;> with_reducible rfl)
    simp only [Act.put, List.getElem_toArray, List.getElem_cons_zero, List.getElem_cons_succ, List.setIfInBounds_toArray, List.set_cons_zero, List.set_cons_succ]
    refine wpAnyH_take (i := 8) (v := ?_) rfl (by kernel_rfl) (by kernel_rfl) (by kernel_rfl) (fun _ _ _ h => h) (Or.inl ⟨by rfl, ?_⟩) hH31 ?_
    rotate_left
    · ((intro W hW; clear hW; go_simp) <;> with_reducible rfl)
    simp only [Act.put, List.getElem_toArray, List.getElem_cons_zero, List.getElem_cons_succ, List.setIfInBounds_toArray, List.set_cons_zero, List.set_cons_succ]
    refine wpAnyH_take (i := 9) (v := undef) rfl (by kernel_rfl) (by kernel_rfl) (by kernel_rfl) (fun _ _ _ h => h) (Or.inr ⟨by rfl, rfl⟩) hH31 ?_
    simp only [Act.put, List.getElem_toArray, List.getElem_cons_zero, List.getElem_cons_succ, List.setIfInBounds_toArray, List.set_cons_zero, List.set_cons_succ]
    refine wpAnyH_take (i := 10) (v := undef) rfl (by kernel_rfl) (by kernel_rfl) (by kernel_rfl) (fun _ _ _ h => h) (Or.inr ⟨by rfl, rfl⟩) hH31 ?_
    simp only [Act.put, List.getElem_toArray, List.getElem_cons_zero, List.getElem_cons_succ, List.setIfInBounds_toArray, List.set_cons_zero, List.set_cons_succ]
    refine wpAnyH_take (i := 11) (v := ?_) rfl (by kernel_rfl) (by kernel_rfl) (by kernel_rfl) (fun _ _ _ h => h) (Or.inl ⟨by rfl, ?_⟩) hH31 ?_
    rotate_left
    · ((intro W hW; clear hW; go_simp) <;> with_reducible rfl)
    simp only [Act.put, List.getElem_toArray, List.getElem_cons_zero, List.getElem_cons_succ, List.setIfInBounds_toArray, List.set_cons_zero, List.set_cons_succ]
    refine wpAnyH_take (i := 12) (v := ?_) rfl (by kernel_rfl) (by kernel_rfl) (by kernel_rfl) (fun _ _ _ h => h) (Or.inl ⟨by rfl, ?_⟩) hH31 ?_
    rotate_left
    · ((intro W hW; clear hW; go_simp) <;> with_reducible rfl)
    simp only [Act.put, List.getElem_toArray, List.getElem_cons_zero, List.getElem_cons_succ, List.setIfInBounds_toArray, List.set_cons_zero, List.set_cons_succ]
    refine wpAnyH_take (i := 13) (v := undef) rfl (by kernel_rfl) (by kernel_rfl) (by kernel_rfl) (fun _ _ _ h => h) (Or.inr ⟨by rfl, rfl⟩) hH31 ?_
    simp only [Act.put, List.getElem_toArray, List.getElem_cons_zero, List.getElem_cons_succ, List.setIfInBounds_toArray, List.set_cons_zero, List.set_cons_succ]
    refine wpAnyH_take (i := 14) (v := undef) rfl (by kernel_rfl) (by kernel_rfl) (by kernel_rfl) (fun _ _ _ h => h) (Or.inr ⟨by rfl, rfl⟩) hH31 ?_
    simp only [Act.put, List.getElem_toArray, List.getElem_cons_zero, List.getElem_cons_succ, List.setIfInBounds_toArray, List.set_cons_zero, List.set_cons_succ]
    refine wpAnyH_take (i := 15) (v := ?_) rfl (by kernel_rfl) (by kernel_rfl) (by kernel_rfl) (fun _ _ _ h => h) (Or.inl ⟨by rfl, ?_⟩) hH31 ?_
    rotate_left
    · ((intro W hW; clear hW; go_simp) <;> with_reducible rfl)
    simp only [Act.put, List.getElem_toArray, List.getElem_cons_zero, List.getElem_cons_succ, List.setIfInBounds_toArray, List.set_cons_zero, List.set_cons_succ]
    refine wpAnyH_ready (rs := [16]) (by kernel_rfl) (by simp) ?_
    refine AllReadyH.cons (o := _) rfl (fun K hK => ?_) AllReadyH.nil
    simp only [List.getElem_toArray, List.getElem_cons_zero, List.getElem_cons_succ]
    rw [if_pos (by rfl)]
    refine wp_store_blk 30 (.tmp 2) (.tmp 48) rfl g2 rfl _ rfl _ 30 hz (by rfl) (by kernel_rfl) (by kernel_rfl) ?_
    intro w32 hq gr
    replace hm := blk_a hm gr (ne_symm d_z_m)
    replace hr := hr.away gr lo_z
    replace hsz := Nat.le_trans hsz gr.size
    replace bel := below_grown bel gr oz (Nat.le_trans hlo bel.size)
    clear hz
    have hz := hq
    clear hq gr
    refine hK.out _ _ hm (fun hH33 => ?_)
    clear hK K
    simp only [Act.put]
    refine wpAnyH_take (i := 17) (v := ?_) rfl (by kernel_rfl) (by kernel_rfl) (by kernel_rfl) (fun _ _ _ h => h) (Or.inl ⟨by rfl, ?_⟩) hH33 ?_
    rotate_left
    · ((intro W hW; clear hW; go_simp) <;> with_reducible rfl)
    simp only [Act.put, List.getElem_toArray, List.getElem_cons_zero, List.getElem_cons_succ, List.setIfInBounds_toArray, List.set_cons_zero, List.set_cons_succ]
    refine wpAnyH_done (by kernel_rfl) ?_ _
    go_wp2_with fail
    exact bodyPost_ret (results_cell_tmp_row rfl _ _ _ _ _ _ _ rfl hz Try.underlying30 rfl (by kernel_rfl) (.bool false) rfl) rfl ⟨by rw [HP.out], bel⟩
  rcases (by decide : ∀ b : Bool, b = true ∨ b = false) ((x2.toNat : Int) == 6) with h2 | h2
  rotate_left
  · have HP : Hid ((isOp (x0.toNat : Int) && ((x1.toNat : Int) == 1) && ((x2.toNat : Int) == 6) && (((be [k0, k1, k2, k3] : Nat) : Int) == 1669485411)) = false) := Lib.hid (by rw [h2]; simp)
    clear ho
    go_wp2_with fail
    replace bel := bel.drew
    replace hz : w29.drew.heap[g2]? = _ := hz
    replace hm : w29.drew.heap[g4]? = _ := hm
    replace hr := hr.drew
    replace hsz := sz_drew hsz
    refine wp_region_held_drew (S := fun W => W.heap[g4]? = some (.cells #[.int .i64 (x0.toNat : Int), .int .i64 (x3.toNat : Int), .int .u32 ((be [x4, x5, x6, x7] : Nat) : Int), .int .i64 ((be [x8, x9] : Nat) : Int), .int .i64 ((be [x10, x11] : Nat) : Int), .int .u8 (x12.toNat : Int), .int .u8 (x13.toNat : Int), .int .u8 (x14.toNat : Int), .int .u8 (x15.toNat : Int), .int .u8 (x16.toNat : Int), .int .u8 (x17.toNat : Int), .int .u8 (x18.toNat : Int), .int .u8 (x19.toNat : Int), .int .u8 (x20.toNat : Int), .int .u8 (x21.toNat : Int), .int .u8 (x22.toNat : Int), .int .u8 (x23.toNat : Int), .int .u8 (x24.toNat : Int), .int .u8 (x25.toNat : Int), .int .u8 (x26.toNat : Int), .int .u8 (x27.toNat : Int), .int .u8 (x28.toNat : Int), .int .u8 (x29.toNat : Int), .int .u8 (x30.toNat : Int), .int .u8 (x31.toNat : Int), .int .u8 (x32.toNat : Int), .int .u8 (x33.toNat : Int), .slice none 0 0] 30 (0, 0))) (by kernel_rfl) hm (fun hH => ?_)
    generalize w29.drew = w30 at bel hz hm hr hsz hH ⊢
    refine wpAnyH_take (i := 0) (v := .agg #[.int .i64 (x0.toNat : Int), .int .i64 (x3.toNat : Int), .int .u32 ((be [x4, x5, x6, x7] : Nat) : Int), .int .i64 ((be [x8, x9] : Nat) : Int), .int .i64 ((be [x10, x11] : Nat) : Int), .int .u8 (x12.toNat : Int), .int .u8 (x13.toNat : Int), .int .u8 (x14.toNat : Int), .int .u8 (x15.toNat : Int), .int .u8 (x16.toNat : Int), .int .u8 (x17.toNat : Int), .int .u8 (x18.toNat : Int), .int .u8 (x19.toNat : Int), .int .u8 (x20.toNat : Int), .int .u8 (x21.toNat : Int), .int .u8 (x22.toNat : Int), .int .u8 (x23.toNat : Int), .int .u8 (x24.toNat : Int), .int .u8 (x25.toNat : Int), .int .u8 (x26.toNat : Int), .int .u8 (x27.toNat : Int), .int .u8 (x28.toNat : Int), .int .u8 (x29.toNat : Int), .int .u8 (x30.toNat : Int), .int .u8 (x31.toNat : Int), .int .u8 (x32.toNat : Int), .int .u8 (x33.toNat : Int), .slice none 0 0]) rfl (by kernel_rfl) (by kernel_rfl) (by kernel_rfl) (fun _ _ _ h => h) (yieldsIf_load_part (by kernel_rfl) 30 _ rfl g4 0 28 rfl _ 30 (0, 0) (fun W hW => hW) _ rfl _ Try.underlying30 rfl (by kernel_rfl)) hH ?_
    simp only [Act.put, List.getElem_toArray, List.getElem_cons_zero, List.setIfInBounds_toArray, List.set_cons_zero, List.set_cons_succ]
    refine wpAnyH_take (i := 1) (v := ?_) rfl (by kernel_rfl) (by kernel_rfl) (by kernel_rfl) (fun _ _ _ h => h) (Or.inl ⟨by rfl, ?_⟩) hH ?_
    rotate_left
    · ((intro W hW; clear hW; go_simp) <;> with_reducible rfl)
    simp only [Act.put, List.getElem_toArray, List.getElem_cons_zero, List.getElem_cons_succ, List.setIfInBounds_toArray, List.set_cons_zero, List.set_cons_succ]
    refine wpAnyH_take (i := 2) (v := ?_) rfl (by kernel_rfl) (by kernel_rfl) (by kernel_rfl) (fun _ _ _ h => h) (Or.inl ⟨by rfl, ?_⟩) hH ?_
    rotate_left
    · ((intro W hW; have hk := cell_lit (hW) 0 _ rfl; clear hW; go_simp) <;> with_reducible rfl)
    simp only [Act.put, List.getElem_toArray, List.getElem_cons_zero, List.getElem_cons_succ, List.setIfInBounds_toArray, List.set_cons_zero, List.set_cons_succ]
    refine wpAnyH_ready (rs := [3]) (by kernel_rfl) (by simp) ?_
    refine AllReadyH.cons (o := _) rfl (fun K hK => ?_) AllReadyH.nil
    simp only [List.getElem_toArray, List.getElem_cons_zero, List.getElem_cons_succ]
    go_simp
    with_reducible refine (dknown_any _ _).mono ?_
    rintro e _ ⟨rfl, rfl⟩
    dsimp only
    rw [HO.out]
    refine hK.out _ _ hm (fun hH31 => ?_)
    clear hK K
    refine wpAnyH_take (i := 4) (v := ?_) rfl (by kernel_rfl) (by kernel_rfl) (by kernel_rfl) (fun _ _ _ h => h) (Or.inl ⟨by rfl, ?_⟩) hH31 ?_
    rotate_left
    · ((intro W hW; clear hW; go_simp) <;> with_reducible rfl)
    simp only [Act.put, List.getElem_toArray, List.getElem_cons_zero, List.getElem_cons_succ, List.setIfInBounds_toArray, List.set_cons_zero, List.set_cons_succ]
    refine wpAnyH_take (i := 5) (v := ?_) rfl (by kernel_rfl) (by kernel_rfl) (by kernel_rfl) (fun _ _ _ h => h) (Or.inl ⟨by rfl, ?_⟩) hH31 ?_
    rotate_left
    · ((intro W hW; clear hW; go_simp) <;> with_reducible rfl)
    simp only [Act.put, List.getElem_toArray, List.getElem_cons_zero, List.getElem_cons_succ, List.setIfInBounds_toArray, List.set_cons_zero, List.set_cons_succ]
    refine wpAnyH_take (i := 6) (v := ?_) rfl (by kernel_rfl) (by kernel_rfl) (by kernel_rfl) (fun _ _ _ h => h) (Or.inl ⟨by rfl, ?_⟩) hH31 ?_
    rotate_left
    · ((intro W hW; clear hW; go_simp) <;> with_reducible rfl)
    simp only [Act.put, List.getElem_toArray, List.getElem_cons_zero, List.getElem_cons_succ, List.setIfInBounds_toArray, List.set_cons_zero, List.set_cons_succ]
    refine wpAnyH_take (i := 7) (v := ?_) rfl (by kernel_rfl) (by kernel_rfl) (by kernel_rfl) (fun _ _ _ h => h) (Or.inl ⟨by rfl, ?_⟩) hH31 ?_
    rotate_left
    · ((intro W hW; clear hW; go_simp) <;> with_reducible rfl)
    simp only [Act.put, List.getElem_toArray, List.getElem_cons_zero, List.getElem_cons_succ, List.setIfInBounds_toArray, List.set_cons_zero, List.set_cons_succ]
    refine wpAnyH_take (i := 8) (v := ?_) rfl (by kernel_rfl) (by kernel_rfl) (by kernel_rfl) (fun _ _ _ h => h) (Or.inl ⟨by rfl, ?_⟩) hH31 ?_
    rotate_left
    · ((intro W hW; clear hW; go_simp) <;> with_reducible rfl)
    simp only [Act.put, List.getElem_toArray, List.getElem_cons_zero, List.getElem_cons_succ, List.setIfInBounds_toArray, List.set_cons_zero, List.set_cons_succ]
    refine wpAnyH_take (i := 9) (v := ?_) rfl (by kernel_rfl) (by kernel_rfl) (by kernel_rfl) (fun _ _ _ h => h) (Or.inl ⟨by rfl, ?_⟩) hH31 ?_
    rotate_left
    · ((intro W hW; clear hW; go_simp) <;> with_reducible rfl)
    simp only [Act.put, List.getElem_toArray, List.getElem_cons_zero, List.getElem_cons_succ, List.setIfInBounds_toArray, List.set_cons_zero, List.set_cons_succ]
    refine wpAnyH_take (i := 10) (v := ?_) rfl (by kernel_rfl) (by kernel_rfl) (by kernel_rfl) (fun _ _ _ h => h) (Or.inl ⟨by rfl, ?_⟩) hH31 ?_
    rotate_left
    · ((intro W hW; clear hW; go_simp) <;> with_reducible rfl)
    simp only [Act.put, List.getElem_toArray, List.getElem_cons_zero, List.getElem_cons_succ, List.setIfInBounds_toArray, List.set_cons_zero, List.set_cons_succ]
    refine wpAnyH_take (i := 11) (v := ?_) rfl (by kernel_rfl) (by kernel_rfl) (by kernel_rfl) (fun _ _ _ h => h) (Or.inl ⟨by rfl, ?_⟩) hH31 ?_
    rotate_left
    · ((intro W hW; clear hW; go_simp) <;> with_reducible rfl)
    simp only [Act.put, List.getElem_toArray, List.getElem_cons_zero, List.getElem_cons_succ, List.setIfInBounds_toArray, List.set_cons_zero, List.set_cons_succ]
    refine wpAnyH_take (i := 12) (v := ?_) rfl (by kernel_rfl) (by kernel_rfl) (by kernel_rfl) (fun _ _ _ h => h) (Or.inl ⟨by rfl, ?_⟩) hH31 ?_
    rotate_left
    · ((intro W hW; clear hW; go_simp) <;> with_reducible rfl)
    simp only [Act.put, List.getElem_toArray, List.getElem_cons_zero, List.getElem_cons_succ, List.setIfInBounds_toArray, List.set_cons_zero, List.set_cons_succ]
    refine wpAnyH_take (i := 13) (v := undef) rfl (by kernel_rfl) (by kernel_rfl) (by kernel_rfl) (fun _ _ _ h => h) (Or.inr ⟨by rfl, rfl⟩) hH31 ?_
    simp only [Act.put, List.getElem_toArray, List.getElem_cons_zero, List.getElem_cons_succ, List.setIfInBounds_toArray, List.set_cons_zero, List.set_cons_succ]
    refine wpAnyH_take (i := 14) (v := undef) rfl (by kernel_rfl) (by kernel_rfl) (by kernel_rfl) (fun _ _ _ h => h) (Or.inr ⟨by rfl, rfl⟩) hH31 ?_
    simp only [Act.put, List.getElem_toArray, List.getElem_cons_zero, List.getElem_cons_succ, List.setIfInBounds_toArray, List.set_cons_zero, List.set_cons_succ]
    refine wpAnyH_take (i := 15) (v := ?_) rfl (by kernel_rfl) (by kernel_rfl) (by kernel_rfl) (fun _ _ _ h => h) (Or.inl ⟨by rfl, ?_⟩) hH31 ?_
    rotate_left
    · ((intro W hW; clear hW; go_simp) <;> with_reducible rfl)
    simp only [Act.put, List.getElem_toArray, List.getElem_cons_zero, List.getElem_cons_succ, List.setIfInBounds_toArray, List.set_cons_zero, List.set_cons_succ]
    refine wpAnyH_ready (rs := [16]) (by kernel_rfl) (by simp) ?_
    refine AllReadyH.cons (o := _) rfl (fun K hK => ?_) AllReadyH.nil
    simp only [List.getElem_toArray, List.getElem_cons_zero, List.getElem_cons_succ]
    rw [if_pos (by rfl)]
    refine wp_store_blk 30 (.tmp 2) (.tmp 48) rfl g2 rfl _ rfl _ 30 hz (by rfl) (by kernel_rfl) (by kernel_rfl) ?_
    intro w32 hq gr
    replace hm := blk_a hm gr (ne_symm d_z_m)
    replace hr := hr.away gr lo_z
    replace hsz := Nat.le_trans hsz gr.size
    replace bel := below_grown bel gr oz (Nat.le_trans hlo bel.size)
    clear hz
    have hz := hq
    clear hq gr
    refine hK.out _ _ hm (fun hH33 => ?_)
    clear hK K
    simp only [Act.put]
    refine wpAnyH_take (i := 17) (v := ?_) rfl (by kernel_rfl) (by kernel_rfl) (by kernel_rfl) (fun _ _ _ h => h) (Or.inl ⟨by rfl, ?_⟩) hH33 ?_
    rotate_left
    · ((intro W hW; clear hW; go_simp) <;> with_reducible rfl)
    simp only [Act.put, List.getElem_toArray, List.getElem_cons_zero, List.getElem_cons_succ, List.setIfInBounds_toArray, List.set_cons_zero, List.set_cons_succ]
    refine wpAnyH_done (by kernel_rfl) ?_ _
    go_wp2_with fail
    exact bodyPost_ret (results_cell_tmp_row rfl _ _ _ _ _ _ _ rfl hz Try.underlying30 rfl (by kernel_rfl) (.bool false) rfl) rfl ⟨by rw [HP.out], bel⟩
  have HP : Hid ((isOp (x0.toNat : Int) && ((x1.toNat : Int) == 1) && ((x2.toNat : Int) == 6) && (((be [k0, k1, k2, k3] : Nat) : Int) == 1669485411)) = (((be [k0, k1, k2, k3] : Nat) : Int) == 1669485411)) := Lib.hid (by rw [ho, h1, h2]; rfl)
  clear ho
  go_wp2_with fail
  replace bel := bel.drew
  replace hz : w29.drew.heap[g2]? = _ := hz
  replace hm : w29.drew.heap[g4]? = _ := hm
  replace hr := hr.drew
  replace hsz := sz_drew hsz
  refine wp_region_held_drew (S := fun W => W.heap[g4]? = some (.cells #[.int .i64 (x0.toNat : Int), .int .i64 (x3.toNat : Int), .int .u32 ((be [x4, x5, x6, x7] : Nat) : Int), .int .i64 ((be [x8, x9] : Nat) : Int), .int .i64 ((be [x10, x11] : Nat) : Int), .int .u8 (x12.toNat : Int), .int .u8 (x13.toNat : Int), .int .u8 (x14.toNat : Int), .int .u8 (x15.toNat : Int), .int .u8 (x16.toNat : Int), .int .u8 (x17.toNat : Int), .int .u8 (x18.toNat : Int), .int .u8 (x19.toNat : Int), .int .u8 (x20.toNat : Int), .int .u8 (x21.toNat : Int), .int .u8 (x22.toNat : Int), .int .u8 (x23.toNat : Int), .int .u8 (x24.toNat : Int), .int .u8 (x25.toNat : Int), .int .u8 (x26.toNat : Int), .int .u8 (x27.toNat : Int), .int .u8 (x28.toNat : Int), .int .u8 (x29.toNat : Int), .int .u8 (x30.toNat : Int), .int .u8 (x31.toNat : Int), .int .u8 (x32.toNat : Int), .int .u8 (x33.toNat : Int), .slice none 0 0] 30 (0, 0))) (by kernel_rfl) hm (fun hH => ?_)
  generalize w29.drew = w30 at bel hz hm hr hsz hH ⊢
  refine wpAnyH_take (i := 0) (v := .agg #[.int .i64 (x0.toNat : Int), .int .i64 (x3.toNat : Int), .int .u32 ((be [x4, x5, x6, x7] : Nat) : Int), .int .i64 ((be [x8, x9] : Nat) : Int), .int .i64 ((be [x10, x11] : Nat) : Int), .int .u8 (x12.toNat : Int), .int .u8 (x13.toNat : Int), .int .u8 (x14.toNat : Int), .int .u8 (x15.toNat : Int), .int .u8 (x16.toNat : Int), .int .u8 (x17.toNat : Int), .int .u8 (x18.toNat : Int), .int .u8 (x19.toNat : Int), .int .u8 (x20.toNat : Int), .int .u8 (x21.toNat : Int), .int .u8 (x22.toNat : Int), .int .u8 (x23.toNat : Int), .int .u8 (x24.toNat : Int), .int .u8 (x25.toNat : Int), .int .u8 (x26.toNat : Int), .int .u8 (x27.toNat : Int), .int .u8 (x28.toNat : Int), .int .u8 (x29.toNat : Int), .int .u8 (x30.toNat : Int), .int .u8 (x31.toNat : Int), .int .u8 (x32.toNat : Int), .int .u8 (x33.toNat : Int), .slice none 0 0]) rfl (by kernel_rfl) (by kernel_rfl) (by kernel_rfl) (fun _ _ _ h => h) (yieldsIf_load_part (by kernel_rfl) 30 _ rfl g4 0 28 rfl _ 30 (0, 0) (fun W hW => hW) _ rfl _ Try.underlying30 rfl (by kernel_rfl)) hH ?_
  simp only [Act.put, List.getElem_toArray, List.getElem_cons_zero, List.setIfInBounds_toArray, List.set_cons_zero, List.set_cons_succ]
  refine wpAnyH_take (i := 1) (v := ?_) rfl (by kernel_rfl) (by kernel_rfl) (by kernel_rfl) (fun _ _ _ h => h) (Or.inl ⟨by rfl, ?_⟩) hH ?_
  rotate_left
  · ((intro W hW; clear hW; go_simp) <;> with_reducible rfl)
  simp only [Act.put, List.getElem_toArray, List.getElem_cons_zero, List.getElem_cons_succ, List.setIfInBounds_toArray, List.set_cons_zero, List.set_cons_succ]
  refine wpAnyH_take (i := 2) (v := ?_) rfl (by kernel_rfl) (by kernel_rfl) (by kernel_rfl) (fun _ _ _ h => h) (Or.inl ⟨by rfl, ?_⟩) hH ?_
  rotate_left
  · ((intro W hW; have hk := cell_lit (hW) 0 _ rfl; clear hW; go_simp) <;> with_reducible rfl)
  simp only [Act.put, List.getElem_toArray, List.getElem_cons_zero, List.getElem_cons_succ, List.setIfInBounds_toArray, List.set_cons_zero, List.set_cons_succ]
  refine wpAnyH_ready (rs := [3]) (by kernel_rfl) (by simp) ?_
  refine AllReadyH.cons (o := _) rfl (fun K hK => ?_) AllReadyH.nil
  simp only [List.getElem_toArray, List.getElem_cons_zero, List.getElem_cons_succ]
  go_simp
  with_reducible refine (dknown_any _ _).mono ?_
  rintro e _ ⟨rfl, rfl⟩
  dsimp only
  rw [HO.out]
  refine hK.out _ _ hm (fun hH31 => ?_)
  clear hK K
  refine wpAnyH_take (i := 4) (v := ?_) rfl (by kernel_rfl) (by kernel_rfl) (by kernel_rfl) (fun _ _ _ h => h) (Or.inl ⟨by rfl, ?_⟩) hH31 ?_
  rotate_left
  · ((intro W hW; clear hW; go_simp) <;> with_reducible rfl)
  simp only [Act.put, List.getElem_toArray, List.getElem_cons_zero, List.getElem_cons_succ, List.setIfInBounds_toArray, List.set_cons_zero, List.set_cons_succ]
  refine wpAnyH_take (i := 5) (v := ?_) rfl (by kernel_rfl) (by kernel_rfl) (by kernel_rfl) (fun _ _ _ h => h) (Or.inl ⟨by rfl, ?_⟩) hH31 ?_
  rotate_left
  · ((intro W hW; clear hW; go_simp) <;> with_reducible rfl)
  simp only [Act.put, List.getElem_toArray, List.getElem_cons_zero, List.getElem_cons_succ, List.setIfInBounds_toArray, List.set_cons_zero, List.set_cons_succ]
  refine wpAnyH_take (i := 6) (v := ?_) rfl (by kernel_rfl) (by kernel_rfl) (by kernel_rfl) (fun _ _ _ h => h) (Or.inl ⟨by rfl, ?_⟩) hH31 ?_
  rotate_left
  · ((intro W hW; clear hW; go_simp) <;> with_reducible rfl)
  simp only [Act.put, List.getElem_toArray, List.getElem_cons_zero, List.getElem_cons_succ, List.setIfInBounds_toArray, List.set_cons_zero, List.set_cons_succ]
  refine wpAnyH_take (i := 7) (v := ?_) rfl (by kernel_rfl) (by kernel_rfl) (by kernel_rfl) (fun _ _ _ h => h) (Or.inl ⟨by rfl, ?_⟩) hH31 ?_
  rotate_left
  · ((intro W hW; clear hW; go_simp) <;> with_reducible rfl)
  simp only [Act.put, List.getElem_toArray, List.getElem_cons_zero, List.getElem_cons_succ, List.setIfInBounds_toArray, List.set_cons_zero, List.set_cons_succ]
  refine wpAnyH_take (i := 8) (v := ?_) rfl (by kernel_rfl) (by kernel_rfl) (by kernel_rfl) (fun _ _ _ h => h) (Or.inl ⟨by rfl, ?_⟩) hH31 ?_
  rotate_left
  · ((intro W hW; clear hW; go_simp) <;> with_reducible rfl)
  simp only [Act.put, List.getElem_toArray, List.getElem_cons_zero, List.getElem_cons_succ, List.setIfInBounds_toArray, List.set_cons_zero, List.set_cons_succ]
  refine wpAnyH_take (i := 9) (v := ?_) rfl (by kernel_rfl) (by kernel_rfl) (by kernel_rfl) (fun _ _ _ h => h) (Or.inl ⟨by rfl, ?_⟩) hH31 ?_
  rotate_left
  · ((intro W hW; clear hW; go_simp) <;> with_reducible rfl)
  simp only [Act.put, List.getElem_toArray, List.getElem_cons_zero, List.getElem_cons_succ, List.setIfInBounds_toArray, List.set_cons_zero, List.set_cons_succ]
  refine wpAnyH_take (i := 10) (v := ?_) rfl (by kernel_rfl) (by kernel_rfl) (by kernel_rfl) (fun _ _ _ h => h) (Or.inl ⟨by rfl, ?_⟩) hH31 ?_
  rotate_left
  · ((intro W hW; clear hW; go_simp) <;> with_reducible rfl)
  simp only [Act.put, List.getElem_toArray, List.getElem_cons_zero, List.getElem_cons_succ, List.setIfInBounds_toArray, List.set_cons_zero, List.set_cons_succ]
  refine wpAnyH_take (i := 11) (v := ?_) rfl (by kernel_rfl) (by kernel_rfl) (by kernel_rfl) (fun _ _ _ h => h) (Or.inl ⟨by rfl, ?_⟩) hH31 ?_
  rotate_left
  · ((intro W hW; clear hW; go_simp) <;> with_reducible rfl)
  simp only [Act.put, List.getElem_toArray, List.getElem_cons_zero, List.getElem_cons_succ, List.setIfInBounds_toArray, List.set_cons_zero, List.set_cons_succ]
  refine wpAnyH_take (i := 12) (v := ?_) rfl (by kernel_rfl) (by kernel_rfl) (by kernel_rfl) (fun _ _ _ h => h) (Or.inl ⟨by rfl, ?_⟩) hH31 ?_
  rotate_left
  · ((intro W hW; clear hW; go_simp) <;> with_reducible rfl)
  simp only [Act.put, List.getElem_toArray, List.getElem_cons_zero, List.getElem_cons_succ, List.setIfInBounds_toArray, List.set_cons_zero, List.set_cons_succ]
  refine wpAnyH_take (i := 13) (v := ?_) rfl (by kernel_rfl) (by kernel_rfl) (by kernel_rfl) (fun _ _ _ h => h) (Or.inl ⟨by rfl, ?_⟩) hH31 ?_
  rotate_left
  · ((intro W hW; clear hW; go_simp) <;> with_reducible rfl)
  simp only [Act.put, List.getElem_toArray, List.getElem_cons_zero, List.getElem_cons_succ, List.setIfInBounds_toArray, List.set_cons_zero, List.set_cons_succ]
  refine wpAnyH_take (i := 14) (v := ?_) rfl (by kernel_rfl) (by kernel_rfl) (by kernel_rfl) (fun _ _ _ h => h) (Or.inl ⟨by rfl, ?_⟩) hH31 ?_
  rotate_left
  · ((intro W hW; clear hW; go_simp) <;> with_reducible rfl)
  simp only [Act.put, List.getElem_toArray, List.getElem_cons_zero, List.getElem_cons_succ, List.setIfInBounds_toArray, List.set_cons_zero, List.set_cons_succ]
  refine wpAnyH_take (i := 15) (v := ?_) rfl (by kernel_rfl) (by kernel_rfl) (by kernel_rfl) (fun _ _ _ h => h) (Or.inl ⟨by rfl, ?_⟩) hH31 ?_
  rotate_left
  · ((intro W hW; clear hW; go_simp) <;> with_reducible rfl)
  simp only [Act.put, List.getElem_toArray, List.getElem_cons_zero, List.getElem_cons_succ, List.setIfInBounds_toArray, List.set_cons_zero, List.set_cons_succ]
  refine wpAnyH_ready (rs := [16]) (by kernel_rfl) (by simp) ?_
  refine AllReadyH.cons (o := _) rfl (fun K hK => ?_) AllReadyH.nil
  simp only [List.getElem_toArray, List.getElem_cons_zero, List.getElem_cons_succ]
  rw [if_pos (by rfl)]
  refine wp_store_blk 30 (.tmp 2) (.tmp 48) rfl g2 rfl _ rfl _ 30 hz (by rfl) (by kernel_rfl) (by kernel_rfl) ?_
  intro w32 hq gr
  replace hm := blk_a hm gr (ne_symm d_z_m)
  replace hr := hr.away gr lo_z
  replace hsz := Nat.le_trans hsz gr.size
  replace bel := below_grown bel gr oz (Nat.le_trans hlo bel.size)
  clear hz
  have hz := hq
  clear hq gr
  refine hK.out _ _ hm (fun hH33 => ?_)
  clear hK K
  simp only [Act.put]
  refine wpAnyH_take (i := 17) (v := ?_) rfl (by kernel_rfl) (by kernel_rfl) (by kernel_rfl) (fun _ _ _ h => h) (Or.inl ⟨by rfl, ?_⟩) hH33 ?_
  rotate_left
  · ((intro W hW; clear hW; go_simp) <;> with_reducible rfl)
  simp only [Act.put, List.getElem_toArray, List.getElem_cons_zero, List.getElem_cons_succ, List.setIfInBounds_toArray, List.set_cons_zero, List.set_cons_succ]
  refine wpAnyH_done (by kernel_rfl) ?_ _
  go_wp2_with fail
  exact bodyPost_ret (results_cell_tmp_row rfl _ _ _ _ _ _ _ rfl hz Try.underlying30 rfl (by kernel_rfl) (.bool (((be [k0, k1, k2, k3] : Nat) : Int) == 1669485411)) rfl) rfl ⟨by rw [HP.out], bel⟩
end Go.Proofs.Ytmljgpefbbifmaa
