/- Layer 16's mac, num, word, great. -/
import Derived.Test.YtjfboofnffghjaaLc1
import Derived.Test.YtjfboofnffghjaaAor
namespace Go.Proofs.Ytjfboofnffghjaa
open Go.RowKit

set_option linter.unusedVariables false in
set_option linter.unusedSimpArgs false in
set_option maxRecDepth 100000 in
set_option maxHeartbeats 16000000 in
theorem lmac (w : World)  : Calls Try.prog 11 #[] w fun e w' => e = .returned (.agg #[.int .u8 2, .int .u8 0, .int .u8 0, .int .u8 0, .int .u8 0, .int .u8 2]) ∧ Below w.heap.size w w' := by
  have bel := Below.refl w.heap.size w
  go_enter Try.func11, Try.ntmps11
  go_wp2_with (first | ((with_reducible show wpList _ _ _ (⟨some 0, _, _, _, _, _⟩ :: _) _ _); refine wpList_new_a rfl 26 rfl #[.int .u8 0, .int .u8 0, .int .u8 0, .int .u8 0, .int .u8 0, .int .u8 0] (by kernel_rfl) ?_; intro g0 w1 ge hh bb; have oz := Nat.le_trans bel.size ge; replace bel := bel.trans (bb.mono bel.size); have hz := hh; clear hh ge bb) | ((with_reducible show wpList _ _ _ (⟨none, Op.store _ (.tmp 0) _, _, _, _, _⟩ :: _) _ _); refine wpList_store_blk rfl 26 (.tmp 0) (.tmp 1) rfl g0 rfl _ rfl _ 26 hz (by rfl) (by kernel_rfl) (by kernel_rfl) ?_; intro w2 hq gr; replace bel := below_grown bel gr oz bel.size; clear hz; have hz := hq; clear hq gr))
  exact bodyPost_ret (results_cell_row' rfl _ _ _ _ _ _ _ rfl hz Try.underlying26 rfl (by kernel_rfl)) rfl ⟨rfl, bel⟩
set_option linter.unusedVariables false in
set_option linter.unusedSimpArgs false in
set_option maxRecDepth 100000 in
set_option maxHeartbeats 16000000 in
theorem lnum {x : Int} (w : World)  : Calls Try.prog 31 #[.int .u32 x] w fun e w' => ∃ g, e = .returned (.slice (some ⟨g, 0, none⟩) 4 4) ∧ w.heap.size ≤ g ∧ w'.heap[g]? = some (.cells #[.int .u8 (x / 16777216 % 256), .int .u8 (x / 65536 % 256), .int .u8 (x / 256 % 256), .int .u8 (x % 256)] 5 (0, 0)) ∧ Below w.heap.size w w' := by
  have bel := Below.refl w.heap.size w
  go_enter Try.func31, Try.ntmps31
  go_wp2_with (first | ((with_reducible show wpList _ _ _ (⟨some 14, _, _, _, _, _⟩ :: _) _ _); refine wpList_lit_n rfl 57 5 4 _ rfl #[.int .u8 (x / 16777216 % 256), .int .u8 (x / 65536 % 256), .int .u8 (x / 256 % 256), .int .u8 (x % 256)] (.int .u8 0) Try.underlying57 (by kernel_rfl) 1 (by kernel_rfl) (by decide) (by kernel_rfl) ?_; intro g14 w1 ge lt hh bb; have hl : w1.heap[g14]? = some (.cells (([byteOf (x / 16777216), byteOf (x / 65536), byteOf (x / 256), byteOf x] : List UInt8).map u8v).toArray 5 (0, 0)) := (by simpa [u8v, byteOf_val] using hh); have snw := own_lit (B := w.heap.size) ([byteOf (x / 16777216), byteOf (x / 65536), byteOf (x / 256), byteOf x]) hl ge 4 rfl (by simp [maxLen]); have sn := (own_sl snw).1; have snlo := bel.size; clear hl; have snge := ge; have lz_sn := bb.size; have obn := Nat.le_trans bel.size ge; replace bel := bel.trans (bb.mono bel.size); have hbn := hh; clear hh lt ge bb))
  go_ret
  exact ⟨_, rfl, obn, hbn, bel⟩
/-- What a server's words tell. -/
def wL (k : UInt8) (x : Int) : OptL := [(53, [k]), (54, [10, 0, 0, 254]), (51, four x), (1, [255, 0, 0, 0]), (3, [10, 0, 0, 253])]
theorem wl_54 (k : UInt8) (x : Int) : I4 (findL (wL k x) 54) 10 0 0 254 true := ⟨by kernel_rfl, by kernel_rfl⟩
theorem wl_1 (k : UInt8) (x : Int) : I4 (findL (wL k x) 1) 255 0 0 0 true := ⟨by kernel_rfl, by kernel_rfl⟩
theorem wl_3 (k : UInt8) (x : Int) : I4 (findL (wL k x) 3) 10 0 0 253 true := ⟨by kernel_rfl, by kernel_rfl⟩
theorem wl_51 (k : UInt8) {x : Int} (h0 : 0 ≤ x) (h1 : x < 4294967296) : I1 (findL (wL k x) 51) x true := ⟨by
  have h : (fourL (findL (wL k x) 51)).1 = four x := by kernel_rfl
  rw [h, be_four]
  omega, by kernel_rfl⟩
theorem wl_2 (x : Int) : (typeL (wL 2 x) : Int) = 2 := by kernel_rfl
theorem wl_5 (x : Int) : (typeL (wL 5 x) : Int) = 5 := by kernel_rfl
theorem wl_6 (x : Int) : (typeL (wL 6 x) : Int) = 6 := by kernel_rfl
theorem u8_n (n : Int) : (.int .u8 (n % 256) : Value) = u8v (byteOf n) := by
  show Value.int .u8 _ = Value.int .u8 _
  rw [byteOf_val]
set_option linter.unusedVariables false in
set_option linter.unusedSimpArgs false in
set_option maxRecDepth 100000 in
set_option maxHeartbeats 16000000 in
theorem lword {k xid y0 y1 y2 y3 x : Int} {kb : UInt8} (w : World) (hk : (.int .u8 k : Value) = u8v kb) : Calls Try.prog 14 #[.int .u8 k, .int .u32 xid, .agg #[.int .u8 y0, .int .u8 y1, .int .u8 y2, .int .u8 y3], .int .u32 x] w fun e w' => ∃ A c, e = .returned (.agg #[.int .i64 2, .int .i64 0, .int .u32 xid, .int .i64 0, .int .i64 0, .int .u8 0, .int .u8 0, .int .u8 0, .int .u8 0, .int .u8 y0, .int .u8 y1, .int .u8 y2, .int .u8 y3, .int .u8 0, .int .u8 0, .int .u8 0, .int .u8 0, .int .u8 0, .int .u8 0, .int .u8 0, .int .u8 0, .int .u8 2, .int .u8 0, .int .u8 0, .int .u8 0, .int .u8 0, .int .u8 2, .slice A 5 c]) ∧ (∃ hs, Opv w' A 5 c hs (wL kb x)) ∧ Below w.heap.size w w' := by
  have HK := Lib.hid hk
  clear hk
  have bel := Below.refl w.heap.size w
  go_enter Try.func14, Try.ntmps14
  go_wp2_with (first | ((with_reducible show wpList _ _ _ (⟨some 6, _, _, _, _, _⟩ :: _) _ _); refine wpList_box_n rfl 34 (.tmp 2) rfl #[.int .u8 y0, .int .u8 y1, .int .u8 y2, .int .u8 y3] rfl ?_; intro g6 w1 ge lt hh bb; have oyb := Nat.le_trans bel.size ge; replace bel := bel.trans (bb.mono bel.size); have hyb := hh; clear hh lt ge bb) | ((with_reducible show wpList _ _ _ (⟨some 8, _, _, _, _, _⟩ :: _) _ _); refine wpList_new_a rfl 37 rfl #[.int .i64 0, .int .i64 0, .int .u32 0, .int .i64 0, .int .i64 0, .int .u8 0, .int .u8 0, .int .u8 0, .int .u8 0, .int .u8 0, .int .u8 0, .int .u8 0, .int .u8 0, .int .u8 0, .int .u8 0, .int .u8 0, .int .u8 0, .int .u8 0, .int .u8 0, .int .u8 0, .int .u8 0, .int .u8 0, .int .u8 0, .int .u8 0, .int .u8 0, .int .u8 0, .int .u8 0, .slice none 0 0] (by kernel_rfl) ?_; intro g8 w2 ge hh bb; have d_yb_z := ne_new (hlt hyb) ge; have oz := Nat.le_trans bel.size ge; replace hyb := blk_u hyb bb; replace bel := bel.trans (bb.mono bel.size); have hz := hh; clear hh ge bb))
  replace bel := bel.drew
  replace hyb : w2.drew.heap[g6]? = _ := hyb
  replace hz : w2.drew.heap[g8]? = _ := hz
  refine wp_region_held_drew (S := fun W => W.heap[g6]? = some (.cells #[.int .u8 y0, .int .u8 y1, .int .u8 y2, .int .u8 y3] 34 (0, 0))) (by kernel_rfl) hyb (fun hH => ?_)
  generalize w2.drew = w3 at bel hyb hz hH ⊢
  refine wpAnyH_take (i := 0) (v := ?_) rfl (by kernel_rfl) (by kernel_rfl) (by kernel_rfl) (fun _ _ _ h => h) (Or.inl ⟨by rfl, ?_⟩) hH ?_
  rotate_left
  · ((intro W hW; clear hW; go_simp) <;> with_reducible rfl)
  simp only [Act.put, List.getElem_toArray, List.getElem_cons_zero, List.setIfInBounds_toArray, List.set_cons_zero, List.set_cons_succ]
  refine wpAnyH_take (i := 2) (v := .agg #[.int .u8 y0, .int .u8 y1, .int .u8 y2, .int .u8 y3]) rfl (by kernel_rfl) (by kernel_rfl) (by kernel_rfl) (fun _ _ _ h => h) (yieldsIf_load_part (by kernel_rfl) 34 _ rfl g6 0 4 rfl _ 34 (0, 0) (fun W hW => hW) _ rfl _ Try.underlying34 rfl (by kernel_rfl)) hH ?_
  simp only [Act.put, List.getElem_toArray, List.getElem_cons_zero, List.getElem_cons_succ, List.setIfInBounds_toArray, List.set_cons_zero, List.set_cons_succ]
  refine wpAnyH_take (i := 3) (v := ?_) rfl (by kernel_rfl) (by kernel_rfl) (by kernel_rfl) (fun _ _ _ h => h) (Or.inl ⟨by rfl, ?_⟩) hH ?_
  rotate_left
  · ((intro W hW; clear hW; go_simp) <;> with_reducible rfl)
  simp only [Act.put, List.getElem_toArray, List.getElem_cons_zero, List.getElem_cons_succ, List.setIfInBounds_toArray, List.set_cons_zero, List.set_cons_succ]
  refine wpAnyH_take (i := 8) (v := ?_) rfl (by kernel_rfl) (by kernel_rfl) (by kernel_rfl) (fun _ _ _ h => h) (Or.inl ⟨by rfl, ?_⟩) hH ?_
  rotate_left
  · ((intro W hW; clear hW; go_simp) <;> with_reducible rfl)
  simp only [Act.put, List.getElem_toArray, List.getElem_cons_zero, List.getElem_cons_succ, List.setIfInBounds_toArray, List.set_cons_zero, List.set_cons_succ]
  refine any_inv (fun L a W => ∃ b1 b4 b5 b6 b7 b9 b10 b11 b12 b13 b14 : Bool, ∃ x10 x13 x14 x15 x16 x18 x19 x20 x21 x22 x23 : Value, L = #[true, b1, true, true, b4, b5, b6, b7, true, b9, b10, b11, b12, b13, b14, false, false, false] ∧ a = ⟨#[.int .u8 k, .int .u32 xid, .agg #[.int .u8 y0, .int .u8 y1, .int .u8 y2, .int .u8 y3], .int .u32 x, undef, undef, .pointer (some ⟨g6, 0, none⟩), undef, .pointer (some ⟨g8, 0, none⟩), .int .u32 xid, x10, .agg #[.int .u8 y0, .int .u8 y1, .int .u8 y2, .int .u8 y3], .int .u8 k, x13, x14, x15, x16, .int .u32 x, x18, x19, x20, x21, x22, x23, undef, undef], []⟩ ∧ (b1 = true → x10 = .agg #[.int .u8 2, .int .u8 0, .int .u8 0, .int .u8 0, .int .u8 0, .int .u8 2]) ∧ (b4 = true → Fx (w3.heap.size) W x13 (fun g => .slice (some ⟨g, 0, none⟩) 1 1) #[.int .u8 k] 5) ∧ (b5 = true → Fx (w3.heap.size) W x14 (fun g => .agg #[.int .i64 53, .slice (some ⟨g, 0, none⟩) 1 1]) #[.int .u8 k] 5) ∧ (b6 = true → Fx (w3.heap.size) W x15 (fun g => .slice (some ⟨g, 0, none⟩) 4 4) #[.int .u8 10, .int .u8 0, .int .u8 0, .int .u8 254] 5) ∧ (b7 = true → Fx (w3.heap.size) W x16 (fun g => .agg #[.int .i64 54, .slice (some ⟨g, 0, none⟩) 4 4]) #[.int .u8 10, .int .u8 0, .int .u8 0, .int .u8 254] 5) ∧ (b9 = true → Fx (w3.heap.size) W x18 (fun g => .slice (some ⟨g, 0, none⟩) 4 4) #[.int .u8 (x / 16777216 % 256), .int .u8 (x / 65536 % 256), .int .u8 (x / 256 % 256), .int .u8 (x % 256)] 5) ∧ (b10 = true → Fx (w3.heap.size) W x19 (fun g => .agg #[.int .i64 51, .slice (some ⟨g, 0, none⟩) 4 4]) #[.int .u8 (x / 16777216 % 256), .int .u8 (x / 65536 % 256), .int .u8 (x / 256 % 256), .int .u8 (x % 256)] 5) ∧ (b11 = true → Fx (w3.heap.size) W x20 (fun g => .slice (some ⟨g, 0, none⟩) 4 4) #[.int .u8 255, .int .u8 0, .int .u8 0, .int .u8 0] 5) ∧ (b12 = true → Fx (w3.heap.size) W x21 (fun g => .agg #[.int .i64 1, .slice (some ⟨g, 0, none⟩) 4 4]) #[.int .u8 255, .int .u8 0, .int .u8 0, .int .u8 0] 5) ∧ (b13 = true → Fx (w3.heap.size) W x22 (fun g => .slice (some ⟨g, 0, none⟩) 4 4) #[.int .u8 10, .int .u8 0, .int .u8 0, .int .u8 253] 5) ∧ (b14 = true → Fx (w3.heap.size) W x23 (fun g => .agg #[.int .i64 3, .slice (some ⟨g, 0, none⟩) 4 4]) #[.int .u8 10, .int .u8 0, .int .u8 0, .int .u8 253] 5) ∧ (b5 = true → b4 = true) ∧ (b7 = true → b6 = true) ∧ (b9 = true → b1 = true) ∧ (b10 = true → b9 = true) ∧ (b12 = true → b11 = true) ∧ (b14 = true → b13 = true) ∧ Below w3.heap.size w3 W) #[true, true, true, true, true, true, true, true, true, true, true, true, true, true, true, false, false, false] 15 (by kernel_rfl) ?hI_ ?hstep_ ?hend_ 14 _ _ _ (by kernel_rfl) ?hst_
  case hI_ =>
    rintro L a W ⟨b1, b4, b5, b6, b7, b9, b10, b11, b12, b13, b14, x10, x13, x14, x15, x16, x18, x19, x20, x21, x22, x23, rfl, rfl, f1, f4, f5, f6, f7, f9, f10, f11, f12, f13, f14, k5_4, k7_6, k9_1, k10_9, k12_11, k14_13, bb⟩
    exact ⟨rfl, rfl, blk_u hyb bb⟩
  case hst_ =>
    exact ⟨false, false, false, false, false, false, false, false, false, false, false, undef, undef, undef, undef, undef, undef, undef, undef, undef, undef, undef, rfl, rfl, (fun h => by cases h), (fun h => by cases h), (fun h => by cases h), (fun h => by cases h), (fun h => by cases h), (fun h => by cases h), (fun h => by cases h), (fun h => by cases h), (fun h => by cases h), (fun h => by cases h), (fun h => by cases h), (fun h => by cases h), (fun h => by cases h), (fun h => by cases h), (fun h => by cases h), (fun h => by cases h), (fun h => by cases h), Below.refl _ _⟩
  case hstep_ =>
    rintro L a W i ⟨b1, b4, b5, b6, b7, b9, b10, b11, b12, b13, b14, x10, x13, x14, x15, x16, x18, x19, x20, x21, x22, x23, rfl, rfl, f1, f4, f5, f6, f7, f9, f10, f11, f12, f13, f14, k5_4, k7_6, k9_1, k10_9, k12_11, k14_13, bb⟩ hne hi
    have hlt_ : i < 18 := ready_lt hi
    obtain rfl | rfl | rfl | rfl | rfl | rfl | rfl | rfl | rfl | rfl | rfl | rfl | rfl | rfl | rfl | rfl | rfl | rfl : i = 0 ∨ i = 1 ∨ i = 2 ∨ i = 3 ∨ i = 4 ∨ i = 5 ∨ i = 6 ∨ i = 7 ∨ i = 8 ∨ i = 9 ∨ i = 10 ∨ i = 11 ∨ i = 12 ∨ i = 13 ∨ i = 14 ∨ i = 15 ∨ i = 16 ∨ i = 17 := by omega
    all_goals clear hlt_
    · skip
      exact (Bool.noConfusion (show true = false from ready_un hi))
    · skip
      have e_ : b1 = false := ready_un hi
      clear hi hne
      subst e_
      refine wpOp_step (o := _) rfl (fun K hK => ?_)
      simp only [List.getElem_toArray, List.getElem_cons_zero, List.getElem_cons_succ]
      go_simp
      with_reducible refine (lmac _).mono ?_
      rintro e W2 ⟨rfl, b2⟩
      dsimp only
      exact hK _ _ ⟨true, b4, b5, b6, b7, b9, b10, b11, b12, b13, b14, (.agg #[.int .u8 2, .int .u8 0, .int .u8 0, .int .u8 0, .int .u8 0, .int .u8 2]), x13, x14, x15, x16, x18, x19, x20, x21, x22, x23, rfl, rfl, (fun _ => rfl), (fun h_ => (f4 h_).below b2), (fun h_ => (f5 h_).below b2), (fun h_ => (f6 h_).below b2), (fun h_ => (f7 h_).below b2), (fun h_ => (f9 h_).below b2), (fun h_ => (f10 h_).below b2), (fun h_ => (f11 h_).below b2), (fun h_ => (f12 h_).below b2), (fun h_ => (f13 h_).below b2), (fun h_ => (f14 h_).below b2), (k5_4), (k7_6), (fun _ => rfl), (k10_9), (k12_11), (k14_13), bb.trans (b2.mono bb.size)⟩
    · skip
      exact (Bool.noConfusion (show true = false from ready_un hi))
    · skip
      exact (Bool.noConfusion (show true = false from ready_un hi))
    · skip
      have e_ : b4 = false := ready_un hi
      clear hi hne
      subst e_
      refine wpOp_step (o := _) rfl (fun K hK => ?_)
      simp only [List.getElem_toArray, List.getElem_cons_zero, List.getElem_cons_succ]
      rw [if_pos (by rfl)]
      refine wp_lit_n 57 5 1 _ rfl #[.int .u8 k] (.int .u8 0) Try.underlying57 (by kernel_rfl) 1 (by kernel_rfl) (by decide) (by kernel_rfl) ?_
      intro g_ W2 ge lt hh b2
      exact hK _ _ ⟨b1, true, b5, b6, b7, b9, b10, b11, b12, b13, b14, x10, (.slice (some ⟨g_, 0, none⟩) 1 1), x14, x15, x16, x18, x19, x20, x21, x22, x23, rfl, rfl, (f1), (fun _ => ⟨g_, rfl, Nat.le_trans bb.size ge, hh⟩), (fun h_ => (f5 h_).below b2), (fun h_ => (f6 h_).below b2), (fun h_ => (f7 h_).below b2), (fun h_ => (f9 h_).below b2), (fun h_ => (f10 h_).below b2), (fun h_ => (f11 h_).below b2), (fun h_ => (f12 h_).below b2), (fun h_ => (f13 h_).below b2), (fun h_ => (f14 h_).below b2), (fun _ => rfl), (k7_6), (k9_1), (k10_9), (k12_11), (k14_13), bb.trans (b2.mono bb.size)⟩
    · skip
      have e_ : b5 = false := ready_un hi
      have e4 : b4 = true := ready_dep 4 hi (by kernel_rfl)
      clear hi hne
      subst e_
      subst e4
      obtain ⟨g_, rfl, l_, h_⟩ := f4 rfl
      have f4 : Fx (w3.heap.size) W _ (fun g => .slice (some ⟨g, 0, none⟩) 1 1) #[.int .u8 k] 5 := ⟨g_, rfl, l_, h_⟩
      refine wpOp_step (o := _) rfl (fun K hK => ?_)
      simp only [List.getElem_toArray, List.getElem_cons_zero, List.getElem_cons_succ]
      rw [if_pos (by rfl)]
      refine wp_valz (v := .agg #[.int .i64 53, .slice (some ⟨g_, 0, none⟩) 1 1]) (by (go_simp) <;> with_reducible rfl) ?_
      exact hK _ _ ⟨b1, true, true, b6, b7, b9, b10, b11, b12, b13, b14, x10, (.slice (some ⟨g_, 0, none⟩) 1 1), (.agg #[.int .i64 53, .slice (some ⟨g_, 0, none⟩) 1 1]), x15, x16, x18, x19, x20, x21, x22, x23, rfl, rfl, (f1), (fun _ => f4), (fun _ => ⟨g_, rfl, l_, h_⟩), (f6), (f7), (f9), (f10), (f11), (f12), (f13), (f14), (fun _ => rfl), (k7_6), (k9_1), (k10_9), (k12_11), (k14_13), bb⟩
    · skip
      have e_ : b6 = false := ready_un hi
      clear hi hne
      subst e_
      refine wpOp_step (o := _) rfl (fun K hK => ?_)
      simp only [List.getElem_toArray, List.getElem_cons_zero, List.getElem_cons_succ]
      rw [if_pos (by rfl)]
      refine wp_lit_n 57 5 4 _ rfl #[.int .u8 10, .int .u8 0, .int .u8 0, .int .u8 254] (.int .u8 0) Try.underlying57 (by kernel_rfl) 1 (by kernel_rfl) (by decide) (by kernel_rfl) ?_
      intro g_ W2 ge lt hh b2
      exact hK _ _ ⟨b1, b4, b5, true, b7, b9, b10, b11, b12, b13, b14, x10, x13, x14, (.slice (some ⟨g_, 0, none⟩) 4 4), x16, x18, x19, x20, x21, x22, x23, rfl, rfl, (f1), (fun h_ => (f4 h_).below b2), (fun h_ => (f5 h_).below b2), (fun _ => ⟨g_, rfl, Nat.le_trans bb.size ge, hh⟩), (fun h_ => (f7 h_).below b2), (fun h_ => (f9 h_).below b2), (fun h_ => (f10 h_).below b2), (fun h_ => (f11 h_).below b2), (fun h_ => (f12 h_).below b2), (fun h_ => (f13 h_).below b2), (fun h_ => (f14 h_).below b2), (k5_4), (fun _ => rfl), (k9_1), (k10_9), (k12_11), (k14_13), bb.trans (b2.mono bb.size)⟩
    · skip
      have e_ : b7 = false := ready_un hi
      have e6 : b6 = true := ready_dep 6 hi (by kernel_rfl)
      clear hi hne
      subst e_
      subst e6
      obtain ⟨g_, rfl, l_, h_⟩ := f6 rfl
      have f6 : Fx (w3.heap.size) W _ (fun g => .slice (some ⟨g, 0, none⟩) 4 4) #[.int .u8 10, .int .u8 0, .int .u8 0, .int .u8 254] 5 := ⟨g_, rfl, l_, h_⟩
      refine wpOp_step (o := _) rfl (fun K hK => ?_)
      simp only [List.getElem_toArray, List.getElem_cons_zero, List.getElem_cons_succ]
      rw [if_pos (by rfl)]
      refine wp_valz (v := .agg #[.int .i64 54, .slice (some ⟨g_, 0, none⟩) 4 4]) (by (go_simp) <;> with_reducible rfl) ?_
      exact hK _ _ ⟨b1, b4, b5, true, true, b9, b10, b11, b12, b13, b14, x10, x13, x14, (.slice (some ⟨g_, 0, none⟩) 4 4), (.agg #[.int .i64 54, .slice (some ⟨g_, 0, none⟩) 4 4]), x18, x19, x20, x21, x22, x23, rfl, rfl, (f1), (f4), (f5), (fun _ => f6), (fun _ => ⟨g_, rfl, l_, h_⟩), (f9), (f10), (f11), (f12), (f13), (f14), (k5_4), (fun _ => rfl), (k9_1), (k10_9), (k12_11), (k14_13), bb⟩
    · skip
      exact (Bool.noConfusion (show true = false from ready_un hi))
    · skip
      have e_ : b9 = false := ready_un hi
      have e1 : b1 = true := ready_dep 1 hi (by kernel_rfl)
      clear hi hne
      subst e_
      subst e1
      obtain rfl := f1 rfl
      refine wpOp_step (o := _) rfl (fun K hK => ?_)
      simp only [List.getElem_toArray, List.getElem_cons_zero, List.getElem_cons_succ]
      go_simp
      with_reducible refine (lnum _).mono ?_
      rintro e W2 ⟨g_, rfl, ge, hh, b2⟩
      dsimp only
      exact hK _ _ ⟨true, b4, b5, b6, b7, true, b10, b11, b12, b13, b14, (.agg #[.int .u8 2, .int .u8 0, .int .u8 0, .int .u8 0, .int .u8 0, .int .u8 2]), x13, x14, x15, x16, (.slice (some ⟨g_, 0, none⟩) 4 4), x19, x20, x21, x22, x23, rfl, rfl, (fun _ => rfl), (fun h_ => (f4 h_).below b2), (fun h_ => (f5 h_).below b2), (fun h_ => (f6 h_).below b2), (fun h_ => (f7 h_).below b2), (fun _ => ⟨g_, rfl, Nat.le_trans bb.size ge, hh⟩), (fun h_ => (f10 h_).below b2), (fun h_ => (f11 h_).below b2), (fun h_ => (f12 h_).below b2), (fun h_ => (f13 h_).below b2), (fun h_ => (f14 h_).below b2), (k5_4), (k7_6), (fun _ => rfl), (fun _ => rfl), (k12_11), (k14_13), bb.trans (b2.mono bb.size)⟩
    · skip
      have e_ : b10 = false := ready_un hi
      have e9 : b9 = true := ready_dep 9 hi (by kernel_rfl)
      clear hi hne
      subst e_
      subst e9
      obtain ⟨g_, rfl, l_, h_⟩ := f9 rfl
      have f9 : Fx (w3.heap.size) W _ (fun g => .slice (some ⟨g, 0, none⟩) 4 4) #[.int .u8 (x / 16777216 % 256), .int .u8 (x / 65536 % 256), .int .u8 (x / 256 % 256), .int .u8 (x % 256)] 5 := ⟨g_, rfl, l_, h_⟩
      refine wpOp_step (o := _) rfl (fun K hK => ?_)
      simp only [List.getElem_toArray, List.getElem_cons_zero, List.getElem_cons_succ]
      rw [if_pos (by rfl)]
      refine wp_valz (v := .agg #[.int .i64 51, .slice (some ⟨g_, 0, none⟩) 4 4]) (by (go_simp) <;> with_reducible rfl) ?_
      exact hK _ _ ⟨b1, b4, b5, b6, b7, true, true, b11, b12, b13, b14, x10, x13, x14, x15, x16, (.slice (some ⟨g_, 0, none⟩) 4 4), (.agg #[.int .i64 51, .slice (some ⟨g_, 0, none⟩) 4 4]), x20, x21, x22, x23, rfl, rfl, (f1), (f4), (f5), (f6), (f7), (fun _ => f9), (fun _ => ⟨g_, rfl, l_, h_⟩), (f11), (f12), (f13), (f14), (k5_4), (k7_6), (k9_1), (fun _ => rfl), (k12_11), (k14_13), bb⟩
    · skip
      have e_ : b11 = false := ready_un hi
      clear hi hne
      subst e_
      refine wpOp_step (o := _) rfl (fun K hK => ?_)
      simp only [List.getElem_toArray, List.getElem_cons_zero, List.getElem_cons_succ]
      rw [if_pos (by rfl)]
      refine wp_lit_n 57 5 4 _ rfl #[.int .u8 255, .int .u8 0, .int .u8 0, .int .u8 0] (.int .u8 0) Try.underlying57 (by kernel_rfl) 1 (by kernel_rfl) (by decide) (by kernel_rfl) ?_
      intro g_ W2 ge lt hh b2
      exact hK _ _ ⟨b1, b4, b5, b6, b7, b9, b10, true, b12, b13, b14, x10, x13, x14, x15, x16, x18, x19, (.slice (some ⟨g_, 0, none⟩) 4 4), x21, x22, x23, rfl, rfl, (f1), (fun h_ => (f4 h_).below b2), (fun h_ => (f5 h_).below b2), (fun h_ => (f6 h_).below b2), (fun h_ => (f7 h_).below b2), (fun h_ => (f9 h_).below b2), (fun h_ => (f10 h_).below b2), (fun _ => ⟨g_, rfl, Nat.le_trans bb.size ge, hh⟩), (fun h_ => (f12 h_).below b2), (fun h_ => (f13 h_).below b2), (fun h_ => (f14 h_).below b2), (k5_4), (k7_6), (k9_1), (k10_9), (fun _ => rfl), (k14_13), bb.trans (b2.mono bb.size)⟩
    · skip
      have e_ : b12 = false := ready_un hi
      have e11 : b11 = true := ready_dep 11 hi (by kernel_rfl)
      clear hi hne
      subst e_
      subst e11
      obtain ⟨g_, rfl, l_, h_⟩ := f11 rfl
      have f11 : Fx (w3.heap.size) W _ (fun g => .slice (some ⟨g, 0, none⟩) 4 4) #[.int .u8 255, .int .u8 0, .int .u8 0, .int .u8 0] 5 := ⟨g_, rfl, l_, h_⟩
      refine wpOp_step (o := _) rfl (fun K hK => ?_)
      simp only [List.getElem_toArray, List.getElem_cons_zero, List.getElem_cons_succ]
      rw [if_pos (by rfl)]
      refine wp_valz (v := .agg #[.int .i64 1, .slice (some ⟨g_, 0, none⟩) 4 4]) (by (go_simp) <;> with_reducible rfl) ?_
      exact hK _ _ ⟨b1, b4, b5, b6, b7, b9, b10, true, true, b13, b14, x10, x13, x14, x15, x16, x18, x19, (.slice (some ⟨g_, 0, none⟩) 4 4), (.agg #[.int .i64 1, .slice (some ⟨g_, 0, none⟩) 4 4]), x22, x23, rfl, rfl, (f1), (f4), (f5), (f6), (f7), (f9), (f10), (fun _ => f11), (fun _ => ⟨g_, rfl, l_, h_⟩), (f13), (f14), (k5_4), (k7_6), (k9_1), (k10_9), (fun _ => rfl), (k14_13), bb⟩
    · skip
      have e_ : b13 = false := ready_un hi
      clear hi hne
      subst e_
      refine wpOp_step (o := _) rfl (fun K hK => ?_)
      simp only [List.getElem_toArray, List.getElem_cons_zero, List.getElem_cons_succ]
      rw [if_pos (by rfl)]
      refine wp_lit_n 57 5 4 _ rfl #[.int .u8 10, .int .u8 0, .int .u8 0, .int .u8 253] (.int .u8 0) Try.underlying57 (by kernel_rfl) 1 (by kernel_rfl) (by decide) (by kernel_rfl) ?_
      intro g_ W2 ge lt hh b2
      exact hK _ _ ⟨b1, b4, b5, b6, b7, b9, b10, b11, b12, true, b14, x10, x13, x14, x15, x16, x18, x19, x20, x21, (.slice (some ⟨g_, 0, none⟩) 4 4), x23, rfl, rfl, (f1), (fun h_ => (f4 h_).below b2), (fun h_ => (f5 h_).below b2), (fun h_ => (f6 h_).below b2), (fun h_ => (f7 h_).below b2), (fun h_ => (f9 h_).below b2), (fun h_ => (f10 h_).below b2), (fun h_ => (f11 h_).below b2), (fun h_ => (f12 h_).below b2), (fun _ => ⟨g_, rfl, Nat.le_trans bb.size ge, hh⟩), (fun h_ => (f14 h_).below b2), (k5_4), (k7_6), (k9_1), (k10_9), (k12_11), (fun _ => rfl), bb.trans (b2.mono bb.size)⟩
    · skip
      have e_ : b14 = false := ready_un hi
      have e13 : b13 = true := ready_dep 13 hi (by kernel_rfl)
      clear hi hne
      subst e_
      subst e13
      obtain ⟨g_, rfl, l_, h_⟩ := f13 rfl
      have f13 : Fx (w3.heap.size) W _ (fun g => .slice (some ⟨g, 0, none⟩) 4 4) #[.int .u8 10, .int .u8 0, .int .u8 0, .int .u8 253] 5 := ⟨g_, rfl, l_, h_⟩
      refine wpOp_step (o := _) rfl (fun K hK => ?_)
      simp only [List.getElem_toArray, List.getElem_cons_zero, List.getElem_cons_succ]
      rw [if_pos (by rfl)]
      refine wp_valz (v := .agg #[.int .i64 3, .slice (some ⟨g_, 0, none⟩) 4 4]) (by (go_simp) <;> with_reducible rfl) ?_
      exact hK _ _ ⟨b1, b4, b5, b6, b7, b9, b10, b11, b12, true, true, x10, x13, x14, x15, x16, x18, x19, x20, x21, (.slice (some ⟨g_, 0, none⟩) 4 4), (.agg #[.int .i64 3, .slice (some ⟨g_, 0, none⟩) 4 4]), rfl, rfl, (f1), (f4), (f5), (f6), (f7), (f9), (f10), (f11), (f12), (fun _ => f13), (fun _ => ⟨g_, rfl, l_, h_⟩), (k5_4), (k7_6), (k9_1), (k10_9), (k12_11), (fun _ => rfl), bb⟩
    · skip
      have e5 : b5 = true := ready_dep 5 hi (by kernel_rfl)
      have e7 : b7 = true := ready_dep 7 hi (by kernel_rfl)
      have e10 : b10 = true := ready_dep 10 hi (by kernel_rfl)
      have e12 : b12 = true := ready_dep 12 hi (by kernel_rfl)
      have e14 : b14 = true := ready_dep 14 hi (by kernel_rfl)
      have e4 : b4 = true := k5_4 e5
      have e6 : b6 = true := k7_6 e7
      have e9 : b9 = true := k10_9 e10
      have e1 : b1 = true := k9_1 e9
      have e11 : b11 = true := k12_11 e12
      have e13 : b13 = true := k14_13 e14
      subst e1 e4 e5 e6 e7 e9 e10 e11 e12 e13 e14
      exact absurd rfl hne
    · skip
      exact (Bool.noConfusion (show false = true from ready_dep 15 hi (by kernel_rfl)))
    · skip
      exact (Bool.noConfusion (show false = true from ready_dep 16 hi (by kernel_rfl)))
  rintro a_ w4 ⟨b1, b4, b5, b6, b7, b9, b10, b11, b12, b13, b14, x10, x13, x14, x15, x16, x18, x19, x20, x21, x22, x23, hL_, rfl, f1, f4, f5, f6, f7, f9, f10, f11, f12, f13, f14, k5_4, k7_6, k9_1, k10_9, k12_11, k14_13, bb⟩
  obtain rfl : true = b1 := congrArg (fun L : Array Bool => L.getD 1 false) hL_
  obtain rfl : true = b4 := congrArg (fun L : Array Bool => L.getD 4 false) hL_
  obtain rfl : true = b5 := congrArg (fun L : Array Bool => L.getD 5 false) hL_
  obtain rfl : true = b6 := congrArg (fun L : Array Bool => L.getD 6 false) hL_
  obtain rfl : true = b7 := congrArg (fun L : Array Bool => L.getD 7 false) hL_
  obtain rfl : true = b9 := congrArg (fun L : Array Bool => L.getD 9 false) hL_
  obtain rfl : true = b10 := congrArg (fun L : Array Bool => L.getD 10 false) hL_
  obtain rfl : true = b11 := congrArg (fun L : Array Bool => L.getD 11 false) hL_
  obtain rfl : true = b12 := congrArg (fun L : Array Bool => L.getD 12 false) hL_
  obtain rfl : true = b13 := congrArg (fun L : Array Bool => L.getD 13 false) hL_
  obtain rfl : true = b14 := congrArg (fun L : Array Bool => L.getD 14 false) hL_
  clear hL_ k5_4 k7_6 k9_1 k10_9 k12_11 k14_13
  obtain rfl := f1 rfl
  clear f4
  obtain ⟨gA, rfl, l_b1, hh_b1⟩ := f5 rfl
  clear f6
  obtain ⟨gB, rfl, l_b2, hh_b2⟩ := f7 rfl
  clear f9
  obtain ⟨gN, rfl, l_bn, hh_bn⟩ := f10 rfl
  clear f11
  obtain ⟨gC, rfl, l_b3, hh_b3⟩ := f12 rfl
  clear f13
  obtain ⟨gD, rfl, l_b4, hh_b4⟩ := f14 rfl
  have d_yb_b1 := ne_new (hlt hyb) l_b1
  have d_z_b1 := ne_new (hlt hz) l_b1
  have ob1 := Nat.le_trans bel.size l_b1
  have d_yb_b2 := ne_new (hlt hyb) l_b2
  have d_z_b2 := ne_new (hlt hz) l_b2
  have ob2 := Nat.le_trans bel.size l_b2
  have d_yb_bn := ne_new (hlt hyb) l_bn
  have d_z_bn := ne_new (hlt hz) l_bn
  have obn := Nat.le_trans bel.size l_bn
  have d_yb_b3 := ne_new (hlt hyb) l_b3
  have d_z_b3 := ne_new (hlt hz) l_b3
  have ob3 := Nat.le_trans bel.size l_b3
  have d_yb_b4 := ne_new (hlt hyb) l_b4
  have d_z_b4 := ne_new (hlt hz) l_b4
  have ob4 := Nat.le_trans bel.size l_b4
  replace hyb := blk_u hyb bb
  replace hz := blk_u hz bb
  replace bel := bel.trans (bb.mono bel.size)
  clear bb l_b1 l_b2 l_bn l_b3 l_b4
  have hb1 := hh_b1
  clear hh_b1
  have hb2 := hh_b2
  clear hh_b2
  have hbn := hh_bn
  clear hh_bn
  have hb3 := hh_b3
  clear hh_b3
  have hb4 := hh_b4
  clear hh_b4
  have hH5 : (fun W => W.heap[g6]? = some (.cells #[.int .u8 y0, .int .u8 y1, .int .u8 y2, .int .u8 y3] 34 (0, 0))) w4 := hyb
  refine wpAnyH_ready (rs := [15]) (by kernel_rfl) (by simp) ?_
  refine AllReadyH.cons (o := _) rfl (fun K hK => ?_) AllReadyH.nil
  simp only [List.getElem_toArray, List.getElem_cons_zero, List.getElem_cons_succ]
  rw [if_pos (by rfl)]
  refine wp_lit_n 35 59 5 _ rfl #[.int .i64 53, .slice (some ⟨gA, 0, none⟩) 1 1, .int .i64 54, .slice (some ⟨gB, 0, none⟩) 4 4, .int .i64 51, .slice (some ⟨gN, 0, none⟩) 4 4, .int .i64 1, .slice (some ⟨gC, 0, none⟩) 4 4, .int .i64 3, .slice (some ⟨gD, 0, none⟩) 4 4] (.agg #[.int .i64 0, .slice none 0 0]) Try.underlying35 (by kernel_rfl) 2 (by kernel_rfl) (by decide) (by kernel_rfl) ?_
  intro g24 w6 ge lt hh bb
  have d_yb_rw := ne_new (hlt hyb) ge
  have d_z_rw := ne_new (hlt hz) ge
  have d_b1_rw := ne_new (hlt hb1) ge
  have d_b2_rw := ne_new (hlt hb2) ge
  have d_bn_rw := ne_new (hlt hbn) ge
  have d_b3_rw := ne_new (hlt hb3) ge
  have d_b4_rw := ne_new (hlt hb4) ge
  have orw := Nat.le_trans bel.size ge
  replace hyb := blk_u hyb bb
  replace hz := blk_u hz bb
  replace hb1 := blk_u hb1 bb
  replace hb2 := blk_u hb2 bb
  replace hbn := blk_u hbn bb
  replace hb3 := blk_u hb3 bb
  replace hb4 := blk_u hb4 bb
  replace bel := bel.trans (bb.mono bel.size)
  have hrw := hh
  clear hh lt ge bb
  refine hK.out _ _ hyb (fun hH7 => ?_)
  clear hK K
  simp only [Act.put, List.setIfInBounds_toArray, List.set_cons_zero, List.set_cons_succ]
  refine wpAnyH_take (i := 16) (v := ?_) rfl (by kernel_rfl) (by kernel_rfl) (by kernel_rfl) (fun _ _ _ h => h) (Or.inl ⟨by rfl, ?_⟩) hH7 ?_
  rotate_left
  · ((intro W hW; clear hW; go_simp) <;> with_reducible rfl)
  simp only [Act.put, List.getElem_toArray, List.getElem_cons_zero, List.getElem_cons_succ, List.setIfInBounds_toArray, List.set_cons_zero, List.set_cons_succ]
  refine wpAnyH_ready (rs := [17]) (by kernel_rfl) (by simp) ?_
  refine AllReadyH.cons (o := _) rfl (fun K hK => ?_) AllReadyH.nil
  simp only [List.getElem_toArray, List.getElem_cons_zero, List.getElem_cons_succ]
  rw [if_pos (by rfl)]
  refine wp_store_blk 37 (.tmp 8) (.tmp 25) rfl g8 rfl _ rfl _ 37 hz (by rfl) (by kernel_rfl) (by kernel_rfl) ?_
  intro w8 hq gr
  replace hyb := blk_a hyb gr d_yb_z
  replace hb1 := blk_a hb1 gr (ne_symm d_z_b1)
  replace hb2 := blk_a hb2 gr (ne_symm d_z_b2)
  replace hbn := blk_a hbn gr (ne_symm d_z_bn)
  replace hb3 := blk_a hb3 gr (ne_symm d_z_b3)
  replace hb4 := blk_a hb4 gr (ne_symm d_z_b4)
  replace hrw := blk_a hrw gr (ne_symm d_z_rw)
  replace bel := below_grown bel gr oz bel.size
  clear hz
  have hz := hq
  clear hq gr
  refine hK.out _ _ hyb (fun hH9 => ?_)
  clear hK K
  simp only [Act.put]
  refine wpAnyH_done (by kernel_rfl) ?_ _
  go_wp2_with fail
  exact bodyPost_ret (results_cell_row' rfl _ _ _ _ _ _ _ rfl hz Try.underlying37 rfl (by kernel_rfl)) rfl ⟨_, _, rfl, ⟨_, os_five (x := ⟨53, some ⟨gA, 0, none⟩, 1, 1⟩) (y := ⟨54, some ⟨gB, 0, none⟩, 4, 4⟩) (z := ⟨51, some ⟨gN, 0, none⟩, 4, 4⟩) (u := ⟨1, some ⟨gC, 0, none⟩, 4, 4⟩) (v := ⟨3, some ⟨gD, 0, none⟩, 4, 4⟩) hrw (ob_one 53 hb1 HK.out (by decide)) (ob_four 54 hb2 rfl rfl rfl rfl (by decide)) (ob_four 51 hbn (u8_n _) (u8_n _) (u8_n _) (u8_n _) (by decide)) (ob_four 1 hb3 rfl rfl rfl rfl (by decide)) (ob_four 3 hb4 rfl rfl rfl rfl (by decide))⟩, bel⟩
def greatB (n : Nat) (hs : List Oh) : Bool := decide (20 < n) || hs.any (fun x => decide (1300 < x.n))
theorem great_n {n : Nat} {hs : List Oh} (h : 20 < n) : greatB n hs = true := by unfold greatB; rw [decide_eq_true h]; rfl
theorem great_x {n k : Nat} {hs : List Oh} {x : Oh} (hx : hs[k]? = some x) (h : 1300 < x.n) : greatB n hs = true := by
  unfold greatB
  rw [List.any_eq_true.2 ⟨x, List.mem_of_getElem? hx, decide_eq_true h⟩, Bool.or_true]
theorem great_no {n : Nat} {hs : List Oh} (h : ¬ 20 < n) (hb : ∀ (j : Nat) (x : Oh), j < hs.length → hs[j]? = some x → x.n ≤ 1300) : greatB n hs = false := by
  unfold greatB
  rw [decide_eq_false h, Bool.false_or, List.any_eq_false]
  intro x hx
  obtain ⟨j, hj⟩ := List.getElem?_of_mem hx
  have := hb j x (List.getElem?_eq_some_iff.1 hj).1 hj
  simpa using this
theorem great_all {n : Nat} {hs : List Oh} (h : greatB n hs = false) : n ≤ 20 ∧ ∀ x ∈ hs, x.n ≤ 1300 := by
  unfold greatB at h
  rw [Bool.or_eq_false_iff, List.any_eq_false] at h
  refine ⟨by have := of_decide_eq_false h.1; omega, fun x hx => ?_⟩
  have := h.2 x hx
  simpa using this
theorem bl_next {hs : List Oh} {k m : Nat} {x : Oh} (h : ∀ (j : Nat) (y : Oh), j < k → hs[j]? = some y → y.n ≤ m) (hx : hs[k]? = some x) (hm : x.n ≤ m) : ∀ (j : Nat) (y : Oh), j < k + 1 → hs[j]? = some y → y.n ≤ m := by
  intro j y hj hy
  rcases Nat.lt_or_ge j k with h_ | h_
  · exact h j y h_ hy
  · obtain rfl : j = k := by omega
    rw [hx] at hy
    cases hy
    exact hm
set_option linter.unusedVariables false in
set_option linter.unusedSimpArgs false in
set_option maxRecDepth 100000 in
set_option maxHeartbeats 16000000 in
theorem great16_any {h : Mh} {A : Option Addr} {n c : Nat} {hs : List Oh} (w : World) (en : Sle opE 2 w A n c hs) : Calls Try.prog 18 #[.agg #[.int .i64 h.op, .int .i64 h.hops, .int .u32 h.xid, .int .i64 h.secs, .int .i64 h.flags, .int .u8 (h.c0.toNat : Int), .int .u8 (h.c1.toNat : Int), .int .u8 (h.c2.toNat : Int), .int .u8 (h.c3.toNat : Int), .int .u8 (h.y0.toNat : Int), .int .u8 (h.y1.toNat : Int), .int .u8 (h.y2.toNat : Int), .int .u8 (h.y3.toNat : Int), .int .u8 (h.s0.toNat : Int), .int .u8 (h.s1.toNat : Int), .int .u8 (h.s2.toNat : Int), .int .u8 (h.s3.toNat : Int), .int .u8 (h.r0.toNat : Int), .int .u8 (h.r1.toNat : Int), .int .u8 (h.r2.toNat : Int), .int .u8 (h.r3.toNat : Int), .int .u8 (h.m0.toNat : Int), .int .u8 (h.m1.toNat : Int), .int .u8 (h.m2.toNat : Int), .int .u8 (h.m3.toNat : Int), .int .u8 (h.m4.toNat : Int), .int .u8 (h.m5.toNat : Int), .slice A n c]] w fun e w' => e = .returned (.bool (greatB n hs)) ∧ Below w.heap.size w w' := by
  have HL := Lib.hid en.1
  have bel := Below.refl w.heap.size w
  go_enter Try.func18, Try.ntmps18
  by_cases h20 : 20 < n
  · have h20i : (20 : Int) < n := by omega
    have HP : Hid (greatB n hs = true) := Lib.hid (great_n h20)
    clear h20
    go_wp2_with (first | ((with_reducible show wpList _ _ _ (⟨some 1, _, _, _, _, _⟩ :: _) _ _); refine wpList_box_n rfl 37 (.tmp 0) rfl #[.int .i64 h.op, .int .i64 h.hops, .int .u32 h.xid, .int .i64 h.secs, .int .i64 h.flags, .int .u8 (h.c0.toNat : Int), .int .u8 (h.c1.toNat : Int), .int .u8 (h.c2.toNat : Int), .int .u8 (h.c3.toNat : Int), .int .u8 (h.y0.toNat : Int), .int .u8 (h.y1.toNat : Int), .int .u8 (h.y2.toNat : Int), .int .u8 (h.y3.toNat : Int), .int .u8 (h.s0.toNat : Int), .int .u8 (h.s1.toNat : Int), .int .u8 (h.s2.toNat : Int), .int .u8 (h.s3.toNat : Int), .int .u8 (h.r0.toNat : Int), .int .u8 (h.r1.toNat : Int), .int .u8 (h.r2.toNat : Int), .int .u8 (h.r3.toNat : Int), .int .u8 (h.m0.toNat : Int), .int .u8 (h.m1.toNat : Int), .int .u8 (h.m2.toNat : Int), .int .u8 (h.m3.toNat : Int), .int .u8 (h.m4.toNat : Int), .int .u8 (h.m5.toNat : Int), .slice A n c] rfl ?_; intro g1 w1 ge lt hh bb; have av_en_p := en.av_new ge; have op := Nat.le_trans bel.size ge; replace en := en.below bb; replace bel := bel.trans (bb.mono bel.size); have hp := hh; clear hh lt ge bb; have R5 := cell_lit hp 27 _ rfl))
    try clear R5
    go_ret
    exact ⟨by rw [HP.out]; rfl, bel⟩
  have h20i : decide ((20 : Int) < n) = false := decide_eq_false (by omega)
  have H20 := Lib.hid h20
  have hn0 : (n : Int) ≤ 20 := by omega
  clear h20
  go_wp2_with (first | ((with_reducible show wpList _ _ _ (⟨some 1, _, _, _, _, _⟩ :: _) _ _); refine wpList_box_n rfl 37 (.tmp 0) rfl #[.int .i64 h.op, .int .i64 h.hops, .int .u32 h.xid, .int .i64 h.secs, .int .i64 h.flags, .int .u8 (h.c0.toNat : Int), .int .u8 (h.c1.toNat : Int), .int .u8 (h.c2.toNat : Int), .int .u8 (h.c3.toNat : Int), .int .u8 (h.y0.toNat : Int), .int .u8 (h.y1.toNat : Int), .int .u8 (h.y2.toNat : Int), .int .u8 (h.y3.toNat : Int), .int .u8 (h.s0.toNat : Int), .int .u8 (h.s1.toNat : Int), .int .u8 (h.s2.toNat : Int), .int .u8 (h.s3.toNat : Int), .int .u8 (h.r0.toNat : Int), .int .u8 (h.r1.toNat : Int), .int .u8 (h.r2.toNat : Int), .int .u8 (h.r3.toNat : Int), .int .u8 (h.m0.toNat : Int), .int .u8 (h.m1.toNat : Int), .int .u8 (h.m2.toNat : Int), .int .u8 (h.m3.toNat : Int), .int .u8 (h.m4.toNat : Int), .int .u8 (h.m5.toNat : Int), .slice A n c] rfl ?_; intro g1 w1 ge lt hh bb; have av_en_p := en.av_new ge; have op := Nat.le_trans bel.size ge; replace en := en.below bb; replace bel := bel.trans (bb.mono bel.size); have hp := hh; clear hh lt ge bb; have R5 := cell_lit hp 27 _ rfl))
  try clear R5
  go_loopg [3] (n) (fun gk s3 wr => ∃ k : Nat, gk = n - k ∧ k ≤ n ∧ Hid (∀ (j : Nat) (x : Oh), j < k → hs[j]? = some x → x.n ≤ 1300) ∧ s3 = .int .i64 (k : Int) ∧ wr.heap[g1]? = some (.cells #[.int .i64 h.op, .int .i64 h.hops, .int .u32 h.xid, .int .i64 h.secs, .int .i64 h.flags, .int .u8 (h.c0.toNat : Int), .int .u8 (h.c1.toNat : Int), .int .u8 (h.c2.toNat : Int), .int .u8 (h.c3.toNat : Int), .int .u8 (h.y0.toNat : Int), .int .u8 (h.y1.toNat : Int), .int .u8 (h.y2.toNat : Int), .int .u8 (h.y3.toNat : Int), .int .u8 (h.s0.toNat : Int), .int .u8 (h.s1.toNat : Int), .int .u8 (h.s2.toNat : Int), .int .u8 (h.s3.toNat : Int), .int .u8 (h.r0.toNat : Int), .int .u8 (h.r1.toNat : Int), .int .u8 (h.r2.toNat : Int), .int .u8 (h.r3.toNat : Int), .int .u8 (h.m0.toNat : Int), .int .u8 (h.m1.toNat : Int), .int .u8 (h.m2.toNat : Int), .int .u8 (h.m3.toNat : Int), .int .u8 (h.m4.toNat : Int), .int .u8 (h.m5.toNat : Int), .slice A n c] 37 (0, 0)) ∧ Sle opE 2 wr (A) (n) (c) (hs) ∧ Below w.heap.size w wr)
  case atStart => exact ⟨0, Nat.sub_zero _, Nat.zero_le _, Lib.hid (fun j x h_ => absurd h_ (by omega)), rfl, hp, en, bel⟩
  case round =>
    clear hp en bel
    obtain ⟨k, HGK, hkn, HB2, rfl, hp, en, bel⟩ := hrel
    have HGK_ := Lib.hid HGK
    clear HGK
    by_cases hkk : k < n
    rotate_left
    · obtain rfl : n = k := by omega
      have HP : Hid (greatB n hs = false) := Lib.hid (great_no H20.out (fun j x hj hx => HB2.out j x (by have := HL.out; omega) hx))
      replace hkk : decide (n < n) = false := decide_eq_false (by omega)
      have R10 := cell_lit hp 27 _ rfl
      go_wp2_with fail
      clear R10
      go_ret
      exact ⟨by rw [HP.out]; rfl, bel⟩
    obtain ⟨x, hx_⟩ : ∃ x, hs[k]? = some x := ⟨_, List.getElem?_eq_getElem (by have := HL.out; omega)⟩
    have HX := Lib.hid hx_
    have k0 : (0 : Int) ≤ k := by omega
    have k1 : (k : Int) < n := by omega
    clear hx_
    obtain ⟨gE, oE, hEp⟩ := en.place (by omega)
    subst hEp
    by_cases h2 : 1300 < x.n
    · have h2i : (1300 : Int) < x.n := by omega
      have HP : Hid (greatB n hs = true) := Lib.hid (great_x HX.out h2)
      clear h2
      have R10 := cell_lit hp 27 _ rfl
      have R16 := cell_lit hp 27 _ rfl
      have R20 := Sle.cellk en HX.out 1 _ rfl
      go_wp2_with fail
      clear R10 R16 R20
      go_ret
      exact ⟨by rw [HP.out]; rfl, bel⟩
    have h2i : decide ((1300 : Int) < x.n) = false := decide_eq_false (by omega)
    have H2 : Hid (x.n ≤ 1300) := Lib.hid (by omega)
    clear h2
    have R10 := cell_lit hp 27 _ rfl
    have R16 := cell_lit hp 27 _ rfl
    have R20 := Sle.cellk en HX.out 1 _ rfl
    go_wp2_with fail
    clear R10 R16 R20
    go_roundg (n - (k + 1))
    case measure => have := HGK_.out; omega
    case rel => exact ⟨k + 1, rfl, by omega, Lib.hid (bl_next HB2.out HX.out H2.out), by go_num, hp, en, bel⟩
end Go.Proofs.Ytjfboofnffghjaa
