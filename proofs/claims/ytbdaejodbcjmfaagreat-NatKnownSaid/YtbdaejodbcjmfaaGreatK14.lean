/- Texts put together: Na5, Na7. -/
import Derived.Test.YtbdaejodbcjmfaaGreatK1
import Derived.Test.YtbdaejodbcjmfaaGreatK4
import Derived.Test.YtbdaejodbcjmfaaGreatK11
import Derived.Test.YtbdaejodbcjmfaaGreatK13
import Derived.Deep.CutRange
namespace Go.Proofs.YtbdaejodbcjmfaaGreat
open Go.RowKit
set_option linter.unusedVariables false
set_option linter.unusedSimpArgs false
set_option maxRecDepth 100000
set_option maxHeartbeats 16000000

theorem results_cell_tt_row {P : Program} {fn : Func} {p u z : Tmp} {ty : TypeId} (h : fn.results = #[.cell p ty, .tmp u, .tmp z]) (tmps : Array Value) (w : World) (g : Nat) (T : TypeId) (cs : Array Value) (fr : Nat × Nat) (d : TypeDesc)
  (hp : tmps.getD p undef = .pointer (some ⟨g, 0, none⟩)) (hg : w.heap[g]? = some (.cells cs T fr)) (hu : P.underlying ty = some d) (hd : d.isRow = true) (hi : (P.info? ty).map (·.size) = some cs.size) (x y : Value) (hx : tmps.getD u undef = x) (hy : tmps.getD z undef = y) :
  (results fn tmps).run P w = .ok (.tuple #[.agg cs, x, y]) w := by
 have h1 := run_loadVar_row (P := P) w g T ty cs fr d hg hu (by cases d <;> simp_all) hi
 have hp' : tmps[p]?.getD undef = .pointer (some ⟨g, 0, none⟩) := by simpa using hp
 have hx' : tmps[u]?.getD undef = x := by simpa using hx
 have hy' : tmps[z]?.getD undef = y := by simpa using hy
 simp only [results, h]
 simp [Result.andThen, hp', hx', hy', asAddr, h1]
/-- The Nat with its table as it was, or as another time has left it. -/
def Nq (lo gn gt gk : Nat) (w : World) (s s' : Ts) (k : Ks) : Prop := Np lo gn gt gk w s k ∨ Np lo gn gt gk w s' k
theorem icquery_no (ty cd re : Int) (D : Option Addr) (nd qd : Nat) (h : (echoT ty && decide (cd = 0)) = false) (w : World) : Calls Tryz.prog 71 #[.agg #[.int .i64 ty, .int .i64 cd, .int .u32 re, .slice D nd qd]] w fun e w' => e = .returned (.tuple #[.int .i64 0, .bool false]) ∧ Below w.heap.size w w' := by
 rcases h0 : echoT ty with _ | _
 ·exact icquery_0 ty cd re D nd qd h0 w
 ·by_cases h1 : cd = 0
  ·rw [h0, decide_eq_true h1] at h; cases h
  ·exact icquery_1 ty cd re D nd qd h0 h1 w
theorem inner_yes {gB oB n c h : Nat} {l : List UInt8} (w : World) (lb : Sl w (some ⟨gB, oB, none⟩) n c l) (hm : n ≤ 100000) (hi : inH l = some h) : Calls Tryz.prog 106 #[.slice (some ⟨gB, oB, none⟩) n c] w fun e w' => e = .returned (.tuple #[.agg #[.slice (some ⟨gB, oB, none⟩) n c, .int .i64 (h : Int)], .bool true]) ∧ Below w.heap.size w w' := by
 have hl := lb.1
 unfold inH at hi
 by_cases h1 : l.length < 20
 ·rw [if_pos h1] at hi; cases hi
 rw [if_neg h1] at hi
 by_cases h2 : (l.getD 0 0).toNat / 16 = 4
 ·rw [if_neg (not_not_intro h2)] at hi
  by_cases h3 : hlen (l.getD 0 0) < 20
  ·rw [if_pos h3] at hi; cases hi
  rw [if_neg h3] at hi
  by_cases h4 : l.length < hlen (l.getD 0 0) + 4
  ·rw [if_pos h4] at hi; cases hi
  rw [if_neg h4] at hi
  by_cases h5 : ck (l.take (hlen (l.getD 0 0))) = 0
  ·rw [if_neg (not_not_intro h5)] at hi
   injection hi with hi
   subst hi
   exact inner_y w lb hm (by omega) h2 rfl (by omega) (by omega) h5
  ·rw [if_pos h5] at hi; cases hi
 ·rw [if_pos h2] at hi; cases hi
theorem inH_bnd {l : List UInt8} {h : Nat} (hi : inH l = some h) : 20 ≤ h ∧ h ≤ 60 ∧ h + 4 ≤ l.length := by
 unfold inH at hi
 have h60 := hlen_le (l.getD 0 0)
 by_cases h1 : l.length < 20
 ·rw [if_pos h1] at hi; cases hi
 rw [if_neg h1] at hi
 by_cases h2 : (l.getD 0 0).toNat / 16 ≠ 4
 ·rw [if_pos h2] at hi; cases hi
 rw [if_neg h2] at hi
 by_cases h3 : hlen (l.getD 0 0) < 20
 ·rw [if_pos h3] at hi; cases hi
 rw [if_neg h3] at hi
 by_cases h4 : l.length < hlen (l.getD 0 0) + 4
 ·rw [if_pos h4] at hi; cases hi
 rw [if_neg h4] at hi
 by_cases h5 : ck (l.take (hlen (l.getD 0 0))) ≠ 0
 ·rw [if_pos h5] at hi; cases hi
 rw [if_neg h5] at hi
 injection hi with hi
 omega
theorem Nq.below {lo gn gt gk : Nat} {w w' : World} {s s' : Ts} {k : Ks} (h : Nq lo gn gt gk w s s' k) (b : Below w.heap.size w w') : Nq lo gn gt gk w' s s' k := h.elim (fun h => .inl (h.below b)) (fun h => .inr (h.below b))
theorem Nq.away {lo gn gt gk q : Nat} {w w' : World} {s s' : Ts} {k : Ks} {c : Array Value} {T : TypeId} {fz : Nat × Nat} (h : Nq lo gn gt gk w s s' k) (ap : Anp gn gt gk w q) (g : w.grownBy w' (some q)) (hq : w.heap[q]? = some (.cells c T fz)) : Nq lo gn gt gk w' s s' k := h.elim (fun h => .inl (h.away ap g hq)) (fun h => .inr (h.away ap g hq))
theorem Nq.nat {lo gn gt gk : Nat} {w : World} {s s' : Ts} {k : Ks} (h : Nq lo gn gt gk w s s' k) : w.heap[gn]? = some (.cells #[.pointer (some ⟨gt, 0, none⟩), .pointer (some ⟨gk, 0, none⟩), .int .i64 120, .int .i64 7200, .int .i64 30] 82 (0, 0)) := h.elim (fun h => h.nat) (fun h => h.nat)
theorem Nq.ap {lo gn gt gk q : Nat} {w : World} {s s' : Ts} {k : Ks} (h : Nq lo gn gt gk w s s' k) (hq : w.heap.size ≤ q) : Anp gn gt gk w q := h.elim (fun h => h.ap hq) (fun h => h.ap hq)
open Go.RowKit

theorem b8_elem : Tryz.prog.underlying 36 = some (.slice (Tryz.prog.elem 36)) := by kernel_rfl
theorem b8_el : Tryz.prog.elem 36 = 5 := by kernel_rfl
theorem b8_sz (w : World) : (Go.sizeOf 5).run Tryz.prog w = .ok 1 w := by kernel_rfl
theorem b8_front (g n c : Nat) (i : Nat) (hi : i ≤ c) (W : World) : (Instr.slice 36 (.slice (some ⟨g, 0, none⟩) n c) none (some (.int .i64 (i : Int))) none).run Tryz.prog W = .ok (.slice (some ⟨g, 0, none⟩) i c) W := by
 rw [run_slice_h W 36 _ n c b8_elem .i64 _ (by omega) (by omega), b8_el, b8_sz]
 simp [Result.andThen, sliced, Addr.add]
theorem b8_back (g n c : Nat) (i : Nat) (hi : i ≤ n) (hc : i < c) (W : World) : (Instr.slice 36 (.slice (some ⟨g, 0, none⟩) n c) (some (.int .i64 (i : Int))) none none).run Tryz.prog W = .ok (.slice (some ⟨g, i, none⟩) (n - i) (c - i)) W := by
 rw [run_slice_l W 36 _ n c b8_elem .i64 _ (by omega) (by omega), b8_el, b8_sz]
 simp [Result.andThen, sliced, Addr.add_lit, show ¬ c = i by omega]
theorem gg_below {w W W' : World} {r : Option Nat} (h : w.grownBy W r) (b : Below W.heap.size W W') : w.grownBy W' r := ⟨b.os.trans h.os, b.tape.trans h.tape, b.output.trans h.output, Nat.le_trans h.size b.size, fun k hk hne => (b.block k (Nat.lt_of_lt_of_le hk h.size)).trans (h.block k hk hne)⟩
theorem gg_row {w W W' : World} {r : Option Nat} (h : w.grownBy W r) (g : W.grownBy W' r) : w.grownBy W' r := ⟨g.os.trans h.os, g.tape.trans h.tape, g.output.trans h.output, Nat.le_trans h.size g.size, fun k hk hne => (g.block k (Nat.lt_of_lt_of_le hk h.size) hne).trans (h.block k hk hne)⟩
theorem gg_drew {w W : World} {r : Option Nat} (h : w.grownBy W r) : w.grownBy W.drew r := ⟨h.os, h.tape, h.output, h.size, h.block⟩
theorem src4 {w : World} {g : Nat} {a b c d : Value} {T : TypeId} {fz : Nat × Nat} (h : w.heap[g]? = some (.cells #[a, b, c, d] T fz)) : ∀ j v, ([a, b, c, d] : List Value)[j]? = some v → w.cell? ((⟨g, 0, none⟩ : Addr).add j) = some v := by
 intro j v hj
 match j, hj with
 | 0, hj => simpa [World.cell?, h, Addr.add] using hj
 | 1, hj => simpa [World.cell?, h, Addr.add] using hj
 | 2, hj => simpa [World.cell?, h, Addr.add] using hj
 | 3, hj => simpa [World.cell?, h, Addr.add] using hj
 | j + 4, hj => simp at hj
theorem cells_mid (l : List UInt8) (p : Nat) (q : List UInt8) : (l.map u8v).take p ++ q.map u8v ++ (l.map u8v).drop (p + (q.map u8v).length) = (l.take p ++ q ++ l.drop (p + q.length)).map u8v := by
 rw [List.length_map, List.map_append, List.map_append, List.map_take, List.map_drop]
theorem ofs_old {g n c q B : Nat} (hq : q < B) (hg : B ≤ g) : Ofs (.slice (some ⟨g, 0, none⟩) n c) q := fun j hj e => by
 have : g = j := by simpa [Value.ownBlock] using hj
 omega
theorem bcl_some {ad : Addr} {n c : Nat} {l : List UInt8} (w : World) (hs : Sl w (some ad) n c l) (hn : n ≤ 100000) : Calls Tryz.prog 133 #[.slice (some ad) n c] w fun e w' => ∃ A' c', e = .returned (.slice A' n c') ∧ w'.ownsRow w.heap.size 5 1 (.slice A' n c') n (l.map u8v) ∧ Below w.heap.size w w' := by
 have r4 := fun W => Lib.run_eql_slice_nil (P := Tryz.prog) W 36 5 (some ad) n c 0 0 Tryz.underlying36
 simp only [Option.isNone_some] at r4
 obtain ⟨ii, hii, hz0, hz1, hz2⟩ := info_parts Tryz.info5
 have bel := Below.refl w.heap.size w
 go_enter Tryz.func133, Tryz.ntmps133
 have R4 := r4
 go_wp2_with (first | ((with_reducible show wpList _ _ _ (⟨some 5, _, _, _, _, _⟩ :: _) _ _); refine wpList_lit_n rfl 36 5 0 _ rfl #[] (.int .u8 0) Tryz.underlying36 (by kernel_rfl) 1 (by kernel_rfl) (by decide) (by kernel_rfl) ?_; intro g5 w1 ge lt hh bb; have hl : w1.heap[g5]? = some (.cells (([] : List UInt8).map u8v).toArray 5 (0, 0)) := (by simpa [u8v, byteOf_val] using hh); have e0w := own_lit (B := w.heap.size) ([]) hl ge 0 rfl (by simp [maxLen]); have e0 := (own_sl e0w).1; have e0lo := bel.size; clear hl; have e0ge := ge; have lz_e0 := bb.size; have bl_hs_e0 := hs.bl_new; replace hs := hs.below bb; replace bel := bel.trans (bb.mono bel.size); clear hh lt ge bb) | ((with_reducible show wpList _ _ _ (⟨some 7, _, _, _, _, _⟩ :: _) _ _); refine wpList_append_bb _ rfl (.tmp 5) (.tmp 6) 36 rfl (w.heap.size) 5 ii (.int .u8 0) Tryz.underlying36 hii hz0 hz1 hz2 rfl _ (0) ([]) rfl e0w (some ad) (n) (c) (l) rfl hs (by omega) lz_e0 ?_; intro v7 w2 own_ bb; replace hs := hs.under bl_hs_e0 bb; replace bel := bel.trans (bb.mono e0lo); have lz_cl := Nat.le_trans lz_e0 bb.size; clear bb; clear e0 e0w lz_e0; replace own_ : w2.ownsRow (w.heap.size) 5 1 v7 (n) ((l : List UInt8).map u8v) := (by simpa using own_); obtain ⟨A7, c7, rfl⟩ := own_val own_; have clw := own_; have cl := (own_sl own_).1; have fr_cl := (own_sl own_).2; clear own_))
 try clear R4
 go_ret
 exact ⟨A7, c7, rfl, owk_lo clw e0lo, bel⟩
theorem bcl_at {ad : Addr} {n c : Nat} {l : List UInt8} (w : World) (hs : Sl w (some ad) n c l) (hn : n ≤ 100000) (h0 : 0 < n) : Calls Tryz.prog 133 #[.slice (some ad) n c] w fun e w' => ∃ g c', e = .returned (.slice (some ⟨g, 0, none⟩) n c') ∧ w'.ownsRow w.heap.size 5 1 (.slice (some ⟨g, 0, none⟩) n c') n (l.map u8v) ∧ w.heap.size ≤ g ∧ n ≤ c' ∧ Below w.heap.size w w' := by
 refine (bcl_some w hs hn).mono ?_
 rintro e w' ⟨A', c', rfl, ow, b⟩
 obtain ⟨g, c2, e2, h1, _, h3, _⟩ := own_at ow h0
 injection e2 with e3 e4 e5
 subst e3; subst e5
 exact ⟨g, c', rfl, ow, h1, h3, b⟩
theorem putpair_is {lo g n c at_ : Nat} {l : List UInt8} {v : Int} (w : World) (own : w.ownsRow lo 5 1 (.slice (some ⟨g, 0, none⟩) n c) n (l.map u8v)) (hlo : lo ≤ w.heap.size) (ha : at_ + 2 ≤ n) (hc : n ≤ c) : Calls Tryz.prog 134 #[.slice (some ⟨g, 0, none⟩) n c, .int .i64 (at_ : Int), .int .i64 v] w fun e w' => e = .returned (.tuple #[]) ∧ w'.ownsRow lo 5 1 (.slice (some ⟨g, 0, none⟩) n c) n ((l.take at_ ++ two v ++ l.drop (at_ + 2)).map u8v) ∧ w.grownBy w' (some g) := by
 have HA := Lib.hid ha
 have r8 : ∀ W, (Instr.slice 36 (.slice (some ⟨g, 0, none⟩) n c) (some (.int .i64 (at_ : Int))) none none).run Tryz.prog W = .ok (.slice (some ⟨g, at_, none⟩) (n - at_) (c - at_)) W := b8_back g n c at_ (by omega) (by omega)
 have gg := World.grownBy.refl w (some g)
 clear ha hc
 have bel := Below.refl lo w
 go_enter Tryz.func134, Tryz.ntmps134
 go_wp2_with fail
 replace bel := bel.drew
 replace own := World.ownsRow.drew own
 replace gg := gg_drew gg
 refine wp_region_held_drew (S := fun _ => True) (by kernel_rfl) trivial (fun hH => ?_)
 generalize w.drew = w1 at bel own gg hH ⊢
 refine wpAnyH_take (i := 0) (v := ?_) rfl (by kernel_rfl) (by kernel_rfl) (by kernel_rfl) (fun _ _ _ h => h) (Or.inl ⟨by rfl, ?_⟩) hH ?_
 rotate_left
 ·((intro W hW; clear hW; go_simp) <;> with_reducible rfl)
 simp only [Act.put, List.getElem_toArray, List.getElem_cons_zero, List.setIfInBounds_toArray, List.set_cons_zero, List.set_cons_succ]
 refine wpAnyH_take (i := 1) (v := ?_) rfl (by kernel_rfl) (by kernel_rfl) (by kernel_rfl) (fun _ _ _ h => h) (Or.inl ⟨by rfl, ?_⟩) hH ?_
 rotate_left
 ·((intro W hW; clear hW; go_simp) <;> with_reducible rfl)
 simp only [sq3, sq4]
 refine wpAnyH_take (i := 2) (v := ?_) rfl (by kernel_rfl) (by kernel_rfl) (by kernel_rfl) (fun _ _ _ h => h) (Or.inl ⟨by rfl, ?_⟩) hH ?_
 rotate_left
 ·((intro W hW; clear hW; go_simp) <;> with_reducible rfl)
 simp only [sq3, sq4]
 refine wpAnyH_take (i := 3) (v := ?_) rfl (by kernel_rfl) (by kernel_rfl) (by kernel_rfl) (fun _ _ _ h => h) (Or.inl ⟨by rfl, ?_⟩) hH ?_
 rotate_left
 ·((intro W hW; clear hW; go_simp) <;> with_reducible rfl)
 simp only [sq3, sq4]
 refine wpAnyH_ready (rs := [4]) (by kernel_rfl) (by simp) ?_
 refine AllReadyH.cons (o := _) rfl (fun K hK => ?_) AllReadyH.nil
 simp only [sq3]
 go_simp
 with_reducible refine (w16_oto none 0 2 0 [] v _ rfl (Sl.nil _) (by decide)).mono ?_
 rintro e w2 ⟨v_, rfl, ow_, b2⟩
 dsimp only
 replace own := owk_under own b2
 replace gg := gg_below gg b2
 replace bel := bel.trans (b2.mono (Nat.le_trans hlo bel.size))
 clear b2
 obtain ⟨Aq, cq, rfl⟩ := own_val ow_
 have sq_ := (own_sl ow_).1
 clear ow_
 refine hK.out _ _ trivial (fun hH3 => ?_)
 clear hK K
 refine wpAnyH_ready (rs := [5]) (by kernel_rfl) (by simp) ?_
 refine AllReadyH.cons (o := _) rfl (fun K hK => ?_) AllReadyH.nil
 simp only [sq3]
 rw [if_pos (by rfl)]
 obtain ⟨gq, oq, rfl, _⟩ := sq_.2.2.2 (by decide)
 refine wp_copy_rowk (.tmp 8) (.tmp 10) 36 36 5 rfl Tryz.underlying36 (by kernel_rfl) own at_ (n - at_) (c - at_) ⟨gq, oq, none⟩ 2 cq ((two v).map u8v) rfl rfl (by have := HA.out; show 2 = min 2 (n - at_) * 1; omega) (sq_.cells _ rfl) (by have := HA.out; show at_ + 2 ≤ n * 1; omega) (oneCell_u8 _) _ (cells_mid l at_ (two v)) ?_
 intro w4 own_ gw
 clear sq_
 replace bel := bel.trans (row_bel gw own (Nat.le_trans hlo bel.size))
 replace gg := gg_row gg gw
 clear own
 have own := own_
 clear own_ gw
 refine hK.out _ _ trivial (fun hH5 => ?_)
 clear hK K
 simp only [sq4]
 refine wpAnyH_done (by kernel_rfl) ?_ _
 go_wp2_with fail
 exact bodyPost_end (results_none rfl _ _ _) rfl ⟨rfl, own, gg⟩
theorem putpair_ten {lo g n c : Nat} {l : List UInt8} {v : Int} (w : World) (own : w.ownsRow lo 5 1 (.slice (some ⟨g, 0, none⟩) n c) n (l.map u8v)) (hlo : lo ≤ w.heap.size) (ha : 12 ≤ n) (hc : n ≤ c) : Calls Tryz.prog 134 #[.slice (some ⟨g, 0, none⟩) n c, .int .i64 10, .int .i64 v] w fun e w' => e = .returned (.tuple #[]) ∧ w'.ownsRow lo 5 1 (.slice (some ⟨g, 0, none⟩) n c) n ((l.take 10 ++ two v ++ l.drop (10 + 2)).map u8v) ∧ w.grownBy w' (some g) := putpair_is (at_ := 10) w own hlo ha hc
theorem of_k {A : Option Addr} {n c : Nat} {l : List UInt8} (w : World) (hl : Sl w A n c l) : Calls Tryz.prog 83 #[.slice A n c] w fun e w' => ∃ k, Hid (k = ck l) ∧ e = .returned (.int .i64 k) ∧ Below w.heap.size w w' := (of_any A n c l w hl).mono fun _ _ h => ⟨_, Lib.hid rfl, h.1, h.2⟩
/-- An inner packet with another end: its address at 12, its port at p, a new sum. -/
def w1L (l : List UInt8) (a : List UInt8) : List UInt8 := l.take 12 ++ a ++ l.drop (12 + a.length)
def w2L (l : List UInt8) (p : Nat) (v : Int) : List UInt8 := l.take p ++ two v ++ l.drop (p + 2)
def wL (l : List UInt8) (h p : Nat) (a : List UInt8) (v : Int) : List UInt8 := w2L (w2L (w2L (w1L l a) p v) 10 0) 10 (ck ((w2L (w2L (w1L l a) p v) 10 0).take h))
theorem own_take {w : World} {B n c g k : Nat} {l : List UInt8} (h : w.ownsRow B 5 1 (.slice (some ⟨g, 0, none⟩) n c) n (l.map u8v)) (hk : k ≤ n) : Sl w (some ⟨g, 0, none⟩) k c (l.take k) := (own_sl h).1.take hk
theorem inwith {x c0 c1 c2 c3 : UInt8} {at_ gB oB n c h : Nat} {l : List UInt8} {v : Int} (w : World) (lb : Sl w (some ⟨gB, oB, none⟩) n c l) (hx : l[9]? = some x) (h60 : h ≤ 60) (ha : (if x.toNat = 1 then h + 4 else h) = at_) (hm : n ≤ 100000) (h20 : 20 ≤ h) (hn : h + 4 ≤ n) (hs : at_ + 2 ≤ n) : Calls Tryz.prog 109 #[.agg #[.slice (some ⟨gB, oB, none⟩) n c, .int .i64 (h : Int)], .agg #[.int .i64 12, .int .i64 0], .agg #[.int .u8 (c0.toNat : Int), .int .u8 (c1.toNat : Int), .int .u8 (c2.toNat : Int), .int .u8 (c3.toNat : Int)], .int .i64 v] w fun e w' => ∃ A' c', e = .returned (.slice A' n c') ∧ Sl w' A' n c' (wL l h at_ [c0, c1, c2, c3] v) ∧ Fr w.heap.size A' n ∧ Below w.heap.size w w' := by
 have HX := Lib.hid hx
 have H60 := Lib.hid h60
 have HAT := Lib.hid ha
 have HM := Lib.hid hm
 have HN24 : Hid (24 ≤ n) := Lib.hid (by omega)
 have HH : Hid (h ≤ n) := Lib.hid (by omega)
 have HA2 := Lib.hid hs
 clear hx h60 ha hm h20 hn hs
 have bel := Below.refl w.heap.size w
 go_enter Tryz.func109, Tryz.ntmps109
 go_wp2_with (first | ((with_reducible show wpList _ _ _ (⟨some 4, _, _, _, _, _⟩ :: _) _ _); refine wpList_box_n rfl 160 (.tmp 0) rfl #[.slice (some ⟨gB, oB, none⟩) n c, .int .i64 (h : Int)] rfl ?_; intro g4 w1 ge lt hh bb; have av_lb_iB := lb.av_new ge; have oiB := Nat.le_trans bel.size ge; replace lb := lb.below bb; replace bel := bel.trans (bb.mono bel.size); have hiB := hh; clear hh lt ge bb) | ((with_reducible show wpList _ _ _ (⟨some 5, _, _, _, _, _⟩ :: _) _ _); refine wpList_box_n rfl 168 (.tmp 1) rfl #[.int .i64 12, .int .i64 0] rfl ?_; intro g5 w2 ge lt hh bb; have d_iB_eB := ne_new (hlt hiB) ge; have av_lb_eB := lb.av_new ge; have oeB := Nat.le_trans bel.size ge; replace hiB := blk_u hiB bb; replace lb := lb.below bb; replace bel := bel.trans (bb.mono bel.size); have heB := hh; clear hh lt ge bb) | ((with_reducible show wpList _ _ _ (⟨some 6, _, _, _, _, _⟩ :: _) _ _); refine wpList_box_n rfl 35 (.tmp 2) rfl #[.int .u8 (c0.toNat : Int), .int .u8 (c1.toNat : Int), .int .u8 (c2.toNat : Int), .int .u8 (c3.toNat : Int)] rfl ?_; intro g6 w3 ge lt hh bb; have d_iB_aB := ne_new (hlt hiB) ge; have d_eB_aB := ne_new (hlt heB) ge; have av_lb_aB := lb.av_new ge; have oaB := Nat.le_trans bel.size ge; replace hiB := blk_u hiB bb; replace heB := blk_u heB bb; replace lb := lb.below bb; replace bel := bel.trans (bb.mono bel.size); have haB := hh; clear hh lt ge bb; have R11 := cell_lit hiB 0 _ rfl))
 try clear R11
 have HLO_ := bel.size
 have blb_ := lb.bl_new
 have lt_iB := hlt hiB
 have lt_eB := hlt heB
 have lt_aB := hlt haB
 with_reducible refine (bcl_at _ lb HM.out (by have := HN24.out; omega)).mono ?_
 rintro e w4 ⟨gC, cC, rfl, own_, ge_, HCC, b4⟩
 replace hiB := blk_u hiB b4
 replace heB := blk_u heB b4
 replace haB := blk_u haB b4
 replace lb := lb.below b4
 replace bel := bel.trans (b4.mono bel.size)
 clear b4
 replace own_ := owk_lo own_ HLO_
 have own := own_
 replace HCC := Lib.hid HCC
 clear HLO_ own_
 have off_iB := ofs_old (n := n) (c := cC) lt_iB ge_
 have off_eB := ofs_old (n := n) (c := cC) lt_eB ge_
 have off_aB := ofs_old (n := n) (c := cC) lt_aB ge_
 have av_lb_C := blb_.av ge_
 clear lt_iB lt_eB lt_aB blb_ ge_
 have r16 : ∀ W, (Instr.slice 36 (.slice (some ⟨gC, 0, none⟩) n cC) (some (.int .i64 12)) none none).run Tryz.prog W = .ok (.slice (some ⟨gC, 12, none⟩) (n - 12) (cC - 12)) W := b8_back gC n cC 12 (by have := HN24.out; omega) (by have := HN24.out; have := HCC.out; omega)
 have r31 : ∀ W, (Instr.slice 36 (.slice (some ⟨gC, 0, none⟩) n cC) none (some (.int .i64 (h : Int))) none).run Tryz.prog W = .ok (.slice (some ⟨gC, 0, none⟩) h cC) W := b8_front gC n cC h (by have := HH.out; have := HCC.out; omega)
 go_wp2_with fail
 replace bel := bel.drew
 replace hiB : w4.drew.heap[g4]? = _ := hiB
 replace heB : w4.drew.heap[g5]? = _ := heB
 replace haB : w4.drew.heap[g6]? = _ := haB
 replace lb := lb.drew
 replace own := World.ownsRow.drew own
 refine wp_region_held_drew (S := fun W => W.heap[g5]? = some (.cells #[.int .i64 12, .int .i64 0] 168 (0, 0))) (by kernel_rfl) heB (fun hH => ?_)
 generalize w4.drew = w5 at bel hiB heB haB lb own hH ⊢
 refine wpAnyH_take (i := 0) (v := ?_) rfl (by kernel_rfl) (by kernel_rfl) (by kernel_rfl) (fun _ _ _ h => h) (Or.inl ⟨by rfl, ?_⟩) hH ?_
 rotate_left
 ·((intro W hW; clear hW; go_simp) <;> with_reducible rfl)
 simp only [Act.put, List.getElem_toArray, List.getElem_cons_zero, List.setIfInBounds_toArray, List.set_cons_zero, List.set_cons_succ]
 refine wpAnyH_take (i := 1) (v := ?_) rfl (by kernel_rfl) (by kernel_rfl) (by kernel_rfl) (fun _ _ _ h => h) (Or.inl ⟨by rfl, ?_⟩) hH ?_
 rotate_left
 ·((intro W hW; clear hW; go_simp) <;> with_reducible rfl)
 simp only [sq3, sq4]
 refine wpAnyH_take (i := 2) (v := ?_) rfl (by kernel_rfl) (by kernel_rfl) (by kernel_rfl) (fun _ _ _ h => h) (Or.inl ⟨by rfl, ?_⟩) hH ?_
 rotate_left
 ·((intro W hW; have hk := cell_lit (hW) 0 _ rfl; clear hW; go_simp) <;> with_reducible rfl)
 simp only [sq3, sq4]
 refine wpAnyH_take (i := 3) (v := ?_) rfl (by kernel_rfl) (by kernel_rfl) (by kernel_rfl) (fun _ _ _ h => h) (Or.inl ⟨by rfl, ?_⟩) hH ?_
 rotate_left
 ·((intro W hW; clear hW; go_simp) <;> with_reducible rfl)
 simp only [sq3, sq4]
 refine wpAnyH_take (i := 4) (v := ?_) rfl (by kernel_rfl) (by kernel_rfl) (by kernel_rfl) (fun _ _ _ h => h) (Or.inl ⟨by rfl, ?_⟩) hH ?_
 rotate_left
 ·((intro W hW; clear hW; go_simp) <;> with_reducible rfl)
 simp only [sq3, sq4]
 refine wpAnyH_ready (rs := [5]) (by kernel_rfl) (by simp) ?_
 refine AllReadyH.cons (o := _) rfl (fun K hK => ?_) AllReadyH.nil
 simp only [sq3]
 rw [if_pos (by rfl)]
 refine wp_copy_rowk (.tmp 16) (.tmp 17) 36 36 5 rfl Tryz.underlying36 (by kernel_rfl) own 12 (n - 12) (cC - 12) ⟨g6, 0, none⟩ 4 4 (([c0, c1, c2, c3] : List UInt8).map u8v) rfl rfl (by have := HN24.out; show 4 = min 4 (n - 12) * 1; omega) (src4 haB) (by have := HN24.out; show 12 + 4 ≤ n * 1; omega) (oneCell_u8 _) _ (cells_mid l 12 [c0, c1, c2, c3]) ?_
 intro w6 own_ gw
 replace bel := bel.trans (row_bel gw own bel.size)
 replace hiB := blk_own (v := .slice (some ⟨gC, 0, none⟩) n cC) hiB gw off_iB
 replace heB := blk_own (v := .slice (some ⟨gC, 0, none⟩) n cC) heB gw off_eB
 replace haB := blk_own (v := .slice (some ⟨gC, 0, none⟩) n cC) haB gw off_aB
 replace lb := lb.away av_lb_C gw
 clear own
 have own := own_
 clear own_ gw
 refine hK.out _ _ heB (fun hH7 => ?_)
 clear hK K
 simp only [sq4]
 refine wpAnyH_done (by kernel_rfl) ?_ _
 have R20 := Lib.hid (range_lit hiB 0 2 [.slice (some ⟨gB, oB, none⟩) n c, .int .i64 (h : Int)] rfl)
 go_wp2_with (first | ((with_reducible show wpList _ _ _ (⟨some 20, _, _, _, _, _⟩ :: _) _ _); refine wpList_load_rng 160 (.tmp 4) rfl (by kernel_rfl) _ _ rfl _ R20.out _ Tryz.underlying160 rfl (by kernel_rfl) ?_; have R21 := Lib.hid (range_lit heB 0 2 [.int .i64 12, .int .i64 0] rfl)) | ((with_reducible show wpList _ _ _ (⟨some 21, _, _, _, _, _⟩ :: _) _ _); refine wpList_load_rng 168 (.tmp 5) rfl (by kernel_rfl) _ _ rfl _ R21.out _ Tryz.underlying168 rfl (by kernel_rfl) ?_))
 try clear R20
 try clear R21
 with_reducible refine (inport_any _ lb HX.out H60.out HAT.out).mono ?_
 rintro e w8 ⟨rfl, b8⟩
 replace hiB := blk_u hiB b8
 replace heB := blk_u heB b8
 replace haB := blk_u haB b8
 replace lb := lb.below b8
 replace own := owk_under own b8
 replace bel := bel.trans (b8.mono bel.size)
 clear b8
 go_wp2_with fail
 with_reducible refine (putpair_is (at_ := at_) _ own bel.size (by have := HA2.out; omega) HCC.out).mono ?_
 rintro e w9 ⟨rfl, own_, gw⟩
 replace bel := bel.trans (row_bel gw own bel.size)
 replace hiB := blk_own (v := .slice (some ⟨gC, 0, none⟩) n cC) hiB gw off_iB
 replace heB := blk_own (v := .slice (some ⟨gC, 0, none⟩) n cC) heB gw off_eB
 replace haB := blk_own (v := .slice (some ⟨gC, 0, none⟩) n cC) haB gw off_aB
 replace lb := lb.away av_lb_C gw
 clear own
 have own := own_
 clear own_ gw
 go_wp2_with fail
 with_reducible refine (putpair_ten _ own bel.size (by have := HN24.out; omega) HCC.out).mono ?_
 rintro e w10 ⟨rfl, own_, gw⟩
 replace bel := bel.trans (row_bel gw own bel.size)
 replace hiB := blk_own (v := .slice (some ⟨gC, 0, none⟩) n cC) hiB gw off_iB
 replace heB := blk_own (v := .slice (some ⟨gC, 0, none⟩) n cC) heB gw off_eB
 replace haB := blk_own (v := .slice (some ⟨gC, 0, none⟩) n cC) haB gw off_aB
 replace lb := lb.away av_lb_C gw
 clear own
 have own := own_
 clear own_ gw
 have R30 := cell_lit hiB 1 _ rfl
 have R31 := r31
 go_wp2_with fail
 clear R30 R31
 with_reducible refine (of_k _ (own_take own (by have := HH.out; omega))).mono ?_
 rintro e w11 ⟨kk, hkk, rfl, b11⟩
 replace hiB := blk_u hiB b11
 replace heB := blk_u heB b11
 replace haB := blk_u haB b11
 replace lb := lb.below b11
 replace own := owk_under own b11
 replace bel := bel.trans (b11.mono bel.size)
 clear b11
 go_wp2_with fail
 with_reducible refine (putpair_ten _ own bel.size (by have := HN24.out; omega) HCC.out).mono ?_
 rintro e w12 ⟨rfl, own_, gw⟩
 replace bel := bel.trans (row_bel gw own bel.size)
 replace hiB := blk_own (v := .slice (some ⟨gC, 0, none⟩) n cC) hiB gw off_iB
 replace heB := blk_own (v := .slice (some ⟨gC, 0, none⟩) n cC) heB gw off_eB
 replace haB := blk_own (v := .slice (some ⟨gC, 0, none⟩) n cC) haB gw off_aB
 replace lb := lb.away av_lb_C gw
 clear own
 have own := own_
 clear own_ gw
 go_wp2_with fail
 go_ret
 exact ⟨_, _, rfl, by have h_ := (own_sl own).1; rw [hkk.out] at h_; exact h_, (own_sl own).2, bel⟩
end Go.Proofs.YtbdaejodbcjmfaaGreat
