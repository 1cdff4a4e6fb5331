/- Texts put together: more. -/
import Derived.Test.YtdfobilagidmfaaDoorQ1
import Derived.Test.YtdfobilagidmfaaDoorQ2
import Derived.Test.YtdfobilagidmfaaDoorQ3
import Derived.Test.YtdfobilagidmfaaDoorQ4
import Derived.Test.YtdfobilagidmfaaDoorQ5
import Derived.Test.YtdfobilagidmfaaDoorQ6
import Derived.Test.YtdfobilagidmfaaDoorQ7
import Derived.Test.YtdfobilagidmfaaDoorQ8
import Derived.Test.YtdfobilagidmfaaDoorQ9
import Derived.Test.YtdfobilagidmfaaDoorQ10
import Derived.Test.YtdfobilagidmfaaDoorQ11
import Derived.Test.YtdfobilagidmfaaDoorQ12
import Derived.Test.YtdfobilagidmfaaDoorQ13
import Derived.Test.YtdfobilagidmfaaDoorQ14
import Derived.Test.YtdfobilagidmfaaDoorQ15
import Derived.Test.YtdfobilagidmfaaDoorQ16
import Derived.Test.YtdfobilagidmfaaDoorQ17
import Derived.Test.YtdfobilagidmfaaDoorQ18
namespace Go.Proofs.YtdfobilagidmfaaDoor
open Go.RowKit

def gO : Int × Int × Ad4 × Int := (6, 80, ⟨10, 0, 0, 9⟩, 8080)
def gC : Cf := ⟨⟨10, 0, 0, 1⟩, ⟨10, 0, 0, 0⟩, 26, ⟨2, 0, 0, 0, 0, 1⟩, ⟨2, 0, 0, 0, 0, 2⟩, ⟨10, 0, 0, 2⟩, ⟨10, 0, 0, 33⟩, 3600, ⟨9, 9, 9, 9⟩, 120, 7200, 30, 40000, [(⟨2, 0, 0, 0, 0, 9⟩, ⟨10, 0, 0, 9⟩)], [gO]⟩
def gT : List UInt8 := 35 :: 32 :: 120 :: 10 :: 32 :: 108 :: 97 :: 110 :: 32 :: 61 :: 32 :: 49 :: 48 :: 46 :: 48 :: 46 :: 48 :: 46 :: 49 :: 47 :: 50 :: 54 :: 32 :: 10 :: 102 :: 105 :: 120 :: 101 :: 100 :: 32 :: 61 :: 32 :: 48 :: 50 :: 58 :: 48 :: 48 :: 58 :: 48 :: 48 :: 58 :: 48 :: 48 :: 58 :: 48 :: 48 :: 58 :: 48 :: 57 :: 32 :: 49 :: 48 :: 46 :: 48 :: 46 :: 48 :: 46 :: 57 :: 10 :: 111 :: 112 :: 101 :: 110 :: 32 :: 61 :: 32 :: 116 :: 99 :: 112 :: 32 :: 56 :: 48 :: 32 :: 49 :: 48 :: 46 :: 48 :: 46 :: 48 :: 46 :: 57 :: 32 :: 56 :: 48 :: 56 :: 48 :: ([] : List UInt8)
theorem kn1 : parseS [10, 119, 104, 97, 116, 32, 61, 32, 53] = (zeroC, 2, 9) := by kernel_rfl
theorem kn2 : parseS [116, 105, 109, 101, 32, 61, 32, 54, 48, 10, 116, 105, 109, 101, 32, 61, 32, 55, 48] = (zeroC, 2, 8) := by kernel_rfl
theorem kn3 : parseS [116, 105, 109, 101, 32, 61, 32, 53, 57] = (zeroC, 0, 1) := by kernel_rfl
theorem kn4 : parseS (35 :: 32 :: 120 :: 10 :: 32 :: 108 :: 97 :: 110 :: 32 :: 61 :: 32 :: 49 :: 48 :: 46 :: 48 :: 46 :: 48 :: 46 :: 49 :: 47 :: 50 :: 54 :: 32 :: 10 :: 102 :: 105 :: 120 :: 101 :: 100 :: 32 :: 61 :: 32 :: 48 :: 50 :: 58 :: 48 :: 48 :: 58 :: 48 :: 48 :: 58 :: 48 :: 48 :: 58 :: 48 :: 48 :: 58 :: 48 :: 57 :: 32 :: 49 :: 48 :: 46 :: 48 :: 46 :: 48 :: 46 :: 57 :: 10 :: 111 :: 112 :: 101 :: 110 :: 32 :: 61 :: 32 :: 116 :: 99 :: 112 :: 32 :: 56 :: 48 :: 32 :: 49 :: 48 :: 46 :: 48 :: 46 :: 48 :: 46 :: 57 :: 32 :: 56 :: 48 :: 56 :: 48 :: ([] : List UInt8)) = (gC, 0, 0) := by kernel_rfl
theorem cparse_g {t : List UInt8} (h : parseS t = (gC, 0, 0)) (ht : t.length ≤ 1000000) (w : World) : Calls Tryd.prog 8 #[.string ⟨t.toArray⟩] w fun r w' => ∃ Fx cf Ox cx, r = .returned (.tuple #[.agg (cfl gC Fx 1 cf Ox 1 cx).toArray, .int .i64 0, .int .i64 0]) ∧ Sle fxf 10 w' Fx 1 cf gC.fixed ∧ Sle opf 7 w' Ox 1 cx gC.opens ∧ Fr w.heap.size Fx 1 ∧ Fr w.heap.size Ox 1 ∧ Below w.heap.size w w' := by
  refine (cparse_is h ht w).mono ?_
  rintro e w' ⟨Fx, nf, cf, Ox, nx, cx, rfl, hf, ho, f1, f2, bel⟩
  obtain rfl : nf = 1 := hf.1.symm
  obtain rfl : nx = 1 := ho.1.symm
  exact ⟨Fx, cf, Ox, cx, rfl, hf, ho, f1, f2, bel⟩
theorem cparse_4 (w : World) : Calls Tryd.prog 8 #[.string ⟨(35 :: 32 :: 120 :: 10 :: 32 :: 108 :: 97 :: 110 :: 32 :: 61 :: 32 :: 49 :: 48 :: 46 :: 48 :: 46 :: 48 :: 46 :: 49 :: 47 :: 50 :: 54 :: 32 :: 10 :: 102 :: 105 :: 120 :: 101 :: 100 :: 32 :: 61 :: 32 :: 48 :: 50 :: 58 :: 48 :: 48 :: 58 :: 48 :: 48 :: 58 :: 48 :: 48 :: 58 :: 48 :: 48 :: 58 :: 48 :: 57 :: 32 :: 49 :: 48 :: 46 :: 48 :: 46 :: 48 :: 46 :: 57 :: 10 :: 111 :: 112 :: 101 :: 110 :: 32 :: 61 :: 32 :: 116 :: 99 :: 112 :: 32 :: 56 :: 48 :: 32 :: 49 :: 48 :: 46 :: 48 :: 46 :: 48 :: 46 :: 57 :: 32 :: 56 :: 48 :: 56 :: 48 :: ([] : List UInt8)).toArray⟩] w fun r w' => ∃ Fx cf Ox cx, r = .returned (.tuple #[.agg (cfl gC Fx 1 cf Ox 1 cx).toArray, .int .i64 0, .int .i64 0]) ∧ Sle fxf 10 w' Fx 1 cf gC.fixed ∧ Sle opf 7 w' Ox 1 cx gC.opens ∧ Fr w.heap.size Fx 1 ∧ Fr w.heap.size Ox 1 ∧ Below w.heap.size w w' := cparse_g kn4 (by decide) w
theorem ctext_zero (w : World) (hT : Tab w) : Calls Tryd.prog 9 #[.agg #[.int .u8 0, .int .u8 0, .int .u8 0, .int .u8 0, .int .u8 0, .int .u8 0, .int .u8 0, .int .u8 0, .int .i64 0, .int .u8 0, .int .u8 0, .int .u8 0, .int .u8 0, .int .u8 0, .int .u8 0, .int .u8 0, .int .u8 0, .int .u8 0, .int .u8 0, .int .u8 0, .int .u8 0, .int .u8 0, .int .u8 0, .int .u8 0, .int .u8 0, .int .u8 0, .int .u8 0, .int .u8 0, .int .u8 0, .int .i64 0, .int .u8 0, .int .u8 0, .int .u8 0, .int .u8 0, .int .i64 0, .int .i64 0, .int .i64 0, .int .i64 0, .slice none 0 0, .slice none 0 0]] w fun e w' => e = .returned (.string ⟨#[]⟩) ∧ Below w.heap.size w w' := by
  have h := ctext_any zeroC none 0 0 none 0 0 w hT (Sle.nil (by decide) fxf_len _) (Sle.nil (by decide) opf_len _)
  rw [show textS zeroC = [] from by unfold textS; rw [if_neg (by rw [show zeroC.check = false by kernel_rfl]; decide)]] at h
  exact h
theorem ccheck_zero (w : World) : Calls Tryd.prog 12 #[.agg #[.int .u8 0, .int .u8 0, .int .u8 0, .int .u8 0, .int .u8 0, .int .u8 0, .int .u8 0, .int .u8 0, .int .i64 0, .int .u8 0, .int .u8 0, .int .u8 0, .int .u8 0, .int .u8 0, .int .u8 0, .int .u8 0, .int .u8 0, .int .u8 0, .int .u8 0, .int .u8 0, .int .u8 0, .int .u8 0, .int .u8 0, .int .u8 0, .int .u8 0, .int .u8 0, .int .u8 0, .int .u8 0, .int .u8 0, .int .i64 0, .int .u8 0, .int .u8 0, .int .u8 0, .int .u8 0, .int .i64 0, .int .i64 0, .int .i64 0, .int .i64 0, .slice none 0 0, .slice none 0 0]] w fun e w' => e = .returned (.int .i64 1) ∧ Below w.heap.size w w' := by
  have h := ccheck_any zeroC none 0 0 none 0 0 w (Sle.nil (by decide) fxf_len _) (Sle.nil (by decide) opf_len _)
  rw [show zeroC.check = false by kernel_rfl] at h
  exact h
theorem kn_first (W : World) : (binOp .eql 24 (.agg #[.int .u8 (gC.first.a.toNat : Int), .int .u8 (gC.first.b.toNat : Int), .int .u8 (gC.first.c.toNat : Int), .int .u8 (gC.first.d.toNat : Int)]) (.agg #[.int .u8 10, .int .u8 0, .int .u8 0, .int .u8 2])).run Tryd.prog W = .ok (.bool true) W := by
  rw [show (#[.int .u8 10, .int .u8 0, .int .u8 0, .int .u8 2] : Array Value) = #[.int .u8 (gC.first.a.toNat : Int), .int .u8 (gC.first.b.toNat : Int), .int .u8 (gC.first.c.toNat : Int), .int .u8 (gC.first.d.toNat : Int)] by kernel_rfl, ad_eq2, beq_self_eq_true]
theorem kn_last (W : World) : (binOp .eql 24 (.agg #[.int .u8 (gC.last.a.toNat : Int), .int .u8 (gC.last.b.toNat : Int), .int .u8 (gC.last.c.toNat : Int), .int .u8 (gC.last.d.toNat : Int)]) (.agg #[.int .u8 10, .int .u8 0, .int .u8 0, .int .u8 33])).run Tryd.prog W = .ok (.bool true) W := by
  rw [show (#[.int .u8 10, .int .u8 0, .int .u8 0, .int .u8 33] : Array Value) = #[.int .u8 (gC.last.a.toNat : Int), .int .u8 (gC.last.b.toNat : Int), .int .u8 (gC.last.c.toNat : Int), .int .u8 (gC.last.d.toNat : Int)] by kernel_rfl, ad_eq2, beq_self_eq_true]
theorem copn_guard (op : BinOp) (y z : Operand) (a b : Array Value) (W : World) : (eqGuard op 38 y z (.agg a) (.agg b)).run Tryd.prog W = .ok () W := run_eqGuard_agg W op 38 y z _ _ (by kernel_rfl)
theorem kn_open (W : World) : (binOp .eql 38 (.agg #[.int .i64 gO.1, .int .i64 gO.2.1, .int .u8 (gO.2.2.1.a.toNat : Int), .int .u8 (gO.2.2.1.b.toNat : Int), .int .u8 (gO.2.2.1.c.toNat : Int), .int .u8 (gO.2.2.1.d.toNat : Int), .int .i64 gO.2.2.2]) (.agg #[.int .i64 6, .int .i64 80, .int .u8 10, .int .u8 0, .int .u8 0, .int .u8 9, .int .i64 8080])).run Tryd.prog W = .ok (.bool true) W := by
  have h4 := self_ad
  rw [show (#[.int .i64 6, .int .i64 80, .int .u8 10, .int .u8 0, .int .u8 0, .int .u8 9, .int .i64 8080] : Array Value) = #[.int .i64 gO.1, .int .i64 gO.2.1, .int .u8 (gO.2.2.1.a.toNat : Int), .int .u8 (gO.2.2.1.b.toNat : Int), .int .u8 (gO.2.2.1.c.toNat : Int), .int .u8 (gO.2.2.1.d.toNat : Int), .int .i64 gO.2.2.2] by kernel_rfl]
  rw [run_eql_struct, run_equalIn_agg W 9999 38 _ _ (by kernel_rfl) (by kernel_rfl)]
  simp [go_sem, h4]
set_option linter.unusedVariables false in
set_option linter.unusedSimpArgs false in
set_option maxRecDepth 100000 in
set_option maxHeartbeats 16000000 in
theorem confKnown_walk (w : World) (hT : Tab w) : Calls Tryd.prog 3 #[] w fun e w' => e = .returned (.bool true) ∧ Below w.heap.size w w' := by
  have HP1 := Lib.hid kn1
  have HP2 := Lib.hid kn2
  have HP3 := Lib.hid kn3
  have HCH : Hid (gC.check = true) := Lib.hid (parse_ok kn4)
  have HTL3 := text_len HCH.out
  obtain ⟨ts, hts⟩ : ∃ z, textS gC = z := ⟨_, rfl⟩
  have HPT : Hid (parseS ts = (gC, 0, 0)) := Lib.hid (by rw [← hts]; exact text_back HCH.out)
  rw [hts] at HTL3
  have HTL : Hid (ts.length ≤ 1000000) := Lib.hid (by omega)
  have HTS := Lib.hid hts
  clear hts HTL3
  have HGO : Hid (gC.opens[0]? = some gO) := Lib.hid rfl
  have gd2 := ad_guard2
  have gdO := copn_guard
  have q1 := kn_first
  have q2 := kn_last
  have q3 := kn_open
  have bel := Below.refl w.heap.size w
  go_enter Tryd.func3, Tryd.ntmps3
  go_wp2_with fail
  with_reducible refine (awake_any _).mono ?_
  rintro e w1 ⟨rfl, b1⟩
  replace bel := bel.trans (b1.mono bel.size)
  clear b1
  go_wp2_with fail
  with_reducible refine (cparse_is (t := [10, 119, 104, 97, 116, 32, 61, 32, 53]) HP1.out (by decide) _).mono ?_
  rintro e w2 ⟨Fx1, nf1, cf1, Ox1, nx1, cx1, rfl, hf_, ho_, fa_, fb_, b2⟩
  replace bel := bel.trans (b2.mono bel.size)
  clear b2
  clear hf_ ho_ fa_ fb_
  go_wp2_with (first | ((with_reducible show wpList _ _ _ (⟨some 1, _, _, _, _, _⟩ :: _) _ _); refine wpList_new_a rfl 32 rfl #[.int .u8 0, .int .u8 0, .int .u8 0, .int .u8 0, .int .u8 0, .int .u8 0, .int .u8 0, .int .u8 0, .int .i64 0, .int .u8 0, .int .u8 0, .int .u8 0, .int .u8 0, .int .u8 0, .int .u8 0, .int .u8 0, .int .u8 0, .int .u8 0, .int .u8 0, .int .u8 0, .int .u8 0, .int .u8 0, .int .u8 0, .int .u8 0, .int .u8 0, .int .u8 0, .int .u8 0, .int .u8 0, .int .u8 0, .int .i64 0, .int .u8 0, .int .u8 0, .int .u8 0, .int .u8 0, .int .i64 0, .int .i64 0, .int .i64 0, .int .i64 0, .slice none 0 0, .slice none 0 0] (by kernel_rfl) ?_; intro g1 w3 ge hh bb; have oxa := Nat.le_trans bel.size ge; replace bel := bel.trans (bb.mono bel.size); have hxa := hh; clear hh ge bb) | ((with_reducible show wpList _ _ _ (⟨none, Op.store _ (.tmp 1) _, _, _, _, _⟩ :: _) _ _); refine wpList_store_blk rfl 32 (.tmp 1) (.tmp 20) rfl g1 rfl _ rfl _ 32 hxa (by rfl) (by kernel_rfl) (by kernel_rfl) ?_; intro w4 hq gr; replace bel := below_grown bel gr oxa bel.size; clear hxa; have hxa := hq; clear hq gr))
  with_reducible refine (cparse_is (t := [116, 105, 109, 101, 32, 61, 32, 54, 48, 10, 116, 105, 109, 101, 32, 61, 32, 55, 48]) HP2.out (by decide) _).mono ?_
  rintro e w5 ⟨Fx2, nf2, cf2, Ox2, nx2, cx2, rfl, hf_, ho_, fa_, fb_, b5⟩
  replace hxa := blk_u hxa b5
  replace bel := bel.trans (b5.mono bel.size)
  clear b5
  clear hf_ ho_ fa_ fb_
  go_wp2_with (first | ((with_reducible show wpList _ _ _ (⟨some 4, _, _, _, _, _⟩ :: _) _ _); refine wpList_new_a rfl 32 rfl #[.int .u8 0, .int .u8 0, .int .u8 0, .int .u8 0, .int .u8 0, .int .u8 0, .int .u8 0, .int .u8 0, .int .i64 0, .int .u8 0, .int .u8 0, .int .u8 0, .int .u8 0, .int .u8 0, .int .u8 0, .int .u8 0, .int .u8 0, .int .u8 0, .int .u8 0, .int .u8 0, .int .u8 0, .int .u8 0, .int .u8 0, .int .u8 0, .int .u8 0, .int .u8 0, .int .u8 0, .int .u8 0, .int .u8 0, .int .i64 0, .int .u8 0, .int .u8 0, .int .u8 0, .int .u8 0, .int .i64 0, .int .i64 0, .int .i64 0, .int .i64 0, .slice none 0 0, .slice none 0 0] (by kernel_rfl) ?_; intro g4 w6 ge hh bb; have d_xa_xb := ne_new (hlt hxa) ge; have oxb := Nat.le_trans bel.size ge; replace hxa := blk_u hxa bb; replace bel := bel.trans (bb.mono bel.size); have hxb := hh; clear hh ge bb) | ((with_reducible show wpList _ _ _ (⟨none, Op.store _ (.tmp 4) _, _, _, _, _⟩ :: _) _ _); refine wpList_store_blk rfl 32 (.tmp 4) (.tmp 25) rfl g4 rfl _ rfl _ 32 hxb (by rfl) (by kernel_rfl) (by kernel_rfl) ?_; intro w7 hq gr; replace hxa := blk_a hxa gr d_xa_xb; replace bel := below_grown bel gr oxb bel.size; clear hxb; have hxb := hq; clear hq gr))
  with_reducible refine (cparse_is (t := [116, 105, 109, 101, 32, 61, 32, 53, 57]) HP3.out (by decide) _).mono ?_
  rintro e w8 ⟨Fx3, nf3, cf3, Ox3, nx3, cx3, rfl, hf_, ho_, fa_, fb_, b8⟩
  replace hxa := blk_u hxa b8
  replace hxb := blk_u hxb b8
  replace bel := bel.trans (b8.mono bel.size)
  clear b8
  clear hf_ ho_ fa_ fb_
  go_wp2_with (first | ((with_reducible show wpList _ _ _ (⟨some 7, _, _, _, _, _⟩ :: _) _ _); refine wpList_new_a rfl 32 rfl #[.int .u8 0, .int .u8 0, .int .u8 0, .int .u8 0, .int .u8 0, .int .u8 0, .int .u8 0, .int .u8 0, .int .i64 0, .int .u8 0, .int .u8 0, .int .u8 0, .int .u8 0, .int .u8 0, .int .u8 0, .int .u8 0, .int .u8 0, .int .u8 0, .int .u8 0, .int .u8 0, .int .u8 0, .int .u8 0, .int .u8 0, .int .u8 0, .int .u8 0, .int .u8 0, .int .u8 0, .int .u8 0, .int .u8 0, .int .i64 0, .int .u8 0, .int .u8 0, .int .u8 0, .int .u8 0, .int .i64 0, .int .i64 0, .int .i64 0, .int .i64 0, .slice none 0 0, .slice none 0 0] (by kernel_rfl) ?_; intro g7 w9 ge hh bb; have d_xa_xc := ne_new (hlt hxa) ge; have d_xb_xc := ne_new (hlt hxb) ge; have oxc := Nat.le_trans bel.size ge; replace hxa := blk_u hxa bb; replace hxb := blk_u hxb bb; replace bel := bel.trans (bb.mono bel.size); have hxc := hh; clear hh ge bb) | ((with_reducible show wpList _ _ _ (⟨none, Op.store _ (.tmp 7) _, _, _, _, _⟩ :: _) _ _); refine wpList_store_blk rfl 32 (.tmp 7) (.tmp 30) rfl g7 rfl _ rfl _ 32 hxc (by rfl) (by kernel_rfl) (by kernel_rfl) ?_; intro w10 hq gr; replace hxa := blk_a hxa gr d_xa_xc; replace hxb := blk_a hxb gr d_xb_xc; replace bel := below_grown bel gr oxc bel.size; clear hxc; have hxc := hq; clear hq gr))
  with_reducible refine (cparse_4 _).mono ?_
  rintro e w11 ⟨Fa, cfa, Oa, cxa, rfl, hfa, hoa, fra, foa, b11⟩
  have av_hfa_xa := fra.av (hlt hxa)
  have av_hfa_xb := fra.av (hlt hxb)
  have av_hfa_xc := fra.av (hlt hxc)
  have av_hoa_xa := foa.av (hlt hxa)
  have av_hoa_xb := foa.av (hlt hxb)
  have av_hoa_xc := foa.av (hlt hxc)
  replace hxa := blk_u hxa b11
  replace hxb := blk_u hxb b11
  replace hxc := blk_u hxc b11
  replace bel := bel.trans (b11.mono bel.size)
  clear b11
  replace hfa : Sle fxf 10 w11 (Fa) (1) (cfa) (gC.fixed) := hfa
  replace hoa : Sle opf 7 w11 (Oa) (1) (cxa) (gC.opens) := hoa
  go_wp2_with (first | ((with_reducible show wpList _ _ _ (⟨some 10, _, _, _, _, _⟩ :: _) _ _); refine wpList_new_a rfl 32 rfl #[.int .u8 0, .int .u8 0, .int .u8 0, .int .u8 0, .int .u8 0, .int .u8 0, .int .u8 0, .int .u8 0, .int .i64 0, .int .u8 0, .int .u8 0, .int .u8 0, .int .u8 0, .int .u8 0, .int .u8 0, .int .u8 0, .int .u8 0, .int .u8 0, .int .u8 0, .int .u8 0, .int .u8 0, .int .u8 0, .int .u8 0, .int .u8 0, .int .u8 0, .int .u8 0, .int .u8 0, .int .u8 0, .int .u8 0, .int .i64 0, .int .u8 0, .int .u8 0, .int .u8 0, .int .u8 0, .int .i64 0, .int .i64 0, .int .i64 0, .int .i64 0, .slice none 0 0, .slice none 0 0] (by kernel_rfl) ?_; intro g10 w12 ge hh bb; have d_xa_gb := ne_new (hlt hxa) ge; have d_xb_gb := ne_new (hlt hxb) ge; have d_xc_gb := ne_new (hlt hxc) ge; have av_hfa_gb := hfa.av_new ge; have av_hoa_gb := hoa.av_new ge; have ogb := Nat.le_trans bel.size ge; replace hxa := blk_u hxa bb; replace hxb := blk_u hxb bb; replace hxc := blk_u hxc bb; replace hfa := hfa.below bb; replace hoa := hoa.below bb; replace bel := bel.trans (bb.mono bel.size); have hgb := hh; clear hh ge bb) | ((with_reducible show wpList _ _ _ (⟨none, Op.store _ (.tmp 10) _, _, _, _, _⟩ :: _) _ _); refine wpList_store_blk rfl 32 (.tmp 10) (.tmp 35) rfl g10 rfl _ rfl _ 32 hgb (by rfl) (by kernel_rfl) (by kernel_rfl) ?_; intro w13 hq gr; replace hfa := hfa.away av_hfa_gb gr; replace hoa := hoa.away av_hoa_gb gr; replace hxa := blk_a hxa gr d_xa_gb; replace hxb := blk_a hxb gr d_xb_gb; replace hxc := blk_a hxc gr d_xc_gb; replace bel := below_grown bel gr ogb bel.size; clear hgb; have hgb := hq; clear hq gr; have R39 := Lib.hid (range_lit hgb 0 40 (cfl gC Fa 1 cfa Oa 1 cxa) rfl)) | ((with_reducible show wpList _ _ _ (⟨some 39, _, _, _, _, _⟩ :: _) _ _); refine wpList_load_rng 32 (.tmp 10) rfl (by kernel_rfl) _ _ rfl _ R39.out _ Tryd.underlying32 rfl (by kernel_rfl) ?_))
  try clear R39
  with_reducible refine (ctext_any gC _ _ _ _ _ _ _ (hT.below bel) hfa hoa).mono ?_
  rintro e w14 ⟨rfl, b14⟩
  replace hxa := blk_u hxa b14
  replace hxb := blk_u hxb b14
  replace hxc := blk_u hxc b14
  replace hgb := blk_u hgb b14
  replace hfa := hfa.below b14
  replace hoa := hoa.below b14
  replace bel := bel.trans (b14.mono bel.size)
  clear b14
  rw [HTS.out]
  go_wp2_with fail
  with_reducible refine (cparse_g HPT.out HTL.out _).mono ?_
  rintro e w15 ⟨Fb, cfb, Ob, cxb, rfl, hfb, hob, frb, fob, b15⟩
  have av_hfb_xa := frb.av (hlt hxa)
  have av_hfb_xb := frb.av (hlt hxb)
  have av_hfb_xc := frb.av (hlt hxc)
  have av_hfb_gb := frb.av (hlt hgb)
  have av_hob_xa := fob.av (hlt hxa)
  have av_hob_xb := fob.av (hlt hxb)
  have av_hob_xc := fob.av (hlt hxc)
  have av_hob_gb := fob.av (hlt hgb)
  replace hxa := blk_u hxa b15
  replace hxb := blk_u hxb b15
  replace hxc := blk_u hxc b15
  replace hgb := blk_u hgb b15
  replace hfa := hfa.below b15
  replace hoa := hoa.below b15
  replace bel := bel.trans (b15.mono bel.size)
  clear b15
  replace hfb : Sle fxf 10 w15 (Fb) (1) (cfb) (gC.fixed) := hfb
  replace hob : Sle opf 7 w15 (Ob) (1) (cxb) (gC.opens) := hob
  obtain ⟨gW, oW, hWp⟩ := hoa.place (by decide)
  subst hWp
  go_upto_region 8 with (first | ((with_reducible show wpList _ _ _ (⟨some 13, _, _, _, _, _⟩ :: _) _ _); refine wpList_new_a rfl 32 rfl #[.int .u8 0, .int .u8 0, .int .u8 0, .int .u8 0, .int .u8 0, .int .u8 0, .int .u8 0, .int .u8 0, .int .i64 0, .int .u8 0, .int .u8 0, .int .u8 0, .int .u8 0, .int .u8 0, .int .u8 0, .int .u8 0, .int .u8 0, .int .u8 0, .int .u8 0, .int .u8 0, .int .u8 0, .int .u8 0, .int .u8 0, .int .u8 0, .int .u8 0, .int .u8 0, .int .u8 0, .int .u8 0, .int .u8 0, .int .i64 0, .int .u8 0, .int .u8 0, .int .u8 0, .int .u8 0, .int .i64 0, .int .i64 0, .int .i64 0, .int .i64 0, .slice none 0 0, .slice none 0 0] (by kernel_rfl) ?_; intro g13 w16 ge hh bb; have d_xa_db := ne_new (hlt hxa) ge; have d_xb_db := ne_new (hlt hxb) ge; have d_xc_db := ne_new (hlt hxc) ge; have d_gb_db := ne_new (hlt hgb) ge; have av_hfa_db := hfa.av_new ge; have av_hoa_db := hoa.av_new ge; have av_hfb_db := hfb.av_new ge; have av_hob_db := hob.av_new ge; have odb := Nat.le_trans bel.size ge; replace hxa := blk_u hxa bb; replace hxb := blk_u hxb bb; replace hxc := blk_u hxc bb; replace hgb := blk_u hgb bb; replace hfa := hfa.below bb; replace hoa := hoa.below bb; replace hfb := hfb.below bb; replace hob := hob.below bb; replace bel := bel.trans (bb.mono bel.size); have hdb := hh; clear hh ge bb) | ((with_reducible show wpList _ _ _ (⟨none, Op.store _ (.tmp 13) _, _, _, _, _⟩ :: _) _ _); refine wpList_store_blk rfl 32 (.tmp 13) (.tmp 42) rfl g13 rfl _ rfl _ 32 hdb (by rfl) (by kernel_rfl) (by kernel_rfl) ?_; intro w17 hq gr; replace hfa := hfa.away av_hfa_db gr; replace hoa := hoa.away av_hoa_db gr; replace hfb := hfb.away av_hfb_db gr; replace hob := hob.away av_hob_db gr; replace hxa := blk_a hxa gr d_xa_db; replace hxb := blk_a hxb gr d_xb_db; replace hxc := blk_a hxc gr d_xc_db; replace hgb := blk_a hgb gr d_gb_db; replace bel := below_grown bel gr odb bel.size; clear hdb; have hdb := hq; clear hq gr))
  simp only [List.append_eq, List.cons_append, List.nil_append]
  go_wp2_with fail
  replace bel := bel.drew
  replace hxa : w17.drew.heap[g1]? = _ := hxa
  replace hxb : w17.drew.heap[g4]? = _ := hxb
  replace hxc : w17.drew.heap[g7]? = _ := hxc
  replace hgb : w17.drew.heap[g10]? = _ := hgb
  replace hdb : w17.drew.heap[g13]? = _ := hdb
  replace hfa := hfa.drew
  replace hoa := hoa.drew
  replace hfb := hfb.drew
  replace hob := hob.drew
  refine wp_region_held_drew (S := fun W => W.heap[g10]? = some (.cells #[.int .u8 (gC.own.a.toNat : Int), .int .u8 (gC.own.b.toNat : Int), .int .u8 (gC.own.c.toNat : Int), .int .u8 (gC.own.d.toNat : Int), .int .u8 (gC.lan.a.toNat : Int), .int .u8 (gC.lan.b.toNat : Int), .int .u8 (gC.lan.c.toNat : Int), .int .u8 (gC.lan.d.toNat : Int), .int .i64 gC.bits, .int .u8 (gC.lanmac.a.toNat : Int), .int .u8 (gC.lanmac.b.toNat : Int), .int .u8 (gC.lanmac.c.toNat : Int), .int .u8 (gC.lanmac.d.toNat : Int), .int .u8 (gC.lanmac.e.toNat : Int), .int .u8 (gC.lanmac.f.toNat : Int), .int .u8 (gC.wanmac.a.toNat : Int), .int .u8 (gC.wanmac.b.toNat : Int), .int .u8 (gC.wanmac.c.toNat : Int), .int .u8 (gC.wanmac.d.toNat : Int), .int .u8 (gC.wanmac.e.toNat : Int), .int .u8 (gC.wanmac.f.toNat : Int), .int .u8 (gC.first.a.toNat : Int), .int .u8 (gC.first.b.toNat : Int), .int .u8 (gC.first.c.toNat : Int), .int .u8 (gC.first.d.toNat : Int), .int .u8 (gC.last.a.toNat : Int), .int .u8 (gC.last.b.toNat : Int), .int .u8 (gC.last.c.toNat : Int), .int .u8 (gC.last.d.toNat : Int), .int .i64 gC.time, .int .u8 (gC.dns.a.toNat : Int), .int .u8 (gC.dns.b.toNat : Int), .int .u8 (gC.dns.c.toNat : Int), .int .u8 (gC.dns.d.toNat : Int), .int .i64 gC.udp, .int .i64 gC.tcp, .int .i64 gC.icmp, .int .i64 gC.low, .slice Fa 1 cfa, .slice (some ⟨gW, oW, none⟩) 1 cxa] 32 (0, 0)) ∧ W.heap[g13]? = some (.cells (cfl gC Fb 1 cfb Ob 1 cxb).toArray 32 (0, 0)) ∧ Sle opf 7 W (some ⟨gW, oW, none⟩) (1) (cxa) (gC.opens)) (by kernel_rfl) ⟨hgb, hdb, hoa⟩ (fun hH => ?_)
  generalize w17.drew = w18 at bel hxa hxb hxc hgb hdb hfa hoa hfb hob hH ⊢
  refine wpAnyH_take (i := 0) (v := ?_) rfl (by kernel_rfl) (by kernel_rfl) (by kernel_rfl) (fun _ _ _ h => h) (Or.inl ⟨by rfl, ?_⟩) hH ?_
  rotate_left
  · ((intro W hW; clear hW; go_simp) <;> with_reducible rfl)
  simp only [Act.put, List.getElem_toArray, List.getElem_cons_zero, List.setIfInBounds_toArray, List.set_cons_zero, List.set_cons_succ]
  refine wpAnyH_take (i := 1) (v := ?_) rfl (by kernel_rfl) (by kernel_rfl) (by kernel_rfl) (fun _ _ _ h => h) (Or.inl ⟨by rfl, ?_⟩) hH ?_
  rotate_left
  · ((intro W hW; clear hW; go_simp) <;> with_reducible rfl)
  simp only [Act.put, List.getElem_toArray, List.getElem_cons_zero, List.getElem_cons_succ, List.setIfInBounds_toArray, List.set_cons_zero, List.set_cons_succ]
  refine wpAnyH_take (i := 2) (v := ?_) rfl (by kernel_rfl) (by kernel_rfl) (by kernel_rfl) (fun _ _ _ h => h) (Or.inl ⟨by rfl, ?_⟩) hH ?_
  rotate_left
  · ((intro W hW; clear hW; go_simp) <;> with_reducible rfl)
  simp only [Act.put, List.getElem_toArray, List.getElem_cons_zero, List.getElem_cons_succ, List.setIfInBounds_toArray, List.set_cons_zero, List.set_cons_succ]
  refine wpAnyH_take (i := 3) (v := ?_) rfl (by kernel_rfl) (by kernel_rfl) (by kernel_rfl) (fun _ _ _ h => h) (Or.inl ⟨by rfl, ?_⟩) hH ?_
  rotate_left
  · ((intro W hW; clear hW; go_simp) <;> with_reducible rfl)
  simp only [Act.put, List.getElem_toArray, List.getElem_cons_zero, List.getElem_cons_succ, List.setIfInBounds_toArray, List.set_cons_zero, List.set_cons_succ]
  refine wpAnyH_take (i := 4) (v := ?_) rfl (by kernel_rfl) (by kernel_rfl) (by kernel_rfl) (fun _ _ _ h => h) (Or.inl ⟨by rfl, ?_⟩) hH ?_
  rotate_left
  · ((intro W hW; clear hW; go_simp) <;> with_reducible rfl)
  simp only [Act.put, List.getElem_toArray, List.getElem_cons_zero, List.getElem_cons_succ, List.setIfInBounds_toArray, List.set_cons_zero, List.set_cons_succ]
  refine wpAnyH_take (i := 5) (v := ?_) rfl (by kernel_rfl) (by kernel_rfl) (by kernel_rfl) (fun _ _ _ h => h) (Or.inl ⟨by rfl, ?_⟩) hH ?_
  rotate_left
  · ((intro W hW; clear hW; go_simp) <;> with_reducible rfl)
  simp only [Act.put, List.getElem_toArray, List.getElem_cons_zero, List.getElem_cons_succ, List.setIfInBounds_toArray, List.set_cons_zero, List.set_cons_succ]
  refine wpAnyH_take (i := 6) (v := ?_) rfl (by kernel_rfl) (by kernel_rfl) (by kernel_rfl) (fun _ _ _ h => h) (Or.inl ⟨by rfl, ?_⟩) hH ?_
  rotate_left
  · ((intro W hW; clear hW; go_simp) <;> with_reducible rfl)
  simp only [Act.put, List.getElem_toArray, List.getElem_cons_zero, List.getElem_cons_succ, List.setIfInBounds_toArray, List.set_cons_zero, List.set_cons_succ]
  refine wpAnyH_take (i := 7) (v := ?_) rfl (by kernel_rfl) (by kernel_rfl) (by kernel_rfl) (fun _ _ _ h => h) (Or.inl ⟨by rfl, ?_⟩) hH ?_
  rotate_left
  · ((intro W hW; clear hW; go_simp) <;> with_reducible rfl)
  simp only [Act.put, List.getElem_toArray, List.getElem_cons_zero, List.getElem_cons_succ, List.setIfInBounds_toArray, List.set_cons_zero, List.set_cons_succ]
  refine wpAnyH_take (i := 8) (v := ?_) rfl (by kernel_rfl) (by kernel_rfl) (by kernel_rfl) (fun _ _ _ h => h) (Or.inl ⟨by rfl, ?_⟩) hH ?_
  rotate_left
  · ((intro W hW; clear hW; go_simp) <;> with_reducible rfl)
  simp only [Act.put, List.getElem_toArray, List.getElem_cons_zero, List.getElem_cons_succ, List.setIfInBounds_toArray, List.set_cons_zero, List.set_cons_succ]
  refine wpAnyH_take (i := 9) (v := ?_) rfl (by kernel_rfl) (by kernel_rfl) (by kernel_rfl) (fun _ _ _ h => h) (Or.inl ⟨by rfl, ?_⟩) hH ?_
  rotate_left
  · ((intro W hW; clear hW; go_simp) <;> with_reducible rfl)
  simp only [Act.put, List.getElem_toArray, List.getElem_cons_zero, List.getElem_cons_succ, List.setIfInBounds_toArray, List.set_cons_zero, List.set_cons_succ]
  refine wpAnyH_take (i := 10) (v := ?_) rfl (by kernel_rfl) (by kernel_rfl) (by kernel_rfl) (fun _ _ _ h => h) (Or.inl ⟨by rfl, ?_⟩) hH ?_
  rotate_left
  · ((intro W hW; clear hW; go_simp) <;> with_reducible rfl)
  simp only [Act.put, List.getElem_toArray, List.getElem_cons_zero, List.getElem_cons_succ, List.setIfInBounds_toArray, List.set_cons_zero, List.set_cons_succ]
  refine wpAnyH_take (i := 11) (v := ?_) rfl (by kernel_rfl) (by kernel_rfl) (by kernel_rfl) (fun _ _ _ h => h) (Or.inl ⟨by rfl, ?_⟩) hH ?_
  rotate_left
  · ((intro W hW; clear hW; go_simp) <;> with_reducible rfl)
  simp only [Act.put, List.getElem_toArray, List.getElem_cons_zero, List.getElem_cons_succ, List.setIfInBounds_toArray, List.set_cons_zero, List.set_cons_succ]
  refine wpAnyH_take (i := 12) (v := ?_) rfl (by kernel_rfl) (by kernel_rfl) (by kernel_rfl) (fun _ _ _ h => h) (Or.inl ⟨by rfl, ?_⟩) hH ?_
  rotate_left
  · ((intro W hW; clear hW; go_simp) <;> with_reducible rfl)
  simp only [Act.put, List.getElem_toArray, List.getElem_cons_zero, List.getElem_cons_succ, List.setIfInBounds_toArray, List.set_cons_zero, List.set_cons_succ]
  refine wpAnyH_take (i := 13) (v := ?_) rfl (by kernel_rfl) (by kernel_rfl) (by kernel_rfl) (fun _ _ _ h => h) (Or.inl ⟨by rfl, ?_⟩) hH ?_
  rotate_left
  · ((intro W hW; clear hW; go_simp) <;> with_reducible rfl)
  simp only [Act.put, List.getElem_toArray, List.getElem_cons_zero, List.getElem_cons_succ, List.setIfInBounds_toArray, List.set_cons_zero, List.set_cons_succ]
  refine wpAnyH_take (i := 14) (v := ?_) rfl (by kernel_rfl) (by kernel_rfl) (by kernel_rfl) (fun _ _ _ h => h) (Or.inl ⟨by rfl, ?_⟩) hH ?_
  rotate_left
  · ((intro W hW; clear hW; go_simp) <;> with_reducible rfl)
  simp only [Act.put, List.getElem_toArray, List.getElem_cons_zero, List.getElem_cons_succ, List.setIfInBounds_toArray, List.set_cons_zero, List.set_cons_succ]
  refine wpAnyH_take (i := 15) (v := ?_) rfl (by kernel_rfl) (by kernel_rfl) (by kernel_rfl) (fun _ _ _ h => h) (Or.inl ⟨by rfl, ?_⟩) hH ?_
  rotate_left
  · ((intro W hW; clear hW; go_simp) <;> with_reducible rfl)
  simp only [Act.put, List.getElem_toArray, List.getElem_cons_zero, List.getElem_cons_succ, List.setIfInBounds_toArray, List.set_cons_zero, List.set_cons_succ]
  refine wpAnyH_take (i := 16) (v := ?_) rfl (by kernel_rfl) (by kernel_rfl) (by kernel_rfl) (fun _ _ _ h => h) (Or.inl ⟨by rfl, ?_⟩) hH ?_
  rotate_left
  · ((intro W hW; clear hW; go_simp) <;> with_reducible rfl)
  simp only [Act.put, List.getElem_toArray, List.getElem_cons_zero, List.getElem_cons_succ, List.setIfInBounds_toArray, List.set_cons_zero, List.set_cons_succ]
  refine wpAnyH_take (i := 17) (v := ?_) rfl (by kernel_rfl) (by kernel_rfl) (by kernel_rfl) (fun _ _ _ h => h) (Or.inl ⟨by rfl, ?_⟩) hH ?_
  rotate_left
  · ((intro W hW; clear hW; go_simp) <;> with_reducible rfl)
  simp only [Act.put, List.getElem_toArray, List.getElem_cons_zero, List.getElem_cons_succ, List.setIfInBounds_toArray, List.set_cons_zero, List.set_cons_succ]
  refine wpAnyH_take (i := 18) (v := ?_) rfl (by kernel_rfl) (by kernel_rfl) (by kernel_rfl) (fun _ _ _ h => h) (Or.inl ⟨by rfl, ?_⟩) hH ?_
  rotate_left
  · ((intro W hW; clear hW; go_simp) <;> with_reducible rfl)
  simp only [Act.put, List.getElem_toArray, List.getElem_cons_zero, List.getElem_cons_succ, List.setIfInBounds_toArray, List.set_cons_zero, List.set_cons_succ]
  refine wpAnyH_take (i := 19) (v := ?_) rfl (by kernel_rfl) (by kernel_rfl) (by kernel_rfl) (fun _ _ _ h => h) (Or.inl ⟨by rfl, ?_⟩) hH ?_
  rotate_left
  · ((intro W hW; clear hW; go_simp) <;> with_reducible rfl)
  simp only [Act.put, List.getElem_toArray, List.getElem_cons_zero, List.getElem_cons_succ, List.setIfInBounds_toArray, List.set_cons_zero, List.set_cons_succ]
  refine wpAnyH_take (i := 20) (v := ?_) rfl (by kernel_rfl) (by kernel_rfl) (by kernel_rfl) (fun _ _ _ h => h) (Or.inl ⟨by rfl, ?_⟩) hH ?_
  rotate_left
  · ((intro W hW; clear hW; go_simp) <;> with_reducible rfl)
  simp only [Act.put, List.getElem_toArray, List.getElem_cons_zero, List.getElem_cons_succ, List.setIfInBounds_toArray, List.set_cons_zero, List.set_cons_succ]
  refine wpAnyH_take (i := 21) (v := ?_) rfl (by kernel_rfl) (by kernel_rfl) (by kernel_rfl) (fun _ _ _ h => h) (Or.inl ⟨by rfl, ?_⟩) hH ?_
  rotate_left
  · ((intro W hW; clear hW; go_simp) <;> with_reducible rfl)
  simp only [Act.put, List.getElem_toArray, List.getElem_cons_zero, List.getElem_cons_succ, List.setIfInBounds_toArray, List.set_cons_zero, List.set_cons_succ]
  refine wpAnyH_take (i := 22) (v := ?_) rfl (by kernel_rfl) (by kernel_rfl) (by kernel_rfl) (fun _ _ _ h => h) (Or.inl ⟨by rfl, ?_⟩) hH ?_
  rotate_left
  · ((intro W hW; clear hW; go_simp) <;> with_reducible rfl)
  simp only [Act.put, List.getElem_toArray, List.getElem_cons_zero, List.getElem_cons_succ, List.setIfInBounds_toArray, List.set_cons_zero, List.set_cons_succ]
  refine wpAnyH_take (i := 23) (v := ?_) rfl (by kernel_rfl) (by kernel_rfl) (by kernel_rfl) (fun _ _ _ h => h) (Or.inl ⟨by rfl, ?_⟩) hH ?_
  rotate_left
  · ((intro W hW; clear hW; go_simp) <;> with_reducible rfl)
  simp only [Act.put, List.getElem_toArray, List.getElem_cons_zero, List.getElem_cons_succ, List.setIfInBounds_toArray, List.set_cons_zero, List.set_cons_succ]
  refine wpAnyH_take (i := 24) (v := ?_) rfl (by kernel_rfl) (by kernel_rfl) (by kernel_rfl) (fun _ _ _ h => h) (Or.inl ⟨by rfl, ?_⟩) hH ?_
  rotate_left
  · ((intro W hW; clear hW; go_simp) <;> with_reducible rfl)
  simp only [Act.put, List.getElem_toArray, List.getElem_cons_zero, List.getElem_cons_succ, List.setIfInBounds_toArray, List.set_cons_zero, List.set_cons_succ]
  refine wpAnyH_take (i := 25) (v := ?_) rfl (by kernel_rfl) (by kernel_rfl) (by kernel_rfl) (fun _ _ _ h => h) (Or.inl ⟨by rfl, ?_⟩) hH ?_
  rotate_left
  · ((intro W hW; clear hW; go_simp) <;> with_reducible rfl)
  simp only [Act.put, List.getElem_toArray, List.getElem_cons_zero, List.getElem_cons_succ, List.setIfInBounds_toArray, List.set_cons_zero, List.set_cons_succ]
  refine wpAnyH_take (i := 26) (v := ?_) rfl (by kernel_rfl) (by kernel_rfl) (by kernel_rfl) (fun _ _ _ h => h) (Or.inl ⟨by rfl, ?_⟩) hH ?_
  rotate_left
  · ((intro W hW; clear hW; go_simp) <;> with_reducible rfl)
  simp only [Act.put, List.getElem_toArray, List.getElem_cons_zero, List.getElem_cons_succ, List.setIfInBounds_toArray, List.set_cons_zero, List.set_cons_succ]
  refine wpAnyH_take (i := 27) (v := ?_) rfl (by kernel_rfl) (by kernel_rfl) (by kernel_rfl) (fun _ _ _ h => h) (Or.inl ⟨by rfl, ?_⟩) hH ?_
  rotate_left
  · ((intro W hW; clear hW; go_simp) <;> with_reducible rfl)
  simp only [Act.put, List.getElem_toArray, List.getElem_cons_zero, List.getElem_cons_succ, List.setIfInBounds_toArray, List.set_cons_zero, List.set_cons_succ]
  refine wpAnyH_take (i := 28) (v := .agg #[.int .u8 (gC.first.a.toNat : Int), .int .u8 (gC.first.b.toNat : Int), .int .u8 (gC.first.c.toNat : Int), .int .u8 (gC.first.d.toNat : Int)]) rfl (by kernel_rfl) (by kernel_rfl) (by kernel_rfl) (fun _ _ _ h => h) (yieldsIf_load_part (by kernel_rfl) 24 _ rfl g10 21 4 rfl _ 32 (0, 0) (fun W hW => hW.1) _ rfl _ Tryd.underlying24 rfl (by kernel_rfl)) hH ?_
  simp only [Act.put, List.getElem_toArray, List.getElem_cons_zero, List.getElem_cons_succ, List.setIfInBounds_toArray, List.set_cons_zero, List.set_cons_succ]
  refine wpAnyH_take (i := 29) (v := ?_) rfl (by kernel_rfl) (by kernel_rfl) (by kernel_rfl) (fun _ _ _ h => h) (Or.inl ⟨by rfl, ?_⟩) hH ?_
  rotate_left
  · ((intro W hW; clear hW; go_simp) <;> with_reducible rfl)
  simp only [Act.put, List.getElem_toArray, List.getElem_cons_zero, List.getElem_cons_succ, List.setIfInBounds_toArray, List.set_cons_zero, List.set_cons_succ]
  refine wpAnyH_take (i := 30) (v := ?_) rfl (by kernel_rfl) (by kernel_rfl) (by kernel_rfl) (fun _ _ _ h => h) (Or.inl ⟨by rfl, ?_⟩) hH ?_
  rotate_left
  · ((intro W hW; clear hW; go_simp) <;> with_reducible rfl)
  simp only [Act.put, List.getElem_toArray, List.getElem_cons_zero, List.getElem_cons_succ, List.setIfInBounds_toArray, List.set_cons_zero, List.set_cons_succ]
  refine wpAnyH_take (i := 31) (v := ?_) rfl (by kernel_rfl) (by kernel_rfl) (by kernel_rfl) (fun _ _ _ h => h) (Or.inl ⟨by rfl, ?_⟩) hH ?_
  rotate_left
  · ((intro W hW; clear hW; go_simp) <;> with_reducible rfl)
  simp only [Act.put, List.getElem_toArray, List.getElem_cons_zero, List.getElem_cons_succ, List.setIfInBounds_toArray, List.set_cons_zero, List.set_cons_succ]
  refine wpAnyH_take (i := 32) (v := ?_) rfl (by kernel_rfl) (by kernel_rfl) (by kernel_rfl) (fun _ _ _ h => h) (Or.inl ⟨by rfl, ?_⟩) hH ?_
  rotate_left
  · ((intro W hW; clear hW; go_simp) <;> with_reducible rfl)
  simp only [Act.put, List.getElem_toArray, List.getElem_cons_zero, List.getElem_cons_succ, List.setIfInBounds_toArray, List.set_cons_zero, List.set_cons_succ]
  refine wpAnyH_take (i := 33) (v := ?_) rfl (by kernel_rfl) (by kernel_rfl) (by kernel_rfl) (fun _ _ _ h => h) (Or.inl ⟨by rfl, ?_⟩) hH ?_
  rotate_left
  · ((intro W hW; clear hW; go_simp) <;> with_reducible rfl)
  simp only [Act.put, List.getElem_toArray, List.getElem_cons_zero, List.getElem_cons_succ, List.setIfInBounds_toArray, List.set_cons_zero, List.set_cons_succ]
  refine wpAnyH_take (i := 34) (v := .agg #[.int .u8 (gC.last.a.toNat : Int), .int .u8 (gC.last.b.toNat : Int), .int .u8 (gC.last.c.toNat : Int), .int .u8 (gC.last.d.toNat : Int)]) rfl (by kernel_rfl) (by kernel_rfl) (by kernel_rfl) (fun _ _ _ h => h) (yieldsIf_load_part (by kernel_rfl) 24 _ rfl g10 25 4 rfl _ 32 (0, 0) (fun W hW => hW.1) _ rfl _ Tryd.underlying24 rfl (by kernel_rfl)) hH ?_
  simp only [Act.put, List.getElem_toArray, List.getElem_cons_zero, List.getElem_cons_succ, List.setIfInBounds_toArray, List.set_cons_zero, List.set_cons_succ]
  refine wpAnyH_take (i := 35) (v := ?_) rfl (by kernel_rfl) (by kernel_rfl) (by kernel_rfl) (fun _ _ _ h => h) (Or.inl ⟨by rfl, ?_⟩) hH ?_
  rotate_left
  · ((intro W hW; clear hW; go_simp) <;> with_reducible rfl)
  simp only [Act.put, List.getElem_toArray, List.getElem_cons_zero, List.getElem_cons_succ, List.setIfInBounds_toArray, List.set_cons_zero, List.set_cons_succ]
  refine wpAnyH_take (i := 36) (v := ?_) rfl (by kernel_rfl) (by kernel_rfl) (by kernel_rfl) (fun _ _ _ h => h) (Or.inl ⟨by rfl, ?_⟩) hH ?_
  rotate_left
  · ((intro W hW; clear hW; go_simp) <;> with_reducible rfl)
  simp only [Act.put, List.getElem_toArray, List.getElem_cons_zero, List.getElem_cons_succ, List.setIfInBounds_toArray, List.set_cons_zero, List.set_cons_succ]
  refine wpAnyH_take (i := 37) (v := ?_) rfl (by kernel_rfl) (by kernel_rfl) (by kernel_rfl) (fun _ _ _ h => h) (Or.inl ⟨by rfl, ?_⟩) hH ?_
  rotate_left
  · ((intro W hW; clear hW; go_simp) <;> with_reducible rfl)
  simp only [Act.put, List.getElem_toArray, List.getElem_cons_zero, List.getElem_cons_succ, List.setIfInBounds_toArray, List.set_cons_zero, List.set_cons_succ]
  refine wpAnyH_take (i := 38) (v := ?_) rfl (by kernel_rfl) (by kernel_rfl) (by kernel_rfl) (fun _ _ _ h => h) (Or.inl ⟨by rfl, ?_⟩) hH ?_
  rotate_left
  · ((intro W hW; clear hW; go_simp) <;> with_reducible rfl)
  simp only [Act.put, List.getElem_toArray, List.getElem_cons_zero, List.getElem_cons_succ, List.setIfInBounds_toArray, List.set_cons_zero, List.set_cons_succ]
  refine wpAnyH_take (i := 39) (v := ?_) rfl (by kernel_rfl) (by kernel_rfl) (by kernel_rfl) (fun _ _ _ h => h) (Or.inl ⟨by rfl, ?_⟩) hH ?_
  rotate_left
  · ((intro W hW; clear hW; go_simp) <;> with_reducible rfl)
  simp only [Act.put, List.getElem_toArray, List.getElem_cons_zero, List.getElem_cons_succ, List.setIfInBounds_toArray, List.set_cons_zero, List.set_cons_succ]
  refine wpAnyH_take (i := 40) (v := ?_) rfl (by kernel_rfl) (by kernel_rfl) (by kernel_rfl) (fun _ _ _ h => h) (Or.inl ⟨by rfl, ?_⟩) hH ?_
  rotate_left
  · ((intro W hW; have hk := cell_lit (hW.1) 38 _ rfl; clear hW; go_simp) <;> with_reducible rfl)
  simp only [Act.put, List.getElem_toArray, List.getElem_cons_zero, List.getElem_cons_succ, List.setIfInBounds_toArray, List.set_cons_zero, List.set_cons_succ]
  refine wpAnyH_take (i := 41) (v := ?_) rfl (by kernel_rfl) (by kernel_rfl) (by kernel_rfl) (fun _ _ _ h => h) (Or.inl ⟨by rfl, ?_⟩) hH ?_
  rotate_left
  · ((intro W hW; clear hW; go_simp) <;> with_reducible rfl)
  simp only [Act.put, List.getElem_toArray, List.getElem_cons_zero, List.getElem_cons_succ, List.setIfInBounds_toArray, List.set_cons_zero, List.set_cons_succ]
  refine wpAnyH_take (i := 42) (v := ?_) rfl (by kernel_rfl) (by kernel_rfl) (by kernel_rfl) (fun _ _ _ h => h) (Or.inl ⟨by rfl, ?_⟩) hH ?_
  rotate_left
  · ((intro W hW; clear hW; go_simp) <;> with_reducible rfl)
  simp only [Act.put, List.getElem_toArray, List.getElem_cons_zero, List.getElem_cons_succ, List.setIfInBounds_toArray, List.set_cons_zero, List.set_cons_succ]
  refine wpAnyH_take (i := 43) (v := ?_) rfl (by kernel_rfl) (by kernel_rfl) (by kernel_rfl) (fun _ _ _ h => h) (Or.inl ⟨by rfl, ?_⟩) hH ?_
  rotate_left
  · ((intro W hW; clear hW; go_simp) <;> with_reducible rfl)
  simp only [Act.put, List.getElem_toArray, List.getElem_cons_zero, List.getElem_cons_succ, List.setIfInBounds_toArray, List.set_cons_zero, List.set_cons_succ]
  refine wpAnyH_take (i := 44) (v := ?_) rfl (by kernel_rfl) (by kernel_rfl) (by kernel_rfl) (fun _ _ _ h => h) (Or.inl ⟨by rfl, ?_⟩) hH ?_
  rotate_left
  · ((intro W hW; clear hW; go_simp) <;> with_reducible rfl)
  simp only [Act.put, List.getElem_toArray, List.getElem_cons_zero, List.getElem_cons_succ, List.setIfInBounds_toArray, List.set_cons_zero, List.set_cons_succ]
  refine wpAnyH_take (i := 45) (v := ?_) rfl (by kernel_rfl) (by kernel_rfl) (by kernel_rfl) (fun _ _ _ h => h) (Or.inl ⟨by rfl, ?_⟩) hH ?_
  rotate_left
  · ((intro W hW; clear hW; go_simp) <;> with_reducible rfl)
  simp only [Act.put, List.getElem_toArray, List.getElem_cons_zero, List.getElem_cons_succ, List.setIfInBounds_toArray, List.set_cons_zero, List.set_cons_succ]
  refine wpAnyH_take (i := 46) (v := ?_) rfl (by kernel_rfl) (by kernel_rfl) (by kernel_rfl) (fun _ _ _ h => h) (Or.inl ⟨by rfl, ?_⟩) hH ?_
  rotate_left
  · ((intro W hW; have hk := cell_lit (hW.1) 39 _ rfl; clear hW; go_simp) <;> with_reducible rfl)
  simp only [Act.put, List.getElem_toArray, List.getElem_cons_zero, List.getElem_cons_succ, List.setIfInBounds_toArray, List.set_cons_zero, List.set_cons_succ]
  refine wpAnyH_take (i := 47) (v := ?_) rfl (by kernel_rfl) (by kernel_rfl) (by kernel_rfl) (fun _ _ _ h => h) (Or.inl ⟨by rfl, ?_⟩) hH ?_
  rotate_left
  · ((intro W hW; clear hW; go_simp) <;> with_reducible rfl)
  simp only [Act.put, List.getElem_toArray, List.getElem_cons_zero, List.getElem_cons_succ, List.setIfInBounds_toArray, List.set_cons_zero, List.set_cons_succ]
  refine wpAnyH_take (i := 48) (v := ?_) rfl (by kernel_rfl) (by kernel_rfl) (by kernel_rfl) (fun _ _ _ h => h) (Or.inl ⟨by rfl, ?_⟩) hH ?_
  rotate_left
  · ((intro W hW; clear hW; go_simp) <;> with_reducible rfl)
  simp only [Act.put, List.getElem_toArray, List.getElem_cons_zero, List.getElem_cons_succ, List.setIfInBounds_toArray, List.set_cons_zero, List.set_cons_succ]
  refine wpAnyH_take (i := 49) (v := ?_) rfl (by kernel_rfl) (by kernel_rfl) (by kernel_rfl) (fun _ _ _ h => h) (Or.inl ⟨by rfl, ?_⟩) hH ?_
  rotate_left
  · ((intro W hW; clear hW; go_simp) <;> with_reducible rfl)
  simp only [Act.put, List.getElem_toArray, List.getElem_cons_zero, List.getElem_cons_succ, List.setIfInBounds_toArray, List.set_cons_zero, List.set_cons_succ]
  refine wpAnyH_take (i := 50) (v := ?_) rfl (by kernel_rfl) (by kernel_rfl) (by kernel_rfl) (fun _ _ _ h => h) (Or.inl ⟨by rfl, ?_⟩) hH ?_
  rotate_left
  · ((intro W hW; clear hW; go_simp) <;> with_reducible rfl)
  simp only [Act.put, List.getElem_toArray, List.getElem_cons_zero, List.getElem_cons_succ, List.setIfInBounds_toArray, List.set_cons_zero, List.set_cons_succ]
  refine wpAnyH_take (i := 51) (v := ?_) rfl (by kernel_rfl) (by kernel_rfl) (by kernel_rfl) (fun _ _ _ h => h) (Or.inl ⟨by rfl, ?_⟩) hH ?_
  rotate_left
  · ((intro W hW; clear hW; go_simp) <;> with_reducible rfl)
  simp only [Act.put, List.getElem_toArray, List.getElem_cons_zero, List.getElem_cons_succ, List.setIfInBounds_toArray, List.set_cons_zero, List.set_cons_succ]
  refine wpAnyH_take (i := 52) (v := ?_) rfl (by kernel_rfl) (by kernel_rfl) (by kernel_rfl) (fun _ _ _ h => h) (Or.inl ⟨by rfl, ?_⟩) hH ?_
  rotate_left
  · ((intro W hW; have hk := cell_lit (hW.1) 39 _ rfl; clear hW; go_simp) <;> with_reducible rfl)
  simp only [Act.put, List.getElem_toArray, List.getElem_cons_zero, List.getElem_cons_succ, List.setIfInBounds_toArray, List.set_cons_zero, List.set_cons_succ]
  refine wpAnyH_take (i := 53) (v := ?_) rfl (by kernel_rfl) (by kernel_rfl) (by kernel_rfl) (fun _ _ _ h => h) (Or.inl ⟨by rfl, ?_⟩) hH ?_
  rotate_left
  · ((intro W hW; clear hW; go_simp) <;> with_reducible rfl)
  simp only [Act.put, List.getElem_toArray, List.getElem_cons_zero, List.getElem_cons_succ, List.setIfInBounds_toArray, List.set_cons_zero, List.set_cons_succ]
  refine wpAnyH_take (i := 54) (v := .agg #[.int .i64 gO.1, .int .i64 gO.2.1, .int .u8 (gO.2.2.1.a.toNat : Int), .int .u8 (gO.2.2.1.b.toNat : Int), .int .u8 (gO.2.2.1.c.toNat : Int), .int .u8 (gO.2.2.1.d.toNat : Int), .int .i64 gO.2.2.2]) rfl (by kernel_rfl) (by kernel_rfl) (by kernel_rfl) (fun _ _ _ h => h) (yieldsIf_load_mid (by kernel_rfl) 38 _ rfl gW (oW + 0 * 7) rfl [.int .i64 gO.1, .int .i64 gO.2.1, .int .u8 (gO.2.2.1.a.toNat : Int), .int .u8 (gO.2.2.1.b.toNat : Int), .int .u8 (gO.2.2.1.c.toNat : Int), .int .u8 (gO.2.2.1.d.toNat : Int), .int .i64 gO.2.2.2] _ (fun W hW => Sle.range0 (hW.2.2) HGO.out 7 [.int .i64 gO.1, .int .i64 gO.2.1, .int .u8 (gO.2.2.1.a.toNat : Int), .int .u8 (gO.2.2.1.b.toNat : Int), .int .u8 (gO.2.2.1.c.toNat : Int), .int .u8 (gO.2.2.1.d.toNat : Int), .int .i64 gO.2.2.2] rfl) Tryd.underlying38 rfl (by kernel_rfl)) hH ?_
  simp only [Act.put, List.getElem_toArray, List.getElem_cons_zero, List.getElem_cons_succ, List.setIfInBounds_toArray, List.set_cons_zero, List.set_cons_succ]
  refine wpAnyH_take (i := 55) (v := ?_) rfl (by kernel_rfl) (by kernel_rfl) (by kernel_rfl) (fun _ _ _ h => h) (Or.inl ⟨by rfl, ?_⟩) hH ?_
  rotate_left
  · ((intro W hW; clear hW; go_simp) <;> with_reducible rfl)
  simp only [Act.put, List.getElem_toArray, List.getElem_cons_zero, List.getElem_cons_succ, List.setIfInBounds_toArray, List.set_cons_zero, List.set_cons_succ]
  refine wpAnyH_take (i := 56) (v := ?_) rfl (by kernel_rfl) (by kernel_rfl) (by kernel_rfl) (fun _ _ _ h => h) (Or.inl ⟨by rfl, ?_⟩) hH ?_
  rotate_left
  · ((intro W hW; clear hW; go_simp) <;> with_reducible rfl)
  simp only [Act.put, List.getElem_toArray, List.getElem_cons_zero, List.getElem_cons_succ, List.setIfInBounds_toArray, List.set_cons_zero, List.set_cons_succ]
  refine wpAnyH_take (i := 57) (v := ?_) rfl (by kernel_rfl) (by kernel_rfl) (by kernel_rfl) (fun _ _ _ h => h) (Or.inl ⟨by rfl, ?_⟩) hH ?_
  rotate_left
  · ((intro W hW; clear hW; go_simp) <;> with_reducible rfl)
  simp only [Act.put, List.getElem_toArray, List.getElem_cons_zero, List.getElem_cons_succ, List.setIfInBounds_toArray, List.set_cons_zero, List.set_cons_succ]
  refine wpAnyH_take (i := 58) (v := ?_) rfl (by kernel_rfl) (by kernel_rfl) (by kernel_rfl) (fun _ _ _ h => h) (Or.inl ⟨by rfl, ?_⟩) hH ?_
  rotate_left
  · ((intro W hW; clear hW; go_simp) <;> with_reducible rfl)
  simp only [Act.put, List.getElem_toArray, List.getElem_cons_zero, List.getElem_cons_succ, List.setIfInBounds_toArray, List.set_cons_zero, List.set_cons_succ]
  refine wpAnyH_take (i := 59) (v := ?_) rfl (by kernel_rfl) (by kernel_rfl) (by kernel_rfl) (fun _ _ _ h => h) (Or.inl ⟨by rfl, ?_⟩) hH ?_
  rotate_left
  · ((intro W hW; clear hW; go_simp) <;> with_reducible rfl)
  simp only [Act.put, List.getElem_toArray, List.getElem_cons_zero, List.getElem_cons_succ, List.setIfInBounds_toArray, List.set_cons_zero, List.set_cons_succ]
  refine wpAnyH_take (i := 60) (v := ?_) rfl (by kernel_rfl) (by kernel_rfl) (by kernel_rfl) (fun _ _ _ h => h) (Or.inl ⟨by rfl, ?_⟩) hH ?_
  rotate_left
  · ((intro W hW; clear hW; go_simp) <;> with_reducible rfl)
  simp only [Act.put, List.getElem_toArray, List.getElem_cons_zero, List.getElem_cons_succ, List.setIfInBounds_toArray, List.set_cons_zero, List.set_cons_succ]
  refine wpAnyH_take (i := 61) (v := ?_) rfl (by kernel_rfl) (by kernel_rfl) (by kernel_rfl) (fun _ _ _ h => h) (Or.inl ⟨by rfl, ?_⟩) hH ?_
  rotate_left
  · ((intro W hW; clear hW; go_simp) <;> with_reducible rfl)
  simp only [Act.put, List.getElem_toArray, List.getElem_cons_zero, List.getElem_cons_succ, List.setIfInBounds_toArray, List.set_cons_zero, List.set_cons_succ]
  refine wpAnyH_take (i := 62) (v := ?_) rfl (by kernel_rfl) (by kernel_rfl) (by kernel_rfl) (fun _ _ _ h => h) (Or.inl ⟨by rfl, ?_⟩) hH ?_
  rotate_left
  · ((intro W hW; clear hW; go_simp) <;> with_reducible rfl)
  simp only [Act.put, List.getElem_toArray, List.getElem_cons_zero, List.getElem_cons_succ, List.setIfInBounds_toArray, List.set_cons_zero, List.set_cons_succ]
  refine wpAnyH_take (i := 63) (v := ?_) rfl (by kernel_rfl) (by kernel_rfl) (by kernel_rfl) (fun _ _ _ h => h) (Or.inl ⟨by rfl, ?_⟩) hH ?_
  rotate_left
  · ((intro W hW; clear hW; go_simp) <;> with_reducible rfl)
  simp only [Act.put, List.getElem_toArray, List.getElem_cons_zero, List.getElem_cons_succ, List.setIfInBounds_toArray, List.set_cons_zero, List.set_cons_succ]
  refine wpAnyH_take (i := 64) (v := ?_) rfl (by kernel_rfl) (by kernel_rfl) (by kernel_rfl) (fun _ _ _ h => h) (Or.inl ⟨by rfl, ?_⟩) hH ?_
  rotate_left
  · ((intro W hW; clear hW; go_simp) <;> with_reducible rfl)
  simp only [Act.put, List.getElem_toArray, List.getElem_cons_zero, List.getElem_cons_succ, List.setIfInBounds_toArray, List.set_cons_zero, List.set_cons_succ]
  refine wpAnyH_take (i := 65) (v := ?_) rfl (by kernel_rfl) (by kernel_rfl) (by kernel_rfl) (fun _ _ _ h => h) (Or.inl ⟨by rfl, ?_⟩) hH ?_
  rotate_left
  · ((intro W hW; clear hW; go_simp) <;> with_reducible rfl)
  simp only [Act.put, List.getElem_toArray, List.getElem_cons_zero, List.getElem_cons_succ, List.setIfInBounds_toArray, List.set_cons_zero, List.set_cons_succ]
  refine wpAnyH_take (i := 66) (v := ?_) rfl (by kernel_rfl) (by kernel_rfl) (by kernel_rfl) (fun _ _ _ h => h) (Or.inl ⟨by rfl, ?_⟩) hH ?_
  rotate_left
  · ((intro W hW; clear hW; go_simp) <;> with_reducible rfl)
  simp only [Act.put, List.getElem_toArray, List.getElem_cons_zero, List.getElem_cons_succ, List.setIfInBounds_toArray, List.set_cons_zero, List.set_cons_succ]
  refine wpAnyH_take (i := 67) (v := ?_) rfl (by kernel_rfl) (by kernel_rfl) (by kernel_rfl) (fun _ _ _ h => h) (Or.inl ⟨by rfl, ?_⟩) hH ?_
  rotate_left
  · ((intro W hW; clear hW; go_simp) <;> with_reducible rfl)
  simp only [Act.put, List.getElem_toArray, List.getElem_cons_zero, List.getElem_cons_succ, List.setIfInBounds_toArray, List.set_cons_zero, List.set_cons_succ]
  refine wpAnyH_take (i := 68) (v := .agg (cfl gC Fb 1 cfb Ob 1 cxb).toArray) rfl (by kernel_rfl) (by kernel_rfl) (by kernel_rfl) (fun _ _ _ h => h) (yieldsIf_load_part (by kernel_rfl) 32 _ rfl g13 0 40 rfl _ 32 (0, 0) (fun W hW => hW.2.1) _ rfl _ Tryd.underlying32 rfl (by kernel_rfl)) hH ?_
  simp only [Act.put, List.getElem_toArray, List.getElem_cons_zero, List.getElem_cons_succ, List.setIfInBounds_toArray, List.set_cons_zero, List.set_cons_succ]
  refine wpAnyH_take (i := 70) (v := .agg #[.int .u8 (gC.own.a.toNat : Int), .int .u8 (gC.own.b.toNat : Int), .int .u8 (gC.own.c.toNat : Int), .int .u8 (gC.own.d.toNat : Int), .int .u8 (gC.lan.a.toNat : Int), .int .u8 (gC.lan.b.toNat : Int), .int .u8 (gC.lan.c.toNat : Int), .int .u8 (gC.lan.d.toNat : Int), .int .i64 gC.bits, .int .u8 (gC.lanmac.a.toNat : Int), .int .u8 (gC.lanmac.b.toNat : Int), .int .u8 (gC.lanmac.c.toNat : Int), .int .u8 (gC.lanmac.d.toNat : Int), .int .u8 (gC.lanmac.e.toNat : Int), .int .u8 (gC.lanmac.f.toNat : Int), .int .u8 (gC.wanmac.a.toNat : Int), .int .u8 (gC.wanmac.b.toNat : Int), .int .u8 (gC.wanmac.c.toNat : Int), .int .u8 (gC.wanmac.d.toNat : Int), .int .u8 (gC.wanmac.e.toNat : Int), .int .u8 (gC.wanmac.f.toNat : Int), .int .u8 (gC.first.a.toNat : Int), .int .u8 (gC.first.b.toNat : Int), .int .u8 (gC.first.c.toNat : Int), .int .u8 (gC.first.d.toNat : Int), .int .u8 (gC.last.a.toNat : Int), .int .u8 (gC.last.b.toNat : Int), .int .u8 (gC.last.c.toNat : Int), .int .u8 (gC.last.d.toNat : Int), .int .i64 gC.time, .int .u8 (gC.dns.a.toNat : Int), .int .u8 (gC.dns.b.toNat : Int), .int .u8 (gC.dns.c.toNat : Int), .int .u8 (gC.dns.d.toNat : Int), .int .i64 gC.udp, .int .i64 gC.tcp, .int .i64 gC.icmp, .int .i64 gC.low, .slice Fa 1 cfa, .slice (some ⟨gW, oW, none⟩) 1 cxa]) rfl (by kernel_rfl) (by kernel_rfl) (by kernel_rfl) (fun _ _ _ h => h) (yieldsIf_load_part (by kernel_rfl) 32 _ rfl g10 0 40 rfl _ 32 (0, 0) (fun W hW => hW.1) _ rfl _ Tryd.underlying32 rfl (by kernel_rfl)) hH ?_
  simp only [Act.put, List.getElem_toArray, List.getElem_cons_zero, List.getElem_cons_succ, List.setIfInBounds_toArray, List.set_cons_zero, List.set_cons_succ]
  refine wpAnyH_ready (rs := [69]) (by kernel_rfl) (by simp) ?_
  refine AllReadyH.cons (o := _) rfl (fun K hK => ?_) AllReadyH.nil
  simp only [List.getElem_toArray, List.getElem_cons_zero, List.getElem_cons_succ]
  go_simp
  with_reducible refine (own_any gC _ _ _ _ _ _ _ hfb hob (by decide) (by decide)).mono ?_
  rintro e w19 ⟨Gx, ngx, cgx, Hx, nhx, chx, rfl, hgx, hhx, frGx, frHx, b19⟩
  dsimp only
  have av_hgx_xa := frGx.av (hlt hxa)
  have av_hgx_xb := frGx.av (hlt hxb)
  have av_hgx_xc := frGx.av (hlt hxc)
  have av_hgx_gb := frGx.av (hlt hgb)
  have av_hgx_db := frGx.av (hlt hdb)
  have av_hhx_xa := frHx.av (hlt hxa)
  have av_hhx_xb := frHx.av (hlt hxb)
  have av_hhx_xc := frHx.av (hlt hxc)
  have av_hhx_gb := frHx.av (hlt hgb)
  have av_hhx_db := frHx.av (hlt hdb)
  replace hxa := blk_u hxa b19
  replace hxb := blk_u hxb b19
  replace hxc := blk_u hxc b19
  replace hgb := blk_u hgb b19
  replace hdb := blk_u hdb b19
  replace hfa := hfa.below b19
  replace hoa := hoa.below b19
  replace hfb := hfb.below b19
  replace hob := hob.below b19
  replace bel := bel.trans (b19.mono bel.size)
  clear b19
  replace hgx : Sle fxf 10 w19 (Gx) (ngx) (cgx) (gC.fixed) := hgx
  replace hhx : Sle opf 7 w19 (Hx) (nhx) (chx) (gC.opens) := hhx
  have hngx : ngx ≤ 1000 := by rw [← hgx.1]; decide
  have hnhx : nhx ≤ 1000 := by rw [← hhx.1]; decide
  refine hK.out _ _ ⟨hgb, hdb, hoa⟩ (fun hH20 => ?_)
  clear hK K
  refine wpAnyH_ready (rs := [71]) (by kernel_rfl) (by simp) ?_
  refine AllReadyH.cons (o := _) rfl (fun K hK => ?_) AllReadyH.nil
  simp only [List.getElem_toArray, List.getElem_cons_zero, List.getElem_cons_succ]
  go_simp
  with_reducible refine (own_any gC _ _ _ _ _ _ _ hfa hoa (by decide) (by decide)).mono ?_
  rintro e w21 ⟨Gy, ngy, cgy, Hy, nhy, chy, rfl, hgy, hhy, frGy, frHy, b21⟩
  dsimp only
  have av_hgy_xa := frGy.av (hlt hxa)
  have av_hgy_xb := frGy.av (hlt hxb)
  have av_hgy_xc := frGy.av (hlt hxc)
  have av_hgy_gb := frGy.av (hlt hgb)
  have av_hgy_db := frGy.av (hlt hdb)
  have av_hhy_xa := frHy.av (hlt hxa)
  have av_hhy_xb := frHy.av (hlt hxb)
  have av_hhy_xc := frHy.av (hlt hxc)
  have av_hhy_gb := frHy.av (hlt hgb)
  have av_hhy_db := frHy.av (hlt hdb)
  replace hxa := blk_u hxa b21
  replace hxb := blk_u hxb b21
  replace hxc := blk_u hxc b21
  replace hgb := blk_u hgb b21
  replace hdb := blk_u hdb b21
  replace hfa := hfa.below b21
  replace hoa := hoa.below b21
  replace hfb := hfb.below b21
  replace hob := hob.below b21
  replace hgx := hgx.below b21
  replace hhx := hhx.below b21
  replace bel := bel.trans (b21.mono bel.size)
  clear b21
  replace hgy : Sle fxf 10 w21 (Gy) (ngy) (cgy) (gC.fixed) := hgy
  replace hhy : Sle opf 7 w21 (Hy) (nhy) (chy) (gC.opens) := hhy
  have hngy : ngy ≤ 1000 := by rw [← hgy.1]; decide
  have hnhy : nhy ≤ 1000 := by rw [← hhy.1]; decide
  refine hK.out _ _ ⟨hgb, hdb, hoa⟩ (fun hH22 => ?_)
  clear hK K
  refine wpAnyH_ready (rs := [72]) (by kernel_rfl) (by simp) ?_
  refine AllReadyH.cons (o := _) rfl (fun K hK => ?_) AllReadyH.nil
  simp only [List.getElem_toArray, List.getElem_cons_zero, List.getElem_cons_succ]
  go_simp
  with_reducible refine (same_any gC _ _ _ _ _ _ _ _ _ _ _ _ _ hgx hhx hgy hhy hngx hnhx).mono ?_
  rintro e w23 ⟨rfl, b23⟩
  dsimp only
  replace hxa := blk_u hxa b23
  replace hxb := blk_u hxb b23
  replace hxc := blk_u hxc b23
  replace hgb := blk_u hgb b23
  replace hdb := blk_u hdb b23
  replace hfa := hfa.below b23
  replace hoa := hoa.below b23
  replace hfb := hfb.below b23
  replace hob := hob.below b23
  replace hgx := hgx.below b23
  replace hhx := hhx.below b23
  replace hgy := hgy.below b23
  replace hhy := hhy.below b23
  replace bel := bel.trans (b23.mono bel.size)
  clear b23
  clear hgx
  clear hhx
  clear hgy
  clear hhy
  refine hK.out _ _ ⟨hgb, hdb, hoa⟩ (fun hH24 => ?_)
  clear hK K
  refine wpAnyH_take (i := 73) (v := ?_) rfl (by kernel_rfl) (by kernel_rfl) (by kernel_rfl) (fun _ _ _ h => h) (Or.inl ⟨by rfl, ?_⟩) hH24 ?_
  rotate_left
  · ((intro W hW; clear hW; go_simp) <;> with_reducible rfl)
  simp only [Act.put, List.getElem_toArray, List.getElem_cons_zero, List.getElem_cons_succ, List.setIfInBounds_toArray, List.set_cons_zero, List.set_cons_succ]
  refine wpAnyH_take (i := 74) (v := ?_) rfl (by kernel_rfl) (by kernel_rfl) (by kernel_rfl) (fun _ _ _ h => h) (Or.inl ⟨by rfl, ?_⟩) hH24 ?_
  rotate_left
  · ((intro W hW; clear hW; go_simp) <;> with_reducible rfl)
  simp only [Act.put, List.getElem_toArray, List.getElem_cons_zero, List.getElem_cons_succ, List.setIfInBounds_toArray, List.set_cons_zero, List.set_cons_succ]
  refine wpAnyH_take (i := 75) (v := ?_) rfl (by kernel_rfl) (by kernel_rfl) (by kernel_rfl) (fun _ _ _ h => h) (Or.inl ⟨by rfl, ?_⟩) hH24 ?_
  rotate_left
  · ((intro W hW; clear hW; go_simp) <;> with_reducible rfl)
  simp only [Act.put, List.getElem_toArray, List.getElem_cons_zero, List.getElem_cons_succ, List.setIfInBounds_toArray, List.set_cons_zero, List.set_cons_succ]
  refine wpAnyH_ready (rs := [76]) (by kernel_rfl) (by simp) ?_
  refine AllReadyH.cons (o := _) rfl (fun K hK => ?_) AllReadyH.nil
  simp only [List.getElem_toArray, List.getElem_cons_zero, List.getElem_cons_succ]
  go_simp
  with_reducible refine (ctext_zero _ (hT.below bel)).mono ?_
  rintro e w25 ⟨rfl, b25⟩
  dsimp only
  replace hxa := blk_u hxa b25
  replace hxb := blk_u hxb b25
  replace hxc := blk_u hxc b25
  replace hgb := blk_u hgb b25
  replace hdb := blk_u hdb b25
  replace hfa := hfa.below b25
  replace hoa := hoa.below b25
  replace hfb := hfb.below b25
  replace hob := hob.below b25
  replace bel := bel.trans (b25.mono bel.size)
  clear b25
  refine hK.out _ _ ⟨hgb, hdb, hoa⟩ (fun hH26 => ?_)
  clear hK K
  refine wpAnyH_take (i := 77) (v := ?_) rfl (by kernel_rfl) (by kernel_rfl) (by kernel_rfl) (fun _ _ _ h => h) (Or.inl ⟨by rfl, ?_⟩) hH26 ?_
  rotate_left
  · ((intro W hW; clear hW; go_simp) <;> with_reducible rfl)
  simp only [Act.put, List.getElem_toArray, List.getElem_cons_zero, List.getElem_cons_succ, List.setIfInBounds_toArray, List.set_cons_zero, List.set_cons_succ]
  refine wpAnyH_take (i := 78) (v := ?_) rfl (by kernel_rfl) (by kernel_rfl) (by kernel_rfl) (fun _ _ _ h => h) (Or.inl ⟨by rfl, ?_⟩) hH26 ?_
  rotate_left
  · ((intro W hW; clear hW; go_simp) <;> with_reducible rfl)
  simp only [Act.put, List.getElem_toArray, List.getElem_cons_zero, List.getElem_cons_succ, List.setIfInBounds_toArray, List.set_cons_zero, List.set_cons_succ]
  refine wpAnyH_take (i := 79) (v := ?_) rfl (by kernel_rfl) (by kernel_rfl) (by kernel_rfl) (fun _ _ _ h => h) (Or.inl ⟨by rfl, ?_⟩) hH26 ?_
  rotate_left
  · ((intro W hW; clear hW; go_simp) <;> with_reducible rfl)
  simp only [Act.put, List.getElem_toArray, List.getElem_cons_zero, List.getElem_cons_succ, List.setIfInBounds_toArray, List.set_cons_zero, List.set_cons_succ]
  refine wpAnyH_take (i := 80) (v := ?_) rfl (by kernel_rfl) (by kernel_rfl) (by kernel_rfl) (fun _ _ _ h => h) (Or.inl ⟨by rfl, ?_⟩) hH26 ?_
  rotate_left
  · ((intro W hW; clear hW; go_simp) <;> with_reducible rfl)
  simp only [Act.put, List.getElem_toArray, List.getElem_cons_zero, List.getElem_cons_succ, List.setIfInBounds_toArray, List.set_cons_zero, List.set_cons_succ]
  refine wpAnyH_ready (rs := [81]) (by kernel_rfl) (by simp) ?_
  refine AllReadyH.cons (o := _) rfl (fun K hK => ?_) AllReadyH.nil
  simp only [List.getElem_toArray, List.getElem_cons_zero, List.getElem_cons_succ]
  go_simp
  with_reducible refine (ccheck_zero _).mono ?_
  rintro e w27 ⟨rfl, b27⟩
  dsimp only
  replace hxa := blk_u hxa b27
  replace hxb := blk_u hxb b27
  replace hxc := blk_u hxc b27
  replace hgb := blk_u hgb b27
  replace hdb := blk_u hdb b27
  replace hfa := hfa.below b27
  replace hoa := hoa.below b27
  replace hfb := hfb.below b27
  replace hob := hob.below b27
  replace bel := bel.trans (b27.mono bel.size)
  clear b27
  refine hK.out _ _ ⟨hgb, hdb, hoa⟩ (fun hH28 => ?_)
  clear hK K
  refine wpAnyH_take (i := 82) (v := ?_) rfl (by kernel_rfl) (by kernel_rfl) (by kernel_rfl) (fun _ _ _ h => h) (Or.inl ⟨by rfl, ?_⟩) hH28 ?_
  rotate_left
  · ((intro W hW; clear hW; go_simp) <;> with_reducible rfl)
  simp only [Act.put, List.getElem_toArray, List.getElem_cons_zero, List.getElem_cons_succ, List.setIfInBounds_toArray, List.set_cons_zero, List.set_cons_succ]
  refine wpAnyH_take (i := 83) (v := ?_) rfl (by kernel_rfl) (by kernel_rfl) (by kernel_rfl) (fun _ _ _ h => h) (Or.inl ⟨by rfl, ?_⟩) hH28 ?_
  rotate_left
  · ((intro W hW; clear hW; go_simp) <;> with_reducible rfl)
  simp only [Act.put, List.getElem_toArray, List.getElem_cons_zero, List.getElem_cons_succ, List.setIfInBounds_toArray, List.set_cons_zero, List.set_cons_succ]
  refine wpAnyH_take (i := 84) (v := ?_) rfl (by kernel_rfl) (by kernel_rfl) (by kernel_rfl) (fun _ _ _ h => h) (Or.inl ⟨by rfl, ?_⟩) hH28 ?_
  rotate_left
  · ((intro W hW; clear hW; go_simp) <;> with_reducible rfl)
  simp only [Act.put, List.getElem_toArray, List.getElem_cons_zero, List.getElem_cons_succ, List.setIfInBounds_toArray, List.set_cons_zero]
  refine wpAnyH_done (by kernel_rfl) ?_ _
  go_wp2_with fail
  go_ret
  exact ⟨rfl, bel⟩
end Go.Proofs.YtdfobilagidmfaaDoor
