/- OctetWrites. -/
import Derived.Test.YtafiegmmfmcedaaLaws
import Derived.Deep.RegionHeld3
namespace Go.Proofs.Ytafiegmmfmcedaa
open Go.RowKit

/-- Some slice that reads as l. -/
def Some_ (w : World) (e : Ending) (w' : World) (l : List UInt8) : Prop := ∃ A n c, e = .returned (.slice A n c) ∧ Sl w' A n c l ∧ Below w.heap.size w w'

theorem Sl.drew {w : World} {A : Option Addr} {n c : Nat} {l : List UInt8} (h : Sl w A n c l) : Sl w.drew A n c l := h.keep fun _ _ _ hc => hc
theorem Rd.drew {w : World} {T : TypeId} {g : Nat} {l : List UInt8} {s : Bool} (h : Rd w T g l s) : Rd w.drew T g l s := by
  obtain ⟨A, n, c, h1, h2⟩ := h
  exact ⟨A, n, c, h1, h2.drew⟩

theorem w16_some (A : Option Addr) (n c : Nat) (l : List UInt8) (v : Int) (w : World) (hl : Sl w A n c l) (hs : l.length ≤ 1000) :
    Calls Try.prog 14 #[.slice A n c, .int .i64 v] w fun e w' => Some_ w e w' (l ++ two v) := by
  have h := hl.1
  refine (w16_any A n c l v w hl (by omega)).mono ?_
  rintro e w1 ⟨A, c, rfl, h, bel⟩
  exact ⟨A, _, c, rfl, h, bel⟩
theorem w32_some (A : Option Addr) (n c : Nat) (l : List UInt8) (v : Int) (w : World) (h0 : 0 ≤ v) (h1 : v < 4294967296) (hl : Sl w A n c l) (hs : l.length ≤ 1000) :
    Calls Try.prog 13 #[.slice A n c, .int .u32 v] w fun e w' => Some_ w e w' (l ++ four v) := by
  have h := hl.1
  refine (w32_any A n c l v w h0 h1 hl (by omega)).mono ?_
  rintro e w1 ⟨A, c, rfl, h, bel⟩
  exact ⟨A, _, c, rfl, h, bel⟩
theorem ref16_some (A : Option Addr) (n c : Nat) (l : List UInt8) (v : Int) (w : World) (hl : Sl w A n c l) (hs : l.length ≤ 1000) :
    Calls Try.prog 21 #[.slice A n c, .int .i64 v] w fun e w' => Some_ w e w' (l ++ two v) := by
  have h := hl.1
  refine (ref16_any A n c l v w hl (by omega)).mono ?_
  rintro e w1 ⟨A, c, rfl, h, bel⟩
  exact ⟨A, _, c, rfl, h, bel⟩
theorem ref32_some (A : Option Addr) (n c : Nat) (l : List UInt8) (v : Int) (w : World) (h0 : 0 ≤ v) (h1 : v < 4294967296) (hl : Sl w A n c l) (hs : l.length ≤ 1000) :
    Calls Try.prog 20 #[.slice A n c, .int .u32 v] w fun e w' => Some_ w e w' (l ++ four v) := by
  have h := hl.1
  refine (ref32_any A n c l v w h0 h1 hl (by omega)).mono ?_
  rintro e w1 ⟨A, c, rfl, h, bel⟩
  exact ⟨A, _, c, rfl, h, bel⟩
/-- What was written is read back. -/
theorem back16 (g : Nat) (v : Int) (t : List UInt8) (w : World) (h : Rd w 42 g (two v ++ t) false) : Calls Try.prog 16 #[.pointer (some ⟨g, 0, none⟩)] w fun e w' => e = .returned (.int .i64 (v % 65536)) ∧ Rd w' 42 g t false ∧ w.grownBy w' (some g) := by
  rw [← be_byteOf]
  exact u16_yes g (two v ++ t) false w h (by simp [two])
theorem back32 (g : Nat) (v : Int) (w : World) (h0 : 0 ≤ v) (h1 : v < 4294967296) (h : Rd w 42 g (four v) false) : Calls Try.prog 12 #[.pointer (some ⟨g, 0, none⟩)] w fun e w' => e = .returned (.int .u32 v) ∧ Rd w' 42 g [] false ∧ w.grownBy w' (some g) := by
  have e : (be (four v) : Int) = v := by rw [be_four]; omega
  refine (u32_yes g (four v) false w h (by simp [four])).mono ?_
  rintro x w' ⟨rfl, h2, h3⟩
  exact ⟨congrArg (fun z => Ending.returned (.int .u32 z)) e, h2, h3⟩

theorem writes_long (A : Option Addr) (n c : Nat) (v u : Int) (w : World) (hn : 100 < n) :
    Calls Try.prog 5 #[.slice A n c, .int .i64 v, .int .u32 u] w fun e w' => e = .returned (.bool true) ∧ Below w.heap.size w w' := by
  have b1 : (100 : Int) < n := by omega
  go_enter Try.func5, Try.ntmps5
  go_wp2_with fail
  refine (awake_any _).mono ?_
  rintro e w1 ⟨rfl, bel1⟩
  go_wp2
  go_ret
  exact ⟨rfl, bel1⟩

theorem wpAnyH_grow {P : Program} {ops : Array Oper} {Q : Exit → Act → World → Prop} {md : Region.Mode} {S S' : World → Prop} (hs : ∀ w, S' w → S w) :
    ∀ {fuel : Nat} {listed : Array Bool} {a : Act} {w : World}, wpAnyH P md ops Q S' fuel listed a w → wpAnyH P md ops Q S fuel listed a w
  | 0, _, _, _, h => h
  | _ + 1, _, _, _, h => ⟨h.1, fun i hi => wpOp_mono (fun _ w' h' => ⟨hs w' h'.1, wpAnyH_grow hs h'.2⟩) (h.2 i hi)⟩

theorem exec_convert {P : Program} {o : Oper} {a : Act} {src dst : TypeId} {x : Operand} {val v : Value} {w : World} (ho : o.op = .convert src dst x) (hx : a.eval x = val) (h : (convert src dst val).run P w = .ok v w) :
    (execOp a.eval o).run P w = .ok (.value v) w := by
  subst hx
  simp [execOp, ho, h, Result.andThen]

set_option maxHeartbeats 1000000 in
theorem writes_short (A : Option Addr) (n c : Nat) (l : List UInt8) (v u : Int) (w : World) (hl : Sl w A n c l) (hn : n ≤ 100) (u0 : 0 ≤ u) (u1 : u < 4294967296) :
    Calls Try.prog 5 #[.slice A n c, .int .i64 v, .int .u32 u] w fun e w' => e = .returned (.bool true) ∧ Below w.heap.size w w' := by
  obtain ⟨i, hi, hz0, hz1, hz2⟩ := info_parts Try.info5
  have hlen := hl.1
  have b1 : (n : Int) ≤ 100 := by omega
  go_enter Try.func5, Try.ntmps5
  go_wp2_with fail
  refine (awake_any _).mono ?_
  rintro e w1 ⟨rfl, bel1⟩
  have hown := own_empty w1
  have bel1a := bel1.alloc bel1.size (.cells #[] 5)
  have hl1 := hl.below bel1a
  go_wp2_with (at_builtin; refine wpList_append_bytes _ rfl (.tmp 15) (.tmp 16) 25 rfl w1.heap.size 5 i (.int .u8 0) Try.underlying25 hi hz0 hz1 hz2 rfl _ 0 [] rfl hown A n c l rfl hl1 ?c1 ?c2 ?_)
  case c1 => omega
  case c2 => simp
  intro v2 w2 hown2 hg2 hat2
  have bel2 : Below w.heap.size w w2 := bel1a.grown hg2 bel1a.size (fun k h => by have := bel1.size; simp [Value.ownBlock] at h; omega)
  clear hat2 hg2 hown hl1
  obtain ⟨A2, c2, rfl, h2⟩ := Sl.of_own hown2
  clear hown2
  go_wp2_with fail
  refine (w16_some _ _ _ l v _ h2 (by omega)).mono ?_
  rintro e w3 ⟨A3, n3, c3, rfl, h3, bel3⟩
  have bel3a := bel2.trans (bel3.mono bel2.size)
  go_wp2_with fail
  refine (w32_some _ _ _ _ u _ u0 u1 h3 (by simp [two]; omega)).mono ?_
  rintro e w4 ⟨A4, n4, c4, rfl, hx, bel4⟩
  have bel4a := bel3a.trans (bel4.mono bel3a.size)
  have hxl : n4 = n + 6 := by have := hx.1; simp [two, four] at this; omega
  have HXL : Hid (n4 = n + 6) := hxl
  clear bel1 bel1a bel2 bel3 bel3a bel4 h2 h3 hxl
  go_wp2_with fail
  refine (read_any _ _ _ _ _ hx (by have := HXL.out; omega)).mono ?_
  rintro e w5 ⟨g, rfl, hr5, bel5, hgs⟩
  have bel5a := bel4a.trans (bel5.mono bel4a.size)
  have hx5 := hx.below bel5
  have hl5 := hl.below bel5a
  have hgw : w.heap.size ≤ g := Nat.le_trans bel4a.size hgs
  clear bel4a bel5 hgs hx
  go_wp2_with fail
  refine (bytes_yes g _ _ n _ hr5 (by simp; omega) (by omega)).mono ?_
  rintro e w6 ⟨A6, c6, rfl, hy, hr6, hg6⟩
  have hx6 := hx5.far hr5 hg6
  have hl6 := hl5.far hr5 hg6
  have bel6 : Below w.heap.size w w6 := bel5a.grown hg6 bel5a.size (fun k h => by cases h; exact hgw)
  rw [List.append_assoc, List.take_left' hlen] at hy
  rw [List.append_assoc, List.drop_left' hlen] at hr6
  rw [List.append_assoc] at hx6
  clear bel5a hg6 hr5 hx5 hl5
  have e1 := i64_and65535 v
  have q1 : l.length ≤ 1000 := by omega
  have q2 : (l ++ two v).length ≤ 1000 := by simp [two]; omega
  clear hi hz0 hz1 hz2 hlen HXL
  clear hl
  go_wp2_with fail
  refine wp_region_held_drew (S := fun W => Sl W A4 n4 c4 (l ++ (two v ++ four u)) ∧ Sl W A6 n c6 l ∧ Sl W A n c l) (by kernel_rfl) ⟨hx6.drew, hy.drew, hl6.drew⟩ (fun hH => ?_)
  refine wpAnyH_take (i := 0) (v := ?_) rfl (by kernel_rfl) (by kernel_rfl) (by kernel_rfl) (fun _ _ _ h => h) (Or.inl ⟨by rfl, ?_⟩) hH ?_
  rotate_left
  · ((intro w hw; clear hw; go_simp) <;> with_reducible rfl)
  simp only [Act.put, List.getElem_toArray, List.getElem_cons_zero, List.setIfInBounds_toArray, List.set_cons_zero, List.set_cons_succ]
  refine wpAnyH_take (i := 1) (v := .string ⟨(l ++ (two v ++ four u)).toArray⟩) rfl (by kernel_rfl) (by kernel_rfl) (by kernel_rfl) (fun _ _ _ h => h) (Or.inl ⟨by rfl, fun W hW => exec_convert rfl rfl (hW.1.str 25 5 9 Try.underlying25 Try.underlying5 Try.underlying9)⟩) hH ?_
  simp only [Act.put, List.getElem_toArray, List.getElem_cons_zero, List.getElem_cons_succ, List.setIfInBounds_toArray, List.set_cons_zero, List.set_cons_succ]
  refine wpAnyH_take (i := 2) (v := ?_) rfl (by kernel_rfl) (by kernel_rfl) (by kernel_rfl) (fun _ _ _ h => h) (Or.inl ⟨by rfl, ?_⟩) hH ?_
  rotate_left
  · ((intro w hw; clear hw; go_simp) <;> with_reducible rfl)
  simp only [Act.put, List.getElem_toArray, List.getElem_cons_zero, List.getElem_cons_succ, List.setIfInBounds_toArray, List.set_cons_zero, List.set_cons_succ]
  refine wpAnyH_take (i := 3) (v := ?_) rfl (by kernel_rfl) (by kernel_rfl) (by kernel_rfl) (fun _ _ _ h => h) (Or.inl ⟨by rfl, ?_⟩) hH ?_
  rotate_left
  · ((intro w hw; clear hw; go_simp) <;> with_reducible rfl)
  simp only [Act.put, List.getElem_toArray, List.getElem_cons_zero, List.getElem_cons_succ, List.setIfInBounds_toArray, List.set_cons_zero, List.set_cons_succ]
  refine wpAnyH_take (i := 5) (v := ?_) rfl (by kernel_rfl) (by kernel_rfl) (by kernel_rfl) (fun _ _ _ h => h) (Or.inl ⟨by rfl, ?_⟩) hH ?_
  rotate_left
  · ((intro w hw; clear hw; go_simp) <;> with_reducible rfl)
  simp only [Act.put, List.getElem_toArray, List.getElem_cons_zero, List.getElem_cons_succ, List.setIfInBounds_toArray, List.set_cons_zero, List.set_cons_succ]
  refine wpAnyH_ready (rs := [4]) (by kernel_rfl) (by simp) ?_
  refine AllReadyH.cons (o := _) rfl (fun K hK => ?_) AllReadyH.nil
  simp only [List.getElem_toArray, List.getElem_cons_zero, List.getElem_cons_succ]
  go_simp
  refine (ref16_some A n c l v _ hl6.drew q1).mono ?_
  rintro e w7 ⟨A7, n7, c7, rfl, h7, bel7⟩
  dsimp only
  have hr7 := hr6.drew.below bel7
  have bel7a := bel6.drew.trans (bel7.mono bel6.size)
  refine hK.out _ _ ⟨hH.1.below bel7, hH.2.1.below bel7, hH.2.2.below bel7⟩ (fun hH7 => ?_)
  clear hK K hH hr6 bel6 hx6 hy hl6 bel7
  refine wpAnyH_ready (rs := [6]) (by kernel_rfl) (by simp) ?_
  refine AllReadyH.cons (o := _) rfl (fun K hK => ?_) AllReadyH.nil
  simp only [List.getElem_toArray, List.getElem_cons_zero, List.getElem_cons_succ]
  go_simp
  refine (ref32_some A7 n7 c7 _ u _ u0 u1 h7 q2).mono ?_
  rintro e w8 ⟨A8, n8, c8, rfl, h8, bel8⟩
  dsimp only
  rw [List.append_assoc] at h8
  have hr8 := hr7.below bel8
  have bel8a := bel7a.trans (bel8.mono bel7a.size)
  refine hK.out _ _ ⟨hH7.1.below bel8, hH7.2.1.below bel8, hH7.2.2.below bel8⟩ (fun hH0 => ?_)
  refine wpAnyH_grow (S' := fun W => (Sl W A4 n4 c4 (l ++ (two v ++ four u)) ∧ Sl W A6 n c6 l ∧ Sl W A n c l) ∧ Sl W A8 n8 c8 (l ++ (two v ++ four u))) (fun W h => h.1) ?_
  have hH8 := And.intro hH0 h8
  clear hK K hH7 hr7 bel7a bel8 h7 hH0 h8
  refine wpAnyH_take (i := 7) (v := .string ⟨(l ++ (two v ++ four u)).toArray⟩) rfl (by kernel_rfl) (by kernel_rfl) (by kernel_rfl) (fun _ _ _ h => h) (Or.inl ⟨by rfl, fun W hW => exec_convert rfl rfl (hW.2.str 25 5 9 Try.underlying25 Try.underlying5 Try.underlying9)⟩) hH8 ?_
  simp only [Act.put, List.getElem_toArray, List.getElem_cons_zero, List.getElem_cons_succ, List.setIfInBounds_toArray, List.set_cons_zero, List.set_cons_succ]
  refine wpAnyH_take (i := 8) (v := ?_) rfl (by kernel_rfl) (by kernel_rfl) (by kernel_rfl) (fun _ _ _ h => h) (Or.inl ⟨by rfl, ?_⟩) hH8 ?_
  rotate_left
  · ((intro w hw; clear hw; go_simp) <;> with_reducible rfl)
  simp only [Act.put, List.getElem_toArray, List.getElem_cons_zero, List.getElem_cons_succ, List.setIfInBounds_toArray, List.set_cons_zero, List.set_cons_succ]
  refine wpAnyH_take (i := 9) (v := ?_) rfl (by kernel_rfl) (by kernel_rfl) (by kernel_rfl) (fun _ _ _ h => h) (Or.inl ⟨by rfl, ?_⟩) hH8 ?_
  rotate_left
  · ((intro w hw; clear hw; go_simp) <;> with_reducible rfl)
  simp only [Act.put, List.getElem_toArray, List.getElem_cons_zero, List.getElem_cons_succ, List.setIfInBounds_toArray, List.set_cons_zero, List.set_cons_succ]
  refine wpAnyH_take (i := 10) (v := ?_) rfl (by kernel_rfl) (by kernel_rfl) (by kernel_rfl) (fun _ _ _ h => h) (Or.inl ⟨by rfl, ?_⟩) hH8 ?_
  rotate_left
  · ((intro w hw; clear hw; go_simp) <;> with_reducible rfl)
  simp only [Act.put, List.getElem_toArray, List.getElem_cons_zero, List.getElem_cons_succ, List.setIfInBounds_toArray, List.set_cons_zero, List.set_cons_succ]
  refine wpAnyH_take (i := 12) (v := ?_) rfl (by kernel_rfl) (by kernel_rfl) (by kernel_rfl) (fun _ _ _ h => h) (Or.inl ⟨by rfl, ?_⟩) hH8 ?_
  rotate_left
  · ((intro w hw; clear hw; go_simp) <;> with_reducible rfl)
  simp only [Act.put, List.getElem_toArray, List.getElem_cons_zero, List.getElem_cons_succ, List.setIfInBounds_toArray, List.set_cons_zero, List.set_cons_succ]
  refine wpAnyH_take (i := 11) (v := .string ⟨l.toArray⟩) rfl (by kernel_rfl) (by kernel_rfl) (by kernel_rfl) (fun _ _ _ h => h) (Or.inl ⟨by rfl, fun W hW => exec_convert rfl rfl (hW.1.2.1.str 25 5 9 Try.underlying25 Try.underlying5 Try.underlying9)⟩) hH8 ?_
  simp only [Act.put, List.getElem_toArray, List.getElem_cons_zero, List.getElem_cons_succ, List.setIfInBounds_toArray, List.set_cons_zero, List.set_cons_succ]
  refine wpAnyH_take (i := 13) (v := .string ⟨l.toArray⟩) rfl (by kernel_rfl) (by kernel_rfl) (by kernel_rfl) (fun _ _ _ h => h) (Or.inl ⟨by rfl, fun W hW => exec_convert rfl rfl (hW.1.2.2.str 25 5 9 Try.underlying25 Try.underlying5 Try.underlying9)⟩) hH8 ?_
  simp only [Act.put, List.getElem_toArray, List.getElem_cons_zero, List.getElem_cons_succ, List.setIfInBounds_toArray, List.set_cons_zero, List.set_cons_succ]
  refine wpAnyH_take (i := 14) (v := ?_) rfl (by kernel_rfl) (by kernel_rfl) (by kernel_rfl) (fun _ _ _ h => h) (Or.inl ⟨by rfl, ?_⟩) hH8 ?_
  rotate_left
  · ((intro w hw; clear hw; go_simp) <;> with_reducible rfl)
  simp only [Act.put, List.getElem_toArray, List.getElem_cons_zero, List.getElem_cons_succ, List.setIfInBounds_toArray, List.set_cons_zero, List.set_cons_succ]
  refine wpAnyH_take (i := 15) (v := ?_) rfl (by kernel_rfl) (by kernel_rfl) (by kernel_rfl) (fun _ _ _ h => h) (Or.inl ⟨by rfl, ?_⟩) hH8 ?_
  rotate_left
  · ((intro w hw; clear hw; go_simp) <;> with_reducible rfl)
  simp only [Act.put, List.getElem_toArray, List.getElem_cons_zero, List.getElem_cons_succ, List.setIfInBounds_toArray, List.set_cons_zero, List.set_cons_succ]
  refine wpAnyH_take (i := 16) (v := ?_) rfl (by kernel_rfl) (by kernel_rfl) (by kernel_rfl) (fun _ _ _ h => h) (Or.inl ⟨by rfl, ?_⟩) hH8 ?_
  rotate_left
  · ((intro w hw; clear hw; go_simp) <;> with_reducible rfl)
  simp only [Act.put, List.getElem_toArray, List.getElem_cons_zero, List.getElem_cons_succ, List.setIfInBounds_toArray, List.set_cons_zero, List.set_cons_succ]
  refine wpAnyH_take (i := 17) (v := ?_) rfl (by kernel_rfl) (by kernel_rfl) (by kernel_rfl) (fun _ _ _ h => h) (Or.inl ⟨by rfl, ?_⟩) hH8 ?_
  rotate_left
  · ((intro w hw; clear hw; go_simp) <;> with_reducible rfl)
  simp only [Act.put, List.getElem_toArray, List.getElem_cons_zero, List.getElem_cons_succ, List.setIfInBounds_toArray, List.set_cons_zero, List.set_cons_succ]
  refine wpAnyH_take (i := 19) (v := ?_) rfl (by kernel_rfl) (by kernel_rfl) (by kernel_rfl) (fun _ _ _ h => h) (Or.inl ⟨by rfl, ?_⟩) hH8 ?_
  rotate_left
  · ((intro w hw; clear hw; go_simp) <;> with_reducible rfl)
  simp only [Act.put, List.getElem_toArray, List.getElem_cons_zero, List.getElem_cons_succ, List.setIfInBounds_toArray, List.set_cons_zero, List.set_cons_succ]
  refine wpAnyH_take (i := 20) (v := ?_) rfl (by kernel_rfl) (by kernel_rfl) (by kernel_rfl) (fun _ _ _ h => h) (Or.inl ⟨by rfl, ?_⟩) hH8 ?_
  rotate_left
  · ((intro w hw; clear hw; go_simp) <;> with_reducible rfl)
  simp only [Act.put, List.getElem_toArray, List.getElem_cons_zero, List.getElem_cons_succ, List.setIfInBounds_toArray, List.set_cons_zero, List.set_cons_succ]
  refine wpAnyH_ready (rs := [18]) (by kernel_rfl) (by simp) ?_
  refine AllReadyH.cons (o := _) rfl (fun K hK => ?_) AllReadyH.nil
  simp only [List.getElem_toArray, List.getElem_cons_zero, List.getElem_cons_succ]
  go_simp
  refine (back16 g v (four u) _ hr8).mono ?_
  rintro e w9 ⟨rfl, hr9, hg9⟩
  dsimp only
  have bel9a : Below w.heap.size w w9 := bel8a.grown hg9 bel8a.size (fun k h => by cases h; exact hgw)
  refine hK.out _ _ ⟨⟨hH8.1.1.far hr8 hg9, hH8.1.2.1.far hr8 hg9, hH8.1.2.2.far hr8 hg9⟩, hH8.2.far hr8 hg9⟩ (fun hH9 => ?_)
  clear hK K hH8 hr8 hg9 bel8a
  refine wpAnyH_take (i := 21) (v := ?_) rfl (by kernel_rfl) (by kernel_rfl) (by kernel_rfl) (fun _ _ _ h => h) (Or.inl ⟨by rfl, ?_⟩) hH9 ?_
  rotate_left
  · ((intro w hw; clear hw; go_simp) <;> with_reducible rfl)
  simp only [Act.put, List.getElem_toArray, List.getElem_cons_zero, List.getElem_cons_succ, List.setIfInBounds_toArray, List.set_cons_zero, List.set_cons_succ]
  refine wpAnyH_take (i := 22) (v := ?_) rfl (by kernel_rfl) (by kernel_rfl) (by kernel_rfl) (fun _ _ _ h => h) (Or.inl ⟨by rfl, ?_⟩) hH9 ?_
  rotate_left
  · ((intro w hw; clear hw; go_simp) <;> with_reducible rfl)
  simp only [Act.put, List.getElem_toArray, List.getElem_cons_zero, List.getElem_cons_succ, List.setIfInBounds_toArray, List.set_cons_zero, List.set_cons_succ]
  refine wpAnyH_take (i := 23) (v := ?_) rfl (by kernel_rfl) (by kernel_rfl) (by kernel_rfl) (fun _ _ _ h => h) (Or.inl ⟨by rfl, ?_⟩) hH9 ?_
  rotate_left
  · ((intro w hw; clear hw; go_simp) <;> with_reducible rfl)
  simp only [Act.put, List.getElem_toArray, List.getElem_cons_zero, List.getElem_cons_succ, List.setIfInBounds_toArray, List.set_cons_zero, List.set_cons_succ]
  refine wpAnyH_take (i := 24) (v := ?_) rfl (by kernel_rfl) (by kernel_rfl) (by kernel_rfl) (fun _ _ _ h => h) (Or.inl ⟨by rfl, ?_⟩) hH9 ?_
  rotate_left
  · ((intro w hw; clear hw; go_simp) <;> with_reducible rfl)
  simp only [Act.put, List.getElem_toArray, List.getElem_cons_zero, List.getElem_cons_succ, List.setIfInBounds_toArray, List.set_cons_zero, List.set_cons_succ]
  refine wpAnyH_take (i := 26) (v := ?_) rfl (by kernel_rfl) (by kernel_rfl) (by kernel_rfl) (fun _ _ _ h => h) (Or.inl ⟨by rfl, ?_⟩) hH9 ?_
  rotate_left
  · ((intro w hw; clear hw; go_simp) <;> with_reducible rfl)
  simp only [Act.put, List.getElem_toArray, List.getElem_cons_zero, List.getElem_cons_succ, List.setIfInBounds_toArray, List.set_cons_zero, List.set_cons_succ]
  refine wpAnyH_ready (rs := [25]) (by kernel_rfl) (by simp) ?_
  refine AllReadyH.cons (o := _) rfl (fun K hK => ?_) AllReadyH.nil
  simp only [List.getElem_toArray, List.getElem_cons_zero, List.getElem_cons_succ]
  go_simp
  refine (back32 g u _ u0 u1 hr9).mono ?_
  rintro e w10 ⟨rfl, hr10, hg10⟩
  dsimp only
  have bel10a : Below w.heap.size w w10 := bel9a.grown hg10 bel9a.size (fun k h => by cases h; exact hgw)
  refine hK.out _ _ ⟨⟨hH9.1.1.far hr9 hg10, hH9.1.2.1.far hr9 hg10, hH9.1.2.2.far hr9 hg10⟩, hH9.2.far hr9 hg10⟩ (fun hH10 => ?_)
  clear hK K hH9 hr9 hg10 bel9a
  refine wpAnyH_take (i := 27) (v := ?_) rfl (by kernel_rfl) (by kernel_rfl) (by kernel_rfl) (fun _ _ _ h => h) (Or.inl ⟨by rfl, ?_⟩) hH10 ?_
  rotate_left
  · ((intro w hw; clear hw; go_simp) <;> with_reducible rfl)
  simp only [Act.put, List.getElem_toArray, List.getElem_cons_zero, List.getElem_cons_succ, List.setIfInBounds_toArray, List.set_cons_zero, List.set_cons_succ]
  refine wpAnyH_take (i := 28) (v := ?_) rfl (by kernel_rfl) (by kernel_rfl) (by kernel_rfl) (fun _ _ _ h => h) (Or.inl ⟨by rfl, ?_⟩) hH10 ?_
  rotate_left
  · ((intro w hw; clear hw; go_simp) <;> with_reducible rfl)
  simp only [Act.put, List.getElem_toArray, List.getElem_cons_zero, List.getElem_cons_succ, List.setIfInBounds_toArray, List.set_cons_zero, List.set_cons_succ]
  refine wpAnyH_take (i := 29) (v := ?_) rfl (by kernel_rfl) (by kernel_rfl) (by kernel_rfl) (fun _ _ _ h => h) (Or.inl ⟨by rfl, ?_⟩) hH10 ?_
  rotate_left
  · ((intro w hw; clear hw; go_simp) <;> with_reducible rfl)
  simp only [Act.put, List.getElem_toArray, List.getElem_cons_zero, List.getElem_cons_succ, List.setIfInBounds_toArray, List.set_cons_zero, List.set_cons_succ]
  refine wpAnyH_take (i := 30) (v := ?_) rfl (by kernel_rfl) (by kernel_rfl) (by kernel_rfl) (fun _ _ _ h => h) (Or.inl ⟨by rfl, ?_⟩) hH10 ?_
  rotate_left
  · ((intro w hw; clear hw; go_simp) <;> with_reducible rfl)
  simp only [Act.put, List.getElem_toArray, List.getElem_cons_zero, List.getElem_cons_succ, List.setIfInBounds_toArray, List.set_cons_zero, List.set_cons_succ]
  refine wpAnyH_ready (rs := [31]) (by kernel_rfl) (by simp) ?_
  refine AllReadyH.cons (o := _) rfl (fun K hK => ?_) AllReadyH.nil
  simp only [List.getElem_toArray, List.getElem_cons_zero, List.getElem_cons_succ]
  go_simp
  refine (left_any g _ _ _ hr10).mono ?_
  rintro e w11 ⟨rfl, rfl⟩
  dsimp only
  refine hK.out _ _ hH10 (fun _ => ?_)
  clear hK K
  refine wpAnyH_take (i := 32) (v := ?_) rfl (by kernel_rfl) (by kernel_rfl) (by kernel_rfl) (fun _ _ _ h => h) (Or.inl ⟨by rfl, ?_⟩) hH10 ?_
  rotate_left
  · ((intro w hw; clear hw; go_simp) <;> with_reducible rfl)
  simp only [Act.put, List.getElem_toArray, List.getElem_cons_zero, List.getElem_cons_succ, List.setIfInBounds_toArray, List.set_cons_zero, List.set_cons_succ]
  refine wpAnyH_take (i := 33) (v := ?_) rfl (by kernel_rfl) (by kernel_rfl) (by kernel_rfl) (fun _ _ _ h => h) (Or.inl ⟨by rfl, ?_⟩) hH10 ?_
  rotate_left
  · ((intro w hw; clear hw; go_simp) <;> with_reducible rfl)
  simp only [Act.put, List.getElem_toArray, List.getElem_cons_zero, List.getElem_cons_succ, List.setIfInBounds_toArray, List.set_cons_zero, List.set_cons_succ]
  refine wpAnyH_take (i := 34) (v := ?_) rfl (by kernel_rfl) (by kernel_rfl) (by kernel_rfl) (fun _ _ _ h => h) (Or.inl ⟨by rfl, ?_⟩) hH10 ?_
  rotate_left
  · ((intro w hw; clear hw; go_simp) <;> with_reducible rfl)
  simp only [Act.put, List.getElem_toArray, List.getElem_cons_zero, List.getElem_cons_succ, List.setIfInBounds_toArray, List.set_cons_zero, List.set_cons_succ]
  refine wpAnyH_take (i := 35) (v := ?_) rfl (by kernel_rfl) (by kernel_rfl) (by kernel_rfl) (fun _ _ _ h => h) (Or.inl ⟨by rfl, ?_⟩) hH10 ?_
  rotate_left
  · ((intro w hw; clear hw; go_simp) <;> with_reducible rfl)
  simp only [Act.put, List.getElem_toArray, List.getElem_cons_zero, List.getElem_cons_succ, List.setIfInBounds_toArray, List.set_cons_zero, List.set_cons_succ]
  refine wpAnyH_ready (rs := [36]) (by kernel_rfl) (by simp) ?_
  refine AllReadyH.cons (o := _) rfl (fun K hK => ?_) AllReadyH.nil
  simp only [List.getElem_toArray, List.getElem_cons_zero, List.getElem_cons_succ]
  go_simp
  refine (short_any g _ _ _ hr10).mono ?_
  rintro e w11 ⟨rfl, rfl⟩
  dsimp only
  refine hK.out _ _ hH10 (fun _ => ?_)
  clear hK K
  refine wpAnyH_take (i := 37) (v := ?_) rfl (by kernel_rfl) (by kernel_rfl) (by kernel_rfl) (fun _ _ _ h => h) (Or.inl ⟨by rfl, ?_⟩) hH10 ?_
  rotate_left
  · ((intro w hw; clear hw; go_simp) <;> with_reducible rfl)
  simp only [Act.put, List.getElem_toArray, List.getElem_cons_zero, List.getElem_cons_succ, List.setIfInBounds_toArray, List.set_cons_zero, List.set_cons_succ]
  refine wpAnyH_take (i := 38) (v := ?_) rfl (by kernel_rfl) (by kernel_rfl) (by kernel_rfl) (fun _ _ _ h => h) (Or.inl ⟨by rfl, ?_⟩) hH10 ?_
  rotate_left
  · ((intro w hw; clear hw; go_simp) <;> with_reducible rfl)
  simp only [Act.put, List.getElem_toArray, List.getElem_cons_zero, List.getElem_cons_succ, List.setIfInBounds_toArray, List.set_cons_zero, List.set_cons_succ]
  refine wpAnyH_take (i := 39) (v := ?_) rfl (by kernel_rfl) (by kernel_rfl) (by kernel_rfl) (fun _ _ _ h => h) (Or.inl ⟨by rfl, ?_⟩) hH10 ?_
  rotate_left
  · ((intro w hw; clear hw; go_simp) <;> with_reducible rfl)
  simp only [Act.put, List.getElem_toArray, List.getElem_cons_zero, List.getElem_cons_succ, List.setIfInBounds_toArray, List.set_cons_zero, List.set_cons_succ]
  refine wpAnyH_done (by kernel_rfl) ?_ _
  go_wp2
  go_ret
  exact ⟨rfl, bel10a⟩

end Go.Proofs.Ytafiegmmfmcedaa
