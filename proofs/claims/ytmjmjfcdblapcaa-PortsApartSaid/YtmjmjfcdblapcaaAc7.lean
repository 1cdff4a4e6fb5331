/- A slice of asked calls that came in, opened. -/
import Derived.Test.YtmjmjfcdblapcaaSlo
import Derived.Test.YtmjmjfcdblapcaaLaw17a
namespace Go.Proofs.Ytmjmjfcdblapcaa
open Go.RowKit Go.ChangeShapes Go.WideShapes

theorem fld_struct17 {H : Type} {enc : TypeId × Value → H} {P : Program} {w : World} {base : Nat} {sp : Nat → Bool} {held : Bool} {fuel : Nat} {t : TypeId} {fs : Array Field} {cs : List Value} {x : DataW H × List MemPlace}
    (ht : P.underlying t = some (.struct fs)) (h : DataW.trod enc P w base sp held fuel t cs = some x) :
    cs.length = P.cellsOf t ∧ ∀ (i : Nat) (f : Field), fs[i]? = some f → ∃ y n, DataW.trod enc P w base sp held n f.type (List.take (P.cellsOf f.type) (List.drop f.offset cs)) = some y := by
  obtain ⟨ys, n, _, _, hl, hlen, hx⟩ := DataW.trod_struct ht h
  refine ⟨hl, fun i f hi => ?_⟩
  have h1 := hx i f hi
  have hi' : i < ys.length := by
    have := (Array.getElem?_eq_some_iff.1 hi).1
    omega
  rw [List.getElem?_eq_getElem hi'] at h1
  exact ⟨_, n, h1⟩
theorem el_mp {H : Type} {enc : TypeId × Value → H} {W : World} {base : Nat} {held : Bool} {n : Nat} {cs : List Value} {y : DataW H × List MemPlace} (h : DataW.trod enc Try.prog W base (fun _ => true) held n 31 cs = some y) : ∃ x : Mp, cs = mpE x := by
  obtain ⟨hlen, hf⟩ := fld_struct17 Try.underlying31 h
  replace hlen : cs.length = 9 := hlen.trans (by kernel_rfl)
  obtain ⟨y0, n0, g0⟩ := hf 0 _ rfl
  replace g0 : DataW.trod enc Try.prog W base (fun _ => true) held n0 3 (List.take (Try.prog.cellsOf 3) (List.drop 0 cs)) = some y0 := g0
  rw [show Try.prog.cellsOf 3 = 1 by kernel_rfl] at g0
  obtain ⟨x0, e0, _, _⟩ := DataW.trod_int Try.underlying3 g0
  have k0 : cs.drop 0 = [.int .i64 x0] ++ cs.drop 1 := by rw [← e0]; exact cut_list cs 0 1
  obtain ⟨y1, n1, g1⟩ := hf 1 _ rfl
  replace g1 : DataW.trod enc Try.prog W base (fun _ => true) held n1 3 (List.take (Try.prog.cellsOf 3) (List.drop 1 cs)) = some y1 := g1
  rw [show Try.prog.cellsOf 3 = 1 by kernel_rfl] at g1
  obtain ⟨x1, e1, _, _⟩ := DataW.trod_int Try.underlying3 g1
  have k1 : cs.drop 1 = [.int .i64 x1] ++ cs.drop 2 := by rw [← e1]; exact cut_list cs 1 1
  obtain ⟨y2, n2, g2⟩ := hf 2 _ rfl
  replace g2 : DataW.trod enc Try.prog W base (fun _ => true) held n2 28 (List.take (Try.prog.cellsOf 28) (List.drop 2 cs)) = some y2 := g2
  rw [show Try.prog.cellsOf 28 = 4 by kernel_rfl] at g2
  obtain ⟨l2, hl2, e2⟩ := cells_of_bytes Try.underlying28 Try.underlying5 (by kernel_rfl) (by kernel_rfl) g2
  obtain ⟨a2, b2, c2, d2, rfl⟩ := list4 l2 hl2
  have k2 : cs.drop 2 = ([a2, b2, c2, d2].map u8v) ++ cs.drop 6 := by rw [← e2]; exact cut_list cs 2 4
  obtain ⟨y3, n3, g3⟩ := hf 3 _ rfl
  replace g3 : DataW.trod enc Try.prog W base (fun _ => true) held n3 3 (List.take (Try.prog.cellsOf 3) (List.drop 6 cs)) = some y3 := g3
  rw [show Try.prog.cellsOf 3 = 1 by kernel_rfl] at g3
  obtain ⟨x3, e3, _, _⟩ := DataW.trod_int Try.underlying3 g3
  have k3 : cs.drop 6 = [.int .i64 x3] ++ cs.drop 7 := by rw [← e3]; exact cut_list cs 6 1
  obtain ⟨y4, n4, g4⟩ := hf 4 _ rfl
  replace g4 : DataW.trod enc Try.prog W base (fun _ => true) held n4 3 (List.take (Try.prog.cellsOf 3) (List.drop 7 cs)) = some y4 := g4
  rw [show Try.prog.cellsOf 3 = 1 by kernel_rfl] at g4
  obtain ⟨x4, e4, _, _⟩ := DataW.trod_int Try.underlying3 g4
  have k4 : cs.drop 7 = [.int .i64 x4] ++ cs.drop 8 := by rw [← e4]; exact cut_list cs 7 1
  obtain ⟨y5, n5, g5⟩ := hf 5 _ rfl
  replace g5 : DataW.trod enc Try.prog W base (fun _ => true) held n5 2 (List.take (Try.prog.cellsOf 2) (List.drop 8 cs)) = some y5 := g5
  rw [show Try.prog.cellsOf 2 = 1 by kernel_rfl] at g5
  obtain ⟨x5, e5, _, _⟩ := DataW.trod_int Try.underlying2 g5
  have k5 : cs.drop 8 = [.int .i64 x5] ++ cs.drop 9 := by rw [← e5]; exact cut_list cs 8 1
  have kz : cs.drop 9 = [] := List.drop_eq_nil_of_le (by omega)
  have hcs : cs = [.int .i64 x0] ++ ([.int .i64 x1] ++ (([a2, b2, c2, d2].map u8v) ++ ([.int .i64 x3] ++ ([.int .i64 x4] ++ ([.int .i64 x5] ++ []))))) := by
    have h0 : cs = cs.drop 0 := rfl
    rw [h0, k0, k1, k2, k3, k4, k5, kz]
  subst hcs
  exact ⟨⟨x0, x1, ⟨a2, b2, c2, d2⟩, x3, x4, x5⟩, rfl⟩
def flE (p : Int) (a : Ad4) (q : Int) : List Value := [.int .i64 p, .int .u8 (a.a.toNat : Int), .int .u8 (a.b.toNat : Int), .int .u8 (a.c.toNat : Int), .int .u8 (a.d.toNat : Int), .int .i64 q]
theorem el_fl {H : Type} {enc : TypeId × Value → H} {W : World} {base : Nat} {held : Bool} {n : Nat} {cs : List Value} {y : DataW H × List MemPlace} (h : DataW.trod enc Try.prog W base (fun _ => true) held n 36 cs = some y) : ∃ (p : Int) (a : Ad4) (q : Int), cs = flE p a q := by
  obtain ⟨hlen, hf⟩ := fld_struct17 Try.underlying36 h
  replace hlen : cs.length = 6 := hlen.trans (by kernel_rfl)
  obtain ⟨y0, n0, g0⟩ := hf 0 _ rfl
  replace g0 : DataW.trod enc Try.prog W base (fun _ => true) held n0 3 (List.take (Try.prog.cellsOf 3) (List.drop 0 cs)) = some y0 := g0
  rw [show Try.prog.cellsOf 3 = 1 by kernel_rfl] at g0
  obtain ⟨x0, e0, _, _⟩ := DataW.trod_int Try.underlying3 g0
  have k0 : cs.drop 0 = [.int .i64 x0] ++ cs.drop 1 := by rw [← e0]; exact cut_list cs 0 1
  obtain ⟨y1, n1, g1⟩ := hf 1 _ rfl
  replace g1 : DataW.trod enc Try.prog W base (fun _ => true) held n1 28 (List.take (Try.prog.cellsOf 28) (List.drop 1 cs)) = some y1 := g1
  rw [show Try.prog.cellsOf 28 = 4 by kernel_rfl] at g1
  obtain ⟨l1, hl1, e1⟩ := cells_of_bytes Try.underlying28 Try.underlying5 (by kernel_rfl) (by kernel_rfl) g1
  obtain ⟨a1, b1, c1, d1, rfl⟩ := list4 l1 hl1
  have k1 : cs.drop 1 = ([a1, b1, c1, d1].map u8v) ++ cs.drop 5 := by rw [← e1]; exact cut_list cs 1 4
  obtain ⟨y2, n2, g2⟩ := hf 2 _ rfl
  replace g2 : DataW.trod enc Try.prog W base (fun _ => true) held n2 3 (List.take (Try.prog.cellsOf 3) (List.drop 5 cs)) = some y2 := g2
  rw [show Try.prog.cellsOf 3 = 1 by kernel_rfl] at g2
  obtain ⟨x2, e2, _, _⟩ := DataW.trod_int Try.underlying3 g2
  have k2 : cs.drop 5 = [.int .i64 x2] ++ cs.drop 6 := by rw [← e2]; exact cut_list cs 5 1
  have kz : cs.drop 6 = [] := List.drop_eq_nil_of_le (by omega)
  have hcs : cs = [.int .i64 x0] ++ (([a1, b1, c1, d1].map u8v) ++ ([.int .i64 x2] ++ [])) := by
    have h0 : cs = cs.drop 0 := rfl
    rw [h0, k0, k1, k2, kz]
  subst hcs
  exact ⟨x0, ⟨a1, b1, c1, d1⟩, x2, rfl⟩
theorem el_act {H : Type} {enc : TypeId × Value → H} {W : World} {base : Nat} {held : Bool} {n : Nat} {cs : List Value} {y : DataW H × List MemPlace} (h : DataW.trod enc Try.prog W base (fun _ => true) held n 44 cs = some y) : ∃ x : Ac, cs = acE x := by
  obtain ⟨hlen, hf⟩ := fld_struct17 Try.underlying44 h
  replace hlen : cs.length = 18 := hlen.trans (by kernel_rfl)
  obtain ⟨y0, n0, g0⟩ := hf 0 _ rfl
  replace g0 : DataW.trod enc Try.prog W base (fun _ => true) held n0 3 (List.take (Try.prog.cellsOf 3) (List.drop 0 cs)) = some y0 := g0
  rw [show Try.prog.cellsOf 3 = 1 by kernel_rfl] at g0
  obtain ⟨x0, e0, _, _⟩ := DataW.trod_int Try.underlying3 g0
  have k0 : cs.drop 0 = [.int .i64 x0] ++ cs.drop 1 := by rw [← e0]; exact cut_list cs 0 1
  obtain ⟨y1, n1, g1⟩ := hf 1 _ rfl
  replace g1 : DataW.trod enc Try.prog W base (fun _ => true) held n1 31 (List.take (Try.prog.cellsOf 31) (List.drop 1 cs)) = some y1 := g1
  rw [show Try.prog.cellsOf 31 = 9 by kernel_rfl] at g1
  obtain ⟨x1, e1⟩ := el_mp g1
  have k1 : cs.drop 1 = mpE x1 ++ cs.drop 10 := by rw [← e1]; exact cut_list cs 1 9
  obtain ⟨y2, n2, g2⟩ := hf 2 _ rfl
  replace g2 : DataW.trod enc Try.prog W base (fun _ => true) held n2 36 (List.take (Try.prog.cellsOf 36) (List.drop 10 cs)) = some y2 := g2
  rw [show Try.prog.cellsOf 36 = 6 by kernel_rfl] at g2
  obtain ⟨p2, a2, q2, e2⟩ := el_fl g2
  have k2 : cs.drop 10 = flE p2 a2 q2 ++ cs.drop 16 := by rw [← e2]; exact cut_list cs 10 6
  obtain ⟨y3, n3, g3⟩ := hf 3 _ rfl
  replace g3 : DataW.trod enc Try.prog W base (fun _ => true) held n3 2 (List.take (Try.prog.cellsOf 2) (List.drop 16 cs)) = some y3 := g3
  rw [show Try.prog.cellsOf 2 = 1 by kernel_rfl] at g3
  obtain ⟨x3, e3, _, _⟩ := DataW.trod_int Try.underlying2 g3
  have k3 : cs.drop 16 = [.int .i64 x3] ++ cs.drop 17 := by rw [← e3]; exact cut_list cs 16 1
  obtain ⟨y4, n4, g4⟩ := hf 4 _ rfl
  replace g4 : DataW.trod enc Try.prog W base (fun _ => true) held n4 2 (List.take (Try.prog.cellsOf 2) (List.drop 17 cs)) = some y4 := g4
  rw [show Try.prog.cellsOf 2 = 1 by kernel_rfl] at g4
  obtain ⟨x4, e4, _, _⟩ := DataW.trod_int Try.underlying2 g4
  have k4 : cs.drop 17 = [.int .i64 x4] ++ cs.drop 18 := by rw [← e4]; exact cut_list cs 17 1
  have kz : cs.drop 18 = [] := List.drop_eq_nil_of_le (by omega)
  have hcs : cs = [.int .i64 x0] ++ (mpE x1 ++ (flE p2 a2 q2 ++ ([.int .i64 x3] ++ ([.int .i64 x4] ++ [])))) := by
    have h0 : cs = cs.drop 0 := rfl
    rw [h0, k0, k1, k2, k3, k4, kz]
  subst hcs
  exact ⟨⟨x0, x1, p2, a2, q2, x3, x4⟩, rfl⟩
theorem open_acts {H : Type} {enc : TypeId × Value → H} {W : World} {base : Nat} {held : Bool} {fuel : Nat} {cs : List Value} {x : DataW H × List MemPlace} (h : DataW.trod enc Try.prog W base (fun _ => true) held fuel 42 cs = some x) :
    ∃ (A : Option Addr) (n c : Nat) (L : List Ac), cs = [.slice A n c] ∧ Sle acE 18 W A n c L :=
  fld_sle (f := acE) (k := 18) Try.underlying42 (by kernel_rfl) (by decide) acE_len (fun n cs' y hy => el_act hy) h
end Go.Proofs.Ytmjmjfcdblapcaa
