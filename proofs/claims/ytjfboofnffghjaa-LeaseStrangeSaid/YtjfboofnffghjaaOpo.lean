/- A slice of options that came in, opened. -/
import Derived.Test.YtjfboofnffghjaaSlo
import Derived.Test.YtjfboofnffghjaaOp0
namespace Go.Proofs.Ytjfboofnffghjaa
open Go.RowKit Go.ChangeShapes Go.WideShapes

theorem fld_struct12 {H : Type} {enc : TypeId × Value → H} {P : Program} {w : World} {base : Nat} {sp : Nat → Bool} {held : Bool} {fuel : Nat} {t : TypeId} {fs : Array Field} {cs : List Value} {x : DataW H × List MemPlace}
    (ht : P.underlying t = some (.struct fs)) (h : DataW.trod enc P w base sp held fuel t cs = some x) :
    cs.length = P.cellsOf t ∧ ∀ (i : Nat) (f : Field), fs[i]? = some f → ∃ y n, DataW.trod enc P w base sp held n f.type (List.take (P.cellsOf f.type) (List.drop f.offset cs)) = some y := by
  obtain ⟨ys, n, _, _, hl, hlen, hx⟩ := DataW.trod_struct ht h
  refine ⟨hl, fun i f hi => ?_⟩
  have h1 := hx i f hi
  have hi' : i < ys.length := by
    have := (Array.getElem?_eq_some_iff.1 hi).1
    omega
  rw [List.getElem?_eq_getElem hi'] at h1
  exact ⟨_, n, h1⟩
theorem el_opt {H : Type} {enc : TypeId × Value → H} {W : World} {base : Nat} {held : Bool} {n : Nat} {cs : List Value} {y : DataW H × List MemPlace} (h : DataW.trod enc Try.prog W base (fun _ => true) held n 59 cs = some y) : ∃ x : { x : Oh // ∃ l, Sl W x.A x.n x.cp l }, cs = opE x.1 := by
  obtain ⟨hlen, hf⟩ := fld_struct12 Try.underlying59 h
  replace hlen : cs.length = 2 := hlen.trans (by kernel_rfl)
  obtain ⟨y0, n0, g0⟩ := hf 0 _ rfl
  replace g0 : DataW.trod enc Try.prog W base (fun _ => true) held n0 3 (List.take (Try.prog.cellsOf 3) (List.drop 0 cs)) = some y0 := g0
  rw [show Try.prog.cellsOf 3 = 1 by kernel_rfl] at g0
  obtain ⟨x0, e0, _, _⟩ := DataW.trod_int Try.underlying3 g0
  have k0 : cs.drop 0 = [.int .i64 x0] ++ cs.drop 1 := by rw [← e0]; exact cut_list cs 0 1
  obtain ⟨y1, n1, g1⟩ := hf 1 _ rfl
  replace g1 : DataW.trod enc Try.prog W base (fun _ => true) held n1 57 (List.take (Try.prog.cellsOf 57) (List.drop 1 cs)) = some y1 := g1
  rw [show Try.prog.cellsOf 57 = 1 by kernel_rfl] at g1
  obtain ⟨A, m, c, l, e1, hs⟩ := fld_slice Try.underlying57 Try.underlying5 (by kernel_rfl) g1
  have k1 : cs.drop 1 = [.slice A m c] ++ cs.drop 2 := by rw [← e1]; exact cut_list cs 1 1
  have kz : cs.drop 2 = [] := List.drop_eq_nil_of_le (by omega)
  have hcs : cs = [.int .i64 x0] ++ ([.slice A m c] ++ []) := by
    have h0 : cs = cs.drop 0 := rfl
    rw [h0, k0, k1, kz]
  subst hcs
  exact ⟨⟨⟨x0, A, m, c⟩, l, hs⟩, rfl⟩
theorem bd_of {w : World} : ∀ (hs : List { x : Oh // ∃ l, Sl w x.A x.n x.cp l }), ∃ L, Bd w (hs.map (·.1)) L
  | [] => ⟨[], Bd.nil w⟩
  | ⟨x, l, hx⟩ :: hs => by
    obtain ⟨L, h1, h2⟩ := bd_of hs
    refine ⟨(x.c, l) :: L, by simpa using h1, fun i y p hy hp => ?_⟩
    cases i with
    | zero =>
      simp only [List.map_cons, List.getElem?_cons_zero, Option.some.injEq] at hy hp
      subst hy; subst hp
      exact ⟨rfl, hx⟩
    | succ i => exact h2 i y p (by simpa using hy) (by simpa using hp)
theorem open_opts {H : Type} {enc : TypeId × Value → H} {W : World} {base : Nat} {held : Bool} {fuel : Nat} {cs : List Value} {x : DataW H × List MemPlace} (h : DataW.trod enc Try.prog W base (fun _ => true) held fuel 35 cs = some x) :
    ∃ (A : Option Addr) (n c : Nat) (hs : List Oh) (L : OptL), cs = [.slice A n c] ∧ Sle opE 2 W A n c hs ∧ Bd W hs L := by
  obtain ⟨A, n, c, l, hcs, h1, h2, h3, h4, _⟩ := fld_sle (f := fun (x : { x : Oh // ∃ l, Sl W x.A x.n x.cp l }) => opE x.1) (k := 2) Try.underlying35 (by kernel_rfl) (by decide) (fun x => rfl) (fun n cs' y hy => el_opt hy) h
  obtain ⟨L, hL⟩ := bd_of l
  refine ⟨A, n, c, l.map (·.1), L, hcs, ⟨by simpa using h1, h2, h3, fun hn => ?_, by decide, opE_len⟩, hL⟩
  obtain ⟨g, o, e, hc⟩ := h4 hn
  refine ⟨g, o, e, fun j v hj => hc j v ?_⟩
  rw [List.flatMap_map] at hj
  exact hj
end Go.Proofs.Ytjfboofnffghjaa
