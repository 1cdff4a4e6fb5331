/- Slices of texts and of bools that came in, opened. -/
import Derived.Test.YtholgadifhjmgaaDoorSlo
import Derived.Test.YtholgadifhjmgaaDoorStr
namespace Go.Proofs.YtholgadifhjmgaaDoor
open Go.RowKit Go.ChangeShapes Go.WideShapes

def btf (b : Bool) : List Value := [.bool b]
theorem btf_len (x : Bool) : (btf x).length = 1 := rfl
theorem open_strs {H : Type} {enc : TypeId × Value → H} {W : World} {base : Nat} {held : Bool} {fuel : Nat} {cs : List Value} {x : DataW H × List MemPlace} (h : DataW.trod enc Tryd.prog W base (fun _ => true) held fuel 23 cs = some x) :
    ∃ (A : Option Addr) (n c : Nat) (l : List (List UInt8)), cs = [.slice A n c] ∧ Sle stf 1 W A n c l :=
  fld_sle Tryd.underlying23 (by kernel_rfl) (by decide) stf_len (fun n cs' y hy => by
    obtain ⟨s, e, _⟩ := DataW.trod_string Tryd.underlying9 hy
    exact ⟨s.data.toList, by rw [e]; simp [stf]⟩) h
theorem open_bools {H : Type} {enc : TypeId × Value → H} {W : World} {base : Nat} {held : Bool} {fuel : Nat} {cs : List Value} {x : DataW H × List MemPlace} (h : DataW.trod enc Tryd.prog W base (fun _ => true) held fuel 41 cs = some x) :
    ∃ (A : Option Addr) (n c : Nat) (l : List Bool), cs = [.slice A n c] ∧ Sle btf 1 W A n c l :=
  fld_sle Tryd.underlying41 (by kernel_rfl) (by decide) btf_len (fun n cs' y hy => by
    obtain ⟨b, e, _⟩ := DataW.trod_bool Tryd.underlying4 hy
    exact ⟨b, e⟩) h
end Go.Proofs.YtholgadifhjmgaaDoor
