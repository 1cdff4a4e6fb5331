/- An append onto a row of the call's own beside blocks that are younger than the row: they stay, too. Laws of no program. -/
import Derived.Test.YtholgadifhjmgaaDoorVfs
import Derived.Test.YtholgadifhjmgaaDoorApp
namespace Go.Proofs.YtholgadifhjmgaaDoor
open Go.RowKit

theorem blk_own {w w' : World} {g : Nat} {x : Obj} {v : Value} (h : w.heap[g]? = some x) (hg : w.grownBy w' v.ownBlock) (o : Ofs v g) : w'.heap[g]? = some x := (hg.block g (hlt h) (fun e => o g e.symm rfl)).trans h
theorem own_av {w : World} {B : Nat} {e : TypeId} {A : Option Addr} {m c n g : Nat} {xs : List Value} (h : w.ownsRow B e 1 (.slice A m c) n xs) (o : Ofs (.slice A m c) g) : Av A n g := fun hn a p q e1 => by
  rcases h.2 with ⟨_, rfl⟩ | ⟨g', cap, cur, e2, _⟩
  · omega
  · injection e2 with e3 e4 e5
    rw [e3] at e1
    injection e1 with e1
    injection e1 with e6 e7 e8
    subst e6
    exact o g' (by rw [e3]; rfl)
theorem ofs_of {v v' : Value} {n : Nat} (h : v'.ownBlock = v.ownBlock ∨ v'.ownBlock = some n) : ∀ g, g < n → Ofs v g → Ofs v' g := fun g hg o g' e => by
  rcases h with h | h
  · exact o g' (h ▸ e)
  · rw [h] at e
    injection e with e
    omega
theorem wpList_append_bg {P : Program} (w : World) {ops : Array Oper} {rest : List Oper} {o : Oper} {a : Act} {Q : Exit → Act → World → Prop} (hgd : o.guard = none) (s x : Operand) (t : TypeId)
    (ho : o.op = .call { callee := .builtin .append, args := #[s, x], argTypes := #[t, t] })
    (base : Nat) (e : TypeId) (i : TypeInfo) (z : Value) (ht : P.underlying t = some (.slice e)) (hi : P.info? e = some i) (hz : i.zero = some z)
    (hsize : i.size = 1) (hby : i.bytes = 1) (hzs : z.cells.size = 1)
    (v : Value) (n : Nat) (l : List UInt8) (hs : a.eval s = v) (hown : w.ownsRow base e 1 v n (l.map u8v))
    (A : Option Addr) (m c : Nat) (l2 : List UInt8) (hx : a.eval x = .slice A m c) (hr : Sl w A m c l2)
    (h63 : n + m ≤ 140737488355328) (hbase : base ≤ w.heap.size)
    (h : ∀ v' w', w'.ownsRow base e 1 v' (n + m) ((l ++ l2).map u8v) → Below base w w' → w.grownBy w' v.ownBlock → (∀ g, g < w.heap.size → Ofs v g → Ofs v' g) → wpList P ops Q rest (a.put o.dst v') w') :
    wpList P ops Q (o :: rest) a w :=
  wpList_append_bytes w hgd s x t ho base e i z ht hi hz hsize hby hzs v n l hs hown A m c l2 hx hr h63 hbase
    (fun v' w' h1 h2 h3 => h v' w' h1 ((Below.refl base w).grown h2 hbase (fun k hk => (hown.lt k hk).1)) h2 (ofs_of h3))
theorem wp_append_bg {P : Program} {o : Oper} {a : Act} {w : World} {K : Act → World → Prop} {Q : Exit → Act → World → Prop} (s x : Operand) (t : TypeId)
    (ho : o.op = .call { callee := .builtin .append, args := #[s, x], argTypes := #[t, t] })
    (base : Nat) (e : TypeId) (i : TypeInfo) (z : Value) (ht : P.underlying t = some (.slice e)) (hi : P.info? e = some i) (hz : i.zero = some z)
    (hsize : i.size = 1) (hby : i.bytes = 1) (hzs : z.cells.size = 1)
    (v : Value) (n : Nat) (l : List UInt8) (hs : a.eval s = v) (hown : w.ownsRow base e 1 v n (l.map u8v))
    (A : Option Addr) (m c : Nat) (l2 : List UInt8) (hx : a.eval x = .slice A m c) (hr : Sl w A m c l2)
    (h63 : n + m ≤ 140737488355328) (hbase : base ≤ w.heap.size)
    (h : ∀ v' w', w'.ownsRow base e 1 v' (n + m) ((l ++ l2).map u8v) → Below base w w' → w.grownBy w' v.ownBlock → (∀ g, g < w.heap.size → Ofs v g → Ofs v' g) → K (a.put o.dst v') w') :
    Oper.wp P o a w K Q :=
  wp_append_bytes s x t ho base e i z ht hi hz hsize hby hzs v n l hs hown A m c l2 hx hr h63 hbase
    (fun v' w' h1 h2 h3 => h v' w' h1 ((Below.refl base w).grown h2 hbase (fun k hk => (hown.lt k hk).1)) h2 (ofs_of h3))
end Go.Proofs.YtholgadifhjmgaaDoor
