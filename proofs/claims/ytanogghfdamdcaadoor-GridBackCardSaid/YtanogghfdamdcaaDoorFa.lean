/-
  Rows of bools and of numbers that are handed in, as cells that are only read. No condition: each theorem states its own.
-/
import Derived.Test.YtanogghfdamdcaaDoorFv
import Derived.Deep.Grids
import Derived.SizedLaws
import Derived.ChangeSlices
import Derived.ChangeMaps5
set_option linter.unusedSimpArgs false
set_option linter.unusedVariables false
namespace Go.Fw
open Go Go.RowKit Go.ChangeShapes Go.WideShapes Go.Deep

/-- A slice that came in, as a name's cells, only to be read. -/
def ArgAt (w : World) (v : Value) (n cap : Nat) (c : Cont) (p : Nat × Nat) : Prop :=
  ∀ (ρ : Plc) (k : Nat), k < ρ.length → pl ρ k = p → Den ρ (.slice k 0 n cap) v ∧ CellsAt ρ w k false c.avl

section
variable {H : Type} {enc : TypeId × Value → H} {P : Program} {w : World} {base : Nat} {held : Bool}

/-- The same, packages' variables among them. -/
theorem heap_argsG {w : World} {L : Nat → Prop} {ρ : Plc} {H : List Seg} (hn : ρ.length = H.length) (h : ∀ n s, H[n]? = some s → (∃ c, s = .seg false c ∧ CellsAt ρ w n false c.avl) ∨ ∃ g c, s = .glob g c ∧ pl ρ n = (g, 0) ∧ CellsAt ρ w n false c.avl) : HeapOk w.heap.size L ρ H w := by
  refine ⟨hn, fun n s hs => ?_, fun n s hs ho => ?_, fun n m s t _ hs _ ho => ?_⟩
  · rcases h n s hs with ⟨c, rfl, hc⟩ | ⟨g, c, rfl, hc⟩ <;> exact hc
  · rcases h n s hs with ⟨c, rfl, _⟩ | ⟨g, c, rfl, _⟩ <;> simp [Seg.isOwn] at ho
  · rcases h n s hs with ⟨c, rfl, _⟩ | ⟨g, c, rfl, _⟩ <;> simp [Seg.isOwn] at ho
end
end Go.Fw

namespace Go.Fw
open Go Go.RowKit Go.ChangeShapes Go.WideShapes Go.Deep

/-- What a cell of an argument is: a number, a bool, a float, a text; a row (its element's bytes, its element's cells). -/
inductive Sh where
  | int (k : IntKind) | bool | flt (k : FloatKind) | str
  | row (bytes : Nat) (es : List Sh)

mutual
def LeafIs (w : World) : Sh → Value → Prop
  | .int k, v => ∃ n, v = .int k n ∧ (Lit.int k n).wf = true
  | .bool, v => ∃ b, v = .bool b
  | .flt k, v => ∃ b, v = .float k b ∧ (Lit.float k b).wf = true
  | .str, v => ∃ s : ByteArray, v = .string s ∧ s.size ≤ reachBytes
  | .row by_ es, v => v = .slice none 0 0 ∨ ∃ (a : Addr) (len cap : Nat), v = .slice (some a) len cap ∧ len ≤ cap ∧ cap * by_ ≤ reachBytes ∧
      ∀ i, i < cap → ∃ cs : List Value, (∀ j c, cs[j]? = some c → w.cell? ((a.add (i * es.length)).add j) = some c) ∧ LeafsAre w es cs
def LeafsAre (w : World) : List Sh → List Value → Prop
  | [], cs => cs = []
  | s :: r, cs => ∃ c t, cs = c :: t ∧ LeafIs w s c ∧ LeafsAre w r t
end

theorem LeafsAre.len {w : World} : ∀ {ss : List Sh} {cs : List Value}, LeafsAre w ss cs → ss.length = cs.length
  | [], _, h => by simp only [LeafsAre] at h; subst h; rfl
  | s :: r, cs, h => by
    simp only [LeafsAre] at h
    obtain ⟨c, t, rfl, _, h2⟩ := h
    simp [LeafsAre.len h2]
theorem LeafsAre.app {w : World} : ∀ {ss tt : List Sh} {cs ds : List Value}, LeafsAre w ss cs → LeafsAre w tt ds → LeafsAre w (ss ++ tt) (cs ++ ds)
  | [], tt, cs, ds, h, h2 => by simp only [LeafsAre] at h; subst h; simpa using h2
  | s :: r, tt, cs, ds, h, h2 => by
    simp only [LeafsAre] at h
    obtain ⟨c, t, rfl, h1, h3⟩ := h
    exact ⟨c, t ++ ds, rfl, h1, LeafsAre.app h3 h2⟩

section
variable {H : Type} {enc : TypeId × Value → H} {P : Program} {w : World} {base : Nat} {held : Bool}

/-- A cell of no row, as an abstract value. -/
def AvIs : Sh → AV → Prop
  | .int k, x => ∃ n, x = .int k n ∧ (Lit.int k n).wf = true
  | .bool, x => ∃ b, x = .bool b
  | .flt k, x => ∃ b, x = .flt k b ∧ (Lit.float k b).wf = true
  | .str, x => ∃ s : ByteArray, x = .str s ∧ s.size ≤ reachBytes
  | .row _ _, _ => False
def AvsAre : List Sh → List AV → Prop
  | [], xs => xs = []
  | s :: r, xs => ∃ x t, xs = x :: t ∧ AvIs s x ∧ AvsAre r t
theorem AvsAre.len : ∀ {ss : List Sh} {cs : List AV}, AvsAre ss cs → ss.length = cs.length
  | [], _, h => by simp only [AvsAre] at h; subst h; rfl
  | s :: r, cs, h => by
    simp only [AvsAre] at h
    obtain ⟨c, t, rfl, _, h2⟩ := h
    simp [AvsAre.len h2]
theorem ArgAt.recont {v : Value} {n cap : Nat} {c c' : Cont} {p : Nat × Nat} (h : ArgAt w v n cap c p) (e : c'.avl = c.avl) : ArgAt w v n cap c' p := fun ρ k hk hp => ⟨(h ρ k hk hp).1, by rw [e]; exact (h ρ k hk hp).2⟩
end
end Go.Fw

namespace Go.Fw
open Go Go.RowKit Go.ChangeShapes Go.WideShapes Go.Deep

/-- A measure of data: so many values and letters. -/
structure BulkLike {H : Type} (B : DataW H → Nat) (BA : List (DataW H) → Nat) : Prop where
  nil : BA [] = 0
  cons : ∀ d r, BA (d :: r) = B d + BA r
  slice : ∀ e s, B (.slice e s) = BA e + BA s + 1
  agg : ∀ ps, B (.agg ps) = BA ps + 1
  str : ∀ b, B (.lit (.string b)) = b.length + 1
  pos : ∀ d, 1 ≤ B d
theorem BulkLike.part {H : Type} {B : DataW H → Nat} {BA : List (DataW H) → Nat} (h : BulkLike B BA) : ∀ {l : List (DataW H)} {j : Nat} {d : DataW H}, l[j]? = some d → B d ≤ BA l
  | [], _, _, e => by simp at e
  | x :: r, 0, d, e => by simp at e; subst e; rw [h.cons]; omega
  | x :: r, j + 1, d, e => by rw [h.cons]; have := h.part (l := r) (j := j) (d := d) (by simpa using e); omega
theorem BulkLike.len {H : Type} {B : DataW H → Nat} {BA : List (DataW H) → Nat} (h : BulkLike B BA) : ∀ l : List (DataW H), l.length ≤ BA l
  | [] => by simp
  | x :: r => by rw [h.cons, List.length_cons]; have := h.pos x; have := h.len r; omega

def LeafB (M : Nat) : Sh → Value → Prop
  | .str, v => ∀ s : ByteArray, v = .string s → s.size ≤ M
  | .row _ _, v => ∀ (a : Addr) (len cap : Nat), v = .slice (some a) len cap → cap ≤ M
  | _, _ => True
def LeafsB (M : Nat) : List Sh → List Value → Prop
  | [], cs => cs = []
  | s :: r, cs => ∃ c t, cs = c :: t ∧ LeafB M s c ∧ LeafsB M r t
theorem LeafsB.app {M : Nat} : ∀ {ss tt : List Sh} {cs ds : List Value}, LeafsB M ss cs → LeafsB M tt ds → LeafsB M (ss ++ tt) (cs ++ ds)
  | [], tt, cs, ds, h, h2 => by simp only [LeafsB] at h; subst h; simpa using h2
  | s :: r, tt, cs, ds, h, h2 => by
    simp only [LeafsB] at h
    obtain ⟨c, t, rfl, h1, h3⟩ := h
    exact ⟨c, t ++ ds, rfl, h1, LeafsB.app h3 h2⟩
section
variable {H : Type} {enc : TypeId × Value → H} {P : Program} {w : World} {base : Nat} {held : Bool} {M : Nat}
theorem LeafsB.at {M : Nat} : ∀ {ss : List Sh} {cs : List Value} {j : Nat} {s : Sh} {c : Value}, LeafsB M ss cs → ss[j]? = some s → cs[j]? = some c → LeafB M s c
  | [], _, _, _, _, _, h, _ => by simp at h
  | s :: r, cs, 0, s', c', h, h1, h2 => by
    simp only [LeafsB] at h
    obtain ⟨c, t, rfl, h3, h4⟩ := h
    simp at h1 h2; subst h1 h2; exact h3
  | s :: r, cs, j + 1, s', c', h, h1, h2 => by
    simp only [LeafsB] at h
    obtain ⟨c, t, rfl, h3, h4⟩ := h
    exact LeafsB.at h4 (by simpa using h1) (by simpa using h2)
end
end Go.Fw
