/-
  Rows of bools and of numbers that are handed in, as cells that are only read. No condition: each theorem states its own.
-/
import Derived.Test.YtpbndfocpnemfaaFv
import Derived.Deep.Grids
import Derived.SizedLaws
import Derived.ChangeSlices
set_option linter.unusedSimpArgs false
set_option linter.unusedVariables false
namespace Go.Fw
open Go Go.RowKit Go.ChangeShapes Go.WideShapes Go.Deep

/-- A slice that came in, as a name's cells, only to be read. -/
def ArgAt (w : World) (v : Value) (n cap : Nat) (c : Cont) (p : Nat × Nat) : Prop :=
  ∀ (ρ : Plc) (k : Nat), k < ρ.length → pl ρ k = p → Den ρ (.slice k 0 n cap) v ∧ CellsAt ρ w k false c.avl

section
variable {H : Type} {enc : TypeId × Value → H} {P : Program} {w : World} {base : Nat} {held : Bool}

/-- []bool, handed in. -/
theorem arg_bools {t e : TypeId} {v : Value} {d : DataW H} {ps : List MemPlace} {a : Option Addr} {l0 c0 : Nat} (ht : P.underlying t = some (.slice e)) (he : P.underlying e = some .bool) (hc : P.cellsOf e = 1) (hv : v = .slice a l0 c0)
    (h : DataW.Trod enc P w base (fun _ => true) held t v d ps) :
    ∃ (n cap : Nat) (A : List Bool) (p : Nat × Nat), n ≤ cap ∧ A.length = cap ∧ (n = 0 ∧ cap = 0 ∨ ∃ xs ys, d = .slice xs ys ∧ xs.length = n ∧ ys.length = cap - n) ∧ ArgAt w v n cap (.bools A) p := by
  obtain ⟨fuel, hf⟩ := h
  rcases open_bools ht he hc hf with ⟨hcs, hx⟩ | ⟨a, len, cap, B, hcs, hb, hl, hm, hx, hcell⟩
  · subst hv
    simp [Value.cells] at hcs
    obtain ⟨rfl, rfl, rfl⟩ := hcs
    refine ⟨0, 0, [], (0, 0), Nat.le_refl _, rfl, .inl ⟨rfl, rfl⟩, fun ρ k hk hp => ⟨?_, ?_⟩⟩
    · simp only [Den]; exact ⟨hk, Nat.le_refl _, .inr ⟨trivial, none, rfl⟩⟩
    · intro i y hi; simp [Cont.avl] at hi
  · subst hv
    simp [Value.cells] at hcs
    obtain ⟨rfl, rfl, rfl⟩ := hcs
    simp only [Prod.mk.injEq] at hx
    obtain ⟨rfl, rfl⟩ := hx
    refine ⟨l0, c0, (List.range c0).map B, (a.block, a.off), hl, by simp, .inr ⟨_, _, rfl, by simp, by simp⟩, fun ρ k hk hp => ?_⟩
    rcases Nat.eq_zero_or_pos c0 with h0 | h0
    · subst h0
      obtain rfl : l0 = 0 := by omega
      refine ⟨?_, ?_⟩
      · simp only [Den]; exact ⟨hk, Nat.le_refl _, .inr ⟨trivial, _, rfl⟩⟩
      · intro i y hi; simp [Cont.avl] at hi
    · obtain ⟨b, off, spot⟩ := a
      have hspot : spot = none := by simpa [Addr.add] using World.cell?_spot (hcell 0 h0)
      subst hspot
      refine ⟨?_, ?_⟩
      · simp only [Den, hp]; exact ⟨hk, hl, .inl rfl⟩
      · intro i y hi
        simp only [Cont.avl, List.map_map] at hi
        have hlt : i < c0 := by have := (List.getElem?_eq_some_iff.1 hi).1; simpa using this
        rw [List.getElem?_map, List.getElem?_range hlt] at hi
        simp only [Option.map_some, Option.some.injEq, Function.comp] at hi
        subst hi
        refine ⟨.bool (B i), ?_, by simp [Den], rfl, fun h => by cases h⟩
        rw [hp, ← addr_add]
        exact hcell i hlt

/-- []int, handed in. -/
theorem arg_ints {t e : TypeId} {kd : IntKind} {v : Value} {d : DataW H} {ps : List MemPlace} {a : Option Addr} {l0 c0 : Nat} (ht : P.underlying t = some (.slice e)) (he : P.underlying e = some (.int kd)) (hc : P.cellsOf e = 1) (hv : v = .slice a l0 c0)
    (h : DataW.Trod enc P w base (fun _ => true) held t v d ps) :
    ∃ (n cap : Nat) (A : List Int) (p : Nat × Nat), n ≤ cap ∧ A.length = cap ∧ (n = 0 ∧ cap = 0 ∨ ∃ xs ys, d = .slice xs ys ∧ xs.length = n ∧ ys.length = cap - n) ∧ (∀ x ∈ A, (Lit.int kd x).wf = true) ∧ ArgAt w v n cap (.ints kd A) p := by
  obtain ⟨fuel, hf⟩ := h
  rcases open_ints ht he hc hf with ⟨hcs, hx⟩ | ⟨a, len, cap, zs, hcs, hb, hl, hm, hz, hx, hcell, hwz⟩
  · subst hv
    simp [Value.cells] at hcs
    obtain ⟨rfl, rfl, rfl⟩ := hcs
    refine ⟨0, 0, [], (0, 0), Nat.le_refl _, rfl, .inl ⟨rfl, rfl⟩, by simp, fun ρ k hk hp => ⟨?_, ?_⟩⟩
    · simp only [Den]; exact ⟨hk, Nat.le_refl _, .inr ⟨trivial, none, rfl⟩⟩
    · intro i y hi; simp [Cont.avl] at hi
  · subst hv
    simp [Value.cells] at hcs
    obtain ⟨rfl, rfl, rfl⟩ := hcs
    simp only [Prod.mk.injEq] at hx
    obtain ⟨rfl, rfl⟩ := hx
    simp only [if_true] at hz
    refine ⟨l0, c0, zs, (a.block, a.off), hl, hz, .inr ⟨_, _, rfl, by simp [lits]; omega, by simp [lits, hz]⟩, hwz, fun ρ k hk hp => ?_⟩
    rcases Nat.eq_zero_or_pos c0 with h0 | h0
    · have : zs = [] := List.eq_nil_of_length_eq_zero (by omega)
      subst this
      subst h0
      obtain rfl : l0 = 0 := by omega
      refine ⟨?_, ?_⟩
      · simp only [Den]; exact ⟨hk, Nat.le_refl _, .inr ⟨trivial, _, rfl⟩⟩
      · intro i y hi; simp [Cont.avl] at hi
    · obtain ⟨b, off, spot⟩ := a
      have hspot : spot = none := by simpa [Addr.add] using World.cell?_spot (hcell 0 (by omega))
      subst hspot
      refine ⟨?_, ?_⟩
      · simp only [Den, hp]; exact ⟨hk, hl, .inl rfl⟩
      · intro i y hi
        simp only [Cont.avl] at hi
        have hlt : i < zs.length := by have := (List.getElem?_eq_some_iff.1 hi).1; simpa using this
        rw [List.getElem?_map, List.getElem?_eq_getElem hlt] at hi
        simp only [Option.map_some, Option.some.injEq] at hi
        subst hi
        refine ⟨.int kd zs[i], ?_, by simp [Den], rfl, fun h => by cases h⟩
        rw [hp, ← addr_add]
        have := hcell i hlt
        rwa [List.getD_eq_getElem?_getD, List.getElem?_eq_getElem hlt] at this

/-- Rows that came in, as a heap of names that are only read. -/
theorem heap_args {w : World} {L : Nat → Prop} {ρ : Plc} {H : List Seg} (hn : ρ.length = H.length) (h : ∀ n s, H[n]? = some s → ∃ c, s = .seg false c ∧ CellsAt ρ w n false c.avl) : HeapOk w.heap.size L ρ H w := by
  refine ⟨hn, fun n s hs => ?_, fun n s hs ho => ?_, fun n m s t _ hs _ ho => ?_⟩
  · obtain ⟨c, rfl, hc⟩ := h n s hs; exact hc
  · obtain ⟨c, rfl, _⟩ := h n s hs; simp [Seg.isOwn] at ho
  · obtain ⟨c, rfl, _⟩ := h n s hs; simp [Seg.isOwn] at ho
end
end Go.Fw
