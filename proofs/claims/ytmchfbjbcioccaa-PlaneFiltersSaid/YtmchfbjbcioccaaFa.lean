/-
  Rows of bools and of numbers that are handed in, as cells that are only read. No condition: each theorem states its own.
-/
import Derived.Test.YtmchfbjbcioccaaFv
import Derived.Deep.Grids
import Derived.SizedLaws
import Derived.ChangeSlices
import Derived.ChangeMaps5
set_option linter.unusedSimpArgs false
set_option linter.unusedVariables false
namespace Go.Fw
open Go Go.RowKit Go.ChangeShapes Go.WideShapes Go.Deep

/-- A slice that came in, as a name's cells, only to be read. -/
def ArgAt (w : World) (v : Value) (n cap : Nat) (c : Cont) (p : Nat × Nat) : Prop :=
  ∀ (ρ : Plc) (k : Nat), k < ρ.length → pl ρ k = p → Den ρ (.slice k 0 n cap) v ∧ CellsAt ρ w k false c.avl

section
variable {H : Type} {enc : TypeId × Value → H} {P : Program} {w : World} {base : Nat} {held : Bool}

/-- Rows that came in, as a heap of names that are only read. -/
theorem heap_args {w : World} {L : Nat → Prop} {ρ : Plc} {H : List Seg} (hn : ρ.length = H.length) (h : ∀ n s, H[n]? = some s → ∃ c, s = .seg false c ∧ CellsAt ρ w n false c.avl) : HeapOk w.heap.size L ρ H w := by
  refine ⟨hn, fun n s hs => ?_, fun n s hs ho => ?_, fun n m s t _ hs _ ho => ?_⟩
  · obtain ⟨c, rfl, hc⟩ := h n s hs; exact hc
  · obtain ⟨c, rfl, _⟩ := h n s hs; simp [Seg.isOwn] at ho
  · obtain ⟨c, rfl, _⟩ := h n s hs; simp [Seg.isOwn] at ho
end
end Go.Fw

namespace Go.Fw
open Go Go.RowKit Go.ChangeShapes Go.WideShapes Go.Deep

/-- What a cell of an argument is: a number, a bool, a float, a text; a row (its element's bytes, its element's cells). -/
inductive Sh where
  | int (k : IntKind) | bool | flt (k : FloatKind) | str
  | row (bytes : Nat) (es : List Sh)

def shFields (P : Program) (sh : TypeId → Option (List Sh)) : Nat → List Field → Option (List Sh)
  | _, [] => some []
  | off, f :: r => if f.offset = off then (sh f.type).bind fun s => if s.length = P.cellsOf f.type then (shFields P sh (off + s.length) r).map (s ++ ·) else none else none

def shOf (P : Program) : Nat → TypeId → Option (List Sh)
  | 0, _ => none
  | n + 1, t => match P.underlying t with
    | some .bool => some [.bool]
    | some (.int k) => some [.int k]
    | some (.float k) => some [.flt k]
    | some .string => some [.str]
    | some (.slice e) => (shOf P n e).bind fun es => if es.length = P.cellsOf e then some [.row (P.bytesOf e) es] else none
    | some (.struct fs) => (shFields P (shOf P n) 0 fs.toList).bind fun s => if s.length = P.cellsOf t then some s else none
    | some (.array m e) => (shOf P n e).bind fun es => if es.length = P.cellsOf e ∧ m * es.length = P.cellsOf t then some (List.replicate m es).flatten else none
    | _ => none

mutual
def LeafIs (w : World) : Sh → Value → Prop
  | .int k, v => ∃ n, v = .int k n ∧ (Lit.int k n).wf = true
  | .bool, v => ∃ b, v = .bool b
  | .flt k, v => ∃ b, v = .float k b ∧ (Lit.float k b).wf = true
  | .str, v => ∃ s : ByteArray, v = .string s ∧ s.size ≤ reachBytes
  | .row by_ es, v => v = .slice none 0 0 ∨ ∃ (a : Addr) (len cap : Nat), v = .slice (some a) len cap ∧ len ≤ cap ∧ cap * by_ ≤ reachBytes ∧
      ∀ i, i < cap → ∃ cs : List Value, (∀ j c, cs[j]? = some c → w.cell? ((a.add (i * es.length)).add j) = some c) ∧ LeafsAre w es cs
def LeafsAre (w : World) : List Sh → List Value → Prop
  | [], cs => cs = []
  | s :: r, cs => ∃ c t, cs = c :: t ∧ LeafIs w s c ∧ LeafsAre w r t
end

theorem LeafsAre.len {w : World} : ∀ {ss : List Sh} {cs : List Value}, LeafsAre w ss cs → ss.length = cs.length
  | [], _, h => by simp only [LeafsAre] at h; subst h; rfl
  | s :: r, cs, h => by
    simp only [LeafsAre] at h
    obtain ⟨c, t, rfl, _, h2⟩ := h
    simp [LeafsAre.len h2]
theorem LeafsAre.app {w : World} : ∀ {ss tt : List Sh} {cs ds : List Value}, LeafsAre w ss cs → LeafsAre w tt ds → LeafsAre w (ss ++ tt) (cs ++ ds)
  | [], tt, cs, ds, h, h2 => by simp only [LeafsAre] at h; subst h; simpa using h2
  | s :: r, tt, cs, ds, h, h2 => by
    simp only [LeafsAre] at h
    obtain ⟨c, t, rfl, h1, h3⟩ := h
    exact ⟨c, t ++ ds, rfl, h1, LeafsAre.app h3 h2⟩

theorem weights_mem_all {H : Type} {P : Program} {e : TypeId} : ∀ {ds : List (DataW H)} {j : Nat} {d : DataW H}, ds[j]? = some d → ∀ n ∈ d.weights P e, n ∈ DataW.weightsAll P e ds
  | d0 :: ds, 0, d, hd, n, hn => by
    simp only [List.getElem?_cons_zero, Option.some.injEq] at hd
    subst hd
    simp only [DataW.weightsAll, List.mem_append]
    exact Or.inl hn
  | d0 :: ds, j + 1, d, hd, n, hn => by
    simp only [List.getElem?_cons_succ] at hd
    simp only [DataW.weightsAll, List.mem_append]
    exact Or.inr (weights_mem_all hd n hn)
  | [], _, _, hd, _, _ => by simp at hd

section
variable {H : Type} {enc : TypeId × Value → H} {P : Program} {w : World} {base : Nat} {held : Bool}

def Fine (P : Program) (t : TypeId) (d : DataW H) : Prop := ∀ n ∈ d.weights P t, n ≤ reachBytes

theorem fields_leafs {sh : TypeId → Option (List Sh)} {cs : List Value} : ∀ (fs : List Field) (off : Nat) (ss : List Sh), shFields P sh off fs = some ss →
    (∀ f ∈ fs, ∀ s, sh f.type = some s → LeafsAre w s ((cs.drop f.offset).take (P.cellsOf f.type))) → LeafsAre w ss ((cs.drop off).take ss.length)
  | [], off, ss, h, _ => by simp only [shFields, Option.some.injEq] at h; subst h; simp [LeafsAre]
  | f :: r, off, ss, h, hf => by
    simp only [shFields] at h
    split at h
    · rename_i ho
      rw [Option.bind_eq_some_iff] at h
      obtain ⟨s, hs, h⟩ := h
      split at h
      · rename_i hl
        rw [Option.map_eq_some_iff] at h
        obtain ⟨s2, hs2, rfl⟩ := h
        have h1 := hf f (by simp) s hs
        have h2 := fields_leafs r _ s2 hs2 fun g hg => hf g (by simp [hg])
        rw [ho, ← hl] at h1
        have := h1.app h2
        rw [List.length_append, List.take_add, List.drop_drop]
        exact this
      · cases h
    · cases h

theorem rep_leafs {es : List Sh} {cs : List Value} : ∀ (m off : Nat), (∀ i, i < m → LeafsAre w es ((cs.drop ((off + i) * es.length)).take es.length)) → LeafsAre w (List.replicate m es).flatten ((cs.drop (off * es.length)).take (m * es.length))
  | 0, off, _ => by simp [LeafsAre]
  | m + 1, off, h => by
    have h1 := h 0 (by omega)
    have h2 := rep_leafs m (off + 1) fun i hi => by have := h (i + 1) (by omega); rwa [show off + 1 + i = off + (i + 1) by omega]
    have := h1.app h2
    rw [List.replicate_succ, List.flatten_cons, show (m + 1) * es.length = es.length + m * es.length by rw [Nat.add_mul, Nat.one_mul, Nat.add_comm], List.take_add, List.drop_drop]
    rw [show off * es.length + es.length = (off + 1) * es.length by rw [Nat.add_mul, Nat.one_mul]]
    simpa using this

theorem cells_get {a : Addr} {n : Nat} {cs : List Value} (h : w.cells? base a n = some cs) : cs.length = n ∧ ∀ j c, cs[j]? = some c → w.cell? (a.add j) = some c := by
  unfold World.cells? at h
  split at h
  · have hl := mapM_some_length h
    refine ⟨by simpa using hl, fun j c hj => ?_⟩
    have hlt : j < n := by have := (List.getElem?_eq_some_iff.1 hj).1; simp at hl; omega
    have := mapM_some_get h j j (by simp [hlt])
    rw [this, hj]
  · cases h

/-- Whatever an argument's type is made of: its cells. -/
theorem trod_leafs : ∀ (n : Nat) (m : Nat) (t : TypeId) (cs : List Value) (x : DataW H × List MemPlace) (ss : List Sh), DataW.trod enc P w base (fun _ => true) held n t cs = some x → shOf P m t = some ss →
    Fine P t x.1 → LeafsAre w ss cs := by
  intro n
  induction n with
  | zero => intro m t cs x ss h; simp [DataW.trod] at h
  | succ n ih =>
    intro m t cs x ss h hs hw
    cases m with
    | zero => simp [shOf] at hs
    | succ m =>
      unfold shOf at hs
      split at hs
      · rename_i ht
        cases hs
        obtain ⟨b, h1, _⟩ := DataW.trod_bool ht h
        subst h1; exact ⟨_, [], rfl, ⟨b, rfl⟩, rfl⟩
      · rename_i k ht
        cases hs
        obtain ⟨b, h1, _, h3⟩ := DataW.trod_int ht h
        subst h1; exact ⟨_, [], rfl, ⟨b, rfl, h3⟩, rfl⟩
      · rename_i k ht
        cases hs
        unfold DataW.trod at h
        rw [ht] at h
        split at h <;> simp_all
        exact ⟨_, [], rfl, ⟨_, rfl, h.1.2⟩, rfl⟩
      · rename_i ht
        cases hs
        obtain ⟨b, h1, h2, h3⟩ := DataW.trod_string ht h
        subst h1; subst h2
        refine ⟨_, [], rfl, ⟨b, rfl, ?_⟩, rfl⟩
        have := hw b.data.toList.length (by simp only [DataW.weights, List.mem_cons, true_or])
        rw [Array.length_toList] at this
        exact this
      · rename_i e ht
        rw [Option.bind_eq_some_iff] at hs
        obtain ⟨es, hes, hs⟩ := hs
        split at hs
        · rename_i hl
          cases hs
          rcases DataW.trod_slice ht h with ⟨rfl, _⟩ | ⟨a, len, cap, elems, rest, n', hn, rfl, rfl, hb, hlc, hm, hlen, hel, hsp, _⟩
          · exact ⟨_, [], rfl, .inl rfl, rfl⟩
          · obtain rfl : n = n' := by omega
            obtain ⟨hr1, hr2⟩ := hsp rfl
            have hwt : ∀ q, q ∈ ((elems.map (·.1)).length + (rest.map (·.1)).length) * P.bytesOf e :: (DataW.weightsAll P e (elems.map (·.1)) ++ DataW.weightsAll P e (rest.map (·.1))) → q ≤ reachBytes := fun q hq =>
              hw q (by simp only [DataW.weights, ht]; exact hq)
            refine ⟨_, [], rfl, .inr ⟨a, len, cap, rfl, hlc, ?_, fun i hi => ?_⟩, rfl⟩
            · have := hwt _ List.mem_cons_self
              rw [List.length_map, List.length_map, hlen, hr1, show len + (cap - len) = cap by omega] at this
              exact this
            · have key : ∀ (y : DataW H × List MemPlace), (w.cells? base (a.add (i * P.cellsOf e)) (P.cellsOf e)).bind (DataW.trod enc P w base (fun _ => true) held n e) = some y → Fine P e y.1 →
                  ∃ cs : List Value, (∀ j c, cs[j]? = some c → w.cell? ((a.add (i * es.length)).add j) = some c) ∧ LeafsAre w es cs := fun y hy hf => by
                rw [Option.bind_eq_some_iff] at hy
                obtain ⟨cs', h1, h2⟩ := hy
                exact ⟨cs', by rw [hl]; exact (cells_get h1).2, ih m e cs' y es h2 hes hf⟩
              by_cases hil : i < len
              · have h1 := hel i hil
                rw [List.getElem?_eq_getElem (by omega)] at h1
                exact key _ h1 fun q hq => hwt q (by
                  simp only [List.mem_cons, List.mem_append]
                  exact .inr (.inl (weights_mem_all (j := i) (d := (elems[i]'(by omega)).1) (by simp [List.getElem?_eq_getElem (show i < elems.length by omega)]) q hq)))
              · have h1 := hr2 (i - len) (by omega)
                rw [show len + (i - len) = i by omega, List.getElem?_eq_getElem (by omega)] at h1
                exact key _ h1 fun q hq => hwt q (by
                  simp only [List.mem_cons, List.mem_append]
                  exact .inr (.inr (weights_mem_all (j := i - len) (d := (rest[i - len]'(by omega)).1) (by simp [List.getElem?_eq_getElem (show i - len < rest.length by omega)]) q hq)))
        · cases hs
      · rename_i fs ht
        rw [Option.bind_eq_some_iff] at hs
        obtain ⟨s, hes, hs⟩ := hs
        split at hs
        · rename_i hl
          cases hs
          obtain ⟨xs, n', hn, rfl, hlen, hsz, hfl⟩ := DataW.trod_struct ht h
          obtain rfl : n = n' := by omega
          have := fields_leafs (cs := cs) (w := w) fs.toList 0 ss hes fun f hf s hs => by
            obtain ⟨i, hi, rfl⟩ := List.mem_iff_getElem.1 hf
            have hi' : i < fs.size := by simpa using hi
            have hfi : fs[i]? = some fs.toList[i] := by simp [hi']
            have h1 := hfl i _ hfi
            rw [List.getElem?_eq_getElem (by omega)] at h1
            refine ih m _ _ _ s h1 hs fun q hq => hw q ?_
            simp only [DataW.weights, ht]
            exact DataW.weights_mem_each (j := i) (t := fs.toList[i].type) (d := (xs[i]'(by omega)).1) (by simp [hi']) (by simp [List.getElem?_eq_getElem (show i < xs.length by omega)]) q hq
          rw [hl, ← hlen, List.drop_zero, List.take_length] at this
          exact this
        · cases hs
      · rename_i k e ht
        rw [Option.bind_eq_some_iff] at hs
        obtain ⟨es, hes, hs⟩ := hs
        split at hs
        · rename_i hl
          cases hs
          obtain ⟨xs, n', hn, rfl, hlen, hsz, hfl⟩ := DataW.trod_array ht h
          obtain rfl : n = n' := by omega
          have := rep_leafs (w := w) (es := es) (cs := cs) k 0 fun i hi => by
            have h1 := hfl i hi
            rw [List.getElem?_eq_getElem (by omega)] at h1
            rw [Nat.zero_add, hl.1]
            refine ih m _ _ _ es h1 hes fun q hq => hw q ?_
            simp only [DataW.weights, ht]
            exact weights_mem_all (j := i) (d := (xs[i]'(by omega)).1) (by simp [List.getElem?_eq_getElem (show i < xs.length by omega)]) q hq
          rw [Nat.zero_mul, List.drop_zero, hl.2, ← hlen, List.take_length] at this
          exact this
        · cases hs
      · cases hs

/-- A cell of no row, as an abstract value. -/
def AvIs : Sh → AV → Prop
  | .int k, x => ∃ n, x = .int k n ∧ (Lit.int k n).wf = true
  | .bool, x => ∃ b, x = .bool b
  | .flt k, x => ∃ b, x = .flt k b ∧ (Lit.float k b).wf = true
  | .str, x => ∃ s : ByteArray, x = .str s ∧ s.size ≤ reachBytes
  | .row _ _, _ => False
def AvsAre : List Sh → List AV → Prop
  | [], xs => xs = []
  | s :: r, xs => ∃ x t, xs = x :: t ∧ AvIs s x ∧ AvsAre r t
def plainSh : Sh → Bool | .row _ _ => false | _ => true
theorem AvsAre.len : ∀ {ss : List Sh} {cs : List AV}, AvsAre ss cs → ss.length = cs.length
  | [], _, h => by simp only [AvsAre] at h; subst h; rfl
  | s :: r, cs, h => by
    simp only [AvsAre] at h
    obtain ⟨c, t, rfl, _, h2⟩ := h
    simp [AvsAre.len h2]
theorem leaf_av {s : Sh} {v : Value} (hp : plainSh s = true) (h : LeafIs w s v) : ∃ x, AvIs s x ∧ (∀ ρ, Den ρ x v) ∧ v.oneCell' = true := by
  cases s <;> simp only [LeafIs] at h
  case int k => obtain ⟨n, rfl, hw⟩ := h; exact ⟨.int k n, ⟨n, rfl, hw⟩, fun ρ => by simp [Den], rfl⟩
  case bool => obtain ⟨n, rfl⟩ := h; exact ⟨.bool n, ⟨n, rfl⟩, fun ρ => by simp [Den], rfl⟩
  case flt k => obtain ⟨n, rfl, hw⟩ := h; exact ⟨.flt k n, ⟨n, rfl, hw⟩, fun ρ => by simp [Den], rfl⟩
  case str => obtain ⟨n, rfl, hw⟩ := h; exact ⟨.str n, ⟨n, rfl, hw⟩, fun ρ => by simp [Den], rfl⟩
  case row => simp [plainSh] at hp
theorem leafs_avs : ∀ {ss : List Sh} {cs : List Value}, (∀ s ∈ ss, plainSh s = true) → LeafsAre w ss cs → ∃ xs, AvsAre ss xs ∧ (∀ ρ, Dens ρ xs cs) ∧ (∀ c ∈ cs, c.oneCell' = true)
  | [], cs, _, h => by simp only [LeafsAre] at h; subst h; exact ⟨[], rfl, fun ρ => by simp [Dens], by simp⟩
  | s :: r, cs, hp, h => by
    simp only [LeafsAre] at h
    obtain ⟨c, t, rfl, h1, h2⟩ := h
    obtain ⟨x, hx, hd, ho⟩ := leaf_av (hp s (by simp)) h1
    obtain ⟨xs, hxs, hds, hos⟩ := leafs_avs (fun s hs => hp s (by simp [hs])) h2
    exact ⟨x :: xs, ⟨x, xs, rfl, hx, hxs⟩, fun ρ => ⟨c, t, rfl, hd ρ, hds ρ⟩, by simpa using ⟨ho, hos⟩⟩

theorem choose_all {α : Type} {n : Nat} {p : Nat → α → Prop} [Inhabited α] (h : ∀ i, i < n → ∃ x, p i x) : ∃ f : Nat → α, ∀ i, i < n → p i (f i) := by
  refine ⟨fun i => if hi : i < n then Classical.choose (h i hi) else default, fun i hi => ?_⟩
  simp only [hi, dif_pos]
  exact Classical.choose_spec (h i hi)
theorem flat_get {F : Nat → List AV} {m : Nat} : ∀ (n : Nat) (i : Nat), (∀ i, i < n → (F i).length = m) → i < n → ∀ j, j < m → ((List.range n).flatMap F)[i * m + j]? = (F i)[j]?
  | 0, i, _, hi, _, _ => by omega
  | n + 1, i, hl, hi, j, hj => by
    have hlen : ∀ k, k ≤ n → ((List.range k).flatMap F).length = k * m := by
      intro k
      induction k with
      | zero => intro _; simp
      | succ k ih => intro hk; rw [List.range_succ, List.flatMap_append, List.length_append, ih (by omega)]; simp [hl k (by omega), Nat.add_mul]
    rw [List.range_succ, List.flatMap_append]
    by_cases h : i < n
    · have : i * m + j < n * m := by
        have : (i + 1) * m ≤ n * m := Nat.mul_le_mul_right m h
        rw [Nat.add_mul, Nat.one_mul] at this; omega
      rw [List.getElem?_append_left (by rw [hlen n (Nat.le_refl n)]; exact this)]
      exact flat_get n i (fun i hi => hl i (by omega)) h j hj
    · obtain rfl : i = n := by omega
      rw [List.getElem?_append_right (by rw [hlen i (Nat.le_refl i)]; omega), hlen i (Nat.le_refl i)]
      simp

/-- A row of structs, handed in, as a name's cells. -/
theorem row_avs {by_ : Nat} {es : List Sh} {v : Value} (hz0 : 0 < es.length) (hp : ∀ s ∈ es, plainSh s = true) (h : LeafIs w (.row by_ es) v) :
    ∃ (n cap : Nat) (F : Nat → List AV) (p : Nat × Nat), n ≤ cap ∧ cap * by_ ≤ reachBytes ∧ (∀ i, i < cap → AvsAre es (F i)) ∧ ArgAt w v n cap (.avs ((List.range cap).flatMap F)) p := by
  simp only [LeafIs] at h
  rcases h with rfl | ⟨a, len, cap, rfl, hlc, hby, hc⟩
  · refine ⟨0, 0, fun _ => [], (0, 0), Nat.le_refl _, by omega, fun i hi => by omega, fun ρ k hk hp => ⟨?_, ?_⟩⟩
    · simp only [Den]; exact ⟨hk, Nat.le_refl _, .inr ⟨trivial, none, rfl⟩⟩
    · intro i y hi; simp [Cont.avl] at hi
  · have h2 : ∀ i, i < cap → ∃ xs : List AV, AvsAre es xs ∧ ∃ cs, (∀ j c, cs[j]? = some c → w.cell? ((a.add (i * es.length)).add j) = some c) ∧ (∀ ρ, Dens ρ xs cs) ∧ (∀ c ∈ cs, c.oneCell' = true) := fun i hi => by
      obtain ⟨cs, h1, h2⟩ := hc i hi
      obtain ⟨xs, h3, h4, h5⟩ := leafs_avs hp h2
      exact ⟨xs, h3, cs, h1, h4, h5⟩
    obtain ⟨F, hF⟩ := choose_all h2
    refine ⟨len, cap, F, (a.block, a.off), hlc, hby, fun i hi => (hF i hi).1, fun ρ k hk hpl => ?_⟩
    have hlen : ∀ i, i < cap → (F i).length = es.length := fun i hi => (hF i hi).1.len.symm
    have hspot : 0 < cap → a.spot = none := fun h0 => by
      obtain ⟨hx, cs, h1, h2, h3⟩ := hF 0 h0
      have hl := hx.len
      obtain ⟨x, hx0⟩ : ∃ x, (F 0)[0]? = some x := ⟨_, List.getElem?_eq_getElem (by omega)⟩
      obtain ⟨u, hu, _⟩ := (h2 []).get 0 x hx0
      have := h1 0 u hu
      rw [Nat.zero_mul] at this
      exact World.cell?_spot (by simpa [Addr.add] using this)
    have hz : ∀ i y, ((List.range cap).flatMap F)[i]? = some y → ∃ v, w.cell? (a.add i) = some v ∧ Den ρ y v ∧ v.oneCell' = true := by
      intro i y hi
      have h0 := hz0
      · have hlt : i < cap * es.length := by
          have := (List.getElem?_eq_some_iff.1 hi).1
          rw [List.length_flatMap] at this
          have e : (List.map (fun a => (F a).length) (List.range cap)) = List.replicate cap es.length := by
            rw [List.eq_replicate_iff]
            refine ⟨by simp, fun b hb => ?_⟩
            obtain ⟨c, hc, rfl⟩ := List.mem_map.1 hb
            exact hlen c (List.mem_range.1 hc)
          rw [e, List.sum_replicate_nat] at this
          exact this
        have hq : i / es.length < cap := Nat.div_lt_of_lt_mul (by rwa [Nat.mul_comm])
        have hr : i % es.length < es.length := Nat.mod_lt _ h0
        have e : i = i / es.length * es.length + i % es.length := by rw [Nat.mul_comm]; exact (Nat.div_add_mod i es.length).symm
        rw [e, flat_get cap _ hlen hq _ hr] at hi
        obtain ⟨_, cs, h1, h2, h3⟩ := hF _ hq
        obtain ⟨u, hu, hd⟩ := (h2 ρ).get _ y hi
        refine ⟨u, ?_, hd, h3 u (List.mem_of_getElem? hu)⟩
        have := h1 _ u hu
        have hsp := hspot (Nat.lt_of_le_of_lt (Nat.zero_le _) hq)
        obtain ⟨b, off, spot⟩ := a
        simp only at hsp
        subst hsp
        rw [addr_add, addr_add, Nat.add_assoc, ← e] at this
        rw [addr_add]; exact this
    by_cases hn : ∃ (i : Nat) (y : AV), ((List.range cap).flatMap F)[i]? = some y
    · obtain ⟨i, y, hi⟩ := hn
      obtain ⟨u, hu, _⟩ := hz i y hi
      have h0 : 0 < cap := by
        rcases Nat.eq_zero_or_pos cap with h0 | h0
        · subst h0; simp at hi
        · exact h0
      have hsp := hspot h0
      obtain ⟨b, off, spot⟩ := a
      simp only at hsp
      subst hsp
      refine ⟨?_, ?_⟩
      · simp only [Den, hpl]; exact ⟨hk, hlc, .inl rfl⟩
      · intro i y hi
        obtain ⟨u, h1, h2, h3⟩ := hz i y hi
        refine ⟨u, ?_, h2, h3, fun h => by cases h⟩
        rw [hpl, ← addr_add]; exact h1
    · refine ⟨?_, fun i y hi => absurd ⟨i, y, hi⟩ hn⟩
      have hc0 : cap = 0 := by
        rcases Nat.eq_zero_or_pos cap with h0 | h0
        · exact h0
        · have := flat_get cap 0 hlen h0 0 hz0
          have e : (F 0)[0]? = some ((F 0)[0]'(by rw [hlen 0 h0]; exact hz0)) := List.getElem?_eq_getElem _
          rw [e] at this
          exact absurd ⟨_, _, this⟩ hn
      subst hc0
      obtain rfl : len = 0 := by omega
      simp only [Den]; exact ⟨hk, Nat.le_refl _, .inr ⟨trivial, _, rfl⟩⟩
theorem ArgAt.recont {v : Value} {n cap : Nat} {c c' : Cont} {p : Nat × Nat} (h : ArgAt w v n cap c p) (e : c'.avl = c.avl) : ArgAt w v n cap c' p := fun ρ k hk hp => ⟨(h ρ k hk hp).1, by rw [e]; exact (h ρ k hk hp).2⟩
theorem flat_congr {F G : Nat → List AV} {n : Nat} (h : ∀ i, i < n → F i = G i) : (List.range n).flatMap F = (List.range n).flatMap G := by
  induction n with
  | zero => rfl
  | succ n ih => rw [List.range_succ, List.flatMap_append, List.flatMap_append, ih fun i hi => h i (by omega)]; simp [h n (by omega)]
theorem agg_of {v : Value} {l : List Value} (h : v.cells.toList = l) (hl : l.length ≠ 1) : v = .agg l.toArray := by
  subst h
  cases v <;> simp [Value.cells] at hl ⊢
/-- An argument, opened: its cells. -/
theorem arg_open {t : TypeId} {v : Value} {d : DataW H} {ps : List MemPlace} {ss : List Sh} (m : Nat) (hs : shOf P m t = some ss) (h : DataW.Trod enc P w base (fun _ => true) held t v d ps) (hf : Fine P t d) : LeafsAre w ss v.cells.toList := by
  obtain ⟨n, hn⟩ := h
  exact trod_leafs n m t _ _ ss hn hs hf
theorem fine_of {ts : List TypeId} {ds : List (DataW H)} (h : (DataW.weightsEach P ts ds).all (· ≤ reachBytes) = true) {j : Nat} {t : TypeId} {d : DataW H} (ht : ts[j]? = some t) (hd : ds[j]? = some d) : Fine P t d := fun n hn => by
  have := List.all_eq_true.1 h _ (DataW.weights_mem_each ht hd n hn)
  simpa using this
end
end Go.Fw

namespace Go.Fw
open Go Go.RowKit Go.ChangeShapes Go.WideShapes Go.Deep

/-- A measure of data: so many values and letters. -/
structure BulkLike {H : Type} (B : DataW H → Nat) (BA : List (DataW H) → Nat) : Prop where
  nil : BA [] = 0
  cons : ∀ d r, BA (d :: r) = B d + BA r
  slice : ∀ e s, B (.slice e s) = BA e + BA s + 1
  agg : ∀ ps, B (.agg ps) = BA ps + 1
  str : ∀ b, B (.lit (.string b)) = b.length + 1
  pos : ∀ d, 1 ≤ B d
theorem BulkLike.part {H : Type} {B : DataW H → Nat} {BA : List (DataW H) → Nat} (h : BulkLike B BA) : ∀ {l : List (DataW H)} {j : Nat} {d : DataW H}, l[j]? = some d → B d ≤ BA l
  | [], _, _, e => by simp at e
  | x :: r, 0, d, e => by simp at e; subst e; rw [h.cons]; omega
  | x :: r, j + 1, d, e => by rw [h.cons]; have := h.part (l := r) (j := j) (d := d) (by simpa using e); omega
theorem BulkLike.len {H : Type} {B : DataW H → Nat} {BA : List (DataW H) → Nat} (h : BulkLike B BA) : ∀ l : List (DataW H), l.length ≤ BA l
  | [] => by simp
  | x :: r => by rw [h.cons, List.length_cons]; have := h.pos x; have := h.len r; omega

def LeafB (M : Nat) : Sh → Value → Prop
  | .str, v => ∀ s : ByteArray, v = .string s → s.size ≤ M
  | .row _ _, v => ∀ (a : Addr) (len cap : Nat), v = .slice (some a) len cap → cap ≤ M
  | _, _ => True
def LeafsB (M : Nat) : List Sh → List Value → Prop
  | [], cs => cs = []
  | s :: r, cs => ∃ c t, cs = c :: t ∧ LeafB M s c ∧ LeafsB M r t
theorem LeafsB.app {M : Nat} : ∀ {ss tt : List Sh} {cs ds : List Value}, LeafsB M ss cs → LeafsB M tt ds → LeafsB M (ss ++ tt) (cs ++ ds)
  | [], tt, cs, ds, h, h2 => by simp only [LeafsB] at h; subst h; simpa using h2
  | s :: r, tt, cs, ds, h, h2 => by
    simp only [LeafsB] at h
    obtain ⟨c, t, rfl, h1, h3⟩ := h
    exact ⟨c, t ++ ds, rfl, h1, LeafsB.app h3 h2⟩
section
variable {H : Type} {enc : TypeId × Value → H} {P : Program} {w : World} {base : Nat} {held : Bool} {M : Nat}
theorem LeafsB.at {M : Nat} : ∀ {ss : List Sh} {cs : List Value} {j : Nat} {s : Sh} {c : Value}, LeafsB M ss cs → ss[j]? = some s → cs[j]? = some c → LeafB M s c
  | [], _, _, _, _, _, h, _ => by simp at h
  | s :: r, cs, 0, s', c', h, h1, h2 => by
    simp only [LeafsB] at h
    obtain ⟨c, t, rfl, h3, h4⟩ := h
    simp at h1 h2; subst h1 h2; exact h3
  | s :: r, cs, j + 1, s', c', h, h1, h2 => by
    simp only [LeafsB] at h
    obtain ⟨c, t, rfl, h3, h4⟩ := h
    exact LeafsB.at h4 (by simpa using h1) (by simpa using h2)
end
end Go.Fw
