/-
  A walk over Go code by abstract states, proved sound once for all programs: what an operation, a region, a loop, a call, a function gives, in values that are written out and in memory that is named. No condition: each theorem states its own.
-/
import Derived.WalkKit
import Derived.Deep.Quiet
import Derived.StillTailTactics
import Derived.KernelRfl
import Derived.Deep.LoopGhost
import Derived.ChangeSame
import Derived.ProofKit
import Derived.OpenShut
import Derived.Carry
set_option linter.unusedSimpArgs false
set_option linter.unusedVariables false
namespace Go.Fw
open Go Go.RowKit

/-- Abstract values: names stand for places of memory; all else is written out. -/
inductive AV where
  | any
  | bool (b : Bool) | int (k : IntKind) (n : Int) | flt (k : FloatKind) (b : Nat) | cpx (k : FloatKind) (re im : Nat) | str (s : ByteArray)
  | nils | nilp | nilf | nilm
  | slice (n off len cap : Nat) | ptr (n off : Nat) | map (n : Nat)
  | agg (cs : List AV) | tup (vs : List AV) | fn (f : FuncId) (cap : List AV) | fnb (f : FuncId) (fs : List AV)

/-- Where a name lies: a block and a cell in it. -/
abbrev Plc := List (Nat × Nat)
/-- The place of a name. -/
def pl (ρ : Plc) (n : Nat) : Nat × Nat := ρ.getD n (0, 0)

mutual
def Den (ρ : Plc) : AV → Value → Prop
  | .any, _ => True
  | .bool b, v => v = .bool b
  | .int k n, v => v = .int k n
  | .flt k b, v => v = .float k b
  | .cpx k a b, v => v = .complex k a b
  | .str s, v => v = .string s
  | .nils, v => v = .slice none 0 0
  | .nilp, v => v = .pointer none
  | .nilf, v => v = .nilFunc
  | .nilm, v => v = .map none
  | .map n, v => n < ρ.length ∧ v = .map (some (pl ρ n).1)
  | .slice n off len cap, v => n < ρ.length ∧ len ≤ cap ∧ (v = .slice (some ⟨(pl ρ n).1, (pl ρ n).2 + off, none⟩) len cap ∨ (cap = 0 ∧ ∃ a, v = .slice a 0 0))
  | .ptr n off, v => n < ρ.length ∧ v = .pointer (some ⟨(pl ρ n).1, (pl ρ n).2 + off, none⟩)
  | .agg cs, v => ∃ vs : List Value, v = .agg vs.toArray ∧ Dens ρ cs vs
  | .tup cs, v => ∃ vs : List Value, v = .tuple vs.toArray ∧ Dens ρ cs vs
  | .fn f cs, v => ∃ vs : List Value, v = .func (.func f) #[] vs.toArray ∧ Dens ρ cs vs
  | .fnb f cs, v => ∃ vs : List Value, v = .func (.func f) vs.toArray #[] ∧ Dens ρ cs vs
def Dens (ρ : Plc) : List AV → List Value → Prop
  | [], vs => vs = []
  | a :: as, vs => ∃ v r, vs = v :: r ∧ Den ρ a v ∧ Dens ρ as r
end

/-- What cells hold. -/
inductive Cont where
  | bools (l : List Bool) | ints (k : IntKind) (l : List Int) | flts (k : FloatKind) (l : List Nat) | cpxs (k : FloatKind) (l : List (Nat × Nat)) | strs (l : List ByteArray) | avs (l : List AV)

def Cont.avl : Cont → List AV
  | .bools l => l.map .bool
  | .ints k l => l.map (.int k)
  | .flts k l => l.map (.flt k)
  | .cpxs k l => l.map fun p => .cpx k p.1 p.2
  | .strs l => l.map .str
  | .avs l => l

def Cont.len : Cont → Nat
  | .bools l => l.length
  | .ints _ l => l.length
  | .flts _ l => l.length
  | .cpxs _ l => l.length
  | .strs l => l.length
  | .avs l => l.length

theorem Cont.len_eq (c : Cont) : c.avl.length = c.len := by cases c <;> simp [Cont.avl, Cont.len]

/-- What lies in memory and is no row of cells: a map's entries (key, value, when it was born); a way through a text. -/
inductive AO where
  | map (es : List (AV × AV × Nat)) (clock : Nat)
  | iter (s : ByteArray) (pos : Nat)
def DenE (ρ : Plc) : List (AV × AV × Nat) → List MapEntry → Prop
  | [], es => es = []
  | (k, v, b) :: r, es => ∃ e t, es = e :: t ∧ Den ρ k e.key ∧ Den ρ v e.val ∧ e.born = b ∧ DenE ρ r t
def ObjIs (ρ : Plc) : AO → Obj → Prop
  | .map es c, o => ∃ l : List MapEntry, o = .map l.toArray c ∧ DenE ρ es l
  | .iter s p, o => o = .stringIter s p

/-- A name's cells: dead (nothing is known any more), or cells that hold c; 'own': they may be written. -/
inductive Seg where
  | dead
  | seg (own : Bool) (c : Cont)
  | obj (o : AO)

structure St where
  sl : List AV
  hp : List Seg

def CellsAt (ρ : Plc) (w : World) (n : Nat) (own : Bool) (l : List AV) : Prop :=
  ∀ i a, l[i]? = some a → ∃ v, w.cell? ⟨(pl ρ n).1, (pl ρ n).2 + i, none⟩ = some v ∧ Den ρ a v ∧ v.oneCell' = true ∧ (own = true → w.frozen? ⟨(pl ρ n).1, (pl ρ n).2 + i, none⟩ = false)

def SegOk (ρ : Plc) (w : World) (n : Nat) : Seg → Prop
  | .dead => True
  | .seg own c => CellsAt ρ w n own c.avl
  | .obj o => (pl ρ n).2 = 0 ∧ ∃ x, w.heap[(pl ρ n).1]? = some x ∧ ObjIs ρ o x

def Seg.isOwn : Seg → Bool
  | .seg true _ => true
  | .obj _ => true
  | _ => false
def Seg.len : Seg → Nat
  | .seg _ c => c.len
  | .dead => 0
  | .obj _ => 1

structure HeapOk (B : Nat) (L : Nat → Prop) (ρ : Plc) (H : List Seg) (w : World) : Prop where
  names : ρ.length = H.length
  cells : ∀ n s, H[n]? = some s → SegOk ρ w n s
  mine : ∀ n s, H[n]? = some s → s.isOwn = true → 0 < s.len → B ≤ (pl ρ n).1 ∨ L (pl ρ n).1
  apart : ∀ n m s t, n ≠ m → H[n]? = some s → H[m]? = some t → s.isOwn = true → 0 < s.len → 0 < t.len → (pl ρ n).1 ≠ (pl ρ m).1

/-- The world w is as w0 was, but for new blocks and the blocks that were lent. -/
structure Kept (w0 : World) (L : Nat → Prop) (w : World) : Prop where
  os : w.os = w0.os
  output : w.output = w0.output
  tape : w.tape = w0.tape
  size : w0.heap.size ≤ w.heap.size
  block : ∀ k, k < w0.heap.size → ¬ L k → w.heap[k]? = w0.heap[k]?

structure Rep (w0 : World) (L : Nat → Prop) (ρ : Plc) (st : St) (a : Act) (w : World) : Prop where
  slots : Dens ρ st.sl a.tmps.toList
  heap : HeapOk w0.heap.size L ρ st.hp w
  kept : Kept w0 L w
  defers : a.defers = []

theorem Dens.len {ρ : Plc} : ∀ {as : List AV} {vs : List Value}, Dens ρ as vs → as.length = vs.length
  | [], _, h => by simp only [Dens] at h; subst h; rfl
  | a :: as, vs, h => by
    simp only [Dens] at h
    obtain ⟨v, r, rfl, _, h2⟩ := h
    simp [Dens.len h2]

theorem Dens.get {ρ : Plc} : ∀ {as : List AV} {vs : List Value}, Dens ρ as vs → ∀ (i : Nat) (a : AV), as[i]? = some a → ∃ v, vs[i]? = some v ∧ Den ρ a v
  | [], _, _, i, a, hi => by simp at hi
  | a :: as, vs, h, i, x, hi => by
    simp only [Dens] at h
    obtain ⟨v, r, rfl, h1, h2⟩ := h
    cases i with
    | zero => simp at hi; subst hi; exact ⟨v, rfl, h1⟩
    | succ i => simp at hi; simpa using h2.get i x hi

theorem Dens.of_get {ρ : Plc} : ∀ {as : List AV} {vs : List Value}, as.length = vs.length → (∀ (i : Nat) (a : AV) v, as[i]? = some a → vs[i]? = some v → Den ρ a v) → Dens ρ as vs
  | [], vs, h, _ => by simp only [Dens]; exact List.eq_nil_of_length_eq_zero (by simpa using h.symm)
  | a :: as, [], h, _ => by simp at h
  | a :: as, v :: vs, h, hg => by
    simp only [Dens]
    exact ⟨v, vs, rfl, hg 0 a v rfl rfl, Dens.of_get (by simpa using h) fun i x y hx hy => hg (i + 1) x y (by simpa using hx) (by simpa using hy)⟩

theorem Dens.set {ρ : Plc} {as : List AV} {vs : List Value} (h : Dens ρ as vs) (i : Nat) {a : AV} {v : Value} (hd : Den ρ a v) : Dens ρ (as.set i a) (vs.set i v) := by
  refine Dens.of_get (by simp [h.len]) fun j x y hx hy => ?_
  rw [List.getElem?_set] at hx hy
  split at hx
  · subst_vars
    rw [if_pos rfl] at hy
    split at hx
    · split at hy
      · cases hx; cases hy; exact hd
      · cases hy
    · cases hx
  · rename_i hne
    rw [if_neg hne] at hy
    obtain ⟨v', h1, h2⟩ := h.get j x hx
    rw [hy] at h1; cases h1; exact h2

/-- The slot of a temporary. -/
def slot : List AV → Nat → AV
  | [], _ => .any
  | a :: _, 0 => a
  | _ :: as, n + 1 => slot as n

def setAt : List AV → Nat → AV → List AV
  | [], _, _ => []
  | _ :: as, 0, x => x :: as
  | a :: as, n + 1, x => a :: setAt as n x

def segAt : List Seg → Nat → Seg
  | [], _ => .dead
  | s :: _, 0 => s
  | _ :: r, n + 1 => segAt r n

theorem slot_eq : ∀ (l : List AV) (t : Nat), slot l t = l.getD t .any
  | [], _ => by simp [slot]
  | a :: as, 0 => by simp [slot]
  | a :: as, n + 1 => by simp [slot, slot_eq as n]

theorem setAt_eq : ∀ (l : List AV) (t : Nat) (x : AV), setAt l t x = l.set t x
  | [], _, _ => by simp [setAt]
  | a :: as, 0, _ => by simp [setAt]
  | a :: as, n + 1, x => by simp [setAt, setAt_eq as n]

theorem segAt_some : ∀ (l : List Seg) (n : Nat) {own : Bool} {c : Cont}, segAt l n = .seg own c → l[n]? = some (.seg own c)
  | [], _, _, _, h => by simp [segAt] at h
  | a :: as, 0, _, _, h => by simp [segAt] at h; simp [h]
  | a :: as, n + 1, _, _, h => by simp [segAt] at h; simpa using segAt_some as n h

theorem slot_den {ρ : Plc} {l : List AV} {tmps : Array Value} (h : Dens ρ l tmps.toList) (t : Nat) : Den ρ (slot l t) (tmps.getD t undef) := by
  rw [slot_eq]
  rw [List.getD_eq_getElem?_getD]
  cases hl : l[t]? with
  | none => simp [Den]
  | some a =>
    obtain ⟨v, h1, h2⟩ := h.get t a hl
    have : tmps.getD t undef = v := by
      have : tmps[t]? = some v := by simpa using h1
      simp [this]
    rw [this]; simpa using h2

def avScalar : Value → AV
  | .bool b => .bool b
  | .int k n => .int k n
  | .float k b => .flt k b
  | .complex k a b => .cpx k a b
  | .string s => .str s
  | .slice none 0 0 => .nils
  | .pointer none => .nilp
  | .nilFunc => .nilf
  | .map none => .nilm
  | _ => .any

def avConst : Value → AV
  | .agg cs => .agg (cs.toList.map avScalar)
  | .tuple cs => .tup (cs.toList.map avScalar)
  | v => avScalar v

theorem avScalar_den (ρ : Plc) (v : Value) : Den ρ (avScalar v) v := by
  unfold avScalar
  split <;> simp [Den]

theorem avScalars_den (ρ : Plc) : ∀ vs : List Value, Dens ρ (vs.map avScalar) vs
  | [] => by simp [Dens]
  | v :: vs => by simp only [List.map_cons, Dens]; exact ⟨v, vs, rfl, avScalar_den ρ v, avScalars_den ρ vs⟩

theorem avConst_den (ρ : Plc) (v : Value) : Den ρ (avConst v) v := by
  unfold avConst
  split
  · simp only [Den]; exact ⟨_, by simp, avScalars_den ρ _⟩
  · simp only [Den]; exact ⟨_, by simp, avScalars_den ρ _⟩
  · exact avScalar_den ρ _

def av (st : St) : Operand → AV
  | .tmp t => slot st.sl t
  | .const v => avConst v
  | .global _ => .any
  | .func f => .fn f []

theorem av_den {w0 : World} {L : Nat → Prop} {ρ : Plc} {st : St} {a : Act} {w : World} (h : Rep w0 L ρ st a w) (x : Operand) : Den ρ (av st x) (a.eval x) := by
  cases x with
  | tmp t => exact slot_den h.slots t
  | const v => exact avConst_den ρ v
  | global g => simp [av, Den]
  | func f => simp only [av, Den, Act.eval]; exact ⟨[], rfl, by simp [Dens]⟩

def St.put (st : St) (d : Option Tmp) (x : AV) : St :=
  match d with
  | some t => { st with sl := setAt st.sl t x }
  | none => st

theorem Rep.put {w0 : World} {L : Nat → Prop} {ρ : Plc} {st : St} {a : Act} {w : World} (h : Rep w0 L ρ st a w) (d : Option Tmp) {x : AV} {v : Value} (hd : Den ρ x v) :
    Rep w0 L ρ (st.put d x) (a.put d v) w := by
  cases d with
  | none => exact h
  | some t => exact ⟨by simpa [St.put, Act.put, setAt_eq] using h.slots.set t hd, h.heap, h.kept, h.defers⟩

theorem Kept.refl (w : World) (L : Nat → Prop) : Kept w L w := ⟨rfl, rfl, rfl, Nat.le_refl _, fun _ _ _ => rfl⟩
theorem Kept.drewN {w0 w : World} {L : Nat → Prop} (h : Kept w0 L w) (n : Nat) : Kept w0 L (w.drewN n) := ⟨h.os, h.output, h.tape, h.size, h.block⟩

theorem Rep.drewN {w0 : World} {L : Nat → Prop} {ρ : Plc} {st : St} {a : Act} {w : World} (h : Rep w0 L ρ st a w) (n : Nat) : Rep w0 L ρ st a (w.drewN n) :=
  ⟨h.slots, ⟨h.heap.names, h.heap.cells, h.heap.mine, h.heap.apart⟩, h.kept.drewN n, h.defers⟩

mutual
theorem Den.grow {ρ : Plc} (r : Plc) : ∀ {x : AV} {v : Value}, Den ρ x v → Den (ρ ++ r) x v
  | .any, _, _ => by simp [Den]
  | .bool b, v, h => by simpa [Den] using h
  | .int k n, v, h => by simpa [Den] using h
  | .flt k b, v, h => by simpa [Den] using h
  | .cpx k a b, v, h => by simpa [Den] using h
  | .str s, v, h => by simpa [Den] using h
  | .nils, v, h => by simpa [Den] using h
  | .nilp, v, h => by simpa [Den] using h
  | .nilf, v, h => by simpa [Den] using h
  | .nilm, v, h => by simpa [Den] using h
  | .map n, v, h => by
    simp only [Den] at h ⊢
    obtain ⟨hn, h2⟩ := h
    have e : pl (ρ ++ r) n = pl ρ n := by simp [pl, List.getElem?_append_left hn]
    rw [e]; exact ⟨by simp; omega, h2⟩
  | .slice n off len cap, v, h => by
    simp only [Den] at h ⊢
    obtain ⟨hn, h1, h2⟩ := h
    have e : pl (ρ ++ r) n = pl ρ n := by simp [pl, List.getElem?_append_left hn]
    rw [e]; exact ⟨by simp; omega, h1, h2⟩
  | .ptr n off, v, h => by
    simp only [Den] at h ⊢
    obtain ⟨hn, h2⟩ := h
    have e : pl (ρ ++ r) n = pl ρ n := by simp [pl, List.getElem?_append_left hn]
    rw [e]; exact ⟨by simp; omega, h2⟩
  | .agg cs, v, h => by
    simp only [Den] at h ⊢
    obtain ⟨vs, h1, h2⟩ := h
    exact ⟨vs, h1, Dens.grow r h2⟩
  | .tup cs, v, h => by
    simp only [Den] at h ⊢
    obtain ⟨vs, h1, h2⟩ := h
    exact ⟨vs, h1, Dens.grow r h2⟩
  | .fn f cs, v, h => by
    simp only [Den] at h ⊢
    obtain ⟨vs, h1, h2⟩ := h
    exact ⟨vs, h1, Dens.grow r h2⟩
  | .fnb f cs, v, h => by
    simp only [Den] at h ⊢
    obtain ⟨vs, h1, h2⟩ := h
    exact ⟨vs, h1, Dens.grow r h2⟩
theorem Dens.grow {ρ : Plc} (r : Plc) : ∀ {xs : List AV} {vs : List Value}, Dens ρ xs vs → Dens (ρ ++ r) xs vs
  | [], vs, h => by simpa [Dens] using h
  | x :: xs, vs, h => by
    simp only [Dens] at h ⊢
    obtain ⟨v, u, h1, h2, h3⟩ := h
    exact ⟨v, u, h1, Den.grow r h2, Dens.grow r h3⟩
end
theorem DenE.grow {ρ : Plc} (r : Plc) : ∀ {es : List (AV × AV × Nat)} {l : List MapEntry}, DenE ρ es l → DenE (ρ ++ r) es l
  | [], l, h => by simpa [DenE] using h
  | (k, v, b) :: es, l, h => by
    simp only [DenE] at h ⊢
    obtain ⟨e, t, h1, h2, h3, h4, h5⟩ := h
    exact ⟨e, t, h1, h2.grow r, h3.grow r, h4, DenE.grow r h5⟩
theorem ObjIs.grow {ρ : Plc} (r : Plc) {o : AO} {x : Obj} (h : ObjIs ρ o x) : ObjIs (ρ ++ r) o x := by
  cases o with
  | map es c => obtain ⟨l, h1, h2⟩ := h; exact ⟨l, h1, h2.grow r⟩
  | iter s p => exact h
end Go.Fw

namespace Go.Fw
open Go Go.RowKit

inductive Ty where
  | bool | int (k : IntKind) | float (k : FloatKind) | cpx (k : FloatKind) | str | slice (e : TypeId) | ptr (e : TypeId)
  | struct (fs : List (Nat × TypeId)) | array (n : Nat) (e : TypeId) | func | map | other

def tyOf : TypeDesc → Ty
  | .bool => .bool
  | .int k => .int k
  | .float k => .float k
  | .complex k => .cpx k
  | .string => .str
  | .slice e => .slice e
  | .pointer e => .ptr e
  | .struct fs => .struct (fs.toList.map fun f => (f.offset, f.type))
  | .array n e => .array n e
  | .func _ _ _ => .func
  | .map _ _ => .map
  | _ => .other

structure TyI where
  d : Ty
  size : Nat
  bytes : Nat
  zero : Value

def Agrees (P : Program) (t : TypeId) (i : TyI) : Prop :=
  (P.underlying t).map tyOf = some i.d ∧ (P.info? t).map (fun j => (j.size, j.bytes, j.zero)) = some (i.size, i.bytes, some i.zero)

def tyAt : List (Nat × TyI) → Nat → Option TyI
  | [], _ => none
  | (k, i) :: r, t => match Nat.beq k t with | true => some i | false => tyAt r t

def TOk (P : Program) (T : List (Nat × TyI)) : Prop := ∀ p ∈ T, Agrees P p.1 p.2

theorem TOk.at {P : Program} {T : List (Nat × TyI)} (h : TOk P T) {t : Nat} {i : TyI} (ht : tyAt T t = some i) : Agrees P t i := by
  induction T with
  | nil => simp [tyAt] at ht
  | cons p r ih =>
    obtain ⟨k, j⟩ := p
    simp only [tyAt] at ht
    split at ht
    · rename_i hk
      have := Nat.eq_of_beq_eq_true hk
      cases ht
      rw [← this]
      exact h (k, i) (by simp)
    · exact ih (fun q hq => h q (by simp [hq])) ht

/-- In which order a region that draws its order is walked: one after another, or (alt) whichever may come up. -/
inductive Plan where
  | done | fin
  | op (k : Nat) (r : Plan)
  | alt (k : Nat) (r p : Plan)

/-- The same, with rows of operations in one. -/
inductive PlanL where
  | done | fin
  | lin (l : List Nat) (r : PlanL)
  | alt (k : Nat) (r p : PlanL)

/-- What holds at a loop's head, or at a place where ways meet. -/
structure LInv where
  T : Type
  st : T → St
  pr : T → Prop
  μ : T → Nat

/-- Settings of one walk. sgn: in this region numbers may be below nought at / % & | ^; wr: in this region int may wrap. -/
structure Cfg where
  T : List (Nat × TyI)
  sgn : Nat → Bool
  wr : Nat → Bool
  k : Nat
  q : Nat → Bool := fun _ => false
  plan : Nat → Option PlanL := fun _ => none
  dep : Nat → Option (St → LInv) := fun _ => none

def ikEq : IntKind → IntKind → Bool
  | .i8, .i8 | .i16, .i16 | .i32, .i32 | .i64, .i64 | .u8, .u8 | .u16, .u16 | .u32, .u32 | .u64, .u64 => true
  | _, _ => false
theorem ikEq_eq {k k' : IntKind} (h : ikEq k k' = true) : k = k' := by cases k <;> cases k' <;> first | rfl | (simp [ikEq] at h)

def guardT (b : Bool) (p : Prop) : Prop := match b with | true => p | false => False
theorem guardT_eq (b : Bool) (p : Prop) : guardT b p = (b = true ∧ p) := by cases b <;> simp [guardT]
theorem guardT_out {b : Bool} {p : Prop} (h : guardT b p) : b = true ∧ p := by cases b <;> simp_all [guardT]

/-- A sum, a difference, a product of int: in range, or wrapped. -/
def arith (wr : Bool) (k : IntKind) (n : Int) (K : AV → Prop) : Prop :=
  match wr, k with
  | false, .i64 => (-9223372036854775808 ≤ n ∧ n ≤ 9223372036854775807) ∧ K (.int .i64 n)
  | _, k => K (.int k (k.wrap n))

theorem wrap_i64 {n : Int} (h : -9223372036854775808 ≤ n ∧ n ≤ 9223372036854775807) : IntKind.i64.wrap n = n := IntWalk.i64_in n h

theorem arith_sound {wr : Bool} {k : IntKind} {n : Int} {K : AV → Prop} (h : arith wr k n K) : ∃ m, K (.int k m) ∧ k.wrap n = m := by
  unfold arith at h
  split at h
  · exact ⟨n, h.2, wrap_i64 h.1⟩
  · exact ⟨_, h, rfl⟩

/-- What a quotient, a remainder, a bit operation says of numbers not below nought. -/
def bitsOf (op : BinOp) (a b : Int) : Int :=
  match op with
  | .and => ((a.toNat &&& b.toNat : Nat) : Int)
  | .or => ((a.toNat ||| b.toNat : Nat) : Int)
  | .xor => ((a.toNat ^^^ b.toNat : Nat) : Int)
  | _ => 0

def rawBits (op : BinOp) (k : IntKind) (x y : Int) : Int :=
  let a := BitVec.ofInt k.bits x
  let b := BitVec.ofInt k.bits y
  match op with
  | .and => k.wrap (a &&& b).toNat
  | .or => k.wrap (a ||| b).toNat
  | .xor => k.wrap (a ^^^ b).toNat
  | _ => k.wrap (a &&& ~~~b).toNat

/-- Comparisons, decided without a difference: so that an open number stops them at once. -/
def leB : Int → Int → Bool
  | .ofNat a, .ofNat b => Nat.ble a b
  | .negSucc _, .ofNat _ => true
  | .ofNat _, .negSucc _ => false
  | .negSucc a, .negSucc b => Nat.ble b a
theorem leB_iff (a b : Int) : leB a b = true ↔ a ≤ b := by
  cases a <;> cases b <;> simp only [leB, Nat.ble_eq, Bool.false_eq_true, true_iff, false_iff]
  · rename_i a b; show a ≤ b ↔ ((a : Nat) : Int) ≤ ((b : Nat) : Int); omega
  · rename_i a b; show ¬ ((a : Nat) : Int) ≤ Int.negSucc b; omega
  · rename_i a b; show Int.negSucc a ≤ ((b : Nat) : Int); omega
  · omega
def ltB : Int → Int → Bool
  | .ofNat a, .ofNat b => Nat.blt a b
  | .negSucc _, .ofNat _ => true
  | .ofNat _, .negSucc _ => false
  | .negSucc a, .negSucc b => Nat.blt b a
theorem ltB_iff (a b : Int) : ltB a b = true ↔ a < b := by
  cases a <;> cases b <;> simp only [ltB, Nat.blt_eq, Bool.false_eq_true, true_iff, false_iff]
  · rename_i a b; show a < b ↔ ((a : Nat) : Int) < ((b : Nat) : Int); omega
  · rename_i a b; show ¬ ((a : Nat) : Int) < Int.negSucc b; omega
  · rename_i a b; show Int.negSucc a < ((b : Nat) : Int); omega
  · omega
def dLe (a b : Int) : Decidable (a ≤ b) := match h : leB a b with | true => isTrue ((leB_iff a b).1 h) | false => isFalse fun h' => by rw [(leB_iff a b).2 h'] at h; cases h
def dLt (a b : Int) : Decidable (a < b) := match h : ltB a b with | true => isTrue ((ltB_iff a b).1 h) | false => isFalse fun h' => by rw [(ltB_iff a b).2 h'] at h; cases h
theorem dLe_eq (a b : Int) : @decide (a ≤ b) (dLe a b) = decide (a ≤ b) := by congr
theorem dLt_eq (a b : Int) : @decide (a < b) (dLt a b) = decide (a < b) := by congr

def binInt (sgn wr : Bool) (op : BinOp) (k : IntKind) (a b : Int) (K : AV → Prop) : Prop :=
  match op with
  | .add => arith wr k (a + b) K
  | .sub => arith wr k (a - b) K
  | .mul => arith wr k (a * b) K
  | .quo => match sgn with
    | false => (0 ≤ a ∧ 0 < b ∧ a ≤ k.max) ∧ K (.int k (a / b))
    | true => b ≠ 0 ∧ K (.int k (k.wrap (a.tdiv b)))
  | .rem => match sgn with
    | false => (0 ≤ a ∧ 0 < b) ∧ K (.int k (a % b))
    | true => b ≠ 0 ∧ K (.int k (a.tmod b))
  | .and => match sgn with
    | false => (0 ≤ a ∧ 0 ≤ b ∧ a ≤ k.max ∧ b ≤ k.max) ∧ K (.int k ((a.toNat &&& b.toNat : Nat) : Int))
    | true => K (.int k (rawBits .and k a b))
  | .or => match sgn with
    | false => (0 ≤ a ∧ 0 ≤ b ∧ a ≤ k.max ∧ b ≤ k.max) ∧ K (.int k ((a.toNat ||| b.toNat : Nat) : Int))
    | true => K (.int k (rawBits .or k a b))
  | .xor => match sgn with
    | false => (0 ≤ a ∧ 0 ≤ b ∧ a ≤ k.max ∧ b ≤ k.max) ∧ K (.int k ((a.toNat ^^^ b.toNat : Nat) : Int))
    | true => K (.int k (rawBits .xor k a b))
  | .andNot => K (.int k (rawBits .andNot k a b))
  | .eql => K (.bool (decide (a = b)))
  | .neq => K (.bool (!decide (a = b)))
  | .lss => K (.bool (@decide (a < b) (dLt a b)))
  | .leq => K (.bool (@decide (a ≤ b) (dLe a b)))
  | .gtr => K (.bool (@decide (b < a) (dLt b a)))
  | .geq => K (.bool (@decide (b ≤ a) (dLe b a)))
  | _ => False

theorem max_nat (k : IntKind) : ∃ m, m ≤ k.bits ∧ k.max = ((2 ^ m - 1 : Nat) : Int) ∧ (2 : Int) ^ k.bits = ((2 ^ k.bits : Nat) : Int) ∧ (k.signed = true → m = k.bits - 1) ∧ (k.signed = false → m = k.bits) := by
  cases k
  · exact ⟨7, by decide, rfl, rfl, by decide, by decide⟩
  · exact ⟨15, by decide, rfl, rfl, by decide, by decide⟩
  · exact ⟨31, by decide, rfl, rfl, by decide, by decide⟩
  · exact ⟨63, by decide, rfl, rfl, by decide, by decide⟩
  · exact ⟨8, by decide, rfl, rfl, by decide, by decide⟩
  · exact ⟨16, by decide, rfl, rfl, by decide, by decide⟩
  · exact ⟨32, by decide, rfl, rfl, by decide, by decide⟩
  · exact ⟨64, by decide, rfl, rfl, by decide, by decide⟩

theorem wrap_nonneg (k : IntKind) {n : Int} (h0 : 0 ≤ n) (h1 : n ≤ k.max) : k.wrap n = n := by
  cases k <;> simp only [IntKind.max, IntKind.signed, IntKind.bits] at h1 <;> unfold IntKind.wrap <;> simp only [IntKind.bits, IntKind.signed] <;> simp at * <;> omega

theorem bv_of_nonneg {k : IntKind} {a : Int} (h0 : 0 ≤ a) (h1 : a ≤ k.max) : (BitVec.ofInt k.bits a).toNat = a.toNat := by
  obtain ⟨m, hm, hmax, hp, _, _⟩ := max_nat k
  have : a.toNat < 2 ^ k.bits := by
    have h2 : 2 ^ m ≤ 2 ^ k.bits := Nat.pow_le_pow_right (by decide) hm
    have : 0 < 2 ^ m := Nat.two_pow_pos m
    omega
  rw [BitVec.toNat_ofInt]
  obtain ⟨n, rfl⟩ : ∃ n : Nat, a = n := ⟨a.toNat, by omega⟩
  rw [← Int.natCast_emod, Int.toNat_natCast]
  simp only [Int.toNat_natCast] at this ⊢
  exact Nat.mod_eq_of_lt this

theorem bits_back {k : IntKind} {a b : Int} (ha : 0 ≤ a) (hb : 0 ≤ b) (ha' : a ≤ k.max) (hb' : b ≤ k.max) :
    (∀ op, op = BinOp.and → rawBits op k a b = ((a.toNat &&& b.toNat : Nat) : Int)) ∧ (∀ op, op = BinOp.or → rawBits op k a b = ((a.toNat ||| b.toNat : Nat) : Int)) ∧ (∀ op, op = BinOp.xor → rawBits op k a b = ((a.toNat ^^^ b.toNat : Nat) : Int)) := by
  obtain ⟨m, hm, hmax, hp, _, _⟩ := max_nat k
  have ea := bv_of_nonneg ha ha'
  have eb := bv_of_nonneg hb hb'
  have h2 : 0 < 2 ^ m := Nat.two_pow_pos m
  have la : a.toNat < 2 ^ m := by omega
  have lb : b.toNat < 2 ^ m := by omega
  refine ⟨fun op h => ?_, fun op h => ?_, fun op h => ?_⟩ <;> subst h <;> simp only [rawBits, BitVec.toNat_and, BitVec.toNat_or, BitVec.toNat_xor, ea, eb]
  · have := Nat.and_lt_two_pow a.toNat lb
    exact wrap_nonneg k (by omega) (by omega)
  · have := Nat.or_lt_two_pow la lb
    exact wrap_nonneg k (by omega) (by omega)
  · have := Nat.xor_lt_two_pow la lb
    exact wrap_nonneg k (by omega) (by omega)

theorem run_intBits (P : Program) (op : BinOp) (k : IntKind) (a b : Int) (w : World) (h : op = .and ∨ op = .or ∨ op = .xor ∨ op = .andNot) :
    (Op.intBits op k a b).run P w = .ok (.int k (rawBits op k a b)) w := by
  rcases h with rfl | rfl | rfl | rfl <;> rfl

theorem binInt_sound {P : Program} {sgn wr : Bool} {op : BinOp} {k : IntKind} {a b : Int} {K : AV → Prop} (hs : op ≠ .shl) (hs' : op ≠ .shr) (h : binInt sgn wr op k a b K) (t : TypeId) :
    ∃ v, (∃ x, K x ∧ ∀ ρ, Den ρ x v) ∧ ∀ w, (binOp op t (.int k a) (.int k b)).run P w = .ok v w := by
  have hb : ∀ (p : Bool) (v : Value), K (.bool p) → v = .bool p → (∃ x, K x ∧ ∀ ρ, Den ρ x v) := fun p v hk hv => ⟨_, hk, fun ρ => by simp [Den, hv]⟩
  have hi : ∀ (p : Int) (v : Value), K (.int k p) → v = .int k p → (∃ x, K x ∧ ∀ ρ, Den ρ x v) := fun p v hk hv => ⟨_, hk, fun ρ => by simp [Den, hv]⟩
  cases op <;> simp only [binInt, dLe_eq, dLt_eq] at h <;> simp only [binOp, ne_eq, not_true_eq_false, if_false] <;> try exact absurd rfl hs <;> try exact absurd rfl hs'
  case add => obtain ⟨m, hk, e⟩ := arith_sound h; exact ⟨_, hi m _ hk rfl, fun w => by simp [Op.intArith, e, go_sem]⟩
  case sub => obtain ⟨m, hk, e⟩ := arith_sound h; exact ⟨_, hi m _ hk rfl, fun w => by simp [Op.intArith, e, go_sem]⟩
  case mul => obtain ⟨m, hk, e⟩ := arith_sound h; exact ⟨_, hi m _ hk rfl, fun w => by simp [Op.intArith, e, go_sem]⟩
  case quo =>
    cases sgn <;> simp only at h
    · obtain ⟨⟨h0, h1, h2⟩, hk⟩ := h
      refine ⟨_, hi _ _ hk rfl, fun w => ?_⟩
      have : b ≠ 0 := by omega
      have e : k.wrap (a.tdiv b) = a / b := by
        rw [Int.tdiv_eq_ediv_of_nonneg h0]
        have h3 : 0 ≤ a / b := Int.ediv_nonneg h0 (by omega)
        have h4 : a / b ≤ a := Int.ediv_le_self b h0
        exact wrap_nonneg k h3 (by omega)
      simp [Op.intDiv, this, e, go_sem]
    · exact ⟨_, hi _ _ h.2 rfl, fun w => by simp [Op.intDiv, h.1, go_sem]⟩
  case rem =>
    cases sgn <;> simp only at h
    · obtain ⟨⟨h0, h1⟩, hk⟩ := h
      refine ⟨_, hi _ _ hk rfl, fun w => ?_⟩
      have : b ≠ 0 := by omega
      simp [Op.intDiv, this, Int.tmod_eq_emod_of_nonneg h0, go_sem]
    · exact ⟨_, hi _ _ h.2 rfl, fun w => by simp [Op.intDiv, h.1, go_sem]⟩
  case and =>
    cases sgn <;> simp only at h
    · obtain ⟨⟨h0, h1, h2, h3⟩, hk⟩ := h
      exact ⟨_, hi _ _ hk rfl, fun w => by rw [run_intBits P .and k a b w (by simp), (bits_back h0 h1 h2 h3).1 _ rfl]⟩
    · exact ⟨_, hi _ _ h rfl, fun w => run_intBits P .and k a b w (by simp)⟩
  case or =>
    cases sgn <;> simp only at h
    · obtain ⟨⟨h0, h1, h2, h3⟩, hk⟩ := h
      exact ⟨_, hi _ _ hk rfl, fun w => by rw [run_intBits P .or k a b w (by simp), (bits_back h0 h1 h2 h3).2.1 _ rfl]⟩
    · exact ⟨_, hi _ _ h rfl, fun w => run_intBits P .or k a b w (by simp)⟩
  case xor =>
    cases sgn <;> simp only at h
    · obtain ⟨⟨h0, h1, h2, h3⟩, hk⟩ := h
      exact ⟨_, hi _ _ hk rfl, fun w => by rw [run_intBits P .xor k a b w (by simp), (bits_back h0 h1 h2 h3).2.2 _ rfl]⟩
    · exact ⟨_, hi _ _ h rfl, fun w => run_intBits P .xor k a b w (by simp)⟩
  case andNot => exact ⟨_, hi _ _ h rfl, fun w => run_intBits P .andNot k a b w (by simp)⟩
  case eql => exact ⟨_, hb _ _ h rfl, fun w => by simp [Op.intCmp, go_sem]; rfl⟩
  case neq => exact ⟨_, hb _ _ h rfl, fun w => by simp [Op.intCmp, go_sem]; rfl⟩
  case lss => exact ⟨_, hb _ _ h rfl, fun w => by simp [Op.intCmp, go_sem]⟩
  case leq => exact ⟨_, hb _ _ h rfl, fun w => by simp [Op.intCmp, go_sem]⟩
  case gtr => exact ⟨_, hb _ _ h rfl, fun w => by simp [Op.intCmp, go_sem]⟩
  case geq => exact ⟨_, hb _ _ h rfl, fun w => by simp [Op.intCmp, go_sem]⟩

end Go.Fw

namespace Go.Fw
open Go Go.RowKit

def mulSz (sz n : Nat) : Nat := match sz with | 1 => n | s => n * s
theorem mulSz_eq (sz n : Nat) : mulSz sz n = n * sz := by unfold mulSz; split <;> simp

def sizeAt (T : List (Nat × TyI)) (t : Nat) : Option Nat := match tyAt T t with | some i => some i.size | none => none

/-- The element's cells of a slice's type. -/
def elemSz (T : List (Nat × TyI)) (t : Nat) : Option Nat :=
  match tyAt T t with
  | some i => (match i.d with | .slice e => sizeAt T e | _ => none)
  | none => none

def isAggT (T : List (Nat × TyI)) (t : Nat) : Option Bool :=
  match tyAt T t with
  | some i => (match i.d with | .struct _ | .array _ _ => some true | .other => none | _ => some false)
  | none => none

/-- i elements of so many cells behind off. -/
def offK (off sz i : Nat) (K : Nat → Prop) : Prop := match sz with | 1 => K (off + i) | s => K (off + i * s)
theorem offK_eq (off sz i : Nat) (K : Nat → Prop) : offK off sz i K = K (off + i * sz) := by unfold offK; split <;> simp

/-- What a cell holds. -/
def loadC (c : Cont) (off : Nat) (K : AV → Prop) : Prop :=
  match c with
  | .bools l => off < l.length ∧ K (.bool (l.getD off false))
  | .ints k l => off < l.length ∧ K (.int k (l.getD off 0))
  | .flts k l => off < l.length ∧ K (.flt k (l.getD off 0))
  | .cpxs k l => off < l.length ∧ K (.cpx k (l.getD off (0, 0)).1 (l.getD off (0, 0)).2)
  | .strs l => off < l.length ∧ K (.str (l.getD off .empty))
  | .avs l => guardT (Nat.blt off l.length) (K (slot l off))

def loadAV (T : List (Nat × TyI)) (st : St) (t : Nat) (x : AV) (K : AV → Prop) : Prop :=
  match x with
  | .ptr n off =>
    (match segAt st.hp n with
     | .seg _ c =>
       (match isAggT T t with
        | some false => loadC c off K
        | some true => (match sizeAt T t, c with
          | some s, .avs l => guardT (Nat.ble (off + s) l.length) (K (.agg ((l.drop off).take s)))
          | _, _ => False)
        | none => False)
     | _ => False)
  | _ => False

def indexAddrAV (T : List (Nat × TyI)) (t : Nat) (x i : AV) (K : AV → Prop) : Prop :=
  match x, i with
  | .slice n off len _, .int _ i =>
    (match elemSz T t with
     | some sz => (0 ≤ i ∧ i < (len : Int)) ∧ offK off sz i.toNat fun o => K (.ptr n o)
     | none => False)
  | _, _ => False

def natOf (x : Option AV) (d : Nat) (K : Nat → Prop) (c : Int → Prop) : Prop :=
  match x with
  | none => K d
  | some (.int _ i) => c i ∧ K i.toNat
  | _ => False

/-- x[lo:hi:mx]. -/
def sliceAV (T : List (Nat × TyI)) (t : Nat) (x : AV) (lo hi mx : Option AV) (K : AV → Prop) : Prop :=
  match x with
  | .slice n off len cap =>
    (match elemSz T t, mx with
     | some sz, none =>
       natOf hi len (fun h => natOf lo 0 (fun l => (match lo with | none => K (.slice n off h cap) | some _ => offK off sz l fun o => K (.slice n o (h - l) (cap - l)))) (fun i => 0 ≤ i ∧ i ≤ (h : Int))) (fun i => 0 ≤ i ∧ i ≤ (cap : Int))
     | _, _ => False)
  | .nils => (match elemSz T t, mx, hi, lo with
     | some _, none, none, none => K .nils
     | _, _, _, _ => False)
  | .str s =>
    (match tyAt T t, mx with
     | some i, none => (match i.d with
       | .str => natOf hi s.size (fun h => natOf lo 0 (fun l => K (.str (s.extract l h))) (fun i => 0 ≤ i ∧ i ≤ (h : Int))) (fun i => 0 ≤ i ∧ i ≤ (s.size : Int))
       | _ => False)
     | _, _ => False)
  | _ => False

def lenAV (T : List (Nat × TyI)) (t : Nat) (x : AV) (K : AV → Prop) : Prop :=
  match tyAt T t with
  | some i => (match i.d, x with
    | .slice _, .slice _ _ len _ => K (.int .i64 len)
    | .slice _, .nils => K (.int .i64 0)
    | .str, .str s => K (.int .i64 s.size)
    | .array n _, _ => K (.int .i64 n)
    | _, _ => False)
  | none => False

def capAV (T : List (Nat × TyI)) (t : Nat) (x : AV) (K : AV → Prop) : Prop :=
  match tyAt T t with
  | some i => (match i.d, x with
    | .slice _, .slice _ _ _ cap => K (.int .i64 cap)
    | .slice _, .nils => K (.int .i64 0)
    | _, _ => False)
  | none => False

def min2AV (x y : AV) (K : AV → Prop) : Prop := match x, y with | .int k a, .int _ b => K (.int k (min a b)) | _, _ => False
def max2AV (x y : AV) (K : AV → Prop) : Prop := match x, y with | .int k a, .int _ b => K (.int k (max a b)) | _, _ => False
def minsAV : AV → List AV → (AV → Prop) → Prop
  | x, [], K => K x
  | x, y :: r, K => min2AV x y fun z => minsAV z r K
def maxsAV : AV → List AV → (AV → Prop) → Prop
  | x, [], K => K x
  | x, y :: r, K => max2AV x y fun z => maxsAV z r K

/-- A string's byte. -/
def byteAt (s : ByteArray) (i : Nat) : Nat := (s.data.toList.getD i 0).toNat

def indexAV (T : List (Nat × TyI)) (t : Nat) (x i : AV) (K : AV → Prop) : Prop :=
  match x, i with
  | .str s, .int _ i => (match tyAt T t with
    | some ti => (match ti.d with
      | .str => (0 ≤ i ∧ i < (s.size : Int)) ∧ K (.int .u8 (byteAt s i.toNat))
      | _ => False)
    | none => False)
  | _, _ => False

def convAV (T : List (Nat × TyI)) (src dst : Nat) (x : AV) (K : AV → Prop) : Prop :=
  match tyAt T src, tyAt T dst with
  | some i, some j =>
    (match i.d, j.d, x with
     | .int _, .int k, .int _ n => K (.int k (k.wrap n))
     | .str, .str, .str s => K (.str s)
     | _, _, _ => False)
  | _, _ => False

def binAV (C : Cfg) (rg : Nat) (op : BinOp) (t : Nat) (x y : AV) (K : AV → Prop) : Prop :=
  match x, y with
  | .int k a, .int k' b =>
    (match op with
     | .shl => (0 ≤ b ∧ b < 64) ∧ arith (C.wr rg) k (a * 2 ^ (min b.toNat k.bits)) K
     | .shr => (0 ≤ b ∧ b < 64) ∧ K (.int k (a / 2 ^ (min b.toNat k.bits)))
     | op => guardT (ikEq k k') (binInt (C.sgn rg) (C.wr rg) op k a b K))
  | .bool a, .bool b =>
    (match tyAt C.T t with
     | some i => (match i.d, op with
       | .bool, .eql => K (.bool (a == b))
       | .bool, .neq => K (.bool (a != b))
       | _, _ => False)
     | none => False)
  | .str a, .str b =>
    (match op with
     | .eql => K (.bool (a.toList == b.toList))
     | .neq => K (.bool (!(a.toList == b.toList)))
     | _ => False)
  | _, _ => False

def unAV (wr : Bool) (op : UnOp) (x : AV) (K : AV → Prop) : Prop :=
  match op, x with
  | .not, .bool b => K (.bool (!b))
  | .neg, .int k n => arith wr k (0 - n) K
  | _, _ => False

def fldAt (T : List (Nat × TyI)) (t f : Nat) : Option (Nat × Nat) :=
  match tyAt T t with
  | some i => (match i.d with | .struct fs => fs[f]? | _ => none)
  | none => none
def evOp (C : Cfg) (rg : Nat) (st : St) (o : Oper) (K : AV → Prop) : Prop :=
  match o.op with
  | .move x => K (av st x)
  | .assign x => K (av st x)
  | .pick c a b => (match av st c with
    | .bool t => (match t with | true => K (av st a) | false => K (av st b))
    | _ => False)
  | .binOp op t x y _ => binAV C rg op t (av st x) (av st y) K
  | .unOp op _ x => unAV (C.wr rg) op (av st x) K
  | .convert src dst x => convAV C.T src dst (av st x) K
  | .extract x i => (match av st x with
    | .tup vs => guardT (Nat.blt i vs.length) (K (slot vs i))
    | _ => False)
  | .load t x => loadAV C.T st t (av st x) K
  | .indexAddr t x i => indexAddrAV C.T t (av st x) (av st i) K
  | .index t x i => indexAV C.T t (av st x) (av st i) K
  | .slice t x lo hi mx => sliceAV C.T t (av st x) (lo.map (av st)) (hi.map (av st)) (mx.map (av st)) K
  | .fieldAddr t x f => (match av st x, fldAt C.T t f with
    | .ptr n off, some (o, e) => (match sizeAt C.T e with | some (_ + 1) => K (.ptr n (off + o)) | _ => False)
    | _, _ => False)
  | .nilCheck x => (match av st x with
    | .ptr n off => K (.ptr n off)
    | .fn f cs => K (.fn f cs)
    | _ => False)
  | .makeFunc (.func f) first caps => (match first.toList with
    | [] => K (.fn f (caps.toList.map (av st)))
    | _ => False)
  | .call c => (match c.callee, c.args.toList, c.argTypes.toList with
    | .builtin .len, [x], [t] => lenAV C.T t (av st x) K
    | .builtin .cap, [x], [t] => capAV C.T t (av st x) K
    | .builtin .min, x :: r, _ => minsAV (av st x) (r.map (av st)) K
    | .builtin .max, x :: r, _ => maxsAV (av st x) (r.map (av st)) K
    | _, _, _ => False)
  | _ => False
end Go.Fw

namespace Go.Fw
open Go Go.RowKit

section
variable {P : Program} {T : List (Nat × TyI)}

theorem und_of {t : Nat} {i : TyI} (h : Agrees P t i) : ∃ d, P.underlying t = some d ∧ tyOf d = i.d := by
  have := h.1
  cases hd : P.underlying t with
  | none => simp [hd] at this
  | some d => exact ⟨d, rfl, by simpa [hd] using this⟩

theorem und_slice {t : Nat} {i : TyI} {e : TypeId} (h : Agrees P t i) (hi : i.d = .slice e) : P.underlying t = some (.slice e) := by
  obtain ⟨d, hd, ht⟩ := und_of h
  rw [hi] at ht
  cases d <;> simp [tyOf] at ht
  subst ht; exact hd
theorem und_str {t : Nat} {i : TyI} (h : Agrees P t i) (hi : i.d = .str) : P.underlying t = some .string := by
  obtain ⟨d, hd, ht⟩ := und_of h
  rw [hi] at ht
  cases d <;> simp [tyOf] at ht
  exact hd
theorem und_bool {t : Nat} {i : TyI} (h : Agrees P t i) (hi : i.d = .bool) : P.underlying t = some .bool := by
  obtain ⟨d, hd, ht⟩ := und_of h
  rw [hi] at ht
  cases d <;> simp [tyOf] at ht
  exact hd
theorem und_int {t : Nat} {i : TyI} {k : IntKind} (h : Agrees P t i) (hi : i.d = .int k) : P.underlying t = some (.int k) := by
  obtain ⟨d, hd, ht⟩ := und_of h
  rw [hi] at ht
  cases d <;> simp [tyOf] at ht
  subst ht; exact hd
theorem und_array {t : Nat} {i : TyI} {n e : Nat} (h : Agrees P t i) (hi : i.d = .array n e) : P.underlying t = some (.array n e) := by
  obtain ⟨d, hd, ht⟩ := und_of h
  rw [hi] at ht
  cases d <;> simp [tyOf] at ht
  obtain ⟨rfl, rfl⟩ := ht; exact hd

theorem info_of {t : Nat} {i : TyI} (h : Agrees P t i) : ∃ j, P.info? t = some j ∧ j.size = i.size ∧ j.bytes = i.bytes ∧ j.zero = some i.zero := by
  have := h.2
  cases hd : P.info? t with
  | none => simp [hd] at this
  | some d => simp only [hd, Option.map_some, Option.some.injEq, Prod.mk.injEq] at this; exact ⟨d, rfl, this⟩

theorem run_sizeOf {t : Nat} {i : TyI} (h : Agrees P t i) (w : World) : (sizeOf t).run P w = .ok i.size w := by
  obtain ⟨j, h1, h2, _, _⟩ := info_of h
  simp [sizeOf, typeInfo, h1, h2, go_sem]

theorem run_isAgg {t : Nat} {i : TyI} (h : Agrees P t i) (w : World) (b : Bool) (hb : isAggT T t = some b) (ht : tyAt T t = some i) : (isAgg t).run P w = .ok b w := by
  obtain ⟨d, hd, hty⟩ := und_of h
  unfold isAggT at hb
  rw [ht] at hb
  simp only [← hty] at hb
  unfold isAgg
  simp only [Sem.run_bind, run_underlying hd, Result.andThen_ok]
  cases d <;> simp [tyOf] at hb <;> subst hb <;> rfl

theorem elemSz_some {t sz : Nat} (hT : TOk P T) (h : elemSz T t = some sz) : ∃ e j, P.underlying t = some (.slice e) ∧ tyAt T e = some j ∧ j.size = sz := by
  unfold elemSz at h
  split at h
  · rename_i i hi
    split at h
    · rename_i e he
      unfold sizeAt at h
      split at h
      · rename_i j hj
        exact ⟨e, j, und_slice (hT.at hi) he, hj, by simpa using h⟩
      · cases h
    · cases h
  · cases h

def Yields (P : Program) (o : Oper) (a : Act) (w : World) (v : Value) : Prop :=
  ∀ w' : World, w'.heap = w.heap → (execOp a.eval o).run P w' = .ok (.value v) w'

/-- What a Sem of a value says, in every world with this heap. -/
def RunsTo (P : Program) (s : Sem Value) (w : World) (v : Value) : Prop := ∀ w' : World, w'.heap = w.heap → s.run P w' = .ok v w'

theorem yields_of {o : Oper} {a : Act} {w : World} {v : Value} {s : Sem Value} (hs : execOp a.eval o = (do pure (.value (← s)))) (h : RunsTo P s w v) : Yields P o a w v := by
  intro w' hw
  rw [hs]
  simp [h w' hw]

theorem cell_same {w w' : World} (h : w'.heap = w.heap) (a : Addr) : w'.cell? a = w.cell? a := by simp [World.cell?, h]

theorem addr_add (b o n : Nat) : (⟨b, o, none⟩ : Addr).add n = ⟨b, o + n, none⟩ := by
  unfold Addr.add; split <;> simp_all

theorem indexAddr_sound (hT : TOk P T) {t : Nat} {x i : AV} {K : AV → Prop} (h : indexAddrAV T t x i K) :
    ∃ y, K y ∧ ∀ (ρ : Plc) (w : World) vx vi, Den ρ x vx → Den ρ i vi → ∃ v, Den ρ y v ∧ RunsTo P (Instr.indexAt t vx vi) w v := by
  unfold indexAddrAV at h
  split at h
  · rename_i n off len cap k i
    split at h
    · rename_i sz hsz
      obtain ⟨⟨h0, h1⟩, hk⟩ := h
      rw [offK_eq] at hk
      obtain ⟨e, j, hu, hj, hjs⟩ := elemSz_some hT hsz
      refine ⟨_, hk, fun ρ w vx vi hx hi => ?_⟩
      simp only [Den] at hx hi
      subst hi
      rcases hx with ⟨hn, hlc, rfl | ⟨hl, _⟩⟩
      · refine ⟨_, by simp only [Den]; exact ⟨hn, rfl⟩, fun w' _ => ?_⟩
        have h2 : i < (len : Int) := h1
        simp [Instr.indexAt, asIntOf, go_sem, run_underlying hu, h0, h2, run_sizeOf (hT.at hj), hjs, addr_add, Nat.add_assoc]
      · omega
    · exact h.elim
  · exact h.elim


theorem natOf_out {x : Option AV} {d : Nat} {K : Nat → Prop} {c : Int → Prop} (h : natOf x d K c) :
    (x = none ∧ K d) ∨ ∃ k i, x = some (.int k i) ∧ c i ∧ K i.toNat := by
  unfold natOf at h
  split at h
  · exact .inl ⟨rfl, h⟩
  · exact .inr ⟨_, _, rfl, h⟩
  · exact h.elim

theorem run_sliceBound_in {k : IntKind} {i : Int} {y : Nat} {code : BoundsCode} (h : 0 ≤ i ∧ i ≤ (y : Int)) (w : World) :
    (Instr.sliceBound (.int k i) y code).run P w = .ok i.toNat w := by
  simp [Instr.sliceBound, asIntOf, go_sem, h]

/-- The two bounds, none or given, in every world. -/
theorem run_sliceBounds {b : Bool} {len cap : Nat} {lo hi : Option Value} {h l : Nat}
    (hh : (hi = none ∧ h = len) ∨ ∃ k i, hi = some (.int k i) ∧ 0 ≤ i ∧ i ≤ (cap : Int) ∧ h = i.toNat)
    (hl : (lo = none ∧ l = 0) ∨ ∃ k i, lo = some (.int k i) ∧ 0 ≤ i ∧ i ≤ (h : Int) ∧ l = i.toNat) (w : World) :
    (Instr.sliceBounds b len cap lo hi none).run P w = .ok (l, h, cap) w := by
  unfold Instr.sliceBounds
  rcases hh with ⟨rfl, rfl⟩ | ⟨k, i, rfl, h1, h2, rfl⟩ <;> rcases hl with ⟨rfl, rfl⟩ | ⟨k', i', rfl, h3, h4, rfl⟩
  · simp [go_sem]
  · simp [go_sem, run_sliceBound_in ⟨h3, h4⟩]
  · simp [go_sem, run_sliceBound_in ⟨h1, h2⟩]
  · have e := run_sliceBound_in (P := P) (k := k') (code := .sliceB) ⟨h3, h4⟩ w
    have e1 : ∀ c, (Instr.sliceBound (.int k i) cap c).run P w = .ok i.toNat w := fun c => run_sliceBound_in ⟨h1, h2⟩ w
    simp only [Sem.run_bind, Sem.run_pure, Result.andThen_ok, e1, Option.isSome_none, Bool.false_eq_true, if_false, e]

theorem den_opt {ρ : Plc} {st : St} {a : Act} (hd : ∀ x, Den ρ (av st x) (a.eval x)) {lo : Option Operand} {k : IntKind} {i : Int} (h : lo.map (av st) = some (.int k i)) : lo.map a.eval = some (.int k i) := by
  cases lo with
  | none => simp at h
  | some x =>
    simp only [Option.map_some, Option.some.injEq] at h ⊢
    have := hd x
    rw [h] at this
    simpa [Den] using this

theorem map_none {α β : Type} {f : α → β} {x : Option α} (h : x.map f = none) : x = none := by cases x <;> simp_all

theorem slice_sound (hT : TOk P T) {t : Nat} {lo hi mx : Option Operand} {st : St} {K : AV → Prop} {xo : Operand} (h : sliceAV T t (av st xo) (lo.map (av st)) (hi.map (av st)) (mx.map (av st)) K) :
    ∃ y, K y ∧ ∀ (ρ : Plc) (a : Act) (w : World), (∀ x, Den ρ (av st x) (a.eval x)) → ∃ v, Den ρ y v ∧ RunsTo P (Instr.sliceAt t (a.eval xo) (lo.map a.eval) (hi.map a.eval) (mx.map a.eval)) w v := by
  unfold sliceAV at h
  split at h
  · rename_i n off len cap hxo
    split at h
    · rename_i sz hsz hmx
      have hmx := map_none hmx; subst hmx
      obtain ⟨e, j, hu, hj, hjs⟩ := elemSz_some hT hsz
      obtain ⟨h', hh', h⟩ : ∃ h', ((hi = none ∧ h' = len) ∨ ∃ k i, hi.map (av st) = some (.int k i) ∧ 0 ≤ i ∧ i ≤ (cap : Int) ∧ h' = i.toNat) ∧
          natOf (lo.map (av st)) 0 (fun l => (match lo.map (av st) with | none => K (.slice n off h' cap) | some _ => offK off sz l fun o => K (.slice n o (h' - l) (cap - l)))) (fun i => 0 ≤ i ∧ i ≤ (h' : Int)) := by
        rcases natOf_out h with ⟨e1, e2⟩ | ⟨k, i, e1, e2, e3⟩
        · exact ⟨_, .inl ⟨map_none e1, rfl⟩, e2⟩
        · exact ⟨_, .inr ⟨k, i, e1, e2.1, e2.2, rfl⟩, e3⟩
      have hle : len ≤ cap → h' ≤ cap := fun h0 => by
        rcases hh' with ⟨_, e⟩ | ⟨k, i, _, e1, e2, e3⟩ <;> omega
      have key : ∀ (ρ : Plc) (a : Act) (w : World) (l : Nat), (∀ x, Den ρ (av st x) (a.eval x)) → ((lo = none ∧ l = 0) ∨ ∃ k i, lo.map (av st) = some (.int k i) ∧ 0 ≤ i ∧ i ≤ (h' : Int) ∧ l = i.toNat) →
          ∃ v, Den ρ (.slice n (if cap = l then off else off + l * sz) (h' - l) (cap - l)) v ∧ h' ≤ cap ∧ RunsTo P (Instr.sliceAt t (a.eval xo) (lo.map a.eval) (hi.map a.eval) none) w v := by
        intro ρ a w l hd hl
        have hx := hd xo
        rw [hxo] at hx
        simp only [Den] at hx
        have hb : ∀ w', (Instr.sliceBounds true len cap (lo.map a.eval) (hi.map a.eval) none).run P w' = .ok (l, h', cap) w' := fun w' => by
          refine run_sliceBounds ?_ ?_ w'
          · rcases hh' with ⟨rfl, rfl⟩ | ⟨k, i, e1, e2, e3, e4⟩
            · exact .inl ⟨rfl, rfl⟩
            · exact .inr ⟨k, i, den_opt hd e1, e2, e3, e4⟩
          · rcases hl with ⟨rfl, rfl⟩ | ⟨k, i, e1, e2, e3, e4⟩
            · exact .inl ⟨rfl, rfl⟩
            · exact .inr ⟨k, i, den_opt hd e1, e2, e3, e4⟩
        have hs : ∀ (b : Option Addr) (w' : World), a.eval xo = .slice b len cap → (Instr.sliceAt t (a.eval xo) (lo.map a.eval) (hi.map a.eval) none).run P w' = .ok (.slice (if cap = l then b else b.map (·.add (l * sz))) (h' - l) (cap - l)) w' := fun b w' hb' => by
          rw [hb']
          simp only [Instr.sliceAt, Instr.slice, Sem.run_bind, run_underlying hu, Result.andThen_ok, hb w', run_sizeOf (hT.at hj), hjs, Sem.run_pure]
        have hhc := hle hx.2.1
        rcases hx with ⟨hn, hlc, hx | ⟨h1, b, hx⟩⟩
        · refine ⟨_, ⟨hn, by omega, .inl ?_⟩, hhc, fun w' _ => hs _ w' hx⟩
          by_cases hc : cap = l
          · simp [hc]
          · simp [hc, addr_add, Nat.add_assoc]
        · obtain rfl : len = 0 := by omega
          subst h1
          exact ⟨_, ⟨hn, by omega, .inr ⟨by omega, _, by rw [show h' - l = 0 by omega, show 0 - l = 0 by omega]⟩⟩, hhc, fun w' _ => hs _ w' hx⟩
      rcases natOf_out h with ⟨e1, e2⟩ | ⟨k, i, e1, e2, e3⟩
      · simp only [e1] at e2
        have := map_none e1; subst this
        refine ⟨_, e2, fun ρ a w hd => ?_⟩
        obtain ⟨v, hv, _, hr⟩ := key ρ a w 0 hd (.inl ⟨rfl, rfl⟩)
        refine ⟨v, ?_, hr⟩
        simpa using hv
      · simp only [e1, offK_eq] at e3
        refine ⟨_, e3, fun ρ a w hd => ?_⟩
        obtain ⟨v, hv, hhc, hr⟩ := key ρ a w i.toNat hd (.inr ⟨k, i, e1, e2.1, e2.2, rfl⟩)
        refine ⟨v, ?_, hr⟩
        by_cases hc : cap = i.toNat
        · have := e2.2
          have e0 : h' - i.toNat = 0 := by omega
          have e00 : cap - i.toNat = 0 := by omega
          simp only [Den, e0, e00] at hv ⊢
          refine ⟨hv.1, Nat.le_refl _, .inr ⟨trivial, ?_⟩⟩
          rcases hv with ⟨_, _, hv | ⟨_, hv⟩⟩
          · exact ⟨_, hv⟩
          · exact hv
        · rw [if_neg hc] at hv
          exact hv
    · exact h.elim
  · rename_i hxo
    split at h
    · rename_i sz hsz hmx hhi hlo
      have hmx := map_none hmx; subst hmx
      have hhi := map_none hhi; subst hhi
      have hlo := map_none hlo; subst hlo
      obtain ⟨e, j, hu, hj, hjs⟩ := elemSz_some hT hsz
      refine ⟨_, h, fun ρ a w hd => ⟨_, by simp only [Den]; rfl, fun w' _ => ?_⟩⟩
      have hx := hd xo
      rw [hxo] at hx
      simp only [Den] at hx
      rw [hx]
      simp [Instr.sliceAt, Instr.slice, go_sem, run_underlying hu, run_sizeOf (hT.at hj), Instr.sliceBounds]
    · exact h.elim
  · rename_i s hxo
    split at h
    · rename_i ti hti hmx
      have hmx := map_none hmx; subst hmx
      split at h
      · rename_i hid
        have hu := und_str (hT.at hti) hid
        obtain ⟨h', hh', h⟩ : ∃ h', ((hi = none ∧ h' = s.size) ∨ ∃ k i, hi.map (av st) = some (.int k i) ∧ 0 ≤ i ∧ i ≤ (s.size : Int) ∧ h' = i.toNat) ∧
            natOf (lo.map (av st)) 0 (fun l => K (.str (s.extract l h'))) (fun i => 0 ≤ i ∧ i ≤ (h' : Int)) := by
          rcases natOf_out h with ⟨e1, e2⟩ | ⟨k, i, e1, e2, e3⟩
          · exact ⟨_, .inl ⟨map_none e1, rfl⟩, e2⟩
          · exact ⟨_, .inr ⟨k, i, e1, e2.1, e2.2, rfl⟩, e3⟩
        obtain ⟨l, hl, h⟩ : ∃ l, ((lo = none ∧ l = 0) ∨ ∃ k i, lo.map (av st) = some (.int k i) ∧ 0 ≤ i ∧ i ≤ (h' : Int) ∧ l = i.toNat) ∧ K (.str (s.extract l h')) := by
          rcases natOf_out h with ⟨e1, e2⟩ | ⟨k, i, e1, e2, e3⟩
          · exact ⟨_, .inl ⟨map_none e1, rfl⟩, e2⟩
          · exact ⟨_, .inr ⟨k, i, e1, e2.1, e2.2, rfl⟩, e3⟩
        refine ⟨_, h, fun ρ a w hd => ⟨_, by simp only [Den]; rfl, fun w' _ => ?_⟩⟩
        have hx := hd xo
        rw [hxo] at hx
        simp only [Den] at hx
        have hb : ∀ w', (Instr.sliceBounds false s.size s.size (lo.map a.eval) (hi.map a.eval) none).run P w' = .ok (l, h', s.size) w' := fun w' => by
          refine run_sliceBounds ?_ ?_ w'
          · rcases hh' with ⟨rfl, rfl⟩ | ⟨k, i, e1, e2, e3, e4⟩
            · exact .inl ⟨rfl, rfl⟩
            · exact .inr ⟨k, i, den_opt hd e1, e2, e3, e4⟩
          · rcases hl with ⟨rfl, rfl⟩ | ⟨k, i, e1, e2, e3, e4⟩
            · exact .inl ⟨rfl, rfl⟩
            · exact .inr ⟨k, i, den_opt hd e1, e2, e3, e4⟩
        rw [hx]
        simp only [Instr.sliceAt, Instr.slice, Sem.run_bind, run_underlying hu, Result.andThen_ok, Option.map_none, Option.isSome_none, Bool.false_eq_true, if_false, hb w', Sem.run_pure]
      · exact h.elim
    · exact h.elim
  · exact h.elim

end
end Go.Fw

namespace Go.Fw
open Go Go.RowKit

section
variable {P : Program} {T : List (Nat × TyI)}

/-- y is what s says, in every world with this heap. -/
def Says (P : Program) (s : Sem Value) (w : World) (ρ : Plc) (y : AV) : Prop := ∃ v, Den ρ y v ∧ RunsTo P s w v

theorem len_sound (hT : TOk P T) {t : Nat} {x : AV} {K : AV → Prop} (h : lenAV T t x K) :
    ∃ y, K y ∧ ∀ (ρ : Plc) (w : World) vx ty, Den ρ x vx → Says P (Builtin.len_ #[t] ty #[vx]) w ρ y := by
  unfold lenAV at h
  split at h
  · rename_i i hi
    split at h
    · rename_i e n off len cap hid
      refine ⟨_, h, fun ρ w vx ty hx => ⟨_, by simp only [Den]; rfl, fun w' _ => ?_⟩⟩
      simp only [Den] at hx
      obtain ⟨b, hb⟩ : ∃ b, vx = .slice b len cap := by
        rcases hx with ⟨hn, hl, rfl | ⟨rfl, a, rfl⟩⟩
        · exact ⟨_, rfl⟩
        · exact ⟨a, by rw [show len = 0 by omega]⟩
      subst hb
      simp [Builtin.len_, go_sem, run_underlying (und_slice (hT.at hi) hid), goInt]
    · rename_i e hid
      refine ⟨_, h, fun ρ w vx ty hx => ⟨_, by simp only [Den]; rfl, fun w' _ => ?_⟩⟩
      simp only [Den] at hx
      subst hx
      simp [Builtin.len_, go_sem, run_underlying (und_slice (hT.at hi) hid), goInt]
    · rename_i s hid
      refine ⟨_, h, fun ρ w vx ty hx => ⟨_, by simp only [Den]; rfl, fun w' _ => ?_⟩⟩
      simp only [Den] at hx
      subst hx
      simp [Builtin.len_, go_sem, run_underlying (und_str (hT.at hi) hid), goInt]
    · rename_i n e x hid
      refine ⟨_, h, fun ρ w vx ty hx => ⟨_, by simp only [Den]; rfl, fun w' _ => ?_⟩⟩
      simp [Builtin.len_, go_sem, run_underlying (und_array (hT.at hi) hid), goInt]
    · exact h.elim
  · exact h.elim

theorem cap_sound (hT : TOk P T) {t : Nat} {x : AV} {K : AV → Prop} (h : capAV T t x K) :
    ∃ y, K y ∧ ∀ (ρ : Plc) (w : World) vx ty, Den ρ x vx → Says P (Builtin.cap_ #[t] ty #[vx]) w ρ y := by
  unfold capAV at h
  split at h
  · rename_i i hi
    split at h
    · rename_i e n off len cap hid
      refine ⟨_, h, fun ρ w vx ty hx => ⟨_, by simp only [Den]; rfl, fun w' _ => ?_⟩⟩
      simp only [Den] at hx
      obtain ⟨b, hb⟩ : ∃ b, vx = .slice b len cap := by
        rcases hx with ⟨hn, hl, rfl | ⟨rfl, a, rfl⟩⟩
        · exact ⟨_, rfl⟩
        · exact ⟨a, by rw [show len = 0 by omega]⟩
      subst hb
      simp [Builtin.cap_, go_sem, run_underlying (und_slice (hT.at hi) hid), goInt]
    · rename_i e hid
      refine ⟨_, h, fun ρ w vx ty hx => ⟨_, by simp only [Den]; rfl, fun w' _ => ?_⟩⟩
      simp only [Den] at hx
      subst hx
      simp [Builtin.cap_, go_sem, run_underlying (und_slice (hT.at hi) hid), goInt]
    · exact h.elim
  · exact h.elim

theorem mins_sound {K : AV → Prop} : ∀ (ys : List AV) (x : AV), minsAV x ys K →
    ∃ y, K y ∧ ∀ (ρ : Plc) vx vs, Den ρ x vx → Dens ρ ys vs → ∃ v, Den ρ y v ∧ ∀ w : World, (vs.foldlM Builtin.min2 vx).run P w = .ok v w
  | [], x, h => ⟨x, h, fun ρ vx vs hx hs => by simp only [Dens] at hs; subst hs; exact ⟨vx, hx, fun w => rfl⟩⟩
  | y :: ys, x, h => by
    unfold minsAV min2AV at h
    split at h
    · rename_i k a k' b
      obtain ⟨z, hz, hh⟩ := mins_sound ys _ h
      refine ⟨z, hz, fun ρ vx vs hx hs => ?_⟩
      simp only [Dens, Den] at hs hx
      obtain ⟨v, r, rfl, h1, h2⟩ := hs
      subst hx; subst h1
      obtain ⟨u, hu, hr⟩ := hh ρ (.int k (min a b)) r (by simp [Den]) h2
      refine ⟨u, hu, fun w => ?_⟩
      have : (if b < a then b else a) = min a b := by rw [Int.min_def]; split <;> split <;> omega
      simp only [List.foldlM_cons, Sem.run_bind, Builtin.min2, Sem.run_pure, Result.andThen_ok, this, hr]
    · exact h.elim

theorem maxs_sound {K : AV → Prop} : ∀ (ys : List AV) (x : AV), maxsAV x ys K →
    ∃ y, K y ∧ ∀ (ρ : Plc) vx vs, Den ρ x vx → Dens ρ ys vs → ∃ v, Den ρ y v ∧ ∀ w : World, (vs.foldlM Builtin.max2 vx).run P w = .ok v w
  | [], x, h => ⟨x, h, fun ρ vx vs hx hs => by simp only [Dens] at hs; subst hs; exact ⟨vx, hx, fun w => rfl⟩⟩
  | y :: ys, x, h => by
    unfold maxsAV max2AV at h
    split at h
    · rename_i k a k' b
      obtain ⟨z, hz, hh⟩ := maxs_sound ys _ h
      refine ⟨z, hz, fun ρ vx vs hx hs => ?_⟩
      simp only [Dens, Den] at hs hx
      obtain ⟨v, r, rfl, h1, h2⟩ := hs
      subst hx; subst h1
      obtain ⟨u, hu, hr⟩ := hh ρ (.int k (max a b)) r (by simp [Den]) h2
      refine ⟨u, hu, fun w => ?_⟩
      have : (if b > a then b else a) = max a b := by rw [Int.max_def]; split <;> split <;> omega
      simp only [List.foldlM_cons, Sem.run_bind, Builtin.max2, Sem.run_pure, Result.andThen_ok, this, hr]
    · exact h.elim

theorem index_sound (hT : TOk P T) {t : Nat} {x i : AV} {K : AV → Prop} (h : indexAV T t x i K) :
    ∃ y, K y ∧ ∀ (ρ : Plc) (w : World) vx vi, Den ρ x vx → Den ρ i vi → Says P (Instr.index t vx vi) w ρ y := by
  unfold indexAV at h
  split at h
  · rename_i s k i
    split at h
    · rename_i ti hti
      split at h
      · rename_i hid
        obtain ⟨⟨h0, h1⟩, hk⟩ := h
        refine ⟨_, hk, fun ρ w vx vi hx hi => ⟨_, by simp only [Den]; rfl, fun w' _ => ?_⟩⟩
        simp only [Den] at hx hi
        subst hx; subst hi
        have hlt : i.toNat < s.size := by omega
        have hg : s[i.toNat]? = some (s.data.toList.getD i.toNat 0) := by
          have h2 : i.toNat < s.data.size := hlt
          simp only [getElem?, decidableGetElem?, hlt, dite_true, Option.some.injEq]
          change s.data[i.toNat] = _
          rw [List.getD_eq_getElem?_getD, Array.getElem?_toList, Array.getElem?_eq_getElem h2]; rfl
        simp [Instr.index, byteAt, asIntOf, go_sem, run_underlying (und_str (hT.at hti) hid), h0, hg]
      · exact h.elim
    · exact h.elim
  · exact h.elim

theorem conv_sound (hT : TOk P T) {src dst : Nat} {x : AV} {K : AV → Prop} (h : convAV T src dst x K) :
    ∃ y, K y ∧ ∀ (ρ : Plc) (w : World) vx, Den ρ x vx → Says P (convert src dst vx) w ρ y := by
  unfold convAV at h
  split at h
  · rename_i i j hi hj
    split at h
    · rename_i k1 k k' n hid hjd
      refine ⟨_, h, fun ρ w vx hx => ⟨_, by simp only [Den]; rfl, fun w' _ => ?_⟩⟩
      simp only [Den] at hx
      subst hx
      simp [convert, Conv.intToInt, go_sem, run_underlying (und_int (hT.at hi) hid), run_underlying (und_int (hT.at hj) hjd)]
    · rename_i s hid hjd
      refine ⟨_, h, fun ρ w vx hx => ⟨_, by simp only [Den]; rfl, fun w' _ => ?_⟩⟩
      simp only [Den] at hx
      subst hx
      simp [convert, go_sem, run_underlying (und_str (hT.at hi) hid), run_underlying (und_str (hT.at hj) hjd)]
    · exact h.elim
  · exact h.elim

theorem un_sound {wr : Bool} {op : UnOp} {x : AV} {K : AV → Prop} (h : unAV wr op x K) :
    ∃ y, K y ∧ ∀ (ρ : Plc) (w : World) vx, Den ρ x vx → Says P (Op.unary op vx) w ρ y := by
  unfold unAV at h
  split at h
  · refine ⟨_, h, fun ρ w vx hx => ⟨_, by simp only [Den]; rfl, fun w' _ => ?_⟩⟩
    simp only [Den] at hx
    subst hx
    simp [Op.unary, go_sem]
  · obtain ⟨m, hm, e⟩ := arith_sound h
    refine ⟨_, hm, fun ρ w vx hx => ⟨_, by simp only [Den]; rfl, fun w' _ => ?_⟩⟩
    simp only [Den] at hx
    subst hx
    simp [Op.unary, Op.intArith, go_sem, ← e]
  · exact h.elim

theorem loadC_sound {c : Cont} {off : Nat} {K : AV → Prop} (h : loadC c off K) : ∃ y, K y ∧ c.avl[off]? = some y := by
  unfold loadC at h
  simp only [guardT_eq] at h
  split at h
  · exact ⟨_, h.2, by simp [Cont.avl, h.1]⟩
  · exact ⟨_, h.2, by simp [Cont.avl, h.1]⟩
  · exact ⟨_, h.2, by simp [Cont.avl, h.1]⟩
  · exact ⟨_, h.2, by simp [Cont.avl, h.1]⟩
  · exact ⟨_, h.2, by simp [Cont.avl, h.1]⟩
  · rename_i l
    have hlt : off < l.length := by simpa [Nat.blt_eq] using h.1
    exact ⟨_, h.2, by simp [Cont.avl, slot_eq, hlt]⟩

theorem run_loadCells {w : World} {b o : Nat} : ∀ (n i : Nat) (vs : List Value) (acc : Array Value), vs.length = n → (∀ j v, vs[j]? = some v → w.cell? ⟨b, o + i + j, none⟩ = some v) →
    (loadCellsFrom ⟨b, o, none⟩ i n acc).run P w = .ok (acc ++ vs.toArray) w
  | 0, i, vs, acc, hl, h => by
    have : vs = [] := List.eq_nil_of_length_eq_zero hl
    subst this
    simp [loadCellsFrom]
  | n + 1, i, [], acc, hl, h => by simp at hl
  | n + 1, i, v :: vs, acc, hl, h => by
    have h0 := h 0 v rfl
    have ih := run_loadCells (w := w) (b := b) (o := o) n (i + 1) vs (acc.push v) (by simpa using hl) (fun j u hj => by
      have := h (j + 1) u (by simpa using hj)
      rw [← this]; congr 2; omega)
    simp only [Nat.add_zero] at h0
    simp only [loadCellsFrom, Sem.run_bind, load, addr_add, Sem.run, h0, Result.andThen_ok, ih]
    simp

theorem load_sound (hT : TOk P T) {t : Nat} {x : AV} {st : St} {K : AV → Prop} (h : loadAV T st t x K) :
    ∃ y, K y ∧ ∀ (w0 : World) (L : Nat → Prop) (ρ : Plc) (w : World) vx, HeapOk w0.heap.size L ρ st.hp w → Den ρ x vx → Says P (Instr.loadAt t vx) w ρ y := by
  unfold loadAV at h
  simp only [guardT_eq] at h
  split at h
  · rename_i n off
    split at h
    · rename_i own c hseg
      have hs := segAt_some _ _ hseg
      split at h
      · rename_i hagg
        obtain ⟨y, hy, hc⟩ := loadC_sound h
        refine ⟨y, hy, fun w0 L ρ w vx hh hx => ?_⟩
        simp only [Den] at hx
        obtain ⟨_, rfl⟩ := hx
        obtain ⟨v, h1, h2, _, _⟩ := hh.cells n _ hs off y hc
        refine ⟨v, h2, fun w' hw => ?_⟩
        obtain ⟨i, hi⟩ : ∃ i, tyAt T t = some i := by
          unfold isAggT at hagg
          split at hagg
          · exact ⟨_, ‹_›⟩
          · cases hagg
        have hl : (load ⟨(pl ρ n).1, (pl ρ n).2 + off, none⟩).run P w' = .ok v w' := by simp only [load, Sem.run, cell_same hw, h1]
        simp only [Instr.loadAt, Instr.sureAddr, loadVar, Sem.run_bind, Sem.run_pure, Result.andThen_ok, run_isAgg (hT.at hi) w' false hagg hi, Bool.false_eq_true, if_false, hl]
      · rename_i hagg
        split at h
        · rename_i s l hsz
          obtain ⟨hlen, hk⟩ := h
          have hlen : off + s ≤ l.length := by simpa using hlen
          refine ⟨_, hk, fun w0 L ρ w vx hh hx => ?_⟩
          simp only [Den] at hx
          obtain ⟨_, rfl⟩ := hx
          have hcs := hh.cells n _ hs
          simp only [SegOk, CellsAt, Cont.avl] at hcs
          obtain ⟨i, hi⟩ : ∃ i, tyAt T t = some i := by
            unfold isAggT at hagg
            split at hagg
            · exact ⟨_, ‹_›⟩
            · cases hagg
          have hisz : i.size = s := by simpa [sizeAt, hi] using hsz
          -- the cells, one by one
          have hget : ∀ (m : Nat), off + m ≤ l.length → ∃ vs : List Value, vs.length = m ∧ Dens ρ ((l.drop off).take m) vs ∧ ∀ j v, vs[j]? = some v → w.cell? ⟨(pl ρ n).1, (pl ρ n).2 + off + j, none⟩ = some v := by
            intro m
            induction m with
            | zero => exact fun _ => ⟨[], rfl, by simp [Dens], by simp⟩
            | succ m ih =>
              intro hm
              obtain ⟨vs, h1, h2, h3⟩ := ih (by omega)
              obtain ⟨v, g1, g2, _, _⟩ := hcs (off + m) l[off + m] (by simp)
              refine ⟨vs ++ [v], by simp [h1], Dens.of_get (by simp [h1]; omega) ?_, ?_⟩
              · intro i a u hia hiu
                rcases Nat.lt_trichotomy i m with hlt | heq | hgt
                · have e1 : ((l.drop off).take m)[i]? = some a := by
                    rw [List.getElem?_take] at hia ⊢
                    simp only [hlt, if_true, show i < m + 1 by omega] at hia ⊢
                    exact hia
                  have e2 : vs[i]? = some u := by rwa [List.getElem?_append_left (by omega)] at hiu
                  obtain ⟨u', e3, e4⟩ := h2.get i a e1
                  rw [e2] at e3; cases e3; exact e4
                · subst heq
                  have e1 : a = l[off + i] := by
                    rw [List.getElem?_take] at hia
                    simp only [show i < i + 1 by omega, if_true, List.getElem?_drop] at hia
                    rw [List.getElem?_eq_getElem (by omega)] at hia
                    exact (Option.some.inj hia).symm
                  have e2 : u = v := by
                    rw [List.getElem?_append_right (by omega)] at hiu
                    simp [h1] at hiu; exact hiu.symm
                  rw [e1, e2]; exact g2
                · rw [List.getElem?_append_right (by omega)] at hiu
                  have : i - vs.length ≠ 0 := by omega
                  simp [this] at hiu
              · intro j u hju
                rcases Nat.lt_or_ge j m with hlt | hge
                · rw [List.getElem?_append_left (by omega)] at hju
                  exact h3 j u hju
                · rw [List.getElem?_append_right (by omega)] at hju
                  have : j = m := by
                    rcases Nat.lt_or_ge (j - vs.length) 1 with h5 | h5
                    · omega
                    · simp [List.getElem?_eq_none (show [v].length ≤ j - vs.length by simpa using h5)] at hju
                  subst this
                  simp [h1] at hju
                  subst hju
                  rw [Nat.add_assoc]; exact g1
          obtain ⟨vs, h1, h2, h3⟩ := hget s hlen
          refine ⟨.agg vs.toArray, by simp only [Den]; exact ⟨vs, rfl, h2⟩, fun w' hw => ?_⟩
          have hl : (loadCells ⟨(pl ρ n).1, (pl ρ n).2 + off, none⟩ s).run P w' = .ok vs.toArray w' := by
            have := run_loadCells (P := P) (w := w') (b := (pl ρ n).1) (o := (pl ρ n).2 + off) s 0 vs #[] h1 (fun j v hj => by rw [cell_same hw]; exact h3 j v hj)
            simpa [loadCells] using this
          simp only [Instr.loadAt, Instr.sureAddr, loadVar, Sem.run_bind, Sem.run_pure, Result.andThen_ok, run_isAgg (hT.at hi) w' true hagg hi, if_true, run_sizeOf (hT.at hi), hisz, hl]
        · exact h.elim
      · exact h.elim
    · exact h.elim
  · exact h.elim
end
end Go.Fw

namespace Go.Fw
open Go Go.RowKit

section
variable {P : Program} {C : Cfg}

theorem min_bits (b : Int) (k : IntKind) : 0 < (2 : Int) ^ (min b.toNat k.bits) := Int.pow_pos (by decide)

theorem eqGuard_plain {op : BinOp} {t : TypeId} {x y : Operand} {a b : Value} (h1 : a ≠ .nilIface) (h2 : ∀ cs, a ≠ .agg cs) (w : World) : (eqGuard op t x y a b).run P w = .ok () w := by
  cases op <;> cases a <;> first | exact absurd rfl h1 | exact absurd rfl (h2 _) | rfl

theorem run_equal_bool {t : TypeId} {a b : Bool} (hu : P.underlying t = some .bool) (w : World) : (Op.equal t (.bool a) (.bool b)).run P w = .ok (a == b) w := by
  change (Op.equalIn (9999 + 1) t (.bool a) (.bool b)).run P w = _
  unfold Op.equalIn
  simp only [Sem.run_bind, run_underlying hu, Result.andThen_ok, Sem.run_pure]

theorem run_bin_bool {t : TypeId} {a b : Bool} (hu : P.underlying t = some .bool) (w : World) :
    (binOp .eql t (.bool a) (.bool b)).run P w = .ok (.bool (a == b)) w ∧ (binOp .neq t (.bool a) (.bool b)).run P w = .ok (.bool (a != b)) w := by
  have e1 : binOp .eql t (.bool a) (.bool b) = (do pure (.bool (← Op.equal t (.bool a) (.bool b)))) := rfl
  have e2 : binOp .neq t (.bool a) (.bool b) = (do pure (.bool (!(← Op.equal t (.bool a) (.bool b))))) := rfl
  rw [e1, e2]
  simp only [Sem.run_bind, run_equal_bool hu, Result.andThen_ok, Sem.run_pure, bne, and_self]

theorem bin_sound (hT : TOk P C.T) {rg : Nat} {op : BinOp} {t : Nat} {x y : AV} {K : AV → Prop} (h : binAV C rg op t x y K) :
    ∃ z, K z ∧ ∀ (ρ : Plc) (w : World) vx vy xo yo, Den ρ x vx → Den ρ y vy → Says P (do eqGuard op t xo yo vx vy; binOp op t vx vy) w ρ z := by
  unfold binAV at h
  simp only [guardT_eq] at h
  split at h
  · rename_i k a k' b
    split at h
    · obtain ⟨⟨h0, h1⟩, h⟩ := h
      obtain ⟨m, hm, e⟩ := arith_sound h
      refine ⟨_, hm, fun ρ w vx vy xo yo hx hy => ⟨_, by simp only [Den]; rfl, fun w' _ => ?_⟩⟩
      simp only [Den] at hx hy
      subst hx; subst hy
      have : ¬ b < 0 := by omega
      simp only [Sem.run_bind, eqGuard_plain (P := P) (a := .int k a) (by simp) (by simp), Result.andThen_ok, binOp, Op.shift, this, if_false, e, Sem.run_pure]
    · obtain ⟨⟨h0, h1⟩, h⟩ := h
      refine ⟨_, h, fun ρ w vx vy xo yo hx hy => ⟨_, by simp only [Den]; rfl, fun w' _ => ?_⟩⟩
      simp only [Den] at hx hy
      subst hx; subst hy
      have : ¬ b < 0 := by omega
      simp only [Sem.run_bind, eqGuard_plain (P := P) (a := .int k a) (by simp) (by simp), Result.andThen_ok, binOp, Op.shift, this, if_false, Sem.run_pure, Int.fdiv_eq_ediv_of_nonneg _ (Int.le_of_lt (min_bits b k))]
    · rename_i hs hs'
      obtain ⟨hk, h⟩ := h
      have hk := ikEq_eq hk
      subst hk
      obtain ⟨v, ⟨z, hz, hd⟩, hr⟩ := binInt_sound (P := P) (by intro e; exact hs e) (by intro e; exact hs' e) h t
      refine ⟨z, hz, fun ρ w vx vy xo yo hx hy => ⟨v, hd ρ, fun w' _ => ?_⟩⟩
      simp only [Den] at hx hy
      subst hx; subst hy
      simp only [Sem.run_bind, eqGuard_plain (P := P) (a := .int k a) (by simp) (by simp), Result.andThen_ok, hr]
  · rename_i a b
    split at h
    · rename_i i hi
      split at h
      · rename_i hid
        refine ⟨_, h, fun ρ w vx vy xo yo hx hy => ⟨_, by simp only [Den]; rfl, fun w' _ => ?_⟩⟩
        simp only [Den] at hx hy
        subst hx; subst hy
        simp only [Sem.run_bind, eqGuard_plain (P := P) (a := .bool a) (by simp) (by simp), Result.andThen_ok, (run_bin_bool (und_bool (hT.at hi) hid) w').1]
      · rename_i hid
        refine ⟨_, h, fun ρ w vx vy xo yo hx hy => ⟨_, by simp only [Den]; rfl, fun w' _ => ?_⟩⟩
        simp only [Den] at hx hy
        subst hx; subst hy
        simp only [Sem.run_bind, eqGuard_plain (P := P) (a := .bool a) (by simp) (by simp), Result.andThen_ok, (run_bin_bool (und_bool (hT.at hi) hid) w').2]
      · exact h.elim
    · exact h.elim
  · rename_i a b
    split at h
    · refine ⟨_, h, fun ρ w vx vy xo yo hx hy => ⟨_, by simp only [Den]; rfl, fun w' _ => ?_⟩⟩
      simp only [Den] at hx hy
      subst hx; subst hy
      simp only [Sem.run_bind, eqGuard_plain (P := P) (a := .string a) (by simp) (by simp), Result.andThen_ok, binOp, Op.stringOp, Sem.run_pure]
    · refine ⟨_, h, fun ρ w vx vy xo yo hx hy => ⟨_, by simp only [Den]; rfl, fun w' _ => ?_⟩⟩
      simp only [Den] at hx hy
      subst hx; subst hy
      simp only [Sem.run_bind, eqGuard_plain (P := P) (a := .string a) (by simp) (by simp), Result.andThen_ok, binOp, Op.stringOp, Sem.run_pure]
    · exact h.elim
  · exact h.elim

theorem dens_map {ρ : Plc} {st : St} {a : Act} (hd : ∀ x, Den ρ (av st x) (a.eval x)) : ∀ xs : List Operand, Dens ρ (xs.map (av st)) (xs.map a.eval)
  | [] => by simp [Dens]
  | x :: xs => by simp only [List.map_cons, Dens]; exact ⟨_, _, rfl, hd x, dens_map hd xs⟩

theorem yields_says {o : Oper} {a : Act} {w : World} {ρ : Plc} {y : AV} {s : Sem Value} (hs : execOp a.eval o = (do pure (.value (← s)))) (h : Says P s w ρ y) : ∃ v, Den ρ y v ∧ Yields P o a w v := by
  obtain ⟨v, h1, h2⟩ := h
  exact ⟨v, h1, yields_of hs h2⟩

/-- WHAT A PLAIN OPERATION GIVES. -/
theorem fldAt_out (hT : TOk P C.T) {t f o e : Nat} (h : fldAt C.T t f = some (o, e)) : ∃ F fl, P.underlying t = some (.struct F) ∧ F[f]? = some fl ∧ fl.offset = o ∧ fl.type = e := by
  unfold fldAt at h
  split at h
  · rename_i i hi
    split at h
    · rename_i fs hd
      obtain ⟨d, hu, ht⟩ := und_of (hT.at hi)
      rw [hd] at ht
      cases d <;> simp [tyOf] at ht
      rename_i F
      rw [← ht, List.getElem?_map] at h
      cases hf : F.toList[f]? with
      | none => rw [hf] at h; cases h
      | some fl =>
        rw [hf] at h
        simp only [Option.map_some, Option.some.injEq, Prod.mk.injEq] at h
        exact ⟨F, fl, hu, by simpa using hf, h.1, h.2⟩
    · cases h
  · cases h
theorem evOp_sound (hT : TOk P C.T) {rg : Nat} {st : St} {o : Oper} {K : AV → Prop} (h : evOp C rg st o K) :
    ∃ x, K x ∧ ∀ w0 L ρ a w, Rep w0 L ρ st a w → ∃ v, Den ρ x v ∧ Yields P o a w v := by
  obtain ⟨dst, op, type, pos, after, guard⟩ := o
  unfold evOp at h
  cases op <;> simp only at h <;> try exact h.elim
  case move x => exact ⟨_, h, fun w0 L ρ a w hr => ⟨_, av_den hr x, fun w' _ => rfl⟩⟩
  case assign x => exact ⟨_, h, fun w0 L ρ a w hr => ⟨_, av_den hr x, fun w' _ => rfl⟩⟩
  case pick c x y =>
    split at h
    · rename_i t hc
      cases t
      · refine ⟨_, h, fun w0 L ρ a w hr => ⟨_, av_den hr y, fun w' _ => ?_⟩⟩
        have := av_den hr c
        rw [hc] at this
        simp only [Den] at this
        simp [execOp, this, asBool]
      · refine ⟨_, h, fun w0 L ρ a w hr => ⟨_, av_den hr x, fun w' _ => ?_⟩⟩
        have := av_den hr c
        rw [hc] at this
        simp only [Den] at this
        simp [execOp, this, asBool]
    · exact h.elim
  case binOp op t x y _ =>
    obtain ⟨z, hz, hs⟩ := bin_sound hT h
    exact ⟨z, hz, fun w0 L ρ a w hr => yields_says rfl (hs ρ w _ _ x y (av_den hr x) (av_den hr y))⟩
  case unOp op t x =>
    obtain ⟨z, hz, hs⟩ := un_sound (P := P) h
    exact ⟨z, hz, fun w0 L ρ a w hr => yields_says rfl (hs ρ w _ (av_den hr x))⟩
  case convert src d x =>
    obtain ⟨z, hz, hs⟩ := conv_sound hT h
    exact ⟨z, hz, fun w0 L ρ a w hr => yields_says rfl (hs ρ w _ (av_den hr x))⟩
  case extract x i =>
    split at h
    · rename_i vs hx
      rw [guardT_eq] at h
      obtain ⟨hl, hk⟩ := h
      have hl : i < vs.length := by simpa [Nat.blt_eq] using hl
      refine ⟨_, hk, fun w0 L ρ a w hr => ?_⟩
      have := av_den hr x
      rw [hx] at this
      simp only [Den] at this
      obtain ⟨us, hu, hd⟩ := this
      obtain ⟨v, h1, h2⟩ := hd.get i vs[i] (by simp [hl])
      refine ⟨v, by rw [slot_eq]; simpa [hl] using h2, yields_of (s := Instr.extract (a.eval x) i) rfl fun w' _ => ?_⟩
      simp [hu, Instr.extract, h1]
    · exact h.elim
  case load t x =>
    obtain ⟨z, hz, hs⟩ := load_sound hT h
    exact ⟨z, hz, fun w0 L ρ a w hr => yields_says rfl (hs w0 L ρ w _ hr.heap (av_den hr x))⟩
  case indexAddr t x i =>
    obtain ⟨z, hz, hs⟩ := indexAddr_sound hT h
    exact ⟨z, hz, fun w0 L ρ a w hr => yields_says rfl (hs ρ w _ _ (av_den hr x) (av_den hr i))⟩
  case index t x i =>
    obtain ⟨z, hz, hs⟩ := index_sound hT h
    exact ⟨z, hz, fun w0 L ρ a w hr => yields_says rfl (hs ρ w _ _ (av_den hr x) (av_den hr i))⟩
  case slice t x lo hi mx =>
    obtain ⟨z, hz, hs⟩ := slice_sound hT h
    exact ⟨z, hz, fun w0 L ρ a w hr => yields_says rfl (hs ρ a w (av_den hr))⟩
  case fieldAddr t x f =>
    split at h
    · rename_i n off o e hx hf
      split at h
      · rename_i k hs
        obtain ⟨F, fl, h1, h2, h3, h4⟩ := fldAt_out hT hf
        refine ⟨_, h, fun w0 L ρ a w hr => ?_⟩
        have g2 := av_den hr x
        rw [hx] at g2
        simp only [Den] at g2
        refine ⟨⟨(pl ρ n).1, (pl ρ n).2 + (off + o), none⟩ |> some |> .pointer, by simp only [Den]; exact ⟨g2.1, trivial⟩, fun w' _ => ?_⟩
        show ((do pure (Next.value (← Instr.fieldAt t (a.eval x) f))) : Sem Next).run P w' = _
        have hz : (sizeOf e).run P w' = .ok (k + 1) w' := by
          unfold sizeAt at hs
          split at hs
          · rename_i i hi
            simp only [Option.some.injEq] at hs
            show (sizeOf e).run P w' = .ok k.succ w'
            rw [← hs]
            exact run_sizeOf (hT.at hi) w'
          · cases hs
        rw [← h4] at hz
        simp only [Instr.fieldAt, Sem.run_bind, run_underlying h1, Result.andThen_ok, h2, g2.2, Instr.sureAddr, Sem.run_pure, fieldPlace, hz, Nat.add_one_ne_zero, if_false, h3, addr_add, Nat.add_assoc]
      · exact h.elim
    · exact h.elim
  case nilCheck x =>
    split at h
    · rename_i n off hx
      refine ⟨_, h, fun w0 L ρ a w hr => ?_⟩
      have := av_den hr x
      rw [hx] at this
      refine ⟨_, this, fun w' _ => ?_⟩
      simp only [Den] at this
      simp [execOp, this.2]
    · rename_i f cs hx
      refine ⟨_, h, fun w0 L ρ a w hr => ?_⟩
      have := av_den hr x
      rw [hx] at this
      refine ⟨_, this, fun w' _ => ?_⟩
      simp only [Den] at this
      obtain ⟨vs, hv, _⟩ := this
      simp [execOp, hv]
    · exact h.elim
  case makeFunc fn first caps =>
    cases fn <;> simp only at h <;> try exact h.elim
    rename_i f
    split at h
    · rename_i hf
      refine ⟨_, h, fun w0 L ρ a w hr => ⟨_, by simp only [Den]; exact ⟨_, rfl, dens_map (av_den hr) _⟩, yields_of (s := Instr.makeFunc (.func f) (first.map a.eval) (caps.map a.eval)) rfl fun w' _ => ?_⟩⟩
      have : first = #[] := by simpa using hf
      subst this
      have e : caps.map a.eval = (caps.toList.map a.eval).toArray := by rw [← Array.toList_inj]; simp
      simp only [Instr.makeFunc, Sem.run_pure, List.map_toArray, List.map_nil, e]
    · exact h.elim
  case call c =>
    obtain ⟨callee, args, argTypes⟩ := c
    simp only at h
    split at h
    · rename_i x t ha ht
      have : args = #[x] := by rw [← Array.toList_inj]; exact ha
      subst this
      have : argTypes = #[t] := by rw [← Array.toList_inj]; exact ht
      subst this
      obtain ⟨z, hz, hs⟩ := len_sound hT h
      exact ⟨z, hz, fun w0 L ρ a w hr => yields_says (by simp [execOp, resolve, invoke, builtin]) (hs ρ w _ type (av_den hr x))⟩
    · rename_i x t ha ht
      have : args = #[x] := by rw [← Array.toList_inj]; exact ha
      subst this
      have : argTypes = #[t] := by rw [← Array.toList_inj]; exact ht
      subst this
      obtain ⟨z, hz, hs⟩ := cap_sound hT h
      exact ⟨z, hz, fun w0 L ρ a w hr => yields_says (by simp [execOp, resolve, invoke, builtin]) (hs ρ w _ type (av_den hr x))⟩
    · rename_i _ x r ha
      have : args = (x :: r).toArray := by rw [← Array.toList_inj]; simpa using ha
      subst this
      obtain ⟨z, hz, hs⟩ := mins_sound (P := P) _ _ h
      refine ⟨z, hz, fun w0 L ρ a w hr => ?_⟩
      obtain ⟨v, h1, h2⟩ := hs ρ _ _ (av_den hr x) (dens_map (av_den hr) r)
      exact ⟨v, h1, fun w' _ => by simp [execOp, resolve, invoke, builtin, Builtin.min_, h2]⟩
    · rename_i _ x r ha
      have : args = (x :: r).toArray := by rw [← Array.toList_inj]; simpa using ha
      subst this
      obtain ⟨z, hz, hs⟩ := maxs_sound (P := P) _ _ h
      refine ⟨z, hz, fun w0 L ρ a w hr => ?_⟩
      obtain ⟨v, h1, h2⟩ := hs ρ _ _ (av_den hr x) (dens_map (av_den hr) r)
      exact ⟨v, h1, fun w' _ => by simp [execOp, resolve, invoke, builtin, Builtin.max_, h2]⟩
    · exact h.elim
end
end Go.Fw

namespace Go.Fw
open Go Go.RowKit

def setSeg : List Seg → Nat → Seg → List Seg
  | [], _, _ => []
  | _ :: r, 0, x => x :: r
  | s :: r, n + 1, x => s :: setSeg r n x

theorem setSeg_eq : ∀ (l : List Seg) (n : Nat) (x : Seg), setSeg l n x = l.set n x
  | [], _, _ => by simp [setSeg]
  | s :: r, 0, _ => by simp [setSeg]
  | s :: r, n + 1, x => by simp [setSeg, setSeg_eq r n]

section
variable {B : Nat} {L : Nat → Prop} {ρ : Plc} {H : List Seg} {w w' : World}

theorem HeapOk.kill (h : HeapOk B L ρ H w) (n : Nat) : HeapOk B L ρ (H.set n .dead) w := by
  have key : ∀ m s, (H.set n .dead)[m]? = some s → s = Seg.dead ∨ H[m]? = some s := fun m s hs => by
    rw [List.getElem?_set] at hs
    split at hs
    · split at hs
      · cases hs; exact .inl rfl
      · cases hs
    · exact .inr hs
  refine ⟨by simp [h.names], fun m s hs => ?_, fun m s hs ho hl => ?_, fun m k s t hne hs ht ho hl hl' => ?_⟩
  · rcases key m s hs with rfl | e
    · trivial
    · exact h.cells m s e
  · rcases key m s hs with rfl | e
    · simp [Seg.isOwn] at ho
    · exact h.mine m s e ho hl
  · rcases key m s hs with rfl | e
    · simp [Seg.isOwn] at ho
    · rcases key k t ht with rfl | e'
      · simp [Seg.len] at hl'
      · exact h.apart m k s t hne e e' ho hl hl'

/-- No living cells but the name n's lie in block b. -/
def Free (ρ : Plc) (H : List Seg) (b n : Nat) : Prop := ∀ m s, m ≠ n → H[m]? = some s → 0 < s.len → (pl ρ m).1 ≠ b

theorem HeapOk.revive (h : HeapOk B L ρ H w) {n : Nat} (hn : n < H.length) {own : Bool} {c : Cont} (hc : CellsAt ρ w n own c.avl)
    (hm : own = true → 0 < c.len → B ≤ (pl ρ n).1 ∨ L (pl ρ n).1) (hf : 0 < c.len → Free ρ H (pl ρ n).1 n) : HeapOk B L ρ (H.set n (.seg own c)) w := by
  have key : ∀ m s, (H.set n (.seg own c))[m]? = some s → (m = n ∧ s = .seg own c) ∨ (m ≠ n ∧ H[m]? = some s) := fun m s hs => by
    rw [List.getElem?_set] at hs
    split at hs
    · rename_i e
      subst e
      simp only [Option.some.injEq] at hs
      exact .inl ⟨rfl, hs.symm⟩
    · rename_i e; exact .inr ⟨fun e' => e e'.symm, hs⟩
  refine ⟨by simp [h.names], fun m s hs => ?_, fun m s hs ho hl => ?_, fun m k s t hne hs ht ho hl hl' => ?_⟩
  · rcases key m s hs with ⟨rfl, rfl⟩ | ⟨_, e⟩
    · exact hc
    · exact h.cells m s e
  · rcases key m s hs with ⟨rfl, rfl⟩ | ⟨_, e⟩
    · exact hm (by cases own <;> simp_all [Seg.isOwn]) hl
    · exact h.mine m s e ho hl
  · rcases key m s hs with ⟨rfl, rfl⟩ | ⟨h1, e⟩
    · rcases key k t ht with ⟨rfl, rfl⟩ | ⟨h2, e'⟩
      · exact absurd rfl hne
      · exact fun he => hf hl k t h2 e' hl' he.symm
    · rcases key k t ht with ⟨rfl, rfl⟩ | ⟨h2, e'⟩
      · exact hf hl' m s h1 e hl
      · exact h.apart m k s t hne e e' ho hl hl'

theorem CellsAt.world {n : Nat} {own : Bool} {l : List AV} (h : CellsAt ρ w n own l) (hb : l ≠ [] → w'.heap[(pl ρ n).1]? = w.heap[(pl ρ n).1]?) : CellsAt ρ w' n own l := by
  intro i a hi
  have hne : l ≠ [] := fun e => by simp [e] at hi
  obtain ⟨v, h1, h2, h3, h4⟩ := h i a hi
  exact ⟨v, by rw [World.cell?_of_block (w := w) (hb hne)]; exact h1, h2, h3, fun ho => by rw [World.frozen?_of_block (w := w) (hb hne)]; exact h4 ho⟩

theorem HeapOk.world (h : HeapOk B L ρ H w) (hb : ∀ n s, H[n]? = some s → 0 < s.len → w'.heap[(pl ρ n).1]? = w.heap[(pl ρ n).1]?) : HeapOk B L ρ H w' := by
  refine ⟨h.names, fun m s hs => ?_, h.mine, h.apart⟩
  cases s with
  | dead => trivial
  | seg own c =>
    have := h.cells m _ hs
    simp only [SegOk] at this ⊢
    exact this.world fun hne => hb m _ hs (by simp only [Seg.len, ← Cont.len_eq]; exact List.length_pos_iff.2 hne)
  | obj o =>
    obtain ⟨h1, x, h2, h3⟩ := h.cells m _ hs
    exact ⟨h1, x, by rw [hb m _ hs (by simp [Seg.len])]; exact h2, h3⟩

/-- A living cell lies in a block that is there. -/
theorem HeapOk.lt (h : HeapOk B L ρ H w) {n : Nat} {s : Seg} (hs : H[n]? = some s) (hl : 0 < s.len) : (pl ρ n).1 < w.heap.size := by
  cases s with
  | dead => simp [Seg.len] at hl
  | seg own c =>
    have hc := h.cells n _ hs
    simp only [SegOk, CellsAt] at hc
    have hl' : 0 < c.avl.length := by rw [Cont.len_eq]; exact hl
    obtain ⟨v, h1, _⟩ := hc 0 c.avl[0] (by simp)
    exact World.block_lt_of_cell? w _ h1
  | obj o =>
    obtain ⟨_, x, h2, _⟩ := h.cells n _ hs
    exact (Array.getElem?_eq_some_iff.1 h2).1

theorem HeapOk.grow (h : HeapOk B L ρ H w) (p : Nat × Nat) : HeapOk B L (ρ ++ [p]) (H ++ [.dead]) w := by
  have key : ∀ m s, (H ++ [Seg.dead])[m]? = some s → s = Seg.dead ∨ H[m]? = some s := fun m s hs => by
    rcases Nat.lt_or_ge m H.length with hlt | hge
    · rw [List.getElem?_append_left hlt] at hs; exact .inr hs
    · rw [List.getElem?_append_right hge] at hs
      left
      cases hm : m - H.length with
      | zero => simp [hm] at hs; exact hs.symm
      | succ k => simp [hm] at hs
  have pe : ∀ m s, H[m]? = some s → pl (ρ ++ [p]) m = pl ρ m := fun m s hs => by
    have hm : m < ρ.length := by rw [h.names]; exact (List.getElem?_eq_some_iff.1 hs).1
    simp [pl, List.getElem?_append_left hm]
  refine ⟨by simp [h.names], fun m s hs => ?_, fun m s hs ho hl => ?_, fun m k s t hne hs ht ho hl hl' => ?_⟩
  · rcases key m s hs with rfl | e
    · trivial
    · have := h.cells m s e
      cases s with
      | dead => trivial
      | seg own c =>
        intro i a hi
        obtain ⟨v, h1, h2, h3, h4⟩ := this i a hi
        rw [pe m _ e]
        exact ⟨v, h1, Den.grow _ h2, h3, h4⟩
      | obj o =>
        obtain ⟨g1, x, g2, g3⟩ := this
        exact ⟨by rw [pe m _ e]; exact g1, x, by rw [pe m _ e]; exact g2, g3.grow _⟩
  · rcases key m s hs with rfl | e
    · simp [Seg.isOwn] at ho
    · rw [pe m _ e]; exact h.mine m s e ho hl
  · rcases key m s hs with rfl | e
    · simp [Seg.isOwn] at ho
    · rcases key k t ht with rfl | e'
      · simp [Seg.len] at hl'
      · rw [pe m _ e, pe k _ e']; exact h.apart m k s t hne e e' ho hl hl'

theorem HeapOk.free_of_own (h : HeapOk B L ρ H w) {n : Nat} {c : Cont} (hs : H[n]? = some (.seg true c)) (hl : 0 < c.len) : Free ρ H (pl ρ n).1 n :=
  fun m s hne hm hlm e => h.apart n m _ s (fun e => hne e.symm) hs hm rfl hl hlm e.symm

/-- A new row of cells under a new name. -/
theorem HeapOk.push (h : HeapOk B L ρ H w) {p : Nat × Nat} {own : Bool} {c : Cont} (hc : CellsAt (ρ ++ [p]) w H.length own c.avl)
    (hm : own = true → 0 < c.len → B ≤ p.1 ∨ L p.1) (hf : 0 < c.len → ∀ m s, H[m]? = some s → 0 < s.len → (pl ρ m).1 ≠ p.1) : HeapOk B L (ρ ++ [p]) (H ++ [.seg own c]) w := by
  have hg := h.grow p
  have pp : pl (ρ ++ [p]) H.length = p := by simp [pl, ← h.names]
  have := hg.revive (n := H.length) (by simp) hc (by rw [pp]; exact hm) (by
    rw [pp]
    intro hl m s hne hs hsl
    have hlt : m < H.length := by
      have := (List.getElem?_eq_some_iff.1 hs).1
      simp at this; omega
    rw [List.getElem?_append_left hlt] at hs
    have hm : m < ρ.length := by rw [h.names]; exact hlt
    have : pl (ρ ++ [p]) m = pl ρ m := by simp [pl, List.getElem?_append_left hm]
    rw [this]
    exact hf hl m s hs hsl)
  have e : (H ++ [Seg.dead]).set H.length (.seg own c) = H ++ [.seg own c] := by simp
  rwa [e] at this
end

theorem Kept.alloc {w0 w : World} {L : Nat → Prop} (h : Kept w0 L w) (o : Obj) : Kept w0 L (w.alloc o) :=
  ⟨h.os, h.output, h.tape, Nat.le_trans h.size (by simp), fun k hk hL => by
    rw [Below.heap_alloc w o k (Nat.lt_of_lt_of_le hk h.size)]; exact h.block k hk hL⟩

theorem Kept.drew {w0 w : World} {L : Nat → Prop} (h : Kept w0 L w) : Kept w0 L w.drew := ⟨h.os, h.output, h.tape, h.size, h.block⟩

theorem Kept.setCell {w0 w : World} {L : Nat → Prop} (h : Kept w0 L w) {a : Addr} (ha : w0.heap.size ≤ a.block ∨ L a.block) (v : Value) : Kept w0 L (w.setCell a v) :=
  ⟨h.os, h.output, h.tape, by simpa [World.setCell] using h.size, fun k hk hL => by
    rw [Below.heap_setCell w a v k (by rcases ha with ha | ha; omega; intro e; exact hL (e ▸ ha))]; exact h.block k hk hL⟩

theorem CellsAt.lt {ρ : Plc} {w : World} {n : Nat} {own : Bool} {l : List AV} (h : CellsAt ρ w n own l) (hl : 0 < l.length) : (pl ρ n).1 < w.heap.size := by
  obtain ⟨v, h1, _⟩ := h 0 l[0] (by simp)
  exact World.block_lt_of_cell? w _ h1

/-- A row of cells just made. -/
theorem cells_made {ρ : Plc} {w : World} {n : Nat} {l : List AV} {vs : List Value} {e : TypeId} (hp : pl ρ n = (w.heap.size, 0)) (hd : Dens ρ l vs) (h1 : ∀ v ∈ vs, v.oneCell' = true) (own : Bool) :
    CellsAt ρ (w.alloc (.cells vs.toArray e)) n own l := by
  intro i a hi
  obtain ⟨v, g1, g2⟩ := hd.get i a hi
  refine ⟨v, ?_, g2, h1 v (List.mem_of_getElem? g1), fun _ => ?_⟩
  · rw [hp, World.cell?_alloc_at _ _ _ _ rfl]; simpa using g1
  · rw [hp]; exact World.frozen?_alloc_at _ _ _ _ rfl

/-- THE WORLD WITH A NEW ROW, under a new name. -/
theorem Rep.newRow {w0 : World} {L : Nat → Prop} {ρ : Plc} {st : St} {a : Act} {w : World} (h : Rep w0 L ρ st a w) {c : Cont} {vs : List Value} (e : TypeId)
    (hd : Dens ρ c.avl vs) (h1 : ∀ v ∈ vs, v.oneCell' = true) :
    Rep w0 L (ρ ++ [(w.heap.size, 0)]) { st with hp := st.hp ++ [.seg true c] } a (w.alloc (.cells vs.toArray e)) := by
  have hn := h.heap.names
  have hw : HeapOk w0.heap.size L ρ st.hp (w.alloc (.cells vs.toArray e)) := h.heap.world fun n s hs hl => Below.heap_alloc w _ _ (h.heap.lt hs hl)
  refine ⟨h.slots.grow _, hw.push (cells_made (by simp [pl, ← hn]) (hd.grow _) h1 true) (fun _ _ => .inl h.kept.size) (fun _ m s hs hl => ?_), h.kept.alloc _, h.defers⟩
  have := h.heap.lt hs hl
  simp; omega
end Go.Fw

namespace Go.Fw
open Go Go.RowKit

def isOne : AV → Bool
  | .any | .agg _ | .tup _ => false
  | _ => true

theorem den_one {ρ : Plc} {x : AV} {v : Value} (h : isOne x = true) (hd : Den ρ x v) : v.oneCell' = true := by
  cases x <;> simp [isOne] at h <;> simp only [Den] at hd
  case slice n off len cap => rcases hd with ⟨_, _, rfl | ⟨_, a, rfl⟩⟩ <;> rfl
  case ptr n off => obtain ⟨_, rfl⟩ := hd; rfl
  case map n => obtain ⟨_, rfl⟩ := hd; rfl
  case fn f cs => obtain ⟨vs, rfl, _⟩ := hd; rfl
  case fnb f cs => obtain ⟨vs, rfl, _⟩ := hd; rfl
  all_goals subst hd; rfl

theorem cells_one {v : Value} (h : v.oneCell' = true) : v.cells = #[v] := by cases v <;> first | rfl | (simp [Value.oneCell'] at h)

theorem set_self {α : Type} {l : List α} {n : Nat} {s : α} (h : l[n]? = some s) : l.set n s = l := by
  apply List.ext_getElem?
  intro m
  rw [List.getElem?_set]
  split
  · subst_vars; rw [h]; simp [(List.getElem?_eq_some_iff.1 h).1]
  · rfl

theorem splice_succ {α : Type} (l : List α) (k : Nat) (x : α) (xs : List α) (h : k < l.length) :
    (l.set k x).take (k + 1) ++ xs ++ (l.set k x).drop (k + 1 + xs.length) = l.take k ++ x :: xs ++ l.drop (k + (x :: xs).length) := by
  have e1 : (l.set k x).take (k + 1) = l.take k ++ [x] := by
    rw [List.take_succ_eq_append_getElem (by simpa using h)]
    have e : (l.set k x).take k = l.take k := by
      apply List.ext_getElem?
      intro m
      simp only [List.getElem?_take]
      split
      · rw [List.getElem?_set_ne (by omega)]
      · rfl
    rw [e]; simp
  have e2 : (l.set k x).drop (k + 1 + xs.length) = l.drop (k + (x :: xs).length) := by
    rw [List.drop_set_of_lt (by omega), List.length_cons, show k + 1 + xs.length = k + (xs.length + 1) by omega]
  rw [e1, e2]; simp

section
variable {P : Program} {w0 : World} {L : Nat → Prop} {ρ : Plc} {st : St} {a : Act} {w : World}

theorem Rep.recont (h : Rep w0 L ρ st a w) {n : Nat} {own : Bool} {c c' : Cont} (hs : st.hp[n]? = some (.seg own c)) (e : c'.avl = c.avl) :
    Rep w0 L ρ { st with hp := st.hp.set n (.seg own c') } a w := by
  have hl : c'.len = c.len := by rw [← Cont.len_eq, ← Cont.len_eq, e]
  have hn : n < st.hp.length := (List.getElem?_eq_some_iff.1 hs).1
  have key : ∀ m s, (st.hp.set n (.seg own c'))[m]? = some s → ∃ s', st.hp[m]? = some s' ∧ (SegOk ρ w m s' → SegOk ρ w m s) ∧ s'.len = s.len ∧ s'.isOwn = s.isOwn := fun m s hm => by
    rw [List.getElem?_set] at hm
    split at hm
    · rename_i e'
      subst e'
      simp only [Option.some.injEq] at hm
      subst hm
      exact ⟨_, hs, fun h => by simp only [SegOk, e] at h ⊢; exact h, hl.symm, by cases own <;> rfl⟩
    · exact ⟨s, hm, id, rfl, rfl⟩
  refine ⟨h.slots, ⟨by simp [h.heap.names], fun m s hm => ?_, fun m s hm ho hl => ?_, fun m k s t hne hm hk ho hl hl' => ?_⟩, h.kept, h.defers⟩
  · obtain ⟨s', h1, h2, _, _⟩ := key m s hm
    exact h2 (h.heap.cells m s' h1)
  · obtain ⟨s', h1, _, h3, h4⟩ := key m s hm
    exact h.heap.mine m s' h1 (by rw [h4]; exact ho) (by omega)
  · obtain ⟨s', h1, _, h3, h4⟩ := key m s hm
    obtain ⟨t', g1, _, g3, g4⟩ := key k t hk
    exact h.heap.apart m k s' t' hne h1 g1 (by rw [h4]; exact ho) (by omega) (by omega)

theorem Rep.store (h : Rep w0 L ρ st a w) {n : Nat} {l : List AV} (hs : st.hp[n]? = some (.seg true (.avs l))) {i : Nat} (hi : i < l.length) {x : AV} {v : Value} (hd : Den ρ x v) (hone : v.oneCell' = true) :
    (store ⟨(pl ρ n).1, (pl ρ n).2 + i, none⟩ v).run P w = .ok () (w.setCell ⟨(pl ρ n).1, (pl ρ n).2 + i, none⟩ v) ∧
    Rep w0 L ρ { st with hp := st.hp.set n (.seg true (.avs (l.set i x))) } a (w.setCell ⟨(pl ρ n).1, (pl ρ n).2 + i, none⟩ v) := by
  have hc := h.heap.cells n _ hs
  simp only [SegOk, CellsAt, Cont.avl] at hc
  have hlen : 0 < (Cont.avs l).len := by simp only [Cont.len]; omega
  have hmine := h.heap.mine n _ hs rfl hlen
  have hfree := h.heap.free_of_own hs hlen
  obtain ⟨v0, c1, c2, c3, c4⟩ := hc i l[i] (by simp [hi])
  constructor
  · rw [run_store P w _ v .plain hone, c1]
    have := c4 trivial
    simp only [this, Bool.false_eq_true, if_false]
  · have hn : n < st.hp.length := (List.getElem?_eq_some_iff.1 hs).1
    have hw : HeapOk w0.heap.size L ρ (st.hp.set n .dead) (w.setCell ⟨(pl ρ n).1, (pl ρ n).2 + i, none⟩ v) := (h.heap.kill n).world fun m s hm hl => by
      refine Below.heap_setCell w _ _ _ ?_
      rw [List.getElem?_set] at hm
      split at hm
      · rename_i e; subst e
        simp only [Option.some.injEq] at hm
        subst hm; simp [Seg.len] at hl
      · rename_i e
        exact hfree m s (fun e' => e e'.symm) hm hl
    have hr := hw.revive (n := n) (own := true) (c := .avs (l.set i x)) (by simpa using hn) (by
      intro j y hj
      simp only [Cont.avl, List.getElem?_set] at hj
      by_cases e : i = j
      · subst e
        simp only [hi, if_true, Option.some.injEq] at hj
        subst hj
        exact ⟨v, World.cell?_setCell_same _ _ _ c1, hd, hone, fun _ => by rw [World.frozen?_setCell]; exact c4 trivial⟩
      · rw [if_neg e] at hj
        obtain ⟨u, d1, d2, d3, d4⟩ := hc j y hj
        refine ⟨u, ?_, d2, d3, fun _ => by rw [World.frozen?_setCell]; exact d4 trivial⟩
        rw [World.cell?_setCell_other _ _ _ _ (by simp)]; exact d1) (fun _ _ => hmine) (fun _ => by
      intro m s hne hm hl
      rw [List.getElem?_set_ne (fun e => hne e.symm)] at hm
      exact hfree m s hne hm hl)
    rw [List.set_set] at hr
    exact ⟨h.slots, hr, h.kept.setCell hmine v, h.defers⟩

/-- Many cells, one behind the other. -/
theorem Rep.storeList {n : Nat} : ∀ (xs : List AV) (vs : List Value) (st : St) (w : World) (l : List AV) (off i : Nat), Rep w0 L ρ st a w → st.hp[n]? = some (.seg true (.avs l)) → off + i + xs.length ≤ l.length → Dens ρ xs vs → (∀ v ∈ vs, v.oneCell' = true) →
    ∃ w', (storeCells ⟨(pl ρ n).1, (pl ρ n).2 + off, none⟩ vs i).run P w = .ok () w' ∧
      Rep w0 L ρ { st with hp := st.hp.set n (.seg true (.avs (l.take (off + i) ++ xs ++ l.drop (off + i + xs.length)))) } a w'
  | [], vs, st, w, l, off, i, h, hs, hl, hd, h1 => by
    simp only [Dens] at hd
    subst hd
    refine ⟨w, rfl, ?_⟩
    have e : st.hp.set n (.seg true (.avs (l.take (off + i) ++ [] ++ l.drop (off + i + ([] : List AV).length)))) = st.hp := by
      simp only [List.append_nil, List.length_nil, Nat.add_zero, List.take_append_drop]
      exact set_self hs
    rw [e]; exact h
  | x :: xs, vs, st, w, l, off, i, h, hs, hl, hd, h1 => by
    simp only [Dens] at hd
    obtain ⟨v, r, rfl, hd1, hd2⟩ := hd
    simp only [List.length_cons] at hl
    have hn : n < st.hp.length := (List.getElem?_eq_some_iff.1 hs).1
    obtain ⟨s1, s2⟩ := h.store (P := P) hs (i := off + i) (by omega) hd1 (h1 v (by simp))
    obtain ⟨w', g1, g2⟩ := Rep.storeList (n := n) xs r _ _ (l.set (off + i) x) off (i + 1) s2 (by simp [hn]) (by simp; omega) hd2 (fun y hy => h1 y (by simp [hy]))
    refine ⟨w', ?_, ?_⟩
    · simp only [storeCells, Sem.run_bind, addr_add]
      rw [show (pl ρ n).2 + off + i = (pl ρ n).2 + (off + i) by omega, s1]
      simpa only [Result.andThen_ok] using g1
    · have e := splice_succ l (off + i) x xs (by omega)
      rw [show off + i + 1 = off + (i + 1) by omega] at e
      simp only [List.set_set, e] at g2
      exact g2
end
end Go.Fw

namespace Go.Fw
open Go Go.RowKit

def fkEq : FloatKind → FloatKind → Bool
  | .f32, .f32 | .f64, .f64 => true
  | _, _ => false
theorem fkEq_eq {k k' : FloatKind} (h : fkEq k k' = true) : k = k' := by cases k <;> cases k' <;> first | rfl | (simp [fkEq] at h)

/-- One cell is written. -/
def setC (c : Cont) (i : Nat) (x : AV) (K : Cont → Prop) : Prop :=
  match c, x with
  | .bools l, .bool b => i < l.length ∧ K (.bools (l.set i b))
  | .ints k l, .int k' n => guardT (ikEq k k') (i < l.length ∧ K (.ints k (l.set i n)))
  | .flts k l, .flt k' n => guardT (fkEq k k') (i < l.length ∧ K (.flts k (l.set i n)))
  | .cpxs k l, .cpx k' a b => guardT (fkEq k k') (i < l.length ∧ K (.cpxs k (l.set i (a, b))))
  | .strs l, .str s => i < l.length ∧ K (.strs (l.set i s))
  | .avs l, x => guardT (Nat.blt i l.length) (guardT (isOne x) (K (.avs (setAt l i x))))
  | _, _ => False

theorem setC_out {c : Cont} {i : Nat} {x : AV} {K : Cont → Prop} (h : setC c i x K) : ∃ c', K c' ∧ i < c.avl.length ∧ isOne x = true ∧ c'.avl = c.avl.set i x := by
  unfold setC at h
  simp only [guardT_eq] at h
  split at h
  · exact ⟨_, h.2, by simpa [Cont.avl] using h.1, rfl, by simp [Cont.avl, List.map_set]⟩
  · obtain ⟨e, h1, h2⟩ := h
    have e := ikEq_eq e; subst e
    exact ⟨_, h2, by simpa [Cont.avl] using h1, rfl, by simp [Cont.avl, List.map_set]⟩
  · obtain ⟨e, h1, h2⟩ := h
    have e := fkEq_eq e; subst e
    exact ⟨_, h2, by simpa [Cont.avl] using h1, rfl, by simp [Cont.avl, List.map_set]⟩
  · obtain ⟨e, h1, h2⟩ := h
    have e := fkEq_eq e; subst e
    exact ⟨_, h2, by simpa [Cont.avl] using h1, rfl, by simp [Cont.avl, List.map_set]⟩
  · exact ⟨_, h.2, by simpa [Cont.avl] using h.1, rfl, by simp [Cont.avl, List.map_set]⟩
  · exact ⟨_, h.2.2, by simpa [Cont.avl, Nat.blt_eq] using h.1, h.2.1, by simp [Cont.avl, setAt_eq]⟩
  · exact h.elim

def setMany : Cont → Nat → List AV → (Cont → Prop) → Prop
  | c, _, [], K => K c
  | c, i, x :: xs, K => setC c i x fun c' => setMany c' (i + 1) xs K

theorem setMany_out : ∀ (xs : List AV) (c : Cont) (i : Nat) (K : Cont → Prop), setMany c i xs K →
    ∃ c', K c' ∧ (xs ≠ [] → i + xs.length ≤ c.avl.length) ∧ (∀ x ∈ xs, isOne x = true) ∧ c'.avl = c.avl.take i ++ xs ++ c.avl.drop (i + xs.length)
  | [], c, i, K, h => ⟨c, h, by simp, by simp, by simp⟩
  | x :: xs, c, i, K, h => by
    obtain ⟨c1, h1, h2, h3, h4⟩ := setC_out h
    obtain ⟨c2, g1, g2, g3, g4⟩ := setMany_out xs c1 (i + 1) K h1
    refine ⟨c2, g1, fun _ => ?_, fun y hy => ?_, ?_⟩
    · by_cases e : xs = []
      · subst e; simp; omega
      · have := g2 e; rw [h4] at this; simp at this ⊢; omega
    · rcases List.mem_cons.1 hy with rfl | hy
      · exact h3
      · exact g3 y hy
    · rw [g4, h4]; exact splice_succ _ _ _ _ h2

def storeAV (T : List (Nat × TyI)) (hp : List Seg) (t : Nat) (addr x : AV) (K : List Seg → Prop) : Prop :=
  match addr with
  | .ptr n off =>
    (match segAt hp n with
     | .seg true c =>
       (match sizeAt T t with
        | some s =>
          (match x with
           | .agg cs => guardT (Nat.beq cs.length s) (setMany c off cs fun c' => K (setSeg hp n (.seg true c')))
           | x => guardT (Nat.beq 1 s) (setC c off x fun c' => K (setSeg hp n (.seg true c'))))
        | none => False)
     | _ => False)
  | _ => False

section
variable {P : Program} {T : List (Nat × TyI)} {w0 : World} {L : Nat → Prop} {ρ : Plc} {st : St} {a : Act} {w : World}

theorem Rep.storeCont (h : Rep w0 L ρ st a w) {n off : Nat} {c c' : Cont} {xs : List AV} {vs : List Value} (hs : st.hp[n]? = some (.seg true c)) (hl : off + xs.length ≤ c.avl.length)
    (hd : Dens ρ xs vs) (h1 : ∀ v ∈ vs, v.oneCell' = true) (e : c'.avl = c.avl.take off ++ xs ++ c.avl.drop (off + xs.length)) :
    ∃ w', (storeCells ⟨(pl ρ n).1, (pl ρ n).2 + off, none⟩ vs 0).run P w = .ok () w' ∧ Rep w0 L ρ { st with hp := setSeg st.hp n (.seg true c') } a w' := by
  have hn : n < st.hp.length := (List.getElem?_eq_some_iff.1 hs).1
  have h2 := h.recont hs (c' := .avs c.avl) rfl
  obtain ⟨w', g1, g2⟩ := Rep.storeList (P := P) (n := n) xs vs _ w c.avl off 0 h2 (by simp [hn]) (by simpa using hl) hd h1
  refine ⟨w', g1, ?_⟩
  have h3 := g2.recont (n := n) (own := true) (c' := c') (by simp [hn]; rfl) (by simpa [Cont.avl] using e)
  simpa [setSeg_eq] using h3

theorem dens_one : ∀ {xs : List AV} {vs : List Value}, Dens ρ xs vs → (∀ x ∈ xs, isOne x = true) → ∀ v ∈ vs, v.oneCell' = true
  | [], vs, h, _, v, hv => by simp only [Dens] at h; subst h; simp at hv
  | x :: xs, vs, h, h1, v, hv => by
    simp only [Dens] at h
    obtain ⟨u, r, rfl, g1, g2⟩ := h
    rcases List.mem_cons.1 hv with rfl | hv
    · exact den_one (h1 x (by simp)) g1
    · exact dens_one g2 (fun y hy => h1 y (by simp [hy])) v hv

theorem zsize_of {t : Nat} {s : Nat} (hT : TOk P T) (h : sizeAt T t = some s) (w : World) : (sizeOf t).run P w = .ok s w := by
  unfold sizeAt at h
  split at h
  · rename_i i hi
    cases h
    exact run_sizeOf (hT.at hi) w
  · cases h

theorem store_sound (hT : TOk P T) {t : Nat} {ad x : AV} {K : List Seg → Prop} (h : storeAV T st.hp t ad x K) (hr : Rep w0 L ρ st a w) {va vx : Value} (ha : Den ρ ad va) (hx : Den ρ x vx) :
    ∃ H' w', K H' ∧ (Instr.storeAt t va vx).run P w = .ok () w' ∧ Rep w0 L ρ { st with hp := H' } a w' := by
  unfold storeAV at h
  simp only [guardT_eq] at h
  split at h
  · rename_i n off
    simp only [Den] at ha
    obtain ⟨_, rfl⟩ := ha
    split at h
    · rename_i c hseg
      have hs := segAt_some _ _ hseg
      split at h
      · rename_i s hsz
        split at h
        · rename_i cs
          obtain ⟨hlen, h⟩ := h
          have hlen := Nat.eq_of_beq_eq_true hlen
          obtain ⟨c', h1, h2, h3, h4⟩ := setMany_out _ _ _ _ h
          simp only [Den] at hx
          obtain ⟨vs, rfl, hd⟩ := hx
          by_cases e : cs = []
          · subst e
            simp only [Dens] at hd
            subst hd
            refine ⟨_, w, h1, ?_, ?_⟩
            · simp only [Instr.storeAt, Instr.sureAddr, Sem.run_bind, Sem.run_pure, Result.andThen_ok, storeVar, zsize_of hT hsz, Value.cells]
              simp at hlen
              simp [← hlen, storeCells]
            · have := hr.recont hs (c' := c') (by simpa using h4)
              rwa [setSeg_eq]
          · obtain ⟨w', g1, g2⟩ := hr.storeCont (P := P) (off := off) hs (h2 e) hd (dens_one hd h3) h4
            refine ⟨_, w', h1, ?_, g2⟩
            have : vs.length = s := by rw [← hd.len]; exact hlen
            simp only [Instr.storeAt, Instr.sureAddr, Sem.run_bind, Sem.run_pure, Result.andThen_ok, storeVar, zsize_of hT hsz, Value.cells, List.size_toArray, this, ne_eq, not_true_eq_false, if_false, g1]
        · obtain ⟨hlen, h⟩ := h
          have hlen := Nat.eq_of_beq_eq_true hlen
          obtain ⟨c', h1, h2, h3, h4⟩ := setC_out h
          have hone := den_one h3 hx
          obtain ⟨w', g1, g2⟩ := hr.storeCont (P := P) (off := off) (c' := c') (xs := [x]) (vs := [vx]) hs (by simp; omega) (by simp only [Dens]; exact ⟨vx, [], rfl, hx, rfl⟩) (by simpa using hone) (by
            rw [h4, List.set_eq_take_append_cons_drop, if_pos h2]; simp)
          refine ⟨_, w', h1, ?_, g2⟩
          simp only [Instr.storeAt, Instr.sureAddr, Sem.run_bind, Sem.run_pure, Result.andThen_ok, storeVar, zsize_of hT hsz, cells_one hone, ← hlen, List.size_toArray, List.length_cons, List.length_nil, ne_eq, not_true_eq_false, if_false, g1]
      · exact h.elim
    · exact h.elim
  · exact h.elim
end

/-- n zero elements of a type. -/
def zeroCont (T : List (Nat × TyI)) (e : Nat) (n : Nat) (K : Cont → Prop) : Prop :=
  match tyAt T e with
  | some i => guardT (Nat.beq i.size 1) (match i.d, i.zero with
    | .bool, .bool false => K (.bools (List.replicate n false))
    | .int _, .int k' z => K (.ints k' (List.replicate n z))
    | .float _, .float k z => K (.flts k (List.replicate n z))
    | .cpx _, .complex k x y => K (.cpxs k (List.replicate n (x, y)))
    | .str, .string s => K (.strs (List.replicate n s))
    | _, _ => False)
  | none => False

def elemOfT (T : List (Nat × TyI)) (t : Nat) : Option (Nat × TyI) :=
  match tyAt T t with
  | some i => (match i.d with | .slice e => (match tyAt T e with | some j => some (e, j) | none => none) | _ => none)
  | none => none

theorem elemOfT_some {P : Program} {T : List (Nat × TyI)} (hT : TOk P T) {t e : Nat} {j : TyI} (h : elemOfT T t = some (e, j)) : P.underlying t = some (.slice e) ∧ tyAt T e = some j ∧ Agrees P e j := by
  unfold elemOfT at h
  split at h
  · rename_i i hi
    split at h
    · rename_i e' he
      split at h
      · rename_i j' hj
        simp only [Option.some.injEq, Prod.mk.injEq] at h
        obtain ⟨rfl, rfl⟩ := h
        exact ⟨und_slice (hT.at hi) he, hj, hT.at hj⟩
      · cases h
    · cases h
  · cases h

def makeSliceAV (T : List (Nat × TyI)) (hp : List Seg) (t : Nat) (l c : AV) (K : AV → List Seg → Prop) : Prop :=
  match l, c, elemOfT T t with
  | .int _ l, .int _ c, some (e, j) =>
    (0 ≤ l ∧ l ≤ c ∧ (j.bytes : Int) * c ≤ 281474976710656 ∧ c ≤ 9223372036854775807) ∧ zeroCont T e c.toNat fun cc => K (.slice hp.length 0 l.toNat c.toNat) (hp ++ [.seg true cc])
  | _, _, _ => False

theorem dens_replicate {ρ : Plc} {x : AV} {v : Value} (h : Den ρ x v) : ∀ n, Dens ρ (List.replicate n x) (List.replicate n v)
  | 0 => by simp [Dens]
  | n + 1 => by simp only [List.replicate_succ, Dens]; exact ⟨_, _, rfl, h, dens_replicate h n⟩

theorem zeroCont_out {T : List (Nat × TyI)} {e n : Nat} {K : Cont → Prop} (h : zeroCont T e n K) :
    ∃ c i z, K c ∧ tyAt T e = some i ∧ i.size = 1 ∧ i.zero.cells = #[z] ∧ z.oneCell' = true ∧ (∀ ρ, Dens ρ c.avl (List.replicate n z)) ∧ c.len = n := by
  unfold zeroCont at h
  simp only [guardT_eq] at h
  split at h
  · rename_i i hi
    obtain ⟨hs, h⟩ := h
    have hs := Nat.eq_of_beq_eq_true hs
    split at h
    · rename_i hz; exact ⟨_, i, _, h, hi, hs, by rw [hz]; rfl, rfl, fun ρ => by simpa [Cont.avl] using dens_replicate (by simp [Den]) n, by simp [Cont.len]⟩
    · rename_i hz; exact ⟨_, i, _, h, hi, hs, by rw [hz]; rfl, rfl, fun ρ => by simpa [Cont.avl] using dens_replicate (by simp [Den]) n, by simp [Cont.len]⟩
    · rename_i hz; exact ⟨_, i, _, h, hi, hs, by rw [hz]; rfl, rfl, fun ρ => by simpa [Cont.avl] using dens_replicate (by simp [Den]) n, by simp [Cont.len]⟩
    · rename_i hz; exact ⟨_, i, _, h, hi, hs, by rw [hz]; rfl, rfl, fun ρ => by simpa [Cont.avl] using dens_replicate (by simp [Den]) n, by simp [Cont.len]⟩
    · rename_i hz; exact ⟨_, i, _, h, hi, hs, by rw [hz]; rfl, rfl, fun ρ => by simpa [Cont.avl] using dens_replicate (by simp [Den]) n, by simp [Cont.len]⟩
    · exact h.elim
  · exact h.elim

theorem makeSlice_sound {P : Program} {T : List (Nat × TyI)} (hT : TOk P T) {w0 : World} {L : Nat → Prop} {ρ : Plc} {st : St} {a : Act} {w : World} {t : Nat} {l c : AV} {K : AV → List Seg → Prop}
    (h : makeSliceAV T st.hp t l c K) (hr : Rep w0 L ρ st a w) {vl vc : Value} (hl : Den ρ l vl) (hc : Den ρ c vc) :
    ∃ x H' ρ' v w', K x H' ∧ (Instr.makeSlice t vl vc).run P w = .ok v w' ∧ Den (ρ ++ ρ') x v ∧ Rep w0 L (ρ ++ ρ') { st with hp := H' } a w' := by
  unfold makeSliceAV at h
  split at h
  · rename_i kl l kc c e j hej
    obtain ⟨⟨h1, h2, h3, h4⟩, h⟩ := h
    obtain ⟨hu, hj, hag⟩ := elemOfT_some hT hej
    obtain ⟨cc, i, z, hk, hi, hs1, hz, hone, hd, hlen⟩ := zeroCont_out h
    rw [hj] at hi; cases hi
    simp only [Den] at hl hc
    subst hl; subst hc
    obtain ⟨ji, g1, g2, g3, g4⟩ := info_of hag
    have hn := hr.heap.names
    have hrow := hr.newRow (c := cc) e (hd ρ) (fun v hv => by rw [(List.mem_replicate.1 hv).2]; exact hone)
    have hcells : madeCells j.zero.cells (c.toNat * ji.size) = (List.replicate c.toNat z).toArray := by
      rw [hz, g2, hs1]
      unfold madeCells
      apply Array.ext
      · simp
      · intro m hm1 hm2
        simp [Nat.mod_one]
    have hrun := run_make (P := P) w t e ji j.zero hu g1 g4 kl kc l c h1 h2 (by rw [g3]; exact h3) h4
    rw [hcells] at hrun
    refine ⟨_, _, _, _, _, hk, hrun, ?_, hrow⟩
    · simp only [Den]
      have : pl (ρ ++ [(w.heap.size, 0)]) st.hp.length = (w.heap.size, 0) := by simp [pl, ← hn]
      rw [this]
      exact ⟨by simp [hn], by omega, .inl (by simp)⟩
  · exact h.elim
end Go.Fw

namespace Go.Fw
open Go Go.RowKit

def subC (c : Cont) (off len : Nat) : Cont :=
  match c with
  | .bools l => .bools ((l.drop off).take len)
  | .ints k l => .ints k ((l.drop off).take len)
  | .flts k l => .flts k ((l.drop off).take len)
  | .cpxs k l => .cpxs k ((l.drop off).take len)
  | .strs l => .strs ((l.drop off).take len)
  | .avs l => .avs ((l.drop off).take len)

theorem subC_avl (c : Cont) (off len : Nat) : (subC c off len).avl = (c.avl.drop off).take len := by
  cases c <;> simp [subC, Cont.avl, List.map_take, List.map_drop]

def joinC (c d : Cont) (K : Cont → Prop) : Prop :=
  match c, d with
  | .bools a, .bools b => K (.bools (a ++ b))
  | .ints k a, .ints k' b => guardT (ikEq k k') (K (.ints k (a ++ b)))
  | .flts k a, .flts k' b => guardT (fkEq k k') (K (.flts k (a ++ b)))
  | .cpxs k a, .cpxs k' b => guardT (fkEq k k') (K (.cpxs k (a ++ b)))
  | .strs a, .strs b => K (.strs (a ++ b))
  | .avs a, .avs b => K (.avs (a ++ b))
  | _, _ => False

/-- Of one kind. -/
def kindEq : Cont → Cont → Bool
  | .bools _, .bools _ => true
  | .ints k _, .ints k' _ => ikEq k k'
  | .flts k _, .flts k' _ => fkEq k k'
  | .cpxs k _, .cpxs k' _ => fkEq k k'
  | .strs _, .strs _ => true
  | .avs _, .avs _ => true
  | _, _ => false

theorem ikEq_refl (k : IntKind) : ikEq k k = true := by cases k <;> rfl
theorem fkEq_refl (k : FloatKind) : fkEq k k = true := by cases k <;> rfl

theorem joinC_out {c d : Cont} {K : Cont → Prop} (h : joinC c d K) : ∃ r, K r ∧ r.avl = c.avl ++ d.avl ∧ kindEq r c = true := by
  unfold joinC at h
  simp only [guardT_eq] at h
  split at h
  · exact ⟨_, h, by simp [Cont.avl], rfl⟩
  · have e := ikEq_eq h.1; subst e; exact ⟨_, h.2, by simp [Cont.avl], ikEq_refl _⟩
  · have e := fkEq_eq h.1; subst e; exact ⟨_, h.2, by simp [Cont.avl], fkEq_refl _⟩
  · have e := fkEq_eq h.1; subst e; exact ⟨_, h.2, by simp [Cont.avl], fkEq_refl _⟩
  · exact ⟨_, h, by simp [Cont.avl], rfl⟩
  · exact ⟨_, h, by simp [Cont.avl], rfl⟩
  · exact h.elim

/-- Behind what is known stands some tail. -/
def tailC (sz : Nat) (c : Cont) (K : Cont → Nat → Prop) : Prop :=
  match c, sz with
  | .bools l, 1 => ∀ tl : List Bool, K (.bools (l ++ tl)) tl.length
  | .ints k l, 1 => ∀ tl : List Int, K (.ints k (l ++ tl)) tl.length
  | .flts k l, 1 => ∀ tl : List Nat, K (.flts k (l ++ tl)) tl.length
  | .cpxs k l, 1 => ∀ tl : List (Nat × Nat), K (.cpxs k (l ++ tl)) tl.length
  | .strs l, 1 => ∀ tl : List ByteArray, K (.strs (l ++ tl)) tl.length
  | .avs l, sz => ∀ r : Nat, K (.avs (l ++ List.replicate (r * sz) .any)) r
  | _, _ => False

theorem dens_any {ρ : Plc} : ∀ (vs : List Value), Dens ρ (List.replicate vs.length .any) vs
  | [] => by simp [Dens]
  | v :: vs => by simp only [List.length_cons, List.replicate_succ, Dens]; exact ⟨v, vs, rfl, by simp [Den], dens_any vs⟩

theorem Dens.append {ρ : Plc} : ∀ {xs ys : List AV} {us vs : List Value}, Dens ρ xs us → Dens ρ ys vs → Dens ρ (xs ++ ys) (us ++ vs)
  | [], ys, us, vs, h, h' => by simp only [Dens] at h; subst h; exact h'
  | x :: xs, ys, us, vs, h, h' => by
    simp only [Dens] at h
    obtain ⟨v, r, rfl, h1, h2⟩ := h
    simp only [List.cons_append, Dens]
    exact ⟨v, r ++ vs, rfl, h1, h2.append h'⟩

theorem Dens.split {ρ : Plc} : ∀ {xs ys : List AV} {us : List Value}, Dens ρ (xs ++ ys) us → ∃ u v, us = u ++ v ∧ Dens ρ xs u ∧ Dens ρ ys v
  | [], ys, us, h => ⟨[], us, rfl, by simp [Dens], h⟩
  | x :: xs, ys, us, h => by
    simp only [List.cons_append, Dens] at h
    obtain ⟨v, r, rfl, h1, h2⟩ := h
    obtain ⟨u, u', rfl, h3, h4⟩ := Dens.split h2
    exact ⟨v :: u, u', rfl, by simp only [Dens]; exact ⟨v, u, rfl, h1, h3⟩, h4⟩

theorem tailC_out {sz : Nat} {c c2 : Cont} {r : Nat} {K : Cont → Nat → Prop} (h : tailC sz c K) (hk : kindEq c c2 = true) (hl : c2.len = r * sz) :
    ∃ c', K c' r ∧ (∀ ρ vs, Dens ρ (c.avl ++ c2.avl) vs → Dens ρ c'.avl vs) ∧ c'.len = c.len + c2.len := by
  unfold tailC at h
  split at h
  · cases c2 <;> simp [kindEq] at hk
    rename_i l tl
    simp only [Cont.len, Nat.mul_one] at hl
    exact ⟨_, by rw [← hl]; exact h tl, fun ρ vs hd => by simpa [Cont.avl] using hd, by simp [Cont.len]⟩
  · cases c2 <;> simp [kindEq] at hk
    have e := ikEq_eq hk; subst e
    rename_i k l tl
    simp only [Cont.len, Nat.mul_one] at hl
    exact ⟨_, by rw [← hl]; exact h tl, fun ρ vs hd => by simpa [Cont.avl] using hd, by simp [Cont.len]⟩
  · cases c2 <;> simp [kindEq] at hk
    have e := fkEq_eq hk; subst e
    rename_i k l tl
    simp only [Cont.len, Nat.mul_one] at hl
    exact ⟨_, by rw [← hl]; exact h tl, fun ρ vs hd => by simpa [Cont.avl] using hd, by simp [Cont.len]⟩
  · cases c2 <;> simp [kindEq] at hk
    have e := fkEq_eq hk; subst e
    rename_i k l tl
    simp only [Cont.len, Nat.mul_one] at hl
    exact ⟨_, by rw [← hl]; exact h tl, fun ρ vs hd => by simpa [Cont.avl] using hd, by simp [Cont.len]⟩
  · cases c2 <;> simp [kindEq] at hk
    rename_i l tl
    simp only [Cont.len, Nat.mul_one] at hl
    exact ⟨_, by rw [← hl]; exact h tl, fun ρ vs hd => by simpa [Cont.avl] using hd, by simp [Cont.len]⟩
  · cases c2 <;> simp [kindEq] at hk
    rename_i l tl
    simp only [Cont.len] at hl
    refine ⟨_, h r, fun ρ vs hd => ?_, by simp [Cont.len, hl]⟩
    simp only [Cont.avl] at hd ⊢
    obtain ⟨u, v, rfl, h1, h2⟩ := hd.split
    have := dens_any (ρ := ρ) v
    rw [← h2.len, hl] at this
    exact h1.append this
  · exact h.elim

/-- Zero cells of a content's kind. -/
def zeroFits (c : Cont) (z : Value) : Bool :=
  match c, z with
  | .bools _, .bool _ => true
  | .ints k _, .int k' _ => ikEq k k'
  | .flts k _, .float k' _ => fkEq k k'
  | .cpxs k _, .complex k' _ _ => fkEq k k'
  | .strs _, .string _ => true
  | .avs _, z => z.cells.toList.all Value.oneCell'
  | _, _ => false

theorem flat_rep {z : Array Value} : ∀ n, (Builtin.zeroCells z n).toList.length = n * z.size := fun n => by simp [Builtin.zeroCells]

theorem zeroCells_mem {z : Array Value} {n : Nat} {v : Value} (h : v ∈ Builtin.zeroCells z n) : v ∈ z := by
  simp only [Builtin.zeroCells, Array.mem_map, Array.mem_range] at h
  obtain ⟨i, hi, rfl⟩ := h
  have hz : 0 < z.size := by
    rcases Nat.eq_zero_or_pos z.size with e | e
    · rw [e] at hi; simp at hi
    · exact e
  have := Nat.mod_lt i hz
  simp [this]

/-- The zero cells as a content of that kind. -/
theorem zeroFits_out {c : Cont} {z : Value} (h : zeroFits c z = true) (n : Nat) : ∃ c2, kindEq c c2 = true ∧ (∀ ρ, Dens ρ c2.avl (Builtin.zeroCells z.cells n).toList) ∧ c2.len = n * z.cells.size ∧ (∀ v ∈ (Builtin.zeroCells z.cells n).toList, v.oneCell' = true) := by
  have one : ∀ v : Value, v.oneCell' = true → (Builtin.zeroCells v.cells n).toList = List.replicate n v := fun v hv => by
    rw [cells_one hv]
    apply List.ext_getElem?
    intro i
    simp only [Builtin.zeroCells, List.size_toArray, List.length_cons, List.length_nil, Nat.zero_add, Nat.mul_one, Nat.mod_one, Array.toList_map, Array.toList_range, List.getElem?_map, List.getElem?_replicate]
    by_cases hi : i < n <;> simp [hi]
  unfold zeroFits at h
  split at h
  · rename_i l b
    refine ⟨.bools (List.replicate n b), rfl, fun ρ => ?_, by simp [Cont.len, Value.cells], fun v hv => ?_⟩
    · rw [one _ rfl]; simpa [Cont.avl] using dens_replicate (by simp [Den]) n
    · rw [one _ rfl] at hv; rw [(List.mem_replicate.1 hv).2]; rfl
  · rename_i k l k' m
    have e := ikEq_eq h; subst e
    refine ⟨.ints k (List.replicate n m), ikEq_refl _, fun ρ => ?_, by simp [Cont.len, Value.cells], fun v hv => ?_⟩
    · rw [one _ rfl]; simpa [Cont.avl] using dens_replicate (by simp [Den]) n
    · rw [one _ rfl] at hv; rw [(List.mem_replicate.1 hv).2]; rfl
  · rename_i k l k' m
    have e := fkEq_eq h; subst e
    refine ⟨.flts k (List.replicate n m), fkEq_refl _, fun ρ => ?_, by simp [Cont.len, Value.cells], fun v hv => ?_⟩
    · rw [one _ rfl]; simpa [Cont.avl] using dens_replicate (by simp [Den]) n
    · rw [one _ rfl] at hv; rw [(List.mem_replicate.1 hv).2]; rfl
  · rename_i k l k' m m'
    have e := fkEq_eq h; subst e
    refine ⟨.cpxs k (List.replicate n (m, m')), fkEq_refl _, fun ρ => ?_, by simp [Cont.len, Value.cells], fun v hv => ?_⟩
    · rw [one _ rfl]; simpa [Cont.avl] using dens_replicate (by simp [Den]) n
    · rw [one _ rfl] at hv; rw [(List.mem_replicate.1 hv).2]; rfl
  · rename_i l b
    refine ⟨.strs (List.replicate n b), rfl, fun ρ => ?_, by simp [Cont.len, Value.cells], fun v hv => ?_⟩
    · rw [one _ rfl]; simpa [Cont.avl] using dens_replicate (by simp [Den]) n
    · rw [one _ rfl] at hv; rw [(List.mem_replicate.1 hv).2]; rfl
  · rename_i l
    refine ⟨.avs (List.replicate (n * z.cells.size) .any), rfl, fun ρ => ?_, by simp [Cont.len], fun v hv => ?_⟩
    · have := dens_any (ρ := ρ) (Builtin.zeroCells z.cells n).toList
      rw [flat_rep] at this; simpa [Cont.avl] using this
    · exact List.all_eq_true.1 h v (by simpa using zeroCells_mem (by simpa using hv))
  · cases h
end Go.Fw

namespace Go.Fw
open Go Go.RowKit

/-- What is appended: its cells, and how many elements. -/
def srcAV (T : List (Nat × TyI)) (hp : List Seg) (t : Nat) (sz : Nat) (z : Value) (x : AV) (K : Cont → Nat → Prop) : Prop :=
  match tyAt T t with
  | some i =>
    (match i.d, x with
     | .slice _, .slice n off len _ =>
       (match segAt hp n with
        | .seg _ c => off + mulSz sz len ≤ c.len ∧ K (subC c off (mulSz sz len)) len
        | _ => False)
     | .str, .str s => guardT (Nat.beq sz 1) (K (.ints .u8 (s.data.toList.map fun b => (b.toNat : Int))) s.size)
     | .int _, .int _ n => (0 ≤ n ∧ n ≤ 9223372036854775807) ∧ ∃ d : Cont, ((∀ ρ, Dens ρ d.avl (Builtin.zeroCells z.cells n.toNat).toList) ∧ ∀ v ∈ (Builtin.zeroCells z.cells n.toNat).toList, v.oneCell' = true) ∧ K d n.toNat
     | _, _ => False)
  | none => False

def appendTo (sz bytes : Nat) (z : Value) (len : Nat) (jn : Cont) (m : Nat) (hp' : List Seg) (K : AV → List Seg → Prop) : Prop :=
  (len + m ≤ 9223372036854775807 ∧ (len + m) * bytes ≤ 140737488355328) ∧ guardT (zeroFits jn z) (tailC sz jn fun c' r => K (.slice hp'.length 0 (len + m) (len + m + r)) (hp' ++ [.seg true c']))

def appendAV (T : List (Nat × TyI)) (hp : List Seg) (t t2 : Nat) (s x : AV) (K : AV → List Seg → Prop) : Prop :=
  match elemOfT T t with
  | none => False
  | some (_, j) =>
    guardT (Nat.blt 0 j.size) <| guardT (Nat.beq j.zero.cells.size j.size) <|
    srcAV T hp t2 j.size j.zero x fun d m =>
      match s with
      | .nils => appendTo j.size j.bytes j.zero 0 d m hp K
      | .slice n off len cap =>
        (match segAt hp n with
         | .seg true c => off + mulSz j.size cap ≤ c.len ∧ joinC (subC c off (mulSz j.size len)) d fun jn => appendTo j.size j.bytes j.zero len jn m (setSeg hp n .dead) K
         | .seg false c => (off + mulSz j.size len ≤ c.len ∧ cap < len + m) ∧ joinC (subC c off (mulSz j.size len)) d fun jn => appendTo j.size j.bytes j.zero len jn m hp K
         | _ => False)
      | _ => False

section
variable {P : Program} {T : List (Nat × TyI)} {w0 : World} {L : Nat → Prop} {ρ : Plc} {st : St} {a : Act} {w : World}

/-- Cells that a living name holds, read. -/
theorem read_cells (h : HeapOk w0.heap.size L ρ st.hp w) {n : Nat} {own : Bool} {c : Cont} (hs : st.hp[n]? = some (.seg own c)) (off m : Nat) (hl : off + m ≤ c.len) :
    ∃ vs : List Value, vs.length = m ∧ Dens ρ ((c.avl.drop off).take m) vs ∧ (∀ v ∈ vs, v.oneCell' = true) ∧ ∀ j v, vs[j]? = some v → w.cell? ⟨(pl ρ n).1, (pl ρ n).2 + off + j, none⟩ = some v := by
  have hcs := h.cells n _ hs
  simp only [SegOk, CellsAt] at hcs
  have hlen := Cont.len_eq c
  induction m with
  | zero => exact ⟨[], rfl, by simp [Dens], by simp, by simp⟩
  | succ m ih =>
    obtain ⟨vs, h1, h2, h2', h3⟩ := ih (by omega)
    obtain ⟨v, g1, g2, g3, _⟩ := hcs (off + m) (c.avl[off + m]'(by omega)) (by simp)
    have e : (c.avl.drop off).take (m + 1) = (c.avl.drop off).take m ++ [c.avl[off + m]'(by omega)] := by
      rw [List.take_succ_eq_append_getElem (by simp; omega)]; simp
    refine ⟨vs ++ [v], by simp [h1], ?_, ?_, ?_⟩
    · rw [e]; exact h2.append (by simp only [Dens]; exact ⟨v, [], rfl, g2, rfl⟩)
    · intro u hu
      rcases List.mem_append.1 hu with hu | hu
      · exact h2' u hu
      · simp at hu; subst hu; exact g3
    · intro j u hju
      rcases Nat.lt_or_ge j m with hlt | hge
      · rw [List.getElem?_append_left (by omega)] at hju
        exact h3 j u hju
      · rw [List.getElem?_append_right (by omega)] at hju
        have : j = m := by
          rcases Nat.lt_or_ge (j - vs.length) 1 with h5 | h5
          · omega
          · simp [List.getElem?_eq_none (show [v].length ≤ j - vs.length by simpa using h5)] at hju
        subst this
        simp [h1] at hju
        subst hju
        rw [Nat.add_assoc]; exact g1

theorem run_first {P : Program} {w : World} {n off sz m len cap : Nat} {vs : List Value} (hl : vs.length = m * sz) (h : ∀ j v, vs[j]? = some v → w.cell? ⟨(pl ρ n).1, (pl ρ n).2 + off + j, none⟩ = some v) :
    (Builtin.firstCells sz m (.slice (some ⟨(pl ρ n).1, (pl ρ n).2 + off, none⟩) len cap)).run P w = .ok vs.toArray w := by
  have := run_loadCells (P := P) (w := w) (b := (pl ρ n).1) (o := (pl ρ n).2 + off) (m * sz) 0 vs #[] hl (fun j v hj => by rw [Nat.add_zero]; exact h j v hj)
  simpa [Builtin.firstCells, loadCells] using this

/-- What the source says to append_. -/
structure SrcOk (P : Program) (ρ : Plc) (w : World) (t2 : TypeId) (sz : Nat) (z vx : Value) (d : Cont) (m : Nat) (news : List Value) : Prop where
  src : (((∃ e, P.underlying t2 = some (.slice e)) ∨ P.underlying t2 = some .string) ∧ (∀ w' : World, (Builtin.lenOf vx).run P w' = .ok m w') ∧ ∀ w' : World, w'.heap = w.heap → (Builtin.firstCells sz m vx).run P w' = .ok news.toArray w') ∨
    ∃ k k2, P.underlying t2 = some (.int k) ∧ vx = .int k2 (m : Int) ∧ m ≤ 9223372036854775807 ∧ news = (Builtin.zeroCells z.cells m).toList
  dens : Dens ρ d.avl news
  one : ∀ v ∈ news, v.oneCell' = true
  cnt : news.length = m * sz

theorem src_sound (hT : TOk P T) {t2 sz : Nat} {x : AV} {z : Value} (hzz : z.cells.size = sz) {K : Cont → Nat → Prop} (h : srcAV T st.hp t2 sz z x K) (hh : HeapOk w0.heap.size L ρ st.hp w) {vx : Value} (hx : Den ρ x vx) :
    ∃ d m news, K d m ∧ SrcOk P ρ w t2 sz z vx d m news := by
  unfold srcAV at h
  simp only [guardT_eq] at h
  split at h
  · rename_i i hi
    split at h
    · rename_i e n off len cap hid
      split at h
      · rename_i own c hseg
        obtain ⟨hl, hk⟩ := h
        rw [mulSz_eq] at hl hk
        obtain ⟨vs, h1, h2, h3, h4⟩ := read_cells hh (segAt_some _ _ hseg) off (len * sz) hl
        simp only [Den] at hx
        obtain ⟨hn, hlc, hx⟩ := hx
        refine ⟨_, _, vs, hk, ⟨.inl ⟨.inl ⟨_, und_slice (hT.at hi) hid⟩, ?_, ?_⟩, by rw [subC_avl]; exact h2, h3, h1⟩⟩
        · rcases hx with rfl | ⟨rfl, a, rfl⟩
          · intro w'; rfl
          · intro w'; rw [show len = 0 by omega]; rfl
        · intro w' hw
          rcases hx with rfl | ⟨rfl, a, rfl⟩
          · exact run_first h1 (fun j v hj => by rw [cell_same hw]; exact h4 j v hj)
          · obtain rfl : len = 0 := by omega
            have : vs = [] := List.eq_nil_of_length_eq_zero (by simpa using h1)
            subst this
            cases a <;> simp [Builtin.firstCells, loadCells, loadCellsFrom]
      · exact h.elim
    · rename_i s hid
      obtain ⟨hs, hk⟩ := h
      have hs := Nat.eq_of_beq_eq_true hs
      subst hs
      simp only [Den] at hx
      subst hx
      refine ⟨_, _, s.data.toList.map fun b => Value.int .u8 b.toNat, hk, ⟨.inl ⟨.inr (und_str (hT.at hi) hid), fun _ => rfl, fun w' _ => ?_⟩, ?_, ?_, by rw [List.length_map, Nat.mul_one]; rfl⟩⟩
      · have : s.extract 0 s.size = s := by simp
        simp only [Builtin.firstCells, this, Sem.run_pure]
        congr 1
        rw [← Array.toList_inj]; simp
      · simp only [Cont.avl, List.map_map]
        generalize s.data.toList = l
        induction l with
        | nil => simp [Dens]
        | cons b l ih => simp only [List.map_cons, Dens]; exact ⟨_, _, rfl, by simp [Den], ih⟩
      · intro v hv
        obtain ⟨b, _, rfl⟩ := List.mem_map.1 hv
        rfl
    · rename_i ik ik2 n hid
      obtain ⟨⟨h0, h1⟩, d, ⟨hd, ho⟩, hk⟩ := h
      simp only [Den] at hx
      subst hx
      exact ⟨d, n.toNat, _, hk, ⟨.inr ⟨ik, ik2, und_int (hT.at hi) hid, by rw [Int.toNat_of_nonneg h0], by omega, rfl⟩, hd ρ, ho, by rw [flat_rep, hzz]⟩⟩
    · exact h.elim
  · exact h.elim

theorem zeros_nil {z : Value} {m : Nat} (h : m * z.cells.size = 0) : (Builtin.zeroCells z.cells m) = #[] := by
  simp [Builtin.zeroCells, h]

/-- append_ where there is room. -/
theorem run_append_in {t t2 ty e : TypeId} {i : TypeInfo} {z : Value} (ht : P.underlying t = some (.slice e)) (hi : P.info? e = some i) (hz : i.zero = some z) (hzs : z.cells.size = i.size) {b : Option Addr} {len cap m : Nat} {vx : Value} {d : Cont} {news : List Value} (hs : SrcOk P ρ w t2 i.size z vx d m news)
    (hroom : len + m ≤ cap) (hby : m * i.bytes ≤ 281474976710656) {w' : World} (hst : (match b with | some a => (storeCells (a.add (len * i.size)) news 0).run P w | none => .ok () w) = .ok () w') :
    (Builtin.append_ #[t, t2] ty #[.slice b len cap, vx]).run P w = .ok (.slice b (len + m) cap) w' := by
  rcases hs.src with ⟨hu, h1, h2⟩ | ⟨k, k2, hu, rfl, hm, rfl⟩
  · have h1 := h1 w
    have h2 := h2 w rfl
    cases b with
    | none => cases hst; rcases hu with ⟨e2, hu⟩ | hu <;> simp [Builtin.append_, run_underlying ht, run_underlying hu, sizeOf, typeInfo, hi, h1, h2, hroom]
    | some a => rcases hu with ⟨e2, hu⟩ | hu <;> simp [Builtin.append_, run_underlying ht, run_underlying hu, sizeOf, typeInfo, hi, h1, h2, hroom, hst]
  · have hw : IntKind.i64.wrap (m : Int) = m := wrap_i64 (by omega)
    have hn : ¬ ((m : Int) < 0) := by omega
    have hb : ¬ ((281474976710656 : Int) < (m : Int) * (i.bytes : Int)) := by
      have e1 : ((m * i.bytes : Nat) : Int) = (m : Int) * (i.bytes : Int) := by simp
      omega
    by_cases h0 : m * i.size = 0
    · have hnil : (Builtin.zeroCells z.cells m).toList = [] := by rw [zeros_nil (by rw [hzs]; exact h0)]
      rw [hnil] at hst
      have hww : w' = w := by
        cases b with
        | none => cases hst; rfl
        | some a => simp [storeCells] at hst; exact hst.symm
      subst hww
      cases b with
      | none => simp [Builtin.append_, run_underlying ht, run_underlying hu, sizeOf, typeInfo, hi, asInt, asIntOf, hw, hn, hb, hroom, h0, Int.toNat_natCast]
      | some a => simp [Builtin.append_, run_underlying ht, run_underlying hu, sizeOf, typeInfo, hi, asInt, asIntOf, hw, hn, hb, hroom, h0, Int.toNat_natCast, storeCells]
    · cases b with
      | none => cases hst; simp [Builtin.append_, run_underlying ht, run_underlying hu, sizeOf, typeInfo, hi, asInt, asIntOf, hw, hn, hb, hroom, Int.toNat_natCast, zeroValue, hz]
      | some a => simp [Builtin.append_, run_underlying ht, run_underlying hu, sizeOf, typeInfo, hi, asInt, asIntOf, hw, hn, hb, hroom, h0, Int.toNat_natCast, zeroValue, hz, hst]

/-- append_ where there is none: a new row. -/
theorem run_append_new {t t2 ty e : TypeId} {i : TypeInfo} {z : Value} (ht : P.underlying t = some (.slice e)) (hi : P.info? e = some i) (hz : i.zero = some z) (hzs : z.cells.size = i.size) {b : Option Addr} {len cap m : Nat} {vx : Value} {d : Cont} {news olds : List Value} (hs : SrcOk P ρ w t2 i.size z vx d m news)
    (hold : ∀ w' : World, w'.heap = w.heap → (Builtin.firstCells i.size len (.slice b len cap)).run P w' = .ok olds.toArray w')
    (hg : cap < len + m) (h63 : len + m ≤ 9223372036854775807) (hby : (len + m) * i.bytes ≤ 140737488355328) :
    (Builtin.append_ #[t, t2] ty #[.slice b len cap, vx]).run P w =
      .ok (.slice (some ⟨w.heap.size, 0, none⟩) (len + m) (grownCap w (len + m) cap e)) (w.drew.alloc (.cells (olds.toArray ++ news.toArray ++ Builtin.zeroCells z.cells (grownCap w (len + m) cap e - (len + m))) e)) := by
  have h3 := hold w.drew rfl
  have hroom : ¬ len + m ≤ cap := by omega
  have hfit := growslice_fits hg hby
  have hfit' : ¬ 281474976710656 < Builtin.nextslicecap (len + m) cap * i.bytes := by omega
  have hn : ¬ (9223372036854775807 < (len : Int) + (m : Int)) := by omega
  have hask : ∀ n w', (askRoom n).run P w' = .ok () w' := fun n w' => by unfold askRoom; split <;> rfl
  rcases hs.src with ⟨hu, h1, h2⟩ | ⟨k, k2, hu, rfl, hm, rfl⟩
  · have h1 := h1 w
    have h2 := h2 w.drew rfl
    rcases hu with ⟨e2, hu⟩ | hu <;> simp [Builtin.append_, run_underlying ht, run_underlying hu, sizeOf, typeInfo, hi, h1, h2, h3, hroom, hfit', hn, hask, Question.forced, zeroValue, hz, newRow, grownCap]
    all_goals
      congr 2
      apply Array.ext'
      simp [List.append_assoc]
  · have hw : IntKind.i64.wrap (m : Int) = m := wrap_i64 (by omega)
    have hn0 : ¬ ((m : Int) < 0) := by omega
    have hb : ¬ ((281474976710656 : Int) < (m : Int) * (i.bytes : Int)) := by
      have e1 : ((m * i.bytes : Nat) : Int) = (m : Int) * (i.bytes : Int) := by simp
      have e2 : m * i.bytes ≤ (len + m) * i.bytes := Nat.mul_le_mul_right _ (by omega)
      omega
    by_cases h0 : m * i.size = 0
    · have hnil : Builtin.zeroCells z.cells m = #[] := zeros_nil (by rw [hzs]; exact h0)
      simp [Builtin.append_, run_underlying ht, run_underlying hu, sizeOf, typeInfo, hi, asInt, asIntOf, hw, hn0, hb, Int.toNat_natCast, h3, hroom, hfit', hn, hask, Question.forced, zeroValue, hz, newRow, grownCap, hnil]
    · simp [Builtin.append_, run_underlying ht, run_underlying hu, sizeOf, typeInfo, hi, asInt, asIntOf, hw, hn0, hb, h0, Int.toNat_natCast, h3, hroom, hfit', hn, hask, Question.forced, zeroValue, hz, newRow, grownCap]
      try
        congr 2
        apply Array.ext'
        simp [List.append_assoc]

theorem Rep.drew {w0 : World} {L : Nat → Prop} {ρ : Plc} {st : St} {a : Act} {w : World} (h : Rep w0 L ρ st a w) : Rep w0 L ρ st a w.drew := h.drewN 1

theorem Rep.killSeg {w0 : World} {L : Nat → Prop} {ρ : Plc} {st : St} {a : Act} {w : World} (h : Rep w0 L ρ st a w) (n : Nat) : Rep w0 L ρ { st with hp := setSeg st.hp n .dead } a w :=
  ⟨h.slots, by rw [setSeg_eq]; exact h.heap.kill n, h.kept, h.defers⟩

/-- The new row. -/
theorem appendTo_new {st' : St} (hr' : Rep w0 L ρ st' a w) {t t2 ty e : TypeId} {j : TyI} (hu : P.underlying t = some (.slice e)) (hag : Agrees P e j) {b : Option Addr} {len cap m : Nat} {vx : Value} {d jn : Cont} {news olds : List Value} {K : AV → List Seg → Prop}
    (hs : SrcOk P ρ w t2 j.size j.zero vx d m news) (hold : ∀ w' : World, w'.heap = w.heap → (Builtin.firstCells j.size len (.slice b len cap)).run P w' = .ok olds.toArray w')
    (hzs : j.zero.cells.size = j.size) (h1 : ∀ v ∈ olds, v.oneCell' = true) (hjn : Dens ρ jn.avl (olds ++ news)) (hg : cap < len + m) (h : appendTo j.size j.bytes j.zero len jn m st'.hp K) :
    ∃ x H' ρ' v w', K x H' ∧ (Builtin.append_ #[t, t2] ty #[.slice b len cap, vx]).run P w = .ok v w' ∧ Den (ρ ++ ρ') x v ∧ Rep w0 L (ρ ++ ρ') { st' with hp := H' } a w' := by
  unfold appendTo at h
  rw [guardT_eq] at h
  obtain ⟨⟨h63, hby⟩, hz, ht⟩ := h
  obtain ⟨ji, g1, g2, g3, g4⟩ := info_of hag
  have hge := grownCap_ge w (len + m) cap e
  obtain ⟨c2, k1, k2, k3, k4⟩ := zeroFits_out hz (grownCap w (len + m) cap e - (len + m))
  obtain ⟨c', hk, hd, hl⟩ := tailC_out ht k1 (by rw [k3, hzs])
  have hrun := run_append_new (ty := ty) (w := w) (ρ := ρ) hu g1 g4 (by rw [g2]; exact hzs) (b := b) (len := len) (cap := cap) (by rw [g2]; exact hs) (by rw [g2]; exact hold) hg h63 (by rw [g3]; exact hby)
  have hrow := hr'.drew.newRow (c := c') (vs := olds ++ news ++ (Builtin.zeroCells j.zero.cells (grownCap w (len + m) cap e - (len + m))).toList) e (hd ρ _ (hjn.append (k2 ρ))) (by
    intro v hv
    rcases List.mem_append.1 hv with hv | hv
    · rcases List.mem_append.1 hv with hv | hv
      · exact h1 v hv
      · exact hs.one v hv
    · exact k4 v hv)
  have ea : (olds ++ news ++ (Builtin.zeroCells j.zero.cells (grownCap w (len + m) cap e - (len + m))).toList).toArray = olds.toArray ++ news.toArray ++ Builtin.zeroCells j.zero.cells (grownCap w (len + m) cap e - (len + m)) := by
    apply Array.ext'; simp
  rw [ea] at hrow
  refine ⟨_, _, _, _, _, hk, hrun, ?_, hrow⟩
  have hn := hr'.heap.names
  have : pl (ρ ++ [(w.drew.heap.size, 0)]) st'.hp.length = (w.heap.size, 0) := by simp [pl, ← hn]
  simp only [Den, this]
  exact ⟨by simp [hn], by omega, .inl (by simp only [Nat.add_zero]; congr 1; omega)⟩

set_option maxHeartbeats 400000 in
theorem append_sound (hT : TOk P T) {t t2 ty : Nat} {s x : AV} {K : AV → List Seg → Prop} (h : appendAV T st.hp t t2 s x K) (hr : Rep w0 L ρ st a w) {vs vx : Value} (hs : Den ρ s vs) (hx : Den ρ x vx) :
    ∃ x H' ρ' v w', K x H' ∧ (Builtin.append_ #[t, t2] ty #[vs, vx]).run P w = .ok v w' ∧ Den (ρ ++ ρ') x v ∧ Rep w0 L (ρ ++ ρ') { st with hp := H' } a w' := by
  unfold appendAV at h
  simp only [guardT_eq] at h
  split at h
  · exact h.elim
  · rename_i e j hej
    obtain ⟨hu, hj, hag⟩ := elemOfT_some hT hej
    obtain ⟨hpos, hzs, h⟩ := h
    have hzs := Nat.eq_of_beq_eq_true hzs
    have hpos : 0 < j.size := by simpa [Nat.blt_eq] using hpos
    obtain ⟨d, m, news, h, hsrc⟩ := src_sound hT hzs h hr.heap hx
    split at h
    · simp only [Den] at hs
      subst hs
      rcases Nat.eq_zero_or_pos m with hm | hm
      · subst hm
        unfold appendTo at h
        rw [guardT_eq] at h
        obtain ⟨_, hz, ht⟩ := h
        obtain ⟨c2, k1, k2, k3, k4⟩ := zeroFits_out hz 0
        obtain ⟨c', hk, hd, hl⟩ := tailC_out (r := 0) ht k1 (by rw [k3]; simp)
        have hnil : news = [] := List.eq_nil_of_length_eq_zero (by simpa using hsrc.cnt)
        have hd0 : d.len = 0 := by rw [← Cont.len_eq, hsrc.dens.len, hnil]; rfl
        have hl0 : c'.len = 0 := by rw [hl, hd0, k3]; simp
        have hn := hr.heap.names
        refine ⟨_, _, [(0, 0)], .slice none 0 0, w, hk, ?_, ?_, ⟨hr.slots.grow _, hr.heap.push ?_ (fun _ h => by omega) (fun h => by omega), hr.kept, hr.defers⟩⟩
        · obtain ⟨ji, g1, g2, g3, g4⟩ := info_of hag
          subst hnil
          have hh := run_append_in (P := P) (t := t) (t2 := t2) (ty := ty) (w := w) (ρ := ρ) (b := none) (len := 0) (cap := 0) (m := 0) (w' := w) hu g1 g4 (by rw [g2]; exact hzs) (by rw [g2]; exact hsrc) (Nat.le_refl _) (by rw [Nat.zero_mul]; exact Nat.zero_le _) rfl
          exact hh
        · simp only [Den]
          exact ⟨by simp [hn], by omega, .inr ⟨trivial, none, rfl⟩⟩
        · intro i y hi
          have : c'.avl = [] := List.eq_nil_of_length_eq_zero (by rw [Cont.len_eq]; exact hl0)
          simp [this] at hi
      · exact appendTo_new hr hu hag hsrc (olds := []) (fun w' _ => by simp [Builtin.firstCells]) hzs (by simp) (by simpa using hsrc.dens) (by omega) h
    · rename_i n off len cap _
      simp only [Den] at hs
      obtain ⟨hn, hlc, hs⟩ := hs
      split at h
      · rename_i c hseg
        have hsg := segAt_some _ _ hseg
        obtain ⟨hl, h⟩ := h
        rw [mulSz_eq] at hl h
        have hlsz : len * j.size ≤ cap * j.size := Nat.mul_le_mul_right _ hlc
        obtain ⟨jn, hap, hja, hkk⟩ := joinC_out h
        clear h
        obtain ⟨olds, h1, h2, h3, h4⟩ := read_cells hr.heap hsg off (len * j.size) (by omega)
        have hjn : Dens ρ jn.avl (olds ++ news) := by rw [hja, subC_avl]; exact h2.append hsrc.dens
        rcases Nat.lt_or_ge cap (len + m) with hg | hroom
        · rcases hs with rfl | ⟨rfl, b, rfl⟩
          · exact appendTo_new (hr.killSeg n) hu hag hsrc (fun w' hw => run_first h1 (fun i v hi => by rw [cell_same hw]; exact h4 i v hi)) hzs h3 hjn hg hap
          · obtain rfl : len = 0 := by omega
            have : olds = [] := List.eq_nil_of_length_eq_zero (by simpa using h1)
            subst this
            exact appendTo_new (hr.killSeg n) hu hag hsrc (olds := []) (fun w' _ => by cases b <;> simp [Builtin.firstCells, loadCells, loadCellsFrom]) hzs (by simp) hjn hg hap
        · unfold appendTo at hap
          rw [guardT_eq] at hap
          obtain ⟨⟨_, hbyy⟩, hz, ht⟩ := hap
          obtain ⟨ji, g1, g2, g3, g4⟩ := info_of hag
          have hnl : d.avl.length = m * j.size := by rw [hsrc.dens.len, hsrc.cnt]
          have hmsz : (len + m) * j.size ≤ cap * j.size := Nat.mul_le_mul_right _ hroom
          rw [Nat.add_mul] at hmsz
          have hcl := Cont.len_eq c
          have hkc : kindEq jn (subC c (off + (len + m) * j.size) ((cap - (len + m)) * j.size)) = true := by
            revert hkk; cases c <;> cases jn <;> simp [subC, kindEq]
          have hcap : (len + m) * j.size + (cap - (len + m)) * j.size = cap * j.size := by rw [← Nat.add_mul]; congr 1; omega
          have hslen : (subC c (off + (len + m) * j.size) ((cap - (len + m)) * j.size)).len = (cap - (len + m)) * j.size := by
            rw [← Cont.len_eq, subC_avl]; simp; rw [Nat.add_mul] at hcap ⊢; omega
          obtain ⟨c', hk, hd, hlc'⟩ := tailC_out (r := cap - (len + m)) ht hkc hslen
          have hmb : m * j.bytes ≤ 281474976710656 := by have := Nat.mul_le_mul_right j.bytes (show m ≤ len + m by omega); omega
          -- the store
          have hst : ∃ w', (Builtin.append_ #[t, t2] ty #[vs, vx]).run P w = .ok (match vs with | .slice b _ _ => .slice b (len + m) cap | v => v) w' ∧
              Rep w0 L ρ { st with hp := setSeg st.hp n (.seg true (.avs (c.avl.take (off + len * j.size) ++ d.avl ++ c.avl.drop (off + len * j.size + d.avl.length)))) } a w' ∧ (∃ b, vs = .slice b len cap) := by
            rcases hs with rfl | ⟨rfl, b, rfl⟩
            · obtain ⟨w', s1, s2⟩ := hr.storeCont (P := P) (off := off + len * j.size) (c' := .avs (c.avl.take (off + len * j.size) ++ d.avl ++ c.avl.drop (off + len * j.size + d.avl.length))) hsg (by rw [hnl]; omega) hsrc.dens hsrc.one rfl
              refine ⟨w', run_append_in (ty := ty) (w := w) (ρ := ρ) hu g1 g4 (by rw [g2]; exact hzs) (by rw [g2]; exact hsrc) hroom (by rw [g3]; exact hmb) (by simp only [addr_add]; rw [g2, Nat.add_assoc]; exact s1), s2, _, rfl⟩
            · obtain rfl : len = 0 := by omega
              obtain rfl : m = 0 := by omega
              have hnil : news = [] := List.eq_nil_of_length_eq_zero (by simpa using hsrc.cnt)
              have hd0 : d.avl = [] := List.eq_nil_of_length_eq_zero (by simpa using hnl)
              refine ⟨w, ?_, ?_, b, rfl⟩
              · rw [hnil] at hsrc
                have hh := run_append_in (P := P) (t := t) (t2 := t2) (ty := ty) (w := w) (ρ := ρ) (b := b) (len := 0) (cap := 0) (m := 0) (news := []) (w' := w) hu g1 g4 (by rw [g2]; exact hzs) (by rw [g2]; exact hsrc) hroom (by rw [Nat.zero_mul]; exact Nat.zero_le _) (by cases b <;> simp [storeCells])
                exact hh
              · have := hr.recont hsg (c' := .avs (c.avl.take (off + 0 * j.size) ++ d.avl ++ c.avl.drop (off + 0 * j.size + d.avl.length))) (by rw [hd0]; simp [Cont.avl])
                rw [setSeg_eq]; exact this
          obtain ⟨w', s1, s2, b, hvs⟩ := hst
          have hhp := s2.heap
          have hnl' : n < st.hp.length := (List.getElem?_eq_some_iff.1 hsg).1
          have hn' := hr.heap.names
          generalize hA : c.avl.take (off + len * j.size) ++ d.avl ++ c.avl.drop (off + len * j.size + d.avl.length) = A at s2 hhp
          have hAl : A.length = c.len := by rw [← hA, ← hcl]; simp [hnl]; omega
          have hAsub : (A.drop off).take (cap * j.size) = jn.avl ++ (subC c (off + (len + m) * j.size) ((cap - (len + m)) * j.size)).avl := by
            rw [← hA, hja, subC_avl, subC_avl, List.append_assoc, List.drop_append_of_le_length (by simp; omega), List.drop_take, show off + len * j.size - off = len * j.size by omega, List.take_append]
            have x1 : ((c.avl.drop off).take (len * j.size)).length = len * j.size := by simp; omega
            have x2 : ((c.avl.drop off).take (len * j.size)).take (cap * j.size) = (c.avl.drop off).take (len * j.size) := List.take_of_length_le (by rw [x1]; exact hlsz)
            have x3 : d.avl.take (cap * j.size - len * j.size) = d.avl := List.take_of_length_le (by rw [hnl]; omega)
            rw [x2, x1, List.take_append, x3, hnl, List.append_assoc]
            rw [show off + len * j.size + m * j.size = off + (len + m) * j.size by rw [Nat.add_mul]; omega, show cap * j.size - len * j.size - m * j.size = (cap - (len + m)) * j.size by rw [Nat.add_mul] at hcap; omega]
          have hseg' : (setSeg st.hp n (.seg true (.avs A)))[n]? = some (.seg true (.avs A)) := by rw [setSeg_eq]; simp [hnl']
          have hcl' : c'.len = cap * j.size := by
            have e1 : jn.len = (len + m) * j.size := by rw [← Cont.len_eq, hja, subC_avl]; simp [hnl]; rw [Nat.add_mul]; omega
            rw [hlc', hslen, e1, hcap]
          have hpush : HeapOk w0.heap.size L (ρ ++ [((pl ρ n).1, (pl ρ n).2 + off)]) (setSeg st.hp n .dead ++ [.seg true c']) w' := by
            have hk0 := hhp.kill n
            simp only [setSeg_eq, List.set_set] at hk0 ⊢
            have hpl : pl (ρ ++ [((pl ρ n).1, (pl ρ n).2 + off)]) (st.hp.set n .dead).length = ((pl ρ n).1, (pl ρ n).2 + off) := by simp [pl, ← hn']
            refine hk0.push (p := ((pl ρ n).1, (pl ρ n).2 + off)) ?_ (fun _ hpos' => ?_) (fun hpos' mm s' hmm hsl => ?_)
            · obtain ⟨vals, v1, v2, v3, v4⟩ := read_cells hhp hseg' off (cap * j.size) (by simp only [Cont.len]; omega)
              simp only [Cont.avl] at v2
              rw [hAsub] at v2
              have v2' := hd ρ _ v2
              intro i y hi
              obtain ⟨v, u1, u2⟩ := v2'.get i y hi
              refine ⟨v, ?_, u2.grow _, v3 v (List.mem_of_getElem? u1), fun _ => ?_⟩
              · rw [hpl]; exact v4 i v u1
              · have hi' : i < c'.len := by rw [← Cont.len_eq]; exact (List.getElem?_eq_some_iff.1 hi).1
                have hcs := hhp.cells n _ hseg'
                simp only [SegOk, CellsAt, Cont.avl] at hcs
                obtain ⟨_, _, _, _, q⟩ := hcs (off + i) (A[off + i]'(by omega)) (by simp)
                rw [hpl]
                simpa [Nat.add_assoc] using q trivial
            · exact hr.heap.mine n _ hsg rfl (by show 0 < c.len; omega)
            · have : mm ≠ n := fun e => by subst e; simp [hnl'] at hmm; subst hmm; simp [Seg.len] at hsl
              rw [List.getElem?_set_ne (fun e => this e.symm)] at hmm
              exact hr.heap.free_of_own hsg (by omega) mm s' this hmm hsl
          refine ⟨_, _, _, _, w', hk, s1, ?_, ⟨s2.slots.grow _, hpush, s2.kept, s2.defers⟩⟩
          subst hvs
          simp only [Den]
          have hpl : pl (ρ ++ [((pl ρ n).1, (pl ρ n).2 + off)]) (setSeg st.hp n .dead).length = ((pl ρ n).1, (pl ρ n).2 + off) := by simp [pl, ← hn', setSeg_eq]
          rw [hpl]
          refine ⟨by simp [setSeg_eq, hn'], by omega, ?_⟩
          rcases hs with hs | ⟨h0, b', hs⟩
          · left
            simp only [Value.slice.injEq] at hs
            rw [hs.1]
            simp; omega
          · right
            refine ⟨by omega, b', ?_⟩
            simp only [Value.slice.injEq] at hs
            rw [hs.1]; simp; omega
      · rename_i c hseg
        obtain ⟨⟨hl, hg⟩, h⟩ := h
        rw [mulSz_eq] at hl h
        obtain ⟨jn, hap, hja, _⟩ := joinC_out h
        clear h
        obtain ⟨olds, h1, h2, h3, h4⟩ := read_cells hr.heap (segAt_some _ _ hseg) off (len * j.size) hl
        rcases hs with rfl | ⟨rfl, b, rfl⟩
        · exact appendTo_new hr hu hag hsrc (fun w' hw => run_first h1 (fun i v hi => by rw [cell_same hw]; exact h4 i v hi)) hzs h3 (by rw [hja, subC_avl]; exact h2.append hsrc.dens) hg hap
        · obtain rfl : len = 0 := by omega
          have : olds = [] := List.eq_nil_of_length_eq_zero (by simpa using h1)
          subst this
          exact appendTo_new hr hu hag hsrc (olds := []) (fun w' _ => by cases b <;> simp [Builtin.firstCells, loadCells, loadCellsFrom]) hzs (by simp) (by rw [hja, subC_avl]; exact h2.append hsrc.dens) hg hap
      · exact h.elim
    · exact h.elim

/-- append where there is room: in place. -/
theorem append_in_sound (hT : TOk P T) {t t2 ty e : Nat} {j : TyI} {x : AV} {n off len cap : Nat} {c : Cont} {K : AV → List Seg → Prop} (hej : elemOfT T t = some (e, j)) (hzs : j.zero.cells.size = j.size) (hseg : st.hp[n]? = some (.seg true c))
    (h : srcAV T st.hp t2 j.size j.zero x fun d m => (len + m ≤ cap ∧ m * j.bytes ≤ 281474976710656 ∧ off + (len + m) * j.size ≤ c.len) ∧
      ∃ c' : Cont, c'.avl = c.avl.take (off + len * j.size) ++ d.avl ++ c.avl.drop (off + len * j.size + d.avl.length) ∧ K (.slice n off (len + m) cap) (setSeg st.hp n (.seg true c')))
    (hr : Rep w0 L ρ st a w) {vs vx : Value} (hs : Den ρ (.slice n off len cap) vs) (hx : Den ρ x vx) :
    ∃ y H' ρ' v w', K y H' ∧ (Builtin.append_ #[t, t2] ty #[vs, vx]).run P w = .ok v w' ∧ Den (ρ ++ ρ') y v ∧ Rep w0 L (ρ ++ ρ') { st with hp := H' } a w' := by
  obtain ⟨hu, hj, hag⟩ := elemOfT_some hT hej
  obtain ⟨d, m, news, ⟨⟨hroom, hmb, hlen⟩, c', hc', hk⟩, hsrc⟩ := src_sound hT hzs h hr.heap hx
  obtain ⟨ji, g1, g2, g3, g4⟩ := info_of hag
  have hnl : d.avl.length = m * j.size := by rw [hsrc.dens.len, hsrc.cnt]
  have hcl := Cont.len_eq c
  rw [Nat.add_mul] at hlen
  simp only [Den] at hs
  obtain ⟨hn, hlc, hs⟩ := hs
  rcases hs with rfl | ⟨rfl, b, rfl⟩
  · obtain ⟨w', s1, s2⟩ := hr.storeCont (P := P) (off := off + len * j.size) (c' := c') hseg (by rw [hnl]; omega) hsrc.dens hsrc.one hc'
    refine ⟨_, _, [], _, w', hk, run_append_in (ty := ty) (w := w) (ρ := ρ) hu g1 g4 (by rw [g2]; exact hzs) (by rw [g2]; exact hsrc) hroom (by rw [g3]; exact hmb) (by simp only [addr_add]; rw [g2, Nat.add_assoc]; exact s1), ?_, by rw [List.append_nil]; exact s2⟩
    rw [List.append_nil]
    simp only [Den]
    exact ⟨hn, hroom, .inl trivial⟩
  · obtain rfl : len = 0 := by omega
    obtain rfl : m = 0 := by omega
    have hnil : news = [] := List.eq_nil_of_length_eq_zero (by simpa using hsrc.cnt)
    have hd0 : d.avl = [] := List.eq_nil_of_length_eq_zero (by simpa using hnl)
    rw [hnil] at hsrc
    have hh := run_append_in (P := P) (t := t) (t2 := t2) (ty := ty) (w := w) (ρ := ρ) (b := b) (len := 0) (cap := 0) (m := 0) (news := []) (w' := w) hu g1 g4 (by rw [g2]; exact hzs) (by rw [g2]; exact hsrc) hroom (by rw [Nat.zero_mul]; exact Nat.zero_le _) (by cases b <;> simp [storeCells])
    refine ⟨_, _, [], _, w, hk, hh, ?_, ?_⟩
    · rw [List.append_nil]; simp only [Den]; exact ⟨hn, hroom, .inr ⟨trivial, b, rfl⟩⟩
    · have := hr.recont hseg (c' := c') (by rw [hc', hd0]; simp)
      rw [List.append_nil, setSeg_eq]; exact this

/-- append where there is no room, as is known: the old row stays. -/
theorem append_far_sound (hT : TOk P T) {t t2 ty e : Nat} {j : TyI} {x : AV} {n off len cap : Nat} {own : Bool} {c : Cont} {K : AV → List Seg → Prop} (hej : elemOfT T t = some (e, j)) (hzs : j.zero.cells.size = j.size) (hseg : st.hp[n]? = some (.seg own c))
    (h : srcAV T st.hp t2 j.size j.zero x fun d m => (off + len * j.size ≤ c.len ∧ cap < len + m) ∧ joinC (subC c off (len * j.size)) d fun jn => appendTo j.size j.bytes j.zero len jn m st.hp K)
    (hr : Rep w0 L ρ st a w) {vs vx : Value} (hs : Den ρ (.slice n off len cap) vs) (hx : Den ρ x vx) :
    ∃ y H' ρ' v w', K y H' ∧ (Builtin.append_ #[t, t2] ty #[vs, vx]).run P w = .ok v w' ∧ Den (ρ ++ ρ') y v ∧ Rep w0 L (ρ ++ ρ') { st with hp := H' } a w' := by
  obtain ⟨hu, hj, hag⟩ := elemOfT_some hT hej
  obtain ⟨d, m, news, ⟨⟨hl, hg⟩, h⟩, hsrc⟩ := src_sound hT hzs h hr.heap hx
  obtain ⟨jn, hap, hja, _⟩ := joinC_out h
  clear h
  simp only [Den] at hs
  obtain ⟨hn, hlc, hs⟩ := hs
  obtain ⟨olds, h1, h2, h3, h4⟩ := read_cells hr.heap hseg off (len * j.size) hl
  rcases hs with rfl | ⟨rfl, b, rfl⟩
  · exact appendTo_new hr hu hag hsrc (fun w' hw => run_first h1 (fun i v hi => by rw [cell_same hw]; exact h4 i v hi)) hzs h3 (by rw [hja, subC_avl]; exact h2.append hsrc.dens) hg hap
  · obtain rfl : len = 0 := by omega
    have : olds = [] := List.eq_nil_of_length_eq_zero (by simpa using h1)
    subst this
    exact appendTo_new hr hu hag hsrc (olds := []) (fun w' _ => by cases b <;> simp [Builtin.firstCells, loadCells, loadCellsFrom]) hzs (by simp) (by rw [hja, subC_avl]; exact h2.append hsrc.dens) hg hap
end
end Go.Fw

namespace Go.Fw
open Go Go.RowKit

/-- Elements of a type, laid together as a content. -/
def gatherB : List AV → (List Bool → Prop) → Prop
  | [], K => K []
  | .bool b :: r, K => gatherB r fun l => K (b :: l)
  | _ :: _, _ => False
def gatherI (k : IntKind) : List AV → (List Int → Prop) → Prop
  | [], K => K []
  | .int k' n :: r, K => guardT (ikEq k k') (gatherI k r fun l => K (n :: l))
  | _ :: _, _ => False
def gatherF (k : FloatKind) : List AV → (List Nat → Prop) → Prop
  | [], K => K []
  | .flt k' n :: r, K => guardT (fkEq k k') (gatherF k r fun l => K (n :: l))
  | _ :: _, _ => False
def gatherC (k : FloatKind) : List AV → (List (Nat × Nat) → Prop) → Prop
  | [], K => K []
  | .cpx k' a b :: r, K => guardT (fkEq k k') (gatherC k r fun l => K ((a, b) :: l))
  | _ :: _, _ => False
def gatherS : List AV → (List ByteArray → Prop) → Prop
  | [], K => K []
  | .str s :: r, K => gatherS r fun l => K (s :: l)
  | _ :: _, _ => False
def gatherO : List AV → (List AV → Prop) → Prop
  | [], K => K []
  | x :: r, K => guardT (isOne x) (gatherO r fun l => K (x :: l))

def gather (d : Ty) (xs : List AV) (K : Cont → Prop) : Prop :=
  match d with
  | .bool => gatherB xs fun l => K (.bools l)
  | .int k => gatherI k xs fun l => K (.ints k l)
  | .float k => gatherF k xs fun l => K (.flts k l)
  | .cpx k => gatherC k xs fun l => K (.cpxs k l)
  | .str => gatherS xs fun l => K (.strs l)
  | _ => gatherO xs fun l => K (.avs l)

theorem gatherB_out : ∀ (xs : List AV) (K : List Bool → Prop), gatherB xs K → ∃ l, K l ∧ xs = l.map .bool
  | [], K, h => ⟨[], h, rfl⟩
  | x :: r, K, h => by
    cases x <;> simp only [gatherB] at h <;> try exact h.elim
    obtain ⟨l, h1, h2⟩ := gatherB_out r _ h
    exact ⟨_, h1, by simp [h2]⟩
theorem gatherI_out {k : IntKind} : ∀ (xs : List AV) (K : List Int → Prop), gatherI k xs K → ∃ l, K l ∧ xs = l.map (.int k)
  | [], K, h => ⟨[], h, rfl⟩
  | x :: r, K, h => by
    cases x <;> simp only [gatherI, guardT_eq] at h <;> try exact h.elim
    have e := ikEq_eq h.1; subst e
    obtain ⟨l, h1, h2⟩ := gatherI_out r _ h.2
    exact ⟨_, h1, by simp [h2]⟩
theorem gatherF_out {k : FloatKind} : ∀ (xs : List AV) (K : List Nat → Prop), gatherF k xs K → ∃ l, K l ∧ xs = l.map (.flt k)
  | [], K, h => ⟨[], h, rfl⟩
  | x :: r, K, h => by
    cases x <;> simp only [gatherF, guardT_eq] at h <;> try exact h.elim
    have e := fkEq_eq h.1; subst e
    obtain ⟨l, h1, h2⟩ := gatherF_out r _ h.2
    exact ⟨_, h1, by simp [h2]⟩
theorem gatherC_out {k : FloatKind} : ∀ (xs : List AV) (K : List (Nat × Nat) → Prop), gatherC k xs K → ∃ l, K l ∧ xs = l.map (fun p => .cpx k p.1 p.2)
  | [], K, h => ⟨[], h, rfl⟩
  | x :: r, K, h => by
    cases x <;> simp only [gatherC, guardT_eq] at h <;> try exact h.elim
    have e := fkEq_eq h.1; subst e
    obtain ⟨l, h1, h2⟩ := gatherC_out r _ h.2
    exact ⟨_, h1, by simp [h2]⟩
theorem gatherS_out : ∀ (xs : List AV) (K : List ByteArray → Prop), gatherS xs K → ∃ l, K l ∧ xs = l.map .str
  | [], K, h => ⟨[], h, rfl⟩
  | x :: r, K, h => by
    cases x <;> simp only [gatherS] at h <;> try exact h.elim
    obtain ⟨l, h1, h2⟩ := gatherS_out r _ h
    exact ⟨_, h1, by simp [h2]⟩
theorem gatherO_out : ∀ (xs : List AV) (K : List AV → Prop), gatherO xs K → K xs ∧ ∀ x ∈ xs, isOne x = true
  | [], K, h => ⟨h, by simp⟩
  | x :: r, K, h => by
    simp only [gatherO, guardT_eq] at h
    obtain ⟨h1, h⟩ := h
    obtain ⟨g1, g2⟩ := gatherO_out r _ h
    exact ⟨g1, fun y hy => by rcases List.mem_cons.1 hy with rfl | hy; exact h1; exact g2 y hy⟩

theorem gather_out {d : Ty} {xs : List AV} {K : Cont → Prop} (h : gather d xs K) : ∃ c, K c ∧ c.avl = xs ∧ ∀ x ∈ xs, isOne x = true := by
  unfold gather at h
  split at h
  · obtain ⟨l, h1, h2⟩ := gatherB_out _ _ h; exact ⟨_, h1, by simp [Cont.avl, h2], fun x hx => by rw [h2] at hx; obtain ⟨b, _, rfl⟩ := List.mem_map.1 hx; rfl⟩
  · obtain ⟨l, h1, h2⟩ := gatherI_out _ _ h; exact ⟨_, h1, by simp [Cont.avl, h2], fun x hx => by rw [h2] at hx; obtain ⟨b, _, rfl⟩ := List.mem_map.1 hx; rfl⟩
  · obtain ⟨l, h1, h2⟩ := gatherF_out _ _ h; exact ⟨_, h1, by simp [Cont.avl, h2], fun x hx => by rw [h2] at hx; obtain ⟨b, _, rfl⟩ := List.mem_map.1 hx; rfl⟩
  · obtain ⟨l, h1, h2⟩ := gatherC_out _ _ h; exact ⟨_, h1, by simp [Cont.avl, h2], fun x hx => by rw [h2] at hx; obtain ⟨b, _, rfl⟩ := List.mem_map.1 hx; rfl⟩
  · obtain ⟨l, h1, h2⟩ := gatherS_out _ _ h; exact ⟨_, h1, by simp [Cont.avl, h2], fun x hx => by rw [h2] at hx; obtain ⟨b, _, rfl⟩ := List.mem_map.1 hx; rfl⟩
  · obtain ⟨h1, h2⟩ := gatherO_out _ _ h; exact ⟨_, h1, rfl, h2⟩

/-- The parts of a literal, all of them, in their order: 0, 1, 2, .. -/
def partsAV (st : St) : Nat → List (Nat × Operand) → (List AV → Prop) → Prop
  | _, [], K => K []
  | i, (j, x) :: r, K => guardT (Nat.beq i j) (partsAV st (i + 1) r fun l => K (av st x :: l))

/-- []T{x0, x1, ..} of one-cell elements. -/
def buildSliceAV (T : List (Nat × TyI)) (st : St) (t len : Nat) (ps : List (Nat × Operand)) (K : AV → List Seg → Prop) : Prop :=
  match elemOfT T t with
  | some (_, j) => guardT (Nat.beq j.size 1) <| guardT (Nat.ble len 16777216) <| partsAV st 0 ps fun xs => guardT (Nat.beq xs.length len) <| gather j.d xs fun c => K (.slice st.hp.length 0 len len) (st.hp ++ [.seg true c])
  | none => False

/-- A variable of its own. -/
def boxAV (st : St) (x : AV) (K : AV → List Seg → Prop) : Prop :=
  match x with
  | .agg cs => gatherO cs fun l => K (.ptr st.hp.length 0) (st.hp ++ [.seg true (.avs l)])
  | x => guardT (isOne x) (K (.ptr st.hp.length 0) (st.hp ++ [.seg true (.avs [x])]))

def allocAV (T : List (Nat × TyI)) (st : St) (t : Nat) (K : AV → List Seg → Prop) : Prop :=
  match tyAt T t with
  | some i => gatherO (i.zero.cells.toList.map avScalar) fun l => K (.ptr st.hp.length 0) (st.hp ++ [.seg true (.avs l)])
  | none => False

section
variable {P : Program} {T : List (Nat × TyI)} {w0 : World} {L : Nat → Prop} {ρ : Plc} {st : St} {a : Act} {w : World}

theorem partsAV_out (hd : ∀ x, Den ρ (av st x) (a.eval x)) : ∀ (ps : List (Nat × Operand)) (i : Nat) (K : List AV → Prop), partsAV st i ps K → ∃ xs, K xs ∧ xs.length = ps.length ∧ Dens ρ xs (ps.map fun p => a.eval p.2) ∧ ps.map (·.1) = List.range' i ps.length
  | [], i, K, h => ⟨[], h, rfl, by simp [Dens], rfl⟩
  | (j, x) :: r, i, K, h => by
    simp only [partsAV, guardT_eq] at h
    obtain ⟨h0, h⟩ := h
    have h0 := Nat.eq_of_beq_eq_true h0
    obtain ⟨xs, h1, h2, h3, h4⟩ := partsAV_out hd r (i + 1) _ h
    exact ⟨_, h1, by simp [h2], by simp only [List.map_cons, Dens]; exact ⟨_, _, rfl, hd x, h3⟩, by simp [h4, ← h0, List.range'_succ]⟩

/-- A literal's parts fill its cells. -/
theorem fill_row : ∀ (vs : List Value) (i : Nat) (cells : Array Value), (∀ v ∈ vs, v.oneCell' = true) → i + vs.length = cells.size →
    Instr.fill (fun i => some (i * 1, 1)) cells ((List.range' i vs.length).zip vs) = some (cells.toList.take i ++ vs).toArray
  | [], i, cells, _, h => by
    simp only [List.length_nil, Nat.add_zero] at h
    simp only [List.length_nil, List.range'_zero, List.zip_nil_right, Instr.fill, List.append_nil, Option.some.injEq]
    rw [List.take_of_length_le (by simp [h])]
  | v :: vs, i, cells, h1, h => by
    simp only [List.length_cons] at h
    have hone := cells_one (h1 v (by simp))
    have ih := fill_row vs (i + 1) (cells.setIfInBounds i v) (fun u hu => h1 u (by simp [hu])) (by simp; omega)
    have hc : ¬ ((decide (v.cells.size ≠ 1) || decide (i * 1 + v.cells.size > cells.size)) = true) := by rw [hone]; simp; omega
    have e : v.cells.zipIdx.foldl (fun cs (x : Value × Nat) => cs.setIfInBounds (i * 1 + x.2) x.1) cells = cells.setIfInBounds i v := by rw [hone]; simp [Array.zipIdx]
    have e2 : (cells.setIfInBounds i v).toList.take (i + 1) ++ vs = cells.toList.take i ++ v :: vs := by
      have := splice_succ cells.toList i v ([] : List Value) (by simp; omega)
      have e3 : (cells.toList.set i v).take (i + 1) = cells.toList.take i ++ [v] := by
        rw [List.take_succ_eq_append_getElem (by simp; omega)]
        have e4 : (cells.toList.set i v).take i = cells.toList.take i := by
          apply List.ext_getElem?
          intro m
          simp only [List.getElem?_take]
          split
          · rw [List.getElem?_set_ne (by omega)]
          · rfl
        rw [e4]; simp
      rw [Array.toList_setIfInBounds, e3]; simp
    rw [e2] at ih
    rw [← ih]
    simp only [List.length_cons, List.range'_succ, List.zip_cons_cons, Instr.fill]
    rw [if_neg hc]
    congr 1

theorem buildSlice_sound (hT : TOk P T) {t len : Nat} {ps : Array (Nat × Operand)} {K : AV → List Seg → Prop} (h : buildSliceAV T st t len ps.toList K) (hr : Rep w0 L ρ st a w) :
    ∃ y H' ρ' v w', K y H' ∧ (Instr.buildSlice t len (ps.map fun (i, x) => (i, a.eval x))).run P w = .ok v w' ∧ Den (ρ ++ ρ') y v ∧ Rep w0 L (ρ ++ ρ') { st with hp := H' } a w' := by
  unfold buildSliceAV at h
  simp only [guardT_eq] at h
  split at h
  · rename_i e j hej
    obtain ⟨hu, hj, hag⟩ := elemOfT_some hT hej
    obtain ⟨hs, hle, h⟩ := h
    have hs := Nat.eq_of_beq_eq_true hs
    have hle : len ≤ 16777216 := by simpa using hle
    obtain ⟨xs, ⟨hlen, h⟩, hxl, hd, hidx⟩ := partsAV_out (av_den hr) _ _ _ h
    have hlen := Nat.eq_of_beq_eq_true hlen
    obtain ⟨c, hk, hc, hone⟩ := gather_out h
    obtain ⟨ji, g1, g2, g3, g4⟩ := info_of hag
    have hn := hr.heap.names
    have hpl : pl (ρ ++ [(w.heap.size, 0)]) st.hp.length = (w.heap.size, 0) := by simp [pl, ← hn]
    have hpsl : ps.toList.length = len := by rw [← hxl, hlen]
    have hvl : (ps.toList.map fun p => a.eval p.2).length = len := by rw [List.length_map, hpsl]
    have h1 := dens_one hd hone
    have hzip : (ps.map fun (i, x) => (i, a.eval x)).toList = (List.range' 0 (ps.toList.map fun p => a.eval p.2).length).zip (ps.toList.map fun p => a.eval p.2) := by
      rw [hvl, ← hpsl, ← hidx, Array.toList_map]
      generalize ps.toList = l
      induction l with
      | nil => rfl
      | cons p l ih => simp only [List.map_cons, List.zip_cons_cons, ih]
    refine ⟨_, _, _, .slice (some ⟨w.heap.size, 0, none⟩) len len, _, hk, ?_, ?_, hr.newRow (c := c) e (by rw [hc]; exact hd) h1⟩
    · have hfill := fun cells (hcs : len = cells.size) => fill_row (ps.toList.map fun p => a.eval p.2) 0 cells h1 (by rw [hvl, Nat.zero_add]; exact hcs)
      have hb : ¬ len * 1 > 2 ^ 24 := by have : (2 : Nat) ^ 24 = 16777216 := by decide
                                         omega
      have hz2 : (zeroValue e).run P w = .ok j.zero w := by simp [zeroValue, typeInfo, g1, g4]
      simp only [Instr.buildSlice, Sem.run_bind, run_underlying hu, Result.andThen_ok, run_sizeOf hag, hs, hb, if_false, hzip]
      split
      · simp only [Sem.run_bind, Sem.run_pure, Result.andThen_ok]
        rw [hfill _ (by simp)]
        simp [newRow]
      · simp only [Sem.run_bind, Sem.run_pure, Result.andThen_ok, hz2]
        rw [hfill _ (by simp)]
        simp [newRow]
    · simp only [Den, hpl]; exact ⟨by simp [hn], by omega, .inl (by simp)⟩
  · exact h.elim

theorem box_sound {x : AV} {K : AV → List Seg → Prop} (h : boxAV st x K) (hr : Rep w0 L ρ st a w) (t : TypeId) {vx : Value} (hx : Den ρ x vx) :
    ∃ y H' ρ' v w', K y H' ∧ (Instr.box t vx).run P w = .ok v w' ∧ Den (ρ ++ ρ') y v ∧ Rep w0 L (ρ ++ ρ') { st with hp := H' } a w' := by
  have hn := hr.heap.names
  have hpl : pl (ρ ++ [(w.heap.size, 0)]) st.hp.length = (w.heap.size, 0) := by simp [pl, ← hn]
  unfold boxAV at h
  simp only [guardT_eq] at h
  split at h
  · rename_i cs
    obtain ⟨h1, h2⟩ := gatherO_out _ _ h
    simp only [Den] at hx
    obtain ⟨vs, rfl, hd⟩ := hx
    refine ⟨_, _, _, .pointer (some ⟨w.heap.size, 0, none⟩), _, h1, ?_, ?_, hr.newRow (c := .avs cs) t hd (dens_one hd h2)⟩
    · simp [Instr.box, newVar, newRow, Value.cells]
    · simp only [Den, hpl]; exact ⟨by simp [hn], trivial⟩
  · obtain ⟨h1, h2⟩ := h
    have hone := den_one h1 hx
    refine ⟨_, _, _, .pointer (some ⟨w.heap.size, 0, none⟩), _, h2, ?_, ?_, hr.newRow (c := .avs [x]) (vs := [vx]) t (by simp only [Cont.avl, Dens]; exact ⟨vx, [], rfl, hx, rfl⟩) (by simpa using hone)⟩
    · simp [Instr.box, newVar, newRow, cells_one hone]
    · simp only [Den, hpl]; exact ⟨by simp [hn], trivial⟩

theorem alloc_sound (hT : TOk P T) {t : Nat} {K : AV → List Seg → Prop} (h : allocAV T st t K) (hr : Rep w0 L ρ st a w) :
    ∃ y H' ρ' v w', K y H' ∧ (Instr.alloc t true (.tuple #[])).run P w = .ok v w' ∧ Den (ρ ++ ρ') y v ∧ Rep w0 L (ρ ++ ρ') { st with hp := H' } a w' := by
  have hn := hr.heap.names
  have hpl : pl (ρ ++ [(w.heap.size, 0)]) st.hp.length = (w.heap.size, 0) := by simp [pl, ← hn]
  unfold allocAV at h
  split at h
  · rename_i i hi
    obtain ⟨h1, h2⟩ := gatherO_out _ _ h
    obtain ⟨ji, g1, g2, g3, g4⟩ := info_of (hT.at hi)
    have hd := avScalars_den ρ i.zero.cells.toList
    refine ⟨_, _, _, .pointer (some ⟨w.heap.size, 0, none⟩), _, h1, ?_, ?_, hr.newRow (c := .avs (i.zero.cells.toList.map avScalar)) (vs := i.zero.cells.toList) t hd (dens_one hd h2)⟩
    · simp [Instr.alloc, zeroValue, typeInfo, g1, g4, newVar, newRow]
    · simp only [Den, hpl]; exact ⟨by simp [hn], trivial⟩
  · exact h.elim

def boolsOf : List AV → Option (List Bool)
  | [] => some []
  | .bool b :: r => (match boolsOf r with | some l => some (b :: l) | none => none)
  | _ => none
def intsOf (k : IntKind) : List AV → Option (List Int)
  | [] => some []
  | .int k' b :: r => (match ikEq k k', intsOf k r with | true, some l => some (b :: l) | _, _ => none)
  | _ => none
def fltsOf (k : FloatKind) : List AV → Option (List Nat)
  | [] => some []
  | .flt k' b :: r => (match fkEq k k', fltsOf k r with | true, some l => some (b :: l) | _, _ => none)
  | _ => none
def cpxsOf (k : FloatKind) : List AV → Option (List (Nat × Nat))
  | [] => some []
  | .cpx k' a b :: r => (match fkEq k k', cpxsOf k r with | true, some l => some ((a, b) :: l) | _, _ => none)
  | _ => none
def strsOf : List AV → Option (List ByteArray)
  | [] => some []
  | .str b :: r => (match strsOf r with | some l => some (b :: l) | none => none)
  | _ => none
theorem boolsOf_eq : ∀ {l : List AV} {m : List Bool}, boolsOf l = some m → m.map .bool = l
  | [], m, h => by simp only [boolsOf, Option.some.injEq] at h; subst h; rfl
  | x :: r, m, h => by
    unfold boolsOf at h
    split at h
    · rename_i h0; cases h0
    · rename_i h0; cases h0
      split at h
      · rename_i l hl; cases h; simp [boolsOf_eq hl]
      · cases h
    · cases h
theorem strsOf_eq : ∀ {l : List AV} {m : List ByteArray}, strsOf l = some m → m.map .str = l
  | [], m, h => by simp only [strsOf, Option.some.injEq] at h; subst h; rfl
  | x :: r, m, h => by
    unfold strsOf at h
    split at h
    · rename_i h0; cases h0
    · rename_i h0; cases h0
      split at h
      · rename_i l hl; cases h; simp [strsOf_eq hl]
      · cases h
    · cases h
theorem intsOf_eq {k : IntKind} : ∀ {l : List AV} {m : List Int}, intsOf k l = some m → m.map (.int k) = l
  | [], m, h => by simp only [intsOf, Option.some.injEq] at h; subst h; rfl
  | x :: r, m, h => by
    unfold intsOf at h
    split at h
    · rename_i h0; cases h0
    · rename_i h0; cases h0
      split at h
      · rename_i l hk hl; cases h; have e := ikEq_eq hk; subst e; simp [intsOf_eq hl]
      · cases h
    · cases h
theorem fltsOf_eq {k : FloatKind} : ∀ {l : List AV} {m : List Nat}, fltsOf k l = some m → m.map (.flt k) = l
  | [], m, h => by simp only [fltsOf, Option.some.injEq] at h; subst h; rfl
  | x :: r, m, h => by
    unfold fltsOf at h
    split at h
    · rename_i h0; cases h0
    · rename_i h0; cases h0
      split at h
      · rename_i l hk hl; cases h; have e := fkEq_eq hk; subst e; simp [fltsOf_eq hl]
      · cases h
    · cases h
theorem cpxsOf_eq {k : FloatKind} : ∀ {l : List AV} {m : List (Nat × Nat)}, cpxsOf k l = some m → m.map (fun p => AV.cpx k p.1 p.2) = l
  | [], m, h => by simp only [cpxsOf, Option.some.injEq] at h; subst h; rfl
  | x :: r, m, h => by
    unfold cpxsOf at h
    split at h
    · rename_i h0; cases h0
    · rename_i h0; cases h0
      split at h
      · rename_i l hk hl; cases h; have e := fkEq_eq hk; subst e; simp [cpxsOf_eq hl]
      · cases h
    · cases h
/-- x laid over c from off on. -/
def overC (c d : Cont) (off : Nat) (K : Cont → Prop) : Prop :=
  match c, d with
  | .bools a, .bools b => K (.bools (a.take off ++ b ++ a.drop (off + b.length)))
  | .ints k a, .ints k' b => guardT (ikEq k k') (K (.ints k (a.take off ++ b ++ a.drop (off + b.length))))
  | .flts k a, .flts k' b => guardT (fkEq k k') (K (.flts k (a.take off ++ b ++ a.drop (off + b.length))))
  | .cpxs k a, .cpxs k' b => guardT (fkEq k k') (K (.cpxs k (a.take off ++ b ++ a.drop (off + b.length))))
  | .strs a, .strs b => K (.strs (a.take off ++ b ++ a.drop (off + b.length)))
  | .avs a, .avs b => K (.avs (a.take off ++ b ++ a.drop (off + b.length)))
  | .avs a, d => K (.avs (a.take off ++ d.avl ++ a.drop (off + d.avl.length)))
  | .bools a, .avs b => (match boolsOf b with | some b => K (.bools (a.take off ++ b ++ a.drop (off + b.length))) | none => False)
  | .ints k a, .avs b => (match intsOf k b with | some b => K (.ints k (a.take off ++ b ++ a.drop (off + b.length))) | none => False)
  | .flts k a, .avs b => (match fltsOf k b with | some b => K (.flts k (a.take off ++ b ++ a.drop (off + b.length))) | none => False)
  | .cpxs k a, .avs b => (match cpxsOf k b with | some b => K (.cpxs k (a.take off ++ b ++ a.drop (off + b.length))) | none => False)
  | .strs a, .avs b => (match strsOf b with | some b => K (.strs (a.take off ++ b ++ a.drop (off + b.length))) | none => False)
  | _, _ => False

theorem overC_out {c d : Cont} {off : Nat} {K : Cont → Prop} (h : overC c d off K) : ∃ r, K r ∧ r.avl = c.avl.take off ++ d.avl ++ c.avl.drop (off + d.avl.length) := by
  unfold overC at h
  simp only [guardT_eq] at h
  split at h
  · exact ⟨_, h, by simp [Cont.avl, List.map_take, List.map_drop]⟩
  · have e := ikEq_eq h.1; subst e; exact ⟨_, h.2, by simp [Cont.avl, List.map_take, List.map_drop]⟩
  · have e := fkEq_eq h.1; subst e; exact ⟨_, h.2, by simp [Cont.avl, List.map_take, List.map_drop]⟩
  · have e := fkEq_eq h.1; subst e; exact ⟨_, h.2, by simp [Cont.avl, List.map_take, List.map_drop]⟩
  · exact ⟨_, h, by simp [Cont.avl, List.map_take, List.map_drop]⟩
  · exact ⟨_, h, by simp [Cont.avl]⟩
  · exact ⟨_, h, by simp [Cont.avl]⟩
  · split at h
    · rename_i b hb; have := boolsOf_eq hb; exact ⟨_, h, by simp [Cont.avl, ← this, List.map_take, List.map_drop]⟩
    · exact h.elim
  · split at h
    · rename_i b hb; have := intsOf_eq hb; exact ⟨_, h, by simp [Cont.avl, ← this, List.map_take, List.map_drop]⟩
    · exact h.elim
  · split at h
    · rename_i b hb; have := fltsOf_eq hb; exact ⟨_, h, by simp [Cont.avl, ← this, List.map_take, List.map_drop]⟩
    · exact h.elim
  · split at h
    · rename_i b hb; have := cpxsOf_eq hb; exact ⟨_, h, by simp [Cont.avl, ← this, List.map_take, List.map_drop]⟩
    · exact h.elim
  · split at h
    · rename_i b hb; have := strsOf_eq hb; exact ⟨_, h, by simp [Cont.avl, ← this, List.map_take, List.map_drop]⟩
    · exact h.elim
  · exact h.elim

/-- copy(dst, src). -/
def copyAV (T : List (Nat × TyI)) (hp : List Seg) (t : Nat) (dst src : AV) (K : AV → List Seg → Prop) : Prop :=
  match elemOfT T t, dst, src with
  | some (_, j), .slice n off len _, .slice m off2 len2 _ =>
    (match segAt hp n, segAt hp m with
     | .seg true c, .seg _ d => ((off + mulSz j.size (min len2 len) ≤ c.len ∧ off2 + mulSz j.size (min len2 len) ≤ d.len) ∧ overC c (subC d off2 (mulSz j.size (min len2 len))) off fun r => K (.int .i64 (min len2 len : Nat)) (setSeg hp n (.seg true r)))
     | _, _ => False)
  | _, _, _ => False

theorem copy_sound (hT : TOk P T) {t t2 ty : Nat} {x y : AV} {K : AV → List Seg → Prop} (h : copyAV T st.hp t x y K) (hr : Rep w0 L ρ st a w) {vx vy : Value} (hx : Den ρ x vx) (hy : Den ρ y vy) :
    ∃ z H' v w', K z H' ∧ (Builtin.copy_ #[t, t2] ty #[vx, vy]).run P w = .ok v w' ∧ Den ρ z v ∧ Rep w0 L ρ { st with hp := H' } a w' := by
  unfold copyAV at h
  split at h
  · rename_i e j n off len cap m off2 len2 cap2 hej
    obtain ⟨hu, hj, hag⟩ := elemOfT_some hT hej
    split at h
    · rename_i c own d hsn hsm
      simp only [mulSz_eq] at h
      obtain ⟨⟨hl1, hl2⟩, h⟩ := h
      obtain ⟨r, hk, hrr⟩ := overC_out h
      have hsn := segAt_some _ _ hsn
      obtain ⟨vs, h1, h2, h3, h4⟩ := read_cells hr.heap (segAt_some _ _ hsm) off2 (min len2 len * j.size) hl2
      have hdl : ((d.avl.drop off2).take (min len2 len * j.size)).length = min len2 len * j.size := by rw [h2.len, h1]
      rw [subC_avl] at hrr
      simp only [Den] at hx hy
      obtain ⟨hn1, hlc1, hx⟩ := hx
      obtain ⟨hn2, hlc2, hy⟩ := hy
      obtain ⟨w', s1, s2⟩ := hr.storeCont (P := P) (off := off) hsn (by rw [hdl, Cont.len_eq]; exact hl1) h2 h3 hrr
      have hfirst : (Builtin.firstCells j.size (min len2 len) vy).run P w = .ok vs.toArray w := by
        rcases hy with rfl | ⟨h0, b, rfl⟩
        · exact run_first h1 h4
        · obtain rfl : len2 = 0 := by omega
          have : vs = [] := List.eq_nil_of_length_eq_zero (by rw [h1]; simp)
          subst this
          cases b <;> simp [Builtin.firstCells, loadCells, loadCellsFrom]
      have hlen : (Builtin.lenOf vy).run P w = .ok len2 w := by
        rcases hy with rfl | ⟨h0, b, rfl⟩
        · rfl
        · rw [show len2 = 0 by omega]; rfl
      have hmin : Nat.min len2 len = min len2 len := rfl
      rcases hx with rfl | ⟨h0, b, rfl⟩
      · refine ⟨_, _, .int .i64 (min len2 len : Nat), w', hk, ?_, by simp [Den], s2⟩
        simp only [Builtin.copy_, List.getElem?_toArray, List.getElem?_cons_zero, List.getElem?_cons_succ, Sem.run_bind, run_underlying hu, Result.andThen_ok, hlen, run_sizeOf hag, hmin, hfirst, s1, Sem.run_pure, goInt]
      · obtain rfl : len = 0 := by omega
        have : vs = [] := List.eq_nil_of_length_eq_zero (by rw [h1]; simp)
        subst this
        have hw : w' = w := by
          simp only [storeCells, Sem.run_pure, Result.ok.injEq, true_and] at s1
          exact s1.symm
        subst hw
        refine ⟨_, _, .int .i64 (min len2 0 : Nat), w', hk, ?_, by simp [Den], s2⟩
        cases b <;> simp only [Builtin.copy_, List.getElem?_toArray, List.getElem?_cons_zero, List.getElem?_cons_succ, Sem.run_bind, run_underlying hu, Result.andThen_ok, hlen, run_sizeOf hag, hmin, hfirst, storeCells, Sem.run_pure, goInt]
    · exact h.elim
  · exact h.elim
end
end Go.Fw

namespace Go.Fw
set_option linter.unusedSimpArgs false
open Go Go.RowKit

def nthN : List Nat → Nat → Nat
  | [], _ => 0
  | a :: _, 0 => a
  | _ :: r, n + 1 => nthN r n
theorem nthN_eq : ∀ (l : List Nat) (n : Nat), nthN l n = l.getD n 0
  | [], _ => by simp [nthN]
  | a :: r, 0 => by simp [nthN]
  | a :: r, n + 1 => by simp [nthN, nthN_eq r n]

mutual
/-- x' (its names by way of m) is what x says, or says less. -/
def avLe (m : List Nat) : AV → AV → Prop
  | .any, _ => True
  | .bool a, .bool b => a = b
  | .int k a, .int k' b => guardT (ikEq k k') (a = b)
  | .flt k a, .flt k' b => guardT (fkEq k k') (a = b)
  | .cpx k a b, .cpx k' a' b' => guardT (fkEq k k') (a = a' ∧ b = b')
  | .str a, .str b => a = b
  | .nils, .nils => True
  | .nilp, .nilp => True
  | .nilf, .nilf => True
  | .nilm, .nilm => True
  | .map n, .map n' => guardT (Nat.blt n m.length && Nat.beq (nthN m n) n') True
  | .slice n o l c, .slice n' o' l' c' => guardT (Nat.blt n m.length && Nat.beq (nthN m n) n') (o = o' ∧ l = l' ∧ c = c')
  | .slice n _ l c, .nils => guardT (Nat.blt n m.length) (l = 0 ∧ c = 0)
  | .ptr n o, .ptr n' o' => guardT (Nat.blt n m.length && Nat.beq (nthN m n) n') (o = o')
  | .agg as, .agg bs => avsLe m as bs
  | .tup as, .tup bs => avsLe m as bs
  | .fn f as, .fn g bs => guardT (Nat.beq f g) (avsLe m as bs)
  | .fnb f as, .fnb g bs => guardT (Nat.beq f g) (avsLe m as bs)
  | _, _ => False
def avsLe (m : List Nat) : List AV → List AV → Prop
  | [], [] => True
  | a :: as, b :: bs => avLe m a b ∧ avsLe m as bs
  | _, _ => False
end

def contLe (m : List Nat) (c' c : Cont) : Prop :=
  match c', c with
  | .bools a, .bools b => a = b
  | .ints k a, .ints k' b => guardT (ikEq k k') (a = b)
  | .flts k a, .flts k' b => guardT (fkEq k k') (a = b)
  | .cpxs k a, .cpxs k' b => guardT (fkEq k k') (a = b)
  | .strs a, .strs b => a = b
  | .avs a, .avs b => avsLe m a b
  | _, _ => False

/-- An owner's cells may be lent to be read. -/
def segLe (m : List Nat) (s' s : Seg) : Prop :=
  match s', s with
  | .dead, _ => True
  | .seg true c', .seg true c => contLe m c' c
  | .seg false c', .seg _ c => contLe m c' c
  | .seg _ c', .dead => Nat.beq c'.len 0 = true
  | _, _ => False

def segsLe (m : List Nat) (H : List Seg) : List Nat → List Seg → Prop
  | [], [] => True
  | n :: ns, s :: ss => segLe m s (segAt H n) ∧ segsLe m H ns ss
  | _, _ => False

/-- The names that are owned lie apart. -/
def nodupB : List Nat → List Seg → Bool
  | n :: ns, s :: ss => (match s with | .seg _ _ => go n (match s with | .seg true _ => true | _ => false) ns ss | .obj _ => go n true ns ss | .dead => true) && nodupB ns ss
  | _, _ => true
  where
  go (n : Nat) (own : Bool) : List Nat → List Seg → Bool
    | k :: ks, t :: ts => (match t with | .seg o _ => !(Nat.beq n k) || !(own || o) | .obj _ => !(Nat.beq n k) | .dead => true) && go n own ks ts
    | _, _ => true

section
variable {ρ : Plc} {m : List Nat}

theorem pl_map (m : List Nat) (ρ : Plc) {n : Nat} (h : n < m.length) : pl (m.map (pl ρ)) n = pl ρ (nthN m n) := by
  simp [pl, nthN_eq, h]

mutual
theorem avLe_den : ∀ {x' x : AV} {v : Value}, avLe m x' x → Den ρ x v → Den (m.map (pl ρ)) x' v
  | .any, _, _, _, _ => by simp [Den]
  | .bool a, x, v, h, hd => by cases x <;> simp only [avLe, guardT_eq, Bool.and_eq_true] at h <;> first | exact h.elim | (subst h; simpa [Den] using hd)
  | .int k a, x, v, h, hd => by cases x <;> simp only [avLe, guardT_eq, Bool.and_eq_true] at h <;> first | exact h.elim | (obtain ⟨e, rfl⟩ := h; have e := ikEq_eq e; subst e; simpa [Den] using hd)
  | .flt k a, x, v, h, hd => by cases x <;> simp only [avLe, guardT_eq, Bool.and_eq_true] at h <;> first | exact h.elim | (obtain ⟨e, rfl⟩ := h; have e := fkEq_eq e; subst e; simpa [Den] using hd)
  | .cpx k a b, x, v, h, hd => by cases x <;> simp only [avLe, guardT_eq, Bool.and_eq_true] at h <;> first | exact h.elim | (obtain ⟨e, rfl, rfl⟩ := h; have e := fkEq_eq e; subst e; simpa [Den] using hd)
  | .str a, x, v, h, hd => by cases x <;> simp only [avLe, guardT_eq, Bool.and_eq_true] at h <;> first | exact h.elim | (subst h; simpa [Den] using hd)
  | .nils, x, v, h, hd => by cases x <;> simp only [avLe, guardT_eq, Bool.and_eq_true] at h <;> first | exact h.elim | simpa [Den] using hd
  | .nilp, x, v, h, hd => by cases x <;> simp only [avLe, guardT_eq, Bool.and_eq_true] at h <;> first | exact h.elim | simpa [Den] using hd
  | .nilf, x, v, h, hd => by cases x <;> simp only [avLe, guardT_eq, Bool.and_eq_true] at h <;> first | exact h.elim | simpa [Den] using hd
  | .nilm, x, v, h, hd => by cases x <;> simp only [avLe, guardT_eq, Bool.and_eq_true] at h <;> first | exact h.elim | simpa [Den] using hd
  | .map n, x, v, h, hd => by
    cases x <;> simp only [avLe, guardT_eq, Bool.and_eq_true] at h <;> try exact h.elim
    obtain ⟨⟨h1, h2⟩, _⟩ := h
    have h1 : n < m.length := by simpa [Nat.blt_eq] using h1
    have h2 := Nat.eq_of_beq_eq_true h2
    simp only [Den] at hd ⊢
    rw [pl_map m ρ h1, h2]
    exact ⟨by simpa using h1, hd.2⟩
  | .slice n o l c, x, v, h, hd => by
    cases x <;> simp only [avLe, guardT_eq, Bool.and_eq_true] at h <;> try exact h.elim
    · obtain ⟨h1, rfl, rfl⟩ := h
      have h1 : n < m.length := by simpa [Nat.blt_eq] using h1
      simp only [Den] at hd ⊢
      exact ⟨by simpa using h1, Nat.le_refl _, .inr ⟨trivial, none, hd⟩⟩
    · obtain ⟨⟨h1, h2⟩, rfl, rfl, rfl⟩ := h
      have h1 : n < m.length := by simpa [Nat.blt_eq] using h1
      have h2 := Nat.eq_of_beq_eq_true h2
      simp only [Den] at hd ⊢
      rw [pl_map m ρ h1, h2]
      exact ⟨by simpa using h1, hd.2⟩
  | .ptr n o, x, v, h, hd => by
    cases x <;> simp only [avLe, guardT_eq, Bool.and_eq_true] at h <;> try exact h.elim
    obtain ⟨⟨h1, h2⟩, rfl⟩ := h
    have h1 : n < m.length := by simpa [Nat.blt_eq] using h1
    have h2 := Nat.eq_of_beq_eq_true h2
    simp only [Den] at hd ⊢
    rw [pl_map m ρ h1, h2]
    exact ⟨by simpa using h1, hd.2⟩
  | .agg as, x, v, h, hd => by
    cases x <;> simp only [avLe, guardT_eq, Bool.and_eq_true] at h <;> try exact h.elim
    simp only [Den] at hd ⊢
    obtain ⟨vs, e, hd⟩ := hd
    exact ⟨vs, e, avsLe_den h hd⟩
  | .tup as, x, v, h, hd => by
    cases x <;> simp only [avLe, guardT_eq, Bool.and_eq_true] at h <;> try exact h.elim
    simp only [Den] at hd ⊢
    obtain ⟨vs, e, hd⟩ := hd
    exact ⟨vs, e, avsLe_den h hd⟩
  | .fn f as, x, v, h, hd => by
    cases x <;> simp only [avLe, guardT_eq, Bool.and_eq_true] at h <;> try exact h.elim
    obtain ⟨e, h⟩ := h
    have e := Nat.eq_of_beq_eq_true e; subst e
    simp only [Den] at hd ⊢
    obtain ⟨vs, e, hd⟩ := hd
    exact ⟨vs, e, avsLe_den h hd⟩
  | .fnb f as, x, v, h, hd => by
    cases x <;> simp only [avLe, guardT_eq, Bool.and_eq_true] at h <;> try exact h.elim
    obtain ⟨e, h⟩ := h
    have e := Nat.eq_of_beq_eq_true e; subst e
    simp only [Den] at hd ⊢
    obtain ⟨vs, e, hd⟩ := hd
    exact ⟨vs, e, avsLe_den h hd⟩
theorem avsLe_den : ∀ {xs' xs : List AV} {vs : List Value}, avsLe m xs' xs → Dens ρ xs vs → Dens (m.map (pl ρ)) xs' vs
  | [], xs, vs, h, hd => by cases xs <;> simp only [avsLe] at h; simpa [Dens] using hd
  | x' :: xs', xs, vs, h, hd => by
    cases xs <;> simp only [avsLe] at h
    obtain ⟨h1, h2⟩ := h
    simp only [Dens] at hd ⊢
    obtain ⟨v, r, e, g1, g2⟩ := hd
    exact ⟨v, r, e, avLe_den h1 g1, avsLe_den h2 g2⟩
end

theorem contLe_len {c' c : Cont} (h : contLe m c' c) : c'.len = c.len := by
  have : ∀ as bs : List AV, avsLe m as bs → as.length = bs.length := by
    intro as
    induction as with
    | nil => intro bs h; cases bs <;> simp only [avsLe] at h; rfl
    | cons a as ih => intro bs h; cases bs <;> simp only [avsLe] at h; simp [ih _ h.2]
  unfold contLe at h
  simp only [guardT_eq] at h
  split at h
  · subst h; rfl
  · obtain ⟨_, rfl⟩ := h; rfl
  · obtain ⟨_, rfl⟩ := h; rfl
  · obtain ⟨_, rfl⟩ := h; rfl
  · subst h; rfl
  · exact this _ _ h
  · exact h.elim

theorem contLe_dens {c' c : Cont} (h : contLe m c' c) {vs : List Value} (hd : Dens ρ c.avl vs) : Dens (m.map (pl ρ)) c'.avl vs := by
  have base : ∀ (l : List AV) (vs : List Value), (∀ x ∈ l, ∀ v, Den ρ x v → Den (m.map (pl ρ)) x v) → Dens ρ l vs → Dens (m.map (pl ρ)) l vs := by
    intro l
    induction l with
    | nil => intro _ _ h; simpa [Dens] using h
    | cons a l ih =>
      intro vs h1 h
      simp only [Dens] at h ⊢
      obtain ⟨v, r, e, g1, g2⟩ := h
      exact ⟨v, r, e, h1 a (by simp) v g1, ih r (fun x hx => h1 x (by simp [hx])) g2⟩
  unfold contLe at h
  simp only [guardT_eq] at h
  split at h
  · subst h; exact base _ _ (fun x hx v hv => by obtain ⟨b, _, rfl⟩ := List.mem_map.1 hx; simpa [Den] using hv) hd
  · obtain ⟨e, rfl⟩ := h; have e := ikEq_eq e; subst e; exact base _ _ (fun x hx v hv => by obtain ⟨b, _, rfl⟩ := List.mem_map.1 hx; simpa [Den] using hv) hd
  · obtain ⟨e, rfl⟩ := h; have e := fkEq_eq e; subst e; exact base _ _ (fun x hx v hv => by obtain ⟨b, _, rfl⟩ := List.mem_map.1 hx; simpa [Den] using hv) hd
  · obtain ⟨e, rfl⟩ := h; have e := fkEq_eq e; subst e; exact base _ _ (fun x hx v hv => by obtain ⟨b, _, rfl⟩ := List.mem_map.1 hx; simpa [Den] using hv) hd
  · subst h; exact base _ _ (fun x hx v hv => by obtain ⟨b, _, rfl⟩ := List.mem_map.1 hx; simpa [Den] using hv) hd
  · exact avsLe_den h hd
  · exact h.elim
end

theorem segsLe_get {m : List Nat} {H : List Seg} : ∀ {ns : List Nat} {ss : List Seg}, segsLe m H ns ss → ns.length = ss.length ∧ ∀ (i : Nat) (s : Seg), ss[i]? = some s → ∃ n, ns[i]? = some n ∧ segLe m s (segAt H n)
  | [], ss, h => by cases ss <;> simp only [segsLe] at h; exact ⟨rfl, by simp⟩
  | n :: ns, ss, h => by
    cases ss <;> simp only [segsLe] at h
    rename_i s ss
    obtain ⟨h1, h2⟩ := h
    obtain ⟨g1, g2⟩ := segsLe_get h2
    refine ⟨by simp [g1], fun i t hi => ?_⟩
    cases i with
    | zero => simp at hi; subst hi; exact ⟨n, rfl, h1⟩
    | succ i => simp at hi; simpa using g2 i t hi

/-- Two places that mind one another are apart. -/
theorem nodupB_go {n : Nat} {own : Bool} : ∀ {ns : List Nat} {ss : List Seg}, nodupB.go n own ns ss = true → ∀ (j k : Nat) (t : Seg), ns[j]? = some k → ss[j]? = some t → t ≠ .dead → (own = true ∨ t.isOwn = true) → n ≠ k
  | [], ss, _, j, k, t, hj, _, _, _ => by simp at hj
  | a :: ns, [], _, j, k, t, _, ht, _, _ => by simp at ht
  | a :: ns, s :: ss, h, j, k, t, hj, ht, hd, ho => by
    simp only [nodupB.go, Bool.and_eq_true] at h
    cases j with
    | zero =>
      simp at hj ht
      subst hj; subst ht
      intro e
      subst e
      cases s with
      | dead => exact hd rfl
      | obj o => have h1 := h.1; simp at h1
      | seg o c =>
        have h1 := h.1
        simp at h1
        rcases ho with rfl | ho
        · simp at h1
        · cases o <;> simp [Seg.isOwn] at ho h1
    | succ j => exact nodupB_go h.2 j k t (by simpa using hj) (by simpa using ht) hd ho

theorem nodupB_apart : ∀ {ns : List Nat} {ss : List Seg}, nodupB ns ss = true → ∀ (i j n k : Nat) (s t : Seg), i < j → ns[i]? = some n → ns[j]? = some k → ss[i]? = some s → ss[j]? = some t → s ≠ .dead → t ≠ .dead → (s.isOwn = true ∨ t.isOwn = true) → n ≠ k
  | [], ss, _, i, j, n, k, s, t, _, hn, _, _, _, _, _, _ => by simp at hn
  | a :: ns, [], _, i, j, n, k, s, t, _, _, _, hs, _, _, _, _ => by simp at hs
  | a :: ns, x :: ss, h, i, j, n, k, s, t, hij, hn, hk, hs, ht, hds, hdt, ho => by
    simp only [nodupB, Bool.and_eq_true] at h
    obtain ⟨j', rfl⟩ : ∃ j', j = j' + 1 := ⟨j - 1, by omega⟩
    simp only [List.getElem?_cons_succ] at hk ht
    cases i with
    | zero =>
      simp at hn hs
      subst hn; subst hs
      cases x with
      | dead => exact absurd rfl hds
      | obj o =>
        have h1 := h.1
        simp only at h1
        exact nodupB_go h1 j' k t hk ht hdt (.inl rfl)
      | seg o c =>
        have h1 := h.1
        simp only at h1
        exact nodupB_go h1 j' k t hk ht hdt (by cases o <;> simp_all [Seg.isOwn])
    | succ i => exact nodupB_apart h.2 i j' n k s t (by omega) (by simpa using hn) hk (by simpa using hs) ht hds hdt ho

/-- A HEAP THAT SAYS LESS, its names by way of m. -/
theorem HeapOk.sub {B : Nat} {L : Nat → Prop} {ρ : Plc} {H : List Seg} {w : World} (h : HeapOk B L ρ H w) {m : List Nat} {H' : List Seg} (hle : segsLe m H m H') (hnd : nodupB m H' = true) :
    HeapOk B L (m.map (pl ρ)) H' w := by
  obtain ⟨hl, hg⟩ := segsLe_get hle
  have key : ∀ (i : Nat) (s' : Seg), H'[i]? = some s' → 0 < s'.len → ∃ n own c own' c', m[i]? = some n ∧ H[n]? = some (.seg own c) ∧ s' = .seg own' c' ∧ contLe m c' c ∧ (own' = true → own = true) ∧ pl (m.map (pl ρ)) i = pl ρ n := by
    intro i s' hi hpos
    obtain ⟨n, hn, hs⟩ := hg i s' hi
    have hp : pl (m.map (pl ρ)) i = pl ρ n := by simp [pl, hn]
    cases hseg : segAt H n with
    | dead =>
      rw [hseg] at hs
      cases s' with
      | dead => simp [Seg.len] at hpos
      | obj o => simp only [segLe] at hs
      | seg own' c' =>
        cases own' <;> simp only [segLe] at hs <;> (have := Nat.eq_of_beq_eq_true hs; simp [Seg.len] at hpos; omega)
    | obj o =>
      rw [hseg] at hs
      cases s' with
      | dead => simp [Seg.len] at hpos
      | obj o => simp only [segLe] at hs
      | seg own' c' => cases own' <;> simp only [segLe] at hs
    | seg own c =>
      rw [hseg] at hs
      cases s' with
      | dead => simp [Seg.len] at hpos
      | obj o => simp only [segLe] at hs
      | seg own' c' =>
        refine ⟨n, own, c, own', c', hn, segAt_some _ _ hseg, rfl, ?_, ?_, hp⟩
        · cases own' <;> cases own <;> simp only [segLe] at hs <;> first | exact hs | exact hs.elim
        · cases own' <;> cases own <;> simp only [segLe] at hs <;> simp
  refine ⟨by simp [hl], fun i s' hi => ?_, fun i s' hi ho hpos => ?_, fun i j s' t' hne hi hj ho hpos hpos' => ?_⟩
  · cases s' with
    | dead => trivial
    | obj o => obtain ⟨_, _, _, _, _, _, _, e, _⟩ := key i _ hi (by simp [Seg.len]); cases e
    | seg own' c' =>
      intro q x hq
      have hpos : 0 < (Seg.seg own' c').len := by
        have := (List.getElem?_eq_some_iff.1 hq).1
        rw [Cont.len_eq] at this; show 0 < c'.len; omega
      obtain ⟨n, own, c, own2, c2, hn, hH, hss, hcl, hown, hpl⟩ := key i _ hi hpos
      cases hss
      have hcs := h.cells n _ hH
      simp only [SegOk, CellsAt] at hcs
      -- the values, all of them
      have hlen := contLe_len hcl
      have hcl2 := Cont.len_eq c
      have hq' : q < c.avl.length := by
        have := (List.getElem?_eq_some_iff.1 hq).1
        rw [Cont.len_eq] at this; omega
      have hvals : ∃ vs : List Value, Dens ρ c.avl vs ∧ ∀ k v, vs[k]? = some v → w.cell? ⟨(pl ρ n).1, (pl ρ n).2 + k, none⟩ = some v ∧ v.oneCell' = true := by
        have hex : ∀ k (hk : k < c.avl.length), ∃ v, w.cell? ⟨(pl ρ n).1, (pl ρ n).2 + k, none⟩ = some v ∧ Den ρ c.avl[k] v ∧ v.oneCell' = true := fun k hk => by
          obtain ⟨v, a1, a2, a3, _⟩ := hcs k c.avl[k] (by simp)
          exact ⟨v, a1, a2, a3⟩
        refine ⟨List.ofFn fun k : Fin c.avl.length => (hex k.1 k.2).choose, Dens.of_get (by simp) fun k a v ha hv => ?_, fun k v hv => ?_⟩
        · have hk : k < c.avl.length := (List.getElem?_eq_some_iff.1 ha).1
          simp [hk] at hv
          rw [← hv]
          have := (hex k hk).choose_spec.2.1
          rw [List.getElem?_eq_getElem hk] at ha
          cases ha; exact this
        · have hk : k < c.avl.length := by have := (List.getElem?_eq_some_iff.1 hv).1; simpa using this
          simp [hk] at hv
          rw [← hv]
          exact ⟨(hex k hk).choose_spec.1, (hex k hk).choose_spec.2.2⟩
      obtain ⟨vs, d1, d2⟩ := hvals
      have d3 := contLe_dens hcl d1
      obtain ⟨v, e1, e2⟩ := d3.get q x hq
      obtain ⟨e3, e4⟩ := d2 q v e1
      rw [hpl]
      refine ⟨v, e3, e2, e4, fun ho => ?_⟩
      obtain ⟨_, _, _, _, f⟩ := hcs q c.avl[q] (by simp)
      exact f (hown ho)
  · obtain ⟨n, own, c, own2, c2, hn, hH, rfl, hcl, hown, hpl⟩ := key i _ hi hpos
    rw [hpl]
    have ho2 : own2 = true := by cases own2 <;> simp_all [Seg.isOwn]
    have := hown ho2; subst this
    exact h.mine n _ hH rfl (by have := contLe_len hcl; simp only [Seg.len] at hpos ⊢; omega)
  · obtain ⟨n, own, c, own2, c2, hn, hH, rfl, hcl, hown, hpl⟩ := key i _ hi hpos
    obtain ⟨k, own', c', own2', c2', hk, hK, rfl, hcl', hown', hpl'⟩ := key j _ hj hpos'
    rw [hpl, hpl']
    have ho2 : own2 = true := by cases own2 <;> simp_all [Seg.isOwn]
    have := hown ho2; subst this
    have hnk : n ≠ k := by
      rcases Nat.lt_or_gt_of_ne hne with hlt | hgt
      · exact nodupB_apart hnd i j n k _ _ hlt hn hk hi hj (by simp) (by simp) (.inl ho)
      · exact fun e => nodupB_apart hnd j i k n _ _ hgt hk hn hj hi (by simp) (by simp) (.inr ho) e.symm
    exact h.apart n k _ _ hnk hH hK rfl (by have := contLe_len hcl; simp only [Seg.len] at hpos ⊢; omega) (by have := contLe_len hcl'; simp only [Seg.len] at hpos' ⊢; omega)
end Go.Fw

namespace Go.Fw
open Go Go.RowKit

mutual
/-- Names renamed. -/
def ren (m : List Nat) : AV → AV
  | .slice n o l c => .slice (nthN m n) o l c
  | .ptr n o => .ptr (nthN m n) o
  | .map n => .map (nthN m n)
  | .agg as => .agg (rens m as)
  | .tup as => .tup (rens m as)
  | .fn f as => .fn f (rens m as)
  | .fnb f as => .fnb f (rens m as)
  | .any => .any
  | .bool b => .bool b
  | .int k n => .int k n
  | .flt k b => .flt k b
  | .cpx k a b => .cpx k a b
  | .str s => .str s
  | .nils => .nils
  | .nilp => .nilp
  | .nilf => .nilf
  | .nilm => .nilm
def rens (m : List Nat) : List AV → List AV
  | [] => []
  | a :: as => ren m a :: rens m as
end

mutual
theorem ren_den {m : List Nat} {ρ ρ2 : Plc} (h : ∀ i, i < ρ.length → nthN m i < ρ2.length ∧ pl ρ2 (nthN m i) = pl ρ i) : ∀ {x : AV} {v : Value}, Den ρ x v → Den ρ2 (ren m x) v
  | .any, _, _ => by simp [ren, Den]
  | .bool b, v, hd => by simpa [ren, Den] using hd
  | .int k n, v, hd => by simpa [ren, Den] using hd
  | .flt k b, v, hd => by simpa [ren, Den] using hd
  | .cpx k a b, v, hd => by simpa [ren, Den] using hd
  | .str s, v, hd => by simpa [ren, Den] using hd
  | .nils, v, hd => by simpa [ren, Den] using hd
  | .nilp, v, hd => by simpa [ren, Den] using hd
  | .nilf, v, hd => by simpa [ren, Den] using hd
  | .nilm, v, hd => by simpa [ren, Den] using hd
  | .map n, v, hd => by
    simp only [ren, Den] at hd ⊢
    obtain ⟨h1, h2⟩ := h n hd.1
    rw [h2]; exact ⟨h1, hd.2⟩
  | .slice n o l c, v, hd => by
    simp only [ren, Den] at hd ⊢
    obtain ⟨h1, h2⟩ := h n hd.1
    rw [h2]; exact ⟨h1, hd.2⟩
  | .ptr n o, v, hd => by
    simp only [ren, Den] at hd ⊢
    obtain ⟨h1, h2⟩ := h n hd.1
    rw [h2]; exact ⟨h1, hd.2⟩
  | .agg as, v, hd => by
    simp only [ren, Den] at hd ⊢
    obtain ⟨vs, e, hd⟩ := hd
    exact ⟨vs, e, rens_den h hd⟩
  | .tup as, v, hd => by
    simp only [ren, Den] at hd ⊢
    obtain ⟨vs, e, hd⟩ := hd
    exact ⟨vs, e, rens_den h hd⟩
  | .fn f as, v, hd => by
    simp only [ren, Den] at hd ⊢
    obtain ⟨vs, e, hd⟩ := hd
    exact ⟨vs, e, rens_den h hd⟩
  | .fnb f as, v, hd => by
    simp only [ren, Den] at hd ⊢
    obtain ⟨vs, e, hd⟩ := hd
    exact ⟨vs, e, rens_den h hd⟩
theorem rens_den {m : List Nat} {ρ ρ2 : Plc} (h : ∀ i, i < ρ.length → nthN m i < ρ2.length ∧ pl ρ2 (nthN m i) = pl ρ i) : ∀ {xs : List AV} {vs : List Value}, Dens ρ xs vs → Dens ρ2 (rens m xs) vs
  | [], vs, hd => by simpa [rens, Dens] using hd
  | x :: xs, vs, hd => by
    simp only [rens, Dens] at hd ⊢
    obtain ⟨v, r, e, h1, h2⟩ := hd
    exact ⟨v, r, e, ren_den h h1, rens_den h h2⟩
end

def renC (m : List Nat) : Cont → Cont
  | .avs l => .avs (rens m l)
  | c => c
def renE (m : List Nat) : List (AV × AV × Nat) → List (AV × AV × Nat)
  | [] => []
  | (k, v, b) :: r => (ren m k, ren m v, b) :: renE m r
def renO (m : List Nat) : AO → AO
  | .map es c => .map (renE m es) c
  | .iter s p => .iter s p
theorem renE_den {m : List Nat} {ρ ρ2 : Plc} (h : ∀ i, i < ρ.length → nthN m i < ρ2.length ∧ pl ρ2 (nthN m i) = pl ρ i) : ∀ {es : List (AV × AV × Nat)} {l : List MapEntry}, DenE ρ es l → DenE ρ2 (renE m es) l
  | [], l, hd => by simpa [renE, DenE] using hd
  | (k, v, b) :: es, l, hd => by
    simp only [renE, DenE] at hd ⊢
    obtain ⟨e, t, h1, h2, h3, h4, h5⟩ := hd
    exact ⟨e, t, h1, ren_den h h2, ren_den h h3, h4, renE_den h h5⟩
theorem renO_is {m : List Nat} {ρ ρ2 : Plc} (h : ∀ i, i < ρ.length → nthN m i < ρ2.length ∧ pl ρ2 (nthN m i) = pl ρ i) {o : AO} {x : Obj} (ho : ObjIs ρ o x) : ObjIs ρ2 (renO m o) x := by
  cases o with
  | map es c => obtain ⟨l, h1, h2⟩ := ho; exact ⟨l, h1, renE_den h h2⟩
  | iter s p => exact ho
def renS (m : List Nat) : Seg → Seg
  | .seg o c => .seg o (renC m c)
  | .dead => .dead
  | .obj o => .obj (renO m o)

theorem rens_len (m : List Nat) : ∀ l : List AV, (rens m l).length = l.length
  | [] => rfl
  | a :: l => by simp [rens, rens_len m l]
theorem rens_get (m : List Nat) : ∀ (l : List AV) (i : Nat), (rens m l)[i]? = l[i]?.map (ren m)
  | [], _ => by simp [rens]
  | a :: l, 0 => by simp [rens]
  | a :: l, i + 1 => by simp [rens, rens_get m l i]
theorem renC_get (m : List Nat) (c : Cont) (i : Nat) : (renC m c).avl[i]? = c.avl[i]?.map (ren m) := by
  cases c <;> simp only [renC, Cont.avl]
  case avs l => exact rens_get m l i
  all_goals (simp only [List.getElem?_map, Option.map_map]; congr 1)
theorem renS_len (m : List Nat) (s : Seg) : (renS m s).len = s.len := by
  cases s with
  | dead => rfl
  | obj o => rfl
  | seg o c => cases c <;> simp [renS, renC, Seg.len, Cont.len, rens_len]
theorem renS_own (m : List Nat) (s : Seg) : (renS m s).isOwn = s.isOwn := by cases s with | dead => rfl | obj o => rfl | seg o c => cases o <;> rfl

/-- One way a call may end. -/
structure FOut where
  Y : Type
  pp : Y → Prop
  res : Y → AV
  segs : Y → List Seg

/-- What a call is handed, and the ways it may end. -/
structure FSpec where
  args : List AV
  heap : List Seg
  outs : List FOut

def Meets (P : Program) (f : FuncId) (s : FSpec) : Prop :=
  ∀ (w0 : World) (L : Nat → Prop) (ρ : Plc) (vs : List Value), HeapOk w0.heap.size L ρ s.heap w0 → Dens ρ s.args vs →
    Calls P f vs.toArray w0 fun e w' => ∃ o ∈ s.outs, ∃ y, o.pp y ∧ ∃ v ρ', e = .returned v ∧ Den (ρ ++ ρ') (o.res y) v ∧ HeapOk w0.heap.size L (ρ ++ ρ') (o.segs y) w' ∧ Kept w0 L w'

/-- The callee's names, the new ones too, in the caller's words. -/
def extM (m : List Nat) (n0 : Nat) : List Nat → List Seg → List Nat
  | _ :: ns, _ :: ss => extM m n0 ns ss
  | [], ss => m ++ up n0 ss
  | _ :: _, [] => m
  where
  up (n : Nat) : List Seg → List Nat
    | [] => []
    | _ :: r => n :: up (n + 1) r

def mapS (m : List Nat) : List Seg → List Seg
  | [] => []
  | s :: r => renS m s :: mapS m r

def upd1 (p : Seg) (hp : List Seg) (n : Nat) (s : Seg) : List Seg :=
  match p with
  | .seg true _ => setSeg hp n s
  | _ => hp
theorem upd1_len (p : Seg) (hp : List Seg) (n : Nat) (s : Seg) : (upd1 p hp n s).length = hp.length := by
  unfold upd1; split
  · rw [setSeg_eq]; simp
  · rfl
theorem upd1_other {p : Seg} (h : ¬ ∃ c, p = Seg.seg true c) (hp : List Seg) (n : Nat) (s : Seg) : upd1 p hp n s = hp := by
  unfold upd1; split
  · exact absurd ⟨_, rfl⟩ h
  · rfl

/-- The caller's heap behind the call: what was lent to be written holds what it holds now; the new rows stand behind. -/
def updS (m' : List Nat) : List Nat → List Seg → List Seg → List Seg → List Seg
  | n :: ns, p :: ps, q :: qs, hp => updS m' ns ps qs (upd1 p hp n (renS m' q))
  | _, _, rest, hp => hp ++ mapS m' rest

/-- What was lent to be written, and what is new, is owned or dead. -/
def okPost : List Seg → List Seg → Bool
  | p :: ps, q :: qs => (match p, q with | .seg true _, .seg false _ => false | _, _ => true) && okPost ps qs
  | [], qs => qs.all fun | .seg false _ => false | _ => true
  | _ :: _, [] => false

def allLt (n : Nat) : List Nat → Bool
  | [] => true
  | a :: r => Nat.blt a n && allLt n r

def outsK (m : List Nat) (pre : List Seg) (hp : List Seg) (K : AV → List Seg → Prop) : List FOut → Prop
  | [] => True
  | o :: r => (∀ y, o.pp y → guardT (okPost pre (o.segs y)) (K (ren (extM m hp.length m (o.segs y)) (o.res y)) (updS (extM m hp.length m (o.segs y)) m pre (o.segs y) hp))) ∧ outsK m pre hp K r

theorem outsK_out {m : List Nat} {pre hp : List Seg} {K : AV → List Seg → Prop} : ∀ {outs : List FOut}, outsK m pre hp K outs → ∀ o ∈ outs, ∀ y, o.pp y → okPost pre (o.segs y) = true ∧ K (ren (extM m hp.length m (o.segs y)) (o.res y)) (updS (extM m hp.length m (o.segs y)) m pre (o.segs y) hp)
  | [], _, o, ho, _, _ => by simp at ho
  | x :: r, h, o, ho, y, hy => by
    rcases List.mem_cons.1 ho with rfl | ho
    · have := h.1 y hy; rwa [guardT_eq] at this
    · exact outsK_out h.2 o ho y hy

theorem up_get : ∀ (ss : List Seg) (n i : Nat), i < ss.length → (extM.up n ss)[i]? = some (n + i)
  | [], _, _, h => by simp at h
  | s :: ss, n, 0, _ => by simp [extM.up]
  | s :: ss, n, i + 1, h => by simp only [extM.up, List.getElem?_cons_succ]; rw [up_get ss (n + 1) i (by simpa using h)]; congr 1; omega

theorem extM_eq (m : List Nat) (n0 : Nat) : ∀ (ns : List Nat) (ss : List Seg), ns.length ≤ ss.length → extM m n0 ns ss = m ++ extM.up n0 (ss.drop ns.length)
  | [], ss, _ => by simp [extM]
  | n :: ns, [], h => by simp at h
  | n :: ns, s :: ss, h => by simp [extM, extM_eq m n0 ns ss (by simpa using h)]

theorem mapS_get (m : List Nat) : ∀ (ss : List Seg) (i : Nat), (mapS m ss)[i]? = ss[i]?.map (renS m)
  | [], _ => by simp [mapS]
  | s :: ss, 0 => by simp [mapS]
  | s :: ss, i + 1 => by simp [mapS, mapS_get m ss i]

theorem updS_get (m' : List Nat) : ∀ (ns : List Nat) (ps qs hp : List Seg), ns.length = ps.length → ps.length ≤ qs.length → ∀ (j : Nat) (t : Seg), (updS m' ns ps qs hp)[j]? = some t →
    (∃ (i n : Nat) (c : Cont) (q : Seg), ns[i]? = some n ∧ ps[i]? = some (Seg.seg true c) ∧ qs[i]? = some q ∧ t = renS m' q ∧ n = j) ∨
    (∃ (i : Nat) (q : Seg), ps.length + i < qs.length ∧ qs[ps.length + i]? = some q ∧ t = renS m' q ∧ j = hp.length + i) ∨
    (hp[j]? = some t ∧ ∀ (i n : Nat) (c : Cont), ns[i]? = some n → ps[i]? = some (Seg.seg true c) → n ≠ j)
  | [], ps, qs, hp, h1, h2, j, t, ht => by
    have : ps = [] := List.eq_nil_of_length_eq_zero (by simpa using h1.symm)
    subst this
    simp only [updS] at ht
    rcases Nat.lt_or_ge j hp.length with hj | hj
    · rw [List.getElem?_append_left hj] at ht
      exact .inr (.inr ⟨ht, by simp⟩)
    · rw [List.getElem?_append_right hj, mapS_get] at ht
      obtain ⟨q, hq, rfl⟩ := Option.map_eq_some_iff.1 ht
      refine .inr (.inl ⟨j - hp.length, q, ?_, by simpa using hq, rfl, by omega⟩)
      have := (List.getElem?_eq_some_iff.1 hq).1
      simpa using this
  | n :: ns, [], qs, hp, h1, _, j, t, ht => by simp at h1
  | n :: ns, p :: ps, [], hp, _, h2, j, t, ht => by simp at h2
  | n :: ns, p :: ps, q :: qs, hp, h1, h2, j, t, ht => by
    simp only [updS] at ht
    have ih := updS_get m' ns ps qs _ (by simpa using h1) (by simpa using h2) j t ht
    rw [upd1_len] at ih
    rcases ih with ⟨i, n', c, q', a1, a2, a3, a4, a5⟩ | ⟨i, q', a1, a2, a3, a4⟩ | ⟨a1, a2⟩
    · exact .inl ⟨i + 1, n', c, q', by simpa using a1, by simpa using a2, by simpa using a3, a4, a5⟩
    · refine .inr (.inl ⟨i, q', by simp; omega, ?_, a3, a4⟩)
      rw [List.length_cons, show ps.length + 1 + i = (ps.length + i) + 1 by omega]; simpa using a2
    · by_cases hp' : ∃ c, p = .seg true c
      · obtain ⟨c, rfl⟩ := hp'
        simp only [upd1, setSeg_eq] at a1
        by_cases hj : n = j
        · subst hj
          have : n < hp.length := by have := (List.getElem?_eq_some_iff.1 a1).1; simpa using this
          simp [this] at a1
          exact .inl ⟨0, n, c, q, rfl, rfl, rfl, a1.symm, rfl⟩
        · rw [List.getElem?_set_ne hj] at a1
          refine .inr (.inr ⟨a1, fun i n' c' b1 b2 => ?_⟩)
          cases i with
          | zero => simp at b1; subst b1; exact hj
          | succ i => exact a2 i n' c' (by simpa using b1) (by simpa using b2)
      · rw [upd1_other hp'] at a1
        refine .inr (.inr ⟨a1, fun i n' c' b1 b2 => ?_⟩)
        cases i with
        | zero => simp at b2; exact absurd ⟨_, b2⟩ hp'
        | succ i => exact a2 i n' c' (by simpa using b1) (by simpa using b2)

theorem okPost_spec : ∀ {ps qs : List Seg}, okPost ps qs = true → ps.length ≤ qs.length ∧ (∀ (i : Nat) (c : Cont) (q : Seg), ps[i]? = some (Seg.seg true c) → qs[i]? = some q → ∀ c', q ≠ .seg false c') ∧ ∀ (i : Nat) (q : Seg), qs[ps.length + i]? = some q → ∀ c', q ≠ .seg false c'
  | [], qs, h => by
    refine ⟨by simp, by simp, fun i q hq c' e => ?_⟩
    subst e
    simp only [okPost] at h
    have := List.all_eq_true.1 h _ (List.mem_of_getElem? hq)
    simp at this
  | p :: ps, [], h => by simp [okPost] at h
  | p :: ps, q :: qs, h => by
    simp only [okPost, Bool.and_eq_true] at h
    obtain ⟨h1, h2, h3⟩ := okPost_spec h.2
    refine ⟨by simpa using h1, fun i c q' hp hq c' e => ?_, fun i q' hq => ?_⟩
    · cases i with
      | zero => simp at hp hq; subst hp; subst hq; subst e; simp at h
      | succ i => exact h2 i c q' (by simpa using hp) (by simpa using hq) c' e
    · rw [List.length_cons, show ps.length + 1 + i = (ps.length + i) + 1 by omega] at hq
      exact h3 i q' (by simpa using hq)

theorem allLt_spec {n : Nat} : ∀ {l : List Nat}, allLt n l = true → ∀ (i k : Nat), l[i]? = some k → k < n
  | [], _, i, k, h => by simp at h
  | a :: l, h, i, k, hi => by
    simp only [allLt, Bool.and_eq_true] at h
    cases i with
    | zero => simp at hi; subst hi; simpa [Nat.blt_eq] using h.1
    | succ i => exact allLt_spec h.2 i k (by simpa using hi)

/-- BEHIND A CALL. -/
theorem call_heap {w0 : World} {L : Nat → Prop} {ρ ρ' : Plc} {st : St} {a : Act} {w w' : World} (hr : Rep w0 L ρ st a w) {m : List Nat} {pre segs : List Seg}
    (hle : segsLe m st.hp m pre) (hlt : allLt st.hp.length m = true) (hok : okPost pre segs = true)
    {Lc : Nat → Prop} (hLc : ∀ b, Lc b ↔ ∃ i s, pre[i]? = some s ∧ s.isOwn = true ∧ 0 < s.len ∧ (pl (m.map (pl ρ)) i).1 = b)
    (hh : HeapOk w.heap.size Lc (m.map (pl ρ) ++ ρ') segs w') (hk : Kept w Lc w') :
    (∀ x v, Den (m.map (pl ρ) ++ ρ') x v → Den (ρ ++ ρ') (ren (extM m st.hp.length m segs) x) v) ∧
    Rep w0 L (ρ ++ ρ') { st with hp := updS (extM m st.hp.length m segs) m pre segs st.hp } a w' := by
  obtain ⟨hml, hget⟩ := segsLe_get hle
  obtain ⟨ok1, ok2, ok3⟩ := okPost_spec hok
  have hn := hr.heap.names
  have hn2 := hh.names
  simp only [List.length_append, List.length_map] at hn2
  have hext := extM_eq m st.hp.length m segs (by omega)
  generalize hm' : extM m st.hp.length m segs = m' at *
  -- places
  have hpl1 : ∀ (i n : Nat), m[i]? = some n → nthN m' i = n ∧ n < ρ.length ∧ pl (ρ ++ ρ') n = pl ρ n ∧ pl (m.map (pl ρ) ++ ρ') i = pl ρ n ∧ pl (m.map (pl ρ)) i = pl ρ n := by
    intro i n hi
    have hil : i < m.length := (List.getElem?_eq_some_iff.1 hi).1
    have hnlt := allLt_spec hlt i n hi
    have hnρ : n < ρ.length := by omega
    refine ⟨?_, hnρ, ?_, ?_, ?_⟩
    · rw [nthN_eq, hext, List.getD_eq_getElem?_getD, List.getElem?_append_left hil, hi]; rfl
    · simp [pl, List.getElem?_append_left hnρ]
    · simp [pl, List.getElem?_append_left (show i < (m.map (pl ρ)).length by simpa using hil), hi]
    · simp [pl, hi]
  have hpl2 : ∀ (i : Nat), m.length + i < segs.length → nthN m' (m.length + i) = st.hp.length + i ∧ st.hp.length + i < (ρ ++ ρ').length ∧ pl (ρ ++ ρ') (st.hp.length + i) = pl (m.map (pl ρ) ++ ρ') (m.length + i) := by
    intro i hi
    refine ⟨?_, by simp; omega, ?_⟩
    · rw [nthN_eq, hext, List.getD_eq_getElem?_getD, List.getElem?_append_right (by omega), up_get _ _ _ (by simp; omega)]; simp
    · simp only [pl, List.getD_eq_getElem?_getD]
      rw [List.getElem?_append_right (by omega), List.getElem?_append_right (by simp)]
      congr 2; simp; omega
  have hren : ∀ i, i < (m.map (pl ρ) ++ ρ').length → nthN m' i < (ρ ++ ρ').length ∧ pl (ρ ++ ρ') (nthN m' i) = pl (m.map (pl ρ) ++ ρ') i := by
    intro i hi
    simp only [List.length_append, List.length_map] at hi
    rcases Nat.lt_or_ge i m.length with h | h
    · obtain ⟨e1, e2, e3, e4, _⟩ := hpl1 i m[i] (by simp [h])
      rw [e1, e3, e4]; exact ⟨by simp; omega, rfl⟩
    · obtain ⟨k, rfl⟩ : ∃ k, i = m.length + k := ⟨i - m.length, by omega⟩
      obtain ⟨e1, e2, e3⟩ := hpl2 k (by omega)
      rw [e1]; exact ⟨e2, e3⟩
  -- what a lent block is
  have hLcaller : ∀ b, Lc b → ∃ (n : Nat) (c : Cont), st.hp[n]? = some (.seg true c) ∧ 0 < c.len ∧ (pl ρ n).1 = b ∧ ∃ (i : Nat) (c' : Cont), m[i]? = some n ∧ pre[i]? = some (.seg true c') := by
    intro b hb
    obtain ⟨i, s, h1, h2, h3, h4⟩ := (hLc b).1 hb
    obtain ⟨n, g1, g2⟩ := hget i s h1
    obtain ⟨_, _, _, _, e5⟩ := hpl1 i n g1
    rw [e5] at h4
    cases s with
    | dead => simp [Seg.isOwn] at h2
    | obj o =>
      cases hseg : segAt st.hp n <;> rw [hseg] at g2 <;> simp only [segLe] at g2
    | seg o c' =>
      have ho : o = true := by cases o <;> simp_all [Seg.isOwn]
      subst ho
      cases hseg : segAt st.hp n with
      | dead => rw [hseg] at g2; simp only [segLe] at g2; have := Nat.eq_of_beq_eq_true g2; simp [Seg.len] at h3; omega
      | obj o => rw [hseg] at g2; simp only [segLe] at g2
      | seg o c =>
        rw [hseg] at g2
        cases o <;> simp only [segLe] at g2
        exact ⟨n, c, segAt_some _ _ hseg, by have := contLe_len g2; simp only [Seg.len] at h3; omega, h4, i, c', g1, h1⟩
  have hmineL : ∀ b, Lc b → w0.heap.size ≤ b ∨ L b := fun b hb => by
    obtain ⟨n, c, h1, h2, rfl, _⟩ := hLcaller b hb
    exact hr.heap.mine n _ h1 rfl h2
  have hsz := hr.kept.size
  -- the three kinds of names behind the call
  have kinds : ∀ (j : Nat) (t : Seg), (updS m' m pre segs st.hp)[j]? = some t →
      (∃ (i : Nat) (q : Seg), segs[i]? = some q ∧ t = renS m' q ∧ nthN m' i = j ∧ (∀ c', q ≠ .seg false c') ∧ pl (ρ ++ ρ') j = pl (m.map (pl ρ) ++ ρ') i) ∨
      (st.hp[j]? = some t ∧ (0 < t.len → (pl ρ j).1 < w.heap.size ∧ ¬ Lc (pl ρ j).1) ∧ pl (ρ ++ ρ') j = pl ρ j) := by
    intro j t ht
    rcases updS_get m' m pre segs st.hp hml ok1 j t ht with ⟨i, n, c, q, a1, a2, a3, a4, a5⟩ | ⟨i, q, a1, a2, a3, a4⟩ | ⟨a1, a2⟩
    · subst a5
      obtain ⟨e1, e2, e3, e4, _⟩ := hpl1 i n a1
      exact .inl ⟨i, q, a3, a4, e1, ok2 i c q a2 a3, by rw [e3, e4]⟩
    · subst a4
      obtain ⟨e1, e2, e3⟩ := hpl2 i (by omega)
      exact .inl ⟨pre.length + i, q, a2, a3, by rw [← hml]; exact e1, ok3 i q a2, by rw [← hml]; exact e3⟩
    · have hj : j < ρ.length := by rw [hn]; exact (List.getElem?_eq_some_iff.1 a1).1
      refine .inr ⟨a1, fun hpos => ⟨hr.heap.lt a1 hpos, fun hb => ?_⟩, by simp [pl, List.getElem?_append_left hj]⟩
      obtain ⟨n, c, h1, h2, h3, i, c', h4, h5⟩ := hLcaller _ hb
      exact hr.heap.apart n j _ t (a2 i n c' h4 h5) h1 a1 rfl h2 hpos h3
  have hAblk : ∀ (i : Nat) (q : Seg), segs[i]? = some q → (∀ c', q ≠ .seg false c') → 0 < q.len → w.heap.size ≤ (pl (m.map (pl ρ) ++ ρ') i).1 ∨ Lc (pl (m.map (pl ρ) ++ ρ') i).1 := fun i q hq hno hpos => by
    refine hh.mine i q hq ?_ hpos
    cases q with
    | dead => simp [Seg.len] at hpos
    | obj o => rfl
    | seg o c => cases o; exact absurd rfl (hno c); rfl
  refine ⟨fun x v hd => ren_den hren hd, ⟨hr.slots.grow _, ⟨?_, ?_, ?_, ?_⟩, ⟨?_, ?_, ?_, ?_, ?_⟩, hr.defers⟩⟩
  · -- names
    have : ∀ (ns : List Nat) (ps qs hp : List Seg), ns.length = ps.length → ps.length ≤ qs.length → (updS m' ns ps qs hp).length = hp.length + (qs.length - ps.length) := by
      intro ns
      induction ns with
      | nil =>
        intro ps qs hp h1 h2
        have : ps = [] := List.eq_nil_of_length_eq_zero (by simpa using h1.symm)
        subst this
        have : (mapS m' qs).length = qs.length := by
          clear h2 h1; induction qs with | nil => rfl | cons q qs ih => simp [mapS, ih]
        simp [updS, this]
      | cons n ns ih =>
        intro ps qs hp h1 h2
        cases ps with
        | nil => simp at h1
        | cons p ps =>
          cases qs with
          | nil => simp at h2
          | cons q qs =>
            simp only [updS]
            rw [ih ps qs _ (by simpa using h1) (by simpa using h2)]
            simp only [List.length_cons]
            rw [upd1_len]; omega
    simp only [List.length_append]
    rw [this m pre segs st.hp hml ok1]; omega
  · intro j t ht
    rcases kinds j t ht with ⟨i, q, h1, rfl, h3, h4, h5⟩ | ⟨h1, h2, h3⟩
    · cases q with
      | dead => trivial
      | obj o =>
        obtain ⟨b1, x, b2, b3⟩ := hh.cells i _ h1
        exact ⟨by rw [h5]; exact b1, x, by rw [h5]; exact b2, renO_is hren b3⟩
      | seg o c =>
        have hcs := hh.cells i _ h1
        simp only [SegOk] at hcs
        simp only [renS, SegOk]
        intro k x hx
        rw [renC_get] at hx
        obtain ⟨y, hy, rfl⟩ := Option.map_eq_some_iff.1 hx
        obtain ⟨v, b1, b2, b3, b4⟩ := hcs k y hy
        rw [h5]
        exact ⟨v, b1, ren_den hren b2, b3, b4⟩
    · cases t with
      | dead => trivial
      | obj o =>
        obtain ⟨b1, x, b2, b3⟩ := hr.heap.cells j _ h1
        have hb := hk.block _ (h2 (by simp [Seg.len])).1 (h2 (by simp [Seg.len])).2
        exact ⟨by rw [h3]; exact b1, x, by rw [h3, hb]; exact b2, b3.grow _⟩
      | seg o c =>
        have hcs := hr.heap.cells j _ h1
        simp only [SegOk] at hcs ⊢
        intro k x hx
        obtain ⟨v, b1, b2, b3, b4⟩ := hcs k x hx
        have hpos : 0 < (Seg.seg o c).len := by
          have := (List.getElem?_eq_some_iff.1 hx).1
          rw [Cont.len_eq] at this; show 0 < c.len; omega
        have hb := hk.block _ (h2 hpos).1 (h2 hpos).2
        rw [h3]
        exact ⟨v, by rw [World.cell?_of_block (w := w) hb]; exact b1, b2.grow _, b3, fun ho => by rw [World.frozen?_of_block (w := w) hb]; exact b4 ho⟩
  · intro j t ht ho hpos
    rcases kinds j t ht with ⟨i, q, h1, rfl, h3, h4, h5⟩ | ⟨h1, h2, h3⟩
    · rw [renS_len] at hpos
      rw [h5]
      rcases hAblk i q h1 h4 hpos with hb | hb
      · exact .inl (by omega)
      · exact hmineL _ hb
    · rw [h3]; exact hr.heap.mine j t h1 ho hpos
  · intro j k s t hne hs ht ho hpos hpos'
    rcases kinds j s hs with ⟨i, q, h1, rfl, h3, h4, h5⟩ | ⟨h1, h2, h3⟩
    · rw [renS_len] at hpos
      rcases kinds k t ht with ⟨i', q', g1, rfl, g3, g4, g5⟩ | ⟨g1, g2, g3⟩
      · rw [renS_len] at hpos'
        rw [renS_own] at ho
        rw [h5, g5]
        exact hh.apart i i' q q' (fun e => hne (by rw [← h3, ← g3, e])) h1 g1 ho hpos hpos'
      · rw [h5, g3]
        obtain ⟨c1, c2⟩ := g2 hpos'
        rcases hAblk i q h1 h4 hpos with hb | hb
        · omega
        · exact fun e => c2 (e ▸ hb)
    · obtain ⟨c1, c2⟩ := h2 hpos
      rcases kinds k t ht with ⟨i', q', g1, rfl, g3, g4, g5⟩ | ⟨g1, g2, g3⟩
      · rw [renS_len] at hpos'
        rw [h3, g5]
        rcases hAblk i' q' g1 g4 hpos' with hb | hb
        · omega
        · exact fun e => c2 (e ▸ hb)
      · rw [h3, g3]; exact hr.heap.apart j k s t hne h1 g1 ho hpos hpos'
  · exact hk.os.trans hr.kept.os
  · exact hk.output.trans hr.kept.output
  · exact hk.tape.trans hr.kept.tape
  · exact Nat.le_trans hsz hk.size
  · intro k hk' hL
    rw [hk.block k (by omega) (fun hb => by rcases hmineL k hb with h | h; omega; exact hL h)]
    exact hr.kept.block k hk' hL
end Go.Fw

namespace Go.Fw
open Go Go.RowKit

/-- A function that can be called: it has a body. -/
def Enterable (P : Program) (f : FuncId) : Prop := ∃ fn, P.funcs[f]? = some fn ∧ (fn.name == "runtime.NumGoroutine") = false ∧ fn.body.isNone = false

def Fits (P : Program) (f : FuncId) (s : FSpec) : Prop := Enterable P f ∧ Meets P f s

/-- A call, by what is known of the callee. -/
def callVC (P : Program) (f : FuncId) (args : List AV) (hp : List Seg) (K : AV → List Seg → Prop) : Prop :=
  ∃ (s : FSpec) (m : List Nat), Fits P f s ∧ guardT (nodupB m s.heap && allLt hp.length m) (avsLe m s.args args ∧ segsLe m hp m s.heap ∧ outsK m s.heap hp K s.outs)

def St.upd (st : St) (d : Option Tmp) (x : AV) (H : List Seg) : St := St.put { st with hp := H } d x

/-- The state written out, so that what follows finds it so. -/
def forceNm : Nat → (Nat → Prop) → Prop
  | 0, K => K 0
  | m + 1, K => forceNm m fun m => K (m + 1)
theorem forceNm_eq : ∀ (n : Nat) (K : Nat → Prop), forceNm n K = K n
  | 0, _ => rfl
  | m + 1, K => by rw [forceNm, forceNm_eq m]
def forceA1 (x : AV) (K : AV → Prop) : Prop :=
  match x with
  | .any => K .any
  | .bool b => K (.bool b)
  | .int k n => K (.int k n)
  | .flt k b => K (.flt k b)
  | .cpx k a b => K (.cpx k a b)
  | .str s => K (.str s)
  | .nils => K .nils
  | .nilp => K .nilp
  | .nilf => K .nilf
  | .nilm => K .nilm
  | .map n => forceNm n fun n => K (.map n)
  | .slice n o l c => forceNm n fun n => K (.slice n o l c)
  | .ptr n o => forceNm n fun n => K (.ptr n o)
  | .agg cs => K (.agg cs)
  | .tup cs => K (.tup cs)
  | .fn f cs => K (.fn f cs)
  | .fnb f cs => K (.fnb f cs)
theorem forceA1_eq (x : AV) (K : AV → Prop) : forceA1 x K = K x := by cases x <;> simp only [forceA1, forceNm_eq]
def forceL1 : List AV → (List AV → Prop) → Prop
  | [], K => K []
  | a :: r, K => forceA1 a fun a' => forceL1 r fun r' => K (a' :: r')
theorem forceL1_eq : ∀ (l : List AV) (K : List AV → Prop), forceL1 l K = K l
  | [], _ => rfl
  | a :: r, K => by rw [forceL1, forceA1_eq, forceL1_eq r]
def forceA (x : AV) (K : AV → Prop) : Prop :=
  match x with
  | .any => K .any
  | .bool b => K (.bool b)
  | .int k n => K (.int k n)
  | .flt k b => K (.flt k b)
  | .cpx k a b => K (.cpx k a b)
  | .str s => K (.str s)
  | .nils => K .nils
  | .nilp => K .nilp
  | .nilf => K .nilf
  | .nilm => K .nilm
  | .map n => forceNm n fun n => K (.map n)
  | .slice n o l c => forceNm n fun n => K (.slice n o l c)
  | .ptr n o => forceNm n fun n => K (.ptr n o)
  | .agg cs => forceL1 cs fun cs => K (.agg cs)
  | .tup cs => forceL1 cs fun cs => K (.tup cs)
  | .fn f cs => forceL1 cs fun cs => K (.fn f cs)
  | .fnb f cs => forceL1 cs fun cs => K (.fnb f cs)
theorem forceA_eq (x : AV) (K : AV → Prop) : forceA x K = K x := by cases x <;> simp only [forceA, forceNm_eq, forceL1_eq]
def forceL : List AV → (List AV → Prop) → Prop
  | [], K => K []
  | a :: r, K => forceL r fun r' => K (a :: r')
theorem forceL_eq : ∀ (l : List AV) (K : List AV → Prop), forceL l K = K l
  | [], _ => rfl
  | a :: r, K => by rw [forceL, forceL_eq r]
def forceS (s : Seg) (K : Seg → Prop) : Prop :=
  match s with
  | .dead => K .dead
  | .obj o => K (.obj o)
  | .seg o (.bools l) => K (.seg o (.bools l))
  | .seg o (.ints k l) => K (.seg o (.ints k l))
  | .seg o (.flts k l) => K (.seg o (.flts k l))
  | .seg o (.cpxs k l) => K (.seg o (.cpxs k l))
  | .seg o (.strs l) => K (.seg o (.strs l))
  | .seg o (.avs l) => K (.seg o (.avs l))
theorem forceS_eq (x : Seg) (K : Seg → Prop) : forceS x K = K x := by cases x with | dead => rfl | obj o => rfl | seg o c => cases c <;> rfl
def forceH : List Seg → (List Seg → Prop) → Prop
  | [], K => K []
  | a :: r, K => forceS a fun a' => forceH r fun r' => K (a' :: r')
theorem forceH_eq : ∀ (l : List Seg) (K : List Seg → Prop), forceH l K = K l
  | [], _ => rfl
  | a :: r, K => by rw [forceH, forceS_eq, forceH_eq r]

/-- d := x, in this heap. -/
def St.go (sl : List AV) (hp : List Seg) (d : Option Tmp) (x : AV) (K : St → Prop) : Prop :=
  match d with
  | some t => forceA x fun x' => forceL (setAt sl t x') fun sl' => K ⟨sl', hp⟩
  | none => K ⟨sl, hp⟩
theorem St.go_eq (sl : List AV) (hp : List Seg) (d : Option Tmp) (x : AV) (K : St → Prop) : St.go sl hp d x K = K (St.put ⟨sl, hp⟩ d x) := by
  cases d <;> simp only [St.go, St.put, forceA_eq, forceL_eq]
def St.upG (st : St) (d : Option Tmp) (x : AV) (H : List Seg) (K : St → Prop) : Prop := match st with | ⟨sl, _⟩ => forceH H fun H' => St.go sl H' d x K
theorem St.upG_eq (st : St) (d : Option Tmp) (x : AV) (H : List Seg) (K : St → Prop) : St.upG st d x H K = K (st.upd d x H) := by
  simp only [St.upG, forceH_eq, St.go_eq, St.upd]
def forceSt (st : St) (K : St → Prop) : Prop := forceL st.sl fun sl => forceH st.hp fun hp => K ⟨sl, hp⟩
theorem forceSt_eq (st : St) (K : St → Prop) : forceSt st K = K st := by simp only [forceSt, forceL_eq, forceH_eq]

/-- A call of a function of which it is known that it only looks. -/
def isQ (q : Nat → Bool) (o : Oper) : Bool :=
  match o.op with
  | .call c => (match c.callee with
    | .value (.func f) => q f
    | _ => false)
  | _ => false

/-- An operation that makes or writes memory, or calls. -/
def isEff (q : Nat → Bool) (o : Oper) : Bool :=
  match o.op with
  | .store .. | .makeSlice .. | .alloc .. | .box .. | .buildSlice .. => true
  | .makeMap .. | .mapUpdate .. | .insert .. | .range .. | .next .. => true
  | .call c => (match c.callee with
    | .builtin .append => true
    | .builtin .copy => true
    | .builtin .clear => true
    | .builtin .delete => true
    | .value (.func f) => (match q f with | true => false | false => true)
    | .value _ => true
    | _ => false)
  | _ => false

/-- What a call that only looks gives. -/
structure QSpec where
  args : List AV
  heap : List Seg
  res : AV

def ground1 : AV → Option Value
  | .bool b => some (.bool b)
  | .int k n => some (.int k n)
  | .flt k b => some (.float k b)
  | .cpx k a b => some (.complex k a b)
  | .str s => some (.string s)
  | .nils => some (.slice none 0 0)
  | _ => none
def groundL : List AV → Option (List Value)
  | [] => some []
  | x :: r => match ground1 x, groundL r with
    | some v, some vs => some (v :: vs)
    | _, _ => none
def ground : AV → Option Value
  | .tup l => match groundL l with
    | some vs => some (.tuple vs.toArray)
    | none => none
  | x => ground1 x

theorem ground1_den {x : AV} {v : Value} (h : ground1 x = some v) (ρ : Plc) : Den ρ x v ∧ ∀ u, Den ρ x u → u = v := by
  unfold ground1 at h
  split at h <;> first | (cases h; done) | (simp only [Option.some.injEq] at h; subst h)
  all_goals exact ⟨by simp [Den], fun u hu => by simpa [Den] using hu⟩
theorem groundL_den : ∀ {l : List AV} {vs : List Value}, groundL l = some vs → ∀ ρ : Plc, Dens ρ l vs ∧ ∀ us, Dens ρ l us → us = vs
  | [], vs, h, ρ => by
    simp only [groundL, Option.some.injEq] at h
    subst h
    simp [Dens]
  | x :: r, vs, h, ρ => by
    unfold groundL at h
    split at h
    · rename_i v vs' h1 h2
      simp only [Option.some.injEq] at h
      subst h
      obtain ⟨d1, u1⟩ := ground1_den h1 ρ
      obtain ⟨d2, u2⟩ := groundL_den h2 ρ
      refine ⟨by simp only [Dens]; exact ⟨_, _, rfl, d1, d2⟩, fun us hu => ?_⟩
      simp only [Dens] at hu
      obtain ⟨a, b, rfl, ha, hb⟩ := hu
      rw [u1 _ ha, u2 _ hb]
    · cases h
theorem ground_den {x : AV} {v : Value} (h : ground x = some v) (ρ : Plc) : Den ρ x v ∧ ∀ u, Den ρ x u → u = v := by
  unfold ground at h
  split at h
  · split at h
    · rename_i l vs hl
      simp only [Option.some.injEq] at h
      subst h
      obtain ⟨d, u⟩ := groundL_den hl ρ
      refine ⟨by simp only [Den]; exact ⟨_, rfl, d⟩, fun w hw => ?_⟩
      simp only [Den] at hw
      obtain ⟨us, rfl, hw⟩ := hw
      rw [u _ hw]
    · cases h
  · exact ground1_den h ρ

/-- The function f, called so, gives this, and leaves the world alone but for draws. -/
def QFits (P : Program) (f : FuncId) (s : QSpec) : Prop :=
  Enterable P f ∧ ∃ v, ground s.res = some v ∧ ∀ (B : Nat) (L : Nat → Prop) (w : World) (ρ : Plc) (vs : List Value), HeapOk B L ρ s.heap w → Dens ρ s.args vs → Calls P f vs.toArray w fun e w' => e = .returned v ∧ ∃ n, w' = w.drewN n

def qcallVC (P : Program) (f : FuncId) (args : List AV) (hp : List Seg) (K : AV → Prop) : Prop :=
  ∃ (s : QSpec) (m : List Nat), QFits P f s ∧ guardT (nodupB m s.heap) (avsLe m s.args args ∧ segsLe m hp m s.heap ∧ K s.res)

def opVC (P : Program) (C : Cfg) (rg : Nat) (st : St) (o : Oper) (K : St → Prop) : Prop :=
  match isQ C.q o with
  | true => (match o.op with
    | .call c => (match c.callee with
      | .value (.func f) => qcallVC P f (c.args.toList.map (av st)) st.hp fun x => (match st with | ⟨sl, hp⟩ => St.go sl hp o.dst x K)
      | _ => False)
    | _ => False)
  | false =>
  match isEff C.q o with
  | false => evOp C rg st o fun x => (match st with | ⟨sl, hp⟩ => St.go sl hp o.dst x K)
  | true =>
    (match o.op with
     | .store t ad x => storeAV C.T st.hp t (av st ad) (av st x) fun H => st.upG o.dst (.tup []) H K
     | .makeSlice t l c => makeSliceAV C.T st.hp t (av st l) (av st c) fun x H => st.upG o.dst x H K
     | .alloc t => allocAV C.T st t fun x H => st.upG o.dst x H K
     | .box _ x => boxAV st (av st x) fun x H => st.upG o.dst x H K
     | .buildSlice t len ps => buildSliceAV C.T st t len ps.toList fun x H => st.upG o.dst x H K
     | .call c => (match c.callee, c.args.toList, c.argTypes.toList with
       | .builtin .append, [s, x], [t, t2] => appendAV C.T st.hp t t2 (av st s) (av st x) fun x H => st.upG o.dst x H K
       | .builtin .copy, [s, x], [t, _] => copyAV C.T st.hp t (av st s) (av st x) fun x H => st.upG o.dst x H K
       | .value f, args, _ => (match av st f with
         | .fn g caps => callVC P g (args.map (av st) ++ caps) st.hp fun x H => st.upG o.dst x H K
         | _ => False)
       | _, _, _ => False)
     | _ => False)

section
variable {P : Program} {C : Cfg} {w0 : World} {L : Nat → Prop} {ρ : Plc} {st : St} {a : Act} {w : World}

theorem Rep.upd (h : Rep w0 L ρ { st with hp := st.hp } a w) (d : Option Tmp) {x : AV} {v : Value} (hd : Den ρ x v) : Rep w0 L ρ (st.upd d x st.hp) (a.put d v) w := h.put d hd

def NextOk (w0 : World) (L : Nat → Prop) (ρ : Plc) (K : St → Prop) (w : World) (eff : Bool) : Act → World → Prop := fun a' w' => ∃ r st', K st' ∧ Rep w0 L (ρ ++ r) st' a' w' ∧ (eff = false → ∃ n, w' = w.drewN n)

/-- What a call that only looks gives, in every world that differs in draws alone. -/
theorem qcall_sound {f : FuncId} {args : List AV} {K : AV → Prop} (h : qcallVC P f args st.hp K) (hr : Rep w0 L ρ st a w) {vs : List Value} (hd : Dens ρ args vs) :
    Enterable P f ∧ ∃ x v, K x ∧ Den ρ x v ∧ ∀ n, Calls P f vs.toArray (w.drewN n) fun e w' => e = .returned v ∧ ∃ k, w' = (w.drewN n).drewN k := by
  obtain ⟨s, m, ⟨he, v, hg, hq⟩, h⟩ := h
  rw [guardT_eq] at h
  obtain ⟨hnd, h1, h2, hk⟩ := h
  refine ⟨he, s.res, v, hk, (ground_den hg ρ).1, fun n => ?_⟩
  exact hq _ L (w.drewN n) (m.map (pl ρ)) vs ((hr.drewN n).heap.sub h2 hnd) (avsLe_den h1 hd)

theorem qcall_run {args' : Array Operand} {tys' : Array TypeId} {o : Oper} {g : FuncId} (hq : o.op = .call ⟨.value (.func g), args', tys'⟩) (he : Enterable P g) (a : Act) (w : World) : (execOp a.eval o).run P w = .ok (.enter g (args'.map a.eval)) w := by
  obtain ⟨fn, e1, e2, e3⟩ := he
  simp only [execOp, hq, resolve, Deferred.ofValue, Act.eval, Sem.run_bind, Sem.run_pure, Result.andThen_ok, invoke, callFunc, program, Sem.run, e1, e2, e3, Bool.false_eq_true, if_false, Array.empty_append, Array.append_empty]

theorem callVC_sound {f : FuncId} {args : List AV} {K : AV → List Seg → Prop} (h : callVC P f args st.hp K) (hr : Rep w0 L ρ st a w) {vs : List Value} (hd : Dens ρ args vs) (N : Value → World → Prop)
    (hN : ∀ x H' r v w', K x H' → Den (ρ ++ r) x v → Rep w0 L (ρ ++ r) { st with hp := H' } a w' → N v w') :
    Calls P f vs.toArray w fun e w' => ∃ v, e = .returned v ∧ N v w' := by
  obtain ⟨s, m, ⟨_, hm⟩, h⟩ := h
  rw [guardT_eq, Bool.and_eq_true] at h
  obtain ⟨⟨h3, h4⟩, h1, h2, h5⟩ := h
  have hsub := hr.heap.sub h2 h3
  have hlen := (segsLe_get h2).1
  have hentry : HeapOk w.heap.size (fun b => ∃ i s', s.heap[i]? = some s' ∧ s'.isOwn = true ∧ 0 < s'.len ∧ (pl (m.map (pl ρ)) i).1 = b) (m.map (pl ρ)) s.heap w :=
    ⟨hsub.names, hsub.cells, fun i t hi ho hl => .inr ⟨i, t, hi, ho, hl, rfl⟩, hsub.apart⟩
  refine (hm w _ (m.map (pl ρ)) vs hentry (avsLe_den h1 hd)).mono fun e w' ⟨o, ho, y, hy, v, ρ', he, hv, hh, hk⟩ => ⟨v, he, ?_⟩
  obtain ⟨g1, g2⟩ := outsK_out h5 o ho y hy
  obtain ⟨c1, c2⟩ := call_heap hr h2 h4 g1 (fun b => Iff.rfl) hh hk
  exact hN _ _ _ v w' g2 (c1 _ v hv) c2

theorem isQ_out {q : Nat → Bool} {o : Oper} (h : isQ q o = true) : ∃ g args tys, o.op = .call ⟨.value (.func g), args, tys⟩ ∧ isEff q o = false := by
  obtain ⟨dst, op, type, pos, after, guard⟩ := o
  cases op <;> simp only [isQ] at h <;> first | cases h | skip
  rename_i c
  obtain ⟨callee, args, tys⟩ := c
  cases callee <;> simp only at h <;> first | cases h | skip
  rename_i f
  cases f <;> simp only at h <;> first | cases h | skip
  rename_i g
  exact ⟨g, args, tys, rfl, by simp [isEff, h]⟩

theorem opVC_q {rg : Nat} {o : Oper} {K : St → Prop} (hq : isQ C.q o = true) (h : opVC P C rg st o K) : ∃ g args tys, o.op = .call ⟨.value (.func g), args, tys⟩ ∧ isEff C.q o = false ∧ qcallVC P g (args.toList.map (av st)) st.hp fun x => K (st.put o.dst x) := by
  obtain ⟨g, args, tys, ho, he⟩ := isQ_out hq
  unfold opVC at h
  rw [hq] at h
  simp only [St.go_eq, ho] at h
  exact ⟨g, args, tys, ho, he, h⟩

theorem opVC_sound (hT : TOk P C.T) {rg : Nat} {o : Oper} {K : St → Prop} (h : opVC P C rg st o K) (hr : Rep w0 L ρ st a w) (Q : Exit → Act → World → Prop) : o.wp P a w (NextOk w0 L ρ K w (isEff C.q o)) Q := by
  by_cases hq : isQ C.q o = true
  · obtain ⟨g, args, tys, ho, he, hc⟩ := opVC_q hq h
    obtain ⟨hen, x, v, hk, hd, hcall⟩ := qcall_sound hc hr (dens_map (av_den hr) _)
    unfold Oper.wp
    rw [qcall_run ho hen]
    have := hcall 0
    have earr : args.map a.eval = (args.toList.map a.eval).toArray := by rw [← Array.toList_inj]; simp
    rw [earr]
    exact this.mono fun e w' ⟨h1, k, h2⟩ => by subst h1; subst h2; exact ⟨[], _, hk, by rw [List.append_nil]; exact (hr.drewN k).put o.dst hd, fun _ => ⟨k, rfl⟩⟩
  have hq : isQ C.q o = false := by simpa using hq
  unfold opVC at h
  rw [hq] at h
  simp only [St.upG_eq, St.go_eq] at h
  split at h
  · rename_i heff
    obtain ⟨x, hk, hs⟩ := evOp_sound hT h
    obtain ⟨v, hv, hy⟩ := hs w0 L ρ a w hr
    unfold Oper.wp
    rw [hy w rfl]
    exact ⟨[], _, hk, by rw [List.append_nil]; exact hr.put o.dst hv, fun _ => ⟨0, rfl⟩⟩
  · rename_i heff
    rw [heff]
    clear heff hq
    obtain ⟨dst, op, type, pos, after, guard⟩ := o
    cases op <;> simp only at h <;> try exact h.elim
    case alloc t =>
      obtain ⟨y, H', ρ', v, w', h1, h2, h3, h4⟩ := alloc_sound hT h hr
      unfold Oper.wp execOp
      simp only [Sem.run_bind, h2, Result.andThen_ok, Sem.run_pure]
      exact ⟨ρ', _, h1, h4.put dst h3, fun h => by cases h⟩
    case box t x =>
      obtain ⟨y, H', ρ', v, w', h1, h2, h3, h4⟩ := box_sound (P := P) h hr t (av_den hr x)
      unfold Oper.wp execOp
      simp only [Sem.run_bind, h2, Result.andThen_ok, Sem.run_pure]
      exact ⟨ρ', _, h1, h4.put dst h3, fun h => by cases h⟩
    case buildSlice t len ps =>
      obtain ⟨y, H', ρ', v, w', h1, h2, h3, h4⟩ := buildSlice_sound hT h hr
      unfold Oper.wp execOp
      simp only [Sem.run_bind, h2, Result.andThen_ok, Sem.run_pure]
      exact ⟨ρ', _, h1, h4.put dst h3, fun h => by cases h⟩
    case store t ad x =>
      obtain ⟨H', w', h1, h2, h3⟩ := store_sound hT h hr (av_den hr ad) (av_den hr x)
      unfold Oper.wp execOp
      simp only [Sem.run_bind, h2, Result.andThen_ok, Sem.run_pure]
      exact ⟨[], _, h1, by rw [List.append_nil]; exact h3.put dst (by simp only [Den]; exact ⟨[], rfl, by simp [Dens]⟩), fun h => by cases h⟩
    case makeSlice t l c =>
      obtain ⟨y, H', ρ', v, w', h1, h2, h3, h4⟩ := makeSlice_sound hT h hr (av_den hr l) (av_den hr c)
      unfold Oper.wp execOp
      simp only [Sem.run_bind, h2, Result.andThen_ok, Sem.run_pure]
      exact ⟨ρ', _, h1, h4.put dst h3, fun h => by cases h⟩
    case call c =>
      obtain ⟨callee, args, argTypes⟩ := c
      simp only at h
      split at h
      · rename_i s x t t2 ha ht
        have : args = #[s, x] := by rw [← Array.toList_inj]; exact ha
        subst this
        have : argTypes = #[t, t2] := by rw [← Array.toList_inj]; exact ht
        subst this
        obtain ⟨y, H', ρ', v, w', h1, h2, h3, h4⟩ := append_sound (ty := type) hT h hr (av_den hr s) (av_den hr x)
        unfold Oper.wp execOp
        simp only [resolve, invoke, builtin, Sem.run_bind, Sem.run_pure, Result.andThen_ok, List.map_toArray, List.map_cons, List.map_nil, h2]
        exact ⟨ρ', _, h1, h4.put dst h3, fun h => by cases h⟩
      · rename_i s x t t2 ha ht
        have : args = #[s, x] := by rw [← Array.toList_inj]; exact ha
        subst this
        have : argTypes = #[t, t2] := by rw [← Array.toList_inj]; exact ht
        subst this
        obtain ⟨y, H', v, w', h1, h2, h3, h4⟩ := copy_sound (ty := type) (t2 := t2) hT h hr (av_den hr s) (av_den hr x)
        unfold Oper.wp execOp
        simp only [resolve, invoke, builtin, Sem.run_bind, Sem.run_pure, Result.andThen_ok, List.map_toArray, List.map_cons, List.map_nil, h2]
        exact ⟨[], _, h1, by rw [List.append_nil]; exact h4.put dst h3, fun h => by cases h⟩
      · rename_i f
        split at h
        · rename_i g caps hg
          have hf := av_den hr f
          rw [hg] at hf
          simp only [Den] at hf
          obtain ⟨cvs, hf, hcd⟩ := hf
          obtain ⟨fn, e1, e2, e3⟩ : Enterable P g := by obtain ⟨_, _, ⟨he, _⟩, _⟩ := h; exact he
          have hd : Dens ρ (args.toList.map (av st) ++ caps) (args.toList.map a.eval ++ cvs) := (dens_map (av_den hr) _).append hcd
          have hc := callVC_sound h hr hd (fun v w' => NextOk w0 L ρ K w true (a.put dst v) w') (fun x H' ρ' v w' k1 k2 k3 => ⟨ρ', _, k1, k3.put dst k2, fun h => by cases h⟩)
          have harr : (args.map a.eval ++ cvs.toArray) = (args.toList.map a.eval ++ cvs).toArray := by rw [← Array.toList_inj]; simp
          unfold Oper.wp
          have hrun : (execOp a.eval ⟨dst, .call ⟨.value f, args, argTypes⟩, type, pos, after, guard⟩).run P w = .ok (.enter g (args.toList.map a.eval ++ cvs).toArray) w := by
            rw [← harr]
            simp only [execOp, resolve, Deferred.ofValue, hf, Sem.run_bind, Sem.run_pure, Result.andThen_ok, invoke, callFunc, program, Sem.run, e1, e2, e3, Bool.false_eq_true, if_false, Array.empty_append]
          rw [hrun]
          exact hc.mono fun e w' ⟨v, he, hn⟩ => by subst he; exact hn
        · exact h.elim
      · exact h.elim
end
end Go.Fw

namespace Go.Fw
open Go Go.RowKit

def nthOp : List Oper → Nat → Option Oper
  | [], _ => none
  | o :: _, 0 => some o
  | _ :: r, n + 1 => nthOp r n
theorem nthOp_eq : ∀ (l : List Oper) (n : Nat), nthOp l n = l[n]?
  | [], _ => by simp [nthOp]
  | o :: r, 0 => by simp [nthOp]
  | o :: r, n + 1 => by simp [nthOp, nthOp_eq r n]

/-- A test: told apart by tst_in. -/
def tst (b : Bool) (p q : Prop) : Prop := Bool.rec (motive := fun _ => Prop) q p b
theorem tst_in {b : Bool} {p q : Prop} (h1 : b = true → p) (h2 : b = false → q) : @Bool.rec (fun _ => Prop) q p b := by cases b; exact h2 rfl; exact h1 rfl
theorem tst_true (p q : Prop) : tst true p q = p := rfl
theorem tst_false (p q : Prop) : tst false p q = q := rfl

def guardDst (all : List Oper) (j : Nat) : Option Tmp := match nthOp all j with | some o => o.dst | none => none

def vcOps (P : Program) (C : Cfg) (rg : Nat) (all : List Oper) : List Oper → St → (St → Prop) → Prop
  | [], st, K => K st
  | o :: rest, st, K =>
    match o.guard with
    | none => opVC P C rg st o fun st' => vcOps P C rg all rest st' K
    | some (j, want) =>
      (match guardDst all j with
       | some t =>
         (match slot st.sl t with
          | .bool b =>
            (match st with | ⟨sl, hp⟩ => tst b (forceL (setAt sl t (.bool true)) fun sl' => (match want with
               | true => opVC P C rg ⟨sl', hp⟩ o fun st' => vcOps P C rg all rest st' K
               | false => St.go sl' hp o.dst (.tup []) fun st' => vcOps P C rg all rest st' K)) (forceL (setAt sl t (.bool false)) fun sl' => (match want with
               | false => opVC P C rg ⟨sl', hp⟩ o fun st' => vcOps P C rg all rest st' K
               | true => St.go sl' hp o.dst (.tup []) fun st' => vcOps P C rg all rest st' K)))
          | .tup [] => (match st with | ⟨sl, hp⟩ => St.go sl hp o.dst (.tup []) fun st' => vcOps P C rg all rest st' K)
          | _ => False)
       | none => False)

section
variable {P : Program} {C : Cfg} {w0 : World} {L : Nat → Prop}

theorem den_undef (ρ : Plc) : Den ρ (.tup []) undef := by simp only [Den]; exact ⟨[], rfl, by simp [Dens]⟩

theorem slot_bool {ρ : Plc} {st : St} {a : Act} {w : World} (hr : Rep w0 L ρ st a w) {t : Nat} {b : Bool} (h : slot st.sl t = .bool b) : a.tmps[t]? = some (.bool b) := by
  have := slot_den hr.slots t
  rw [h] at this
  simp only [Den] at this
  rw [Array.getD_eq_getD_getElem?] at this
  cases ht : a.tmps[t]? with
  | none => rw [ht] at this; simp [undef] at this
  | some v => rw [ht] at this; simp at this; rw [this]

theorem slot_undef {ρ : Plc} {st : St} {a : Act} {w : World} (hr : Rep w0 L ρ st a w) {t : Nat} (h : slot st.sl t = .tup []) : a.tmps[t]? = none ∨ a.tmps[t]? = some undef := by
  have := slot_den hr.slots t
  rw [h] at this
  simp only [Den, Dens] at this
  obtain ⟨vs, hv, rfl⟩ := this
  rw [Array.getD_eq_getD_getElem?] at hv
  cases ht : a.tmps[t]? with
  | none => exact .inl rfl
  | some v => rw [ht] at hv; simp at hv; right; rw [hv]; rfl

theorem yielded_of {all : List Oper} {tmps : Array Value} {j t : Nat} (h : guardDst all j = some t) : yielded all.toArray tmps j = (match tmps[t]? with | some (.bool b) => some b | _ => none) := by
  unfold guardDst at h
  split at h
  · rename_i o ho
    rw [nthOp_eq] at ho
    simp only [yielded, List.getElem?_toArray, ho, Option.bind_some, h]
    cases tmps[t]? with
    | none => rfl
    | some v => cases v <;> rfl
  · cases h

theorem Rep.lit {ρ : Plc} {st : St} {a : Act} {w : World} (hr : Rep w0 L ρ st a w) {t : Nat} {b : Bool} (h : slot st.sl t = .bool b) : Rep w0 L ρ { st with sl := setAt st.sl t (.bool b) } a w := by
  have e : setAt st.sl t (.bool b) = st.sl := by
    rw [setAt_eq]
    rw [slot_eq, List.getD_eq_getElem?_getD] at h
    cases hl : st.sl[t]? with
    | none => rw [List.set_eq_of_length_le (List.getElem?_eq_none_iff.1 hl)]
    | some x => rw [hl] at h; simp at h; exact set_self (by rw [hl, h])
  rw [e]; exact hr

/-- The places of ρ0 stand ahead of all later ones. -/
def Ext (ρ0 ρ : Plc) : Prop := ∃ r, ρ = ρ0 ++ r
theorem Ext.app {ρ0 ρ : Plc} (h : Ext ρ0 ρ) (r : Plc) : Ext ρ0 (ρ ++ r) := by obtain ⟨s, rfl⟩ := h; exact ⟨s ++ r, by simp⟩

/-- Where it is asked (q): the world is as it was, but for draws. -/
def Tr (q : Bool) (w0 w : World) : Prop := q = true → ∃ n, w = w0.drewN n
theorem Tr.go {q : Bool} {w0 w w' : World} (h : Tr q w0 w) (h' : q = true → ∃ n, w' = w.drewN n) : Tr q w0 w' := fun hq => by
  obtain ⟨n, rfl⟩ := h hq
  obtain ⟨k, rfl⟩ := h' hq
  exact ⟨n + k, by simp only [World.drewN]; congr 1; omega⟩

def noEff (q : Nat → Bool) (l : List Oper) : Bool := l.all fun o => !isEff q o

/-- A region, in the text's order. -/
theorem vcOps_sound (hT : TOk P C.T) {rg : Nat} {all : List Oper} {Q : Exit → Act → World → Prop} {K : St → Prop} {ρ0 : Plc}
    {qq : Bool}
    (hQ : ∀ st' ρ' a' w', K st' → Rep w0 L ρ' st' a' w' → Ext ρ0 ρ' → Tr qq w0 w' → Q .normal a' w') : ∀ (l : List Oper) (ρ : Plc) (st : St) (a : Act) (w : World), (qq = true → noEff C.q l = true) → vcOps P C rg all l st K → Rep w0 L ρ st a w → Ext ρ0 ρ → Tr qq w0 w → wpList P all.toArray Q l a w
  | [], ρ, st, a, w, _, h, hr, hx, ht => hQ st ρ a w h hr hx ht
  | o :: rest, ρ, st, a, w, hne, h, hr, hx, htr => by
    have hne1 : qq = true → isEff C.q o = false := fun hq => by have := hne hq; simp only [noEff, List.all_cons, Bool.and_eq_true, Bool.not_eq_true'] at this; exact this.1
    have hne2 : qq = true → noEff C.q rest = true := fun hq => by have := hne hq; simp only [noEff, List.all_cons, Bool.and_eq_true] at this; exact this.2
    have run : ∀ (st : St), Rep w0 L ρ st a w → opVC P C rg st o (fun st' => vcOps P C rg all rest st' K) → o.wp P a w (wpList P all.toArray Q rest) Q := fun st hr h =>
      Oper.wp_mono (fun a' w' ⟨r, st', h1, h2, h3⟩ => vcOps_sound hT hQ rest (ρ ++ r) st' a' w' hne2 h1 h2 (hx.app r) (htr.go fun hq => h3 (hne1 hq))) (opVC_sound hT h hr Q)
    unfold vcOps at h
    unfold wpList
    cases hg : o.guard with
    | none =>
      rw [hg] at h
      rw [if_pos (by simp [Region.wanted, hg])]
      exact .inl (run st hr h)
    | some jw =>
      obtain ⟨j, want⟩ := jw
      rw [hg] at h
      simp only [forceL_eq, St.go_eq] at h
      split at h
      · rename_i t ht
        have hy := yielded_of (tmps := a.tmps) ht
        split at h
        · rename_i b hb
          have hsb := slot_bool hr hb
          rw [hsb] at hy
          simp only at hy
          have hl := hr.lit hb
          cases b <;> cases want <;> simp only [tst_true, tst_false] at h
          · rw [if_pos (by simp [Region.wanted, hg, hy])]; exact .inl (run _ hl h)
          · rw [if_neg (by simp [Region.wanted, hg, hy])]; exact vcOps_sound hT hQ rest ρ _ _ _ hne2 h (hl.put o.dst (den_undef ρ)) hx htr
          · rw [if_neg (by simp [Region.wanted, hg, hy])]; exact vcOps_sound hT hQ rest ρ _ _ _ hne2 h (hl.put o.dst (den_undef ρ)) hx htr
          · rw [if_pos (by simp [Region.wanted, hg, hy])]; exact .inl (run _ hl h)
        · rename_i hb
          have hy2 : yielded all.toArray a.tmps j = none := by
            rw [hy]
            rcases slot_undef hr hb with e | e <;> rw [e] <;> rfl
          rw [if_neg (by simp [Region.wanted, hg, hy2])]
          exact vcOps_sound hT hQ rest ρ _ _ _ hne2 h (hr.put o.dst (den_undef ρ)) hx htr
        · exact h.elim
      · exact h.elim

theorem vcOps_append {rg : Nat} {all : List Oper} {K : St → Prop} (l2 : List Oper) : ∀ (l1 : List Oper) (st : St), vcOps P C rg all (l1 ++ l2) st K = vcOps P C rg all l1 st (fun st' => vcOps P C rg all l2 st' K)
  | [], st => rfl
  | o :: l1, st => by simp only [List.cons_append, vcOps, vcOps_append l2 l1]

theorem opVC_plain (hT : TOk P C.T) {rg : Nat} {o : Oper} {K : St → Prop} {ρ : Plc} {st : St} {a : Act} {w : World} (h1 : isEff C.q o = false) (h2 : isQ C.q o = false) (h : opVC P C rg st o K) (hr : Rep w0 L ρ st a w) :
    ∃ x v, K (st.put o.dst x) ∧ Den ρ x v ∧ Yields P o a w v := by
  unfold opVC at h
  rw [h2] at h
  simp only [h1, St.go_eq] at h
  obtain ⟨x, hk, hs⟩ := evOp_sound hT h
  obtain ⟨v, hv, hy⟩ := hs w0 L ρ a w hr
  exact ⟨x, v, hk, hv, hy⟩

/-- Plain operations, in a region that draws its order. -/
theorem vcOps_still (hT : TOk P C.T) {rg : Nat} {all : List Oper} {Q : Act → Prop} {K : St → Prop} {ρ : Plc} {w : World}
    (hQ : ∀ st' a', K st' → Rep w0 L ρ st' a' w → Q a') : ∀ (l : List Oper) (st : St) (a : Act), l.all (fun o => !isEff C.q o && !isQ C.q o) = true → vcOps P C rg all l st K → Rep w0 L ρ st a w → wpStill P all.toArray w Q l a
  | [], st, a, _, h, hr => hQ st a h hr
  | o :: rest, st, a, hp, h, hr => by
    simp only [List.all_cons, Bool.and_eq_true, Bool.not_eq_true'] at hp
    have hrest : rest.all (fun o => !isEff C.q o && !isQ C.q o) = true := by simpa using hp.2
    have run : ∀ (st : St), Rep w0 L ρ st a w → opVC P C rg st o (fun st' => vcOps P C rg all rest st' K) → o.still P a w (wpStill P all.toArray w Q rest) := fun st hr h => by
      obtain ⟨x, v, hk, hv, hy⟩ := opVC_plain hT hp.1.1 hp.1.2 h hr
      unfold Oper.still
      rw [hy w rfl, Oper.stillUpon_value]
      exact vcOps_still hT hQ rest _ _ hrest hk (hr.put o.dst hv)
    unfold vcOps at h
    unfold wpStill
    cases hg : o.guard with
    | none =>
      rw [hg] at h
      rw [if_pos (by simp [Region.wanted, hg])]
      exact run st hr h
    | some jw =>
      obtain ⟨j, want⟩ := jw
      rw [hg] at h
      simp only [forceL_eq, St.go_eq] at h
      split at h
      · rename_i t ht
        have hy := yielded_of (tmps := a.tmps) ht
        split at h
        · rename_i b hb
          have hsb := slot_bool hr hb
          rw [hsb] at hy
          simp only at hy
          have hl := hr.lit hb
          cases b <;> cases want <;> simp only [tst_true, tst_false] at h
          · rw [if_pos (by simp [Region.wanted, hg, hy])]; exact run _ hl h
          · rw [if_neg (by simp [Region.wanted, hg, hy])]; exact vcOps_still hT hQ rest _ _ hrest h (hl.put o.dst (den_undef ρ))
          · rw [if_neg (by simp [Region.wanted, hg, hy])]; exact vcOps_still hT hQ rest _ _ hrest h (hl.put o.dst (den_undef ρ))
          · rw [if_pos (by simp [Region.wanted, hg, hy])]; exact run _ hl h
        · rename_i hb
          have hy2 : yielded all.toArray a.tmps j = none := by
            rw [hy]
            rcases slot_undef hr hb with e | e <;> rw [e] <;> rfl
          rw [if_neg (by simp [Region.wanted, hg, hy2])]
          exact vcOps_still hT hQ rest _ _ hrest h (hr.put o.dst (den_undef ρ))
        · exact h.elim
      · exact h.elim

/-- Operations and calls that only look, in a region that draws its order. -/
theorem vcOps_quiet (hT : TOk P C.T) {rg : Nat} {all : List Oper} {Q : Act → Prop} {K : St → Prop} {ρ : Plc} {w : World}
    (hQ : ∀ st' a', K st' → Rep w0 L ρ st' a' w → Q a') : ∀ (l : List Oper) (st : St) (a : Act), noEff C.q l = true → vcOps P C rg all l st K → Rep w0 L ρ st a w → wpQuiet P all.toArray (fun w' => ∃ n, w' = w.drewN n) Q l a
  | [], st, a, _, h, hr => hQ st a h hr
  | o :: rest, st, a, hp, h, hr => by
    simp only [noEff, List.all_cons, Bool.and_eq_true, Bool.not_eq_true'] at hp
    have hrest : noEff C.q rest = true := hp.2
    have run : ∀ (st : St), Rep w0 L ρ st a w → opVC P C rg st o (fun st' => vcOps P C rg all rest st' K) → o.quiet P a (fun w' => ∃ n, w' = w.drewN n) (wpQuiet P all.toArray (fun w' => ∃ n, w' = w.drewN n) Q rest) := fun st hr h => by
      by_cases hq : isQ C.q o = true
      · obtain ⟨g, args, tys, ho, he, hc⟩ := opVC_q hq h
        obtain ⟨hen, x, v, hk, hd, hcall⟩ := qcall_sound hc hr (dens_map (av_den hr) _)
        refine ⟨v, ?_, vcOps_quiet hT hQ rest _ _ hrest hk (hr.put o.dst hd)⟩
        rintro w' ⟨n, rfl⟩
        unfold Oper.quietAt
        rw [qcall_run ho hen]
        have earr : args.map a.eval = (args.toList.map a.eval).toArray := by rw [← Array.toList_inj]; simp
        rw [earr]
        refine ⟨rfl, (hcall n).mono fun e w' ⟨h1, k, h2⟩ => ⟨h1, n + k, ?_⟩⟩
        rw [h2]; simp only [World.drewN]; congr 1; omega
      · obtain ⟨x, v, hk, hv, hy⟩ := opVC_plain hT hp.1 (by simpa using hq) h hr
        refine ⟨v, ?_, vcOps_quiet hT hQ rest _ _ hrest hk (hr.put o.dst hv)⟩
        rintro w' ⟨n, rfl⟩
        unfold Oper.quietAt
        rw [hy (w.drewN n) rfl]
        exact ⟨rfl, rfl⟩
    unfold vcOps at h
    unfold wpQuiet
    cases hg : o.guard with
    | none =>
      rw [hg] at h
      rw [if_pos (by simp [Region.wanted, hg])]
      exact run st hr h
    | some jw =>
      obtain ⟨j, want⟩ := jw
      rw [hg] at h
      simp only [forceL_eq, St.go_eq] at h
      split at h
      · rename_i t ht
        have hy := yielded_of (tmps := a.tmps) ht
        split at h
        · rename_i b hb
          have hsb := slot_bool hr hb
          rw [hsb] at hy
          simp only at hy
          have hl := hr.lit hb
          cases b <;> cases want <;> simp only [tst_true, tst_false] at h
          · rw [if_pos (by simp [Region.wanted, hg, hy])]; exact run _ hl h
          · rw [if_neg (by simp [Region.wanted, hg, hy])]; exact vcOps_quiet hT hQ rest _ _ hrest h (hl.put o.dst (den_undef ρ))
          · rw [if_neg (by simp [Region.wanted, hg, hy])]; exact vcOps_quiet hT hQ rest _ _ hrest h (hl.put o.dst (den_undef ρ))
          · rw [if_pos (by simp [Region.wanted, hg, hy])]; exact run _ hl h
        · rename_i hb
          have hy2 : yielded all.toArray a.tmps j = none := by
            rw [hy]
            rcases slot_undef hr hb with e | e <;> rw [e] <;> rfl
          rw [if_neg (by simp [Region.wanted, hg, hy2])]
          exact vcOps_quiet hT hQ rest _ _ hrest h (hr.put o.dst (den_undef ρ))
        · exact h.elim
      · exact h.elim

/-- How many operations stand ahead of the first that makes, writes or calls. -/
def effIdx (q : Nat → Bool) : List Oper → Nat
  | [] => 0
  | o :: r => if !isEff q o && !isQ q o then effIdx q r + 1 else 0

/-- A region whose order may be drawn, without harm. -/
def regionB (q : Nat → Bool) (ops : Array Oper) (draw : Bool) : Bool :=
  !draw || (if noEff q ops.toList then Region.lexB .any ops else Region.lexTailB .any ops (effIdx q ops.toList))

theorem effIdx_pure (q : Nat → Bool) : ∀ l : List Oper, (l.take (effIdx q l)).all (fun o => !isEff q o && !isQ q o) = true
  | [] => rfl
  | o :: r => by
    unfold effIdx
    by_cases h : (!isEff q o && !isQ q o) = true
    · simp only [h, if_true, List.take_succ_cons, List.all_cons, effIdx_pure q r]; simp
    · simp [h]

theorem region_sound (hT : TOk P C.T) (hm : P.follows .mixedOrders = true) {rg : Nat} {ops : Array Oper} {draw : Bool} {Q : Exit → Act → World → Prop} {K : St → Prop} {ρ0 ρ : Plc} {st : St} {a : Act} {w : World} {qq : Bool} (hB : regionB C.q ops draw = true) (hne : qq = true → noEff C.q ops.toList = true)
    (h : vcOps P C rg ops.toList ops.toList st K) (hr : Rep w0 L ρ st a w) (hx : Ext ρ0 ρ) (htr : Tr qq w0 w) (hQ : ∀ st' ρ' a' w', K st' → Rep w0 L ρ' st' a' w' → Ext ρ0 ρ' → Tr qq w0 w' → Q .normal a' w') : (Code.region rg ops draw).wp P Q a w := by
  obtain ⟨l, rfl⟩ : ∃ l : List Oper, ops = l.toArray := ⟨ops.toList, by simp⟩
  have e : l.toArray.toList = l := by simp
  rw [e] at h hne
  cases draw with
  | false => exact wp_region_lit (vcOps_sound hT hQ l ρ st a w hne h hr hx htr)
  | true =>
    have hr1 : Rep w0 L ρ st a { w with drawn := w.drawn + 1 } := hr.drewN 1
    have htr1 : Tr qq w0 { w with drawn := w.drawn + 1 } := htr.go fun _ => ⟨1, rfl⟩
    simp only [regionB, Bool.not_true, Bool.false_or] at hB
    split at hB
    · rename_i he
      refine wp_region_quiet_lit hm hB (vcOps_quiet hT (fun st' a' hk hr' => ?_) l st a he h hr)
      rintro w' ⟨n, rfl⟩
      exact hQ st' ρ a' _ hk (hr'.drewN n) hx (htr.go fun _ => ⟨n, rfl⟩)
    · rename_i he
      refine wp_region_still_tail (effIdx C.q l) hm hB ?_
      rw [show l = l.take (effIdx C.q l) ++ l.drop (effIdx C.q l) by simp] at h
      rw [vcOps_append] at h
      simp only [List.take_append_drop] at h
      exact vcOps_still hT (fun st' a' hk hr' => vcOps_sound hT hQ _ ρ st' a' _ (fun hq => absurd (hne hq) he) hk hr' hx htr1) _ st a (effIdx_pure C.q l) h hr1

/-- The operations in the order of a plan. -/
def vcPlan (P : Program) (C : Cfg) (rg : Nat) (all : List Oper) : Plan → St → (St → Prop) → Prop
  | .done, st, K => K st
  | .fin, _, _ => True
  | .op k r, st, K => (match nthOp all k with | some o => vcOps P C rg all [o] st fun st' => vcPlan P C rg all r st' K | none => False)
  | .alt k r p, st, K => (match nthOp all k with | some o => vcOps P C rg all [o] st fun st' => vcPlan P C rg all r st' K | none => False) ∧ vcPlan P C rg all p st K

def waitsT (ops : Array Oper) : Nat → Nat → Nat → Bool
  | 0, _, _ => false
  | f + 1, j, k => match ops[j]? with | some o => o.after.any (fun e => Region.binds .any e && (e.on == k || waitsT ops f e.on k)) | none => false

def blindB (o : Oper) : Bool := match o.op with | .move _ => true | .assign _ => true | _ => false
def plainAt (q : Nat → Bool) (ops : Array Oper) (i : Nat) : Bool := match ops[i]? with | some o => !isEff q o && !isQ q o | none => true

def takeB (q : Nat → Bool) (ops : Array Oper) (listed : Array Bool) (k : Nat) : Bool :=
  match ops[k]? with
  | none => false
  | some o => decide (Region.ready .any ops listed = [k]) || ((Region.ready .any ops listed).contains k && Region.free .any ops listed k && plainAt q ops k && (blindB o || (List.range ops.size).all fun j => listed.getD j true || plainAt q ops j || waitsT ops ops.size j k))

def keysOf : Plan → List Nat
  | .alt k _ p => k :: keysOf p
  | _ => []

/-- The plan is one of the region. m: within a choice. -/
def planB (q : Nat → Bool) (ops : Array Oper) : Plan → Bool → Nat → Array Bool → Bool
  | .done, m, _, listed => !m && (Region.ready .any ops listed).isEmpty
  | .fin, m, _, _ => m
  | .op k r, m, f + 1, listed => !m && takeB q ops listed k && planB q ops r false f (listed.setIfInBounds k true)
  | .alt k r p, m, f + 1, listed => (m || (Region.ready .any ops listed).all fun i => (k :: keysOf p).contains i) && (m || !(Region.ready .any ops listed).isEmpty) && (Region.ready .any ops listed).contains k && planB q ops r false f (listed.setIfInBounds k true) && planB q ops p true (f + 1) listed
  | _, _, _, _ => false

/-- One operation. -/
theorem vcStep_sound (hT : TOk P C.T) {rg : Nat} {all : List Oper} {Q : Exit → Act → World → Prop} {K : St → Prop} {o : Oper} {ρ : Plc} {st : St} {a : Act} {w : World}
    (h : vcOps P C rg all [o] st K) (hr : Rep w0 L ρ st a w) :
    (Region.wanted o (yielded all.toArray a.tmps) = true ∧ o.wp P a w (NextOk w0 L ρ K w (isEff C.q o)) Q) ∨ (Region.wanted o (yielded all.toArray a.tmps) = false ∧ NextOk w0 L ρ K w (isEff C.q o) (a.put o.dst undef) w) := by
  have fin : ∀ st', K st' → Rep w0 L ρ st' (a.put o.dst undef) w → NextOk w0 L ρ K w (isEff C.q o) (a.put o.dst undef) w := fun st' hk hr' => ⟨[], st', hk, by rw [List.append_nil]; exact hr', fun _ => ⟨0, rfl⟩⟩
  unfold vcOps at h
  cases hg : o.guard with
  | none =>
    rw [hg] at h
    exact .inl ⟨by simp [Region.wanted, hg], opVC_sound hT h hr Q⟩
  | some jw =>
    obtain ⟨j, want⟩ := jw
    rw [hg] at h
    simp only [forceL_eq, St.go_eq] at h
    split at h
    · rename_i t ht
      have hy := yielded_of (tmps := a.tmps) ht
      split at h
      · rename_i b hb
        have hsb := slot_bool hr hb
        rw [hsb] at hy
        simp only at hy
        have hl := hr.lit hb
        cases b <;> cases want <;> simp only [tst_true, tst_false] at h
        · exact .inl ⟨by simp [Region.wanted, hg, hy], opVC_sound hT h hl Q⟩
        · exact .inr ⟨by simp [Region.wanted, hg, hy], fin _ h (hl.put o.dst (den_undef ρ))⟩
        · exact .inr ⟨by simp [Region.wanted, hg, hy], fin _ h (hl.put o.dst (den_undef ρ))⟩
        · exact .inl ⟨by simp [Region.wanted, hg, hy], opVC_sound hT h hl Q⟩
      · rename_i hb
        have hy2 : yielded all.toArray a.tmps j = none := by
          rw [hy]
          rcases slot_undef hr hb with e | e <;> rw [e] <;> rfl
        exact .inr ⟨by simp [Region.wanted, hg, hy2], fin _ h (hr.put o.dst (den_undef ρ))⟩
      · exact h.elim
    · exact h.elim

/-- Whatever order is drawn; of plain operations it is known that they leave the world alone. -/
def wpAnyG (P : Program) (q : Nat → Bool) (ops : Array Oper) (Q : Exit → Act → World → Prop) : Nat → Array Bool → Act → World → Prop
  | 0, listed, a, w => Region.ready .any ops listed = [] ∧ Q .normal a w
  | f + 1, listed, a, w => (Region.ready .any ops listed = [] → Q .normal a w) ∧ ∀ i ∈ Region.ready .any ops listed,
      (plainAt q ops i = false → wpOp P ops Q i (fun a' w' => wpAnyG P q ops Q f (listed.setIfInBounds i true) a' w') a w) ∧
      (plainAt q ops i = true → stOp P ops w i (fun a' => wpAnyG P q ops Q f (listed.setIfInBounds i true) a' w) a)

theorem wpAny_of_G {q : Nat → Bool} {ops : Array Oper} {Q : Exit → Act → World → Prop} : ∀ (f : Nat) (listed : Array Bool) (a : Act) (w : World), wpAnyG P q ops Q f listed a w → wpAny P .any ops Q f listed a w
  | 0, _, _, _, h => h
  | f + 1, listed, a, w, h => ⟨h.1, fun i hi => by
      obtain ⟨h1, h2⟩ := h.2 i hi
      cases hp : plainAt q ops i with
      | false => exact wpOp_mono (fun a' w' h' => wpAny_of_G f _ a' w' h') (h1 hp)
      | true => exact wpOp_of_stOp (fun a' h' => wpAny_of_G f _ a' w h') (h2 hp)⟩

def ClosedL (ops : Array Oper) (listed : Array Bool) : Prop := ∀ j oj, ops[j]? = some oj → listed.getD j false = true → ∀ e ∈ oj.after, Region.binds .any e = true → listed.getD e.on false = true

theorem ClosedL.set {ops : Array Oper} {listed : Array Bool} {i : Nat} (h : ClosedL ops listed) (hi : i ∈ Region.ready .any ops listed) : ClosedL ops (listed.setIfInBounds i true) := by
  obtain ⟨_, oi, hoi, hall⟩ := mem_ready.1 hi
  intro j oj hj hl e he hb
  by_cases hij : i = j
  · subst hij
    have : oj = oi := Option.some.inj (hj.symm.trans hoi)
    subst this
    exact getD_set_true (hall e he hb)
  · rw [getD_set_ne false hij] at hl
    exact getD_set_true (h j oj hj hl e he hb)

theorem unlisted_both {listed : Array Bool} {i : Nat} (h : listed.getD i true = false) : listed.getD i false = false := by
  rcases Nat.lt_or_ge i listed.size with h' | h'
  · simp [h'] at h ⊢; exact h
  · simp [Array.getElem?_eq_none h'] at h

theorem waitsT_no {ops : Array Oper} {listed : Array Bool} {k : Nat} (hc : ClosedL ops listed) (hk : listed.getD k true = false) : ∀ (f j : Nat),
    (∀ oj, ops[j]? = some oj → ∀ e ∈ oj.after, Region.binds .any e = true → listed.getD e.on false = true) → waitsT ops f j k = false
  | 0, _, _ => rfl
  | f + 1, j, hj => by
    unfold waitsT
    split
    · rename_i o ho
      rw [Bool.eq_false_iff]
      intro h
      obtain ⟨e, he, hb⟩ := Array.any_eq_true'.1 h
      simp only [Bool.and_eq_true, Bool.or_eq_true, beq_iff_eq] at hb
      have hl := hj o ho e he hb.1
      rcases hb.2 with h1 | h1
      · rw [h1, unlisted_both hk] at hl; cases hl
      · rw [waitsT_no hc hk f e.on (fun oj hoj e' he' hb' => hc e.on oj hoj hl e' he' hb')] at h1; cases h1
    · rfl

theorem blind_yields {ops : Array Oper} {o : Oper} {v : Value} {a : Act} {w : World} (hb : blindB o = true) (h : YieldsAt P ops w o v a) : Go.Yields P ops o v a := by
  have e : ∀ w, (execOp a.eval o).run P w = .ok (.value (match o.op with | .move x => a.eval x | .assign x => a.eval x | _ => undef)) w := fun w => by
    obtain ⟨dst, op, type, pos, after, guard⟩ := o
    cases op <;> simp only [blindB] at hb <;> first | (cases hb; done) | rfl
  rcases h with ⟨hw, h | ⟨h, _⟩ | ⟨f, args, h, _⟩⟩ | ⟨hw, h⟩
  · refine .inl ⟨hw, fun w' => ?_⟩
    rw [e] at h ⊢
    simp only [Result.ok.injEq, Next.value.injEq, and_true] at h
    rw [h]
  · rw [e] at h; cases h
  · rw [e] at h; cases h
  · exact .inr ⟨hw, h⟩

theorem firstG {q : Nat → Bool} {ops : Array Oper} {Q : Exit → Act → World → Prop} {i : Nat} {oi : Oper} {v : Value} (hi : ops[i]? = some oi) (hsel : ∀ (j : Nat) (o : Oper) cs b, ops[j]? = some o → o.op ≠ .select cs b)
    (hQ : ∀ c a w, ¬ Q (.panic c) a w) (hp : plainAt q ops i = true) :
    ∀ (fuel : Nat) (listed : Array Bool) (a : Act) (w : World), ClosedL ops listed →
      (∀ j oj, ops[j]? = some oj → j ≠ i → listed.getD j true = false → (∀ e ∈ oj.after, Region.binds .any e = true → e.on ≠ i) → oi.apart ops oj = true) →
      (blindB oi = true ∨ ∀ j, j < ops.size → listed.getD j true = false → plainAt q ops j = false → waitsT ops ops.size j i = true) →
      i ∈ Region.ready .any ops listed → YieldsAt P ops w oi v a →
      wpAnyG P q ops Q fuel (listed.setIfInBounds i true) (a.put oi.dst v) w → wpAnyG P q ops Q (fuel + 1) listed a w := by
  intro fuel
  induction fuel with
  | zero =>
    intro listed a w hc _ _ hr hy H
    refine ⟨fun h => (by rw [h] at hr; cases hr), fun j hj => ?_⟩
    by_cases hji : j = i
    · subst hji; exact ⟨fun h => (by rw [hp] at h; cases h), fun _ => hy.stOp hi H⟩
    · have := ready_mono hj hji
      rw [H.1] at this
      cases this
  | succ fuel ih =>
    intro listed a w hc hfree hwt hr hy H
    have hiun := (mem_ready.1 hr).1
    refine ⟨fun h => (by rw [h] at hr; cases hr), fun j hj => ?_⟩
    by_cases hji : j = i
    · subst hji; exact ⟨fun h => (by rw [hp] at h; cases h), fun _ => hy.stOp hi H⟩
    · obtain ⟨h1e, h1p⟩ := H.2 j (ready_mono hj hji)
      obtain ⟨hjun, oj, hoj, hall⟩ := mem_ready.1 hj
      have hnot : ∀ e ∈ oj.after, Region.binds .any e = true → e.on ≠ i := fun e he hb heq => by
        have h1 := hall e he hb
        rw [heq, unlisted_both hiun] at h1
        cases h1
      have hap := hfree j oj hoj hji hjun hnot
      have hfree' : ∀ k ok, ops[k]? = some ok → k ≠ i → (listed.setIfInBounds j true).getD k true = false →
          (∀ e ∈ ok.after, Region.binds .any e = true → e.on ≠ i) → oi.apart ops ok = true := fun k ok hk hki hun hno => by
        refine hfree k ok hk hki ?_ hno
        by_cases hjk : j = k
        · subst hjk; exact hjun
        · rw [getD_set_ne true hjk] at hun; exact hun
      have hwt' : blindB oi = true ∨ ∀ k, k < ops.size → (listed.setIfInBounds j true).getD k true = false → plainAt q ops k = false → waitsT ops ops.size k i = true := hwt.imp id fun h k hks hun hpk => by
        refine h k hks ?_ hpk
        by_cases hjk : j = k
        · subst hjk; exact hjun
        · rw [getD_set_ne true hjk] at hun; exact hun
      have hsi := fun cs b => hsel i oi cs b hi
      have hsj := fun cs b => hsel j oj cs b hoj
      refine ⟨fun hpj => ?_, fun hpj => ?_⟩
      · rcases hwt with hb | hwt
        · have h2 := wpOp_put hoj hap hsi hsj (fun c a w h => (hQ _ _ _ h).elim) (blind_yields hb hy) (h1e hpj)
          refine wpOp_mono (fun a' w' h3 => ih (listed.setIfInBounds j true) a' w' (hc.set hj) hfree' hwt' (ready_mono hr (Ne.symm hji)) ?_ ?_) h2
          · rcases h3.1 with ⟨hw, h⟩ | ⟨hw, h⟩
            · exact .inl ⟨hw, .inl (h w')⟩
            · exact .inr ⟨hw, h⟩
          · rw [Array.setIfInBounds_comm _ _ hji]
            exact h3.2
        · have h3 := waitsT_no hc hiun ops.size j (fun o' ho' => by have : o' = oj := Option.some.inj (ho'.symm.trans hoj); subst this; exact hall)
          rw [hwt j (Array.getElem?_eq_some_iff.1 hoj).1 hjun hpj] at h3
          cases h3
      · have h2 := stOp_put hoj hap hsi hsj hy (h1p hpj)
        refine stOp_mono (fun a' h3 => ih (listed.setIfInBounds j true) a' w (hc.set hj) hfree' hwt' (ready_mono hr (Ne.symm hji)) h3.1 ?_) h2
        rw [Array.setIfInBounds_comm _ _ hji]
        exact h3.2

/-- What comes up at number k. -/
def stepG (P : Program) (q : Nat → Bool) (ops : Array Oper) (Q : Exit → Act → World → Prop) (f : Nat) (listed : Array Bool) (a : Act) (w : World) (k : Nat) : Prop :=
  (plainAt q ops k = false → wpOp P ops Q k (fun a' w' => wpAnyG P q ops Q f (listed.setIfInBounds k true) a' w') a w) ∧
  (plainAt q ops k = true → stOp P ops w k (fun a' => wpAnyG P q ops Q f (listed.setIfInBounds k true) a' w) a)

theorem planB_alt {q : Nat → Bool} {ops : Array Oper} {p : Plan} {f : Nat} {listed : Array Bool} (h : planB q ops p true f listed = true) : ∀ k ∈ keysOf p, k ∈ Region.ready .any ops listed := by
  induction p with
  | done => simp [keysOf]
  | fin => simp [keysOf]
  | op k r ih => simp [keysOf]
  | alt k r p _ ih =>
    cases f with
    | zero => simp [planB] at h
    | succ f =>
      simp only [planB, Bool.true_or, Bool.true_and, Bool.and_eq_true] at h
      intro j hj
      simp only [keysOf, List.mem_cons] at hj
      rcases hj with rfl | hj
      · simpa using h.1.1
      · exact ih h.2 j hj

theorem Ext.trans {ρ0 ρ ρ' : Plc} (h : Ext ρ0 ρ) (h' : Ext ρ ρ') : Ext ρ0 ρ' := by obtain ⟨r, rfl⟩ := h; obtain ⟨s, rfl⟩ := h'; exact ⟨r ++ s, by simp⟩

theorem step_of (hT : TOk P C.T) {rg : Nat} {all : List Oper} {Q : Exit → Act → World → Prop} {K : St → Prop} {o : Oper} {k f : Nat} {listed : Array Bool} {ρ : Plc} {st : St} {a : Act} {w : World} (ho : all.toArray[k]? = some o)
    (h : vcOps P C rg all [o] st K) (hr : Rep w0 L ρ st a w) (hK : ∀ st' ρ' a' w', K st' → Rep w0 L ρ' st' a' w' → Ext ρ ρ' → wpAnyG P C.q all.toArray Q f (listed.setIfInBounds k true) a' w') : stepG P C.q all.toArray Q f listed a w k := by
  refine ⟨fun hp => ?_, fun hp => ?_⟩
  · unfold wpOp
    simp only [ho]
    rcases vcStep_sound (Q := Q) hT h hr with ⟨hw, h1⟩ | ⟨hw, r, st', h1, h2, _⟩
    · simp only [hw, if_true]
      exact .inl (Oper.wp_mono (fun a' w' ⟨r, st', h1, h2, _⟩ => hK st' _ a' w' h1 h2 ⟨r, rfl⟩) h1)
    · simp only [hw, Bool.false_eq_true, if_false]
      exact hK st' _ _ _ h1 h2 ⟨r, rfl⟩
  · have hp' : [o].all (fun o => !isEff C.q o && !isQ C.q o) = true := by simpa [plainAt, ho] using hp
    have := vcOps_still hT (Q := fun a' => wpAnyG P C.q all.toArray Q f (listed.setIfInBounds k true) a' w) (fun st' a' hk hr' => hK st' ρ a' w hk hr' ⟨[], by simp⟩) [o] st a hp' h hr
    unfold stOp
    simp only [ho]
    unfold wpStill at this
    split at this
    · rename_i hw; simp only [hw, if_true]; exact this
    · rename_i hw; simp only [hw]; exact this

/-- Plan, walked: every order. -/
theorem plan_sound (hT : TOk P C.T) {rg : Nat} {all : List Oper} {Q : Exit → Act → World → Prop} {K : St → Prop} {ρ0 : Plc} (hsel : Region.noSelect all.toArray = true) (hQp : ∀ c a w, ¬ Q (.panic c) a w)
    (hQ : ∀ st' ρ' a' w', K st' → Rep w0 L ρ' st' a' w' → Ext ρ0 ρ' → Q .normal a' w') : ∀ (p : Plan) (m : Bool) (f : Nat) (listed : Array Bool) (ρ : Plc) (st : St) (a : Act) (w : World), planB C.q all.toArray p m f listed = true → ClosedL all.toArray listed → vcPlan P C rg all p st K → Rep w0 L ρ st a w → Ext ρ0 ρ →
    (m = false → wpAnyG P C.q all.toArray Q f listed a w) ∧ (m = true → ∀ k ∈ keysOf p, ∀ f', f = f' + 1 → stepG P C.q all.toArray Q f' listed a w k)
  | .done, m, f, listed, ρ, st, a, w, hB, hc, h, hr, hx => by
    refine ⟨fun _ => ?_, fun _ => by simp [keysOf]⟩
    simp only [planB, Bool.and_eq_true, List.isEmpty_iff] at hB
    have := hQ st ρ a w h hr hx
    cases f with
    | zero => exact ⟨hB.2, this⟩
    | succ f => exact ⟨fun _ => this, by rw [hB.2]; simp⟩
  | .fin, m, f, listed, ρ, st, a, w, hB, hc, h, hr, hx => by
    refine ⟨fun hm => ?_, fun _ => by simp [keysOf]⟩
    subst hm
    simp [planB] at hB
  | .op k r, m, 0, listed, ρ, st, a, w, hB, hc, h, hr, hx => by simp [planB] at hB
  | .alt k r p, m, 0, listed, ρ, st, a, w, hB, hc, h, hr, hx => by simp [planB] at hB
  | .op k r, m, f + 1, listed, ρ, st, a, w, hB, hc, h, hr, hx => by
    refine ⟨fun _ => ?_, fun _ => by simp [keysOf]⟩
    simp only [planB, Bool.and_eq_true] at hB
    obtain ⟨⟨_, ht⟩, hB⟩ := hB
    simp only [vcPlan] at h
    split at h
    case h_2 => exact h.elim
    rename_i o ho
    rw [nthOp_eq] at ho
    have ho' : all.toArray[k]? = some o := by simpa using ho
    have rest : k ∈ Region.ready .any all.toArray listed → ∀ ρ' st' a' w', vcPlan P C rg all r st' K → Rep w0 L ρ' st' a' w' → Ext ρ0 ρ' → wpAnyG P C.q all.toArray Q f (listed.setIfInBounds k true) a' w' := fun hrd ρ' st' a' w' h1 h2 h3 =>
      (plan_sound hT hsel hQp hQ r false f _ ρ' st' a' w' hB (hc.set hrd) h1 h2 h3).1 rfl
    have hstep : k ∈ Region.ready .any all.toArray listed → stepG P C.q all.toArray Q f listed a w k := fun hrd => step_of hT ho' h hr fun st' ρ' a' w' h1 h2 hx' => rest hrd ρ' st' a' w' h1 h2 (hx.trans hx')
    unfold takeB at ht
    simp only [ho', Bool.or_eq_true, decide_eq_true_eq] at ht
    rcases ht with ht | ht
    · refine ⟨fun h0 => (by rw [ht] at h0; cases h0), fun i hi => ?_⟩
      rw [ht] at hi
      have hik : i = k := by simpa using hi
      subst hik
      exact hstep (by rw [ht]; simp)
    · simp only [Bool.and_eq_true, Bool.or_eq_true, List.all_eq_true, List.mem_range] at ht
      obtain ⟨⟨⟨hrd, hfr⟩, hpl⟩, hbl⟩ := ht
      have hrd : k ∈ Region.ready .any all.toArray listed := by simpa using hrd
      obtain ⟨v, hy, hK⟩ := yieldsAt_of_stOp ho' ((hstep hrd).2 hpl)
      refine firstG ho' (Region.noSelect_spec hsel) hQp hpl f listed a w hc (Region.free_spec ho' hfr) ?_ hrd hy hK
      rcases hbl with hb | hb
      · exact .inl hb
      · refine .inr fun j hj hun hpj => ?_
        rcases hb j hj with (h1 | h1) | h1
        · rw [hun] at h1; cases h1
        · rw [hpj] at h1; cases h1
        · exact h1
  | .alt k r p, m, f + 1, listed, ρ, st, a, w, hB, hc, h, hr, hx => by
    simp only [planB, Bool.and_eq_true, Bool.or_eq_true] at hB
    obtain ⟨⟨⟨⟨hall, hne⟩, hrd⟩, hB1⟩, hB2⟩ := hB
    have hrd : k ∈ Region.ready .any all.toArray listed := by simpa using hrd
    obtain ⟨h, hp⟩ := h
    split at h
    case h_2 => exact h.elim
    rename_i o ho
    rw [nthOp_eq] at ho
    have ho' : all.toArray[k]? = some o := by simpa using ho
    have hstep : stepG P C.q all.toArray Q f listed a w k := step_of hT ho' h hr fun st' ρ' a' w' h1 h2 hx' =>
      (plan_sound hT hsel hQp hQ r false f _ ρ' st' a' w' hB1 (hc.set hrd) h1 h2 (hx.trans hx')).1 rfl
    have hmore := (plan_sound hT hsel hQp hQ p true (f + 1) listed ρ st a w hB2 hc hp hr hx).2 rfl
    refine ⟨fun hm => ?_, fun _ j hj f' hf => ?_⟩
    · subst hm
      simp only [Bool.false_eq_true, false_or, Bool.not_eq_true', List.isEmpty_eq_false_iff, List.all_eq_true] at hall hne
      refine ⟨fun h0 => absurd h0 hne, fun i hi => ?_⟩
      have := hall i hi
      have hi' : i = k ∨ i ∈ keysOf p := by simpa using this
      rcases hi' with rfl | hi'
      · exact hstep
      · exact hmore i hi' f rfl
    · have : f' = f := by omega
      subst this
      simp only [keysOf, List.mem_cons] at hj
      rcases hj with rfl | hj
      · exact hstep
      · exact hmore j hj f' rfl

theorem closed_none {ops : Array Oper} (n : Nat) : ClosedL ops (Array.replicate n false) := by
  intro j oj _ hl
  rcases Nat.lt_or_ge j n with h | h
  · simp [h] at hl
  · simp [h] at hl

def pickOps (all : List Oper) : List Nat → List Oper
  | [] => []
  | k :: r => (match nthOp all k with | some o => o :: pickOps all r | none => [])
def inAll (all : List Oper) : List Nat → Bool
  | [] => true
  | k :: r => (match nthOp all k with | some _ => inAll all r | none => false)
def opsThen : List Nat → Plan → Plan
  | [], p => p
  | k :: r, p => .op k (opsThen r p)
def expand : PlanL → Plan
  | .done => .done
  | .fin => .fin
  | .lin l r => opsThen l (expand r)
  | .alt k r p => .alt k (expand r) (expand p)
def planIn (all : List Oper) : PlanL → Bool
  | .done => true
  | .fin => true
  | .lin l r => inAll all l && planIn all r
  | .alt k r p => inAll all [k] && planIn all r && planIn all p

def vcPlanL (P : Program) (C : Cfg) (rg : Nat) (all : List Oper) : PlanL → St → (St → Prop) → Prop
  | .done, st, K => K st
  | .fin, _, _ => True
  | .lin l r, st, K => vcOps P C rg all (pickOps all l) st fun st' => vcPlanL P C rg all r st' K
  | .alt k r p, st, K => vcOps P C rg all (pickOps all [k]) st (fun st' => vcPlanL P C rg all r st' K) ∧ vcPlanL P C rg all p st K

theorem vc_lin {rg : Nat} {all : List Oper} {p : Plan} {K : St → Prop} : ∀ (l : List Nat) (st : St), inAll all l = true → vcPlan P C rg all (opsThen l p) st K = vcOps P C rg all (pickOps all l) st (fun st' => vcPlan P C rg all p st' K)
  | [], st, _ => rfl
  | k :: r, st, hin => by
    simp only [inAll] at hin
    simp only [pickOps, opsThen, vcPlan]
    split at hin
    · rename_i o ho
      have e := vcOps_append (P := P) (C := C) (rg := rg) (all := all) (K := fun st' => vcPlan P C rg all p st' K) (pickOps all r) [o] st
      simp only [List.cons_append, List.nil_append] at e
      simp only [e]
      congr 1
      funext st'
      exact vc_lin r st' hin
    · cases hin

theorem vc_expand {rg : Nat} {all : List Oper} {K : St → Prop} : ∀ (p : PlanL) (st : St), planIn all p = true → vcPlan P C rg all (expand p) st K = vcPlanL P C rg all p st K
  | .done, st, _ => rfl
  | .fin, st, _ => rfl
  | .lin l r, st, hin => by
    simp only [planIn, Bool.and_eq_true] at hin
    simp only [expand]
    rw [vc_lin l st hin.1]
    simp only [vcPlanL]
    congr 1
    funext st'
    exact vc_expand r st' hin.2
  | .alt k r p, st, hin => by
    simp only [planIn, Bool.and_eq_true] at hin
    have h1 : (fun st' => vcPlan P C rg all (expand r) st' K) = fun st' => vcPlanL P C rg all r st' K := by
      funext st'
      exact vc_expand r st' hin.1.2
    have hk : inAll all [k] = true := hin.1.1
    simp only [expand, vcPlan, vcPlanL, vc_expand p st hin.2, h1, pickOps]
    simp only [inAll] at hk
    split at hk
    · rfl
    · cases hk

/-- A region whose order is drawn, walked by a plan. -/
def planOk (q : Nat → Bool) (ops : Array Oper) (draw : Bool) (p : PlanL) : Bool := draw && Region.noSelect ops && planIn ops.toList p && planB q ops (expand p) false ops.size (Array.replicate ops.size false)

theorem region_plan (hT : TOk P C.T) (hm : P.follows .mixedOrders = true) {rg : Nat} {ops : Array Oper} {draw : Bool} {p : PlanL} {Q : Exit → Act → World → Prop} {K : St → Prop} {ρ0 ρ : Plc} {st : St} {a : Act} {w : World} (hB : planOk C.q ops draw p = true)
    (h : vcPlanL P C rg ops.toList p st K) (hr : Rep w0 L ρ st a w) (hx : Ext ρ0 ρ) (hQ : ∀ st' ρ' a' w', K st' → Rep w0 L ρ' st' a' w' → Ext ρ0 ρ' → Q .normal a' w') : (Code.region rg ops draw).wp P Q a w := by
  obtain ⟨l, rfl⟩ : ∃ l : List Oper, ops = l.toArray := ⟨ops.toList, by simp⟩
  have e : l.toArray.toList = l := by simp
  rw [e] at h
  simp only [planOk, Bool.and_eq_true] at hB
  obtain ⟨⟨⟨rfl, hs⟩, hin⟩, hB⟩ := hB
  have hin : planIn l p = true := hin
  rw [← vc_expand p st hin] at h
  have hr1 : Rep w0 L ρ st a { w with drawn := w.drawn + 1 } := hr.drewN 1
  refine Code.wp_mono (Q := fun e a w => e = .normal ∧ Q .normal a w) (fun e a w h => by rw [h.1]; exact h.2) (wp_region_any hm (wpAny_of_G _ _ _ _ ((plan_sound hT hs (fun c a w h => by cases h.1) (fun st' ρ' a' w' h1 h2 h3 => ⟨rfl, hQ st' ρ' a' w' h1 h2 h3⟩) (expand p) false _ _ ρ st a _ hB (closed_none _) h hr1 hx).1 rfl)))
end
end Go.Fw

namespace Go.Fw
set_option linter.unusedSimpArgs false
open Go Go.RowKit

/-- The first k names keep their places. -/
def preB : Nat → Nat → List Nat → Bool
  | 0, _, _ => true
  | _ + 1, _, [] => false
  | k + 1, i, a :: r => Nat.beq a i && preB k (i + 1) r

def stLe (k : Nat) (m : List Nat) (inv cur : St) : Prop := guardT (nodupB m inv.hp && preB k 0 m) (avsLe m inv.sl cur.sl ∧ segsLe m cur.hp m inv.hp)

/-- n slots, of which the first are these; of the rest nothing is said. -/
def anyTo : Nat → List AV → List AV
  | 0, l => l
  | n + 1, [] => .any :: anyTo n []
  | n + 1, a :: l => a :: anyTo n l

def firstRegion : Code → Nat
  | .region id _ _ => id
  | .seq a _ => firstRegion a
  | .block _ b => firstRegion b
  | .loop b => firstRegion b
  | .scope b => firstRegion b
  | _ => 0

/-- What is asked of code, from an abstract state on. J: the loops' relations, Jc: the cuts', by the number of the first region. -/
def codeVC (P : Program) (C : Cfg) (J Jc : Nat → Option LInv) : Code → St → (Exit → St → Prop) → Prop
  | .skip, st, Q => Q .normal st
  | .label _, st, Q => Q .normal st
  | .region id ops _, st, Q => (match C.plan id with | none => vcOps P C id ops.toList ops.toList st (Q .normal) | some p => vcPlanL P C id ops.toList p st (Q .normal))
  | .seq a b, st, Q =>
    (match Jc (firstRegion b) with
     | none => codeVC P C J Jc a st fun e st' => match e with | .normal => codeVC P C J Jc b st' Q | e => Q e st'
     | some I => (codeVC P C J Jc a st fun e st' => match e with | .normal => ∃ m t, stLe C.k m (I.st t) st' ∧ I.pr t | e => Q e st') ∧ ∀ t, I.pr t → forceSt (I.st t) fun st => codeVC P C J Jc b st Q)
  | .cond c x y, st, Q =>
    (match av st c with
     | .bool b => tst b (codeVC P C J Jc x st Q) (codeVC P C J Jc y st Q)
     | _ => False)
  | .block id body, st, Q => codeVC P C J Jc body st fun e st' => match e with | .exit k => (match Nat.beq k id with | true => Q .normal st' | false => Q (.exit k) st') | e => Q e st'
  | .loop body, st, Q =>
    (match J (firstRegion body) with
     | none => (match C.dep (firstRegion body) with
       | none => False
       | some f => (∃ m t, stLe C.k m ((f st).st t) st ∧ (f st).pr t) ∧ ∀ t, (f st).pr t → forceSt ((f st).st t) fun st' => codeVC P C J Jc body st' fun e st' => match e with | .normal => ∃ m t', stLe C.k m ((f st).st t') st' ∧ (f st).pr t' ∧ (f st).μ t' < (f st).μ t | e => Q e st')
     | some I => (∃ m t, stLe C.k m (I.st t) st ∧ I.pr t) ∧ ∀ t, I.pr t → forceSt (I.st t) fun st => codeVC P C J Jc body st fun e st' => match e with | .normal => ∃ m t', stLe C.k m (I.st t') st' ∧ I.pr t' ∧ I.μ t' < I.μ t | e => Q e st')
  | .exit id, st, Q => Q (.exit id) st
  | .ret, st, Q => Q .ret st
  | _, _, _ => False

def codeB (C : Cfg) : Code → Bool
  | .region id ops draw => (match C.plan id with | none => regionB C.q ops draw | some p => planOk C.q ops draw p)
  | .seq a b => codeB C a && codeB C b
  | .cond _ x y => codeB C x && codeB C y
  | .block _ b => codeB C b
  | .loop b => codeB C b
  | _ => true

/-- Code that only looks. -/
def codeQ (C : Cfg) : Code → Bool
  | .region id ops _ => (match C.plan id with | none => noEff C.q ops.toList | some _ => false)
  | .seq a b => codeQ C a && codeQ C b
  | .cond _ x y => codeQ C x && codeQ C y
  | .block _ b => codeQ C b
  | .loop b => codeQ C b
  | _ => true

section
variable {P : Program} {C : Cfg} {w0 : World} {L : Nat → Prop}

theorem preB_spec : ∀ {k i : Nat} {m : List Nat}, preB k i m = true → k ≤ m.length ∧ ∀ j, j < k → m[j]? = some (i + j)
  | 0, i, m, _ => ⟨by simp, by simp⟩
  | k + 1, i, [], h => by simp [preB] at h
  | k + 1, i, a :: r, h => by
    simp only [preB, Bool.and_eq_true] at h
    obtain ⟨h1, h2⟩ := preB_spec h.2
    have e := Nat.eq_of_beq_eq_true h.1
    refine ⟨by simp; omega, fun j hj => ?_⟩
    cases j with
    | zero => simp [e]
    | succ j => simp only [List.getElem?_cons_succ]; rw [h2 j (by omega)]; congr 1; omega

theorem ext_map {ρ0 ρ : Plc} (hx : Ext ρ0 ρ) {m : List Nat} (h : preB ρ0.length 0 m = true) : Ext ρ0 (m.map (pl ρ)) := by
  obtain ⟨r, rfl⟩ := hx
  obtain ⟨h1, h2⟩ := preB_spec h
  refine ⟨(m.drop ρ0.length).map (pl (ρ0 ++ r)), ?_⟩
  apply List.ext_getElem?
  intro i
  rcases Nat.lt_or_ge i ρ0.length with hi | hi
  · rw [List.getElem?_append_left hi, List.getElem?_map, h2 i hi]
    simp [pl, List.getElem?_append_left hi, hi]
  · rw [List.getElem?_append_right hi]
    simp only [List.getElem?_map, List.getElem?_drop]
    rw [show ρ0.length + (i - ρ0.length) = i by omega]

theorem stLe_sound {m : List Nat} {inv cur : St} {ρ0 : Plc} (hk : ρ0.length = C.k) (h : stLe C.k m inv cur) {ρ : Plc} {a : Act} {w : World} (hr : Rep w0 L ρ cur a w) (hx : Ext ρ0 ρ) : Rep w0 L (m.map (pl ρ)) inv a w ∧ Ext ρ0 (m.map (pl ρ)) := by
  unfold stLe at h
  rw [guardT_eq, Bool.and_eq_true] at h
  exact ⟨⟨avsLe_den h.2.1 hr.slots, hr.heap.sub h.2.2 h.1.1, hr.kept, hr.defers⟩, ext_map hx (by rw [hk]; exact h.1.2)⟩

theorem codeVC_sound (hT : TOk P C.T) (hm : P.follows .mixedOrders = true) {J Jc : Nat → Option LInv} {ρ0 : Plc} (hk0 : ρ0.length = C.k) {qq : Bool} : ∀ (c : Code) (st : St) (K : Exit → St → Prop) (Q : Exit → Act → World → Prop) (ρ : Plc) (a : Act) (w : World), codeB C c = true → (qq = true → codeQ C c = true) → codeVC P C J Jc c st K → Rep w0 L ρ st a w → Ext ρ0 ρ → Tr qq w0 w →
    (∀ e st' ρ' a' w', K e st' → Rep w0 L ρ' st' a' w' → Ext ρ0 ρ' → Tr qq w0 w' → Q e a' w') → c.wp P Q a w
  | .skip, st, K, Q, ρ, a, w, _, _, h, hr, hx, htr, hQ => wp_skip (hQ _ _ _ _ _ h hr hx htr)
  | .label l, st, K, Q, ρ, a, w, _, _, h, hr, hx, htr, hQ => wp_label (hQ _ _ _ _ _ h hr hx htr)
  | .region id ops draw, st, K, Q, ρ, a, w, hB, hqc, h, hr, hx, htr, hQ => by
    unfold codeB at hB
    unfold codeVC at h
    unfold codeQ at hqc
    split at h
    · rename_i hp
      rw [hp] at hB hqc
      exact region_sound hT hm hB hqc h hr hx htr fun st' ρ' a' w' hk hr' hx' ht' => hQ _ _ _ _ _ hk hr' hx' ht'
    · rename_i p hp
      rw [hp] at hB hqc
      refine region_plan hT hm hB h hr hx fun st' ρ' a' w' hk hr' hx' => hQ _ _ _ _ _ hk hr' hx' fun hq => ?_
      cases hqc hq
  | .exit id, st, K, Q, ρ, a, w, _, _, h, hr, hx, htr, hQ => wp_exit (hQ _ _ _ _ _ h hr hx htr)
  | .ret, st, K, Q, ρ, a, w, _, _, h, hr, hx, htr, hQ => wp_ret (hQ _ _ _ _ _ h hr hx htr)
  | .goto l, st, K, Q, ρ, a, w, _, _, h, hr, hx, htr, hQ => h.elim
  | .scope c, st, K, Q, ρ, a, w, _, _, h, hr, hx, htr, hQ => h.elim
  | .rangeFunc _ _ _ _, st, K, Q, ρ, a, w, _, _, h, hr, hx, htr, hQ => h.elim
  | .refuse _, st, K, Q, ρ, a, w, _, _, h, hr, hx, htr, hQ => h.elim
  | .seq x y, st, K, Q, ρ, a, w, hB, hqc, h, hr, hx, htr, hQ => by
    simp only [codeB, Bool.and_eq_true] at hB
    have hq1 : qq = true → codeQ C x = true := fun hq => by have := hqc hq; simp only [codeQ, Bool.and_eq_true] at this; exact this.1
    have hq2 : qq = true → codeQ C y = true := fun hq => by have := hqc hq; simp only [codeQ, Bool.and_eq_true] at this; exact this.2
    simp only [codeVC, forceSt_eq] at h
    refine wp_seq ?_
    split at h
    · refine codeVC_sound hT hm hk0 x st _ _ ρ a w hB.1 hq1 h hr hx htr fun e st' ρ' a' w' hk hr' hx' ht' => ?_
      cases e with
      | normal => exact codeVC_sound hT hm hk0 y st' K Q ρ' a' w' hB.2 hq2 hk hr' hx' ht' hQ
      | exit id => exact hQ _ _ _ _ _ hk hr' hx' ht'
      | goto l => exact hQ _ _ _ _ _ hk hr' hx' ht'
      | ret => exact hQ _ _ _ _ _ hk hr' hx' ht'
      | panic ch => exact hQ _ _ _ _ _ hk hr' hx' ht'
      | outgrown => exact hQ _ _ _ _ _ hk hr' hx' ht'
    · rename_i I hI
      obtain ⟨h1, h2⟩ := h
      refine codeVC_sound hT hm hk0 x st _ _ ρ a w hB.1 hq1 h1 hr hx htr fun e st' ρ' a' w' hk hr' hx' ht' => ?_
      cases e with
      | normal =>
        obtain ⟨m, t, hle, hp⟩ := hk
        exact codeVC_sound hT hm hk0 y _ K Q _ a' w' hB.2 hq2 (h2 t hp) (stLe_sound hk0 hle hr' hx').1 (stLe_sound hk0 hle hr' hx').2 ht' hQ
      | exit id => exact hQ _ _ _ _ _ hk hr' hx' ht'
      | goto l => exact hQ _ _ _ _ _ hk hr' hx' ht'
      | ret => exact hQ _ _ _ _ _ hk hr' hx' ht'
      | panic ch => exact hQ _ _ _ _ _ hk hr' hx' ht'
      | outgrown => exact hQ _ _ _ _ _ hk hr' hx' ht'
  | .cond c x y, st, K, Q, ρ, a, w, hB, hqc, h, hr, hx, htr, hQ => by
    simp only [codeB, Bool.and_eq_true] at hB
    have hq1 : qq = true → codeQ C x = true := fun hq => by have := hqc hq; simp only [codeQ, Bool.and_eq_true] at this; exact this.1
    have hq2 : qq = true → codeQ C y = true := fun hq => by have := hqc hq; simp only [codeQ, Bool.and_eq_true] at this; exact this.2
    simp only [codeVC, forceSt_eq] at h
    split at h
    · rename_i b hc
      have hd := av_den hr c
      rw [hc] at hd
      simp only [Den] at hd
      cases b
      · exact wp_cond_false hd (codeVC_sound hT hm hk0 y st K Q ρ a w hB.2 hq2 h hr hx htr hQ)
      · exact wp_cond_true hd (codeVC_sound hT hm hk0 x st K Q ρ a w hB.1 hq1 h hr hx htr hQ)
    · exact h.elim
  | .block id body, st, K, Q, ρ, a, w, hB, hqc, h, hr, hx, htr, hQ => by
    simp only [codeB] at hB
    simp only [codeVC, forceSt_eq] at h
    refine wp_block (codeVC_sound hT hm hk0 body st _ _ ρ a w hB hqc h hr hx htr fun e st' ρ' a' w' hk hr' hx' ht' => ?_)
    cases e with
    | normal => exact hQ _ _ _ _ _ hk hr' hx' ht'
    | exit k =>
      simp only [Exit.inBlock] at hk ⊢
      by_cases hid : k = id
      · subst hid
        have : Nat.beq k k = true := by simp
        rw [this] at hk
        rw [if_pos rfl]
        exact hQ _ _ _ _ _ hk hr' hx' ht'
      · have : Nat.beq k id = false := by
          cases hb : Nat.beq k id with
          | false => rfl
          | true => exact absurd (Nat.eq_of_beq_eq_true hb) hid
        rw [this] at hk
        rw [if_neg hid]
        exact hQ _ _ _ _ _ hk hr' hx' ht'
    | goto l => exact hQ _ _ _ _ _ hk hr' hx' ht'
    | ret => exact hQ _ _ _ _ _ hk hr' hx' ht'
    | panic ch => exact hQ _ _ _ _ _ hk hr' hx' ht'
    | outgrown => exact hQ _ _ _ _ _ hk hr' hx' ht'
  | .loop body, st, K, Q, ρ, a, w, hB, hqc, h, hr, hx, htr, hQ => by
    simp only [codeB] at hB
    simp only [codeVC, forceSt_eq] at h
    have go : ∀ I : LInv, ((∃ m t, stLe C.k m (I.st t) st ∧ I.pr t) ∧ ∀ t, I.pr t → codeVC P C J Jc body (I.st t) fun e st' => match e with | .normal => ∃ m t', stLe C.k m (I.st t') st' ∧ I.pr t' ∧ I.μ t' < I.μ t | e => K e st') → (Code.loop body).wp P Q a w := fun I h => by
      obtain ⟨⟨m, t, hle, hp⟩, hround⟩ := h
      refine wp_loop_ghost (fun n a w => ∃ t ρ, I.pr t ∧ I.μ t = n ∧ Rep w0 L ρ (I.st t) a w ∧ Ext ρ0 ρ ∧ Tr qq w0 w) (I.μ t) ⟨t, _, hp, rfl, (stLe_sound hk0 hle hr hx).1, (stLe_sound hk0 hle hr hx).2, htr⟩ ?_
      rintro n a w ⟨t, ρ, hp, rfl, hr, hx, htr⟩
      refine codeVC_sound hT hm hk0 body _ _ _ ρ a w hB hqc (hround t hp) hr hx htr fun e st' ρ' a' w' hk hr' hx' ht' => ?_
      cases e with
      | normal =>
        obtain ⟨m, t', hle, hp', hlt⟩ := hk
        exact ⟨_, hlt, t', _, hp', rfl, (stLe_sound hk0 hle hr' hx').1, (stLe_sound hk0 hle hr' hx').2, ht'⟩
      | exit id => exact hQ _ _ _ _ _ hk hr' hx' ht'
      | goto l => exact hQ _ _ _ _ _ hk hr' hx' ht'
      | ret => exact hQ _ _ _ _ _ hk hr' hx' ht'
      | panic ch => exact hQ _ _ _ _ _ hk hr' hx' ht'
      | outgrown => exact hQ _ _ _ _ _ hk hr' hx' ht'
    split at h
    · split at h
      · exact h.elim
      · exact go _ h
    · exact go _ h

/-- What a function hands back: its result slots. -/
def resAV (st : St) : List Tmp → AV
  | [t] => slot st.sl t
  | ts => .tup (ts.map (slot st.sl))

theorem res_sound {fn : Func} {ts : List Tmp} (h : fn.results = (ts.map ResultVar.tmp).toArray) {st : St} {ρ : Plc} {a : Act} {w : World} (hr : Rep w0 L ρ st a w) :
    ∃ v, (results fn a.tmps).run P w = .ok v w ∧ Den ρ (resAV st ts) v := by
  have hds : ∀ ts : List Tmp, Dens ρ (ts.map (slot st.sl)) (ts.map fun t => a.tmps.getD t undef) := by
    intro ts
    induction ts with
    | nil => simp [Dens]
    | cons t ts ih => simp only [List.map_cons, Dens]; exact ⟨_, _, rfl, slot_den hr.slots t, ih⟩
  have hmap : ∀ (g : ResultVar → Sem Value), (∀ t, g (.tmp t) = pure (a.tmps.getD t undef)) → ∀ ts : List Tmp, (ts.map ResultVar.tmp).toArray.mapM g = pure (ts.map fun t => a.tmps.getD t undef).toArray := by
    intro g hg ts
    have : ∀ ts : List Tmp, (ts.map ResultVar.tmp).mapM g = pure (ts.map fun t => a.tmps.getD t undef) := by
      intro ts
      induction ts with
      | nil => rfl
      | cons t ts ih => simp only [List.map_cons, List.mapM_cons, hg, ih, pure_bind]
    rw [List.mapM_toArray, this, map_pure]
  unfold results
  rw [h, hmap _ (fun t => rfl)]
  match ts with
  | [] => exact ⟨.tuple #[], by simp, by simp only [resAV, Den]; exact ⟨[], rfl, by simp [Dens]⟩⟩
  | [t] => exact ⟨a.tmps.getD t undef, by simp, slot_den hr.slots t⟩
  | t :: u :: r => exact ⟨.tuple ((t :: u :: r).map fun t => a.tmps.getD t undef).toArray, by simp, by simp only [resAV, Den]; exact ⟨_, rfl, hds (t :: u :: r)⟩⟩

/-- The end of a function: one of its outcomes. -/
def anyOut (k : Nat) : List FOut → AV → List Seg → Prop
  | [], _, _ => False
  | o :: r, x, H => (∃ y m, guardT (nodupB m (o.segs y) && preB k 0 m) (avLe m (o.res y) x ∧ segsLe m H m (o.segs y) ∧ o.pp y)) ∨ anyOut k r x H

theorem anyOut_out {k : Nat} : ∀ {outs : List FOut} {x : AV} {H : List Seg}, anyOut k outs x H → ∃ o ∈ outs, ∃ y m, (nodupB m (o.segs y) = true ∧ preB k 0 m = true) ∧ avLe m (o.res y) x ∧ segsLe m H m (o.segs y) ∧ o.pp y
  | [], _, _, h => h.elim
  | o :: r, x, H, h => by
    rcases h with ⟨y, m, h⟩ | h
    · rw [guardT_eq, Bool.and_eq_true] at h; exact ⟨o, by simp, y, m, h⟩
    · obtain ⟨o', h1, h2⟩ := anyOut_out h
      exact ⟨o', by simp [h1], h2⟩

def fillTo : Nat → List AV → List AV
  | 0, l => l
  | n + 1, [] => .tup [] :: fillTo n []
  | n + 1, a :: l => a :: fillTo n l

theorem fillTo_den {ρ : Plc} : ∀ (n : Nat) (l : List AV) (vs : List Value), Dens ρ l vs → Dens ρ (fillTo n l) (vs ++ List.replicate (n - vs.length) undef)
  | 0, l, vs, h => by simpa [fillTo] using h
  | n + 1, [], vs, h => by
    simp only [Dens] at h; subst h
    have := fillTo_den (ρ := ρ) n [] [] (by simp [Dens])
    simp only [fillTo, Dens]
    exact ⟨undef, List.replicate n undef, by simp [List.replicate_succ], den_undef ρ, by simpa using this⟩
  | n + 1, a :: l, vs, h => by
    simp only [Dens] at h
    obtain ⟨v, r, rfl, h1, h2⟩ := h
    simp only [fillTo, Dens]
    exact ⟨v, r ++ List.replicate (n - r.length) undef, by simp, h1, fillTo_den n l r h2⟩

/-- A FUNCTION, BY ITS BODY. -/
theorem fits_of_body {P : Program} {C : Cfg} (hT : TOk P C.T) (hm : P.follows .mixedOrders = true) {f : FuncId} {fn : Func} {c : Code} {s : FSpec} (J Jc : Nat → Option LInv) {ts : List Tmp}
    (hf : P.funcs[f]? = some fn) (hb : fn.body = some c) (hname : (fn.name == "runtime.NumGoroutine") = false) (hres : fn.results = (ts.map ResultVar.tmp).toArray) (hB : codeB C c = true) (hk : s.heap.length = C.k)
    (h : forceSt ⟨fillTo fn.ntmps s.args, s.heap⟩ fun st => codeVC P C J Jc c st fun e st => match e with | .normal => anyOut C.k s.outs (resAV st ts) st.hp | .ret => anyOut C.k s.outs (resAV st ts) st.hp | _ => False) : Fits P f s := by
  rw [forceSt_eq] at h
  refine ⟨⟨fn, hf, hname, by simp [hb]⟩, fun w0 L ρ vs hh hd => ?_⟩
  refine calls_of_wp hf hb ?_
  have hn := hh.names
  have hr : Rep w0 L ρ ⟨fillTo fn.ntmps s.args, s.heap⟩ { tmps := vs.toArray ++ Array.replicate (fn.ntmps - vs.toArray.size) undef, defers := [] } w0 :=
    ⟨by simpa using fillTo_den fn.ntmps s.args vs hd, hh, Kept.refl _ _, rfl⟩
  refine codeVC_sound hT hm (ρ0 := ρ) (by omega) (qq := false) c _ _ _ ρ _ w0 hB (fun h => by cases h) h hr ⟨[], by simp⟩ (fun h => by cases h) fun e st' ρ' a' w' hk' hr' hx' _ => ?_
  have fin : anyOut C.k s.outs (resAV st' ts) st'.hp → a'.defers = [] ∧ ∃ v, (results fn a'.tmps).run P w' = .ok v w' ∧ ∃ o ∈ s.outs, ∃ y, o.pp y ∧ ∃ v' ρ'', Ending.returned v = .returned v' ∧ Den (ρ ++ ρ'') (o.res y) v' ∧ HeapOk w0.heap.size L (ρ ++ ρ'') (o.segs y) w' ∧ Kept w0 L w' := fun hout => by
    obtain ⟨o, ho, y, m, ⟨g1, g2⟩, g3, g4, g5⟩ := anyOut_out hout
    obtain ⟨v, hv, hdv⟩ := res_sound (P := P) hres hr'
    obtain ⟨r, hr2⟩ := ext_map hx' (m := m) (by rw [show ρ.length = C.k by omega]; exact g2)
    have h1 := avLe_den g3 hdv
    have h2 := hr'.heap.sub g4 g1
    rw [hr2] at h1 h2
    exact ⟨hr'.defers, v, hv, o, ho, y, g5, v, r, rfl, h1, h2, hr'.kept⟩
  cases e with
  | normal => exact fin hk'
  | ret => exact fin hk'
  | exit id => exact hk'.elim
  | goto l => exact hk'.elim
  | panic ch => exact hk'.elim
  | outgrown => exact hk'.elim

/-- A FUNCTION THAT ONLY LOOKS, BY ITS BODY. -/
theorem qfits_of_body {P : Program} {C : Cfg} (hT : TOk P C.T) (hm : P.follows .mixedOrders = true) {f : FuncId} {fn : Func} {c : Code} {s : QSpec} (J Jc : Nat → Option LInv) {ts : List Tmp} {v : Value}
    (hf : P.funcs[f]? = some fn) (hb : fn.body = some c) (hname : (fn.name == "runtime.NumGoroutine") = false) (hres : fn.results = (ts.map ResultVar.tmp).toArray) (hB : codeB C c = true) (hQ : codeQ C c = true) (hk : s.heap.length = C.k) (hg : ground s.res = some v)
    (h : forceSt ⟨fillTo fn.ntmps s.args, s.heap⟩ fun st => codeVC P C J Jc c st fun e st => match e with | .normal => avLe [] s.res (resAV st ts) | .ret => avLe [] s.res (resAV st ts) | _ => False) : QFits P f s := by
  refine ⟨⟨fn, hf, hname, by simp [hb]⟩, v, hg, fun B L w ρ vs hh hd => ?_⟩
  rw [forceSt_eq] at h
  refine calls_of_wp hf hb ?_
  have hn := hh.names
  have hr : Rep w (fun _ => True) ρ ⟨fillTo fn.ntmps s.args, s.heap⟩ { tmps := vs.toArray ++ Array.replicate (fn.ntmps - vs.toArray.size) undef, defers := [] } w :=
    ⟨by simpa using fillTo_den fn.ntmps s.args vs hd, ⟨hh.names, hh.cells, fun _ _ _ _ _ => .inr trivial, hh.apart⟩, Kept.refl _ _, rfl⟩
  refine codeVC_sound hT hm (ρ0 := ρ) (by omega) (qq := true) c _ _ _ ρ _ w hB (fun _ => hQ) h hr ⟨[], by simp⟩ (fun _ => ⟨0, rfl⟩) fun e st' ρ' a' w' hk' hr' hx' ht' => ?_
  have fin : avLe [] s.res (resAV st' ts) → a'.defers = [] ∧ ∃ u, (results fn a'.tmps).run P w' = .ok u w' ∧ (Ending.returned u = .returned v ∧ ∃ n, w' = w.drewN n) := fun hle => by
    obtain ⟨u, hu, hdv⟩ := res_sound (P := P) hres hr'
    have h1 := avLe_den hle hdv
    have := (ground_den hg _).2 u h1
    exact ⟨hr'.defers, u, hu, by rw [this], ht' rfl⟩
  cases e with
  | normal => exact fin hk'
  | ret => exact fin hk'
  | exit id => exact hk'.elim
  | goto l => exact hk'.elim
  | panic ch => exact hk'.elim
  | outgrown => exact hk'.elim
end
end Go.Fw

namespace Go.Fw
open Go Go.RowKit

theorem two_pow_le {k m : Nat} (h : k ≤ m) : (2 : Int) ^ k ≤ 2 ^ m := by
  have := Nat.pow_le_pow_right (show 0 < 2 by decide) h
  exact_mod_cast this
theorem two_pow_pos (k : Nat) : (0 : Int) < 2 ^ k := Int.pow_pos (by decide)

theorem i64max : IntKind.i64.max = 9223372036854775807 := rfl

theorem Kept.below {w w' : World} (h : Kept w (fun _ => False) w') : Below w.heap.size w w' := ⟨h.os, h.tape, h.output, h.size, fun k hk => h.block k hk (fun f => f)⟩

/-- A function that only looks, called. -/
theorem QFits.calls {P : Program} {f : FuncId} {s : QSpec} (h : QFits P f s) {v : Value} (hg : ground s.res = some v) (w : World) (ρ : Plc) (vs : List Value) (hh : HeapOk w.heap.size (fun _ => False) ρ s.heap w) (hd : Dens ρ s.args vs) :
    Calls P f vs.toArray w fun e w' => e = .returned v ∧ Below w.heap.size w w' := by
  obtain ⟨_, u, hu, hc⟩ := h
  rw [hg] at hu; cases hu
  exact (hc _ _ w ρ vs hh hd).mono fun e w' ⟨h1, n, h2⟩ => ⟨h1, by subst h2; exact ⟨rfl, rfl, rfl, Nat.le_refl _, fun _ _ => rfl⟩⟩

/-- A function, called from outside. -/
theorem Fits.calls {P : Program} {f : FuncId} {s : FSpec} (h : Fits P f s) (w : World) (ρ : Plc) (vs : List Value) (hh : HeapOk w.heap.size (fun _ => False) ρ s.heap w) (hd : Dens ρ s.args vs) {x : AV} {v : Value} (hg : ground x = some v)
    (hout : ∀ o ∈ s.outs, ∀ y, o.pp y → o.res y = x) : Calls P f vs.toArray w fun e w' => e = .returned v ∧ Below w.heap.size w w' :=
  (h.2 w _ ρ vs hh hd).mono fun e w' ⟨o, ho, y, hy, u, ρ', he, hu, _, hk⟩ => ⟨by rw [hout o ho y hy] at hu; rw [he, (ground_den hg _).2 u hu], hk.below⟩

theorem heapOk_nil (w : World) (L : Nat → Prop) : HeapOk w.heap.size L [] [] w := ⟨rfl, by simp, by simp, by simp⟩

section
open Go.WideShapes Go.ChangeShapes
variable {H : Type} {enc : TypeId × Value → H} {P : Program}

/-- Arguments that a call has left alone read as they read. -/
theorem args_stay (hl : laidOutB P = true) {W W' : World} (hb : Below W.heap.size W W') {sp : Nat → Bool} : ∀ (ts : List TypeId) (vs : List Value) (ds : List (DataW H)) (ps : List MemPlace),
    ts.all (fun t => P.readableRec t && decide (t < P.types.size)) = true → DataW.TrodAll enc P W 0 (fun _ => true) true ts vs ds ps → (∀ p ∈ ps, p.block < W.heap.size) → (∀ p ∈ ps, sp p.block = true) → DataW.TrodAll enc P W' 0 sp true ts vs ds ps
  | [], vs, ds, ps, _, h, _, _ => by
    obtain ⟨rfl, rfl, rfl⟩ := trodAll_nil h
    exact trodAll_mk0
  | t :: ts, vs, ds, ps, hr, h, hlt, hsp => by
    simp only [List.all_cons, Bool.and_eq_true, decide_eq_true_eq] at hr
    obtain ⟨v, vs', d, ds', p, q, rfl, rfl, rfl, h1, h2⟩ := trodAll_cons h
    refine trodAll_cons_mk ?_ (args_stay hl hb ts vs' ds' q hr.2 h2 (fun x hx => hlt x (by simp [hx])) (fun x hx => hsp x (by simp [hx])))
    exact WideElems.Trod_stays hl hr.1.1 hr.1.2 h1 (fun x hx => hb.same (hlt x (by simp [hx]))) (fun x hx => hsp x (by simp [hx]))

/-- A LAW's END: true; what was handed in reads as it did. -/
theorem law_done (hl : laidOutB P = true) {f : Func} {s : ChangeSpec} {apart fresh handsOn again : Bool} {W W' : World} {args : Array Value} {ds : List (DataW H)} {before : List MemPlace} {t : TypeId}
    (hv : s.vars = []) (hrt : f.resultTypes = #[t]) (ht : P.underlying t = some .bool) (hps : f.params.toList.all (fun t => P.readableRec t && decide (t < P.types.size)) = true)
    (hW : DataW.Whole enc P f.params.toList s.vars apart W args.toList ds [] before) (hs : s.fn H (ds ++ []) = { results := [.lit (.bool true)], args := ds }) (hb : Below W.heap.size W W') :
    s.post enc P f apart fresh handsOn again W args (.bool true) W' := by
  have hW' := hW
  obtain ⟨p, q, hA, hV, rfl, hz, hn⟩ := hW
  rw [hv] at hV
  obtain ⟨_, rfl⟩ := trodVars_none hV
  have hlt : ∀ x ∈ p, x.block < W.heap.size := fun x hx => hW'.lt x (by simp [hx])
  have hvars : ∀ (w : World) (sp : Nat → Bool), DataW.TrodVars enc P w sp s.vars (s.fn H (ds ++ [])).vars [] := fun w sp => by rw [hv, hs]; rfl
  have hvars0 : ∀ (w : World) (sp : Nat → Bool), DataW.TrodVars enc P w sp s.vars ([] : List (DataW H)) [] := fun w sp => by rw [hv]; rfl
  have hres : ∀ (b : Nat) (sp : Nat → Bool) (hd : Bool), DataW.TrodAll enc P W' b sp hd f.resultTypes.toList ((Value.bool true).resultList f.resultTypes.size) (s.fn H (ds ++ [])).results [] := fun b sp hd => by
    rw [hs, hrt]
    exact trodAll_cons_mk (shut_bool ht true) trodAll_mk0
  have hargs0 : ∀ sp : Nat → Bool, (∀ x ∈ p, sp x.block = true) → DataW.TrodAll enc P W' 0 sp true f.params.toList args.toList ds p := fun sp hsp => args_stay hl hb _ _ _ _ hps hA hlt hsp
  have hargs : ∀ sp : Nat → Bool, (∀ x ∈ p, sp x.block = true) → DataW.TrodAll enc P W' 0 sp true f.params.toList args.toList (s.fn H (ds ++ [])).args p := fun sp hsp => by
    rw [hs]; exact hargs0 sp hsp
  refine ⟨ds, [], p ++ [], [], p, [], hW', hres _ _ _, hargs _ (fun x hx => by simpa using hlt x hx), hvars _ _, World.keptBut_mono (fun x hx => ⟨hx, .inr (.inl (by simpa using hx))⟩) (hb.frame (· ∈ p ++ [])), fun _ => ⟨?_, (s.fn H (ds ++ [])).results ++ ds, [], p, ⟨p, [], ?_, hvars0 _ _, by simp, ?_, ?_⟩, ?_⟩⟩
  · intro j t' r hj hr
    rw [hrt] at hj hr
    cases j with
    | zero =>
      simp at hj hr
      subst hj
      have e : r = .bool true := by simpa [Value.resultList] using hr.symm
      subst e
      exact okWide_bool_mk ht _
    | succ j => simp at hj
  · exact trodAll_append (hargs0 _ (fun _ _ => rfl)) (hres 0 (fun _ => true) true)
  · intro b off hx
    rw [hb.frozen (hlt _ hx)]
    exact hz b off (by simpa using hx)
  · intro ha
    have := hn ha
    simpa using this
  · intro x hx _
    simpa using hx
end
end Go.Fw
