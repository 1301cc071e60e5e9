/-
  The same run, written so that the kernel works it out fast: what it says the run says. No condition: each theorem states its own.
-/
import Derived.Test.YtmchfbjbcioccaaGw
set_option linter.unusedSimpArgs false
set_option linter.unusedVariables false
namespace Go.Fw
open Go Go.RowKit

/- VALUES FOR THE KERNEL: a number that tells what it is, a number, the rest; and rows of such. -/
structure RW where
  b : Nat
  c : Nat
  d : Nat
  o : CV
structure W where
  t : Nat
  a : Nat
  r : RW
  l : List W
def r0 : RW := ⟨0, 0, 0, .any⟩
def wAny : W := ⟨12, 0, r0, []⟩
def ikN : Nat → IntKind
  | 0 => .i8 | 1 => .i16 | 2 => .i32 | 3 => .i64 | 4 => .u8 | 5 => .u16 | 6 => .u32 | _ => .u64
def decI (t a : Nat) (r : RW) (cs : List CV) : CV :=
  match Nat.blt t 8 with
  | true => .int (ikN t) (.ofNat a)
  | false => match t with
    | 8 => .bool (match a with | 0 => false | _ + 1 => true)
    | 9 => .ptr a r.b
    | 10 => .slice a r.b r.c r.d
    | 11 => .tail a r.b r.c r.d
    | 13 => .tup cs
    | 14 => .fn a cs
    | 15 => .agg cs
    | 16 => .fnb a cs
    | _ => r.o
mutual
def dec : W → CV
  | ⟨t, a, r, l⟩ => decI t a r (decL l)
def decL : List W → List CV
  | [] => []
  | x :: l => dec x :: decL l
end
theorem decL_map : ∀ l : List W, decL l = l.map dec
  | [] => by rw [decL]; rfl
  | x :: l => by rw [decL, decL_map l]; rfl
theorem dec_mk (t a : Nat) (r : RW) (l : List W) : dec ⟨t, a, r, l⟩ = decI t a r (l.map dec) := by rw [dec, decL_map]
theorem dec_eq (x : W) : dec x = decI x.t x.a x.r (x.l.map dec) := by obtain ⟨t, a, r, l⟩ := x; exact dec_mk t a r l
theorem decI_int {t : Nat} (h : Nat.blt t 8 = true) (a : Nat) (r : RW) (cs : List CV) : decI t a r cs = .int (ikN t) (.ofNat a) := by simp only [decI, h]
theorem dec_int {x : W} {k : Nat} (hk : Nat.blt k 8 = true) (hx : x.t = k) : dec x = .int (ikN k) (.ofNat x.a) := by rw [dec_eq, hx, decI_int hk]
theorem dec_bool {x : W} (hx : x.t = 8) : dec x = .bool (!Nat.beq x.a 0) := by rw [dec_eq, hx]; cases x.a <;> rfl
theorem dec_ptr {x : W} (hx : x.t = 9) : dec x = .ptr x.a x.r.b := by rw [dec_eq, hx]; rfl
theorem dec_slice {x : W} (hx : x.t = 10) : dec x = .slice x.a x.r.b x.r.c x.r.d := by rw [dec_eq, hx]; rfl
theorem dec_tail {x : W} (hx : x.t = 11) : dec x = .tail x.a x.r.b x.r.c x.r.d := by rw [dec_eq, hx]; rfl
theorem dec_tup {x : W} (hx : x.t = 13) : dec x = .tup (x.l.map dec) := by rw [dec_eq, hx]; rfl
theorem dec_fn {x : W} (hx : x.t = 14) : dec x = .fn x.a (x.l.map dec) := by rw [dec_eq, hx]; rfl
theorem dec_fnb {x : W} (hx : x.t = 16) : dec x = .fnb x.a (x.l.map dec) := by rw [dec_eq, hx]; rfl
theorem dec_agg {x : W} (hx : x.t = 15) : dec x = .agg (x.l.map dec) := by rw [dec_eq, hx]; rfl
theorem dec_oth {x : W} (hx : x.t = 12) : dec x = x.r.o := by rw [dec_eq, hx]; rfl
def kc (k : IntKind) : Nat := match k with | .i8 => 0 | .i16 => 1 | .i32 => 2 | .i64 => 3 | .u8 => 4 | .u16 => 5 | .u32 => 6 | .u64 => 7
theorem ikN_kc (k : IntKind) : ikN (kc k) = k := by cases k <;> rfl
theorem kc_lt (k : IntKind) : Nat.blt (kc k) 8 = true := by cases k <;> rfl
def encS (c : CV) : W :=
  match c with
  | .int k (.ofNat a) => ⟨kc k, a, r0, []⟩
  | .bool b => (match b with | true => ⟨8, 1, r0, []⟩ | false => ⟨8, 0, r0, []⟩)
  | .ptr n o => ⟨9, n, ⟨o, 0, 0, .any⟩, []⟩
  | .slice n o l c => ⟨10, n, ⟨o, l, c, .any⟩, []⟩
  | .tail n o l s => ⟨11, n, ⟨o, l, s, .any⟩, []⟩
  | c => ⟨12, 0, ⟨0, 0, 0, c⟩, []⟩
def enc1 (c : CV) : W :=
  match c with
  | .agg cs => ⟨15, 0, r0, cs.map encS⟩
  | .tup cs => ⟨13, 0, r0, cs.map encS⟩
  | .fn f cs => ⟨14, f, r0, cs.map encS⟩
  | .fnb f cs => ⟨16, f, r0, cs.map encS⟩
  | c => encS c
def enc (c : CV) : W :=
  match c with
  | .agg cs => ⟨15, 0, r0, cs.map encS⟩
  | .tup cs => ⟨13, 0, r0, cs.map enc1⟩
  | .fn f cs => ⟨14, f, r0, cs.map encS⟩
  | .fnb f cs => ⟨16, f, r0, cs.map encS⟩
  | c => encS c
theorem dec_encS (c : CV) : dec (encS c) = c := by
  cases c <;> try rfl
  case int k n =>
    cases n with
    | ofNat a => cases k <;> rfl
    | negSucc a => rfl
  case bool b => cases b <;> rfl
theorem map_encS (l : List CV) : (l.map encS).map dec = l := by
  rw [List.map_map]
  conv => rhs; rw [← List.map_id l]
  exact List.map_congr_left fun x _ => dec_encS x
theorem dec_enc1 (c : CV) : dec (enc1 c) = c := by
  cases c
  case agg cs => simp only [enc1, dec_mk, map_encS]; rfl
  case tup cs => simp only [enc1, dec_mk, map_encS]; rfl
  case fn f cs => simp only [enc1, dec_mk, map_encS]; rfl
  case fnb f cs => simp only [enc1, dec_mk, map_encS]; rfl
  all_goals simp only [enc1, dec_encS]
theorem dec_enc (c : CV) : dec (enc c) = c := by
  cases c
  case agg cs => simp only [enc, dec_mk, map_encS]; rfl
  case fn f cs => simp only [enc, dec_mk, map_encS]; rfl
  case fnb f cs => simp only [enc, dec_mk, map_encS]; rfl
  case tup cs =>
    have : (cs.map enc1).map dec = cs := by
      rw [List.map_map]
      conv => rhs; rw [← List.map_id cs]
      exact List.map_congr_left fun x _ => dec_enc1 x
    simp only [enc, dec_mk, this]; rfl
  all_goals simp only [enc, dec_encS]
/-- A constant. -/
def encC (v : Value) : W := enc (cvC v)
theorem dec_encC (v : Value) : dec (encC v) = cvC v := dec_enc _

/- Rows. -/
def Trie.map {α β : Type} (f : α → β) : Trie α → Trie β
  | .nil => .nil
  | .node v l r => .node (v.map f) (map f l) (map f r)
theorem Trie.map_get {α β : Type} (f : α → β) : ∀ (t : Trie α) (i : Nat), (t.map f).get i = (t.get i).map f
  | .nil, _ => rfl
  | .node v l r, 0 => rfl
  | .node v l r, i + 1 => by
    simp only [Trie.map, Trie.get]
    split
    · exact Trie.map_get f l _
    · exact Trie.map_get f r _
theorem Trie.map_single {α β : Type} (f : α → β) (x : α) : ∀ (k i : Nat), (Trie.single x k i).map f = Trie.single (f x) k i
  | 0, _ => rfl
  | k + 1, 0 => rfl
  | k + 1, i + 1 => by
    simp only [Trie.single]
    split
    · simp only [Trie.map, Trie.map_single f x k, Option.map_none]
    · simp only [Trie.map, Trie.map_single f x k, Option.map_none]
theorem Trie.map_set {α β : Type} (f : α → β) (x : α) : ∀ (t : Trie α) (i : Nat), (Trie.set x t i).map f = Trie.set (f x) (t.map f) i
  | .nil, i => Trie.map_single f x i i
  | .node v l r, 0 => rfl
  | .node v l r, i + 1 => by
    simp only [Trie.set, Trie.map, Trie.force_eq]
    split
    · simp only [Trie.map, Trie.map_set f x l]
    · simp only [Trie.map, Trie.map_set f x r]

structure SR where
  t : Trie W
  d : List W
  op : Bool
  kd : Kind
/-- A row: of what kind, how many. -/
structure SW where
  k : Nat
  n : Nat
  s : SR
def kdec (k : Nat) (kd : Kind) : Kind :=
  match Nat.blt k 8 with
  | true => .ints (ikN k)
  | false => match k with
    | 8 => .bools
    | 9 => .avs
    | _ => kd
def decS (s : SW) : CSeg := .seg (kdec s.k s.s.kd) (s.s.t.map dec) (s.s.d.map dec) s.n s.s.op
inductive HW where
  | nil
  | cons (n : Nat) (s : SW) (r : HW)
  | obj (n : Nat) (o : CO) (r : HW)
def decH : HW → AL CSeg
  | .nil => []
  | .cons n s r => (n, decS s) :: decH r
  | .obj n o r => (n, .obj o) :: decH r

theorem dflt_map (d : List W) (j : Nat) : dflt (d.map dec) j = match d with | [x] => dec x | d => nthC (d.map dec) (Nat.mod j d.length) := by
  match d with
  | [] => rfl
  | [x] => rfl
  | x :: y :: r => simp only [List.map_cons, dflt, List.length_cons, List.length_map]

noncomputable def getW (hp : HW) (n : Nat) (K : SW → Bool) : Bool :=
  @HW.rec (fun _ => Bool) false (fun m s _ ih => @Bool.rec (fun _ => Bool) ih (K s) (Nat.beq m n)) (fun m _ _ ih => @Bool.rec (fun _ => Bool) ih false (Nat.beq m n)) hp
theorem getW_out {n : Nat} {K : SW → Bool} : ∀ {hp : HW}, getW hp n K = true → ∃ s, (decH hp).get n = some (decS s) ∧ K s = true
  | .nil, h => by cases h
  | .cons m s r, h => by
    have h : @Bool.rec (fun _ => Bool) (getW r n K) (K s) (Nat.beq m n) = true := h
    cases hb : Nat.beq m n with
    | true => rw [hb] at h; exact ⟨s, by simp only [decH, AL.get, hb], h⟩
    | false =>
      rw [hb] at h
      obtain ⟨s', h1, h2⟩ := getW_out (hp := r) h
      exact ⟨s', by simp only [decH, AL.get, hb, h1], h2⟩
  | .obj m o r, h => by
    have h : @Bool.rec (fun _ => Bool) (getW r n K) false (Nat.beq m n) = true := h
    cases hb : Nat.beq m n with
    | true => rw [hb] at h; cases h
    | false =>
      rw [hb] at h
      obtain ⟨s', h1, h2⟩ := getW_out (hp := r) h
      exact ⟨s', by simp only [decH, AL.get, hb, h1], h2⟩
noncomputable def getO (hp : HW) (n : Nat) (K : CO → Bool) : Bool :=
  @HW.rec (fun _ => Bool) false (fun m _ _ ih => @Bool.rec (fun _ => Bool) ih false (Nat.beq m n)) (fun m o _ ih => @Bool.rec (fun _ => Bool) ih (K o) (Nat.beq m n)) hp
theorem getO_out {n : Nat} {K : CO → Bool} : ∀ {hp : HW}, getO hp n K = true → ∃ o, (decH hp).get n = some (.obj o) ∧ K o = true
  | .nil, h => by cases h
  | .obj m s r, h => by
    have h : @Bool.rec (fun _ => Bool) (getO r n K) (K s) (Nat.beq m n) = true := h
    cases hb : Nat.beq m n with
    | true => rw [hb] at h; exact ⟨s, by simp only [decH, AL.get, hb], h⟩
    | false =>
      rw [hb] at h
      obtain ⟨s', h1, h2⟩ := getO_out (hp := r) h
      exact ⟨s', by simp only [decH, AL.get, hb, h1], h2⟩
  | .cons m o r, h => by
    have h : @Bool.rec (fun _ => Bool) (getO r n K) false (Nat.beq m n) = true := h
    cases hb : Nat.beq m n with
    | true => rw [hb] at h; cases h
    | false =>
      rw [hb] at h
      obtain ⟨s', h1, h2⟩ := getO_out (hp := r) h
      exact ⟨s', by simp only [decH, AL.get, hb, h1], h2⟩
noncomputable def revH (acc : HW) : HW → HW := @HW.rec (fun _ => HW → HW) (fun r => r) (fun m s _ ih r => ih (.cons m s r)) (fun m o _ ih r => ih (.obj m o r)) acc
theorem revH_dec : ∀ (acc r : HW), decH (revH acc r) = (decH acc).reverse ++ decH r
  | .nil, r => by simp [revH, decH]
  | .cons m s a, r => by
    have : revH (.cons m s a) r = revH a (.cons m s r) := rfl
    rw [this, revH_dec a]
    simp [decH]
  | .obj m s a, r => by
    have : revH (.obj m s a) r = revH a (.obj m s r) := rfl
    rw [this, revH_dec a]
    simp [decH]
noncomputable def revK (acc r : HW) (K : HW → Bool) : Bool := @HW.rec (fun _ => HW → Bool) K (fun m s _ ih r => ih (.cons m s r)) (fun m o _ ih r => ih (.obj m o r)) acc r
theorem revK_eq (K : HW → Bool) : ∀ (acc r : HW), revK acc r K = K (revH acc r)
  | .nil, r => rfl
  | .cons m s a, r => revK_eq K a (.cons m s r)
  | .obj m s a, r => revK_eq K a (.obj m s r)
noncomputable def modW (hp : HW) (n : Nat) (f : SW → (SW → Bool) → Bool) (K : HW → Bool) : Bool :=
  @HW.rec (fun _ => HW → Bool) (fun _ => false) (fun m s r ih acc => @Bool.rec (fun _ => Bool) (ih (.cons m s acc)) (f s fun s' => revK acc r fun r => K (.cons n s' r)) (Nat.beq m n))
    (fun m o _ ih acc => @Bool.rec (fun _ => Bool) (ih (.obj m o acc)) false (Nat.beq m n)) hp .nil
noncomputable def modO (hp : HW) (n : Nat) (g : CO → (CO → Bool) → Bool) (K : HW → Bool) : Bool :=
  @HW.rec (fun _ => HW → Bool) (fun _ => false) (fun m s _ ih acc => @Bool.rec (fun _ => Bool) (ih (.cons m s acc)) false (Nat.beq m n))
    (fun m o r ih acc => @Bool.rec (fun _ => Bool) (ih (.obj m o acc)) (g o fun o' => revK acc r fun r => K (.obj n o' r)) (Nat.beq m n)) hp .nil
theorem modW_go {n : Nat} {f : SW → (SW → Bool) → Bool} {K : HW → Bool} : ∀ (hp acc : HW), (∀ q ∈ decH acc, q.1 ≠ n) →
    @HW.rec (fun _ => HW → Bool) (fun _ => false) (fun m s r ih acc => @Bool.rec (fun _ => Bool) (ih (.cons m s acc)) (f s fun s' => revK acc r fun r => K (.cons n s' r)) (Nat.beq m n))
      (fun m o _ ih acc => @Bool.rec (fun _ => Bool) (ih (.obj m o acc)) false (Nat.beq m n)) hp acc = true →
    ∃ (s : SW) (g : SW → HW), (decH hp).get n = some (decS s) ∧ f s (fun s' => K (g s')) = true ∧ ∀ s', decH (g s') = (n, decS s') :: ((decH acc).reverse ++ AL.erase (decH hp) n)
  | .nil, acc, _, h => by cases h
  | .cons m s r, acc, ha, h => by
    have h : @Bool.rec (fun _ => Bool) _ (f s fun s' => revK acc r fun r => K (.cons n s' r)) (Nat.beq m n) = true := h
    cases hb : Nat.beq m n with
    | true =>
      rw [hb] at h
      simp only [revK_eq] at h
      exact ⟨s, fun s' => .cons n s' (revH acc r), by simp only [decH, AL.get, hb], h, fun s' => by simp only [decH, revH_dec, AL.erase, hb]⟩
    | false =>
      rw [hb] at h
      obtain ⟨s', g, h1, h2, h3⟩ := modW_go r (.cons m s acc) (fun q hq => by
        simp only [decH, List.mem_cons] at hq
        rcases hq with rfl | hq
        · exact AL.beq_ne hb
        · exact ha q hq) h
      exact ⟨s', g, by simp only [decH, AL.get, hb, h1], h2, fun s' => by rw [h3]; simp only [decH, AL.erase, hb, List.reverse_cons]; simp⟩
  | .obj m s r, acc, ha, h => by
    have h : @Bool.rec (fun _ => Bool) _ false (Nat.beq m n) = true := h
    cases hb : Nat.beq m n with
    | true => rw [hb] at h; cases h
    | false =>
      rw [hb] at h
      obtain ⟨s', g, h1, h2, h3⟩ := modW_go r (.obj m s acc) (fun q hq => by
        simp only [decH, List.mem_cons] at hq
        rcases hq with rfl | hq
        · exact AL.beq_ne hb
        · exact ha q hq) h
      exact ⟨s', g, by simp only [decH, AL.get, hb, h1], h2, fun s' => by rw [h3]; simp only [decH, AL.erase, hb, List.reverse_cons]; simp⟩
theorem modW_out {hp : HW} {n : Nat} {f : SW → (SW → Bool) → Bool} {K : HW → Bool} (h : modW hp n f K = true) : ∃ (s : SW) (g : SW → HW), (decH hp).get n = some (decS s) ∧ f s (fun s' => K (g s')) = true ∧ ∀ s', decH (g s') = AL.set (decS s') (decH hp) n := by
  obtain ⟨s, g, h1, h2, h3⟩ := modW_go hp .nil (by simp [decH]) h
  exact ⟨s, g, h1, h2, fun s' => by rw [h3]; simp [decH, AL.set]⟩
theorem modO_go {n : Nat} {f : CO → (CO → Bool) → Bool} {K : HW → Bool} : ∀ (hp acc : HW), (∀ q ∈ decH acc, q.1 ≠ n) →
    @HW.rec (fun _ => HW → Bool) (fun _ => false) (fun m s _ ih acc => @Bool.rec (fun _ => Bool) (ih (.cons m s acc)) false (Nat.beq m n))
      (fun m o r ih acc => @Bool.rec (fun _ => Bool) (ih (.obj m o acc)) (f o fun o' => revK acc r fun r => K (.obj n o' r)) (Nat.beq m n)) hp acc = true →
    ∃ (s : CO) (g : CO → HW), (decH hp).get n = some (.obj s) ∧ f s (fun s' => K (g s')) = true ∧ ∀ s', decH (g s') = (n, .obj s') :: ((decH acc).reverse ++ AL.erase (decH hp) n)
  | .nil, acc, _, h => by cases h
  | .obj m s r, acc, ha, h => by
    have h : @Bool.rec (fun _ => Bool) _ (f s fun s' => revK acc r fun r => K (.obj n s' r)) (Nat.beq m n) = true := h
    cases hb : Nat.beq m n with
    | true =>
      rw [hb] at h
      simp only [revK_eq] at h
      exact ⟨s, fun s' => .obj n s' (revH acc r), by simp only [decH, AL.get, hb], h, fun s' => by simp only [decH, revH_dec, AL.erase, hb]⟩
    | false =>
      rw [hb] at h
      obtain ⟨s', g, h1, h2, h3⟩ := modO_go r (.obj m s acc) (fun q hq => by
        simp only [decH, List.mem_cons] at hq
        rcases hq with rfl | hq
        · exact AL.beq_ne hb
        · exact ha q hq) h
      exact ⟨s', g, by simp only [decH, AL.get, hb, h1], h2, fun s' => by rw [h3]; simp only [decH, AL.erase, hb, List.reverse_cons]; simp⟩
  | .cons m s r, acc, ha, h => by
    have h : @Bool.rec (fun _ => Bool) _ false (Nat.beq m n) = true := h
    cases hb : Nat.beq m n with
    | true => rw [hb] at h; cases h
    | false =>
      rw [hb] at h
      obtain ⟨s', g, h1, h2, h3⟩ := modO_go r (.cons m s acc) (fun q hq => by
        simp only [decH, List.mem_cons] at hq
        rcases hq with rfl | hq
        · exact AL.beq_ne hb
        · exact ha q hq) h
      exact ⟨s', g, by simp only [decH, AL.get, hb, h1], h2, fun s' => by rw [h3]; simp only [decH, AL.erase, hb, List.reverse_cons]; simp⟩
theorem modO_out {hp : HW} {n : Nat} {f : CO → (CO → Bool) → Bool} {K : HW → Bool} (h : modO hp n f K = true) : ∃ (s : CO) (g : CO → HW), (decH hp).get n = some (.obj s) ∧ f s (fun s' => K (g s')) = true ∧ ∀ s', decH (g s') = AL.set (.obj s') (decH hp) n := by
  obtain ⟨s, g, h1, h2, h3⟩ := modO_go hp .nil (by simp [decH]) h
  exact ⟨s, g, h1, h2, fun s' => by rw [h3]; simp [decH, AL.set]⟩
noncomputable def delW (hp : HW) (n : Nat) (K : HW → Bool) : Bool :=
  @HW.rec (fun _ => HW → Bool) (fun _ => K hp) (fun m s r ih acc => @Bool.rec (fun _ => Bool) (ih (.cons m s acc)) (revK acc r K) (Nat.beq m n)) (fun m o r ih acc => @Bool.rec (fun _ => Bool) (ih (.obj m o acc)) (revK acc r K) (Nat.beq m n)) hp .nil
theorem erase_absent {n : Nat} : ∀ {l : AL CSeg}, (∀ q ∈ l, q.1 ≠ n) → l.erase n = l
  | [], _ => rfl
  | p :: r, h => by
    have hp := h p (by simp)
    have : Nat.beq p.1 n = false := by rw [Bool.eq_false_iff]; intro h2; exact hp (Nat.eq_of_beq_eq_true h2)
    simp only [AL.erase, this]
    rw [erase_absent fun q hq => h q (by simp [hq])]
theorem erase_mid {m n : Nat} {x : CSeg} (hb : Nat.beq m n = true) (b : AL CSeg) : ∀ (a : AL CSeg), (∀ q ∈ a, q.1 ≠ n) → AL.erase (a ++ (m, x) :: b) n = a ++ b
  | [], _ => by simp only [List.nil_append, AL.erase, hb]
  | q :: a, hq => by
    have hq1 := hq q (by simp)
    have : Nat.beq q.1 n = false := by rw [Bool.eq_false_iff]; intro h2; exact hq1 (Nat.eq_of_beq_eq_true h2)
    simp only [List.cons_append, AL.erase, this]
    rw [erase_mid hb b a fun q hq' => hq q (by simp [hq'])]
theorem delW_go {n : Nat} {K : HW → Bool} {h0 : HW} : ∀ (hp acc : HW), (∀ q ∈ decH acc, q.1 ≠ n) → decH h0 = (decH acc).reverse ++ decH hp →
    @HW.rec (fun _ => HW → Bool) (fun _ => K h0) (fun m s r ih acc => @Bool.rec (fun _ => Bool) (ih (.cons m s acc)) (revK acc r K) (Nat.beq m n)) (fun m o r ih acc => @Bool.rec (fun _ => Bool) (ih (.obj m o acc)) (revK acc r K) (Nat.beq m n)) hp acc = true → ∃ hp', decH hp' = AL.erase (decH h0) n ∧ K hp' = true
  | .nil, acc, ha, e, h => ⟨h0, by
      rw [erase_absent]
      intro q hq
      rw [e] at hq
      simp only [decH, List.append_nil, List.mem_reverse] at hq
      exact ha q hq, h⟩
  | .cons m s r, acc, ha, e, h => by
    have h : @Bool.rec (fun _ => Bool) _ (revK acc r K) (Nat.beq m n) = true := h
    cases hb : Nat.beq m n with
    | true =>
      rw [hb] at h
      have h := (revK_eq K acc r).symm.trans h
      refine ⟨_, ?_, h⟩
      rw [revH_dec, e]
      simp only [decH]
      rw [erase_mid hb _ _ (by simpa using ha)]
    | false =>
      rw [hb] at h
      exact delW_go r (.cons m s acc) (fun q hq => by
        simp only [decH, List.mem_cons] at hq
        rcases hq with rfl | hq
        · exact AL.beq_ne hb
        · exact ha q hq) (by rw [e]; simp [decH]) h
  | .obj m s r, acc, ha, e, h => by
    have h : @Bool.rec (fun _ => Bool) _ (revK acc r K) (Nat.beq m n) = true := h
    cases hb : Nat.beq m n with
    | true =>
      rw [hb] at h
      have h := (revK_eq K acc r).symm.trans h
      refine ⟨_, ?_, h⟩
      rw [revH_dec, e]
      simp only [decH]
      rw [erase_mid hb _ _ (by simpa using ha)]
    | false =>
      rw [hb] at h
      exact delW_go r (.obj m s acc) (fun q hq => by
        simp only [decH, List.mem_cons] at hq
        rcases hq with rfl | hq
        · exact AL.beq_ne hb
        · exact ha q hq) (by rw [e]; simp [decH]) h
theorem delW_out {hp : HW} {n : Nat} {K : HW → Bool} (h : delW hp n K = true) : ∃ hp', decH hp' = AL.erase (decH hp) n ∧ K hp' = true := delW_go hp .nil (by simp [decH]) (by simp [decH]) h
end Go.Fw

namespace Go.Fw
open Go Go.RowKit

theorem recB {A B c : Bool} (h : @Bool.rec (fun _ => Bool) A B c = true) : (c = true ∧ B = true) ∨ (c = false ∧ A = true) := by
  cases c with
  | true => exact .inl ⟨rfl, h⟩
  | false => exact .inr ⟨rfl, h⟩

/- From values of the run. -/
noncomputable def encK (z : CV) (K : W → Bool) : Bool :=
  @CV.casesOn (fun _ => Bool) z (K ⟨12, 0, ⟨0, 0, 0, z⟩, []⟩) (fun b => @Bool.rec (fun _ => Bool) (K ⟨8, 0, r0, []⟩) (K ⟨8, 1, r0, []⟩) b)
    (fun k n => @Int.rec (fun _ => Bool) (fun a => @IntKind.rec (fun _ => Bool) (K ⟨0, a, r0, []⟩) (K ⟨1, a, r0, []⟩) (K ⟨2, a, r0, []⟩) (K ⟨3, a, r0, []⟩) (K ⟨4, a, r0, []⟩) (K ⟨5, a, r0, []⟩) (K ⟨6, a, r0, []⟩) (K ⟨7, a, r0, []⟩) k) (fun _ => K ⟨12, 0, ⟨0, 0, 0, z⟩, []⟩) n)
    (fun _ _ => K ⟨12, 0, ⟨0, 0, 0, z⟩, []⟩) (fun _ _ _ => K ⟨12, 0, ⟨0, 0, 0, z⟩, []⟩) (fun _ => K ⟨12, 0, ⟨0, 0, 0, z⟩, []⟩) (K ⟨12, 0, ⟨0, 0, 0, z⟩, []⟩) (K ⟨12, 0, ⟨0, 0, 0, z⟩, []⟩) (K ⟨12, 0, ⟨0, 0, 0, z⟩, []⟩) (K ⟨12, 0, ⟨0, 0, 0, z⟩, []⟩)
    (fun n o l c => K ⟨10, n, ⟨o, l, c, .any⟩, []⟩) (fun n o l s => K ⟨11, n, ⟨o, l, s, .any⟩, []⟩) (fun n o => K ⟨9, n, ⟨o, 0, 0, .any⟩, []⟩) (fun _ => K ⟨12, 0, ⟨0, 0, 0, z⟩, []⟩) (fun _ => K (enc z)) (fun _ => K (enc z)) (fun _ _ => K (enc z)) (fun _ _ => K (enc z))
theorem encK_out {z : CV} {K : W → Bool} (h : encK z K = true) : ∃ w, dec w = z ∧ K w = true := by
  cases z with
  | bool b => cases b <;> exact ⟨_, rfl, h⟩
  | int k n => cases n with
    | ofNat a => cases k <;> exact ⟨_, rfl, h⟩
    | negSucc a => exact ⟨_, rfl, h⟩
  | agg cs => exact ⟨_, dec_enc _, h⟩
  | tup cs => exact ⟨_, dec_enc _, h⟩
  | fn f cs => exact ⟨_, dec_enc _, h⟩
  | fnb f cs => exact ⟨_, dec_enc _, h⟩
  | _ => exact ⟨_, rfl, h⟩
/-- Whatever it is, worked out by the run's own functions. -/
noncomputable def genW (r : Option CV) (K : W → Bool) : Bool := match r with | some z => forceV z fun z => encK z K | none => false
theorem genW_out {r : Option CV} {K : W → Bool} (h : genW r K = true) : ∃ w, r = some (dec w) ∧ K w = true := by
  unfold genW at h
  split at h
  · rw [forceV_eq] at h
    obtain ⟨w, h1, h2⟩ := encK_out h
    exact ⟨w, by rw [h1], h2⟩
  · cases h

noncomputable def int2 (k0 : Nat) (x y : W) (E : Bool) (K : Nat → Nat → Bool) : Bool :=
  @Bool.rec (fun _ => Bool) E (@Bool.rec (fun _ => Bool) E (K x.a y.a) (Nat.beq y.t k0)) (Nat.beq x.t k0)
theorem int2_out {k0 : Nat} {x y : W} {E : Bool} {K : Nat → Nat → Bool} (h : int2 k0 x y E K = true) : (x.t = k0 ∧ y.t = k0 ∧ K x.a y.a = true) ∨ E = true := by
  rcases recB h with ⟨h1, h⟩ | ⟨_, h⟩
  · rcases recB h with ⟨h2, h⟩ | ⟨_, h⟩
    · exact .inl ⟨Nat.eq_of_beq_eq_true h1, Nat.eq_of_beq_eq_true h2, h⟩
    · exact .inr h
  · exact .inr h
noncomputable def outW (k n : Nat) (K : W → Bool) : Bool := @Nat.rec (fun _ => Bool) (K ⟨k, 0, r0, []⟩) (fun m _ => K ⟨k, Nat.succ m, r0, []⟩) n
theorem outW_eq (k n : Nat) (K : W → Bool) : outW k n K = K ⟨k, n, r0, []⟩ := by cases n <;> rfl
noncomputable def tfW (b : Bool) (K : W → Bool) : Bool := @Bool.rec (fun _ => Bool) (K ⟨8, 0, r0, []⟩) (K ⟨8, 1, r0, []⟩) b
theorem tfW_out {b : Bool} {K : W → Bool} (h : tfW b K = true) : ∃ w, dec w = .bool b ∧ K w = true := by cases b <;> exact ⟨_, rfl, h⟩

noncomputable def addW (k0 mx : Nat) (r : Option CV) (x y : W) (K : W → Bool) : Bool := int2 k0 x y (genW r K) fun a b => @Bool.rec (fun _ => Bool) (genW r K) (outW k0 (Nat.add a b) K) (Nat.ble (Nat.add a b) mx)
noncomputable def subW (k0 mx : Nat) (r : Option CV) (x y : W) (K : W → Bool) : Bool := int2 k0 x y (genW r K) fun a b => @Bool.rec (fun _ => Bool) (genW r K) (@Bool.rec (fun _ => Bool) (genW r K) (outW k0 (Nat.sub a b) K) (Nat.ble (Nat.sub a b) mx)) (Nat.ble b a)
noncomputable def mulW (k0 mx : Nat) (r : Option CV) (x y : W) (K : W → Bool) : Bool := int2 k0 x y (genW r K) fun a b => @Bool.rec (fun _ => Bool) (genW r K) (outW k0 (Nat.mul a b) K) (Nat.ble (Nat.mul a b) mx)
noncomputable def quoW (k0 mx : Nat) (r : Option CV) (x y : W) (K : W → Bool) : Bool := int2 k0 x y (genW r K) fun a b => @Bool.rec (fun _ => Bool) (@Bool.rec (fun _ => Bool) (genW r K) (outW k0 (Nat.div a b) K) (Nat.ble (Nat.div a b) mx)) false (Nat.beq b 0)
noncomputable def remW (k0 mx : Nat) (r : Option CV) (x y : W) (K : W → Bool) : Bool := int2 k0 x y (genW r K) fun a b => @Bool.rec (fun _ => Bool) (outW k0 (Nat.mod a b) K) false (Nat.beq b 0)
noncomputable def bitW (f : Nat → Nat → Nat) (k0 mx : Nat) (r : Option CV) (x y : W) (K : W → Bool) : Bool := int2 k0 x y (genW r K) fun a b => @Bool.rec (fun _ => Bool) (genW r K) (@Bool.rec (fun _ => Bool) (genW r K) (outW k0 (f a b) K) (Nat.ble b mx)) (Nat.ble a mx)
noncomputable def cmpW (f : Nat → Nat → Bool) (k0 : Nat) (r : Option CV) (x y : W) (K : W → Bool) : Bool := int2 k0 x y (genW r K) fun a b => @Bool.rec (fun _ => Bool) (K ⟨8, 0, r0, []⟩) (K ⟨8, 1, r0, []⟩) (f a b)
noncomputable def eqbW (r : Option CV) (x y : W) (K : W → Bool) : Bool := int2 8 x y (genW r K) fun a b => @Bool.rec (fun _ => Bool) (@Bool.rec (fun _ => Bool) (K ⟨8, 1, r0, []⟩) (K ⟨8, 0, r0, []⟩) (Nat.beq b 0)) (@Bool.rec (fun _ => Bool) (K ⟨8, 0, r0, []⟩) (K ⟨8, 1, r0, []⟩) (Nat.beq b 0)) (Nat.beq a 0)
noncomputable def nebW (r : Option CV) (x y : W) (K : W → Bool) : Bool := int2 8 x y (genW r K) fun a b => @Bool.rec (fun _ => Bool) (@Bool.rec (fun _ => Bool) (K ⟨8, 0, r0, []⟩) (K ⟨8, 1, r0, []⟩) (Nat.beq b 0)) (@Bool.rec (fun _ => Bool) (K ⟨8, 1, r0, []⟩) (K ⟨8, 0, r0, []⟩) (Nat.beq b 0)) (Nat.beq a 0)
/-- Of two kinds: a shift. -/
noncomputable def sh2 (k0 bs : Nat) (x y : W) (E : Bool) (K : Nat → Nat → Bool) : Bool :=
  @Bool.rec (fun _ => Bool) E (@Bool.rec (fun _ => Bool) E (@Bool.rec (fun _ => Bool) E (@Bool.rec (fun _ => Bool) E (K x.a y.a) (Nat.ble y.a 63)) (Nat.ble y.a bs)) (Nat.ble y.t 7)) (Nat.beq x.t k0)
noncomputable def shlW (k0 mx bs : Nat) (r : Option CV) (x y : W) (K : W → Bool) : Bool := sh2 k0 bs x y (genW r K) fun a b => @Bool.rec (fun _ => Bool) (genW r K) (outW k0 (Nat.mul a (Nat.pow 2 b)) K) (Nat.ble (Nat.mul a (Nat.pow 2 b)) mx)
noncomputable def shrW (k0 bs : Nat) (r : Option CV) (x y : W) (K : W → Bool) : Bool := sh2 k0 bs x y (genW r K) fun a b => outW k0 (Nat.div a (Nat.pow 2 b)) K

theorem wrapF_n {k : IntKind} {n : Nat} (h : Nat.ble n (maxN k) = true) : wrapF k (.ofNat n) = .ofNat n := by simp only [wrapF, h]
theorem ikEq_r (k : IntKind) : ikEq k k = true := by cases k <;> rfl
theorem blt_ble {t : Nat} (h : Nat.ble t 7 = true) : Nat.blt t 8 = true := by
  have := Nat.le_of_ble_eq_true h
  exact Nat.ble_eq_true_of_le (by omega)
section
variable {P : Program} {t k0 mx bs : Nat} {xo yo : Operand} {x y : W} {K : W → Bool}
theorem dec_out {k n : Nat} (hk : Nat.blt k 8 = true) : dec ⟨k, n, r0, []⟩ = .int (ikN k) (.ofNat n) := by rw [dec_mk, decI_int hk]
theorem addW_out (hk : Nat.blt k0 8 = true) (hm : mx = maxN (ikN k0)) (h : addW k0 mx (binC P .add t xo yo (dec x) (dec y)) x y K = true) : ∃ w, binC P .add t xo yo (dec x) (dec y) = some (dec w) ∧ K w = true := by
  subst hm
  rcases int2_out h with ⟨hx, hy, g⟩ | g
  · rcases recB g with ⟨h1, g⟩ | ⟨_, g⟩
    · rw [outW_eq] at g
      refine ⟨_, ?_, g⟩
      rw [dec_out hk, dec_int hk hx, dec_int hk hy]
      simp only [binC, ikEq_r, intBin]
      show some (CV.int _ (wrapF _ (.ofNat (Nat.add x.a y.a)))) = _
      rw [wrapF_n h1]
    · exact genW_out g
  · exact genW_out g
theorem subW_out (hk : Nat.blt k0 8 = true) (hm : mx = maxN (ikN k0)) (h : subW k0 mx (binC P .sub t xo yo (dec x) (dec y)) x y K = true) : ∃ w, binC P .sub t xo yo (dec x) (dec y) = some (dec w) ∧ K w = true := by
  subst hm
  rcases int2_out h with ⟨hx, hy, g⟩ | g
  · rcases recB g with ⟨h1, g⟩ | ⟨_, g⟩
    · rcases recB g with ⟨h2, g⟩ | ⟨_, g⟩
      · rw [outW_eq] at g
        refine ⟨_, ?_, g⟩
        rw [dec_out hk, dec_int hk hx, dec_int hk hy]
        simp only [binC, ikEq_r, intBin]
        have e : Int.sub (.ofNat x.a) (.ofNat y.a) = .ofNat (Nat.sub x.a y.a) := by
          have := Nat.le_of_ble_eq_true h1
          show (x.a : Int) - y.a = ((x.a - y.a : Nat) : Int)
          omega
        rw [e, wrapF_n h2]
      · exact genW_out g
    · exact genW_out g
  · exact genW_out g
theorem mulW_out (hk : Nat.blt k0 8 = true) (hm : mx = maxN (ikN k0)) (h : mulW k0 mx (binC P .mul t xo yo (dec x) (dec y)) x y K = true) : ∃ w, binC P .mul t xo yo (dec x) (dec y) = some (dec w) ∧ K w = true := by
  subst hm
  rcases int2_out h with ⟨hx, hy, g⟩ | g
  · rcases recB g with ⟨h1, g⟩ | ⟨_, g⟩
    · rw [outW_eq] at g
      refine ⟨_, ?_, g⟩
      rw [dec_out hk, dec_int hk hx, dec_int hk hy]
      simp only [binC, ikEq_r, intBin]
      show some (CV.int _ (wrapF _ (.ofNat (Nat.mul x.a y.a)))) = _
      rw [wrapF_n h1]
    · exact genW_out g
  · exact genW_out g
theorem quoW_out (hk : Nat.blt k0 8 = true) (hm : mx = maxN (ikN k0)) (h : quoW k0 mx (binC P .quo t xo yo (dec x) (dec y)) x y K = true) : ∃ w, binC P .quo t xo yo (dec x) (dec y) = some (dec w) ∧ K w = true := by
  subst hm
  rcases int2_out h with ⟨hx, hy, g⟩ | g
  · rcases recB g with ⟨_, g⟩ | ⟨h0, g⟩
    · cases g
    · rcases recB g with ⟨h2, g⟩ | ⟨_, g⟩
      · rw [outW_eq] at g
        refine ⟨_, ?_, g⟩
        rw [dec_out hk, dec_int hk hx, dec_int hk hy]
        have e0 : eqI (.ofNat y.a) 0 = false := h0
        simp only [binC, ikEq_r, intBin, e0]
        have e : Int.tdiv (.ofNat x.a) (.ofNat y.a) = .ofNat (Nat.div x.a y.a) := rfl
        rw [e, wrapF_n h2]
      · exact genW_out g
  · exact genW_out g
theorem remW_out (hk : Nat.blt k0 8 = true) (h : remW k0 mx (binC P .rem t xo yo (dec x) (dec y)) x y K = true) : ∃ w, binC P .rem t xo yo (dec x) (dec y) = some (dec w) ∧ K w = true := by
  rcases int2_out h with ⟨hx, hy, g⟩ | g
  · rcases recB g with ⟨_, g⟩ | ⟨h0, g⟩
    · cases g
    · rw [outW_eq] at g
      refine ⟨_, ?_, g⟩
      rw [dec_out hk, dec_int hk hx, dec_int hk hy]
      have e0 : eqI (.ofNat y.a) 0 = false := h0
      simp only [binC, ikEq_r, intBin, e0]
      rfl
  · exact genW_out g
theorem bitW_out {f : Nat → Nat → Nat} {op : BinOp} (hop : (op = .and ∧ f = Nat.land) ∨ (op = .or ∧ f = Nat.lor) ∨ (op = .xor ∧ f = Nat.xor)) (hk : Nat.blt k0 8 = true) (hm : mx = maxN (ikN k0))
    (h : bitW f k0 mx (binC P op t xo yo (dec x) (dec y)) x y K = true) : ∃ w, binC P op t xo yo (dec x) (dec y) = some (dec w) ∧ K w = true := by
  subst hm
  rcases int2_out h with ⟨hx, hy, g⟩ | g
  · rcases recB g with ⟨h1, g⟩ | ⟨_, g⟩
    · rcases recB g with ⟨h2, g⟩ | ⟨_, g⟩
      · rw [outW_eq] at g
        refine ⟨_, ?_, g⟩
        rw [dec_out hk, dec_int hk hx, dec_int hk hy]
        rcases hop with ⟨rfl, rfl⟩ | ⟨rfl, rfl⟩ | ⟨rfl, rfl⟩ <;> simp only [binC, ikEq_r, intBin, bitN, h1, h2, Bool.and_self]
      · exact genW_out g
    · exact genW_out g
  · exact genW_out g
noncomputable def cmpF2 (op : BinOp) : Nat → Nat → Bool :=
  match op with
  | .eql => Nat.beq
  | .neq => fun a b => @Bool.rec (fun _ => Bool) true false (Nat.beq a b)
  | .lss => fun a b => Nat.ble (Nat.succ a) b
  | .leq => Nat.ble
  | .gtr => fun a b => Nat.ble (Nat.succ b) a
  | _ => fun a b => Nat.ble b a
def isCmp (op : BinOp) : Bool := match op with | .eql | .neq | .lss | .leq | .gtr | .geq => true | _ => false
theorem cmp_bin {op : BinOp} (hop : isCmp op = true) (k : IntKind) (a b : Nat) : intBin op k (.ofNat a) (.ofNat b) = some (.bool (cmpF2 op a b)) := by
  cases op <;> simp only [isCmp, reduceCtorEq] at hop <;> try (exact absurd hop (by decide))
  case eql => rfl
  case neq => simp only [intBin, cmpF2, eqI]; cases Nat.beq a b <;> rfl
  all_goals rfl
theorem cmpW_out {op : BinOp} (hop : isCmp op = true) (hk : Nat.blt k0 8 = true) (h : cmpW (cmpF2 op) k0 (binC P op t xo yo (dec x) (dec y)) x y K = true) : ∃ w, binC P op t xo yo (dec x) (dec y) = some (dec w) ∧ K w = true := by
  rcases int2_out h with ⟨hx, hy, g⟩ | g
  · obtain ⟨w, h1, h2⟩ := tfW_out (b := cmpF2 op x.a y.a) (K := K) g
    refine ⟨w, ?_, h2⟩
    rw [h1, dec_int hk hx, dec_int hk hy, ← cmp_bin hop (ikN k0) x.a y.a]
    cases op <;> first | (exact absurd hop (by decide)) | simp only [binC, ikEq_r]
  · exact genW_out g
theorem sh2_out {E : Bool} {K : Nat → Nat → Bool} (h : sh2 k0 bs x y E K = true) : (x.t = k0 ∧ Nat.blt y.t 8 = true ∧ y.a ≤ bs ∧ y.a < 64 ∧ K x.a y.a = true) ∨ E = true := by
  rcases recB h with ⟨h1, h⟩ | ⟨_, h⟩
  · rcases recB h with ⟨h2, h⟩ | ⟨_, h⟩
    · rcases recB h with ⟨h3, h⟩ | ⟨_, h⟩
      · rcases recB h with ⟨h4, h⟩ | ⟨_, h⟩
        · exact .inl ⟨Nat.eq_of_beq_eq_true h1, blt_ble h2, Nat.le_of_ble_eq_true h3, Nat.lt_succ_of_le (Nat.le_of_ble_eq_true h4), h⟩
        · exact .inr h
      · exact .inr h
    · exact .inr h
  · exact .inr h
theorem shlW_out (hk : Nat.blt k0 8 = true) (hm : mx = maxN (ikN k0)) (hb : bs = (ikN k0).bits) (h : shlW k0 mx bs (binC P .shl t xo yo (dec x) (dec y)) x y K = true) : ∃ w, binC P .shl t xo yo (dec x) (dec y) = some (dec w) ∧ K w = true := by
  subst hm hb
  rcases sh2_out h with ⟨hx, hu, h1, h2, g⟩ | g
  · rcases recB g with ⟨h3, g⟩ | ⟨_, g⟩
    · rw [outW_eq] at g
      refine ⟨_, ?_, g⟩
      rw [dec_out hk, dec_int hk hx, dec_int hu rfl]
      have e : Nat.blt y.a 64 = true := Nat.ble_eq_true_of_le h2
      simp only [binC, shiftC, natOfI, e, Nat.min_eq_left h1]
      show some (CV.int _ (wrapF _ (.ofNat (Nat.mul x.a (Nat.pow 2 y.a))))) = _
      rw [wrapF_n h3]
    · exact genW_out g
  · exact genW_out g
theorem shrW_out (hk : Nat.blt k0 8 = true) (hb : bs = (ikN k0).bits) (h : shrW k0 bs (binC P .shr t xo yo (dec x) (dec y)) x y K = true) : ∃ w, binC P .shr t xo yo (dec x) (dec y) = some (dec w) ∧ K w = true := by
  subst hb
  rcases sh2_out h with ⟨hx, hu, h1, h2, g⟩ | g
  · simp only [outW_eq] at g
    refine ⟨_, ?_, g⟩
    rw [dec_out hk, dec_int hk hx, dec_int hu rfl]
    have e : Nat.blt y.a 64 = true := Nat.ble_eq_true_of_le h2
    simp only [binC, shiftC, natOfI, e, Nat.min_eq_left h1]
    rfl
  · exact genW_out g
end
end Go.Fw

namespace Go.Fw
open Go Go.RowKit

def two (P : Program) (x : CV) (f : Value → Sem Value) : Option CV := match toV x with | some v => pureV P (f v) | none => none
def two2 (P : Program) (x y : CV) (f : Value → Value → Sem Value) : Option CV := match toV x, toV y with | some v, some u => pureV P (f v u) | _, _ => none

noncomputable def notW (r : Option CV) (x : W) (K : W → Bool) : Bool := @Bool.rec (fun _ => Bool) (genW r K) (@Bool.rec (fun _ => Bool) (K ⟨8, 0, r0, []⟩) (K ⟨8, 1, r0, []⟩) (Nat.beq x.a 0)) (Nat.beq x.t 8)
noncomputable def negW (k0 mx : Nat) (uns : Bool) (r : Option CV) (x : W) (K : W → Bool) : Bool := @Bool.rec (fun _ => Bool) (genW r K) (@Bool.rec (fun _ => Bool)
  (@Bool.rec (fun _ => Bool) (genW r K) (@Bool.rec (fun _ => Bool) (genW r K) (outW k0 (Nat.sub (Nat.succ mx) x.a) K) (Nat.ble x.a mx)) uns) (K ⟨k0, 0, r0, []⟩) (Nat.beq x.a 0)) (Nat.beq x.t k0)
noncomputable def icvW (kd mx : Nat) (r : Option CV) (x : W) (K : W → Bool) : Bool := @Bool.rec (fun _ => Bool) (genW r K) (@Bool.rec (fun _ => Bool) (genW r K) (outW kd x.a K) (Nat.ble x.a mx)) (Nat.ble x.t 7)
noncomputable def condW (v : W) (A B : Bool) : Bool := @Bool.rec (fun _ => Bool) false (@Bool.rec (fun _ => Bool) A B (Nat.beq v.a 0)) (Nat.beq v.t 8)
theorem condW_out {v : W} {A B : Bool} (h : condW v A B = true) : (dec v = .bool true ∧ A = true) ∨ (dec v = .bool false ∧ B = true) := by
  rcases recB h with ⟨h1, g⟩ | ⟨_, g⟩
  · rw [dec_bool (Nat.eq_of_beq_eq_true h1)]
    rcases recB g with ⟨h2, g⟩ | ⟨h2, g⟩ <;> rw [h2]
    · exact .inr ⟨rfl, g⟩
    · exact .inl ⟨rfl, g⟩
  · cases g
def wUnd : W := ⟨13, 0, r0, []⟩
theorem dec_und : dec wUnd = .tup [] := rfl
noncomputable def nilL (l : List W) (A : Bool) : Bool := @List.rec W (fun _ => Bool) A (fun _ _ _ => false) l
theorem nilL_out {l : List W} {A : Bool} (h : nilL l A = true) : l = [] ∧ A = true := by
  cases l with
  | nil => exact ⟨rfl, h⟩
  | cons _ _ => cases h
noncomputable def guardW (want : Bool) (g : W) (A B : Bool) : Bool :=
  @Bool.rec (fun _ => Bool) (@Bool.rec (fun _ => Bool) false (nilL g.l B) (Nat.beq g.t 13)) (@Bool.rec (fun _ => Bool) (@Bool.rec (fun _ => Bool) B A want) (@Bool.rec (fun _ => Bool) A B want) (Nat.beq g.a 0)) (Nat.beq g.t 8)
theorem guardW_out {want : Bool} {g : W} {A B : Bool} (h : guardW want g A B = true) : (dec g = .bool want ∧ A = true) ∨ ((dec g = .bool (!want) ∨ dec g = .tup []) ∧ B = true) := by
  rcases recB h with ⟨h1, k⟩ | ⟨_, k⟩
  · rw [dec_bool (Nat.eq_of_beq_eq_true h1)]
    rcases recB k with ⟨h2, k⟩ | ⟨h2, k⟩ <;> rw [h2]
    · cases want with
      | true => exact .inr ⟨.inl rfl, k⟩
      | false => exact .inl ⟨rfl, k⟩
    · cases want with
      | true => exact .inl ⟨rfl, k⟩
      | false => exact .inr ⟨.inl rfl, k⟩
  · rcases recB k with ⟨h1, k⟩ | ⟨_, k⟩
    · obtain ⟨h2, k⟩ := nilL_out k
      exact .inr ⟨.inr (by rw [dec_tup (Nat.eq_of_beq_eq_true h1), h2]; rfl), k⟩
    · cases k
noncomputable def pickW (c x y : W) (K : W → Bool) : Bool := condW c (K x) (K y)
noncomputable def nilcW (x : W) (K : W → Bool) : Bool := @Bool.rec (fun _ => Bool) (@Bool.rec (fun _ => Bool) false (K x) (Nat.beq x.t 14)) (K x) (Nat.beq x.t 9)
theorem nilcW_out {x : W} {K : W → Bool} (h : nilcW x K = true) : ((∃ n o, dec x = .ptr n o) ∨ ∃ f cs, dec x = .fn f cs) ∧ K x = true := by
  rcases recB h with ⟨h1, g⟩ | ⟨_, g⟩
  · exact ⟨.inl ⟨_, _, dec_ptr (Nat.eq_of_beq_eq_true h1)⟩, g⟩
  · rcases recB g with ⟨h1, g⟩ | ⟨_, g⟩
    · exact ⟨.inr ⟨_, _, dec_fn (Nat.eq_of_beq_eq_true h1)⟩, g⟩
    · cases g
noncomputable def ptrW (n off : Nat) (K : W → Bool) : Bool := @Nat.rec (fun _ => Bool) (K ⟨9, n, r0, []⟩) (fun m _ => K ⟨9, n, ⟨Nat.succ m, 0, 0, .any⟩, []⟩) off
theorem ptrW_eq {n off : Nat} {K : W → Bool} (h : ptrW n off K = true) : ∃ w, dec w = .ptr n off ∧ K w = true := by cases off <;> exact ⟨_, rfl, h⟩
noncomputable def fadW (o : Nat) (x : W) (K : W → Bool) : Bool := @Bool.rec (fun _ => Bool) false (ptrW x.a (Nat.add x.r.b o) K) (Nat.beq x.t 9)
theorem fadW_out {o : Nat} {x : W} {K : W → Bool} (h : fadW o x K = true) : ∃ n off w, dec x = .ptr n off ∧ dec w = .ptr n (off + o) ∧ K w = true := by
  rcases recB h with ⟨h1, g⟩ | ⟨_, g⟩
  · obtain ⟨w, h2, h3⟩ := ptrW_eq g
    exact ⟨x.a, x.r.b, w, dec_ptr (Nat.eq_of_beq_eq_true h1), h2, h3⟩
  · cases g
/-- A row. -/
noncomputable def onR (x : W) (E A : Bool) : Bool := @Bool.rec (fun _ => Bool) E (@Bool.rec (fun _ => Bool) E A (Nat.ble x.t 11)) (Nat.ble 10 x.t)
theorem onR_out {x : W} {E A : Bool} (h : onR x E A = true) : ((dec x = .slice x.a x.r.b x.r.c x.r.d ∨ dec x = .tail x.a x.r.b x.r.c x.r.d) ∧ A = true) ∨ E = true := by
  rcases recB h with ⟨h1, g⟩ | ⟨_, g⟩
  · rcases recB g with ⟨h2, g⟩ | ⟨_, g⟩
    · have e1 := Nat.le_of_ble_eq_true h1
      have e2 := Nat.le_of_ble_eq_true h2
      rcases (by omega : x.t = 10 ∨ x.t = 11) with e | e
      · exact .inl ⟨.inl (dec_slice e), g⟩
      · exact .inl ⟨.inr (dec_tail e), g⟩
    · exact .inr g
  · exact .inr g
noncomputable def onN (i : W) (A : Bool) : Bool := @Bool.rec (fun _ => Bool) false A (Nat.ble i.t 7)
theorem onN_out {i : W} {A : Bool} (h : onN i A = true) : (∃ k, dec i = .int k (.ofNat i.a)) ∧ A = true := by
  rcases recB h with ⟨h1, g⟩ | ⟨_, g⟩
  · exact ⟨⟨_, dec_int (blt_ble h1) rfl⟩, g⟩
  · cases g
noncomputable def idxSW (sz : Nat) (x i : W) (K : W → Bool) : Bool := onN i (onR x false (@Bool.rec (fun _ => Bool) false (ptrW x.a (Nat.add x.r.b (Nat.mul i.a sz)) K) (Nat.ble (Nat.succ i.a) x.r.c)))
noncomputable def idxAW (sz len : Nat) (x i : W) (K : W → Bool) : Bool := onN i (@Bool.rec (fun _ => Bool) false (@Bool.rec (fun _ => Bool) false (ptrW x.a (Nat.add x.r.b (Nat.mul i.a sz)) K) (Nat.ble (Nat.succ i.a) len)) (Nat.beq x.t 9))
noncomputable def lenW (r : Option CV) (x : W) (K : W → Bool) : Bool := onR x (genW r K) (outW 3 x.r.c K)
noncomputable def idxW (T : List (Nat × TyI)) (Qs : Nat → W → W → (W → Bool) → Bool) (Qa : Nat → Nat → W → W → (W → Bool) → Bool) (t : Nat) (x i : W) (K : W → Bool) : Bool :=
  match elemSz T t with
  | some sz => Qs sz x i K
  | none => match tyAt T t with
    | some ti => (match ti.d with
      | .array len e => (match sizeAt T e with | some sz => Qa sz len x i K | none => false)
      | _ => false)
    | none => false
theorem idxW_out {T : List (Nat × TyI)} {t : Nat} {x i : W} {K : W → Bool} (h : idxW T idxSW idxAW t x i K = true) : ∃ w, idxC T t (dec x) (dec i) = some (dec w) ∧ K w = true := by
  unfold idxW at h
  split at h
  · rename_i sz hsz
    obtain ⟨⟨k, hi⟩, h1⟩ := onN_out h
    rcases onR_out h1 with ⟨hx, h2⟩ | h2
    · rcases recB h2 with ⟨h3, h4⟩ | ⟨_, h4⟩
      · obtain ⟨w, h5, h6⟩ := ptrW_eq h4
        refine ⟨w, ?_, h6⟩
        have h3' : Nat.blt i.a x.r.c = true := h3
        rw [h5, hi]
        rcases hx with hx | hx <;> rw [hx] <;> simp only [idxC, hsz, h3'] <;> rfl
      · cases h4
    · cases h2
  · rename_i hn
    split at h
    · rename_i ti hti
      split at h
      · rename_i len e hd
        split at h
        · rename_i sz hsz
          obtain ⟨⟨k, hi⟩, h1⟩ := onN_out h
          rcases recB h1 with ⟨h3, h4⟩ | ⟨_, h4⟩
          · rcases recB h4 with ⟨h5, h6⟩ | ⟨_, h6⟩
            · obtain ⟨w, h7, h8⟩ := ptrW_eq h6
              refine ⟨w, ?_, h8⟩
              have h5' : Nat.blt i.a len = true := h5
              rw [h7, hi, dec_ptr (Nat.eq_of_beq_eq_true h3)]
              simp only [idxC, hti, hd, h5', hsz]
              rfl
            · cases h6
          · cases h4
        · cases h
      · cases h
    · cases h
/-- Parts of a tuple, of cells. -/
noncomputable def nthW (i : Nat) : List W → (W → Bool) → Bool := @Nat.rec (fun _ => List W → (W → Bool) → Bool) (fun l K => @List.rec W (fun _ => Bool) false (fun x _ _ => K x) l) (fun _ ih l K => @List.rec W (fun _ => Bool) false (fun _ r _ => ih r K) l) i
theorem nthW_out {K : W → Bool} : ∀ {i : Nat} {l : List W}, nthW i l K = true → ∃ w, nth? (l.map dec) i = some (dec w) ∧ K w = true
  | 0, [], h => by cases h
  | 0, x :: r, h => ⟨x, rfl, h⟩
  | i + 1, [], h => by cases h
  | i + 1, x :: r, h => nthW_out (i := i) (l := r) h
noncomputable def onH (hd : Nat) (x : W) (E : Bool) (K : List W → Bool) : Bool := @Bool.rec (fun _ => Bool) E (K x.l) (Nat.beq x.t hd)
theorem onT_out {x : W} {E : Bool} {K : List W → Bool} (h : onH 13 x E K = true) : (dec x = .tup (x.l.map dec) ∧ K x.l = true) ∨ E = true := by
  rcases recB h with ⟨h1, g⟩ | ⟨_, g⟩
  · exact .inl ⟨dec_tup (Nat.eq_of_beq_eq_true h1), g⟩
  · exact .inr g
theorem onA_out {x : W} {E : Bool} {K : List W → Bool} (h : onH 15 x E K = true) : (dec x = .agg (x.l.map dec) ∧ K x.l = true) ∨ E = true := by
  rcases recB h with ⟨h1, g⟩ | ⟨_, g⟩
  · exact .inl ⟨dec_agg (Nat.eq_of_beq_eq_true h1), g⟩
  · exact .inr g
noncomputable def appL (a b : List W) : List W := @List.rec W (fun _ => List W) b (fun x _ ih => x :: ih) a
theorem appL_eq : ∀ a b : List W, appL a b = a ++ b
  | [], b => rfl
  | x :: a, b => by rw [show appL (x :: a) b = x :: appL a b from rfl, appL_eq a]; rfl
/-- A function, and what it is called with. -/
noncomputable def onG (x : W) (as : List W) (K : FuncId → List W → Bool) : Bool := @Bool.rec (fun _ => Bool) (@Bool.rec (fun _ => Bool) false (K x.a (appL x.l as)) (Nat.beq x.t 16)) (K x.a (appL as x.l)) (Nat.beq x.t 14)
theorem onG_out {x : W} {as : List W} {K : FuncId → List W → Bool} (h : onG x as K = true) : (dec x = .fn x.a (x.l.map dec) ∧ K x.a (appL as x.l) = true) ∨ (dec x = .fnb x.a (x.l.map dec) ∧ K x.a (appL x.l as) = true) := by
  rcases recB h with ⟨h1, g⟩ | ⟨_, g⟩
  · exact .inl ⟨dec_fn (Nat.eq_of_beq_eq_true h1), g⟩
  · rcases recB g with ⟨h1, g⟩ | ⟨_, g⟩
    · exact .inr ⟨dec_fnb (Nat.eq_of_beq_eq_true h1), g⟩
    · cases g
/-- Values that have one meaning; values that are known. -/
noncomputable def detW (x : W) (A : Bool) : Bool := @Bool.rec (fun _ => Bool) (@Bool.rec (fun _ => Bool) false A (detC (dec x))) A (Nat.ble x.t 9)
theorem detW_out {x : W} {A : Bool} (h : detW x A = true) : detC (dec x) = true ∧ A = true := by
  rcases recB h with ⟨h1, g⟩ | ⟨_, g⟩
  · refine ⟨?_, g⟩
    have := Nat.le_of_ble_eq_true h1
    rcases (by omega : x.t < 8 ∨ x.t = 8 ∨ x.t = 9) with h2 | h2 | h2
    · rw [dec_int (Nat.ble_eq_true_of_le h2) rfl]; rfl
    · rw [dec_bool h2]; rfl
    · rw [dec_ptr h2]; rfl
  · rcases recB g with ⟨h1, g⟩ | ⟨_, g⟩
    · exact ⟨h1, g⟩
    · cases g
def known (x : CV) : Bool := match toV x with | some _ => true | none => false
noncomputable def knownW (x : W) (A : Bool) : Bool := @Bool.rec (fun _ => Bool) (@Bool.rec (fun _ => Bool) false A (known (dec x))) A (Nat.ble x.t 8)
theorem known_out {x : CV} (h : known x = true) : ∃ v, toV x = some v := by
  unfold known at h
  split at h
  · rename_i v hv; exact ⟨v, hv⟩
  · cases h
theorem knownW_out {x : W} {A : Bool} (h : knownW x A = true) : (∃ v, toV (dec x) = some v) ∧ A = true := by
  rcases recB h with ⟨h1, g⟩ | ⟨_, g⟩
  · refine ⟨?_, g⟩
    have := Nat.le_of_ble_eq_true h1
    rcases (by omega : x.t < 8 ∨ x.t = 8) with h2 | h2
    · rw [dec_int (Nat.ble_eq_true_of_le h2) rfl]; exact ⟨_, rfl⟩
    · rw [dec_bool h2]; exact ⟨_, rfl⟩
  · rcases recB g with ⟨h1, g⟩ | ⟨_, g⟩
    · exact ⟨known_out h1, g⟩
    · cases g
def notRow (c : CV) : Bool := match c with | .slice _ _ _ _ => false | .tail _ _ _ _ => false | .ptr _ _ => false | _ => true
noncomputable def killVW (v : W) (hp : HW) (K : HW → Bool) : Bool :=
  @Bool.rec (fun _ => Bool) (K hp) (@Bool.rec (fun _ => Bool) (@Bool.rec (fun _ => Bool) false (K hp) (notRow (dec v))) (delW hp v.a K) (Nat.ble v.t 11)) (Nat.ble 9 v.t)
theorem notRow_kill {c : CV} (h : notRow c = true) (hp : AL CSeg) : killV c hp = hp := by cases c <;> first | rfl | cases h
theorem killVW_out {v : W} {hp : HW} {K : HW → Bool} (h : killVW v hp K = true) : ∃ hp', decH hp' = killV (dec v) (decH hp) ∧ K hp' = true := by
  rcases recB h with ⟨h1, g⟩ | ⟨h1, g⟩
  · rcases recB g with ⟨h2, g⟩ | ⟨h2, g⟩
    · have e1 := Nat.le_of_ble_eq_true h1
      have e2 := Nat.le_of_ble_eq_true h2
      obtain ⟨hp', h3, h4⟩ := delW_out g
      refine ⟨hp', ?_, h4⟩
      rw [h3]
      rcases (by omega : v.t = 9 ∨ v.t = 10 ∨ v.t = 11) with e | e | e
      · rw [dec_ptr e]; rfl
      · rw [dec_slice e]; rfl
      · rw [dec_tail e]; rfl
    · rcases recB g with ⟨h3, g⟩ | ⟨_, g⟩
      · exact ⟨hp, by rw [notRow_kill h3], g⟩
      · cases g
  · refine ⟨hp, ?_, g⟩
    have e1 : v.t < 9 := by
      rcases Nat.lt_or_ge v.t 9 with h | h
      · exact h
      · rw [Nat.ble_eq_true_of_le h] at h1; cases h1
    rcases (by omega : v.t < 8 ∨ v.t = 8) with h2 | h2
    · rw [dec_int (Nat.ble_eq_true_of_le h2) rfl]; rfl
    · rw [dec_bool h2]; rfl

section
variable {P : Program} {T : List (Nat × TyI)} {t : Nat} {x y c : W} {K : W → Bool}
theorem notW_out (h : notW (two P (dec x) (Op.unary .not)) x K = true) : ∃ w, two P (dec x) (Op.unary .not) = some (dec w) ∧ K w = true := by
  rcases recB h with ⟨h1, g⟩ | ⟨_, g⟩
  · rw [dec_bool (Nat.eq_of_beq_eq_true h1)]
    rcases recB g with ⟨h2, g⟩ | ⟨h2, g⟩ <;> rw [h2] <;> exact ⟨_, rfl, g⟩
  · exact genW_out g
theorem negW_out {k0 mx : Nat} {uns : Bool} (hk : Nat.blt k0 8 = true) (hm : mx = maxN (ikN k0)) (hu : uns = !(ikN k0).signed) (h : negW k0 mx uns (two P (dec x) (Op.unary .neg)) x K = true) : ∃ w, two P (dec x) (Op.unary .neg) = some (dec w) ∧ K w = true := by
  subst hm hu
  rcases recB h with ⟨h1, g⟩ | ⟨_, g⟩
  · have e0 : two P (dec x) (Op.unary .neg) = some (.int (ikN k0) ((ikN k0).wrap (0 - (x.a : Int)))) := by rw [dec_int hk (Nat.eq_of_beq_eq_true h1)]; rfl
    rcases recB g with ⟨h2, g⟩ | ⟨h2, g⟩
    · have ha : x.a = 0 := Nat.eq_of_beq_eq_true h2
      refine ⟨_, ?_, g⟩
      rw [e0, dec_out hk, ha]
      congr 2
      generalize ikN k0 = k
      cases k <;> rfl
    · rcases recB g with ⟨h3, g⟩ | ⟨_, g⟩
      · rcases recB g with ⟨h4, g⟩ | ⟨_, g⟩
        · rw [outW_eq] at g
          refine ⟨_, ?_, g⟩
          rw [e0, dec_out hk]
          congr 2
          have hm := Nat.le_of_ble_eq_true h4
          have ha : x.a ≠ 0 := AL.beq_ne h2
          revert h3 hm ha
          generalize ikN k0 = k
          generalize x.a = a
          intro h3 hm ha
          show _ = ((maxN k + 1 - a : Nat) : Int)
          cases k <;> first | (exact absurd h3 (by decide)) | (simp only [maxN] at hm ⊢; unfold IntKind.wrap; simp only [IntKind.bits, IntKind.signed]; simp; omega)
        · exact genW_out g
      · exact genW_out g
  · exact genW_out g
theorem pickW_out (h : pickW c x y K = true) : ∃ w, (match dec c with | .bool true => some (dec x) | .bool false => some (dec y) | _ => none) = some (dec w) ∧ K w = true := by
  rcases condW_out h with ⟨h1, h2⟩ | ⟨h1, h2⟩
  · exact ⟨x, by rw [h1], h2⟩
  · exact ⟨y, by rw [h1], h2⟩
noncomputable def icvWW (T : List (Nat × TyI)) (Qi : Nat → Nat → Option CV → W → (W → Bool) → Bool) (Qg : Option CV → (W → Bool) → Bool) (P : Program) (hp : HW) (src dst : Nat) (x : W) (K : W → Bool) : Bool :=
  match tyAt T src, tyAt T dst with
  | some i, some j => (match i.d, j.d with
    | .int _, .int k => Qi (kc k) (maxN k) (convC P T ⟨[], 0, decH hp, 0⟩ src dst (dec x)) x K
    | _, _ => Qg (convC P T ⟨[], 0, decH hp, 0⟩ src dst (dec x)) K)
  | _, _ => false
theorem icvWW_out {hp : HW} {src dst : Nat} (h : icvWW T icvW genW P hp src dst x K = true) : ∃ w, convC P T ⟨[], 0, decH hp, 0⟩ src dst (dec x) = some (dec w) ∧ K w = true := by
  unfold icvWW at h
  split at h
  · rename_i i j hi hj
    split at h
    · rename_i k1 k hid hjd
      rcases recB h with ⟨h1, g⟩ | ⟨_, g⟩
      · rcases recB g with ⟨h2, g⟩ | ⟨_, g⟩
        · rw [outW_eq] at g
          refine ⟨_, ?_, g⟩
          rw [dec_out (kc_lt k), dec_int (blt_ble h1) rfl, ikN_kc]
          simp only [convC, icvC, hi, hj, hid, hjd, wrapF_n h2]
        · exact genW_out g
      · exact genW_out g
    · exact genW_out h
  · cases h
end
end Go.Fw

namespace Go.Fw
open Go Go.RowKit

noncomputable def triW (t : Trie W) (i : Nat) (E : Bool) (K : W → Bool) : Bool :=
  @Trie.rec W (fun _ => Nat → Bool) (fun _ => E) (fun v _ _ gl gr i => @Nat.rec (fun _ => Bool) (@Option.rec W (fun _ => Bool) E K v) (fun j _ => @Bool.rec (fun _ => Bool) (gl (Nat.shiftRight j 1)) (gr (Nat.shiftRight j 1)) (Nat.beq (Nat.land j 1) 1)) i) t i
theorem triW_eq (E : Bool) (K : W → Bool) : ∀ (t : Trie W) (i : Nat), triW t i E K = match t.get i with | some x => K x | none => E
  | .nil, i => rfl
  | .node v l r, 0 => by cases v <;> rfl
  | .node v l r, j + 1 => by
    have e1 : Nat.land j 1 = j % 2 := Nat.and_one_is_mod j
    have e2 : Nat.shiftRight j 1 = j / 2 := by rw [show Nat.shiftRight j 1 = j >>> 1 from rfl, Nat.shiftRight_eq_div_pow]
    show @Bool.rec (fun _ => Bool) (triW l (Nat.shiftRight j 1) E K) (triW r (Nat.shiftRight j 1) E K) (Nat.beq (Nat.land j 1) 1) = _
    rw [triW_eq E K l, triW_eq E K r, e1, e2]
    have hd : Nat.div j 2 = j / 2 := rfl
    have hm : Nat.mod j 2 = j % 2 := rfl
    simp only [Trie.get, hd, hm]
    rcases Nat.mod_two_eq_zero_or_one j with h | h <;> rw [h] <;> rfl
def nthL : List W → Nat → W
  | [], _ => wAny
  | a :: _, 0 => a
  | _ :: r, n + 1 => nthL r n
theorem nthL_dec : ∀ (l : List W) (n : Nat), dec (nthL l n) = nthC (l.map dec) n
  | [], _ => rfl
  | a :: r, 0 => rfl
  | a :: r, n + 1 => nthL_dec r n
noncomputable def dfltK (d : List W) (j : Nat) (K : W → Bool) : Bool :=
  @List.rec W (fun _ => Bool) (K wAny) (fun x r _ => @List.rec W (fun _ => Bool) (K x) (fun _ _ _ => K (nthL d (Nat.mod j (List.length d)))) r) d
theorem dfltK_out {d : List W} {j : Nat} {K : W → Bool} (h : dfltK d j K = true) : ∃ w, dec w = dflt (d.map dec) j ∧ K w = true := by
  match d, h with
  | [], h => exact ⟨wAny, rfl, h⟩
  | [x], h => exact ⟨x, rfl, h⟩
  | x :: y :: r, h => exact ⟨nthL (x :: y :: r) (Nat.mod j (List.length (x :: y :: r))), by rw [nthL_dec, dflt_map], h⟩
noncomputable def cellW (t : Trie W) (d : List W) (j : Nat) (K : W → Bool) : Bool := triW t j (dfltK d j K) K
theorem cellW_out {t : Trie W} {d : List W} {j : Nat} {K : W → Bool} (h : cellW t d j K = true) : ∃ w, dec w = cellC (t.map dec) (d.map dec) j ∧ K w = true := by
  unfold cellW at h
  rw [triW_eq] at h
  unfold cellC
  rw [Trie.map_get]
  cases hg : t.get j with
  | some x => rw [hg] at h; exact ⟨x, rfl, h⟩
  | none => rw [hg] at h; exact dfltK_out h
noncomputable def readN (t : Trie W) (d : List W) (n : Nat) : Nat → (List W → Bool) → Bool :=
  @Nat.rec (fun _ => Nat → (List W → Bool) → Bool) (fun _ K => K []) (fun _ ih off K => cellW t d off fun x => ih (Nat.succ off) fun l => K (x :: l)) n
theorem readN_out {t : Trie W} {d : List W} : ∀ {n off : Nat} {K : List W → Bool}, readN t d n off K = true → ∃ l : List W, l.map dec = readC (t.map dec) (d.map dec) off n ∧ K l = true
  | 0, off, K, h => ⟨[], rfl, h⟩
  | n + 1, off, K, h => by
    obtain ⟨w, h1, h2⟩ := cellW_out (show cellW t d off (fun x => readN t d n (Nat.succ off) fun l => K (x :: l)) = true from h)
    obtain ⟨l, h3, h4⟩ := readN_out h2
    exact ⟨w :: l, by rw [List.map_cons, h1, h3]; rfl, h4⟩

noncomputable def onS (s : SW) (K : Nat → Nat → Trie W → List W → Bool → Kind → Bool) : Bool :=
  @SW.rec (fun _ => Bool) (fun k m q => @SR.rec (fun _ => Bool) (fun t d op kd => K k m t d op kd) q) s
theorem onS_eq (s : SW) (K : Nat → Nat → Trie W → List W → Bool → Kind → Bool) : onS s K = K s.k s.n s.s.t s.s.d s.s.op s.s.kd := rfl

section mem
variable {P : Program} {T : List (Nat × TyI)} {t : Nat} {x a : W} {hp : HW}
theorem segC_of {n : Nat} {s : SW} (h : (decH hp).get n = some (decS s)) (env : List CV) (m c : Nat) : segC ⟨env, m, decH hp, c⟩ n = decS s := by
  unfold segC AL.getD; simp only [h]
noncomputable def onP (x : W) (K : Nat → Nat → Bool) : Bool := @Bool.rec (fun _ => Bool) false (K x.a x.r.b) (Nat.beq x.t 9)
theorem onP_out {K : Nat → Nat → Bool} (h : onP x K = true) : ∃ n o, dec x = .ptr n o ∧ K n o = true := by
  rcases recB h with ⟨h1, g⟩ | ⟨_, g⟩
  · exact ⟨_, _, dec_ptr (Nat.eq_of_beq_eq_true h1), g⟩
  · cases g
noncomputable def loadSW (hp : HW) (x : W) (K : W → Bool) : Bool := onP x fun n off => getW hp n fun s => onS s fun _ m t d _ _ => @Bool.rec (fun _ => Bool) false (cellW t d off K) (Nat.ble (Nat.succ off) m)
noncomputable def loadAW (sz : Nat) (hp : HW) (x : W) (K : W → Bool) : Bool := onP x fun n off => getW hp n fun s => onS s fun k m t d _ _ => @Bool.rec (fun _ => Bool) false (@Bool.rec (fun _ => Bool) false (readN t d sz off fun l => K ⟨15, 0, r0, l⟩) (Nat.ble (Nat.add off sz) m)) (Nat.beq k 9)
noncomputable def loadWW (Ql : HW → W → (W → Bool) → Bool) (Qa : Nat → HW → W → (W → Bool) → Bool) (T : List (Nat × TyI)) (hp : HW) (t : Nat) (x : W) (K : W → Bool) : Bool :=
  match isAggT T t with
  | some false => Ql hp x K
  | some true => (match sizeAt T t with | some sz => Qa sz hp x K | none => false)
  | none => false
theorem loadWW_out {K : W → Bool} (h : loadWW loadSW loadAW T hp t x K = true) : ∃ w, loadCC T ⟨[], 0, decH hp, 0⟩ t (dec x) = some (dec w) ∧ K w = true := by
  unfold loadWW at h
  split at h
  · rename_i hag
    obtain ⟨n, off, hx, h1⟩ := onP_out h
    obtain ⟨s, h2, h3⟩ := getW_out h1
    rw [onS_eq] at h3
    rcases recB h3 with ⟨h4, h5⟩ | ⟨_, h5⟩
    · obtain ⟨w, h6, h7⟩ := cellW_out h5
      refine ⟨w, ?_, h7⟩
      have h4' : Nat.blt off s.n = true := h4
      rw [hx]
      simp only [loadCC, segC_of h2, decS, hag, h4', h6]
    · cases h5
  · rename_i hag
    split at h
    · rename_i sz hsz
      obtain ⟨n, off, hx, h1⟩ := onP_out h
      obtain ⟨s, h2, h3⟩ := getW_out h1
      rw [onS_eq] at h3
      rcases recB h3 with ⟨h4, h5⟩ | ⟨_, h5⟩
      · rcases recB h5 with ⟨h6, h7⟩ | ⟨_, h7⟩
        · obtain ⟨l, h8, h9⟩ := readN_out h7
          refine ⟨_, ?_, h9⟩
          have hk : kdec s.k s.s.kd = .avs := by rw [Nat.eq_of_beq_eq_true h4]; rfl
          have h6' : Nat.ble (off + sz) s.n = true := h6
          rw [hx]
          simp only [loadCC, segC_of h2, decS, hk, hag, hsz, h6']
          rw [dec_agg (x := ⟨15, 0, r0, l⟩) rfl, h8]
        · cases h7
      · cases h5
    · cases h
  · cases h

/- Writing. -/
noncomputable def fitW (k : Nat) (kd : Kind) (x : W) (A : Bool) : Bool :=
  @Bool.rec (fun _ => Bool)
      (@Bool.rec (fun _ => Bool) (@Bool.rec (fun _ => Bool) false A (fitsK (kdec k kd) (dec x))) (@Bool.rec (fun _ => Bool) (@Bool.rec (fun _ => Bool) false A (fitsK (kdec k kd) (dec x))) A (Nat.ble x.t 11)) (Nat.beq k 9))
      (@Bool.rec (fun _ => Bool) (@Bool.rec (fun _ => Bool) false A (fitsK (kdec k kd) (dec x))) A (Nat.ble x.t 8)) (Nat.beq x.t k)
theorem one_of {x : W} (h : x.t ≤ 11) : isOneC (dec x) = true := by
  rcases (by omega : x.t < 8 ∨ x.t = 8 ∨ x.t = 9 ∨ x.t = 10 ∨ x.t = 11) with h3 | h3 | h3 | h3 | h3
  · rw [dec_int (Nat.ble_eq_true_of_le h3) rfl]; rfl
  · rw [dec_bool h3]; rfl
  · rw [dec_ptr h3]; rfl
  · rw [dec_slice h3]; rfl
  · rw [dec_tail h3]; rfl
theorem fitW_out {k : Nat} {kd : Kind} {A : Bool} (h : fitW k kd x A = true) : fitsK (kdec k kd) (dec x) = true ∧ A = true := by
  have slow : @Bool.rec (fun _ => Bool) false A (fitsK (kdec k kd) (dec x)) = true → fitsK (kdec k kd) (dec x) = true ∧ A = true := fun h => by
    rcases recB h with ⟨h1, g⟩ | ⟨_, g⟩
    · exact ⟨h1, g⟩
    · cases g
  rcases recB h with ⟨h1, g⟩ | ⟨_, g⟩
  · rcases recB g with ⟨h2, g⟩ | ⟨_, g⟩
    · refine ⟨?_, g⟩
      have e := Nat.eq_of_beq_eq_true h1
      have := Nat.le_of_ble_eq_true h2
      rcases (by omega : x.t < 8 ∨ x.t = 8) with h3 | h3
      · have h3 : Nat.blt x.t 8 = true := Nat.ble_eq_true_of_le h3
        rw [dec_int h3 rfl, ← e]
        unfold kdec
        rw [h3]
        exact ikEq_r _
      · rw [dec_bool h3, ← e, h3]; rfl
    · exact slow g
  · rcases recB g with ⟨h2, g⟩ | ⟨_, g⟩
    · rcases recB g with ⟨h3, g⟩ | ⟨_, g⟩
      · refine ⟨?_, g⟩
        have e := Nat.eq_of_beq_eq_true h2
        subst e
        exact one_of (Nat.le_of_ble_eq_true h3)
      · exact slow g
    · exact slow g
noncomputable def sameW (x y : W) (A B : Bool) : Bool :=
  @Bool.rec (fun _ => Bool) (@Bool.rec (fun _ => Bool) B A (sameC (dec x) (dec y))) (@Bool.rec (fun _ => Bool) (@Bool.rec (fun _ => Bool) B A (sameC (dec x) (dec y))) (@Bool.rec (fun _ => Bool) (@Bool.rec (fun _ => Bool) B A (sameC (dec x) (dec y))) A (Nat.ble x.t 8)) (Nat.beq x.a y.a)) (Nat.beq x.t y.t)
theorem sameC_refl_i (k : IntKind) (a : Nat) : sameC (.int k (.ofNat a)) (.int k (.ofNat a)) = true := by simp [sameC, ikEq_r]
theorem sameW_out {y : W} {A B : Bool} (h : sameW x y A B = true) : (sameC (dec x) (dec y) = true ∧ A = true) ∨ (sameC (dec x) (dec y) = false ∧ B = true) := by
  rcases recB h with ⟨h1, g⟩ | ⟨_, g⟩
  · rcases recB g with ⟨h2, g⟩ | ⟨_, g⟩
    · rcases recB g with ⟨h3, g⟩ | ⟨_, g⟩
      · left
        refine ⟨?_, g⟩
        have e1 := Nat.eq_of_beq_eq_true h1
        have e2 := Nat.eq_of_beq_eq_true h2
        have := Nat.le_of_ble_eq_true h3
        rcases (by omega : x.t < 8 ∨ x.t = 8) with h3 | h3
        · rw [dec_int (Nat.ble_eq_true_of_le h3) rfl, dec_int (x := y) (Nat.ble_eq_true_of_le h3) e1.symm, e2]; exact sameC_refl_i _ _
        · rw [dec_bool h3, dec_bool (x := y) (e1.symm.trans h3), e2]; cases Nat.beq y.a 0 <;> rfl
      · exact recB g
    · exact recB g
  · exact recB g
noncomputable def setUW (x : W) (t : Trie W) (d : List W) (off : Nat) (K : Trie W → Bool) : Bool :=
  @Trie.rec W (fun _ => Bool) (@List.rec W (fun _ => Bool) (Trie.setG x .nil off K) (fun y r _ => @List.rec W (fun _ => Bool) (sameW x y (K .nil) (Trie.setG x .nil off K)) (fun _ _ _ => Trie.setG x .nil off K) r) d) (fun v l r _ _ => Trie.setG x (.node v l r) off K) t
theorem setUW_out {t : Trie W} {d : List W} {off : Nat} {K : Trie W → Bool} (h : setUW x t d off K = true) : ∃ t', t'.map dec = setU (dec x) (t.map dec) (d.map dec) off ∧ K t' = true := by
  have gen : ∀ t : Trie W, setU (dec x) (t.map dec) (d.map dec) off = Trie.set (dec x) (t.map dec) off → Trie.setG x t off K = true → ∃ t', t'.map dec = setU (dec x) (t.map dec) (d.map dec) off ∧ K t' = true := fun t he hk => by
    rw [Trie.setG_eq] at hk
    exact ⟨_, by rw [he, Trie.map_set], hk⟩
  cases t with
  | node v l r => exact gen _ rfl h
  | nil =>
    match d, h, gen with
    | [], h, gen => exact gen .nil rfl h
    | y :: z :: r, h, gen => exact gen .nil rfl h
    | [y], h, gen =>
      rcases sameW_out (x := x) (y := y) h with ⟨h1, h2⟩ | ⟨h1, h2⟩
      · exact ⟨.nil, by simp only [List.map_cons, List.map_nil, Trie.map, setU, h1], h2⟩
      · exact gen .nil (by simp only [List.map_cons, List.map_nil, Trie.map, setU, h1]) h2
noncomputable def setMW (d : List W) (l : List W) : Trie W → Nat → (Trie W → Bool) → Bool :=
  @List.rec W (fun _ => Trie W → Nat → (Trie W → Bool) → Bool) (fun t _ K => K t) (fun x _ ih t off K => setUW x t d off fun t => ih t (Nat.succ off) K) l
theorem setMW_out {d : List W} : ∀ {l : List W} {t : Trie W} {off : Nat} {K : Trie W → Bool}, setMW d l t off K = true → ∃ t', t'.map dec = setManyC (t.map dec) (d.map dec) off (l.map dec) ∧ K t' = true
  | [], t, off, K, h => ⟨t, rfl, h⟩
  | x :: l, t, off, K, h => by
    obtain ⟨t1, h1, h2⟩ := setUW_out (show setUW x t d off (fun t => setMW d l t (Nat.succ off) K) = true from h)
    obtain ⟨t2, h3, h4⟩ := setMW_out h2
    exact ⟨t2, by rw [h3, h1, List.map_cons]; rfl, h4⟩
noncomputable def storeSW (hp : HW) (a x : W) (K : HW → Bool) : Bool :=
  onP a fun n off => modW hp n (fun s K => onS s fun k m t d op kd => @Bool.rec (fun _ => Bool) false (fitW k kd x (setUW x t d off fun t => K ⟨k, m, ⟨t, d, op, kd⟩⟩)) (Nat.ble (Nat.succ off) m)) K
noncomputable def oneW (x : W) (A : Bool) : Bool := @Bool.rec (fun _ => Bool) (@Bool.rec (fun _ => Bool) false A (isOneC (dec x))) A (Nat.ble x.t 11)
theorem oneW_out {A : Bool} (h : oneW x A = true) : isOneC (dec x) = true ∧ A = true := by
  rcases recB h with ⟨h1, g⟩ | ⟨_, g⟩
  · exact ⟨one_of (Nat.le_of_ble_eq_true h1), g⟩
  · rcases recB g with ⟨h1, g⟩ | ⟨_, g⟩
    · exact ⟨h1, g⟩
    · cases g
/-- So many cells, each one cell. -/
noncomputable def onesW (n : Nat) : List W → Bool → Bool := @Nat.rec (fun _ => List W → Bool → Bool) (fun l A => nilL l A) (fun _ ih l A => @List.rec W (fun _ => Bool) false (fun x r _ => oneW x (ih r A)) l) n
theorem onesW_out : ∀ {n : Nat} {l : List W} {A : Bool}, onesW n l A = true → (l.map dec).length = n ∧ allOneC (l.map dec) = true ∧ A = true
  | 0, l, A, h => by
    obtain ⟨rfl, h⟩ := nilL_out h
    exact ⟨rfl, rfl, h⟩
  | n + 1, [], A, h => by cases h
  | n + 1, x :: r, A, h => by
    obtain ⟨h2, h3⟩ := oneW_out (show oneW x (onesW n r A) = true from h)
    obtain ⟨h4, h5, h6⟩ := onesW_out (n := n) h3
    exact ⟨by simpa using h4, by simp only [List.map_cons, allOneC, h2, h5, Bool.and_self], h6⟩
noncomputable def storeAW (sz : Nat) (hp : HW) (a x : W) (K : HW → Bool) : Bool :=
  onP a fun n off => onH 15 x false fun l => onesW sz l (modW hp n (fun s K => onS s fun k m t d op kd => @Bool.rec (fun _ => Bool) false (@Bool.rec (fun _ => Bool) false (setMW d l t off fun t => K ⟨k, m, ⟨t, d, op, kd⟩⟩) (Nat.ble (Nat.add off sz) m)) (Nat.beq k 9)) K)
noncomputable def storeWW (Qs : HW → W → W → (HW → Bool) → Bool) (Qa : Nat → HW → W → W → (HW → Bool) → Bool) (T : List (Nat × TyI)) (hp : HW) (t : Nat) (a x : W) (K : HW → Bool) : Bool :=
  match isAggT T t, sizeAt T t with
  | some false, some 1 => Qs hp a x K
  | some true, some sz => Qa sz hp a x K
  | _, _ => false
theorem storeWW_out {K : HW → Bool} (h : storeWW storeSW storeAW T hp t a x K = true) : ∃ hp', storeC T ⟨[], 0, decH hp, 0⟩ t (dec a) (dec x) = some (decH hp') ∧ K hp' = true := by
  unfold storeWW at h
  split at h
  · rename_i hag hsz
    obtain ⟨n, off, ha, h1⟩ := onP_out h
    obtain ⟨s, g, h2, h3, hg⟩ := modW_out h1
    rw [onS_eq] at h3
    rcases recB h3 with ⟨h4, h5⟩ | ⟨_, h5⟩
    · obtain ⟨h6, h7⟩ := fitW_out h5
      obtain ⟨t', h8, h9⟩ := setUW_out h7
      refine ⟨_, ?_, h9⟩
      rw [hg, ha]
      have h4' : Nat.blt off s.n = true := h4
      have h1b : Nat.beq 1 1 = true := rfl
      have hne : ∀ cs, dec x ≠ .agg cs := fun cs e => by
        rw [e] at h6
        generalize kdec s.k s.s.kd = k at h6
        cases k <;> simp [fitsK, isOneC] at h6
      have e : segC ⟨[], 0, decH hp, 0⟩ n = decS s := segC_of h2 _ _ _
      have hd : decS ⟨s.k, s.n, ⟨t', s.s.d, s.s.op, s.s.kd⟩⟩ = .seg (kdec s.k s.s.kd) (setU (dec x) (s.s.t.map dec) (s.s.d.map dec) off) (s.s.d.map dec) s.n s.s.op := by simp only [decS, h8]
      rw [hd]
      unfold decS at e
      generalize dec x = cx at *
      cases cx <;> first | exact absurd rfl (hne _) | (simp only [storeC, e, hsz, h1b, h4', h6, Bool.and_self, forceV_eq, Trie.force_eq])
    · cases h5
  · rename_i sz hag hsz
    obtain ⟨n, off, ha, h1⟩ := onP_out h
    rcases onA_out h1 with ⟨hx, h2⟩ | h2
    · obtain ⟨l1, l2, h3⟩ := onesW_out h2
      obtain ⟨s, g, g2, g3, hg⟩ := modW_out h3
      rw [onS_eq] at g3
      rcases recB g3 with ⟨h4, h5⟩ | ⟨_, h5⟩
      · rcases recB h5 with ⟨h6, h7⟩ | ⟨_, h7⟩
        · obtain ⟨t', h8, h9⟩ := setMW_out h7
          refine ⟨_, ?_, h9⟩
          rw [hg, ha, hx]
          have hk : kdec s.k s.s.kd = .avs := by rw [Nat.eq_of_beq_eq_true h4]; rfl
          have e : segC ⟨[], 0, decH hp, 0⟩ n = decS s := segC_of g2 _ _ _
          have hd : decS ⟨s.k, s.n, ⟨t', s.s.d, s.s.op, s.s.kd⟩⟩ = .seg .avs (setManyC (s.s.t.map dec) (s.s.d.map dec) off (x.l.map dec)) (s.s.d.map dec) s.n s.s.op := by simp only [decS, h8, hk]
          rw [hd]
          unfold decS at e
          rw [hk] at e
          have h6' : Nat.ble (off + sz) s.n = true := h6
          have hb : Nat.beq (x.l.map dec).length sz = true := by rw [l1]; exact Nat.beq_eq.mpr rfl
          simp only [storeC, e, hsz, hb, h6', l2, Bool.and_self, Trie.force_eq]
        · cases h7
      · cases h5
    · cases h2
  · cases h
end mem
end Go.Fw

namespace Go.Fw
open Go Go.RowKit

def kcode : Kind → Nat
  | .ints k => kc k
  | .bools => 8
  | .avs => 9
  | _ => 99
theorem kdec_code (k : Kind) : kdec (kcode k) k = k := by
  cases k with
  | ints k => cases k <;> rfl
  | _ => rfl
abbrev KW := W → HW → Nat → Bool
noncomputable def pushW (hp : HW) (c : Nat) (s : SW) (x : W) (K : KW) : Bool := @Nat.rec (fun _ => Bool) (K x (.cons c s hp) 1) (fun m _ => K x (.cons c s hp) (Nat.succ (Nat.succ m))) c
theorem pushW_eq (hp : HW) (c : Nat) (s : SW) (x : W) (K : KW) : pushW hp c s x K = K x (.cons c s hp) (c + 1) := by cases c <;> rfl
def zerosW (z : Value) : List W := (z.cells.toList.map cvS).map encS
theorem zerosW_dec (z : Value) : (zerosW z).map dec = z.cells.toList.map cvS := map_encS _
def mkT (t : Trie W) (off : Nat) : List W → Trie W
  | [] => t
  | c :: cs => mkT (Trie.set c t off) (off + 1) cs
theorem mkT_dec : ∀ (l : List W) (t : Trie W) (off : Nat), (mkT t off l).map dec = setManyC (t.map dec) [] off (l.map dec)
  | [], t, off => rfl
  | c :: cs, t, off => by
    rw [mkT, mkT_dec cs, Trie.map_set, List.map_cons]
    have : setU (dec c) (t.map dec) [] off = Trie.set (dec c) (t.map dec) off := by unfold setU; split <;> first | rfl | (rename_i h; cases h)
    rw [setManyC, this]

section mem
variable {P : Program} {T : List (Nat × TyI)} {t : Nat} {x y : W} {hp : HW} {c : Nat} {K : KW}

noncomputable def makeSW (bytes sz code : Nat) (kd : Kind) (dz : List W) (ok : Bool) (hp : HW) (c : Nat) (l m : W) (K : KW) : Bool :=
  onN l (onN m (@Bool.rec (fun _ => Bool) false (@Bool.rec (fun _ => Bool) false (@Bool.rec (fun _ => Bool) false (@Bool.rec (fun _ => Bool) false (pushW hp c ⟨code, Nat.mul m.a sz, ⟨.nil, dz, false, kd⟩⟩ ⟨10, c, ⟨0, l.a, m.a, .any⟩, []⟩ K) ok) (Nat.ble m.a 9223372036854775807)) (Nat.ble (Nat.mul bytes m.a) 281474976710656)) (Nat.ble l.a m.a)))
def makeOk (j : TyI) : Bool := Nat.beq j.zero.cells.size j.size && (Nat.blt 0 j.size && allFitsK (kindTy j.d) (j.zero.cells.toList.map cvS))
noncomputable def makeWW (Qm : Nat → Nat → Nat → Kind → List W → Bool → HW → Nat → W → W → KW → Bool) (T : List (Nat × TyI)) (hp : HW) (c : Nat) (t : Nat) (l m : W) (K : KW) : Bool :=
  match elemOfT T t with
  | some (_, j) => Qm j.bytes j.size (kcode (kindTy j.d)) (kindTy j.d) (zerosW j.zero) (makeOk j) hp c l m K
  | none => false
theorem makeWW_out (h : makeWW makeSW T hp c t x y K = true) : ∃ w hp' c', makeC T ⟨[], 0, decH hp, c⟩ t (dec x) (dec y) = some (dec w, decH hp', c') ∧ K w hp' c' = true := by
  unfold makeWW at h
  split at h
  · rename_i e j hel
    obtain ⟨⟨kl, hl⟩, h1⟩ := onN_out h
    obtain ⟨⟨km, hm⟩, h2⟩ := onN_out h1
    rcases recB h2 with ⟨b1, h3⟩ | ⟨_, h3⟩
    · rcases recB h3 with ⟨b2, h4⟩ | ⟨_, h4⟩
      · rcases recB h4 with ⟨b3, h5⟩ | ⟨_, h5⟩
        · rcases recB h5 with ⟨b4, h6⟩ | ⟨_, h6⟩
          · rw [pushW_eq] at h6
            refine ⟨_, _, _, ?_, h6⟩
            rw [hl, hm]
            have b2' : Nat.ble (j.bytes * y.a) 281474976710656 = true := b2
            unfold makeOk at b4
            simp only [makeC, hel, b1, b2', b3, b4, Bool.and_self, pushC_eq]
            simp only [decH, decS, kdec_code, zerosW_dec]
            rfl
          · cases h6
        · cases h5
      · cases h4
    · cases h3
  · cases h
def allocT (T : List (Nat × TyI)) (t : Nat) : Trie W := match tyAt T t with | some i => mkT .nil 0 (zerosW i.zero) | none => .nil
def allocN (T : List (Nat × TyI)) (t : Nat) : Nat := match tyAt T t with | some i => i.zero.cells.size | none => 0
def allocOk (T : List (Nat × TyI)) (t : Nat) : Bool := match tyAt T t with | some i => allOneC (i.zero.cells.toList.map cvS) | none => false
noncomputable def allocW (tr : Trie W) (n : Nat) (ok : Bool) (hp : HW) (c : Nat) (K : KW) : Bool := @Bool.rec (fun _ => Bool) false (pushW hp c ⟨9, n, ⟨tr, [], false, .avs⟩⟩ ⟨9, c, r0, []⟩ K) ok
theorem allocW_out (h : allocW (allocT T t) (allocN T t) (allocOk T t) hp c K = true) : ∃ w hp' c', allocC T ⟨[], 0, decH hp, c⟩ t = some (dec w, decH hp', c') ∧ K w hp' c' = true := by
  rcases recB h with ⟨h1, h2⟩ | ⟨_, h2⟩
  · rw [pushW_eq] at h2
    refine ⟨_, _, _, ?_, h2⟩
    unfold allocOk at h1
    unfold allocC
    split at h1
    · rename_i i hi
      simp only [hi, h1, pushC_eq, decH, decS, allocT, allocN, mkT_dec, zerosW_dec]
      rfl
    · cases h1
  · cases h2
noncomputable def lenL (l : List W) : Nat := @List.rec W (fun _ => Nat) 0 (fun _ _ ih => Nat.succ ih) l
theorem lenL_eq : ∀ l : List W, lenL l = (l.map dec).length
  | [] => rfl
  | x :: l => by
    have : lenL (x :: l) = Nat.succ (lenL l) := rfl
    rw [this, lenL_eq l, List.map_cons, List.length_cons]
noncomputable def boxW (hp : HW) (c : Nat) (x : W) (K : KW) : Bool :=
  onH 15 x (oneW x (pushW hp c ⟨9, 1, ⟨.node (some x) .nil .nil, [], false, .avs⟩⟩ ⟨9, c, r0, []⟩ K)) fun l => onesW (lenL l) l (setMW [] l .nil 0 fun t => pushW hp c ⟨9, lenL l, ⟨t, [], false, .avs⟩⟩ ⟨9, c, r0, []⟩ K)
theorem boxW_out (h : boxW hp c x K = true) : ∃ w hp' c', boxC ⟨[], 0, decH hp, c⟩ (dec x) = some (dec w, decH hp', c') ∧ K w hp' c' = true := by
  rcases onA_out h with ⟨hx, h⟩ | h
  · obtain ⟨_, h2, h3⟩ := onesW_out h
    obtain ⟨t', h4, h5⟩ := setMW_out h3
    rw [pushW_eq] at h5
    refine ⟨_, _, _, ?_, h5⟩
    rw [hx]
    simp only [boxC, h2, pushC_eq, decH, decS, h4, lenL_eq]
    rfl
  · obtain ⟨h1, h2⟩ := oneW_out h
    rw [pushW_eq] at h2
    refine ⟨_, _, _, ?_, h2⟩
    have hne : ∀ cs, dec x ≠ .agg cs := fun cs e => by rw [e] at h1; cases h1
    simp only [decH, decS, Trie.map, Option.map_some]
    clear h2
    revert h1 hne
    generalize dec x = cx
    intro h1 hne
    cases cx <;> first | exact absurd rfl (hne _) | (simp only [boxC, h1, pushC_eq]; rfl)

theorem fitsK_one {k : Kind} {c : CV} (h : fitsK k c = true) : isOneC c = true := by
  revert h; cases k <;> cases c <;> simp [fitsK, isOneC]
/-- The parts of a literal row, one behind the other. -/
noncomputable def onesF (k : Nat) (kd : Kind) (n : Nat) : List W → Bool → Bool := @Nat.rec (fun _ => List W → Bool → Bool) (fun l A => nilL l A) (fun _ ih l A => @List.rec W (fun _ => Bool) false (fun x r _ => fitW k kd x (ih r A)) l) n
theorem onesF_out {k : Nat} {kd : Kind} : ∀ {n : Nat} {l : List W} {A : Bool}, onesF k kd n l A = true → (l.map dec).length = n ∧ allFitsK (kdec k kd) (l.map dec) = true ∧ allOneC (l.map dec) = true ∧ A = true
  | 0, l, A, h => by
    obtain ⟨rfl, h⟩ := nilL_out h
    exact ⟨rfl, rfl, rfl, h⟩
  | n + 1, [], A, h => by cases h
  | n + 1, x :: r, A, h => by
    obtain ⟨h2, h3⟩ := fitW_out (show fitW k kd x (onesF k kd n r A) = true from h)
    obtain ⟨h4, h5, h6, h7⟩ := onesF_out (n := n) h3
    exact ⟨by simpa using h4, by simp only [List.map_cons, allFitsK, h2, h5, Bool.and_self], by simp only [List.map_cons, allOneC, fitsK_one h2, h6, Bool.and_self], h7⟩
noncomputable def partsW (k : Nat) (kd : Kind) (sz : Nat) (ps : List W) : Trie W → Nat → (Trie W → Bool) → Bool :=
  @List.rec W (fun _ => Trie W → Nat → (Trie W → Bool) → Bool) (fun t _ K => K t) (fun x _ ih t off K =>
    onH 15 x (@Bool.rec (fun _ => Bool) false (fitW k kd x (setUW x t [] off fun t => ih t (Nat.succ off) K)) (Nat.beq sz 1)) fun l => onesF k kd sz l (setMW [] l t off fun t => ih t (Nat.add off sz) K)) ps
theorem setMany_app : ∀ (a b : List CV) (t : Trie CV) (d : List CV) (off : Nat), setManyC t d off (a ++ b) = setManyC (setManyC t d off a) d (off + a.length) b
  | [], b, t, d, off => rfl
  | c :: a, b, t, d, off => by
    simp only [List.cons_append, setManyC, setMany_app a b, List.length_cons]
    congr 1; omega
theorem allFits_app {k : Kind} : ∀ {a b : List CV}, allFitsK k a = true → allFitsK k b = true → allFitsK k (a ++ b) = true
  | [], b, _, h => h
  | x :: a, b, h, h2 => by simp only [allFitsK, Bool.and_eq_true] at h; simp only [List.cons_append, allFitsK, Bool.and_eq_true]; exact ⟨h.1, allFits_app h.2 h2⟩
theorem allOne_app : ∀ {a b : List CV}, allOneC a = true → allOneC b = true → allOneC (a ++ b) = true
  | [], b, _, h => h
  | x :: a, b, h, h2 => by simp only [allOneC, Bool.and_eq_true] at h; simp only [List.cons_append, allOneC, Bool.and_eq_true]; exact ⟨h.1, allOne_app h.2 h2⟩
def partsV (sz : Nat) : List CV → Option (List CV)
  | [] => some []
  | x :: r => (match cellsOf x with
    | cs => (match Nat.beq cs.length sz, partsV sz r with
      | true, some l => some (cs ++ l)
      | _, _ => none))
theorem partsW_out {k : Nat} {kd : Kind} {sz : Nat} : ∀ {ps : List W} {t : Trie W} {off : Nat} {K : Trie W → Bool}, partsW k kd sz ps t off K = true →
    ∃ l t', partsV sz (ps.map dec) = some l ∧ allFitsK (kdec k kd) l = true ∧ allOneC l = true ∧ t'.map dec = setManyC (t.map dec) [] off l ∧ K t' = true
  | [], t, off, K, h => ⟨[], t, rfl, rfl, rfl, rfl, h⟩
  | x :: ps, t, off, K, h => by
    rcases onA_out (show onH 15 x (@Bool.rec (fun _ => Bool) false (fitW k kd x (setUW x t [] off fun t => partsW k kd sz ps t (Nat.succ off) K)) (Nat.beq sz 1)) (fun l => onesF k kd sz l (setMW [] l t off fun t => partsW k kd sz ps t (Nat.add off sz) K)) = true from h) with ⟨hx, h1⟩ | h1
    · obtain ⟨g1, g2, g3, g4⟩ := onesF_out h1
      obtain ⟨t1, g5, g6⟩ := setMW_out g4
      obtain ⟨l2, t2, k1, k2, k3, k4, k5⟩ := partsW_out g6
      refine ⟨x.l.map dec ++ l2, t2, ?_, allFits_app g2 k2, allOne_app g3 k3, ?_, k5⟩
      · have hb : Nat.beq (x.l.map dec).length sz = true := by rw [g1]; exact Nat.beq_eq.mpr rfl
        simp only [List.map_cons, partsV, hx, cellsOf, hb, k1]
      · rw [k4, g5, setMany_app, g1]; rfl
    · rcases recB h1 with ⟨g0, h2⟩ | ⟨_, h2⟩
      · obtain ⟨g1, h3⟩ := fitW_out h2
        obtain ⟨t1, g5, g6⟩ := setUW_out h3
        obtain ⟨l2, t2, k1, k2, k3, k4, k5⟩ := partsW_out g6
        have hs := Nat.eq_of_beq_eq_true g0
        subst hs
        have hone := fitsK_one g1
        have hc : cellsOf (dec x) = [dec x] := by
          revert hone
          generalize dec x = cx
          intro hone
          cases cx <;> first | rfl | cases hone
        have hb : Nat.beq 1 1 = true := rfl
        refine ⟨dec x :: l2, t2, ?_, ?_, ?_, ?_, k5⟩
        · simp only [List.map_cons, partsV, hc, List.length_cons, List.length_nil, hb, k1]; rfl
        · simp only [allFitsK, g1, k2, Bool.and_self]
        · simp only [allOneC, hone, k3, Bool.and_self]
        · rw [k4, g5]; rfl
      · cases h2
noncomputable def buildSW (sz code : Nat) (kd : Kind) (n : Nat) (ok : Bool) (hp : HW) (c len : Nat) (ps : List W) (K : KW) : Bool :=
  @Bool.rec (fun _ => Bool) false (partsW code kd sz ps .nil 0 fun t => pushW hp c ⟨code, n, ⟨t, [], false, kd⟩⟩ ⟨10, c, ⟨0, len, len, .any⟩, []⟩ K) ok
/-- Parts in their order. -/
def inOrder : Nat → List (Nat × Operand) → Bool
  | _, [] => true
  | i, p :: r => Nat.beq i p.1 && inOrder (i + 1) r
def bsOk (j : TyI) (len : Nat) (ps : List (Nat × Operand)) : Bool := inOrder 0 ps && (Nat.beq ps.length len && (Nat.blt 0 j.size && (Nat.ble (len * j.size) 16777216 && Nat.beq j.zero.cells.size j.size)))
noncomputable def buildSWW (Qb : Nat → Nat → Kind → Nat → Bool → HW → Nat → Nat → List W → KW → Bool) (T : List (Nat × TyI)) (hp : HW) (c t len : Nat) (ps : List (Nat × Operand)) (vs : List W) (K : KW) : Bool :=
  match elemOfT T t with
  | some (_, j) => Qb j.size (kcode (kindTy j.d)) (kindTy j.d) (len * j.size) (bsOk j len ps) hp c len vs K
  | none => false
theorem partsC_of {s : CSt} {sz : Nat} : ∀ (ps : List (Nat × Operand)) (i : Nat) {l : List CV}, inOrder i ps = true → partsV sz (ps.map fun p => evalC s p.2) = some l → partsC s sz i ps = some l
  | [], i, l, _, h => h
  | (j, x) :: r, i, l, ho, h => by
    simp only [inOrder, Bool.and_eq_true] at ho
    simp only [List.map_cons, partsV] at h
    simp only [partsC, ho.1]
    split at h
    · rename_i l' hb hl
      cases h
      simp only [hb, partsC_of r (i + 1) ho.2 hl]
    · cases h
theorem buildSWW_out {s : CSt} {len : Nat} {ps : List (Nat × Operand)} {vs : List W} (hs : s.hp = decH hp) (hc : s.c = c) (hv : vs.map dec = ps.map fun p => evalC s p.2) (h : buildSWW buildSW T hp c t len ps vs K = true) :
    ∃ w hp' c', buildSliceC T s t len ps = some (dec w, decH hp', c') ∧ K w hp' c' = true := by
  unfold buildSWW at h
  split at h
  · rename_i e j hel
    rcases recB h with ⟨b, h1⟩ | ⟨_, h1⟩
    · obtain ⟨l, t', g1, g2, g3, g4, g5⟩ := partsW_out h1
      rw [pushW_eq] at g5
      refine ⟨_, _, _, ?_, g5⟩
      unfold bsOk at b
      simp only [Bool.and_eq_true] at b
      obtain ⟨b1, b2, b3, b4, b5⟩ := b
      rw [kdec_code] at g2
      rw [hv] at g1
      simp only [buildSliceC, hel, partsC_of ps 0 b1 g1, b2, b3, b4, b5, g2, g3, Bool.and_self, pushC_eq, decH, decS, kdec_code, g4, hs, hc]
      rfl
    · cases h1
  · cases h
end mem
end Go.Fw

namespace Go.Fw
open Go Go.RowKit

section mem
variable {P : Program} {T : List (Nat × TyI)} {t : Nat} {x y : W} {hp : HW} {c : Nat}

/- A struct's parts. -/
noncomputable def dropW (n : Nat) : List W → (List W → Bool) → Bool := @Nat.rec (fun _ => List W → (List W → Bool) → Bool) (fun l K => K l) (fun _ ih l K => @List.rec W (fun _ => Bool) false (fun _ r _ => ih r K) l) n
theorem dropW_out {K : List W → Bool} : ∀ {n : Nat} {l : List W}, dropW n l K = true → n ≤ l.length ∧ K (l.drop n) = true
  | 0, l, h => ⟨Nat.zero_le _, h⟩
  | n + 1, [], h => by cases h
  | n + 1, x :: r, h => by
    obtain ⟨h2, h3⟩ := dropW_out (n := n) (l := r) h
    exact ⟨by rw [List.length_cons]; omega, by rw [List.drop_succ_cons]; exact h3⟩
noncomputable def takeW (n : Nat) : List W → (List W → Bool) → Bool := @Nat.rec (fun _ => List W → (List W → Bool) → Bool) (fun _ K => K []) (fun _ ih l K => @List.rec W (fun _ => Bool) false (fun x r _ => ih r fun r => K (x :: r)) l) n
theorem takeW_out : ∀ {n : Nat} {l : List W} {K : List W → Bool}, takeW n l K = true → n ≤ l.length ∧ K (l.take n) = true
  | 0, l, K, h => ⟨Nat.zero_le _, by rw [List.take_zero]; exact h⟩
  | n + 1, [], K, h => by cases h
  | n + 1, x :: r, K, h => by
    obtain ⟨h2, h3⟩ := takeW_out (n := n) (l := r) (K := fun r => K (x :: r)) h
    exact ⟨by rw [List.length_cons]; omega, by rw [List.take_succ_cons]; exact h3⟩
noncomputable def fieldSW (off : Nat) (x : W) (K : W → Bool) : Bool := onH 15 x false fun l => nthW off l K
noncomputable def fieldAW (off sz : Nat) (x : W) (K : W → Bool) : Bool := onH 15 x false fun l => dropW off l fun l => takeW sz l fun l => K ⟨15, 0, r0, l⟩
noncomputable def fieldWW (Qs : Nat → W → (W → Bool) → Bool) (Qa : Nat → Nat → W → (W → Bool) → Bool) (T : List (Nat × TyI)) (t : Nat) (x : W) (f : Nat) (K : W → Bool) : Bool :=
  match fieldAt? T t f with
  | some (off, e) => (match isAggT T e, sizeAt T e with
    | some true, some s => Qa off s x K
    | some false, some 1 => Qs off x K
    | _, _ => false)
  | none => false
theorem nth?_lt {α : Type} : ∀ {l : List α} {n : Nat} {a : α}, nth? l n = some a → n < l.length := fun {l n a} h => by
  rw [nth?_eq] at h; exact (List.getElem?_eq_some_iff.1 h).1
theorem fieldWW_out {f : Nat} {K : W → Bool} (h : fieldWW fieldSW fieldAW T t x f K = true) : ∃ w, fieldC T t (dec x) f = some (dec w) ∧ K w = true := by
  unfold fieldWW at h
  split at h
  · rename_i off e hf
    split at h
    · rename_i s hag hs
      rcases onA_out h with ⟨hx, h1⟩ | h1
      · obtain ⟨g2, h2⟩ := dropW_out h1
        obtain ⟨g4, h3⟩ := takeW_out h2
        refine ⟨_, ?_, h3⟩
        rw [hx]
        have hb : Nat.ble (off + s) (x.l.map dec).length = true := Nat.ble_eq_true_of_le (by rw [List.length_drop] at g4; rw [List.length_map]; omega)
        simp only [fieldC, hf, cutC, hag, hs, hb]
        rw [dec_agg (x := ⟨15, 0, r0, _⟩) rfl]
        simp [List.map_take, List.map_drop]
      · cases h1
    · rename_i hag hs
      rcases onA_out h with ⟨hx, h1⟩ | h1
      · obtain ⟨w, g1, g2⟩ := nthW_out h1
        refine ⟨w, ?_, g2⟩
        rw [hx]
        have hlt := nth?_lt g1
        have hb : Nat.blt off (x.l.map dec).length = true := by simpa [Nat.blt_eq] using hlt
        have h1b : Nat.beq 1 1 = true := rfl
        simp only [fieldC, hf, cutC, hag, hs, hb, h1b, Bool.and_self]
        rw [nthC_eq, List.getD_eq_getElem?_getD, ← nth?_eq, g1]
        rfl
      · cases h1
    · cases h
  · cases h

/- A struct is built: its cells, laid out. -/
noncomputable def unQ (Qe : List W → Bool → Bool) (Qc : List W → (W → List W → Bool) → Bool) : Nat → List W → List W → (List W → Bool) → Bool
  | 0, l, acc, K => Qe l (K acc)
  | n + 1, l, acc, K => Qc l fun x r => unQ Qe Qc n r (acc ++ [x]) K
noncomputable def endW (l : List W) (A : Bool) : Bool := nilL l A
noncomputable def uncW (l : List W) (K : W → List W → Bool) : Bool := @List.rec W (fun _ => Bool) false (fun x r _ => K x r) l
theorem unQ_out : ∀ {n : Nat} {l : List W} {acc : List W} {K : List W → Bool}, unQ endW uncW n l acc K = true → l.length = n ∧ K (acc ++ l) = true
  | 0, l, acc, K, h => by
    obtain ⟨rfl, h⟩ := nilL_out h
    exact ⟨rfl, by rw [List.append_nil]; exact h⟩
  | n + 1, [], acc, K, h => by cases h
  | n + 1, x :: r, acc, K, h => by
    obtain ⟨g1, g3⟩ := unQ_out (n := n) (l := r) (acc := acc ++ [x]) (K := K) h
    exact ⟨by simp [g1], by rw [List.append_assoc] at g3; exact g3⟩
/-- One cell that is laid into a struct. -/
noncomputable def flatW (x : W) (A : Bool) : Bool := oneW x A
theorem flatW_out {A : Bool} (h : flatW x A = true) : isOneC (dec x) = true ∧ A = true := oneW_out h
def overW (zs : List W) (off : Nat) (cs : List W) : List W := zs.take off ++ cs ++ zs.drop (off + cs.length)
noncomputable def fillW (Qf : W → Bool → Bool) (Qh : W → (List W → Bool) → Bool) (Qe : List W → Bool → Bool) (Qc : List W → (W → List W → Bool) → Bool) (T : List (Nat × TyI)) (d : Ty) : List (Nat × Operand) → List W → List W → (List W → Bool) → Bool
  | [], _, zs, K => K zs
  | (i, _) :: r, v :: vs, zs, K => (match placeC T d i with
    | some (off, sz) => (match Nat.ble (off + sz) zs.length with
      | true => (match d with
        | .struct fs => (match fs[i]? with
          | some (_, e) => (match isAggT T e with
            | some true => Qh v fun l => unQ Qe Qc sz l [] fun cs => fillW Qf Qh Qe Qc T d r vs (overW zs off cs) K
            | _ => (match sz with | 1 => Qf v (fillW Qf Qh Qe Qc T d r vs (overW zs off [v]) K) | _ => false))
          | none => false)
        | .array _ e => (match isAggT T e with
            | some true => Qh v fun l => unQ Qe Qc sz l [] fun cs => fillW Qf Qh Qe Qc T d r vs (overW zs off cs) K
            | _ => (match sz with | 1 => Qf v (fillW Qf Qh Qe Qc T d r vs (overW zs off [v]) K) | _ => false))
        | _ => false)
      | false => false)
    | none => false)
  | _ :: _, [], _, _ => false
noncomputable def aggW (x : W) (K : List W → Bool) : Bool := onH 15 x false K
theorem overW_dec (zs cs : List W) (off : Nat) : (overW zs off cs).map dec = overL (zs.map dec) off (cs.map dec) := by
  simp [overW, overL, List.map_take, List.map_drop]
theorem fillW_out {s : CSt} {d : Ty} : ∀ (ps : List (Nat × Operand)) {vs zs : List W} {K : List W → Bool}, vs.map dec = ps.map (fun p => evalC s p.2) → fillW flatW aggW endW uncW T d ps vs zs K = true →
    ∃ zs', fillC T s d (zs.map dec) ps = some (zs'.map dec) ∧ K zs' = true
  | [], vs, zs, K, _, h => ⟨zs, rfl, by cases vs <;> exact h⟩
  | (i, o) :: r, [], zs, K, hv, h => by cases hv
  | (i, o) :: r, v :: vs, zs, K, hv, h => by
    simp only [List.map_cons, List.cons.injEq] at hv
    unfold fillW at h
    split at h
    · rename_i off sz hpl
      split at h
      · rename_i hb
        have one : sz = 1 → flatW v (fillW flatW aggW endW uncW T d r vs (overW zs off [v]) K) = true → ∃ zs', fillC T s d (zs.map dec) ((i, o) :: r) = some (zs'.map dec) ∧ K zs' = true := fun hsz hh => by
          subst hsz
          obtain ⟨h1, h2⟩ := flatW_out hh
          obtain ⟨zs', g1, g2⟩ := fillW_out r hv.2 h2
          refine ⟨zs', ?_, g2⟩
          rw [overW_dec] at g1
          have hf : flatOk (dec v) = true ∧ flat1 (dec v) = [dec v] := by
            revert h1
            generalize dec v = cx
            intro h1
            cases cx <;> first | exact ⟨rfl, rfl⟩ | cases h1
          have hb' : Nat.ble (off + 1) (zs.map dec).length = true := by rw [List.length_map]; exact hb
          have e11 : Nat.beq [dec v].length 1 = true := rfl
          simp only [fillC, hpl, ← hv.1, hf.1, hf.2, hb', e11, Bool.and_self]
          exact g1
        have agg : aggW v (fun l => unQ endW uncW sz l [] fun cs => fillW flatW aggW endW uncW T d r vs (overW zs off cs) K) = true → ∃ zs', fillC T s d (zs.map dec) ((i, o) :: r) = some (zs'.map dec) ∧ K zs' = true := fun h => by
          rcases onA_out h with ⟨hx, h1⟩ | h1
          · obtain ⟨k1, k3⟩ := unQ_out h1
            rw [List.nil_append] at k3
            obtain ⟨zs', g1, g2⟩ := fillW_out r hv.2 k3
            refine ⟨zs', ?_, g2⟩
            rw [overW_dec] at g1
            have hb' : Nat.ble (off + sz) (zs.map dec).length = true := by rw [List.length_map]; exact hb
            have hl : Nat.beq (v.l.map dec).length sz = true := by rw [List.length_map, k1]; exact Nat.beq_eq.mpr rfl
            simp only [fillC, hpl, ← hv.1, hx, flatOk, flat1, hb', hl, Bool.and_self]
            exact g1
          · cases h1
        cases d <;> simp only [Bool.false_eq_true] at h
        case struct fs =>
          split at h
          · split at h
            · exact agg h
            · split at h
              · exact one rfl h
              · cases h
          · cases h
        case array n e =>
          split at h
          · exact agg h
          · split at h
            · exact one rfl h
            · cases h
      · cases h
    · cases h
noncomputable def buildWW (Qf : W → Bool → Bool) (Qh : W → (List W → Bool) → Bool) (Qe : List W → Bool → Bool) (Qc : List W → (W → List W → Bool) → Bool) (T : List (Nat × TyI)) (t : Nat) (ps : List (Nat × Operand)) (vs : List W) (K : W → Bool) : Bool :=
  match tyAt T t with
  | some i => (match (match i.d with | .struct fs => allSized T fs | .array _ e => (match sizeAt T e with | some _ => true | none => false) | _ => false) with
    | true => fillW Qf Qh Qe Qc T i.d ps vs (zerosW i.zero) fun l => K ⟨15, 0, r0, l⟩
    | false => false)
  | none => false
theorem buildWW_out {s : CSt} {ps : List (Nat × Operand)} {vs : List W} {K : W → Bool} (hv : vs.map dec = ps.map fun p => evalC s p.2) (h : buildWW flatW aggW endW uncW T t ps vs K = true) : ∃ w, buildC T s t ps = some (dec w) ∧ K w = true := by
  unfold buildWW at h
  split at h
  · rename_i i hi
    split at h
    · rename_i hok
      obtain ⟨zs', g1, g2⟩ := fillW_out ps hv h
      refine ⟨_, ?_, g2⟩
      rw [zerosW_dec] at g1
      have fin : some (CV.agg (zs'.map dec)) = some (dec ⟨15, 0, r0, zs'⟩) := by
        rw [dec_agg (x := ⟨15, 0, r0, zs'⟩) rfl]
      rw [← fin]
      unfold buildC
      rw [hi]
      simp only
      cases hd : i.d <;> rw [hd] at hok g1 <;> simp only [Bool.false_eq_true] at hok
      case struct fs => simp only [hok, g1]
      case array n e =>
        cases hs : sizeAt T e with
        | none => rw [hs] at hok; cases hok
        | some z => simp only [hs, g1]
    · cases h
  · cases h

/- Rows that grow. -/
noncomputable def readLW (t : Trie W) (d : List W) (n : Nat) : Nat → (List W → Bool) → Bool :=
  @Nat.rec (fun _ => Nat → (List W → Bool) → Bool) (fun _ K => K []) (fun _ ih off K => cellW t d off fun x => ih (Nat.succ off) fun l => K (x :: l)) n
theorem readLW_out {t : Trie W} {d : List W} : ∀ {n off : Nat} {K : List W → Bool}, readLW t d n off K = true → ∃ l : List W, l.map dec = readC (t.map dec) (d.map dec) off n ∧ K l = true
  | 0, off, K, h => ⟨[], rfl, h⟩
  | n + 1, off, K, h => by
    obtain ⟨w, h1, h2⟩ := cellW_out (show cellW t d off (fun x => readLW t d n (Nat.succ off) fun l => K (x :: l)) = true from h)
    obtain ⟨l, h3, h4⟩ := readLW_out h2
    exact ⟨w :: l, by rw [List.map_cons, h1, h3]; rfl, h4⟩
noncomputable def setLW (d : List W) (l : List W) : Trie W → Nat → (Trie W → Bool) → Bool :=
  @List.rec W (fun _ => Trie W → Nat → (Trie W → Bool) → Bool) (fun t _ K => K t) (fun x _ ih t off K => setUW x t d off fun t => ih t (Nat.succ off) K) l
theorem setLW_out {d : List W} : ∀ {l : List W} {t : Trie W} {off : Nat} {K : Trie W → Bool}, setLW d l t off K = true → ∃ t', t'.map dec = setManyC (t.map dec) (d.map dec) off (l.map dec) ∧ K t' = true
  | [], t, off, K, h => ⟨t, rfl, h⟩
  | x :: l, t, off, K, h => by
    obtain ⟨t1, h1, h2⟩ := setUW_out (show setUW x t d off (fun t => setLW d l t (Nat.succ off) K) = true from h)
    obtain ⟨t2, h3, h4⟩ := setLW_out h2
    exact ⟨t2, by rw [h3, h1, List.map_cons]; rfl, h4⟩
noncomputable def keqW (k k' : Nat) (kd kd' : Kind) (A : Bool) : Bool := @Bool.rec (fun _ => Bool) (@Bool.rec (fun _ => Bool) false A (kindEqB (kdec k kd) (kdec k' kd'))) (@Bool.rec (fun _ => Bool) (@Bool.rec (fun _ => Bool) false A (kindEqB (kdec k kd) (kdec k' kd'))) A (Nat.ble k 9)) (Nat.beq k k')
theorem keqW_out {k k' : Nat} {kd kd' : Kind} {A : Bool} (h : keqW k k' kd kd' A = true) : kindEqB (kdec k kd) (kdec k' kd') = true ∧ A = true := by
  have slow : @Bool.rec (fun _ => Bool) false A (kindEqB (kdec k kd) (kdec k' kd')) = true → kindEqB (kdec k kd) (kdec k' kd') = true ∧ A = true := fun h => by
    rcases recB h with ⟨h1, g⟩ | ⟨_, g⟩
    · exact ⟨h1, g⟩
    · cases g
  rcases recB h with ⟨h1, g⟩ | ⟨_, g⟩
  · rcases recB g with ⟨h2, g⟩ | ⟨_, g⟩
    · refine ⟨?_, g⟩
      have e := Nat.eq_of_beq_eq_true h1
      subst e
      have := Nat.le_of_ble_eq_true h2
      rcases (by omega : k < 8 ∨ k = 8 ∨ k = 9) with h3 | rfl | rfl
      · have h3 : Nat.blt k 8 = true := Nat.ble_eq_true_of_le h3
        unfold kdec
        rw [h3]
        exact ikEq_r _
      · rfl
      · rfl
    · exact slow g
  · exact slow g
/-- What is appended: a row's cells. -/
noncomputable def srcW (hp : HW) (sz : Nat) (y : W) (K : Nat → Kind → List W → Nat → Bool) : Bool :=
  onR y false (getW hp y.a fun s => onS s fun k m t d _ kd => @Bool.rec (fun _ => Bool) false (readLW t d (Nat.mul y.r.c sz) y.r.b fun l => K k kd l y.r.c) (Nat.ble (Nat.add y.r.b (Nat.mul y.r.c sz)) m))
/-- The new row. -/
noncomputable def growSW (sz : Nat) (hp : HW) (c k : Nat) (kd : Kind) (t : Trie W) (d : List W) (off len : Nat) (news : List W) (m : Nat) (K : KW) : Bool :=
  @Nat.rec (fun _ => Bool)
    (@Nat.rec (fun _ => Bool)
      (@List.rec W (fun _ => Bool) (setLW d news t 0 fun t => pushW hp c ⟨k, Nat.mul (Nat.add len m) sz, ⟨t, d, true, kd⟩⟩ ⟨11, c, ⟨0, Nat.add len m, sz, .any⟩, []⟩ K)
        (fun x r _ => @List.rec W (fun _ => Bool) (pushW hp c ⟨k, Nat.mul (Nat.add len m) sz, ⟨.nil, [x], true, kd⟩⟩ ⟨11, c, ⟨0, Nat.add len m, sz, .any⟩, []⟩ K)
          (fun _ _ _ => setLW d news t 0 fun t => pushW hp c ⟨k, Nat.mul (Nat.add len m) sz, ⟨t, d, true, kd⟩⟩ ⟨11, c, ⟨0, Nat.add len m, sz, .any⟩, []⟩ K) r) news)
      (fun l _ => @Nat.rec (fun _ => Bool) false (fun q _ => setLW d news t (Nat.mul len sz) fun t => pushW hp c ⟨k, Nat.mul (Nat.succ q) sz, ⟨t, d, true, kd⟩⟩ ⟨11, c, ⟨0, Nat.succ q, sz, .any⟩, []⟩ K) (Nat.add len m)) len)
    (fun _ _ => readLW t d (Nat.mul len sz) off fun l => setLW [] (l ++ news) .nil 0 fun t => pushW hp c ⟨k, Nat.mul (Nat.add len m) sz, ⟨t, [], true, kd⟩⟩ ⟨11, c, ⟨0, Nat.add len m, sz, .any⟩, []⟩ K) off
theorem growSW_out {s : CSt} {sz k : Nat} {kd : Kind} {tr : Trie W} {d : List W} {off len m : Nat} {news : List W} {K : KW} (hc : s.c = c) (h : growSW sz hp c k kd tr d off len news m K = true) :
    ∃ w hp' c', growC s (decH hp) (kdec k kd) sz (tr.map dec) (d.map dec) off len (news.map dec) m = some (dec w, decH hp', c') ∧ K w hp' c' = true := by
  have fin : ∀ (t' : Trie W) (d' : List W), t'.map dec = growT sz (tr.map dec) (d.map dec) off len (news.map dec) → d'.map dec = growD (d.map dec) off len (news.map dec) →
      pushW hp c ⟨k, Nat.mul (Nat.add len m) sz, ⟨t', d', true, kd⟩⟩ ⟨11, c, ⟨0, Nat.add len m, sz, .any⟩, []⟩ K = true → ∃ w hp' c', growC s (decH hp) (kdec k kd) sz (tr.map dec) (d.map dec) off len (news.map dec) m = some (dec w, decH hp', c') ∧ K w hp' c' = true := fun t' d' h1 h2 h3 => by
    rw [pushW_eq] at h3
    refine ⟨_, _, _, ?_, h3⟩
    simp only [growC, pushC_eq, decH, decS, h1, h2, hc]
    rfl
  have set0 : off = 0 → (∀ x, len = 0 → news ≠ [x]) → ∀ o, o = len * sz → setLW d news tr o (fun t => pushW hp c ⟨k, Nat.mul (Nat.add len m) sz, ⟨t, d, true, kd⟩⟩ ⟨11, c, ⟨0, Nat.add len m, sz, .any⟩, []⟩ K) = true →
      ∃ w hp' c', growC s (decH hp) (kdec k kd) sz (tr.map dec) (d.map dec) off len (news.map dec) m = some (dec w, decH hp', c') ∧ K w hp' c' = true := fun h0 hne o ho h1 => by
    obtain ⟨t', g1, g2⟩ := setLW_out h1
    subst h0 ho
    have e : growT sz (tr.map dec) (d.map dec) 0 len (news.map dec) = setManyC (tr.map dec) (d.map dec) (len * sz) (news.map dec) ∧ growD (d.map dec) 0 len (news.map dec) = d.map dec := by
      unfold growT growD
      match len, news, hne with
      | 0, [], _ => exact ⟨rfl, rfl⟩
      | 0, [x], hne => exact absurd rfl (hne x rfl)
      | 0, x :: y :: r, _ => exact ⟨rfl, rfl⟩
      | n + 1, l, _ => exact ⟨rfl, rfl⟩
    exact fin t' d (by rw [e.1]; exact g1) (by rw [e.2]) g2
  cases off with
  | zero =>
    cases len with
    | zero =>
      match news, h, set0 with
      | [], h, set0 => exact set0 rfl (by simp) 0 (by simp) h
      | x :: y :: r, h, set0 => exact set0 rfl (by simp) 0 (by simp) h
      | [x], h, _ => exact fin .nil [x] rfl rfl h
    | succ l =>
      have h : @Nat.rec (fun _ => Bool) false (fun q _ => setLW d news tr (Nat.mul (l + 1) sz) fun t => pushW hp c ⟨k, Nat.mul (Nat.succ q) sz, ⟨t, d, true, kd⟩⟩ ⟨11, c, ⟨0, Nat.succ q, sz, .any⟩, []⟩ K) (Nat.add (l + 1) m) = true := h
      have e : Nat.add (l + 1) m = Nat.succ (l + m) := by show l + 1 + m = l + m + 1; omega
      rw [e] at h
      rw [e] at set0
      exact set0 rfl (fun _ h => by cases h) _ rfl h
  | succ o =>
    obtain ⟨l, g1, g2⟩ := readLW_out (show readLW tr d (Nat.mul len sz) (o + 1) _ = true from h)
    obtain ⟨t', g3, g4⟩ := setLW_out g2
    refine fin t' [] ?_ rfl g4
    rw [g3, List.map_append, g1]
    rfl
end mem
end Go.Fw

namespace Go.Fw
open Go Go.RowKit

section mem
variable {P : Program} {T : List (Nat × TyI)} {t t2 : Nat} {x y : W} {hp : HW} {c : Nat} {K : KW}
/-- Nothing at all, and rows. -/
noncomputable def onNils (x : W) (E : Bool) (A : Bool) : Bool := @Bool.rec (fun _ => Bool) E (@CV.casesOn (fun _ => Bool) x.r.o E (fun _ => E) (fun _ _ => E) (fun _ _ => E) (fun _ _ _ => E) (fun _ => E) A E E E (fun _ _ _ _ => E) (fun _ _ _ _ => E) (fun _ _ => E) (fun _ => E) (fun _ => E) (fun _ => E) (fun _ _ => E) (fun _ _ => E)) (Nat.beq x.t 12)
theorem onNils_out {E A : Bool} (h : onNils x E A = true) : (dec x = .nils ∧ A = true) ∨ E = true := by
  rcases recB h with ⟨h1, g⟩ | ⟨_, g⟩
  · rw [dec_oth (Nat.eq_of_beq_eq_true h1)]
    revert g
    generalize x.r.o = o
    intro g
    cases o <;> first | exact .inl ⟨rfl, g⟩ | exact .inr g
  · exact .inr g
/-- Is it a row's kind? -/
def appKindOk (j : TyI) (k : Kind) : Bool := Nat.blt 0 j.size && (Nat.beq j.zero.cells.size j.size && (zeroFitsK k j.zero && oneSz k j.size))
/-- May it be laid over a row of this kind? -/
noncomputable def cpkW (k k' : Nat) (kd kd' : Kind) (n : Nat) (l : List W) (A : Bool) : Bool :=
  @Bool.rec (fun _ => Bool) (@Bool.rec (fun _ => Bool) (@Bool.rec (fun _ => Bool) false (onesF k kd n l A) (avsB (kdec k kd) (kdec k' kd'))) A (kindEqB (kdec k kd) (kdec k' kd'))) (keqW k k' kd kd' A) (Nat.beq k k')
theorem cpkW_out {k k' : Nat} {kd kd' : Kind} {n : Nat} {l : List W} {A : Bool} (h : cpkW k k' kd kd' n l A = true) : okCp (kdec k kd) (kdec k' kd') (l.map dec) = true ∧ A = true := by
  rcases recB h with ⟨_, g⟩ | ⟨_, g⟩
  · obtain ⟨h1, h2⟩ := keqW_out g
    exact ⟨by simp only [okCp, h1], h2⟩
  · rcases recB g with ⟨h1, g⟩ | ⟨h1, g⟩
    · exact ⟨by simp only [okCp, h1], g⟩
    · rcases recB g with ⟨h2, g⟩ | ⟨_, g⟩
      · obtain ⟨_, h3, _, h4⟩ := onesF_out g
        exact ⟨by simp only [okCp, h1, h2, h3, Bool.and_self], h4⟩
      · cases g
/-- A number worked out. -/
noncomputable def fN (n : Nat) (K : Nat → Bool) : Bool := @Nat.rec (fun _ => Bool) (K 0) (fun q _ => K (Nat.succ q)) n
theorem fN_eq (n : Nat) (K : Nat → Bool) : fN n K = K n := by cases n <;> rfl
/-- Is there room? -/
noncomputable def tryIn (sz : Nat) (hp : HW) (x : W) (m : Nat) (E A : Bool) : Bool :=
  @Bool.rec (fun _ => Bool)
    (@Bool.rec (fun _ => Bool) E
      (@Bool.rec (fun _ => Bool) E (getW hp x.a fun s => onS s fun _ mm _ _ _ _ => @Bool.rec (fun _ => Bool) E A (Nat.ble (Nat.add x.r.b (Nat.mul (Nat.add x.r.c m) sz)) mm)) (Nat.beq x.r.d sz))
      (Nat.beq x.t 11))
    (@Bool.rec (fun _ => Bool) E A (Nat.ble (Nat.add x.r.c m) x.r.d))
    (Nat.beq x.t 10)
theorem tryIn_out {sz m : Nat} {E A : Bool} (h : tryIn sz hp x m E A = true) :
    (A = true ∧ ((Nat.beq x.t 10 = true ∧ Nat.ble (x.r.c + m) x.r.d = true) ∨ (Nat.beq x.t 11 = true ∧ Nat.beq x.r.d sz = true ∧ ∃ s : SW, (decH hp).get x.a = some (decS s) ∧ Nat.ble (x.r.b + (x.r.c + m) * sz) s.n = true))) ∨
    (E = true ∧ (Nat.beq x.t 10 = true → Nat.ble (x.r.c + m) x.r.d = false) ∧ (Nat.beq x.t 11 = true → Nat.beq x.r.d sz = true → ∃ s : SW, (decH hp).get x.a = some (decS s) ∧ Nat.ble (x.r.b + (x.r.c + m) * sz) s.n = false)) := by
  have ne : ∀ {a b c : Nat}, Nat.beq a b = true → Nat.beq a c = true → b = c := fun h1 h2 => (Nat.eq_of_beq_eq_true h1).symm.trans (Nat.eq_of_beq_eq_true h2)
  rcases recB h with ⟨b1, h1⟩ | ⟨b1, h1⟩
  · rcases recB h1 with ⟨b2, h2⟩ | ⟨b2, h2⟩
    · exact .inl ⟨h2, .inl ⟨b1, b2⟩⟩
    · exact .inr ⟨h2, fun _ => b2, fun b3 => absurd (ne b1 b3) (by decide)⟩
  · rcases recB h1 with ⟨b2, h2⟩ | ⟨b2, h2⟩
    · rcases recB h2 with ⟨b3, h3⟩ | ⟨b3, h3⟩
      · obtain ⟨s, q1, q2⟩ := getW_out h3
        rw [onS_eq] at q2
        rcases recB q2 with ⟨b4, h4⟩ | ⟨b4, h4⟩
        · exact .inl ⟨h4, .inr ⟨b2, b3, s, q1, b4⟩⟩
        · exact .inr ⟨h4, fun h => (by rw [b1] at h; cases h), fun _ _ => ⟨s, q1, b4⟩⟩
      · exact .inr ⟨h3, fun h => (by rw [b1] at h; cases h), fun _ h => (by rw [b3] at h; cases h)⟩
    · exact .inr ⟨h2, fun h => (by rw [b1] at h; cases h), fun h => (by rw [b2] at h; cases h)⟩
/-- In place. -/
noncomputable def appInW (bytes sz : Nat) (hp : HW) (c : Nat) (x : W) (K : KW) (k : Nat) (kd : Kind) (news : List W) (m : Nat) : Bool :=
  modW hp x.a (fun s K => onS s fun k' mm t d op kd' => cpkW k' k kd' kd (Nat.mul m sz) news (@Bool.rec (fun _ => Bool) false (@Bool.rec (fun _ => Bool) false (setLW d news t (Nat.add x.r.b (Nat.mul x.r.c sz)) fun t => K ⟨k', mm, ⟨t, d, op, kd'⟩⟩)
    (Nat.ble (Nat.add x.r.b (Nat.mul (Nat.add x.r.c m) sz)) mm)) (Nat.ble (Nat.mul m bytes) 140737488355328)))
    fun hp => fN x.t fun t => fN x.a fun a => fN x.r.b fun b => fN x.r.d fun d => fN (Nat.add x.r.c m) fun l => K ⟨t, a, ⟨b, l, d, .any⟩, []⟩ hp c
theorem appInW_out {env : List CV} {m0 : Nat} {j : TyI} {k : Nat} {kd : Kind} {news : List W} {m : Nat} (ht : Nat.beq x.t 10 = true ∨ Nat.beq x.t 11 = true) (h : appInW j.bytes j.size hp c x K k kd news m = true) :
    ∃ w hp' c', inGo ⟨env, m0, decH hp, c⟩ j (kdec k kd) (news.map dec) m x.a x.r.b x.r.c (dec ⟨x.t, x.a, ⟨x.r.b, x.r.c + m, x.r.d, .any⟩, []⟩) = some (dec w, decH hp', c') ∧ K w hp' c' = true := by
  obtain ⟨s, g, q1, q2, q3⟩ := modW_out h
  rw [onS_eq] at q2
  obtain ⟨q4, q5⟩ := cpkW_out q2
  rcases recB q5 with ⟨b1, h1⟩ | ⟨_, h1⟩
  · rcases recB h1 with ⟨b2, h2⟩ | ⟨_, h2⟩
    · obtain ⟨t', k1, k2⟩ := setLW_out h2
      simp only [fN_eq] at k2
      refine ⟨_, _, c, ?_, k2⟩
      have e : segC ⟨env, m0, decH hp, c⟩ x.a = decS s := segC_of q1 _ _ _
      unfold decS at e
      have b1' : Nat.ble (m * j.bytes) 140737488355328 = true := b1
      have b2' : Nat.ble (x.r.b + (x.r.c + m) * j.size) s.n = true := b2
      simp only [inGo, e, q4, b1', b2', Bool.and_self]
      rw [q3]
      simp only [decS, k1]
      rfl
    · cases h2
  · cases h1
noncomputable def appRes (T : List (Nat × TyI)) (s : CSt) (t t2 : Nat) (x y : CV) : Option (CV × AL CSeg × Nat) :=
  match appendNil x y with
  | some z => (match elemOfT T t, tyAt T t2 with
    | some _, some i => (match i.d with | .slice _ => some (z, s.hp, s.c) | _ => none)
    | _, _ => none)
  | none => appendC T s t t2 x y
theorem srcW_out {sz : Nat} {Ks : Nat → Kind → List W → Nat → Bool} {env : List CV} {m0 : Nat} {i : TyI} {e : TypeId} (hi : tyAt T t2 = some i) (hd : i.d = .slice e) (h : srcW hp sz y Ks = true) :
    ∃ k kd l m, srcC T ⟨env, m0, decH hp, c⟩ t2 sz (dec y) = some (kdec k kd, l.map dec, m) ∧ Ks k kd l m = true ∧ appendNil (dec x) (dec y) = none := by
  rcases onR_out h with ⟨hy, h1⟩ | h1
  · obtain ⟨s, h2, h3⟩ := getW_out h1
    rw [onS_eq] at h3
    rcases recB h3 with ⟨h4, h5⟩ | ⟨_, h5⟩
    · obtain ⟨l, h6, h7⟩ := readLW_out h5
      refine ⟨s.k, s.s.kd, l, y.r.c, ?_, h7, ?_⟩
      · have h4' : Nat.ble (y.r.b + y.r.c * sz) s.n = true := h4
        have e : segC ⟨env, m0, decH hp, c⟩ y.a = decS s := segC_of h2 _ _ _
        unfold decS at e
        rw [h6]
        rcases hy with hy | hy <;> rw [hy] <;> simp only [srcC, hi, hd, e, h4'] <;> rfl
      · rcases hy with hy | hy <;> rw [hy] <;> rfl
    · cases h5
  · cases h1
/-- What is appended is known. -/
noncomputable def appOld (bytes sz : Nat) (hp : HW) (c : Nat) (x : W) (K : KW) (k : Nat) (kd : Kind) (news : List W) (m : Nat) : Bool :=
      onNils x
        (@Bool.rec (fun _ => Bool)
          (@Bool.rec (fun _ => Bool) false
            (getW hp x.a fun s => onS s fun k' mm tr d _ kd' => keqW k' k kd' kd (@Bool.rec (fun _ => Bool) false (@Bool.rec (fun _ => Bool) false (@Bool.rec (fun _ => Bool) false (growSW sz hp c k kd tr d x.r.b x.r.c news m K)
              (Nat.ble (Nat.add x.r.c m) 9223372036854775807)) (Nat.ble (Nat.mul (Nat.add x.r.c m) bytes) 140737488355328)) (Nat.ble (Nat.add x.r.b (Nat.mul x.r.d sz)) mm))) (Nat.beq x.t 10))
          (@Bool.rec (fun _ => Bool) false
            (getW hp x.a fun s => onS s fun k' mm tr d _ kd' => keqW k' k kd' kd (@Bool.rec (fun _ => Bool) false (@Bool.rec (fun _ => Bool) false (@Bool.rec (fun _ => Bool) false (delW hp x.a fun hp => growSW sz hp c k kd tr d x.r.b x.r.c news m K)
              (Nat.ble (Nat.add x.r.c m) 9223372036854775807)) (Nat.ble (Nat.mul (Nat.add x.r.c m) bytes) 140737488355328)) (Nat.ble (Nat.add x.r.b (Nat.mul x.r.c sz)) mm))) (Nat.beq x.r.d sz)) (Nat.beq x.t 11))
        (@Bool.rec (fun _ => Bool) false (@Bool.rec (fun _ => Bool) false (growSW sz hp c k kd .nil [] 0 0 news m K) (Nat.ble m 9223372036854775807)) (Nat.ble (Nat.mul m bytes) 140737488355328))
noncomputable def appGo (bytes sz : Nat) (okK : Kind → Bool) (hp : HW) (c : Nat) (x : W) (K : KW) (k : Nat) (kd : Kind) (news : List W) (m : Nat) : Bool :=
  @Bool.rec (fun _ => Bool) false (tryIn sz hp x m (appOld bytes sz hp c x K k kd news m) (appInW bytes sz hp c x K k kd news m)) (okK (kdec k kd))
noncomputable def appSW (bytes sz : Nat) (okK : Kind → Bool) (str : Bool) (hp : HW) (c : Nat) (x y : W) (fb : Bool) (K : KW) : Bool :=
  onNils y (srcW hp sz y (appGo bytes sz okK hp c x K)) (onNils x (onR x false (K x hp c)) (K x hp c))
theorem appGo_out {env : List CV} {m0 : Nat} {e0 : TypeId} {j : TyI} {k : Nat} {kd : Kind} {news : List W} {m : Nat} (hel : elemOfT T t = some (e0, j)) (g1 : srcZ T ⟨env, m0, decH hp, c⟩ t2 j (dec y) = some (kdec k kd, news.map dec, m)) (g3 : appendNil (dec x) (dec y) = none)
    (g2 : appGo j.bytes j.size (appKindOk j) hp c x K k kd news m = true) : ∃ w hp' c', appRes T ⟨env, m0, decH hp, c⟩ t t2 (dec x) (dec y) = some (dec w, decH hp', c') ∧ K w hp' c' = true := by
  rcases recB g2 with ⟨b0, h20⟩ | ⟨_, h2⟩
  · unfold appKindOk at b0
    have bz : (Nat.blt 0 j.size && Nat.beq j.zero.cells.size j.size) = true := by
      simp only [Bool.and_eq_true] at b0 ⊢; exact ⟨b0.1, b0.2.1⟩
    have resI : ∀ {r : CV × AL CSeg × Nat}, inC T ⟨env, m0, decH hp, c⟩ t t2 (dec x) (dec y) = some r → appRes T ⟨env, m0, decH hp, c⟩ t t2 (dec x) (dec y) = some r := fun hr => by
      unfold appRes; rw [g3]; simp only [appendC, hr]
    rcases tryIn_out h20 with ⟨h2, hroom⟩ | ⟨h2, hno⟩
    · rcases hroom with ⟨c1, c2⟩ | ⟨c1, c2, s, c3, c4⟩
      · obtain ⟨w, hp', c', k1, k2⟩ := appInW_out (env := env) (m0 := m0) (.inl c1) h2
        refine ⟨w, hp', c', resI ?_, k2⟩
        have hx := dec_slice (Nat.eq_of_beq_eq_true c1)
        have hx2 : dec ⟨x.t, x.a, ⟨x.r.b, x.r.c + m, x.r.d, .any⟩, []⟩ = .slice x.a x.r.b (x.r.c + m) x.r.d := dec_slice (Nat.eq_of_beq_eq_true c1)
        rw [hx2] at k1
        rw [hx]
        simp only [inC, hel, bz, g1, c2]
        exact k1
      · obtain ⟨w, hp', c', k1, k2⟩ := appInW_out (env := env) (m0 := m0) (.inr c1) h2
        refine ⟨w, hp', c', resI ?_, k2⟩
        have hx := dec_tail (Nat.eq_of_beq_eq_true c1)
        have hx2 : dec ⟨x.t, x.a, ⟨x.r.b, x.r.c + m, x.r.d, .any⟩, []⟩ = .tail x.a x.r.b (x.r.c + m) x.r.d := dec_tail (Nat.eq_of_beq_eq_true c1)
        rw [hx2] at k1
        have e : segC ⟨env, m0, decH hp, c⟩ x.a = decS s := segC_of c3 _ _ _
        unfold decS at e
        rw [hx]
        simp only [inC, hel, bz, g1, e, c2, c4, Bool.and_self]
        exact k1
    have noIn : (∀ n off len cap, dec x = .slice n off len cap → Nat.ble (len + m) cap = false) → (∀ n off len sz, dec x = .tail n off len sz → Nat.beq sz j.size = true → ∃ s : SW, (decH hp).get n = some (decS s) ∧ Nat.ble (off + (len + m) * j.size) s.n = false) → inC T ⟨env, m0, decH hp, c⟩ t t2 (dec x) (dec y) = none := fun f1 f2 => by
      unfold inC
      simp only [hel, bz, g1]
      split
      · rename_i n off len cap hx; simp only [f1 _ _ _ _ hx]
      · rename_i n off len sz hx
        split
        · rename_i k' tr d mm op hseg
          cases hbq : Nat.beq sz j.size with
          | false => simp
          | true =>
            obtain ⟨s, q1, q2⟩ := f2 _ _ _ _ hx hbq
            have e : segC ⟨env, m0, decH hp, c⟩ n = decS s := segC_of q1 _ _ _
            rw [e] at hseg
            unfold decS at hseg
            cases hseg
            simp only [q2, Bool.and_false]
        · rfl
      · rfl
    have noFar : (∀ n off len cap, dec x ≠ .slice n off len cap) → farC T ⟨env, m0, decH hp, c⟩ t t2 (dec x) (dec y) = none := fun f1 => by
      unfold farC
      simp only [hel, g1, b0]
    have res : ∀ {r : Option (CV × AL CSeg × Nat)}, inC T ⟨env, m0, decH hp, c⟩ t t2 (dec x) (dec y) = none → farC T ⟨env, m0, decH hp, c⟩ t t2 (dec x) (dec y) = none → appendO T ⟨env, m0, decH hp, c⟩ t t2 (dec x) (dec y) = r → appRes T ⟨env, m0, decH hp, c⟩ t t2 (dec x) (dec y) = r := fun hn hf hr => by
      unfold appRes; rw [g3]; simp only [appendC, hn, hf]; exact hr
    have resF : ∀ {r : CV × AL CSeg × Nat}, inC T ⟨env, m0, decH hp, c⟩ t t2 (dec x) (dec y) = none → farC T ⟨env, m0, decH hp, c⟩ t t2 (dec x) (dec y) = some r → appRes T ⟨env, m0, decH hp, c⟩ t t2 (dec x) (dec y) = some r := fun hn hf => by
      unfold appRes; rw [g3]; simp only [appendC, hn, hf]
    rcases onNils_out h2 with ⟨hx, h3⟩ | h3
    · rcases recB h3 with ⟨b1, h4⟩ | ⟨_, h4⟩
      · rcases recB h4 with ⟨b2, h5⟩ | ⟨_, h5⟩
        · obtain ⟨w, hp', c', k1, k2⟩ := growSW_out (s := ⟨env, m0, decH hp, c⟩) rfl h5
          refine ⟨w, hp', c', res (noIn (fun _ _ _ _ h => by rw [hx] at h; cases h) fun _ _ _ _ h => by rw [hx] at h; cases h) (noFar fun _ _ _ _ h => by rw [hx] at h; cases h) ?_, k2⟩
          have b1' : Nat.ble (m * j.bytes) 140737488355328 = true := b1
          simp only [appendO, hel, g1, b0, hx, b1', b2, Bool.and_self]
          exact k1
        · cases h5
      · cases h4
    · rcases recB h3 with ⟨b1, h5⟩ | ⟨_, h5⟩
      · rcases recB h5 with ⟨b2, h6⟩ | ⟨_, h6⟩
        · obtain ⟨s, q1, q2⟩ := getW_out h6
          rw [onS_eq] at q2
          obtain ⟨q3, q4⟩ := keqW_out q2
          rcases recB q4 with ⟨b3, h7⟩ | ⟨_, h7⟩
          · rcases recB h7 with ⟨b4, h8⟩ | ⟨_, h8⟩
            · rcases recB h8 with ⟨b5, h9⟩ | ⟨_, h9⟩
              · obtain ⟨hp1, q5, q6⟩ := delW_out h9
                obtain ⟨w, hp', c', k1, k2⟩ := growSW_out (s := ⟨env, m0, decH hp, c⟩) rfl q6
                have hx := dec_tail (Nat.eq_of_beq_eq_true b1)
                refine ⟨w, hp', c', res (noIn (fun _ _ _ _ h => by rw [hx] at h; cases h) fun _ _ _ _ h => by rw [hx] at h; cases h; exact hno.2 b1) (noFar fun _ _ _ _ h => by rw [hx] at h; cases h) ?_, k2⟩
                have e : segC ⟨env, m0, decH hp, c⟩ x.a = decS s := segC_of q1 _ _ _
                unfold decS at e
                have b3' : Nat.ble (x.r.b + x.r.c * j.size) s.n = true := b3
                have b4' : Nat.ble ((x.r.c + m) * j.bytes) 140737488355328 = true := b4
                have b5' : Nat.ble (x.r.c + m) 9223372036854775807 = true := b5
                rw [hx]
                simp only [appendO, hel, g1, b0, e, q3, b2, b3', b4', b5', Bool.and_self]
                rw [← q5]
                exact k1
              · cases h9
            · cases h8
          · cases h7
        · cases h6
      · rcases recB h5 with ⟨b2, h6⟩ | ⟨_, h6⟩
        · obtain ⟨s, q1, q2⟩ := getW_out h6
          rw [onS_eq] at q2
          obtain ⟨q3, q4⟩ := keqW_out q2
          rcases recB q4 with ⟨b3, h7⟩ | ⟨_, h7⟩
          · rcases recB h7 with ⟨b4, h8⟩ | ⟨_, h8⟩
            · rcases recB h8 with ⟨b5, h9⟩ | ⟨_, h9⟩
              · obtain ⟨w, hp', c', k1, k2⟩ := growSW_out (s := ⟨env, m0, decH hp, c⟩) rfl h9
                have hx := dec_slice (Nat.eq_of_beq_eq_true b2)
                have hno1 := hno.1 b2
                refine ⟨w, hp', c', resF (noIn (fun _ _ _ _ h => by rw [hx] at h; cases h; exact hno1) fun _ _ _ _ h => by rw [hx] at h; cases h) ?_, k2⟩
                have e : segC ⟨env, m0, decH hp, c⟩ x.a = decS s := segC_of q1 _ _ _
                unfold decS at e
                have b3' : Nat.ble (x.r.b + x.r.d * j.size) s.n = true := b3
                have b4' : Nat.ble ((x.r.c + m) * j.bytes) 140737488355328 = true := b4
                have b5' : Nat.ble (x.r.c + m) 9223372036854775807 = true := b5
                rw [hx]
                simp only [farC, hel, g1, b0, e, q3, b3', b4', b5', hno1, Bool.and_self, Bool.not_false]
                exact k1
              · cases h9
            · cases h8
          · cases h7
        · cases h6
  · cases h2

/-- A text's bytes. -/
noncomputable def bytesK (l : List UInt8) : (List W → Bool) → Bool :=
  @List.rec UInt8 (fun _ => (List W → Bool) → Bool) (fun K => K []) (fun b _ ih K => ih fun r => @Nat.rec (fun _ => Bool) (K (⟨4, 0, r0, []⟩ :: r)) (fun n _ => K (⟨4, Nat.succ n, r0, []⟩ :: r)) b.toNat) l
theorem bytesK_out : ∀ {l : List UInt8} {K : List W → Bool}, bytesK l K = true → ∃ r : List W, r.map dec = l.map (fun b => CV.int .u8 (.ofNat b.toNat)) ∧ K r = true
  | [], K, h => ⟨[], rfl, h⟩
  | b :: l, K, h => by
    obtain ⟨r, h1, h2⟩ := bytesK_out (l := l) (K := fun r => @Nat.rec (fun _ => Bool) (K (⟨4, 0, r0, []⟩ :: r)) (fun n _ => K (⟨4, Nat.succ n, r0, []⟩ :: r)) b.toNat) h
    refine ⟨⟨4, b.toNat, r0, []⟩ :: r, by rw [List.map_cons, h1]; rfl, ?_⟩
    revert h2
    cases b.toNat <;> exact id
noncomputable def onStr (y : W) (K : ByteArray → Bool) : Bool := @Bool.rec (fun _ => Bool) false (match y.r.o with | .str b => K b | _ => false) (Nat.beq y.t 12)
theorem onStr_out {K : ByteArray → Bool} (h : onStr y K = true) : ∃ b, dec y = .str b ∧ K b = true := by
  rcases recB h with ⟨h1, g⟩ | ⟨_, g⟩
  · rw [dec_oth (Nat.eq_of_beq_eq_true h1)]
    split at g
    · rename_i b hb; exact ⟨b, hb, g⟩
    · cases g
  · cases g
noncomputable def appTW (bytes : Nat) (okK : Kind → Bool) (hp : HW) (c : Nat) (x y : W) (K : KW) : Bool := onStr y fun b => bytesK b.data.toList fun news => @Nat.rec (fun _ => Bool) (appGo bytes 1 okK hp c x K 4 .avs news 0) (fun m _ => appGo bytes 1 okK hp c x K 4 .avs news (Nat.succ m)) b.data.toList.length
noncomputable def appWW (Qa : Nat → Nat → (Kind → Bool) → Bool → HW → Nat → W → W → Bool → KW → Bool) (Qt : Nat → (Kind → Bool) → HW → Nat → W → W → KW → Bool)
    (Qz : Nat → Nat → (Kind → Bool) → Nat → Kind → List W → (Nat → Bool) → HW → Nat → W → W → KW → Bool) (T : List (Nat × TyI)) (t t2 : Nat) (hp : HW) (c : Nat) (x y : W) (K : KW) : Bool :=
  match elemOfT T t, tyAt T t2 with
  | some (_, j), some i => (match i.d with | .slice _ => Qa j.bytes j.size (appKindOk j) false hp c x y false K | .str => (match j.size with | 1 => Qt j.bytes (appKindOk j) hp c x y K | _ => false) | .int _ => Qz j.bytes j.size (appKindOk j) (kcode (kindTy j.d)) (kindTy j.d) (zerosW j.zero) (zeroOk j) hp c x y K | _ => false)
  | _, _ => false
theorem srcZ_of {s : CSt} {j : TyI} {y : CV} {r : Kind × List CV × Nat} (h : srcC T s t2 j.size y = some r) : srcZ T s t2 j y = some r := by
  unfold srcZ
  split
  · unfold srcC at h
    split at h
    · split at h <;> first | cases h | (rename_i hx; cases hx)
    · cases h
  · exact h
noncomputable def repW (dz : List W) (m : Nat) : (List W → Bool) → Bool := @Nat.rec (fun _ => (List W → Bool) → Bool) (fun K => K []) (fun _ ih K => ih fun l => K (dz ++ l)) m
theorem repW_out {dz : List W} : ∀ {m : Nat} {K : List W → Bool}, repW dz m K = true → ∃ l : List W, l.map dec = repL (dz.map dec) m ∧ K l = true
  | 0, K, h => ⟨[], rfl, h⟩
  | m + 1, K, h => by
    obtain ⟨l, h1, h2⟩ := repW_out (m := m) (K := fun l => K (dz ++ l)) h
    exact ⟨_, by rw [List.map_append, h1]; rfl, h2⟩
/-- So many zeros. -/
noncomputable def appZW (bytes sz : Nat) (okK : Kind → Bool) (code : Nat) (kd : Kind) (dz : List W) (ok : Nat → Bool) (hp : HW) (c : Nat) (x y : W) (K : KW) : Bool :=
  onN y (@Bool.rec (fun _ => Bool) false (fN y.a fun m => repW dz m fun news => appGo bytes sz okK hp c x K code kd news m) (ok y.a))
theorem appWW_out {env : List CV} {m0 : Nat} (h : appWW appSW appTW appZW T t t2 hp c x y K = true) : ∃ w hp' c', appRes T ⟨env, m0, decH hp, c⟩ t t2 (dec x) (dec y) = some (dec w, decH hp', c') ∧ K w hp' c' = true := by
  unfold appWW at h
  split at h
  · rename_i e0 j i hel hi
    split at h
    · rename_i e1 hd
      rcases onNils_out h with ⟨hy, h1⟩ | h1
      · -- nil is appended
        refine ⟨x, hp, c, ?_, ?_⟩
        · have : appendNil (dec x) (dec y) = some (dec x) := by
            rw [hy]
            rcases onNils_out h1 with ⟨hx, _⟩ | h2
            · rw [hx]; rfl
            · rcases onR_out h2 with ⟨hx | hx, _⟩ | h3
              · rw [hx]; rfl
              · rw [hx]; rfl
              · cases h3
          simp only [appRes, this, hel, hi, hd]
        · rcases onNils_out h1 with ⟨_, h2⟩ | h2
          · exact h2
          · rcases onR_out h2 with ⟨_, h3⟩ | h3
            · exact h3
            · cases h3
      · obtain ⟨k, kd, news, m, g1, g2, g3⟩ := srcW_out (x := x) (c := c) (env := env) (m0 := m0) hi hd h1
        exact appGo_out hel (srcZ_of g1) g3 g2
    · rename_i hd
      split at h
      · rename_i hj
        obtain ⟨b, hy, h1⟩ := onStr_out h
        obtain ⟨news, h2, h3⟩ := bytesK_out h1
        have hb1 : Nat.beq j.size 1 = true := by rw [hj]; rfl
        have hsz : b.size = b.data.toList.length := by simp
        refine appGo_out (y := y) (m := b.data.toList.length) (k := 4) (kd := .avs) (news := news) hel (srcZ_of ?_) (by rw [hy]; rfl) ?_
        · rw [hy, h2]
          simp only [srcC, hi, hd, hb1]
          rw [hsz]; rfl
        · rw [hj]
          revert h3
          cases b.data.toList.length <;> exact id
      · cases h
    · rename_i ik hd
      obtain ⟨⟨ky, hy⟩, h1⟩ := onN_out h
      rcases recB h1 with ⟨b1, h2⟩ | ⟨_, h2⟩
      · rw [fN_eq] at h2
        obtain ⟨news, h3, h4⟩ := repW_out h2
        refine appGo_out (y := y) (m := y.a) hel ?_ (by rw [hy]; rfl) h4
        rw [hy, h3, kdec_code, zerosW_dec]
        simp only [srcZ, hi, hd, b1]
      · cases h2
    · cases h
  · cases h

/- copy. -/
noncomputable def cpySW (sz : Nat) (hp : HW) (c : Nat) (x y : W) (K : KW) : Bool :=
  onNils y (onR x false (onR y false (getW hp y.a fun s' => onS s' fun k' mm' t' d' _ kd' =>
      @Bool.rec (fun _ => Bool) false (readLW t' d' (Nat.mul (min y.r.c x.r.c) sz) y.r.b fun l => modW hp x.a (fun s K => onS s fun k mm t d op kd => cpkW k k' kd kd' (Nat.mul (min y.r.c x.r.c) sz) l (@Bool.rec (fun _ => Bool) false (setLW d l t x.r.b fun t => K ⟨k, mm, ⟨t, d, op, kd⟩⟩) (Nat.ble (Nat.add x.r.b (Nat.mul (min y.r.c x.r.c) sz)) mm))) fun hp => K ⟨3, min y.r.c x.r.c, r0, []⟩ hp c) (Nat.ble (Nat.add y.r.b (Nat.mul (min y.r.c x.r.c) sz)) mm'))))
    (onNils x (onR x false (K ⟨3, 0, r0, []⟩ hp c)) (K ⟨3, 0, r0, []⟩ hp c))
noncomputable def cpyWW (Qc : Nat → HW → Nat → W → W → KW → Bool) (T : List (Nat × TyI)) (t : Nat) (hp : HW) (c : Nat) (x y : W) (K : KW) : Bool :=
  match elemOfT T t with
  | some (_, j) => Qc j.size hp c x y K
  | none => false
noncomputable def cpyRes (T : List (Nat × TyI)) (s : CSt) (t : Nat) (x y : CV) : Option (CV × AL CSeg × Nat) :=
  match copyNil x y, elemOfT T t with
  | true, some _ => some (.int .i64 (.ofNat 0), s.hp, s.c)
  | true, none => none
  | false, _ => (match copyCC T s t x y with
    | some (z, hp) => some (z, hp, s.c)
    | none => cpTC T s t x y)
theorem cpyWW_out {env : List CV} {m0 : Nat} (h : cpyWW cpySW T t hp c x y K = true) : ∃ w hp' c', cpyRes T ⟨env, m0, decH hp, c⟩ t (dec x) (dec y) = some (dec w, decH hp', c') ∧ K w hp' c' = true := by
  unfold cpyWW at h
  split at h
  · rename_i e0 j hel
    rcases onNils_out h with ⟨hy, h1⟩ | h1
    · have h0 : dec ⟨3, 0, r0, []⟩ = .int .i64 (.ofNat 0) := rfl
      have key : copyNil (dec x) (dec y) = true ∧ K ⟨3, 0, r0, []⟩ hp c = true := by
        rw [hy]
        rcases onNils_out h1 with ⟨hx, h2⟩ | h2
        · rw [hx]; exact ⟨rfl, h2⟩
        · rcases onR_out h2 with ⟨hx | hx, h3⟩ | h3
          · rw [hx]; exact ⟨rfl, h3⟩
          · rw [hx]; exact ⟨rfl, h3⟩
          · cases h3
      exact ⟨_, hp, c, by simp only [cpyRes, key.1, hel, h0], key.2⟩
    · rcases onR_out h1 with ⟨hx, h2⟩ | h2
      · rcases onR_out h2 with ⟨hy, h3⟩ | h3
        · obtain ⟨s', g1, g2⟩ := getW_out h3
          rw [onS_eq] at g2
          rcases recB g2 with ⟨b1, h4⟩ | ⟨_, h4⟩
          · obtain ⟨l, g3, g4⟩ := readLW_out h4
            obtain ⟨s, g, k1, k2, k3⟩ := modW_out g4
            rw [onS_eq] at k2
            obtain ⟨k4, k5⟩ := cpkW_out k2
            rw [g3] at k4
            rcases recB k5 with ⟨b2, h5⟩ | ⟨_, h5⟩
            · obtain ⟨t', k6, k7⟩ := setLW_out h5
              refine ⟨_, _, _, ?_, k7⟩
              have hn : copyNil (dec x) (dec y) = false := by rcases hy with hy | hy <;> rw [hy] <;> rfl
              have e1 : segC ⟨env, m0, decH hp, c⟩ x.a = decS s := segC_of k1 _ _ _
              have e2 : segC ⟨env, m0, decH hp, c⟩ y.a = decS s' := segC_of g1 _ _ _
              unfold decS at e1 e2
              have b1' : Nat.ble (y.r.b + min y.r.c x.r.c * j.size) s'.n = true := b1
              have b2' : Nat.ble (x.r.b + min y.r.c x.r.c * j.size) s.n = true := b2
              have k4' : okCp (kdec s.k s.s.kd) (kdec s'.k s'.s.kd) (readC (s'.s.t.map dec) (s'.s.d.map dec) y.r.b (min y.r.c x.r.c * j.size)) = true := k4
              have fin : copyCC T ⟨env, m0, decH hp, c⟩ t (dec x) (dec y) = some (.int .i64 (.ofNat (min y.r.c x.r.c)), decH (g ⟨s.k, s.n, ⟨t', s.s.d, s.s.op, s.s.kd⟩⟩)) := by
                rw [k3]
                have g3' : l.map dec = readC (s'.s.t.map dec) (s'.s.d.map dec) y.r.b (min y.r.c x.r.c * j.size) := g3
                simp only [decS, k6, g3']
                rcases hx with hx | hx <;> rcases hy with hy | hy <;> rw [hx, hy] <;> simp only [copyCC, hel, copyCC.go, e1, e2, k4', b1', b2', Bool.and_self, Trie.force_eq]
              have h0 : dec ⟨3, min y.r.c x.r.c, r0, []⟩ = .int .i64 (.ofNat (min y.r.c x.r.c)) := rfl
              simp only [cpyRes, hn, fin, h0]
            · cases h5
          · cases h4
        · cases h3
      · cases h2
  · cases h
def bytOk (T : List (Nat × TyI)) (src dst : Nat) : Bool :=
  match elemOfT T dst, tyAt T src with
  | some (_, j), some i => (match i.d, j.d with | .str, .int .u8 => true | _, _ => false)
  | _, _ => false
def isSlT (T : List (Nat × TyI)) (dst : Nat) : Bool := match tyAt T dst with | some i => (match i.d with | .slice _ => true | _ => false) | none => false
/-- A text's bytes, in a new row. -/
noncomputable def bytW (ok : Bool) (hp : HW) (c : Nat) (x : W) (K : KW) : Bool :=
  match ok with
  | true => (match dec x with
    | .str b => forceN b.size fun m => bytesK b.data.toList fun l => setMW [] l .nil 0 fun t => pushW hp c ⟨4, m, ⟨t, [], true, .ints .u8⟩⟩ ⟨11, c, ⟨0, m, 1, .any⟩, []⟩ K
    | _ => false)
  | false => false
theorem bytW_out {src dst : Nat} {env : List CV} {m0 : Nat} (h : bytW (bytOk T src dst) hp c x K = true) : ∃ w hp' c', bytesC T ⟨env, m0, decH hp, c⟩ src dst (dec x) = some (dec w, decH hp', c') ∧ K w hp' c' = true := by
  unfold bytW at h
  split at h
  · rename_i hok
    split at h
    · rename_i b hx
      rw [forceN_eq] at h
      obtain ⟨l, h1, h2⟩ := bytesK_out h
      obtain ⟨t', h3, h4⟩ := setMW_out h2
      rw [pushW_eq] at h4
      refine ⟨_, _, _, ?_, h4⟩
      unfold bytOk at hok
      split at hok
      · rename_i e j i hel hi
        split at hok
        · rename_i hid hjd
          simp only [bytesC, hx, hel, hi, hid, hjd, pushC_eq]
          simp only [decH, decS, h3, h1]
          rfl
        · cases hok
      · cases hok
    · cases h
  · cases h
/-- Cells laid over a row's beginning. -/
noncomputable def layW (hp : HW) (x : W) (l : List W) (n : Nat) (K : HW → Bool) : Bool :=
  onR x false (@Bool.rec (fun _ => Bool) false (modW hp x.a (fun s K => onS s fun k mm t d op kd => onesF k kd n l (@Bool.rec (fun _ => Bool) false (setLW d l t x.r.b fun t => K ⟨k, mm, ⟨t, d, op, kd⟩⟩) (Nat.ble (Nat.add x.r.b n) mm))) K) (Nat.blt 0 x.r.c))
theorem layW_out {l : List W} {n : Nat} {K : HW → Bool} {env : List CV} {m0 : Nat} {z : CV} (h : layW hp x l n K = true) : ∃ hp', layC ⟨env, m0, decH hp, c⟩ (dec x) z (l.map dec) = some (z, decH hp', c) ∧ lenOfC (dec x) = some x.r.c ∧ K hp' = true := by
  rcases onR_out h with ⟨hx, h1⟩ | h1
  · rcases recB h1 with ⟨b0, h2⟩ | ⟨_, h2⟩
    · obtain ⟨s, g, k1, k2, k3⟩ := modW_out h2
      rw [onS_eq] at k2
      obtain ⟨q1, q2, _, q3⟩ := onesF_out k2
      rcases recB q3 with ⟨b2, h5⟩ | ⟨_, h5⟩
      · obtain ⟨t', k6, k7⟩ := setLW_out h5
        refine ⟨_, ?_, by rcases hx with hx | hx <;> rw [hx] <;> rfl, k7⟩
        have e1 : segC ⟨env, m0, decH hp, c⟩ x.a = decS s := segC_of k1 _ _ _
        unfold decS at e1
        have b2' : Nat.ble (x.r.b + (l.map dec).length) s.n = true := by rw [q1]; exact b2
        rw [k3]
        simp only [decS, k6]
        rcases hx with hx | hx <;> rw [hx] <;> simp only [layC, layC.go, e1, q2, b0, b2', Bool.and_self, Trie.force_eq]
      · cases h5
    · cases h2
  · cases h1
noncomputable def cpTW (sz : Nat) (hp : HW) (c : Nat) (x y : W) (K : KW) : Bool :=
  match dec y, Nat.beq sz 1, lenOfC (dec x) with
  | .str b, true, some l => (match min b.size l with
    | 0 => K ⟨3, 0, r0, []⟩ hp c
    | m + 1 => forceN (m + 1) fun q => bytesK (b.data.toList.take q) fun l => layW hp x l q fun hp => K ⟨3, q, r0, []⟩ hp c)
  | _, _, _ => false
theorem cpTW_out {env : List CV} {m0 e : Nat} {j : TyI} (hel : elemOfT T t = some (e, j)) (h : cpTW j.size hp c x y K = true) : ∃ w hp' c', cpTC T ⟨env, m0, decH hp, c⟩ t (dec x) (dec y) = some (dec w, decH hp', c') ∧ K w hp' c' = true := by
  unfold cpTW at h
  split at h
  · rename_i b l hy hsz hl
    split at h
    · rename_i hm
      exact ⟨_, hp, c, by simp only [cpTC, hy, hl, hel, hsz, hm]; rfl, h⟩
    · rename_i m hm
      rw [forceN_eq] at h
      obtain ⟨r, h1, h2⟩ := bytesK_out h
      obtain ⟨hp', h3, _, h4⟩ := layW_out (c := c) (env := env) (m0 := m0) (z := .int .i64 (.ofNat (m + 1))) h2
      rw [h1] at h3
      exact ⟨_, hp', c, by simp only [cpTC, hy, hl, hel, hsz, hm]; exact h3, h4⟩
  · cases h
def isStT (T : List (Nat × TyI)) (t : Nat) : Bool := match tyAt T t with | some i => (match i.d with | .str => true | _ => false) | none => false
noncomputable def cpTWW (Qc : Nat → HW → Nat → W → W → KW → Bool) (T : List (Nat × TyI)) (t : Nat) (hp : HW) (c : Nat) (x y : W) (K : KW) : Bool :=
  match elemOfT T t with
  | some (_, j) => Qc j.size hp c x y K
  | none => false
theorem cpTWW_out {env : List CV} {m0 : Nat} (h : cpTWW cpTW T t hp c x y K = true) : ∃ w hp' c', cpyRes T ⟨env, m0, decH hp, c⟩ t (dec x) (dec y) = some (dec w, decH hp', c') ∧ K w hp' c' = true := by
  unfold cpTWW at h
  split at h
  · rename_i e j hel
    have hy : ∃ b, dec y = .str b := by
      unfold cpTW at h
      split at h
      · rename_i b l hy _ _; exact ⟨b, hy⟩
      · cases h
    obtain ⟨b, hy⟩ := hy
    obtain ⟨w, hp', c', h1, h2⟩ := cpTW_out (env := env) (m0 := m0) hel h
    refine ⟨w, hp', c', ?_, h2⟩
    have hn : copyNil (dec x) (dec y) = false := by rw [hy]; rfl
    have hcc : copyCC T ⟨env, m0, decH hp, c⟩ t (dec x) (dec y) = none := by
      rw [hy]
      unfold copyCC
      rw [hel]
      generalize dec x = cx
      cases cx <;> rfl
    simp only [cpyRes, hn, hcc, h1]
  · cases h
noncomputable def clrW (zs : Nat → List W) (sz : Nat) (hp : HW) (c : Nat) (x : W) (K : KW) : Bool :=
  match lenOfC (dec x) with
  | some 0 => K ⟨13, 0, r0, []⟩ hp c
  | some l => layW hp x (zs l) (Nat.mul l sz) fun hp => K ⟨13, 0, r0, []⟩ hp c
  | none => false
def zsOf (T : List (Nat × TyI)) (t : Nat) (l : Nat) : List W := match elemOfT T t with | some (_, j) => ((Builtin.zeroCells j.zero.cells l).toList.map cvS).map encS | none => []
noncomputable def clrWW (Qc : (Nat → List W) → Nat → HW → Nat → W → KW → Bool) (T : List (Nat × TyI)) (t : Nat) (hp : HW) (c : Nat) (x : W) (K : KW) : Bool :=
  match elemOfT T t with
  | some (_, j) => Qc (zsOf T t) j.size hp c x K
  | none => false
theorem clrWW_out {env : List CV} {m0 : Nat} (h : clrWW clrW T t hp c x K = true) : ∃ w hp' c', clrC T ⟨env, m0, decH hp, c⟩ t (dec x) = some (dec w, decH hp', c') ∧ K w hp' c' = true := by
  unfold clrWW at h
  split at h
  · rename_i e j hel
    unfold clrW at h
    split at h
    · rename_i hl
      exact ⟨_, hp, c, by simp only [clrC, hl, hel]; rfl, h⟩
    · rename_i l hne hl
      obtain ⟨hp', h3, _, h4⟩ := layW_out (c := c) (env := env) (m0 := m0) (z := .tup []) h
      have hz : (zsOf T t l).map dec = (Builtin.zeroCells j.zero.cells l).toList.map cvS := by simp only [zsOf, hel]; exact map_encS _
      rw [hz] at h3
      refine ⟨_, hp', c, ?_, h4⟩
      simp only [clrC, hl, hel]
      exact h3
    · cases h
  · cases h
end mem
end Go.Fw

namespace Go.Fw
open Go Go.RowKit

/-- What a written run is made of: as a row of names, so that the kernel leaves them alone where it compares two texts. -/
structure PrimW where
  share : (α : Type) → α → (α → Bool) → Bool
  genW : Option CV → (W → Bool) → Bool
  addW : Nat → Nat → Option CV → W → W → (W → Bool) → Bool
  subW : Nat → Nat → Option CV → W → W → (W → Bool) → Bool
  mulW : Nat → Nat → Option CV → W → W → (W → Bool) → Bool
  quoW : Nat → Nat → Option CV → W → W → (W → Bool) → Bool
  remW : Nat → Nat → Option CV → W → W → (W → Bool) → Bool
  bitW : (Nat → Nat → Nat) → Nat → Nat → Option CV → W → W → (W → Bool) → Bool
  cmpW : (Nat → Nat → Bool) → Nat → Option CV → W → W → (W → Bool) → Bool
  eqbW : Option CV → W → W → (W → Bool) → Bool
  nebW : Option CV → W → W → (W → Bool) → Bool
  shlW : Nat → Nat → Nat → Option CV → W → W → (W → Bool) → Bool
  shrW : Nat → Nat → Option CV → W → W → (W → Bool) → Bool
  notW : Option CV → W → (W → Bool) → Bool
  negW : Nat → Nat → Bool → Option CV → W → (W → Bool) → Bool
  icvW : Nat → Nat → Option CV → W → (W → Bool) → Bool
  condW : W → Bool → Bool → Bool
  guardW : Bool → W → Bool → Bool → Bool
  pickW : W → W → W → (W → Bool) → Bool
  nilcW : W → (W → Bool) → Bool
  fadW : Nat → W → (W → Bool) → Bool
  idxSW : Nat → W → W → (W → Bool) → Bool
  idxAW : Nat → Nat → W → W → (W → Bool) → Bool
  lenW : Option CV → W → (W → Bool) → Bool
  tupW : W → (List W → Bool) → Bool
  aggW : W → (List W → Bool) → Bool
  nthW : Nat → List W → (W → Bool) → Bool
  onG : W → List W → (FuncId → List W → Bool) → Bool
  detW : W → Bool → Bool
  knownW : W → Bool → Bool
  killVW : W → HW → (HW → Bool) → Bool
  loadSW : HW → W → (W → Bool) → Bool
  loadAW : Nat → HW → W → (W → Bool) → Bool
  storeSW : HW → W → W → (HW → Bool) → Bool
  storeAW : Nat → HW → W → W → (HW → Bool) → Bool
  makeSW : Nat → Nat → Nat → Kind → List W → Bool → HW → Nat → W → W → KW → Bool
  allocW : Trie W → Nat → Bool → HW → Nat → KW → Bool
  boxW : HW → Nat → W → KW → Bool
  buildSW : Nat → Nat → Kind → Nat → Bool → HW → Nat → Nat → List W → KW → Bool
  appSW : Nat → Nat → (Kind → Bool) → Bool → HW → Nat → W → W → Bool → KW → Bool
  appTW : Nat → (Kind → Bool) → HW → Nat → W → W → KW → Bool
  appZW : Nat → Nat → (Kind → Bool) → Nat → Kind → List W → (Nat → Bool) → HW → Nat → W → W → KW → Bool
  cpySW : Nat → HW → Nat → W → W → KW → Bool
  fieldSW : Nat → W → (W → Bool) → Bool
  fieldAW : Nat → Nat → W → (W → Bool) → Bool
  flatW : W → Bool → Bool
  endW : List W → Bool → Bool
  uncW : List W → (W → List W → Bool) → Bool
  andW : Bool → Bool → Bool
  newOW : CO → W → HW → Nat → KW → Bool
  hintW : Bool → W → Bool → Bool
  updOW : Option (TypeDesc × Nat) → HW → Nat → W → W → W → KW → Bool
  remOW : Option (TypeDesc × Nat) → HW → Nat → W → W → KW → Bool
  rangeW : Bool → HW → Nat → W → KW → Bool
  nextW : HW → Nat → W → KW → Bool
  samQW : W → W → Bool → Bool
  bytW : Bool → HW → Nat → W → KW → Bool
  cpTW : Nat → HW → Nat → W → W → KW → Bool
  clrW : (Nat → List W) → Nat → HW → Nat → W → KW → Bool
noncomputable def samQW (x y : W) (A : Bool) : Bool :=
  @Bool.rec (fun _ => Bool) (@Bool.rec (fun _ => Bool) false A (sameD (dec x) (dec y))) (@Bool.rec (fun _ => Bool) false (@Bool.rec (fun _ => Bool) false A (Nat.beq x.a y.a)) (Nat.beq x.t y.t)) (Nat.ble x.t 8)
theorem samQW_out {x y : W} {A : Bool} (h : samQW x y A = true) : sameD (dec x) (dec y) = true ∧ A = true := by
  rcases recB h with ⟨h1, g⟩ | ⟨_, g⟩
  · rcases recB g with ⟨h2, g⟩ | ⟨_, g⟩
    · rcases recB g with ⟨h3, g⟩ | ⟨_, g⟩
      · refine ⟨?_, g⟩
        have e1 := Nat.le_of_ble_eq_true h1
        have e2 := Nat.eq_of_beq_eq_true h2
        have e3 := Nat.eq_of_beq_eq_true h3
        rcases (by omega : x.t < 8 ∨ x.t = 8) with e | e
        · rw [dec_int (Nat.ble_eq_true_of_le e) rfl, dec_int (x := y) (k := x.t) (Nat.ble_eq_true_of_le e) e2.symm, e3]
          simp only [sameD, sameS, ikEq_r, eqI, Nat.beq_refl, Bool.and_self]
        · rw [dec_bool e, dec_bool (x := y) (by omega), e3]
          cases Nat.beq y.a 0 <;> rfl
      · cases g
    · cases g
  · rcases recB g with ⟨h2, g⟩ | ⟨_, g⟩
    · exact ⟨h2, g⟩
    · cases g
noncomputable def newOW (o : CO) (x : W) (hp : HW) (c : Nat) (K : KW) : Bool := @Nat.rec (fun _ => Bool) (K x (.obj c o hp) 1) (fun m _ => K x (.obj c o hp) (Nat.succ (Nat.succ m))) c
theorem newOW_eq (o : CO) (x : W) (hp : HW) (c : Nat) (K : KW) : newOW o x hp c K = K x (.obj c o hp) (c + 1) := by cases c <;> rfl
def hintW (b : Bool) (x : W) (A : Bool) : Bool := match b with | true => (match dec x with | .int _ _ => A | _ => false) | false => false
noncomputable def updOW (mt : Option (TypeDesc × Nat)) (hp : HW) (c : Nat) (m k v : W) (K : KW) : Bool :=
  match dec m, mt with
  | .map n, some (d, _) => (match keyIs d (dec k) with
    | true => modO hp n (fun co K' => match co with
      | .map es ck => forceV (dec k) fun k => forceV (dec v) fun v => (match putC d k v es ck with | some o => forceO o K' | none => false)
      | _ => false) fun hp => K wUnd hp c
    | false => false)
  | _, _ => false
noncomputable def remOW (mt : Option (TypeDesc × Nat)) (hp : HW) (c : Nat) (m k : W) (K : KW) : Bool :=
  match dec m, mt with
  | .map n, some (d, _) => (match keyIs d (dec k) with
    | true => modO hp n (fun co K' => match co with
      | .map es ck => (match delC d (dec k) es ck with | some o => forceO o K' | none => false)
      | _ => false) fun hp => K wUnd hp c
    | false => false)
  | _, _ => false
noncomputable def rangeW (b : Bool) (hp : HW) (c : Nat) (x : W) (K : KW) : Bool := match b with | true => (match dec x with | .str b => newOW (.iter b 0 b.data.toList) ⟨9, c, r0, []⟩ hp c K | _ => false) | false => false
noncomputable def nextW (hp : HW) (c : Nat) (x : W) (K : KW) : Bool :=
  match dec x with
  | .ptr n 0 => getO hp n fun co => (match co with
    | .iter b p r => (match nextC b p r with
      | (x, some o) => modO hp n (fun _ K' => K' o) fun hp => genW (some x) fun z => K z hp c
      | (x, none) => genW (some x) fun z => K z hp c)
    | _ => false)
  | _ => false
section
variable {P : Program} {hp : HW} {c n : Nat} {K : KW} {env : List CV}
theorem hintW_out {b : Bool} {x : W} {A : Bool} (h : hintW b x A = true) : b = true ∧ (∃ k n, dec x = .int k n) ∧ A = true := by
  unfold hintW at h
  split at h
  · split at h
    · rename_i k n hx; exact ⟨rfl, ⟨k, n, hx⟩, h⟩
    · cases h
  · cases h
theorem segO_of {m : Nat} {o : CO} (h : (decH hp).get m = some (.obj o)) : segC ⟨env, n, decH hp, c⟩ m = .obj o := by simp only [segC, AL.getD, h]
theorem updOW_out {t : Nat} {m k v : W} (h : updOW (mapTyC P t) hp c m k v K = true) : ∃ w hp' c', updC P ⟨env, n, decH hp, c⟩ t (dec m) (dec k) (dec v) = some (dec w, decH hp', c') ∧ K w hp' c' = true := by
  unfold updOW at h
  split at h
  · rename_i mm d e hm hmt
    split at h
    · rename_i hk
      obtain ⟨o, g, h1, h2, h3⟩ := modO_out h
      split at h2
      · rename_i es ck
        simp only [forceV_eq] at h2
        split at h2
        · rename_i o' ho
          rw [forceO_eq] at h2
          refine ⟨_, _, _, ?_, h2⟩
          simp only [updC, hm, hmt, hk, segO_of h1, forceV_eq, ho, h3]
          rfl
        · cases h2
      · cases h2
    · cases h
  · cases h
theorem remOW_out {t : Nat} {m k : W} (h : remOW (mapTyC P t) hp c m k K = true) : ∃ w hp' c', remC P ⟨env, n, decH hp, c⟩ t (dec m) (dec k) = some (dec w, decH hp', c') ∧ K w hp' c' = true := by
  unfold remOW at h
  split at h
  · rename_i mm d e hm hmt
    split at h
    · rename_i hk
      obtain ⟨o, g, h1, h2, h3⟩ := modO_out h
      split at h2
      · rename_i es ck
        split at h2
        · rename_i o' ho
          rw [forceO_eq] at h2
          refine ⟨_, _, _, ?_, h2⟩
          simp only [remC, hm, hmt, hk, segO_of h1, ho, h3]
          rfl
        · cases h2
      · cases h2
    · cases h
  · cases h
theorem rangeW_out {t : Nat} {x : W} (h : rangeW (isStrTy P t) hp c x K = true) :
    ∃ w hp' c', (match isStrTy P t, dec x with | true, .str b => newC ⟨env, n, decH hp, c⟩ (.iter b 0 b.data.toList) (.ptr c 0) | _, _ => none) = some (dec w, decH hp', c') ∧ K w hp' c' = true := by
  unfold rangeW at h
  split at h
  · rename_i hb
    split at h
    · rename_i b hx
      rw [newOW_eq] at h
      refine ⟨_, _, _, ?_, h⟩
      simp only [hb, hx, newC, forceN_eq]
      rfl
    · cases h
  · cases h
theorem nextW_out {x : W} (h : nextW hp c x K = true) :
    ∃ w hp' c', (match dec x, true with
    | .ptr m 0, true => (match segC ⟨env, n, decH hp, c⟩ m with
      | .obj (.iter b p r) => (match nextC b p r with
        | (x, some o) => some (x, AL.set (.obj o) (decH hp) m, c)
        | (x, none) => some (x, decH hp, c))
      | _ => none)
    | _, _ => none) = some (dec w, decH hp', c') ∧ K w hp' c' = true := by
  unfold nextW at h
  split at h
  · rename_i m hx
    obtain ⟨o, h1, h2⟩ := getO_out h
    split at h2
    · rename_i b p r
      split at h2
      · rename_i y o' hn
        obtain ⟨s, g, g1, g2, g3⟩ := modO_out h2
        obtain ⟨w, k1, k2⟩ := genW_out g2
        cases k1
        refine ⟨w, _, _, ?_, k2⟩
        simp only [hx, segO_of h1, hn, g3]
      · rename_i y hn
        obtain ⟨w, k1, k2⟩ := genW_out h2
        cases k1
        refine ⟨w, _, _, ?_, k2⟩
        simp only [hx, segO_of h1, hn]
    · cases h2
  · cases h
end
noncomputable def tupW (x : W) (K : List W → Bool) : Bool := onH 13 x false K
noncomputable def andW (a b : Bool) : Bool := @Bool.rec (fun _ => Bool) false b a
theorem andW_out {a b : Bool} (h : andW a b = true) : a = true ∧ b = true := by
  cases a with
  | true => exact ⟨rfl, h⟩
  | false => cases h
noncomputable def real : PrimW := ⟨fun _ x f => f x, genW, addW, subW, mulW, quoW, remW, bitW, cmpW, eqbW, nebW, shlW, shrW, notW, negW, icvW, condW, guardW, pickW, nilcW, fadW, idxSW, idxAW, lenW, tupW, aggW, nthW, onG, detW, knownW, killVW, loadSW, loadAW, storeSW, storeAW,
  makeSW, allocW, boxW, buildSW, appSW, appTW, appZW, cpySW, fieldSW, fieldAW, flatW, endW, uncW, andW, newOW, hintW, updOW, remOW, rangeW, nextW, samQW, bytW, cpTW, clrW⟩

def setL : List W → Nat → W → (List W → Bool) → Bool
  | [], _, _, K => K []
  | _ :: r, 0, x, K => K (x :: r)
  | a :: r, t + 1, x, K => setL r t x fun r => K (a :: r)
theorem setL_eq : ∀ (l : List W) (t : Nat) (x : W) (K : List W → Bool), setL l t x K = K (l.set t x)
  | [], _, _, _ => by simp [setL]
  | a :: r, 0, _, _ => by simp [setL]
  | a :: r, t + 1, x, K => by simp [setL, setL_eq r]
def putW (n : Nat) (env : List W) (d : Option Tmp) (x : W) (K : List W → Bool) : Bool :=
  match d with
  | none => K env
  | some t => match Nat.blt t n with | true => setL env t x K | false => false
def nthE : List W → Nat → (W → Bool) → Bool
  | [], _, K => K wUnd
  | a :: _, 0, K => K a
  | _ :: r, t + 1, K => nthE r t K
theorem nthE_eq : ∀ (l : List W) (t : Nat) (K : W → Bool), nthE l t K = K (l.getD t wUnd)
  | [], _, _ => by simp [nthE]
  | a :: r, 0, _ => by simp [nthE]
  | a :: r, t + 1, K => by simp [nthE, nthE_eq r]
def evW (n : Nat) (env : List W) (x : Operand) (K : W → Bool) : Bool :=
  match x with
  | .tmp t => (match Nat.blt t n with | true => nthE env t K | false => K wAny)
  | .const v => K (encC v)
  | .global _ => K wAny
  | .func f => K ⟨14, f, r0, []⟩
def evalW (n : Nat) (env : List W) (x : Operand) : W :=
  match x with
  | .tmp t => (match Nat.blt t n with | true => env.getD t wUnd | false => wAny)
  | .const v => encC v
  | .global _ => wAny
  | .func f => ⟨14, f, r0, []⟩
theorem evW_eq (n : Nat) (env : List W) (x : Operand) (K : W → Bool) : evW n env x K = K (evalW n env x) := by
  cases x with
  | tmp t => simp only [evW, evalW]; cases Nat.blt t n <;> simp [nthE_eq]
  | const v => rfl
  | global g => rfl
  | func f => rfl
theorem getD_dec (env : List W) (t : Nat) : dec (env.getD t wUnd) = (env.map dec).getD t (.tup []) := by
  rw [List.getD_eq_getElem?_getD, List.getD_eq_getElem?_getD, List.getElem?_map]
  cases env[t]? <;> rfl
theorem evalW_dec (n : Nat) (env : List W) (x : Operand) (hp : AL CSeg) (c : Nat) : dec (evalW n env x) = evalC ⟨env.map dec, n, hp, c⟩ x := by
  cases x with
  | tmp t =>
    simp only [evalW, evalC]
    cases Nat.blt t n with
    | true => exact getD_dec env t
    | false => rfl
  | const v => exact dec_encC v
  | global g => rfl
  | func f => rfl
def evsW (n : Nat) (env : List W) : List Operand → (List W → Bool) → Bool
  | [], K => K []
  | x :: r, K => evW n env x fun v => evsW n env r fun vs => K (v :: vs)
theorem evsW_eq (n : Nat) (env : List W) : ∀ (xs : List Operand) (K : List W → Bool), evsW n env xs K = K (xs.map (evalW n env))
  | [], _ => rfl
  | x :: r, K => by simp only [evsW, evW_eq, evsW_eq n env r, List.map_cons]
theorem evs_dec (n : Nat) (env : List W) (hp : AL CSeg) (c : Nat) (xs : List Operand) : (xs.map (evalW n env)).map dec = xs.map (evalC ⟨env.map dec, n, hp, c⟩) := by
  rw [List.map_map]
  exact List.map_congr_left fun x _ => evalW_dec n env x hp c
def evoW (n : Nat) (env : List W) (x : Option Operand) (K : Option W → Bool) : Bool := match x with | none => K none | some x => evW n env x fun v => K (some v)
theorem evoW_eq (n : Nat) (env : List W) (x : Option Operand) (K : Option W → Bool) : evoW n env x K = K (x.map (evalW n env)) := by
  cases x with
  | none => rfl
  | some x => simp only [evoW, evW_eq, Option.map_some]
def mapO (x : Option W) : Option CV := match x with | none => none | some x => some (dec x)
theorem mapO_eq (n : Nat) (env : List W) (hp : AL CSeg) (c : Nat) (x : Option Operand) : mapO (x.map (evalW n env)) = x.map (evalC ⟨env.map dec, n, hp, c⟩) := by
  cases x with
  | none => rfl
  | some x => simp only [Option.map_some, mapO, evalW_dec n env x hp c]

section
variable {P : Program} {T : List (Nat × TyI)} {t : Nat} {xo yo : Operand} {x y : W} {K : W → Bool}
noncomputable def binWW (Q : PrimW) (P : Program) (T : List (Nat × TyI)) (op : BinOp) (t : Nat) (xo yo : Operand) (x y : W) (K : W → Bool) : Bool :=
  match tyAt T t with
  | some i => (match i.d with
    | .int k => (match op with
      | .add => Q.addW (kc k) (maxN k) (binC P .add t xo yo (dec x) (dec y)) x y K
      | .sub => Q.subW (kc k) (maxN k) (binC P .sub t xo yo (dec x) (dec y)) x y K
      | .mul => Q.mulW (kc k) (maxN k) (binC P .mul t xo yo (dec x) (dec y)) x y K
      | .quo => Q.quoW (kc k) (maxN k) (binC P .quo t xo yo (dec x) (dec y)) x y K
      | .rem => Q.remW (kc k) (maxN k) (binC P .rem t xo yo (dec x) (dec y)) x y K
      | .and => Q.bitW Nat.land (kc k) (maxN k) (binC P .and t xo yo (dec x) (dec y)) x y K
      | .or => Q.bitW Nat.lor (kc k) (maxN k) (binC P .or t xo yo (dec x) (dec y)) x y K
      | .xor => Q.bitW Nat.xor (kc k) (maxN k) (binC P .xor t xo yo (dec x) (dec y)) x y K
      | .shl => Q.shlW (kc k) (maxN k) k.bits (binC P .shl t xo yo (dec x) (dec y)) x y K
      | .shr => Q.shrW (kc k) k.bits (binC P .shr t xo yo (dec x) (dec y)) x y K
      | .andNot => Q.genW (binC P .andNot t xo yo (dec x) (dec y)) K
      | .eql => Q.cmpW (cmpF2 .eql) (kc k) (binC P .eql t xo yo (dec x) (dec y)) x y K
      | .neq => Q.cmpW (cmpF2 .neq) (kc k) (binC P .neq t xo yo (dec x) (dec y)) x y K
      | .lss => Q.cmpW (cmpF2 .lss) (kc k) (binC P .lss t xo yo (dec x) (dec y)) x y K
      | .leq => Q.cmpW (cmpF2 .leq) (kc k) (binC P .leq t xo yo (dec x) (dec y)) x y K
      | .gtr => Q.cmpW (cmpF2 .gtr) (kc k) (binC P .gtr t xo yo (dec x) (dec y)) x y K
      | .geq => Q.cmpW (cmpF2 .geq) (kc k) (binC P .geq t xo yo (dec x) (dec y)) x y K)
    | _ => Q.genW (binC P op t xo yo (dec x) (dec y)) K)
  | none => Q.genW (binC P op t xo yo (dec x) (dec y)) K
theorem ikN_max (k : IntKind) : maxN k = maxN (ikN (kc k)) := by rw [ikN_kc]
theorem ikN_bits (k : IntKind) : k.bits = (ikN (kc k)).bits := by rw [ikN_kc]
theorem binWW_out {op : BinOp} (h : binWW real P T op t xo yo x y K = true) : ∃ w, binC P op t xo yo (dec x) (dec y) = some (dec w) ∧ K w = true := by
  unfold binWW at h
  split at h
  · rename_i i hi
    split at h
    · rename_i k hk
      cases op
      case add => exact addW_out (kc_lt k) (ikN_max k) h
      case sub => exact subW_out (kc_lt k) (ikN_max k) h
      case mul => exact mulW_out (kc_lt k) (ikN_max k) h
      case quo => exact quoW_out (kc_lt k) (ikN_max k) h
      case rem => exact remW_out (mx := maxN k) (kc_lt k) h
      case and => exact bitW_out (.inl ⟨rfl, rfl⟩) (kc_lt k) (ikN_max k) h
      case or => exact bitW_out (.inr (.inl ⟨rfl, rfl⟩)) (kc_lt k) (ikN_max k) h
      case xor => exact bitW_out (.inr (.inr ⟨rfl, rfl⟩)) (kc_lt k) (ikN_max k) h
      case shl => exact shlW_out (kc_lt k) (ikN_max k) (ikN_bits k) h
      case shr => exact shrW_out (kc_lt k) (ikN_bits k) h
      case andNot => exact genW_out h
      case eql => exact cmpW_out rfl (kc_lt k) h
      case neq => exact cmpW_out rfl (kc_lt k) h
      case lss => exact cmpW_out rfl (kc_lt k) h
      case leq => exact cmpW_out rfl (kc_lt k) h
      case gtr => exact cmpW_out rfl (kc_lt k) h
      case geq => exact cmpW_out rfl (kc_lt k) h
    · exact genW_out h
  · exact genW_out h
noncomputable def unWW (Q : PrimW) (P : Program) (T : List (Nat × TyI)) (op : UnOp) (t : Nat) (x : W) (K : W → Bool) : Bool :=
  match op with
  | .not => Q.notW (two P (dec x) (Op.unary .not)) x K
  | .neg => (match tyAt T t with
    | some i => (match i.d with
      | .int k => Q.negW (kc k) (maxN k) (!k.signed) (two P (dec x) (Op.unary .neg)) x K
      | _ => Q.genW (two P (dec x) (Op.unary .neg)) K)
    | none => Q.genW (two P (dec x) (Op.unary .neg)) K)
  | op => Q.genW (two P (dec x) (Op.unary op)) K
theorem unWW_out {op : UnOp} (h : unWW real P T op t x K = true) : ∃ w, two P (dec x) (Op.unary op) = some (dec w) ∧ K w = true := by
  unfold unWW at h
  split at h
  · exact notW_out h
  · split at h
    · split at h
      · rename_i k hk
        exact negW_out (kc_lt k) (ikN_max k) (by rw [ikN_kc]) h
      · exact genW_out h
    · exact genW_out h
  · exact genW_out h
end

def lenWM (P : Program) (T : List (Nat × TyI)) (Ql : Option CV → W → (W → Bool) → Bool) (Qg : Option CV → (W → Bool) → Bool) (hp : HW) (t : Nat) (x : W) (K : W → Bool) : Bool :=
  match tyAt T t with
  | some i => (match i.d with
    | .slice _ => Ql (lenC T t (dec x)) x K
    | _ => Qg (lenMC P T ⟨[], 0, decH hp, 0⟩ t (dec x)) K)
  | none => Qg (lenMC P T ⟨[], 0, decH hp, 0⟩ t (dec x)) K
theorem lenWM_out {P : Program} {T : List (Nat × TyI)} {hp : HW} {t : Nat} {x : W} {K : W → Bool} (env : List CV) (n c : Nat) (h : lenWM P T lenW genW hp t x K = true) : ∃ w, lenMC P T ⟨env, n, decH hp, c⟩ t (dec x) = some (dec w) ∧ K w = true := by
  unfold lenWM at h
  split at h
  · rename_i i hi
    split at h
    · rename_i e hd
      have hm : mapLike T t = false := by unfold mapLike; simp only [hi, hd]
      rcases onR_out h with ⟨hx, h1⟩ | h1
      · rw [outW_eq] at h1
        rcases hx with hx | hx
        · exact ⟨_, by rw [hx]; simp only [lenMC, hm, lenC, hi, hd]; rfl, h1⟩
        · exact ⟨_, by rw [hx]; simp only [lenMC, hm, lenC, hi, hd]; rfl, h1⟩
      · obtain ⟨w, g1, g2⟩ := genW_out h1
        refine ⟨w, ?_, g2⟩
        rw [← g1]
        simp only [lenMC, hm]
    · exact genW_out h
  · exact genW_out h
abbrev CallW := FuncId → List W → HW → Nat → KW → Bool
/-- An operation that makes, writes, calls or none of it: its value, and memory behind it. -/
noncomputable def opW (Q : PrimW) (P : Program) (T : List (Nat × TyI)) (call : CallW) (n : Nat) (o : Oper) (env : List W) (hp : HW) (c : Nat) (K : KW) : Bool :=
  match o.op with
  | .move x => evW n env x fun x => K x hp c
  | .assign x => evW n env x fun x => K x hp c
  | .pick a x y => evW n env a fun a => evW n env x fun x => evW n env y fun y => Q.pickW a x y fun z => K z hp c
  | .binOp op t x y _ => evW n env x fun xv => evW n env y fun yv => binWW Q P T op t x y xv yv fun z => K z hp c
  | .unOp op t x => evW n env x fun x => unWW Q P T op t x fun z => K z hp c
  | .convert src dst x => (match isSlT T dst with
    | true => evW n env x fun x => Q.bytW (bytOk T src dst) hp c x K
    | false => evW n env x fun x => icvWW T Q.icvW Q.genW P hp src dst x fun z => K z hp c)
  | .extract x i => evW n env x fun x => Q.tupW x fun l => Q.nthW i l fun z => K z hp c
  | .load t x => evW n env x fun x => loadWW Q.loadSW Q.loadAW T hp t x fun z => K z hp c
  | .indexAddr t x i => evW n env x fun x => evW n env i fun i => idxW T Q.idxSW Q.idxAW t x i fun z => K z hp c
  | .index t x i => evW n env x fun x => evW n env i fun i => Q.genW (two2 P (dec x) (dec i) (Instr.index t)) fun z => K z hp c
  | .slice t x lo hi mx => evW n env x fun x => evoW n env lo fun lo => evoW n env hi fun hi => evoW n env mx fun mx => Q.genW (sliceM T ⟨[], 0, decH hp, 0⟩ t (dec x) (mapO lo) (mapO hi) (mapO mx)) fun z => K z hp c
  | .nilCheck x => evW n env x fun x => Q.nilcW x fun z => K z hp c
  | .makeFunc (.func f) first caps => (match first.toList with
    | [] => evsW n env caps.toList fun cs => K ⟨14, f, r0, cs⟩ hp c
    | fs => (match caps.toList with | [] => evsW n env fs fun cs => K ⟨16, f, r0, cs⟩ hp c | _ => false))
  | .field t x f => evW n env x fun x => fieldWW Q.fieldSW Q.fieldAW T t x f fun z => K z hp c
  | .build t ps => evsW n env (ps.toList.map (·.2)) fun vs => buildWW Q.flatW Q.aggW Q.endW Q.uncW T t ps.toList vs fun z => K z hp c
  | .fieldAddr t x f => (match fieldAt? T t f with
    | some (o, e) => (match sizeAt T e with
      | some (_ + 1) => evW n env x fun x => Q.fadW o x fun z => K z hp c
      | _ => false)
    | none => false)
  | .store t a x => evW n env a fun a => evW n env x fun x => storeWW Q.storeSW Q.storeAW T hp t a x fun hp => K wUnd hp c
  | .makeSlice t l m => evW n env l fun l => evW n env m fun m => makeWW Q.makeSW T hp c t l m K
  | .lookup t m k ok => evW n env m fun m => evW n env k fun k => Q.genW (lookupC P T ⟨[], 0, decH hp, 0⟩ t (dec m) (dec k) ok) fun z => K z hp c
  | .makeMap t r => (match r with
    | none => Q.newOW (.map [] 0) ⟨12, 0, ⟨0, 0, 0, .map c⟩, []⟩ hp c K
    | some x => evW n env x fun x => Q.hintW (isMapTy P t) x (Q.newOW (.map [] 0) ⟨12, 0, ⟨0, 0, 0, .map c⟩, []⟩ hp c K))
  | .mapUpdate t m k v => evW n env m fun m => evW n env k fun k => evW n env v fun v => Q.updOW (mapTyC P t) hp c m k v K
  | .insert t m k v => evW n env m fun m => evW n env k fun k => evW n env v fun v => Q.updOW (mapTyC P t) hp c m k v K
  | .range t x => evW n env x fun x => Q.rangeW (isStrTy P t) hp c x K
  | .next it b => (match b with | true => evW n env it fun it => Q.nextW hp c it K | false => false)
  | .alloc t => Q.allocW (allocT T t) (allocN T t) (allocOk T t) hp c K
  | .box _ x => evW n env x fun x => Q.boxW hp c x K
  | .buildSlice t len ps => evsW n env (ps.toList.map (·.2)) fun vs => buildSWW Q.buildSW T hp c t len ps.toList vs K
  | .call cc => (match cc.callee with
    | .value (.func g) => evsW n env cc.args.toList fun as => call g as hp c K
    | .value f => evW n env f fun f => evsW n env cc.args.toList fun as => Q.onG f as fun g l => call g l hp c K
    | .builtin b => (match b, cc.args.toList, cc.argTypes.toList with
      | .len, [x], [t] => evW n env x fun x => lenWM P T Q.lenW Q.genW hp t x fun z => K z hp c
      | .delete, [m, k], t :: _ => evW n env m fun m => evW n env k fun k => Q.remOW (mapTyC P t) hp c m k K
      | .real, [x], _ => evW n env x fun x => Q.genW (two P (dec x) fun v => Builtin.real_ cc.argTypes o.type #[v]) fun z => K z hp c
      | .imag, [x], _ => evW n env x fun x => Q.genW (two P (dec x) fun v => Builtin.imag_ cc.argTypes o.type #[v]) fun z => K z hp c
      | .complex, [x, y], _ => evW n env x fun x => evW n env y fun y => Q.genW (two2 P (dec x) (dec y) fun v u => Builtin.complex_ cc.argTypes o.type #[v, u]) fun z => K z hp c
      | .min, [x, y], _ => evW n env x fun x => evW n env y fun y => Q.genW (two2 P (dec x) (dec y) fun v u => Builtin.min_ cc.argTypes o.type #[v, u]) fun z => K z hp c
      | .max, [x, y], _ => evW n env x fun x => evW n env y fun y => Q.genW (two2 P (dec x) (dec y) fun v u => Builtin.max_ cc.argTypes o.type #[v, u]) fun z => K z hp c
      | .append, [x, y], [t, t2] => evW n env x fun x => evW n env y fun y => appWW Q.appSW Q.appTW Q.appZW T t t2 hp c x y K
      | .copy, [x, y], [t, t2] => evW n env x fun x => evW n env y fun y => (match isStT T t2 with | true => cpTWW Q.cpTW T t hp c x y K | false => cpyWW Q.cpySW T t hp c x y K)
      | .clear, [x], [t] => evW n env x fun x => clrWW Q.clrW T t hp c x K
      | .cap, [x], [t] => evW n env x fun x => Q.genW (capC T t (dec x)) fun z => K z hp c
      | _, _, _ => false)
    | _ => false)
  | _ => false
/-- The same, of the run. -/
noncomputable def opCV (P : Program) (T : List (Nat × TyI)) (s : CSt) (o : Oper) : Option (CV × AL CSeg × Nat) :=
  match effC T o with
  | false => (match evC P T s o with | some x => some (x, s.hp, s.c) | none => none)
  | true =>
    (match o.op with
     | .store t ad x => (match storeC T s t (evalC s ad) (evalC s x) with | some hp => some (.tup [], hp, s.c) | none => none)
     | .convert src dst x => bytesC T s src dst (evalC s x)
     | .makeSlice t l c => makeC T s t (evalC s l) (evalC s c)
     | .alloc t => allocC T s t
     | .box _ x => boxC s (evalC s x)
     | .buildSlice t len ps => buildSliceC T s t len ps.toList
     | .call c => (match c.callee, c.args.toList, c.argTypes.toList with
       | .builtin .append, [x, y], [t, t2] => appRes T s t t2 (evalC s x) (evalC s y)
       | .builtin .copy, [x, y], [t, _] => cpyRes T s t (evalC s x) (evalC s y)
       | .builtin .clear, [x], [t] => clrC T s t (evalC s x)
       | _, _, _ => objC P s o)
     | _ => objC P s o)
theorem opC_of {P : Program} {T : List (Nat × TyI)} {s : CSt} {o : Oper} {x : CV} {hp : AL CSeg} {c : Nat} (h : opCV P T s o = some (x, hp, c)) : opC P T s o = stepK ⟨s.sl, s.n, hp, c⟩ o.dst x := by
  unfold opCV at h
  unfold opC
  split at h
  · rename_i he
    rw [he]
    simp only
    split at h
    · rename_i y hy
      cases h
      rw [hy]
    · cases h
  · rename_i he
    rw [he]
    simp only
    have obj : ∀ {r : Option (CV × AL CSeg × Nat)}, r = some (x, hp, c) → made s o r = stepK ⟨s.sl, s.n, hp, c⟩ o.dst x := by
      intro r hr
      rw [hr]; rfl
    obtain ⟨dst, op, type, pos, after, guard⟩ := o
    cases op <;> simp only [] at h ⊢ <;> try exact obj h
    case store t a x =>
      split at h
      · rename_i hp' hs
        cases h
        rw [hs]
      · cases h
    case call cc =>
      split at h
      · rename_i x y t t2 h1 h2 h3
        unfold appRes at h
        split at h
        · rename_i z hz
          split at h
          · rename_i p i g1 g2
            split at h
            · rename_i e he2
              cases h
              simp only [h1, h2, h3, hz, g1, g2, he2]
            · cases h
          · cases h
        · rename_i hz
          simp only [h1, h2, h3, hz, h]
          rfl
      · rename_i x y t t2 h1 h2 h3
        unfold cpyRes at h
        split at h
        · rename_i p hn hel
          cases h
          simp only [h1, h2, h3, hn, hel]
        · cases h
        · rename_i hn
          split at h
          · rename_i z hp' hz
            cases h
            simp only [h1, h2, h3, hn, hz]
          · rename_i hz
            simp only [h1, h2, h3, hn, hz]
            exact obj h
      · rename_i x t h1 h2 h3
        simp only [h1, h2, h3]
        exact obj h
      · rename_i n1 n2 n3
        split
        · rename_i x y t t2 h1 h2 h3
          exact absurd h3 (by intro h3; exact n1 _ _ _ _ h1 h2 h3)
        · rename_i x y t t2 h1 h2 h3
          exact absurd h3 (by intro h3; exact n2 _ _ _ _ h1 h2 h3)
        · rename_i x t h1 h2 h3
          exact absurd h3 (by intro h3; exact n3 _ _ h1 h2 h3)
        · exact obj h

theorem opW_plain {P : Program} {T : List (Nat × TyI)} {call : CallW} {n : Nat} {o : Oper} {env : List W} {hp : HW} {c : Nat} {K : KW} (hc : calleeOf o = none) (h : opW real P T call n o env hp c K = true) :
    ∃ w hp' c', opCV P T ⟨env.map dec, n, decH hp, c⟩ o = some (dec w, decH hp', c') ∧ K w hp' c' = true := by
  obtain ⟨dst, op, type, pos, after, guard⟩ := o
  have ev : ∀ x, dec (evalW n env x) = evalC ⟨env.map dec, n, decH hp, c⟩ x := fun x => evalW_dec n env x _ _
  have pl : ∀ {w : W}, effC T ⟨dst, op, type, pos, after, guard⟩ = false → evC P T ⟨env.map dec, n, decH hp, c⟩ ⟨dst, op, type, pos, after, guard⟩ = some (dec w) → K w hp c = true →
      ∃ w hp' c', opCV P T ⟨env.map dec, n, decH hp, c⟩ ⟨dst, op, type, pos, after, guard⟩ = some (dec w, decH hp', c') ∧ K w hp' c' = true := fun he hx hk => ⟨_, _, _, by unfold opCV; rw [he]; simp only [hx], hk⟩
  unfold opW at h
  cases op <;> simp only [reduceCtorEq, evW_eq, evsW_eq, evoW_eq] at h
  case move x => exact pl rfl (by simp only [evC, ev]) h
  case assign x => exact pl rfl (by simp only [evC, ev]) h
  case pick a x y =>
    obtain ⟨w, h1, h2⟩ := pickW_out (K := fun z => K z hp c) h
    exact pl rfl (by simp only [evC, ← ev]; exact h1) h2
  case binOp op t x y yt =>
    obtain ⟨w, h1, h2⟩ := binWW_out h
    exact pl rfl (by simp only [evC, ← ev]; exact h1) h2
  case unOp op t x =>
    obtain ⟨w, h1, h2⟩ := unWW_out h
    exact pl rfl (by simp only [evC, ← ev]; exact h1) h2
  case convert src d x =>
    split at h
    · rename_i hs
      obtain ⟨w, hp', c', h1, h2⟩ := bytW_out (env := env.map dec) (m0 := n) h
      rw [ev] at h1
      refine ⟨_, _, _, ?_, h2⟩
      have he : effC T ⟨dst, .convert src d x, type, pos, after, guard⟩ = true := by
        unfold isSlT at hs
        simp only [effC, isEff, strB, Bool.false_or]
        exact hs
      unfold opCV
      rw [he]
      exact h1
    · rename_i hs
      obtain ⟨w, h1, h2⟩ := icvWW_out (K := fun z => K z hp c) h
      exact pl (by unfold isSlT at hs; simp only [effC, isEff, strB, Bool.false_or]; exact hs) (by simp only [evC, ← ev]; exact h1) h2
  case extract x i =>
    rcases onT_out (show onH 13 _ false (fun l => nthW i l fun z => K z hp c) = true from h) with ⟨hl, h1⟩ | h1
    · obtain ⟨w, h2, h3⟩ := nthW_out (K := fun z => K z hp c) h1
      exact pl rfl (by simp only [evC, ← ev, hl]; exact h2) h3
    · cases h1
  case load t x =>
    obtain ⟨w, h1, h2⟩ := loadWW_out (K := fun z => K z hp c) h
    exact pl rfl (by simp only [evC, ← ev]; exact h1) h2
  case indexAddr t x i =>
    obtain ⟨w, h1, h2⟩ := idxW_out (K := fun z => K z hp c) h
    exact pl rfl (by simp only [evC, ← ev]; exact h1) h2
  case index t x i =>
    obtain ⟨w, h1, h2⟩ := genW_out h
    exact pl rfl (by simp only [evC, ← ev]; exact h1) h2
  case slice t x lo hi mx =>
    obtain ⟨w, h1, h2⟩ := genW_out h
    rw [mapO_eq n env (decH hp) c, mapO_eq n env (decH hp) c, mapO_eq n env (decH hp) c, ev] at h1
    exact pl rfl (by simp only [evC]; exact h1) h2
  case nilCheck x =>
    obtain ⟨h1, h2⟩ := nilcW_out (K := fun z => K z hp c) h
    refine pl rfl ?_ h2
    simp only [evC, ← ev]
    rcases h1 with ⟨a, b, h1⟩ | ⟨a, b, h1⟩ <;> rw [h1]
  case makeFunc fn first caps =>
    cases fn <;> simp only [reduceCtorEq] at h
    rename_i f'
    split at h
    · rename_i hf
      refine pl rfl ?_ h
      simp only [evC, hf]
      rw [dec_fn (x := ⟨14, _, r0, _⟩) rfl, evs_dec n env (decH hp) c]
    · rename_i hf
      split at h
      · rename_i hc
        refine pl rfl ?_ h
        show (match first.toList with | [] => some (CV.fn f' (caps.toList.map (evalC _))) | fs => (match caps.toList with | [] => some (CV.fnb f' (fs.map (evalC _))) | _ => none)) = _
        rw [hc, dec_fnb (x := ⟨16, _, r0, _⟩) rfl, evs_dec n env (decH hp) c]
        cases hfl : first.toList with
        | nil => exact absurd hfl hf
        | cons y ys => rfl
      · cases h
  case field t x f =>
    obtain ⟨w, h1, h2⟩ := fieldWW_out (K := fun z => K z hp c) h
    exact pl rfl (by simp only [evC, ← ev]; exact h1) h2
  case build t ps =>
    obtain ⟨w, h1, h2⟩ := buildWW_out (K := fun z => K z hp c) (s := ⟨env.map dec, n, decH hp, c⟩) (by rw [evs_dec n env (decH hp) c, List.map_map]; rfl) h
    exact pl rfl (by simp only [evC]; exact h1) h2
  case fieldAddr t x f =>
    split at h
    · rename_i o e hf
      split at h
      · rename_i k hs
        obtain ⟨n', off, w, h1, h2, h3⟩ := fadW_out (K := fun z => K z hp c) h
        refine pl rfl ?_ h3
        simp only [evC, ← ev, h1, hf, hs, h2]
      · cases h
    · cases h
  case store t a x =>
    obtain ⟨hp', h1, h2⟩ := storeWW_out (K := fun hp => K wUnd hp c) h
    refine ⟨_, _, _, ?_, h2⟩
    have h1' : storeC T ⟨env.map dec, n, decH hp, c⟩ t (evalC ⟨env.map dec, n, decH hp, c⟩ a) (evalC ⟨env.map dec, n, decH hp, c⟩ x) = some (decH hp') := by rw [← ev, ← ev]; exact h1
    unfold opCV
    simp only [isEff, h1']
    rfl
  case makeSlice t l m =>
    obtain ⟨w, hp', c', h1, h2⟩ := makeWW_out h
    refine ⟨_, _, _, ?_, h2⟩
    unfold opCV
    simp only [isEff, ← ev]
    exact h1
  case lookup t m k ok =>
    obtain ⟨w, h1, h2⟩ := genW_out h
    exact pl rfl (by simp only [evC, ← ev]; exact h1) h2
  case makeMap t r =>
    cases r with
    | none =>
      simp only at h
      rw [show real.newOW = newOW from rfl, newOW_eq] at h
      exact ⟨_, _, _, by unfold opCV; simp only [isEff, objC, newC, forceN_eq]; rfl, h⟩
    | some x =>
      simp only [evW_eq] at h
      obtain ⟨h1, ⟨k, m, h2⟩, h3⟩ := hintW_out (show hintW _ _ _ = true from h)
      rw [show real.newOW = newOW from rfl, newOW_eq] at h3
      exact ⟨_, _, _, by unfold opCV; simp only [isEff, objC, h1, ← ev, h2, newC, forceN_eq]; rfl, h3⟩
  case mapUpdate t m k v =>
    obtain ⟨w, hp', c', h1, h2⟩ := updOW_out (env := env.map dec) (n := n) h
    rw [ev, ev, ev] at h1
    exact ⟨_, _, _, by unfold opCV; simp only [isEff, objC]; exact h1, h2⟩
  case insert t m k v =>
    obtain ⟨w, hp', c', h1, h2⟩ := updOW_out (env := env.map dec) (n := n) h
    rw [ev, ev, ev] at h1
    exact ⟨_, _, _, by unfold opCV; simp only [isEff, objC]; exact h1, h2⟩
  case range t x =>
    obtain ⟨w, hp', c', h1, h2⟩ := rangeW_out (env := env.map dec) (n := n) h
    rw [ev] at h1
    exact ⟨_, _, _, by unfold opCV; simp only [isEff, objC]; exact h1, h2⟩
  case next it b =>
    cases b with
    | false => cases h
    | true =>
      simp only [evW_eq] at h
      obtain ⟨w, hp', c', h1, h2⟩ := nextW_out (env := env.map dec) (n := n) h
      rw [ev] at h1
      exact ⟨_, _, _, by unfold opCV; simp only [isEff, objC]; exact h1, h2⟩
  case alloc t =>
    obtain ⟨w, hp', c', h1, h2⟩ := allocW_out h
    exact ⟨_, _, _, by unfold opCV; simp only [isEff]; exact h1, h2⟩
  case box t x =>
    obtain ⟨w, hp', c', h1, h2⟩ := boxW_out h
    exact ⟨_, _, _, by unfold opCV; simp only [isEff, ← ev]; exact h1, h2⟩
  case buildSlice t len ps =>
    obtain ⟨w, hp', c', h1, h2⟩ := buildSWW_out (s := ⟨env.map dec, n, decH hp, c⟩) rfl rfl (by rw [evs_dec n env (decH hp) c, List.map_map]; rfl) h
    exact ⟨_, _, _, by unfold opCV; simp only [isEff]; exact h1, h2⟩
  case call cc =>
    obtain ⟨callee, args, argTypes⟩ := cc
    cases callee with
    | value f => simp [calleeOf] at hc
    | invoke r m => simp only [reduceCtorEq] at h
    | builtin b =>
      simp only at h
      split at h
      case h_1 x t ha ht =>
        obtain ⟨w, h1, h2⟩ := lenWM_out (K := fun z => K z hp c) (env.map dec) n c h
        exact pl rfl (by simp only [evC, ha, ht, ← ev]; exact h1) h2
      case h_2 m k t ts ha ht =>
        obtain ⟨w, hp', c', h1, h2⟩ := remOW_out (env := env.map dec) (n := n) h
        rw [ev, ev] at h1
        exact ⟨_, _, _, by unfold opCV; simp only [isEff, objC, ha, ht]; exact h1, h2⟩
      case h_3 x ha =>
        obtain ⟨w, h1, h2⟩ := genW_out h
        exact pl rfl (by simp only [evC, ha, ← ev]; exact h1) h2
      case h_4 x ha =>
        obtain ⟨w, h1, h2⟩ := genW_out h
        exact pl rfl (by simp only [evC, ha, ← ev]; exact h1) h2
      case h_5 x y ha =>
        obtain ⟨w, h1, h2⟩ := genW_out h
        exact pl rfl (by simp only [evC, ha, ← ev]; exact h1) h2
      case h_6 x y ha =>
        obtain ⟨w, h1, h2⟩ := genW_out h
        exact pl rfl (by simp only [evC, ha, ← ev]; exact h1) h2
      case h_7 x y ha =>
        obtain ⟨w, h1, h2⟩ := genW_out h
        exact pl rfl (by simp only [evC, ha, ← ev]; exact h1) h2
      case h_8 x y t t2 ha ht =>
        obtain ⟨w, hp', c', h1, h2⟩ := appWW_out (env := env.map dec) (m0 := n) h
        rw [ev, ev] at h1
        exact ⟨_, _, _, by unfold opCV; simp only [isEff, ha, ht]; exact h1, h2⟩
      case h_9 x y t t2 ha ht =>
        split at h
        · obtain ⟨w, hp', c', h1, h2⟩ := cpTWW_out (env := env.map dec) (m0 := n) h
          rw [ev, ev] at h1
          exact ⟨_, _, _, by unfold opCV; simp only [effC, isEff, strB, Bool.true_or, ha, ht]; exact h1, h2⟩
        · obtain ⟨w, hp', c', h1, h2⟩ := cpyWW_out (env := env.map dec) (m0 := n) h
          rw [ev, ev] at h1
          exact ⟨_, _, _, by unfold opCV; simp only [effC, isEff, strB, Bool.true_or, ha, ht]; exact h1, h2⟩
      case h_10 x t ha ht =>
        obtain ⟨w, hp', c', h1, h2⟩ := clrWW_out (env := env.map dec) (m0 := n) h
        rw [ev] at h1
        exact ⟨_, _, _, by unfold opCV; simp only [effC, isEff, strB, Bool.true_or, ha, ht]; exact h1, h2⟩
      case h_11 x t ha ht =>
        obtain ⟨w, h1, h2⟩ := genW_out h
        exact pl rfl (by simp only [evC, ha, ht, ← ev]; exact h1) h2
      case h_12 => cases h
end Go.Fw

namespace Go.Fw
open Go Go.RowKit


/-- A function of k values, of memory. -/
def Fun : Nat → Type
  | 0 => HW → Nat → Bool
  | k + 1 => W → Fun k
def curry : (k : Nat) → (List W → HW → Nat → Bool) → Fun k
  | 0, f => fun hp c => f [] hp c
  | k + 1, f => fun v => curry k fun vs => f (v :: vs)
def app : (k : Nat) → Fun k → List W → HW → Nat → Bool
  | 0, F, _, hp, c => F hp c
  | k + 1, F, v :: vs, hp, c => app k (F v) vs hp c
  | k + 1, F, [], hp, c => app k (F wAny) [] hp c
theorem app_curry : ∀ (k : Nat) (f : List W → HW → Nat → Bool) (vs : List W) (hp : HW) (c : Nat), vs.length = k → app k (curry k f) vs hp c = f vs hp c
  | 0, f, vs, hp, c, h => by
    have : vs = [] := List.eq_nil_of_length_eq_zero h
    subst this; rfl
  | k + 1, f, [], hp, c, h => by simp at h
  | k + 1, f, v :: vs, hp, c, h => by
    simp only [app, curry]
    exact app_curry k _ vs hp c (by simpa using h)
def FunA : Nat → Type
  | 0 => HW → Nat → KW → Bool
  | k + 1 => W → FunA k
def curryA : (k : Nat) → (List W → HW → Nat → KW → Bool) → FunA k
  | 0, f => fun hp c K => f [] hp c K
  | k + 1, f => fun v => curryA k fun vs => f (v :: vs)
def appA : (k : Nat) → FunA k → List W → HW → Nat → KW → Bool
  | 0, F, [], hp, c, K => F hp c K
  | k + 1, F, v :: vs, hp, c, K => appA k (F v) vs hp c K
  | _, _, _, _, _, _ => false
theorem appA_curryA : ∀ (k : Nat) (f : List W → HW → Nat → KW → Bool) (vs : List W) (hp : HW) (c : Nat) (K : KW), appA k (curryA k f) vs hp c K = true → f vs hp c K = true
  | 0, f, [], hp, c, K, h => h
  | 0, f, v :: vs, hp, c, K, h => by simp [appA] at h
  | k + 1, f, [], hp, c, K, h => by simp [appA] at h
  | k + 1, f, v :: vs, hp, c, K, h => by
    simp only [appA, curryA] at h
    exact appA_curryA k _ vs hp c K h
abbrev KS := List W → HW → Nat → Bool
def hdV (vs : List W) : W := match vs with | [] => wAny | v :: _ => v
noncomputable def opsK (Q : PrimW) (P : Program) (T : List (Nat × TyI)) (call : CallW) (n : Nat) (all : List Oper) : List Oper → List W → HW → Nat → KS → Bool
  | [], env, hp, c, K => K env hp c
  | o :: rest, env, hp, c, K =>
    match o.guard with
    | none => opW Q P T call n o env hp c fun x hp c => putW n env o.dst x fun env => opsK Q P T call n all rest env hp c K
    | some (j, want) => (match guardDst all j with
      | some t => evW n env (.tmp t) fun g =>
        Q.share _ (curry 1 fun vs hp c => putW n env o.dst (hdV vs) fun env => opsK Q P T call n all rest env hp c K) fun F =>
        Q.guardW want g (opW Q P T call n o env hp c fun x hp c => app 1 F [x] hp c) (app 1 F [wUnd] hp c)
      | none => false)
/-- An operation that asks nothing of memory. -/
def blindS (T : List (Nat × TyI)) (o : Oper) : Bool :=
  match o.op with
  | .binOp .. | .unOp .. | .extract .. | .pick .. | .index .. | .indexAddr .. | .fieldAddr .. | .field .. | .nilCheck _ => o.guard.isNone
  | .call c => (match c.callee with
    | .builtin .len => (match c.argTypes.toList with | [t] => (match mapLike T t with | false => o.guard.isNone | true => false) | _ => false)
    | .builtin .real | .builtin .imag | .builtin .complex | .builtin .min | .builtin .max => o.guard.isNone
    | _ => false)
  | _ => false
noncomputable def stillV (Q : PrimW) (call : CallW) (n : Nat) (all : List Oper) (o : Oper) (env : List W) (hp : HW) (c : Nat) (K : KS) : Bool :=
  match o.guard with
  | some (j, want) => (match guardDst all j with
    | some t => evW n env (.tmp t) fun g =>
      Q.share _ (curry 1 fun vs hp c => putW n env o.dst (hdV vs) fun env => K env hp c) fun F =>
      Q.guardW want g (match calleeOf o with
        | some (f, args) => (match f with
          | .func g => evsW n env args fun as => call g as hp c fun x _ _ => Q.knownW x (app 1 F [x] hp c)
          | _ => false)
        | none => false) (app 1 F [wUnd] hp c)
    | none => false)
  | none => (match calleeOf o with
    | some (f, args) => (match f with
      | .func g => evsW n env args fun as => call g as hp c fun x _ _ => Q.knownW x (putW n env o.dst x fun env => K env hp c)
      | _ => false)
    | none => false)
noncomputable def pickP (Q : PrimW) (P : Program) (T : List (Nat × TyI)) (stl : FuncId → Bool) (call : CallW) (n : Nat) (all : List Oper) (o : Oper) (env : List W) (hp : HW) (c : Nat) (K : KS) : Bool :=
  match isStill stl o with
  | true => stillV Q call n all o env hp c K
  | false => opsK Q P T call n all [o] env hp c K
/-- What was read early still reads so. -/
noncomputable def chkK (Q : PrimW) (P : Program) (T : List (Nat × TyI)) (call : CallW) (n : Nat) (all : List Oper) (env : List W) (hp : HW) (c : Nat) (rest : Bool) : List Nat → Bool
  | [] => rest
  | k :: r => (match nthOp all k with
    | some o => (match o.dst with
      | some t => (match effC T o with
        | true => false
        | false => (match o.guard with
          | none => opW Q P T call n o env hp c fun x _ _ => evW n env (.tmp t) fun y => Q.samQW x y (chkK Q P T call n all env hp c rest r)
          | some (j, want) => (match guardDst all j with
            | some u => Q.share Bool (chkK Q P T call n all env hp c rest r) fun A => evW n env (.tmp u) fun g => evW n env (.tmp t) fun y => Q.guardW want g (opW Q P T call n o env hp c fun x _ _ => Q.samQW x y A) (Q.samQW wUnd y A)
            | none => false)))
      | none => false)
    | none => false)
noncomputable def planK (Q : PrimW) (P : Program) (T : List (Nat × TyI)) (stl : FuncId → Bool) (call : CallW) (n : Nat) (all : List Oper) : PlanC → List W → HW → Nat → KS → Bool
  | .done, env, hp, c, K => K env hp c
  | .fin, _, _, _, _ => true
  | .op k b r, env, hp, c, K => (match nthOp all k with
    | some o => (match b with
      | true => (match isMove o with
        | true => pickP Q P T stl call n all o env hp c fun env hp c => planK Q P T stl call n all r env hp c K
        | false => (match blindS T o with
          | true => opW Q P T call n o env hp c fun x hp c => Q.detW x (putW n env o.dst x fun env => planK Q P T stl call n all r env hp c K)
          | false => false))
      | false => pickP Q P T stl call n all o env hp c fun env hp c => planK Q P T stl call n all r env hp c K)
    | none => false)
  | .alt k r p, env, hp, c, K => (match nthOp all k with
    | some o => Q.andW (pickP Q P T stl call n all o env hp c fun env hp c => planK Q P T stl call n all r env hp c K) (planK Q P T stl call n all p env hp c K)
    | none => false)
  | .two j k r, env, hp, c, K => (match nthOp all j, nthOp all k with
    | some o, some u => pickP Q P T stl call n all o env hp c fun env hp c => pickP Q P T stl call n all u env hp c fun env hp c => planK Q P T stl call n all r env hp c K
    | _, _ => false)
  | .chk ds r, env, hp, c, K => chkK Q P T call n all env hp c (planK Q P T stl call n all r env hp c K) ds
  | .twoD j k ds r, env, hp, c, K => (match nthOp all j, nthOp all k with
    | some o, some u => pickP Q P T stl call n all u env hp c fun env2 hp2 c2 => chkK Q P T call n all env2 hp2 c2 (pickP Q P T stl call n all o env hp c fun env hp c => chkK Q P T call n all env hp c (pickP Q P T stl call n all u env hp c fun env hp c => chkK Q P T call n all env hp c (planK Q P T stl call n all r env hp c K) ds) ds) ds
    | _, _ => false)

def selK (env : List W) : List Nat → (List W → Bool) → Bool
  | [], K => K []
  | t :: r, K => nthE env t fun v => selK env r fun vs => K (v :: vs)
theorem selK_eq (env : List W) : ∀ (ws : List Nat) (K : List W → Bool), selK env ws K = K (ws.map fun t => env.getD t wUnd)
  | [], _ => rfl
  | t :: r, K => by simp only [selK, nthE_eq, selK_eq env r, List.map_cons]
def setsE : List Nat → List W → List W → (List W → Bool) → Bool
  | t :: r, v :: vs, env, K => setL env t v fun env => setsE r vs env K
  | _, _, env, K => K env
def setsL : List Nat → List W → List W → List W
  | t :: r, v :: vs, env => setsL r vs (env.set t v)
  | _, _, env => env
theorem setsE_eq : ∀ (ws : List Nat) (vs env : List W) (K : List W → Bool), setsE ws vs env K = K (setsL ws vs env)
  | t :: r, v :: vs, env, K => by simp only [setsE, setL_eq, setsE_eq r, setsL]
  | [], vs, env, K => by cases vs <;> rfl
  | t :: r, [], env, K => rfl
def anyWt : List Nat → List W → List W
  | [], l => l
  | t :: r, l => anyWt r (l.set t wAny)
def anyE : List Nat → List W → (List W → Bool) → Bool
  | [], env, K => K env
  | t :: r, env, K => setL env t wAny fun env => anyE r env K
theorem anyE_eq : ∀ (ws : List Nat) (env : List W) (K : List W → Bool), anyE ws env K = K (anyWt ws env)
  | [], _, _ => rfl
  | t :: r, env, K => by simp only [anyE, setL_eq, anyE_eq r, anyWt]
noncomputable def killK (Q : PrimW) : List Nat → List W → HW → (HW → Bool) → Bool
  | [], _, hp, K => K hp
  | t :: r, env, hp, K => nthE env t fun v => Q.killVW v hp fun hp => killK Q r env hp K
def lookX : List (Nat × KS) → Nat → KS
  | [], _ => fun _ _ _ => false
  | (i, K) :: r, id => match Nat.beq i id with | true => K | false => lookX r id
noncomputable def loopN (k : Nat) (body : Fun k → List W → HW → Nat → Bool) (fu : Nat) : Fun k :=
  @Nat.rec (fun _ => Fun k) (curry k fun _ _ _ => false) (fun _ ih => curry k (body ih)) fu

/-- A RUN OF CODE, written for the kernel. -/
noncomputable def exK (Q : PrimW) (P : Program) (T : List (Nat × TyI)) (stl : FuncId → Bool) (A : Ann) (fu : Nat) (call : CallW) (n : Nat) (kr : KS) : Code → List (Nat × KS) → List W → HW → Nat → KS → Bool
  | .skip, _, env, hp, c, K => K env hp c
  | .label _, _, env, hp, c, K => K env hp c
  | .region id ops _, _, env, hp, c, K => (match A.plan id with
    | none => opsK Q P T call n ops.toList ops.toList env hp c fun env hp c => killK Q (A.kr id) env hp fun hp => K env hp c
    | some p => planK Q P T stl call n ops.toList p env hp c fun env hp c => killK Q (A.kr id) env hp fun hp => K env hp c)
  | .seq a b, X, env, hp, c, K => (match A.wj (firstR b) with
    | none => exK Q P T stl A fu call n kr a X env hp c fun env hp c => exK Q P T stl A fu call n kr b X env hp c K
    | some ws => Q.share _ (curry ws.length fun vs hp c => anyE (wrC a) env fun e => setsE ws vs e fun e => exK Q P T stl A fu call n kr b X e hp c K) fun F =>
      exK Q P T stl A fu call n kr a X env hp c fun env hp c => selK env ws fun vs => app ws.length F vs hp c)
  | .cond x a b, X, env, hp, c, K => evW n env x fun v => Q.condW v (exK Q P T stl A fu call n kr a X env hp c K) (exK Q P T stl A fu call n kr b X env hp c K)
  | .block id b, X, env, hp, c, K => exK Q P T stl A fu call n kr b ((id, K) :: X) env hp c K
  | .loop b, X, env, hp, c, _ => selK env (A.wl (firstR b)) fun vs => app (A.wl (firstR b)).length (loopN (A.wl (firstR b)).length (fun again vs hp c => anyE (wrC b) env fun e => setsE (A.wl (firstR b)) vs e fun e =>
      exK Q P T stl A fu call n kr b X e hp c fun e hp c => selK e (A.wl (firstR b)) fun vs => app (A.wl (firstR b)).length again vs hp c) fu) vs hp c
  | .scope b, X, env, hp, c, K => exK Q P T stl A fu call n kr b X env hp c K
  | .exit id, X, env, hp, c, _ => lookX X id env hp c
  | .ret, _, env, hp, c, _ => kr env hp c
  | _, _, _, _, _, _ => false

/- What a function hands back. -/
noncomputable def resGo (Q : PrimW) (T : List (Nat × TyI)) (n : Nat) (env : List W) (hp : HW) : List ResultVar → (List W → Bool) → Bool
  | [], K => K []
  | .tmp t :: r, K => evW n env (.tmp t) fun x => resGo Q T n env hp r fun l => K (x :: l)
  | .cell t ty :: r, K => evW n env (.tmp t) fun a => loadWW Q.loadSW Q.loadAW T hp ty a fun x => resGo Q T n env hp r fun l => K (x :: l)
def tupV : List W → W
  | [x] => x
  | l => ⟨13, 0, r0, l⟩
def padW : Nat → List W → List W
  | 0, l => l
  | n + 1, [] => wUnd :: padW n []
  | n + 1, a :: l => a :: padW n l
/-- A FUNCTION'S RUN, written for the kernel. -/
noncomputable def fnK (Q : PrimW) (P : Program) (T : List (Nat × TyI)) (stl : FuncId → Bool) (fu : Nat) (call : CallW) (e : Ent) (args : List W) (hp : HW) (c : Nat) (K : KW) : Bool :=
  match Nat.ble args.length e.n with
  | true => exK Q P T stl e.ann fu call e.n (fun env hp c => resGo Q T e.n env hp e.rs fun l => killK Q e.ann.kf env hp fun hp => K (tupV l) hp c) e.code [] (padW e.n args) hp c (fun env hp c => resGo Q T e.n env hp e.rs fun l => killK Q e.ann.kf env hp fun hp => K (tupV l) hp c)
  | false => false
end Go.Fw

namespace Go.Fw
open Go Go.RowKit

/-- Nothing but these slots has been written. -/
def Fr (w : List Nat) (e e' : List W) : Prop := e'.length = e.length ∧ ∀ t, t ∉ w → e'[t]? = e[t]?
theorem Fr.refl (w : List Nat) (e : List W) : Fr w e e := ⟨rfl, fun _ _ => rfl⟩
theorem Fr.trans {w v : List Nat} {a b c : List W} (h : Fr w a b) (h' : Fr v b c) : Fr (w ++ v) a c :=
  ⟨h'.1.trans h.1, fun t ht => by rw [h'.2 t (fun e => ht (by simp [e])), h.2 t (fun e => ht (by simp [e]))]⟩
theorem Fr.mono {w v : List Nat} {a b : List W} (h : Fr w a b) (hv : ∀ t ∈ w, t ∈ v) : Fr v a b := ⟨h.1, fun t ht => h.2 t fun e => ht (hv t e)⟩
theorem Fr.cat {w : List Nat} {a b c : List W} (h : Fr w a b) (h' : Fr w b c) : Fr w a c := (h.trans h').mono fun t ht => by simpa using ht
def dOf (d : Option Tmp) : List Nat := match d with | some t => [t] | none => []
def dstL (o : Oper) : List Nat := dOf o.dst
theorem opsW_cons (o : Oper) (r : List Oper) : opsW (o :: r) = dstL o ++ opsW r := by
  unfold dstL dOf; simp only [opsW]; cases o.dst <;> rfl

theorem putW_out {n : Nat} {env : List W} {d : Option Tmp} {x : W} {K : List W → Bool} (h : putW n env d x K = true) :
    ∃ e' : List W, (∀ (sl : List CV) hp c, sl = env.map dec → stepK ⟨sl, n, hp, c⟩ d (dec x) = some ⟨e'.map dec, n, hp, c⟩) ∧ Fr (dOf d) env e' ∧ K e' = true := by
  cases d with
  | none => exact ⟨env, fun _ _ _ h => by subst h; rfl, Fr.refl _ _, h⟩
  | some t =>
    simp only [putW] at h
    split at h
    · rename_i ht
      rw [setL_eq] at h
      refine ⟨env.set t x, (fun sl hp c hs => by subst hs; simp only [stepK, ht, forceV_eq, List.map_set]), ⟨by simp, fun u hu => ?_⟩, h⟩
      rw [List.getElem?_set_ne]
      intro e; exact hu (by simp [dOf, e])
    · cases h

/-- From some depth on a run has one outcome; all its ways are such; sg: it has one way. -/
def Out {β : Type} (r : Nat → Option (List β)) (sg : Prop) (G : β → Prop) : Prop := ∃ N0 LL, (∀ N, N0 ≤ N → r N = some LL) ∧ (sg → ∃ p, LL = [p]) ∧ ∀ p ∈ LL, G p
theorem Out.mono {β : Type} {r : Nat → Option (List β)} {sg sg' : Prop} {G G' : β → Prop} (h : Out r sg G) (hs : sg' → sg) (hg : ∀ p, G p → G' p) : Out r sg' G' := by
  obtain ⟨N0, LL, h1, h2, h3⟩ := h
  exact ⟨N0, LL, h1, fun h => h2 (hs h), fun p hp => hg p (h3 p hp)⟩
theorem Out.one {β : Type} {sg : Prop} {G : β → Prop} {x : β} (hx : G x) : Out (fun _ => some [x]) sg G := ⟨0, [x], fun _ _ => rfl, fun _ => ⟨x, rfl⟩, fun p hp => by simp at hp; subst hp; exact hx⟩
theorem Out.congr {β : Type} {r r' : Nat → Option (List β)} {sg : Prop} {G : β → Prop} (h : Out r sg G) (k : Nat) (he : ∀ N, r' (N + k) = r N) : Out r' sg G := by
  obtain ⟨N0, LL, h1, h2, h3⟩ := h
  refine ⟨N0 + k, LL, fun N hN => ?_, h2, h3⟩
  obtain ⟨M, rfl⟩ : ∃ M, N = M + k := ⟨N - k, by omega⟩
  rw [he]
  exact h1 M (by omega)
theorem allL_out {α β : Type} {f : Nat → α → Option (List β)} {sg : Prop} {G : β → Prop} : ∀ l : List α, (∀ x ∈ l, Out (fun N => f N x) sg G) → Out (fun N => allL (f N) l) (sg ∧ ∃ x, l = [x]) G
  | [], _ => ⟨0, [], fun _ _ => rfl, (fun h => by obtain ⟨_, x, hx⟩ := h; cases hx), by simp⟩
  | [a], h => (h a (by simp)).mono (fun h => h.1) fun _ h => h
  | a :: b :: r, h => by
    obtain ⟨N0, L0, g1, _, g3⟩ := h a (by simp)
    obtain ⟨N1, L1, k1, _, k3⟩ := allL_out (b :: r) fun x hx => h x (by simp [hx])
    refine ⟨max N0 N1, L0 ++ L1, fun N hN => ?_, (fun h => by obtain ⟨_, x, hx⟩ := h; cases hx), fun p hp => ?_⟩
    · have e1 : f N a = some L0 := g1 N (by omega)
      have e2 : allL (f N) (b :: r) = some L1 := k1 N (by omega)
      show (match f N a with | some x => (match allL (f N) (b :: r) with | some y => some (x ++ y) | none => none) | none => none) = some (L0 ++ L1)
      rw [e1, e2]
    · rcases List.mem_append.1 hp with hp | hp
      · exact g3 p hp
      · exact k3 p hp
theorem bind_out {α β : Type} {r : Nat → Option (List α)} {f : Nat → α → Option (List β)} {sg : Prop} {G : β → Prop} (h : Out r sg fun x => Out (fun N => f N x) sg G) : Out (fun N => bindL (r N) (f N)) sg G := by
  obtain ⟨N0, l, h1, h2, h3⟩ := h
  obtain ⟨N1, L, g1, g2, g3⟩ := allL_out l h3
  refine ⟨max N0 N1, L, fun N hN => ?_, fun hs => g2 ⟨hs, h2 hs⟩, g3⟩
  simp only [bindL, h1 N (by omega)]
  exact g1 N (by omega)

/-- What a state of the run stands for here. -/
def Rp (n : Nat) (w : List Nat) (env : List W) (R : KS) (s : CSt) : Prop := ∃ env' hp', s = ⟨env'.map dec, n, decH hp', s.c⟩ ∧ Fr w env env' ∧ R env' hp' s.c = true
theorem Rp.of {n : Nat} {w : List Nat} {env env' : List W} {R : KS} {hp : HW} {c : Nat} (h : Fr w env env') (hr : R env' hp c = true) : Rp n w env R ⟨env'.map dec, n, decH hp, c⟩ := ⟨env', hp, rfl, h, hr⟩

section
variable {P : Program} {T : List (Nat × TyI)} {stl : FuncId → Bool} {F : FuncId → Option Ent}

/-- What a call's end stands for. -/
def Rc (K : KW) (p : CV × AL CSeg × Nat) : Prop := ∃ w hp', p.1 = dec w ∧ p.2.1 = decH hp' ∧ K w hp' p.2.2 = true
/-- What is asked of a table of functions. -/
def CallSim (P : Program) (T : List (Nat × TyI)) (stl : FuncId → Bool) (F : FuncId → Option Ent) (call : CallW) : Prop := ∀ g args hp c K, call g args hp c K = true →
  Out (fun N => enterK P T F (execC P T stl F N) g (args.map dec) (decH hp) c) (stl g = true) (Rc K)

variable {call : CallW} {n : Nat}

theorem stepL_out {env : List W} {d : Option Tmp} {R : KS} : ∀ (l : List (CV × AL CSeg × Nat)), (∀ p ∈ l, Rc (fun x hp c => putW n env d x fun env => R env hp c) p) → ∀ (hp : AL CSeg) (c : Nat),
    ∃ L, stepL ⟨env.map dec, n, hp, c⟩ d l = some L ∧ ((∃ p, l = [p]) → ∃ s, L = [s]) ∧ ∀ s' ∈ L, Rp n (dOf d) env R s'
  | [], _, hp, c => ⟨[], rfl, (fun h => by obtain ⟨p, h⟩ := h; cases h), by simp⟩
  | (x, hp', c') :: r, h, hp, c => by
    obtain ⟨L, h1, _, h3⟩ := stepL_out r (fun p hp => h p (by simp [hp])) hp c
    obtain ⟨w, hw, e1, e2, hk⟩ := h (x, hp', c') (by simp)
    simp only at e1 e2
    subst e1 e2
    obtain ⟨e', g1, g2, g3⟩ := putW_out hk
    have g1' := fun hp c => g1 (env.map dec) hp c rfl
    refine ⟨⟨e'.map dec, n, decH hw, c'⟩ :: L, by simp only [stepL, g1', h1], fun hh => ?_, fun s' hs => ?_⟩
    · obtain ⟨p, hh⟩ := hh
      cases hh
      simp only [stepL, Option.some.injEq] at h1
      exact ⟨_, by rw [← h1]⟩
    · rcases List.mem_cons.1 hs with rfl | hs
      · exact Rp.of g2 g3
      · exact h3 s' hs

theorem isEff_call {o : Oper} {f : Operand} {args : List Operand} (h : calleeOf o = some (f, args)) : effC T o = true := by
  obtain ⟨dst, op, type, pos, after, guard⟩ := o
  cases op <;> simp [calleeOf] at h
  rename_i cc
  obtain ⟨callee, as, ts⟩ := cc
  cases callee <;> simp at h
  rename_i v
  cases v <;> simp [effC, isEff, strB]

theorem opW_out (hcall : CallSim P T stl F call) {o : Oper} {env : List W} {hp : HW} {c : Nat} {R : KS} (h : opW real P T call n o env hp c (fun x hp c => putW n env o.dst x fun env => R env hp c) = true) :
    Out (fun N => opL P T (enterK P T F (execC P T stl F N)) ⟨env.map dec, n, decH hp, c⟩ o) (plainC T stl o = true) (Rp n (dstL o) env R) := by
  cases hc : calleeOf o with
  | none =>
    obtain ⟨x, hp', c', h1, h2⟩ := opW_plain hc h
    obtain ⟨e', g1, g2, g3⟩ := putW_out h2
    have e := opC_of h1
    simp only [g1 _ _ _ rfl] at e
    refine (Out.one (sg := plainC T stl o = true) (G := Rp n (dstL o) env R) (x := (⟨e'.map dec, n, decH hp', c'⟩ : CSt)) (Rp.of g2 g3)).congr 0 fun N => ?_
    simp only [opL, hc, e]
  | some p =>
    obtain ⟨f, args⟩ := p
    have hval : ∃ cc, o.op = .call cc ∧ cc.callee = .value f ∧ cc.args.toList = args := by
      obtain ⟨dst, op, type, pos, after, guard⟩ := o
      cases op <;> simp [calleeOf] at hc
      rename_i cc
      refine ⟨cc, rfl, ?_⟩
      obtain ⟨callee, as, ts⟩ := cc
      cases callee <;> simp at hc
      exact ⟨by simp [hc.1], by simp [hc.2]⟩
    obtain ⟨cc, ho, hcal, hargs⟩ := hval
    have hl1 : ∀ caps : List W, (appL (args.map (evalW n env)) caps).map dec = args.map (evalC ⟨env.map dec, n, decH hp, c⟩) ++ caps.map dec := fun caps => by rw [appL_eq, List.map_append, evs_dec n env (decH hp) c]
    have hl2 : ∀ fs : List W, (appL fs (args.map (evalW n env))).map dec = fs.map dec ++ args.map (evalC ⟨env.map dec, n, decH hp, c⟩) := fun fs => by rw [appL_eq, List.map_append, evs_dec n env (decH hp) c]
    have dy : (onG (evalW n env f) (args.map (evalW n env)) fun g l => call g l hp c (fun x hp c => putW n env o.dst x fun env => R env hp c)) = true → ∃ g al, ((∃ caps, evalC ⟨env.map dec, n, decH hp, c⟩ f = .fn g caps ∧ al.map dec = args.map (evalC ⟨env.map dec, n, decH hp, c⟩) ++ caps) ∨ (∃ fs, evalC ⟨env.map dec, n, decH hp, c⟩ f = .fnb g fs ∧ al.map dec = fs ++ args.map (evalC ⟨env.map dec, n, decH hp, c⟩))) ∧ call g al hp c (fun x hp c => putW n env o.dst x fun env => R env hp c) = true := fun h => by
      rcases onG_out h with ⟨hf, h1⟩ | ⟨hf, h1⟩
      · exact ⟨_, _, .inl ⟨_, by rw [← evalW_dec]; exact hf, hl1 _⟩, h1⟩
      · exact ⟨_, _, .inr ⟨_, by rw [← evalW_dec]; exact hf, hl2 _⟩, h1⟩
    have key : ∃ g al, ((∃ caps, evalC ⟨env.map dec, n, decH hp, c⟩ f = .fn g caps ∧ al.map dec = args.map (evalC ⟨env.map dec, n, decH hp, c⟩) ++ caps) ∨ (∃ fs, evalC ⟨env.map dec, n, decH hp, c⟩ f = .fnb g fs ∧ al.map dec = fs ++ args.map (evalC ⟨env.map dec, n, decH hp, c⟩))) ∧ call g al hp c (fun x hp c => putW n env o.dst x fun env => R env hp c) = true := by
      unfold opW at h
      simp only [ho, hcal] at h
      cases f with
      | func g =>
        simp only [evsW_eq, hargs] at h
        exact ⟨g, _, .inl ⟨[], rfl, by rw [evs_dec n env (decH hp) c, List.append_nil]⟩, h⟩
      | tmp t =>
        simp only [evW_eq, evsW_eq, hargs] at h
        exact dy h
      | const v =>
        simp only [evW_eq, evsW_eq, hargs] at h
        exact dy h
      | global v =>
        simp only [evW_eq, evsW_eq, hargs] at h
        exact dy h
    obtain ⟨g, al, hf, h1⟩ := key
    obtain ⟨N0, l, k1, k2, k3⟩ := hcall g _ hp c _ h1
    obtain ⟨L, m1, m2, m3⟩ := stepL_out (n := n) (env := env) (d := o.dst) (R := R) l k3 (decH hp) c
    refine ⟨N0, L, fun N hN => ?_, fun hs => ?_, m3⟩
    · have k1' := k1 N hN
      rcases hf with ⟨caps, hf, hal⟩ | ⟨fs, hf, hal⟩
      · simp only [hal] at k1'
        simp only [opL, hc, callL, hf, k1', m1]
      · simp only [hal] at k1'
        simp only [opL, hc, callL, hf, k1', m1]
    · rcases plain_cases hs with h0 | h0
      · rw [isEff_call hc] at h0; cases h0
      · obtain ⟨g', args', hc', hst⟩ := isStill_out h0
        rw [hc] at hc'
        cases hc'
        rcases hf with ⟨caps, hf, _⟩ | ⟨fs, hf, _⟩
        · simp only [evalC, CV.fn.injEq] at hf
          rw [hf.1] at hst
          exact m2 (k2 hst)
        · simp only [evalC, reduceCtorEq] at hf

theorem opsK_out (hcall : CallSim P T stl F call) {all : List Oper} {K : KS} : ∀ (l : List Oper) (env : List W) (hp : HW) (c : Nat), opsK real P T call n all l env hp c K = true →
    Out (fun N => opsL P T (enterK P T F (execC P T stl F N)) all l ⟨env.map dec, n, decH hp, c⟩) (l.all (plainC T stl) = true) (Rp n (opsW l) env K)
  | [], env, hp, c, h => (Out.one (x := (⟨env.map dec, n, decH hp, c⟩ : CSt)) (Rp.of (Fr.refl _ _) h)).congr 0 fun N => rfl
  | o :: rest, env, hp, c, h => by
    have step : ∀ {env1 : List W} {hp1 : HW} {c1 : Nat}, Fr (dstL o) env env1 → opsK real P T call n all rest env1 hp1 c1 K = true →
        Out (fun N => opsL P T (enterK P T F (execC P T stl F N)) all rest ⟨env1.map dec, n, decH hp1, c1⟩) ((o :: rest).all (plainC T stl) = true) (Rp n (opsW (o :: rest)) env K) := fun hf hk =>
      (opsK_out hcall rest _ _ _ hk).mono (fun hs => by simp only [List.all_cons, Bool.and_eq_true] at hs; exact hs.2) fun p ⟨e', hp', h1, h2, h3⟩ => ⟨e', hp', h1, by rw [opsW_cons]; exact hf.trans h2, h3⟩
    have run : opW real P T call n o env hp c (fun x hp c => putW n env o.dst x fun env => opsK real P T call n all rest env hp c K) = true →
        Out (fun N => bindL (opL P T (enterK P T F (execC P T stl F N)) ⟨env.map dec, n, decH hp, c⟩ o) (opsL P T (enterK P T F (execC P T stl F N)) all rest)) ((o :: rest).all (plainC T stl) = true) (Rp n (opsW (o :: rest)) env K) := fun hh =>
      bind_out ((opW_out hcall hh).mono (fun hs => by simp only [List.all_cons, Bool.and_eq_true] at hs; exact hs.1) fun s' ⟨e', hp', h1, h2, h3⟩ => by
        rw [h1]
        exact step h2 h3)
    unfold opsK at h
    split at h
    · rename_i hg
      exact (run h).congr 0 fun N => by simp only [opsL, hg]; rfl
    · rename_i j want hg
      split at h
      · rename_i t ht
        rw [evW_eq] at h
        simp only [app, curry, hdV] at h
        have skip : putW n env o.dst wUnd (fun env => opsK real P T call n all rest env hp c K) = true →
            Out (fun N => bindL (oneL (stepK ⟨env.map dec, n, decH hp, c⟩ o.dst (.tup []))) (opsL P T (enterK P T F (execC P T stl F N)) all rest)) ((o :: rest).all (plainC T stl) = true) (Rp n (opsW (o :: rest)) env K) := fun hh => by
          obtain ⟨e', g1, g2, g3⟩ := putW_out hh
          have g1' : stepK ⟨env.map dec, n, decH hp, c⟩ o.dst (.tup []) = some ⟨e'.map dec, n, decH hp, c⟩ := g1 _ _ _ rfl
          exact (step g2 g3).congr 0 fun N => by simp only [g1', oneL, bindL, allL]; rfl
        have hd : dec (evalW n env (.tmp t)) = evalC ⟨env.map dec, n, decH hp, c⟩ (.tmp t) := evalW_dec _ _ _ _ _
        rcases guardW_out h with ⟨hb, h1⟩ | ⟨hb | hb, h1⟩ <;> rw [hd] at hb
        · exact (run h1).congr 0 fun N => by simp only [opsL, hg, ht, hb]; cases want <;> rfl
        · exact (skip h1).congr 0 fun N => by simp only [opsL, hg, ht, hb]; cases want <;> rfl
        · exact (skip h1).congr 0 fun N => by simp only [opsL, hg, ht, hb]; rfl
      · cases h

theorem blindS_same {o : Oper} (h : blindS T o = true) (env : List CV) (hp : AL CSeg) (c : Nat) : evC P T ⟨env, n, .nil, c⟩ o = evC P T ⟨env, n, hp, c⟩ o ∧ o.guard = none ∧ calleeOf o = none ∧ effC T o = false := by
  obtain ⟨dst, op, type, pos, after, guard⟩ := o
  cases op <;> simp only [blindS, reduceCtorEq] at h
  case call cc =>
    obtain ⟨callee, args, ts⟩ := cc
    cases callee with
    | value f => simp at h
    | invoke r m => simp at h
    | builtin b =>
      cases b
      case len =>
        simp only at h
        split at h
        · rename_i t ht
          split at h
          · rename_i hm
            refine ⟨?_, by simpa using h, rfl, rfl⟩
            simp only [evC, ht]
            rcases args.toList with _ | ⟨x, _ | ⟨y, l⟩⟩
            · rfl
            · simp only [lenMC, hm]; rfl
            · rfl
          · cases h
        · cases h
      all_goals (simp only at h; try (simp at h; done))
      all_goals
        refine ⟨?_, by simpa using h, rfl, rfl⟩
        simp only [evC]
        rcases args.toList with _ | ⟨x, _ | ⟨y, _ | ⟨z, l⟩⟩⟩ <;> rfl
  all_goals (refine ⟨rfl, ?_, rfl, rfl⟩; simpa using h)

theorem pickP_out (hcall : CallSim P T stl F call) {all : List Oper} {K : KS} {o : Oper} {env : List W} {hp : HW} {c : Nat} (h : pickP real P T stl call n all o env hp c K = true) :
    Out (fun N => pickL P T stl (enterK P T F (execC P T stl F N)) all o ⟨env.map dec, n, decH hp, c⟩) False (Rp n (dstL o) env K) := by
  unfold pickP at h
  split at h
  · rename_i hst
    have skip : ∀ {N0 : Nat}, putW n env o.dst wUnd (fun env => K env hp c) = true → (∀ N, N0 ≤ N → stillG stl (enterK P T F (execC P T stl F N)) all ⟨env.map dec, n, decH hp, c⟩ o = stepK ⟨env.map dec, n, decH hp, c⟩ o.dst (.tup [])) →
        Out (fun N => pickL P T stl (enterK P T F (execC P T stl F N)) all o ⟨env.map dec, n, decH hp, c⟩) False (Rp n (dstL o) env K) := fun {N0} hk hs => by
      obtain ⟨e', g1, g2, g3⟩ := putW_out hk
      have g1' : stepK ⟨env.map dec, n, decH hp, c⟩ o.dst (.tup []) = some ⟨e'.map dec, n, decH hp, c⟩ := g1 _ _ _ rfl
      refine ⟨N0, [⟨e'.map dec, n, decH hp, c⟩], fun N hN => ?_, False.elim, fun s' hs' => ?_⟩
      · simp only [pickL, hst, hs N hN, g1', oneL]
      · simp at hs'; subst hs'
        exact Rp.of g2 g3
    have run : ∀ {K1 : W → Bool}, (∀ x, K1 x = true → putW n env o.dst x (fun env => K env hp c) = true) → (match calleeOf o with
        | some (f, args) => (match f with
          | .func g => evsW n env args fun as => call g as hp c fun x _ _ => real.knownW x (K1 x)
          | _ => false)
        | none => false) = true → (∀ N, stillG stl (enterK P T F (execC P T stl F N)) all ⟨env.map dec, n, decH hp, c⟩ o = stillL stl (enterK P T F (execC P T stl F N)) ⟨env.map dec, n, decH hp, c⟩ o) →
        Out (fun N => pickL P T stl (enterK P T F (execC P T stl F N)) all o ⟨env.map dec, n, decH hp, c⟩) False (Rp n (dstL o) env K) := fun {K1} hK1 h hs => by
      split at h
      · rename_i f args hc
        split at h
        · rename_i g
          rw [evsW_eq] at h
          have hs1 : stl g = true := by simpa [isStill, hc] using hst
          obtain ⟨N0, l, k1, k2, k3⟩ := hcall g _ hp c _ h
          obtain ⟨p, rfl⟩ := k2 hs1
          obtain ⟨x, hp', c'⟩ := p
          obtain ⟨w, hw, e1, e2, hk⟩ := k3 (x, hp', c') (List.mem_singleton.2 rfl)
          simp only at e1 e2
          subst e1
          obtain ⟨⟨v, hv⟩, h2⟩ := knownW_out hk
          obtain ⟨e', g1, g2, g3⟩ := putW_out (hK1 w h2)
          have g1' : stepK ⟨env.map dec, n, decH hp, c⟩ o.dst (dec w) = some ⟨e'.map dec, n, decH hp, c⟩ := g1 _ _ _ rfl
          refine ⟨N0, [⟨e'.map dec, n, decH hp, c⟩], fun N hN => ?_, False.elim, fun s' hs' => ?_⟩
          · have k1' := k1 N hN
            simp only [evs_dec n env (decH hp) c] at k1'
            simp only [pickL, hst, hs N, stillL, hc, hs1, k1', hv, g1', oneL]
          · simp at hs'; subst hs'
            exact Rp.of g2 g3
        · cases h
      · cases h
    have hd : ∀ t, dec (evalW n env (.tmp t)) = evalC ⟨env.map dec, n, decH hp, c⟩ (.tmp t) := fun t => evalW_dec _ _ _ _ _
    unfold stillV at h
    split at h
    · rename_i j want hg
      split at h
      · rename_i t ht
        rw [evW_eq] at h
        rcases guardW_out h with ⟨hb, h1⟩ | ⟨hb | hb, h1⟩ <;> rw [hd] at hb
        · exact run (K1 := fun x => putW n env o.dst x fun env => K env hp c) (fun x hx => hx) h1 fun N => by simp only [stillG, hg, ht, hb]; cases want <;> rfl
        · exact skip (N0 := 0) h1 fun N _ => by simp only [stillG, hg, ht, hb]; cases want <;> rfl
        · exact skip (N0 := 0) h1 fun N _ => by simp only [stillG, hg, ht, hb]; cases want <;> rfl
      · cases h
    · rename_i hg
      exact run (K1 := fun x => putW n env o.dst x fun env => K env hp c) (fun x hx => hx) h fun N => by simp only [stillG, hg]
  · rename_i hst
    refine ((opsK_out hcall [o] env hp c h).mono False.elim fun s' hs => ?_).congr 0 fun N => by simp only [pickL, hst]; rfl
    obtain ⟨e', hp', h1, h2, h3⟩ := hs
    exact ⟨e', hp', h1, by rw [opsW_cons] at h2; simpa [opsW] using h2, h3⟩

/-- The slots that a plan's operations write. -/
theorem nth_dst {all : List Oper} {k : Nat} {o : Oper} (h : nthOp all k = some o) : ∀ t ∈ dstL o, t ∈ opsW all := by
  induction all generalizing k with
  | nil => simp [nthOp] at h
  | cons a r ih =>
    intro t ht
    rw [opsW_cons]
    cases k with
    | zero => simp only [nthOp, Option.some.injEq] at h; subst h; simp [ht]
    | succ k => simp only [nthOp] at h; simp [ih h t ht]

theorem chkK_out {all : List Oper} {env : List W} {hp : HW} {c : Nat} {rest : Bool} : ∀ (ds : List Nat), chkK real P T call n all env hp c rest ds = true → rechk P T all ⟨env.map dec, n, decH hp, c⟩ ds = true ∧ rest = true
  | [], h => ⟨rfl, h⟩
  | k :: r, h => by
    unfold chkK at h
    split at h
    · rename_i o ho
      split at h
      · rename_i t ht
        split at h
        · cases h
        · rename_i he
          have hcal : calleeOf o = none := calleeOf_eff he
          have hd : ∀ u, dec (evalW n env (.tmp u)) = evalC ⟨env.map dec, n, decH hp, c⟩ (.tmp u) := fun u => evalW_dec _ _ _ _ _
          have run : ∀ {A : Bool} {y : W}, opW real P T call n o env hp c (fun x _ _ => real.samQW x y A) = true → ∃ x, evC P T ⟨env.map dec, n, decH hp, c⟩ o = some x ∧ sameD x (dec y) = true ∧ A = true := fun hh => by
            obtain ⟨x, hp', c', h1, h2⟩ := opW_plain hcal hh
            obtain ⟨h3, h4⟩ := samQW_out h2
            unfold opCV at h1
            rw [he] at h1
            simp only at h1
            split at h1
            · rename_i y' hy
              simp only [Option.some.injEq, Prod.mk.injEq] at h1
              exact ⟨_, hy, by rw [h1.1]; exact h3, h4⟩
            · cases h1
          split at h
          · rename_i hg
            simp only [evW_eq] at h
            obtain ⟨x, h1, h2, h3⟩ := run h
            obtain ⟨h4, h5⟩ := chkK_out r h3
            rw [hd] at h2
            exact ⟨by simp only [rechk, ho, ht, rdC, hg, h1, h2, h4], h5⟩
          · rename_i j want hg
            split at h
            · rename_i u hu
              simp only [evW_eq, real] at h
              rcases guardW_out h with ⟨hb, h1⟩ | ⟨hb, h1⟩
              · obtain ⟨x, g1, g2, g3⟩ := run h1
                obtain ⟨h4, h5⟩ := chkK_out r g3
                rw [hd] at g2 hb
                refine ⟨?_, h5⟩
                simp only [rechk, ho, ht, rdC, hg, hu, hb]
                cases want <;> simp only [guardV, Bool.not_false, g1, g2, h4]
              · obtain ⟨g1, g2⟩ := samQW_out h1
                obtain ⟨h4, h5⟩ := chkK_out r g2
                rw [hd] at g1
                rw [hd] at hb
                rw [dec_und] at g1
                refine ⟨?_, h5⟩
                rcases hb with hb | hb
                · simp only [rechk, ho, ht, rdC, hg, hu, hb]
                  cases want <;> simp only [guardV, Bool.not_false, Bool.not_true, g1, h4]
                · simp only [rechk, ho, ht, rdC, hg, hu, hb, guardV, g1, h4]
            · cases h
      · cases h
    · cases h

theorem planK_out (hcall : CallSim P T stl F call) {all : List Oper} {K : KS} : ∀ (p : PlanC) (env : List W) (hp : HW) (c : Nat), planK real P T stl call n all p env hp c K = true →
    Out (fun N => planL P T stl (enterK P T F (execC P T stl F N)) all p ⟨env.map dec, n, decH hp, c⟩) False (Rp n (opsW all) env K)
  | .done, env, hp, c, h => (Out.one (x := (⟨env.map dec, n, decH hp, c⟩ : CSt)) (Rp.of (Fr.refl _ _) h)).congr 0 fun N => rfl
  | .fin, env, hp, c, h => ⟨0, [], fun _ _ => rfl, False.elim, by simp⟩
  | .chk ds r, env, hp, c, h => by
    unfold planK at h
    obtain ⟨h1, h2⟩ := chkK_out ds h
    exact (planK_out hcall r env hp c h2).congr 0 fun N => by simp only [planL, h1]; rfl
  | .op k b r, env, hp, c, h => by
    have step : ∀ {env1 : List W} {hp1 : HW} {c1 : Nat}, Fr (opsW all) env env1 → planK real P T stl call n all r env1 hp1 c1 K = true →
        Out (fun N => planL P T stl (enterK P T F (execC P T stl F N)) all r ⟨env1.map dec, n, decH hp1, c1⟩) False (Rp n (opsW all) env K) := fun hf hk =>
      (planK_out hcall r _ _ _ hk).mono id fun p ⟨e', hp', h1, h2, h3⟩ => ⟨e', hp', h1, hf.cat h2, h3⟩
    unfold planK at h
    split at h
    · rename_i o ho
      have pick : pickP real P T stl call n all o env hp c (fun env hp c => planK real P T stl call n all r env hp c K) = true →
          Out (fun N => bindL (pickL P T stl (enterK P T F (execC P T stl F N)) all o ⟨env.map dec, n, decH hp, c⟩) (planL P T stl (enterK P T F (execC P T stl F N)) all r)) False (Rp n (opsW all) env K) := fun hh =>
        bind_out ((pickP_out hcall hh).mono id fun s' ⟨e', hp', h1, h2, h3⟩ => by
          rw [h1]
          exact step (h2.mono (nth_dst ho)) h3)
      split at h
      · split at h
        · rename_i hm
          exact (pick h).congr 0 fun N => by simp only [planL, ho, blindC, hm]; rfl
        · rename_i hm
          split at h
          · rename_i hb
            obtain ⟨e1, e2, e3, e4⟩ := blindS_same (P := P) (T := T) (n := n) hb (env.map dec) (decH hp) c
            obtain ⟨x, hp', c', h1, h2⟩ := opW_plain e3 h
            obtain ⟨hd, h3⟩ := detW_out h2
            have hev : evC P T ⟨env.map dec, n, decH hp, c⟩ o = some (dec x) ∧ decH hp' = decH hp ∧ c' = c := by
              unfold opCV at h1
              rw [e4] at h1
              simp only at h1
              split at h1
              · rename_i y hy
                simp only [Option.some.injEq, Prod.mk.injEq] at h1
                exact ⟨by rw [hy, h1.1], h1.2.1.symm, h1.2.2.symm⟩
              · cases h1
            obtain ⟨hev, ehp, rfl⟩ := hev
            have hbl : blindC P T ⟨env.map dec, n, decH hp, c'⟩ o = true := by
              simp only [blindC, hm, e2]
              have : evC P T ⟨env.map dec, n, .nil, c'⟩ o = some (dec x) := e1.trans hev
              rw [this]
              exact hd
            obtain ⟨e', g1, g2, g3⟩ := putW_out h3
            have hns : isStill stl o = false := by unfold isStill; rw [e3]
            have hpl := opC_of h1
            simp only [g1 _ _ _ rfl] at hpl
            refine (step (g2.mono (nth_dst ho)) g3).congr 0 fun N => ?_
            simp only [planL, ho, hbl, pickL, hns, opsL, e2, opL, e3, hpl, bindL, allL]
            rfl
          · cases h
      · exact (pick h).congr 0 fun N => by simp only [planL, ho]; rfl
    · cases h
  | .two j k r, env, hp, c, h => by
    unfold planK at h
    split at h
    · rename_i o u ho hu
      refine (bind_out ((pickP_out hcall h).mono id fun s' ⟨e', hp', q1, q2, q3⟩ => ?_)).congr 0 fun N => by simp only [planL, ho, hu]; rfl
      rw [q1]
      refine bind_out ((pickP_out hcall q3).mono id fun s'' ⟨e'', hp'', p1, p2, p3⟩ => ?_)
      rw [p1]
      exact (planK_out hcall r _ _ _ p3).mono id fun p ⟨e3, hp3, k1, k2, k3⟩ => ⟨e3, hp3, k1, (q2.mono (nth_dst ho)).cat ((p2.mono (nth_dst hu)).cat k2), k3⟩
    · cases h
  | .twoD j k ds r, env, hp, c, h => by
    unfold planK at h
    split at h
    · rename_i o u ho hu
      refine (bind_out ((pickP_out hcall h).mono id fun s' ⟨e', hp', q1, _, q3⟩ => ?_)).congr 0 fun N => by simp only [planL, ho, hu]; rfl
      obtain ⟨c1, q3⟩ := chkK_out ds q3
      rw [q1]
      refine Out.congr (k := 0) ?_ fun N => by simp only [c1]; rfl
      refine bind_out ((pickP_out hcall q3).mono id fun s' ⟨e', hp', q1, q2, q3⟩ => ?_)
      obtain ⟨c2, q3⟩ := chkK_out ds q3
      rw [q1]
      refine Out.congr (k := 0) ?_ fun N => by simp only [c2]; rfl
      refine bind_out ((pickP_out hcall q3).mono id fun s'' ⟨e'', hp'', p1, p2, p3⟩ => ?_)
      obtain ⟨c3, p3⟩ := chkK_out ds p3
      rw [p1]
      refine Out.congr (k := 0) ?_ fun N => by simp only [c3]; rfl
      exact (planK_out hcall r _ _ _ p3).mono id fun p ⟨e3, hp3, k1, k2, k3⟩ => ⟨e3, hp3, k1, (q2.mono (nth_dst ho)).cat ((p2.mono (nth_dst hu)).cat k2), k3⟩
    · cases h
  | .alt k r p, env, hp, c, h => by
    have step : ∀ {env1 : List W} {hp1 : HW} {c1 : Nat}, Fr (opsW all) env env1 → planK real P T stl call n all r env1 hp1 c1 K = true →
        Out (fun N => planL P T stl (enterK P T F (execC P T stl F N)) all r ⟨env1.map dec, n, decH hp1, c1⟩) False (Rp n (opsW all) env K) := fun hf hk =>
      (planK_out hcall r _ _ _ hk).mono id fun p ⟨e', hp', h1, h2, h3⟩ => ⟨e', hp', h1, hf.cat h2, h3⟩
    unfold planK at h
    split at h
    · rename_i o ho
      obtain ⟨h1, h2⟩ := andW_out h
      have a1 : Out (fun N => bindL (pickL P T stl (enterK P T F (execC P T stl F N)) all o ⟨env.map dec, n, decH hp, c⟩) (planL P T stl (enterK P T F (execC P T stl F N)) all r)) False (Rp n (opsW all) env K) :=
        bind_out ((pickP_out hcall h1).mono id fun s' ⟨e', hp', q1, q2, q3⟩ => by
          rw [q1]
          exact step (q2.mono (nth_dst ho)) q3)
      obtain ⟨N0, L0, g1, _, g3⟩ := a1
      obtain ⟨N1, L1, k1, _, k3⟩ := planK_out hcall p _ _ _ h2
      refine ⟨max N0 N1, L0 ++ L1, fun N hN => ?_, False.elim, fun q hq => ?_⟩
      · have e1 := g1 N (by omega)
        have e2 := k1 N (by omega)
        simp only at e1 e2
        simp only [planL, ho, e1, e2]
      · rcases List.mem_append.1 hq with hq | hq
        · exact g3 q hq
        · exact k3 q hq
    · cases h
end
end Go.Fw

namespace Go.Fw
open Go Go.RowKit
section
variable {P : Program} {T : List (Nat × TyI)} {stl : FuncId → Bool} {F : FuncId → Option Ent} {call : CallW} {n : Nat}

/-- How a way ends, and what is asked then. -/
def KxOk (X : List (Nat × KS)) (K kr : KS) (e : CE) (env : List W) (hp : HW) (c : Nat) : Prop :=
  match e with
  | .normal => K env hp c = true
  | .exit id => lookX X id env hp c = true
  | .ret => kr env hp c = true
def Post (X : List (Nat × KS)) (K kr : KS) (n : Nat) (w : List Nat) (env : List W) (p : CE × CSt) : Prop := ∃ env' hp', p.2 = ⟨env'.map dec, n, decH hp', p.2.c⟩ ∧ Fr w env env' ∧ KxOk X K kr p.1 env' hp' p.2.c
theorem Post.of {X : List (Nat × KS)} {K kr : KS} {w : List Nat} {env env' : List W} {hp : HW} {c : Nat} {e : CE} (h : Fr w env env') (hr : KxOk X K kr e env' hp c) : Post X K kr n w env (e, ⟨env'.map dec, n, decH hp, c⟩) := ⟨env', hp, rfl, h, hr⟩

theorem anyWt_len : ∀ (l : List Nat) (sl : List W), (anyWt l sl).length = sl.length
  | [], _ => rfl
  | t :: r, sl => by rw [anyWt, anyWt_len r, List.length_set]
theorem anyWt_dec : ∀ (l : List Nat) (sl : List W), (anyWt l sl).map dec = anyAt l (sl.map dec)
  | [], _ => rfl
  | t :: r, sl => by rw [anyWt, anyWt_dec r, anyAt, List.map_set]; rfl
theorem anyWt_get? : ∀ (l : List Nat) (sl : List W) (t : Nat), (anyWt l sl)[t]? = if t ∈ l ∧ t < sl.length then some wAny else sl[t]?
  | [], sl, t => by simp [anyWt]
  | u :: r, sl, t => by
    rw [anyWt, anyWt_get? r, List.getElem?_set, List.length_set]
    by_cases h1 : t ∈ r ∧ t < sl.length
    · rw [if_pos h1, if_pos ⟨by simp [h1.1], h1.2⟩]
    · rw [if_neg h1]
      by_cases h2 : u = t
      · subst h2
        rw [if_pos rfl]
        by_cases h3 : u < sl.length
        · rw [if_pos h3, if_pos ⟨by simp, h3⟩]
        · rw [if_neg h3, if_neg (fun h => h3 h.2), List.getElem?_eq_none (Nat.le_of_not_lt h3)]
      · rw [if_neg h2, if_neg]
        intro h
        rcases List.mem_cons.1 h.1 with e | e
        · exact h2 e.symm
        · exact h1 ⟨e, h.2⟩
/-- The carried slots laid again over a row are the row, where it agrees. -/
theorem setsL_get? {e : List W} : ∀ (ws : List Nat) (b : List W) (t : Nat), b.length = e.length → (t ∉ ws → b[t]? = e[t]?) → (setsL ws (ws.map fun t => e.getD t wUnd) b)[t]? = e[t]?
  | [], b, t, _, h => by simpa [setsL] using h
  | u :: r, b, t, hl, h => by
    simp only [setsL, List.map_cons]
    refine setsL_get? r _ t (by simp [hl]) fun ht => ?_
    rw [List.getElem?_set]
    by_cases hu : u = t
    · subst hu
      rw [if_pos rfl]
      by_cases h3 : u < e.length
      · rw [if_pos (by omega)]; simp [List.getD_eq_getElem?_getD, List.getElem?_eq_getElem h3]
      · rw [if_neg (by omega), List.getElem?_eq_none (Nat.le_of_not_lt h3)]
    · rw [if_neg hu]
      exact h (by simp [ht]; exact fun e => hu e.symm)
/-- What is known behind a place where ways meet. -/
theorem join_eq {w ws : List Nat} {env e' : List W} (hf : Fr w env e') : setsL ws (ws.map fun t => e'.getD t wUnd) (anyWt w env) = anyWt (butL ws w) e' := by
  apply List.ext_getElem?
  intro t
  have hlen : (anyWt w env).length = e'.length := by rw [anyWt_len, hf.1]
  by_cases hw : t ∈ ws
  · have e1 : (anyWt (butL ws w) e')[t]? = e'[t]? := by
      rw [anyWt_get?, if_neg]
      rintro ⟨h, _⟩
      simp only [butL, List.mem_filter, Bool.not_eq_true', List.contains_eq_mem, decide_eq_false_iff_not] at h
      exact h.2 hw
    rw [e1]
    exact setsL_get? ws _ t hlen fun h => absurd hw h
  · have e2 : ∀ (l : List Nat) (vs b : List W), t ∉ l → (setsL l vs b)[t]? = b[t]? := by
      intro l
      induction l with
      | nil => intro vs b _; cases vs <;> rfl
      | cons u r ih =>
        intro vs b ht
        cases vs with
        | nil => rfl
        | cons v vs =>
          simp only [setsL]
          rw [ih vs _ (fun h => ht (by simp [h])), List.getElem?_set_ne]
          intro e; exact ht (by simp [e])
    rw [e2 ws _ _ hw, anyWt_get?, anyWt_get?]
    by_cases ht : t ∈ w
    · have hb : t ∈ butL ws w := by simp [butL, ht, hw]
      by_cases hlt : t < env.length
      · rw [if_pos ⟨ht, hlt⟩, if_pos ⟨hb, by rw [hf.1]; exact hlt⟩]
      · rw [if_neg (fun h => hlt h.2), if_neg (fun h => hlt (by rw [← hf.1]; exact h.2)), List.getElem?_eq_none (Nat.le_of_not_lt hlt), List.getElem?_eq_none (by rw [hf.1]; exact Nat.le_of_not_lt hlt)]
    · have hb : t ∉ butL ws w := by simp [butL, ht]
      rw [if_neg (fun h => ht h.1), if_neg (fun h => hb h.1), hf.2 t ht]
theorem weak_fr (ws w : List Nat) (e : List W) : Fr w e (anyWt (butL ws w) e) := by
  refine ⟨anyWt_len _ _, fun t ht => ?_⟩
  rw [anyWt_get?, if_neg]
  rintro ⟨h, _⟩
  simp only [butL, List.mem_filter] at h
  exact ht h.1
theorem weakS_dec (ws w : List Nat) (env : List W) (hp : AL CSeg) (c : Nat) : weakS ws w ⟨env.map dec, n, hp, c⟩ = ⟨(anyWt (butL ws w) env).map dec, n, hp, c⟩ := by
  unfold weakS; rw [anyWt_dec]

theorem killK_out : ∀ {l : List Nat} {env : List W} {hp : HW} {K : HW → Bool}, killK real l env hp K = true → ∃ hp', decH hp' = killH l (env.map dec) (decH hp) ∧ K hp' = true
  | [], _, hp, _, h => ⟨hp, rfl, h⟩
  | t :: r, env, hp, K, h => by
    have h : nthE env t (fun v => killVW v hp fun hp => killK real r env hp K) = true := h
    rw [nthE_eq] at h
    obtain ⟨hp1, h1, h2⟩ := killVW_out h
    obtain ⟨hp2, h3, h4⟩ := killK_out h2
    exact ⟨hp2, by rw [h3, h1, getD_dec]; rfl, h4⟩

/-- What a run of code for the kernel says of the run. -/
theorem exK_out (hcall : CallSim P T stl F call) {A : Ann} {fu : Nat} {kr : KS} : ∀ (cd : Code) (X : List (Nat × KS)) (env : List W) (hp : HW) (c : Nat) (K : KS), codeCB T stl A.plan cd = true → exK real P T stl A fu call n kr cd X env hp c K = true →
    Out (fun N => execC P T stl F N A cd ⟨env.map dec, n, decH hp, c⟩) (codeStill T stl cd = true) (Post X K kr n (wrC cd) env)
  | .skip, X, env, hp, c, K, _, h => (Out.one (x := (CE.normal, (⟨env.map dec, n, decH hp, c⟩ : CSt))) (Post.of (Fr.refl _ _) h)).congr 1 fun N => rfl
  | .label l, X, env, hp, c, K, _, h => (Out.one (x := (CE.normal, (⟨env.map dec, n, decH hp, c⟩ : CSt))) (Post.of (Fr.refl _ _) h)).congr 1 fun N => rfl
  | .exit id, X, env, hp, c, K, _, h => (Out.one (x := (CE.exit id, (⟨env.map dec, n, decH hp, c⟩ : CSt))) (Post.of (Fr.refl _ _) h)).congr 1 fun N => rfl
  | .ret, X, env, hp, c, K, _, h => (Out.one (x := (CE.ret, (⟨env.map dec, n, decH hp, c⟩ : CSt))) (Post.of (Fr.refl _ _) h)).congr 1 fun N => rfl
  | .goto l, X, env, hp, c, K, _, h => by cases h
  | .scope b, X, env, hp, c, K, hB, h => by
    simp only [codeCB] at hB
    simp only [exK] at h
    exact ((exK_out hcall b X env hp c K hB h).congr 1 fun N => by simp only [execC]).mono (fun hs => by simpa only [codeStill] using hs) fun p hp => hp
  | .rangeFunc _ _ _ _, X, env, hp, c, K, _, h => by cases h
  | .refuse _, X, env, hp, c, K, _, h => by cases h
  | .region id ops draw, X, env, hp, c, K, hB, h => by
    unfold exK at h
    unfold codeCB at hB
    have fin : ∀ {r : Nat → Option (List CSt)} {sg : Prop}, Out r sg (Rp n (opsW ops.toList) env fun env hp c => killK real (A.kr id) env hp fun hp => K env hp c) →
        Out (fun N => tagL (A.kr id) (r N)) sg (Post X K kr n (wrC (.region id ops draw)) env) := fun hh => by
      obtain ⟨N0, l, h1, h2, h3⟩ := hh
      refine ⟨N0, l.map fun s => (.normal, killS (A.kr id) s), fun N hN => by simp only [h1 N hN, tagL], fun hs => ?_, fun p hp => ?_⟩
      · obtain ⟨p, rfl⟩ := h2 hs
        exact ⟨_, rfl⟩
      · obtain ⟨s', hs', rfl⟩ := List.mem_map.1 hp
        obtain ⟨e', hp', g1, g2, g3⟩ := h3 s' hs'
        obtain ⟨hp2, k1, k2⟩ := killK_out g3
        refine ⟨e', hp2, ?_, g2, k2⟩
        rw [g1]
        simp only [killS, k1]
    split at h
    · rename_i hpl
      rw [hpl] at hB
      refine ((fin (opsK_out hcall _ _ _ _ h)).congr 1 fun N => by simp only [execC, hpl]).mono (fun hs => ?_) fun p hp => hp
      simp only [codeStill, Bool.and_eq_true] at hs
      exact hs.2
    · rename_i p hpl
      rw [hpl] at hB
      refine ((fin (planK_out hcall _ _ _ _ h)).congr 1 fun N => by simp only [execC, hpl]).mono (fun hs => ?_) fun p hp => hp
      simp only [codeStill, Bool.and_eq_true, Bool.not_eq_true'] at hs
      simp only [Bool.and_eq_true] at hB
      rw [hs.1] at hB
      cases hB.1.1
  | .cond x a b, X, env, hp, c, K, hB, h => by
    simp only [codeCB, Bool.and_eq_true] at hB
    simp only [exK, evW_eq] at h
    have hd : dec (evalW n env x) = evalC ⟨env.map dec, n, decH hp, c⟩ x := evalW_dec _ _ _ _ _
    rcases condW_out (show condW _ _ _ = true from h) with ⟨hv, h2⟩ | ⟨hv, h2⟩ <;> rw [hd] at hv
    · refine ((exK_out hcall a X env hp c K hB.1 h2).congr 1 fun N => by simp only [execC, hv]).mono (fun hs => ?_) fun p ⟨e', hp', g1, g2, g3⟩ => ⟨e', hp', g1, g2.mono fun t ht => by simp [wrC, ht], g3⟩
      simp only [codeStill, Bool.and_eq_true] at hs
      exact hs.1
    · refine ((exK_out hcall b X env hp c K hB.2 h2).congr 1 fun N => by simp only [execC, hv]).mono (fun hs => ?_) fun p ⟨e', hp', g1, g2, g3⟩ => ⟨e', hp', g1, g2.mono fun t ht => by simp [wrC, ht], g3⟩
      simp only [codeStill, Bool.and_eq_true] at hs
      exact hs.2
  | .block id b, X, env, hp, c, K, hB, h => by
    simp only [codeCB] at hB
    simp only [exK] at h
    have := exK_out hcall b ((id, K) :: X) env hp c K hB h
    refine (bind_out (f := fun N p => blockL id p) (sg := codeStill T stl (.block id b) = true) (G := Post X K kr n (wrC (.block id b)) env) (this.mono (fun hs => by simpa only [codeStill] using hs) fun p hp => ?_)).congr 1 fun N => by simp only [execC]
    obtain ⟨e, s⟩ := p
    obtain ⟨e', hp', g1, g2, g3⟩ := hp
    simp only at g1 g3
    cases e with
    | normal => exact (Out.one (x := (CE.normal, s)) ⟨e', hp', g1, g2, g3⟩).congr 0 fun N => rfl
    | ret => exact (Out.one (x := (CE.ret, s)) ⟨e', hp', g1, g2, g3⟩).congr 0 fun N => rfl
    | exit k =>
      simp only [KxOk, lookX] at g3
      cases hk : Nat.beq id k with
      | true =>
        rw [hk] at g3
        have hk2 : Nat.beq k id = true := by rw [Nat.eq_of_beq_eq_true hk]; exact Nat.beq_eq.mpr rfl
        exact (Out.one (x := (CE.normal, s)) ⟨e', hp', g1, g2, g3⟩).congr 0 fun N => by simp only [blockL, hk2]
      | false =>
        rw [hk] at g3
        have hk2 : Nat.beq k id = false := by
          cases h2 : Nat.beq k id with
          | false => rfl
          | true => rw [Nat.eq_of_beq_eq_true h2, Nat.beq_eq.mpr rfl] at hk; cases hk
        exact (Out.one (x := (CE.exit k, s)) ⟨e', hp', g1, g2, g3⟩).congr 0 fun N => by simp only [blockL, hk2]
  | .seq a b, X, env, hp, c, K, hB, h => by
    simp only [codeCB, Bool.and_eq_true] at hB
    have fin : ∀ (Ka : KS), Out (fun N => execC P T stl F N A a ⟨env.map dec, n, decH hp, c⟩) (codeStill T stl a = true) (Post X Ka kr n (wrC a) env) →
        (∀ sl hp c, Fr (wrC a) env sl → Ka sl hp c = true → Out (fun N => execC P T stl F N A b (weakJ (A.wj (firstR b)) a ⟨sl.map dec, n, decH hp, c⟩)) (codeStill T stl b = true) (Post X K kr n (wrC (.seq a b)) env)) →
        Out (fun N => execC P T stl F N A (.seq a b) ⟨env.map dec, n, decH hp, c⟩) (codeStill T stl (.seq a b) = true) (Post X K kr n (wrC (.seq a b)) env) := fun Ka ha hb => by
      refine (bind_out (r := fun N => execC P T stl F N A a ⟨env.map dec, n, decH hp, c⟩) (f := fun N => normL fun s => execC P T stl F N A b (weakJ (A.wj (firstR b)) a s)) (sg := codeStill T stl (.seq a b) = true) (G := Post X K kr n (wrC (.seq a b)) env) (ha.mono (fun hs => ?_) fun p hp => ?_)).congr 1 fun N => by simp only [execC]
      · simp only [codeStill, Bool.and_eq_true] at hs; exact hs.1
      · obtain ⟨e, s⟩ := p
        obtain ⟨sl, hp', g1, g2, g3⟩ := hp
        simp only at g1 g3
        have up : Fr (wrC (.seq a b)) env sl := g2.mono fun t ht => by simp [wrC, ht]
        cases e with
        | normal =>
          rw [g1]
          exact ((hb sl hp' s.c g2 g3).mono (fun hs => by simp only [codeStill, Bool.and_eq_true] at hs; exact hs.2) fun _ h => h).congr 0 fun N => rfl
        | exit k => exact (Out.one (x := (CE.exit k, s)) ⟨sl, hp', g1, up, g3⟩).congr 0 fun N => rfl
        | ret => exact (Out.one (x := (CE.ret, s)) ⟨sl, hp', g1, up, g3⟩).congr 0 fun N => rfl
    unfold exK at h
    split at h
    · rename_i hj
      refine fin _ (exK_out hcall a X env hp c _ hB.1 h) fun sl hp c hf hk => ?_
      rw [hj]
      exact (exK_out hcall b X sl hp c K hB.2 hk).mono id fun p ⟨e', hp', g1, g2, g3⟩ => ⟨e', hp', g1, hf.trans g2, g3⟩
    · rename_i ws hj
      rw [show real.share = fun _ x f => f x from rfl] at h
      refine fin _ (exK_out hcall a X env hp c _ hB.1 h) fun sl hp c hf hk => ?_
      rw [selK_eq, app_curry _ _ _ _ _ (by simp), anyE_eq, setsE_eq, join_eq hf] at hk
      rw [hj]
      simp only [weakJ, weakS_dec]
      refine (exK_out hcall b X _ hp c K hB.2 hk).mono id fun p ⟨e', hp', g1, g2, g3⟩ => ⟨e', hp', g1, ?_, g3⟩
      exact (hf.cat (weak_fr ws (wrC a) sl)).trans g2
  | .loop b, X, env, hp, c, K, hB, h => by
    simp only [codeCB] at hB
    simp only [exK] at h
    have ihb := fun env hp c K => exK_out (fu := fu) (kr := kr) hcall b X env hp c K hB
    have go : ∀ (m : Nat) (sl : List W) (hp : HW) (c : Nat), Fr (wrC b) env sl →
        (selK sl (A.wl (firstR b)) fun vs => app (A.wl (firstR b)).length (loopN (A.wl (firstR b)).length (fun again vs hp c => anyE (wrC b) env fun e => setsE (A.wl (firstR b)) vs e fun e =>
          exK real P T stl A fu call n kr b X e hp c fun e hp c => selK e (A.wl (firstR b)) fun vs => app (A.wl (firstR b)).length again vs hp c) m) vs hp c) = true →
        Out (fun N => execC P T stl F N A (.loop b) ⟨sl.map dec, n, decH hp, c⟩) (codeStill T stl (.loop b) = true) (Post X K kr n (wrC (.loop b)) env) := by
      intro m
      induction m with
      | zero =>
        intro sl hp c hf hh
        rw [selK_eq] at hh
        have e0 : ∀ (B : Fun (A.wl (firstR b)).length → List W → HW → Nat → Bool), loopN (A.wl (firstR b)).length B 0 = curry (A.wl (firstR b)).length fun _ _ _ => false := fun B => rfl
        rw [e0, app_curry _ _ _ _ _ (by simp)] at hh
        cases hh
      | succ m ih =>
        intro sl hp c hf hh
        rw [selK_eq] at hh
        have e0 : ∀ (B : Fun (A.wl (firstR b)).length → List W → HW → Nat → Bool), loopN (A.wl (firstR b)).length B (m + 1) = curry (A.wl (firstR b)).length (B (loopN (A.wl (firstR b)).length B m)) := fun B => rfl
        rw [e0, app_curry _ _ _ _ _ (by simp), anyE_eq, setsE_eq, join_eq hf] at hh
        have hh := ihb _ hp c _ hh
        simp only [← weakS_dec] at hh
        refine (bind_out (r := fun N => execC P T stl F N A b (weakS (A.wl (firstR b)) (wrC b) ⟨sl.map dec, n, decH hp, c⟩)) (f := fun N => normL (execC P T stl F N A (.loop b))) (sg := codeStill T stl (.loop b) = true) (G := Post X K kr n (wrC (.loop b)) env) (hh.mono (fun hs => by simpa only [codeStill] using hs) fun p hp => ?_)).congr 1 fun N => by simp only [execC]
        obtain ⟨e, s⟩ := p
        obtain ⟨sl', hp', g1, g2, g3⟩ := hp
        simp only at g1 g3
        have up : Fr (wrC b) env sl' := (hf.cat (weak_fr _ _ sl)).cat g2
        cases e with
        | normal => rw [g1]; exact (ih sl' hp' s.c up g3).congr 0 fun N => rfl
        | exit k => exact (Out.one (x := (CE.exit k, s)) ⟨sl', hp', g1, up, g3⟩).congr 0 fun N => rfl
        | ret => exact (Out.one (x := (CE.ret, s)) ⟨sl', hp', g1, up, g3⟩).congr 0 fun N => rfl
    exact go fu env hp c (Fr.refl _ _) h

theorem resGo_out {env : List W} {hp : HW} {c : Nat} : ∀ (rs : List ResultVar) (K : List W → Bool), resGo real T n env hp rs K = true → ∃ l : List W, resCs T ⟨env.map dec, n, decH hp, c⟩ rs = some (l.map dec) ∧ K l = true
  | [], K, h => ⟨[], rfl, h⟩
  | .tmp t :: r, K, h => by
    simp only [resGo, evW_eq] at h
    obtain ⟨l, h1, h2⟩ := resGo_out (c := c) r _ h
    exact ⟨_, by simp only [resCs, resC1, h1, ← evalW_dec]; rfl, h2⟩
  | .cell t ty :: r, K, h => by
    simp only [resGo, evW_eq] at h
    obtain ⟨x, h1, h2⟩ := loadWW_out (K := fun x => resGo real T n env hp r fun l => K (x :: l)) h
    obtain ⟨l, h3, h4⟩ := resGo_out (c := c) r _ h2
    refine ⟨_, ?_, h4⟩
    have h1' : loadCC T ⟨env.map dec, n, decH hp, c⟩ ty (evalC ⟨env.map dec, n, decH hp, c⟩ (.tmp t)) = some (dec x) := by rw [← evalW_dec]; exact h1
    simp only [resCs, resC1, h1', h3]
    rfl
theorem resC_tup {s : CSt} {rs : List ResultVar} {l : List W} (h : resCs T s rs = some (l.map dec)) : resC T s rs = some (dec (tupV l)) := by
  unfold resC
  rw [h]
  match l with
  | [] => rfl
  | [x] => rfl
  | x :: y :: r =>
    show some (CV.tup _) = some (dec ⟨13, 0, r0, x :: y :: r⟩)
    rw [dec_tup (x := ⟨13, 0, r0, x :: y :: r⟩) rfl]
    rfl
theorem padW_dec : ∀ (n : Nat) (l : List W), (padW n l).map dec = padT n (l.map dec)
  | 0, l => by simp [padW, padT]
  | n + 1, [] => by simp only [padW, List.map_cons, padW_dec n, List.map_nil, padT]; rfl
  | n + 1, a :: l => by simp only [padW, List.map_cons, padW_dec n, padT]

/-- What a function's run for the kernel says of the run. -/
theorem fnK_out (hcall : CallSim P T stl F call) {fu g : Nat} {e : Ent} (hF : F g = some e) (hx : e.ext = false) (he : EntOk P T stl g e) {args : List W} {hp : HW} {c : Nat} {K : KW} (h : fnK real P T stl fu call e args hp c K = true) :
    Out (fun N => enterK P T F (execC P T stl F N) g (args.map dec) (decH hp) c) (stl g = true) (Rc K) := by
  rcases he with hext | ⟨hext, e1, e2, e3, e4, e5, e6, e7⟩
  · rw [hext] at hx; cases hx
  unfold fnK at h
  split at h
  · rename_i hlen
    have hlen' : Nat.ble (args.map dec).length e.n = true := by rw [List.length_map]; exact hlen
    have := exK_out hcall e.code [] (padW e.n args) hp c _ e5 h
    rw [padW_dec] at this
    refine (bind_out (r := fun N => execC P T stl F N e.ann e.code ⟨padT e.n (args.map dec), e.n, decH hp, c⟩) (f := fun N => bodyL T e) (sg := stl g = true) (G := Rc K) (this.mono (fun hs => by rw [hs] at e6; simpa using e6) fun p hp => ?_)).congr 0 fun N => by simp only [enterK, hF, hext, hlen']; rfl
    obtain ⟨ce, s⟩ := p
    obtain ⟨sl, hp', g1, g2, g3⟩ := hp
    simp only at g1 g3
    have fin : (resGo real T e.n sl hp' e.rs fun l => killK real e.ann.kf sl hp' fun hp => K (tupV l) hp s.c) = true → Out (fun _ => (match resC T s e.rs with | some x => (forceV x fun x => some [(x, killH e.ann.kf s.sl s.hp, s.c)]) | none => none)) (stl g = true) (Rc K) := fun hh => by
      obtain ⟨l, h1, h2⟩ := resGo_out (c := s.c) e.rs _ hh
      obtain ⟨hp2, k1, k2⟩ := killK_out h2
      rw [g1]
      rw [resC_tup h1]
      simp only [forceV_eq]
      refine Out.one (x := (dec (tupV l), killH e.ann.kf (sl.map dec) (decH hp'), s.c)) ⟨tupV l, hp2, rfl, k1.symm, k2⟩
    cases ce with
    | normal => exact (fin g3).congr 0 fun N => rfl
    | ret => exact (fin g3).congr 0 fun N => rfl
    | exit k => cases g3
  · cases h

/-- Arguments laid out, for the kernel. -/
noncomputable def appF : (k : Nat) → FunA k → List W → HW → Nat → KW → Bool :=
  @Nat.rec (fun k => FunA k → List W → HW → Nat → KW → Bool) (fun F args hp c K => @List.rec W (fun _ => Bool) (F hp c K) (fun _ _ _ => false) args) (fun _ ih F args hp c K => @List.rec W (fun _ => Bool) false (fun v vs _ => ih (F v) vs hp c K) args)
theorem appF_eq : ∀ (k : Nat) (F : FunA k) (args : List W) (hp : HW) (c : Nat) (K : KW), appF k F args hp c K = appA k F args hp c K
  | 0, F, [], hp, c, K => rfl
  | 0, F, a :: r, hp, c, K => rfl
  | k + 1, F, [], hp, c, K => rfl
  | k + 1, F, a :: r, hp, c, K => appF_eq k (F a) r hp c K

def FnGood (P : Program) (T : List (Nat × TyI)) (stl : FuncId → Bool) (F : FuncId → Option Ent) (g : Nat) (f : List W → HW → Nat → KW → Bool) : Prop := ∀ args hp c K, f args hp c K = true → Out (fun N => enterK P T F (execC P T stl F N) g (args.map dec) (decH hp) c) (stl g = true) (Rc K)
/-- Functions by number. -/
inductive Disp where
  | leaf
  | node (g : Nat) (f : List W → HW → Nat → KW → Bool) (l r : Disp)
noncomputable def Disp.fn (t : Disp) : CallW := fun g args hp c K =>
  @Disp.rec (fun _ => Bool) false (fun k f _ _ a b => @Bool.rec (fun _ => Bool) (@Bool.rec (fun _ => Bool) b a (Nat.ble g k)) (f args hp c K) (Nat.beq g k)) t
def Disp.Ok (P : Program) (T : List (Nat × TyI)) (stl : FuncId → Bool) (F : FuncId → Option Ent) : Disp → Prop
  | .leaf => True
  | .node g f l r => FnGood P T stl F g f ∧ l.Ok P T stl F ∧ r.Ok P T stl F
theorem Disp.sim : ∀ {t : Disp}, t.Ok P T stl F → CallSim P T stl F t.fn
  | .leaf, _, g, args, hp, c, K, h => by cases h
  | .node k f l r, ⟨h1, h2, h3⟩, g, args, hp, c, K, h => by
    rcases recB h with ⟨hg, h4⟩ | ⟨_, h4⟩
    · rw [Nat.eq_of_beq_eq_true hg]
      exact h1 args hp c K h4
    · rcases recB h4 with ⟨_, h5⟩ | ⟨_, h5⟩
      · exact Disp.sim h2 g args hp c K h5
      · exact Disp.sim h3 g args hp c K h5

/-- A function of the table, as it stands written out. -/
theorem node_ok {call : CallW} (hcall : CallSim P T stl F call) {fu g k : Nat} {e : Ent} (hF : F g = some e) (hx : e.ext = false) (he : EntOk P T stl g e) {R : FunA k} (hR : curryA k (fnK real P T stl fu call e) = R) :
    FnGood P T stl F g (appF k R) := fun args hp c K h => by
  subst hR
  rw [appF_eq] at h
  exact fnK_out hcall hF hx he (appA_curryA k _ args hp c K h)
end

/-- A CLOSED LAW, run by the kernel. -/
noncomputable def lawK (call : CallW) (g : Nat) : Bool := call g [] .nil 0 fun x _ _ => condW x true false
theorem law_all {l : List (CV × AL CSeg × Nat)} (h3 : ∀ p ∈ l, Rc (fun x _ _ => condW x true false) p) : allAre isTrue? l = true := by
  induction l with
  | nil => rfl
  | cons p r ih =>
    obtain ⟨x, hp', c'⟩ := p
    obtain ⟨w, hw, e1, e2, hk⟩ := h3 (x, hp', c') (by simp)
    simp only at e1
    subst e1
    rcases condW_out hk with ⟨hb, _⟩ | ⟨_, hb⟩
    · rw [hb]
      show (true && allAre isTrue? r) = true
      rw [Bool.true_and]
      exact ih fun q hq => h3 q (by simp [hq])
    · cases hb
theorem lawK_fits {P : Program} {T : List (Nat × TyI)} (hT : TOk P T) (hm : P.follows .mixedOrders = true) {stl : FuncId → Bool} {F : FuncId → Option Ent} (hF : FOk P T stl F) {call : CallW} (hcall : CallSim P T stl F call) {g : Nat} {e : Ent} (hg : F g = some e) (hx : e.ext = false) (h : lawK call g = true) :
    Fits P g ⟨[], [], [⟨Unit, fun _ => True, fun _ => .bool true, fun _ => []⟩]⟩ := by
  obtain ⟨N0, l, h1, _, h3⟩ := hcall g [] .nil 0 _ h
  have hl := h1 N0 (Nat.le_refl _)
  refine fits_of_run hT hm hF hg hx (N := N0) ?_
  unfold runTrue
  have hl' : enterK P T F (execC P T stl F N0) g [] .nil 0 = some l := hl
  rw [hl']
  exact law_all h3
end Go.Fw

namespace Go.Fw
open Go

end Go.Fw
