/-
  The same run, written so that the kernel works it out fast: what it says the run says. No condition: each theorem states its own.
-/
import Derived.Test.YtljiihjcnacbnaaGw
set_option linter.unusedSimpArgs false
set_option linter.unusedVariables false
namespace Go.Fw
open Go Go.RowKit

/- A RUN WRITTEN FOR THE KERNEL: what a run asks, told by a function that goes on with what is left to do. -/
abbrev HP := AL CSeg
abbrev KS := List CV → HP → Nat → Bool
abbrev KV := CV → HP → Nat → Bool
abbrev CallK := FuncId → List CV → HP → Nat → KV → Bool

/-- A function of k values, of memory. -/
def Fun : Nat → Type
  | 0 => HP → Nat → Bool
  | k + 1 => CV → Fun k
def curry : (k : Nat) → (List CV → HP → Nat → Bool) → Fun k
  | 0, f => fun hp c => f [] hp c
  | k + 1, f => fun v => curry k fun vs => f (v :: vs)
def app : (k : Nat) → Fun k → List CV → HP → Nat → Bool
  | 0, F, _, hp, c => F hp c
  | k + 1, F, v :: vs, hp, c => app k (F v) vs hp c
  | k + 1, F, [], hp, c => app k (F .any) [] hp c
theorem app_curry : ∀ (k : Nat) (f : List CV → HP → Nat → Bool) (vs : List CV) (hp : HP) (c : Nat), vs.length = k → app k (curry k f) vs hp c = f vs hp c
  | 0, f, vs, hp, c, h => by
    have : vs = [] := List.eq_nil_of_length_eq_zero h
    subst this; rfl
  | k + 1, f, [], hp, c, h => by simp at h
  | k + 1, f, v :: vs, hp, c, h => by
    simp only [app, curry]
    exact app_curry k _ vs hp c (by simpa using h)
def share {α : Type} (x : α) (f : α → Bool) : Bool := f x

/-- The same with what comes behind. -/
def FunA : Nat → Type
  | 0 => HP → Nat → KV → Bool
  | k + 1 => CV → FunA k
def curryA : (k : Nat) → (List CV → HP → Nat → KV → Bool) → FunA k
  | 0, f => fun hp c K => f [] hp c K
  | k + 1, f => fun v => curryA k fun vs => f (v :: vs)
def appA : (k : Nat) → FunA k → List CV → HP → Nat → KV → Bool
  | 0, F, [], hp, c, K => F hp c K
  | k + 1, F, v :: vs, hp, c, K => appA k (F v) vs hp c K
  | _, _, _, _, _, _ => false
theorem appA_curryA : ∀ (k : Nat) (f : List CV → HP → Nat → KV → Bool) (vs : List CV) (hp : HP) (c : Nat) (K : KV), appA k (curryA k f) vs hp c K = true → f vs hp c K = true
  | 0, f, [], hp, c, K, h => h
  | 0, f, v :: vs, hp, c, K, h => by simp [appA] at h
  | k + 1, f, [], hp, c, K, h => by simp [appA] at h
  | k + 1, f, v :: vs, hp, c, K, h => by
    simp only [appA, curryA] at h
    exact appA_curryA k _ vs hp c K h

/-- A slot is written; the row is laid anew. -/
def setE : List CV → Nat → CV → (List CV → Bool) → Bool
  | [], _, _, K => K []
  | _ :: r, 0, x, K => K (x :: r)
  | a :: r, t + 1, x, K => setE r t x fun r => K (a :: r)
theorem setE_eq : ∀ (l : List CV) (t : Nat) (x : CV) (K : List CV → Bool), setE l t x K = K (l.set t x)
  | [], _, _, _ => by simp [setE]
  | a :: r, 0, _, _ => by simp [setE]
  | a :: r, t + 1, x, K => by simp [setE, setE_eq r]
def putE (n : Nat) (env : List CV) (d : Option Tmp) (x : CV) (K : List CV → Bool) : Bool :=
  match d with
  | none => K env
  | some t => match Nat.blt t n with | true => setE env t x K | false => false
def nthK : List CV → Nat → (CV → Bool) → Bool
  | [], _, K => K (.tup [])
  | a :: _, 0, K => K a
  | _ :: r, t + 1, K => nthK r t K
theorem nthK_eq : ∀ (l : List CV) (t : Nat) (K : CV → Bool), nthK l t K = K (l.getD t (.tup []))
  | [], _, _ => by simp [nthK]
  | a :: r, 0, _ => by simp [nthK]
  | a :: r, t + 1, K => by simp [nthK, nthK_eq r]
def evK (n : Nat) (env : List CV) (x : Operand) (K : CV → Bool) : Bool :=
  match x with
  | .tmp t => (match Nat.blt t n with | true => nthK env t K | false => K .any)
  | .const v => K (cvC v)
  | .global _ => K .any
  | .func f => K (.fn f [])
theorem evK_eq (n : Nat) (env : List CV) (hp : HP) (c : Nat) (x : Operand) (K : CV → Bool) : evK n env x K = K (evalC ⟨env, n, hp, c⟩ x) := by
  cases x with
  | tmp t => simp only [evK, evalC]; cases h : Nat.blt t n <;> simp [nthK_eq, h]
  | const v => rfl
  | global g => rfl
  | func f => rfl
def evsK (n : Nat) (env : List CV) : List Operand → (List CV → Bool) → Bool
  | [], K => K []
  | x :: r, K => evK n env x fun v => evsK n env r fun vs => K (v :: vs)
theorem evsK_eq (n : Nat) (env : List CV) (hp : HP) (c : Nat) : ∀ (xs : List Operand) (K : List CV → Bool), evsK n env xs K = K (xs.map (evalC ⟨env, n, hp, c⟩))
  | [], _ => rfl
  | x :: r, K => by simp only [evsK, evK_eq n env hp c, evsK_eq n env hp c r, List.map_cons]

section prim
/- Values, told apart. -/
noncomputable def onInt (x : CV) (E : Bool) (K : IntKind → Int → Bool) : Bool :=
  @CV.casesOn (fun _ => Bool) x E (fun _ => E) K (fun _ _ => E) (fun _ _ _ => E) (fun _ => E) E E E (fun _ _ _ _ => E) (fun _ _ _ _ => E) (fun _ _ => E) (fun _ => E) (fun _ => E) (fun _ _ => E)
noncomputable def onBool (x : CV) (E : Bool) (K : Bool → Bool) : Bool :=
  @CV.casesOn (fun _ => Bool) x E K (fun _ _ => E) (fun _ _ => E) (fun _ _ _ => E) (fun _ => E) E E E (fun _ _ _ _ => E) (fun _ _ _ _ => E) (fun _ _ => E) (fun _ => E) (fun _ => E) (fun _ _ => E)
noncomputable def onPtr (x : CV) (E : Bool) (K : Nat → Nat → Bool) : Bool :=
  @CV.casesOn (fun _ => Bool) x E (fun _ => E) (fun _ _ => E) (fun _ _ => E) (fun _ _ _ => E) (fun _ => E) E E E (fun _ _ _ _ => E) (fun _ _ _ _ => E) K (fun _ => E) (fun _ => E) (fun _ _ => E)
noncomputable def onTup (x : CV) (E : Bool) (K : List CV → Bool) : Bool :=
  @CV.casesOn (fun _ => Bool) x E (fun _ => E) (fun _ _ => E) (fun _ _ => E) (fun _ _ _ => E) (fun _ => E) E E E (fun _ _ _ _ => E) (fun _ _ _ _ => E) (fun _ _ => E) (fun _ => E) K (fun _ _ => E)
noncomputable def onFn (x : CV) (E : Bool) (K : FuncId → List CV → Bool) : Bool :=
  @CV.casesOn (fun _ => Bool) x E (fun _ => E) (fun _ _ => E) (fun _ _ => E) (fun _ _ _ => E) (fun _ => E) E E E (fun _ _ _ _ => E) (fun _ _ _ _ => E) (fun _ _ => E) (fun _ => E) (fun _ => E) K
/-- A row, by its name, place and length. -/
noncomputable def onRow (x : CV) (E : Bool) (K : Nat → Nat → Nat → Bool) : Bool :=
  @CV.casesOn (fun _ => Bool) x E (fun _ => E) (fun _ _ => E) (fun _ _ => E) (fun _ _ _ => E) (fun _ => E) E E E (fun n o l _ => K n o l) (fun n o l _ => K n o l) (fun _ _ => E) (fun _ => E) (fun _ => E) (fun _ _ => E)
noncomputable def onNat (n : Int) (E : Bool) (K : Nat → Bool) : Bool := @Int.casesOn (fun _ => Bool) n K (fun _ => E)
noncomputable def ifB (b : Bool) (x y : Bool) : Bool := @Bool.casesOn (fun _ => Bool) b y x
noncomputable def kc (k : IntKind) : Nat := @IntKind.casesOn (fun _ => Nat) k 0 1 2 3 4 5 6 7
noncomputable def maxF (k : IntKind) : Nat := @IntKind.casesOn (fun _ => Nat) k 127 32767 2147483647 9223372036854775807 255 65535 4294967295 18446744073709551615
noncomputable def forceF (n : Nat) (K : Nat → Bool) : Bool := @Nat.casesOn (fun _ => Bool) n (K 0) (fun m => K (Nat.succ m))

theorem onInt_out {x : CV} {E : Bool} {K : IntKind → Int → Bool} (h : onInt x E K = true) : (∃ k n, x = .int k n ∧ K k n = true) ∨ E = true := by
  cases x <;> first | exact .inl ⟨_, _, rfl, h⟩ | exact .inr h
theorem onBool_out {x : CV} {E : Bool} {K : Bool → Bool} (h : onBool x E K = true) : (∃ b, x = .bool b ∧ K b = true) ∨ E = true := by
  cases x <;> first | exact .inl ⟨_, rfl, h⟩ | exact .inr h
theorem onPtr_out {x : CV} {E : Bool} {K : Nat → Nat → Bool} (h : onPtr x E K = true) : (∃ n o, x = .ptr n o ∧ K n o = true) ∨ E = true := by
  cases x <;> first | exact .inl ⟨_, _, rfl, h⟩ | exact .inr h
theorem onTup_out {x : CV} {E : Bool} {K : List CV → Bool} (h : onTup x E K = true) : (∃ l, x = .tup l ∧ K l = true) ∨ E = true := by
  cases x <;> first | exact .inl ⟨_, rfl, h⟩ | exact .inr h
theorem onFn_out {x : CV} {E : Bool} {K : FuncId → List CV → Bool} (h : onFn x E K = true) : (∃ g cs, x = .fn g cs ∧ K g cs = true) ∨ E = true := by
  cases x <;> first | exact .inl ⟨_, _, rfl, h⟩ | exact .inr h
theorem onRow_out {x : CV} {E : Bool} {K : Nat → Nat → Nat → Bool} (h : onRow x E K = true) : (∃ n o l q, (x = .slice n o l q ∨ x = .tail n o l q) ∧ K n o l = true) ∨ E = true := by
  cases x <;> first | exact .inl ⟨_, _, _, _, .inl rfl, h⟩ | exact .inl ⟨_, _, _, _, .inr rfl, h⟩ | exact .inr h
theorem onNat_out {n : Int} {E : Bool} {K : Nat → Bool} (h : onNat n E K = true) : (∃ m : Nat, n = .ofNat m ∧ K m = true) ∨ E = true := by
  cases n with
  | ofNat m => exact .inl ⟨m, rfl, h⟩
  | negSucc m => exact .inr h
theorem ifB_out {b x y : Bool} (h : ifB b x y = true) : (b = true ∧ x = true) ∨ (b = false ∧ y = true) := by
  cases b with
  | true => exact .inl ⟨rfl, h⟩
  | false => exact .inr ⟨rfl, h⟩
theorem kc_eq {k k' : IntKind} (h : Nat.beq (kc k) (kc k') = true) : k = k' := by
  cases k <;> cases k' <;> first | rfl | (exact absurd h (by decide))
theorem maxF_eq (k : IntKind) : maxF k = maxN k := by cases k <;> rfl
theorem forceF_eq (n : Nat) (K : Nat → Bool) : forceF n K = K n := by cases n <;> rfl

/-- Whatever it is, worked out. -/
noncomputable def genK (r : Option CV) (K : CV → Bool) : Bool := match r with | some x => forceV x K | none => false
theorem genK_out {r : Option CV} {K : CV → Bool} (h : genK r K = true) : ∃ z, r = some z ∧ K z = true := by
  unfold genK at h
  split at h
  · rename_i x; rw [forceV_eq] at h; exact ⟨x, rfl, h⟩
  · cases h

noncomputable def onII (x y : CV) (E : Bool) (K : IntKind → Nat → Nat → Bool) : Bool :=
  onInt x E fun k a => onInt y E fun k' b => ifB (Nat.beq (kc k) (kc k')) (onNat a E fun a => onNat b E fun b => K k a b) E
theorem onII_out {x y : CV} {E : Bool} {K : IntKind → Nat → Nat → Bool} (h : onII x y E K = true) : (∃ k a b, x = .int k (.ofNat a) ∧ y = .int k (.ofNat b) ∧ K k a b = true) ∨ E = true := by
  unfold onII at h
  rcases onInt_out h with ⟨k, a, rfl, g2⟩ | g2
  · rcases onInt_out g2 with ⟨k', b, rfl, g4⟩ | g4
    · rcases ifB_out g4 with ⟨hk, g6⟩ | ⟨_, g6⟩
      · have := kc_eq hk; subst this
        rcases onNat_out g6 with ⟨m, rfl, g8⟩ | g8
        · rcases onNat_out g8 with ⟨m', rfl, g10⟩ | g10
          · exact .inl ⟨_, _, _, rfl, rfl, g10⟩
          · exact .inr g10
        · exact .inr g8
      · exact .inr g6
    · exact .inr g4
  · exact .inr g2

noncomputable def outN (k : IntKind) (n : Nat) (K : CV → Bool) : Bool := forceF n fun n => K (.int k (.ofNat n))
noncomputable def addK (r : Option CV) (x y : CV) (K : CV → Bool) : Bool := onII x y (genK r K) fun k a b => ifB (Nat.ble (Nat.add a b) (maxF k)) (outN k (Nat.add a b) K) (genK r K)
noncomputable def subK (r : Option CV) (x y : CV) (K : CV → Bool) : Bool := onII x y (genK r K) fun k a b => ifB (Nat.ble b a) (ifB (Nat.ble a (maxF k)) (outN k (Nat.sub a b) K) (genK r K)) (genK r K)
noncomputable def mulK (r : Option CV) (x y : CV) (K : CV → Bool) : Bool := onII x y (genK r K) fun k a b => ifB (Nat.ble (Nat.mul a b) (maxF k)) (outN k (Nat.mul a b) K) (genK r K)
noncomputable def quoK (r : Option CV) (x y : CV) (K : CV → Bool) : Bool := onII x y (genK r K) fun k a b => ifB (Nat.ble a (maxF k)) (ifB (Nat.beq b 0) false (outN k (Nat.div a b) K)) (genK r K)
noncomputable def remK (r : Option CV) (x y : CV) (K : CV → Bool) : Bool := onII x y (genK r K) fun k a b => ifB (Nat.beq b 0) false (outN k (Nat.mod a b) K)
noncomputable def bitK (f : Nat → Nat → Nat) (r : Option CV) (x y : CV) (K : CV → Bool) : Bool := onII x y (genK r K) fun k a b => ifB (Nat.ble a (maxF k)) (ifB (Nat.ble b (maxF k)) (outN k (f a b) K) (genK r K)) (genK r K)
noncomputable def cmpK (f : Nat → Nat → Bool) (r : Option CV) (x y : CV) (K : CV → Bool) : Bool := onII x y (genK r K) fun _ a b => ifB (f a b) (K (.bool true)) (K (.bool false))
noncomputable def shlK (r : Option CV) (x y : CV) (K : CV → Bool) : Bool := onInt x (genK r K) fun k a => onInt y (genK r K) fun _ b => onNat a (genK r K) fun a => onNat b (genK r K) fun b =>
  ifB (Nat.ble (Nat.succ b) 64) (ifB (Nat.ble (Nat.mul a (Nat.pow 2 b)) (maxF k)) (ifB (Nat.ble b (maxB k)) (outN k (Nat.mul a (Nat.pow 2 b)) K) (genK r K)) (genK r K)) (genK r K)
where maxB (k : IntKind) : Nat := @IntKind.casesOn (fun _ => Nat) k 8 16 32 64 8 16 32 64
noncomputable def shrK (r : Option CV) (x y : CV) (K : CV → Bool) : Bool := onInt x (genK r K) fun k a => onInt y (genK r K) fun _ b => onNat a (genK r K) fun a => onNat b (genK r K) fun b =>
  ifB (Nat.ble (Nat.succ b) 64) (ifB (Nat.ble b (shlK.maxB k)) (outN k (Nat.div a (Nat.pow 2 b)) K) (genK r K)) (genK r K)
theorem maxB_eq (k : IntKind) : shlK.maxB k = k.bits := by cases k <;> rfl

theorem wrapF_nat {k : IntKind} {n : Nat} (h : Nat.ble n (maxF k) = true) : wrapF k (.ofNat n) = .ofNat n := by
  rw [maxF_eq] at h
  simp only [wrapF, h]

variable {P : Program} {t : Nat} {xo yo : Operand} {x y : CV} {K : CV → Bool}
theorem ikEq_refl' (k : IntKind) : ikEq k k = true := by cases k <;> rfl
theorem addK_out (h : addK (binC P .add t xo yo x y) x y K = true) : ∃ z, binC P .add t xo yo x y = some z ∧ K z = true := by
  unfold addK at h
  rcases onII_out h with ⟨k, a, b, rfl, rfl, g2⟩ | g2
  · rcases ifB_out g2 with ⟨h1, g4⟩ | ⟨_, g4⟩
    · simp only [outN, forceF_eq] at g4
      refine ⟨_, ?_, g4⟩
      simp only [binC, ikEq_refl', intBin]
      show some (CV.int k (wrapF k (.ofNat (Nat.add a b)))) = _
      rw [wrapF_nat h1]
    · exact genK_out g4
  · exact genK_out g2
theorem subK_out (h : subK (binC P .sub t xo yo x y) x y K = true) : ∃ z, binC P .sub t xo yo x y = some z ∧ K z = true := by
  unfold subK at h
  rcases onII_out h with ⟨k, a, b, rfl, rfl, g2⟩ | g2
  · rcases ifB_out g2 with ⟨h1, g4⟩ | ⟨_, g4⟩
    · rcases ifB_out g4 with ⟨h2, g6⟩ | ⟨_, g6⟩
      · simp only [outN, forceF_eq] at g6
        refine ⟨_, ?_, g6⟩
        simp only [binC, ikEq_refl', intBin]
        have e : Int.sub (.ofNat a) (.ofNat b) = .ofNat (a - b) := by
          have := Nat.le_of_ble_eq_true h1
          show (a : Int) - b = ((a - b : Nat) : Int)
          omega
        rw [e, wrapF_nat]
        · rfl
        · have := Nat.le_of_ble_eq_true h2
          exact Nat.ble_eq_true_of_le (by omega)
      · exact genK_out g6
    · exact genK_out g4
  · exact genK_out g2
theorem mulK_out (h : mulK (binC P .mul t xo yo x y) x y K = true) : ∃ z, binC P .mul t xo yo x y = some z ∧ K z = true := by
  unfold mulK at h
  rcases onII_out h with ⟨k, a, b, rfl, rfl, g2⟩ | g2
  · rcases ifB_out g2 with ⟨h1, g4⟩ | ⟨_, g4⟩
    · simp only [outN, forceF_eq] at g4
      refine ⟨_, ?_, g4⟩
      simp only [binC, ikEq_refl', intBin]
      show some (CV.int k (wrapF k (.ofNat (Nat.mul a b)))) = _
      rw [wrapF_nat h1]
    · exact genK_out g4
  · exact genK_out g2
theorem eqI_zero (b : Nat) : eqI (.ofNat b) 0 = Nat.beq b 0 := rfl
theorem quoK_out (h : quoK (binC P .quo t xo yo x y) x y K = true) : ∃ z, binC P .quo t xo yo x y = some z ∧ K z = true := by
  unfold quoK at h
  rcases onII_out h with ⟨k, a, b, rfl, rfl, g2⟩ | g2
  · rcases ifB_out g2 with ⟨h1, g4⟩ | ⟨_, g4⟩
    · rcases ifB_out g4 with ⟨_, g6⟩ | ⟨h2, g6⟩
      · cases g6
      · simp only [outN, forceF_eq] at g6
        refine ⟨_, ?_, g6⟩
        simp only [binC, ikEq_refl', intBin, eqI_zero, h2]
        have e : Int.tdiv (.ofNat a) (.ofNat b) = .ofNat (a / b) := rfl
        rw [e, wrapF_nat]
        · rfl
        · have := Nat.le_of_ble_eq_true h1
          exact Nat.ble_eq_true_of_le (Nat.le_trans (Nat.div_le_self a b) this)
    · exact genK_out g4
  · exact genK_out g2
theorem remK_out (h : remK (binC P .rem t xo yo x y) x y K = true) : ∃ z, binC P .rem t xo yo x y = some z ∧ K z = true := by
  unfold remK at h
  rcases onII_out h with ⟨k, a, b, rfl, rfl, g2⟩ | g2
  · rcases ifB_out g2 with ⟨_, g4⟩ | ⟨h2, g4⟩
    · cases g4
    · simp only [outN, forceF_eq] at g4
      refine ⟨_, ?_, g4⟩
      simp only [binC, ikEq_refl', intBin, eqI_zero, h2]
      rfl
  · exact genK_out g2
theorem bitK_out {op : BinOp} {f : Nat → Nat → Nat} (hop : (op = .and ∧ f = Nat.land) ∨ (op = .or ∧ f = Nat.lor) ∨ (op = .xor ∧ f = Nat.xor)) (h : bitK f (binC P op t xo yo x y) x y K = true) : ∃ z, binC P op t xo yo x y = some z ∧ K z = true := by
  unfold bitK at h
  rcases onII_out h with ⟨k, a, b, rfl, rfl, g2⟩ | g2
  · rcases ifB_out g2 with ⟨h1, g4⟩ | ⟨_, g4⟩
    · rcases ifB_out g4 with ⟨h2, g6⟩ | ⟨_, g6⟩
      · simp only [outN, forceF_eq] at g6
        refine ⟨_, ?_, g6⟩
        rw [maxF_eq] at h1 h2
        rcases hop with ⟨rfl, rfl⟩ | ⟨rfl, rfl⟩ | ⟨rfl, rfl⟩ <;> simp [binC, ikEq_refl', intBin, bitN, h1, h2]
      · exact genK_out g6
    · exact genK_out g4
  · exact genK_out g2
def cmpF (op : BinOp) : Nat → Nat → Bool := match op with
  | .eql => fun a b => Nat.beq a b
  | .neq => fun a b => !Nat.beq a b
  | .lss => fun a b => Nat.ble (Nat.succ a) b
  | .leq => fun a b => Nat.ble a b
  | .gtr => fun a b => Nat.ble (Nat.succ b) a
  | _ => fun a b => Nat.ble b a
theorem cmpK_out {op : BinOp} (hop : op = .eql ∨ op = .neq ∨ op = .lss ∨ op = .leq ∨ op = .gtr ∨ op = .geq) (h : cmpK (cmpF op) (binC P op t xo yo x y) x y K = true) : ∃ z, binC P op t xo yo x y = some z ∧ K z = true := by
  unfold cmpK at h
  rcases onII_out h with ⟨k, a, b, rfl, rfl, g2⟩ | g2
  · have g2 : K (.bool (cmpF op a b)) = true := by
      rcases ifB_out g2 with ⟨h1, g6⟩ | ⟨h1, g6⟩ <;> rw [h1] <;> exact g6
    refine ⟨_, ?_, g2⟩
    have l1 : ∀ a b : Nat, ltB (.ofNat a) (.ofNat b) = Nat.ble (Nat.succ a) b := fun a b => rfl
    have l2 : ∀ a b : Nat, leB (.ofNat a) (.ofNat b) = Nat.ble a b := fun a b => rfl
    rcases hop with rfl | rfl | rfl | rfl | rfl | rfl <;> simp only [binC, ikEq_refl', intBin, l1, l2] <;> rfl
  · exact genK_out g2
theorem shlK_out (h : shlK (binC P .shl t xo yo x y) x y K = true) : ∃ z, binC P .shl t xo yo x y = some z ∧ K z = true := by
  unfold shlK at h
  rcases onInt_out h with ⟨k, a, rfl, g2⟩ | g2
  · rcases onInt_out g2 with ⟨k', b, rfl, g4⟩ | g4
    · rcases onNat_out g4 with ⟨a, rfl, g6⟩ | g6
      · rcases onNat_out g6 with ⟨b, rfl, g8⟩ | g8
        · rcases ifB_out g8 with ⟨h1, g10⟩ | ⟨_, g10⟩
          · rcases ifB_out g10 with ⟨h2, g12⟩ | ⟨_, g12⟩
            · rcases ifB_out g12 with ⟨h3, g14⟩ | ⟨_, g14⟩
              · simp only [outN, forceF_eq] at g14
                refine ⟨_, ?_, g14⟩
                rw [maxB_eq] at h3
                have hb : Nat.blt b 64 = true := h1
                have hm : min b k.bits = b := Nat.min_eq_left (Nat.le_of_ble_eq_true h3)
                simp only [binC, shiftC, natOfI, hb, hm]
                show some (CV.int k (wrapF k (.ofNat (Nat.mul a (Nat.pow 2 b))))) = _
                rw [wrapF_nat h2]
              · exact genK_out g14
            · exact genK_out g12
          · exact genK_out g10
        · exact genK_out g8
      · exact genK_out g6
    · exact genK_out g4
  · exact genK_out g2
theorem shrK_out (h : shrK (binC P .shr t xo yo x y) x y K = true) : ∃ z, binC P .shr t xo yo x y = some z ∧ K z = true := by
  unfold shrK at h
  rcases onInt_out h with ⟨k, a, rfl, g2⟩ | g2
  · rcases onInt_out g2 with ⟨k', b, rfl, g4⟩ | g4
    · rcases onNat_out g4 with ⟨a, rfl, g6⟩ | g6
      · rcases onNat_out g6 with ⟨b, rfl, g8⟩ | g8
        · rcases ifB_out g8 with ⟨h1, g10⟩ | ⟨_, g10⟩
          · rcases ifB_out g10 with ⟨h3, g12⟩ | ⟨_, g12⟩
            · simp only [outN, forceF_eq] at g12
              refine ⟨_, ?_, g12⟩
              rw [maxB_eq] at h3
              have hb : Nat.blt b 64 = true := h1
              have hm : min b k.bits = b := Nat.min_eq_left (Nat.le_of_ble_eq_true h3)
              simp only [binC, shiftC, natOfI, hb, hm]
              rfl
            · exact genK_out g12
          · exact genK_out g10
        · exact genK_out g8
      · exact genK_out g6
    · exact genK_out g4
  · exact genK_out g2

end prim
end Go.Fw

namespace Go.Fw
open Go Go.RowKit

section tri
variable {α : Type}
/-- The cell of a number, for the kernel. -/
noncomputable def triK (t : Trie CV) (i : Nat) (E : Bool) (K : CV → Bool) : Bool :=
  @Trie.rec CV (fun _ => Nat → Bool) (fun _ => E) (fun v _ _ gl gr i => @Nat.casesOn (fun _ => Bool) i (@Option.casesOn CV (fun _ => Bool) v E K) (fun j => ifB (Nat.beq (Nat.land j 1) 1) (gr (Nat.shiftRight j 1)) (gl (Nat.shiftRight j 1)))) t i
theorem triK_eq (E : Bool) (K : CV → Bool) : ∀ (t : Trie CV) (i : Nat), triK t i E K = match t.get i with | some x => K x | none => E
  | .nil, i => rfl
  | .node v l r, 0 => by cases v <;> rfl
  | .node v l r, j + 1 => by
    have e1 : Nat.land j 1 = j % 2 := Nat.and_one_is_mod j
    have e2 : Nat.shiftRight j 1 = j / 2 := by rw [show Nat.shiftRight j 1 = j >>> 1 from rfl, Nat.shiftRight_eq_div_pow]
    show ifB (Nat.beq (Nat.land j 1) 1) (triK r (Nat.shiftRight j 1) E K) (triK l (Nat.shiftRight j 1) E K) = _
    rw [triK_eq E K l, triK_eq E K r, e1, e2]
    have hd : Nat.div j 2 = j / 2 := rfl
    have hm : Nat.mod j 2 = j % 2 := rfl
    simp only [Trie.get, hd, hm]
    rcases Nat.mod_two_eq_zero_or_one j with h | h <;> rw [h] <;> rfl
noncomputable def oneF (x : CV) (f : Nat) : Nat → Trie CV :=
  @Nat.rec (fun _ => Nat → Trie CV) (fun _ => .node (some x) .nil .nil) (fun _ ih i => @Nat.casesOn (fun _ => Trie CV) i (.node (some x) .nil .nil) (fun j => @Bool.casesOn (fun _ => Trie CV) (Nat.beq (Nat.land j 1) 1) (.node none (ih (Nat.shiftRight j 1)) .nil) (.node none .nil (ih (Nat.shiftRight j 1))))) f
theorem oneF_eq (x : CV) : ∀ (f i : Nat), oneF x f i = Trie.single x f i
  | 0, _ => rfl
  | f + 1, 0 => rfl
  | f + 1, j + 1 => by
    have e1 : Nat.land j 1 = j % 2 := Nat.and_one_is_mod j
    have e2 : Nat.shiftRight j 1 = j / 2 := by rw [show Nat.shiftRight j 1 = j >>> 1 from rfl, Nat.shiftRight_eq_div_pow]
    show @Bool.casesOn (fun _ => Trie CV) (Nat.beq (Nat.land j 1) 1) (.node none (oneF x f (Nat.shiftRight j 1)) .nil) (.node none .nil (oneF x f (Nat.shiftRight j 1))) = _
    rw [oneF_eq x f, e1, e2]
    have hd : Nat.div j 2 = j / 2 := rfl
    have hm : Nat.mod j 2 = j % 2 := rfl
    simp only [Trie.single, hd, hm]
    rcases Nat.mod_two_eq_zero_or_one j with h | h <;> rw [h] <;> rfl
noncomputable def setF (x : CV) (t : Trie CV) : Nat → Trie CV :=
  @Trie.rec CV (fun _ => Nat → Trie CV) (fun i => oneF x i i) (fun v l r gl gr i => @Nat.casesOn (fun _ => Trie CV) i (.node (some x) l r) (fun j => @Bool.casesOn (fun _ => Trie CV) (Nat.beq (Nat.land j 1) 1) (.node v (gl (Nat.shiftRight j 1)) r) (.node v l (gr (Nat.shiftRight j 1))))) t
theorem setF_eq (x : CV) : ∀ (t : Trie CV) (i : Nat), setF x t i = Trie.set x t i
  | .nil, i => oneF_eq x i i
  | .node v l r, 0 => rfl
  | .node v l r, j + 1 => by
    have e1 : Nat.land j 1 = j % 2 := Nat.and_one_is_mod j
    have e2 : Nat.shiftRight j 1 = j / 2 := by rw [show Nat.shiftRight j 1 = j >>> 1 from rfl, Nat.shiftRight_eq_div_pow]
    show @Bool.casesOn (fun _ => Trie CV) (Nat.beq (Nat.land j 1) 1) (.node v (setF x l (Nat.shiftRight j 1)) r) (.node v l (setF x r (Nat.shiftRight j 1))) = _
    rw [setF_eq x l, setF_eq x r, e1, e2]
    have hd : Nat.div j 2 = j / 2 := rfl
    have hm : Nat.mod j 2 = j % 2 := rfl
    simp only [Trie.set, hd, hm, Trie.force_eq]
    rcases Nat.mod_two_eq_zero_or_one j with h | h <;> rw [h] <;> rfl
end tri

/-- A name's cells. -/
noncomputable def getK (hp : HP) (n : Nat) (E : Bool) (K : CSeg → Bool) : Bool :=
  @List.rec (Nat × CSeg) (fun _ => Bool) E (fun p _ ih => @Prod.casesOn Nat CSeg (fun _ => Bool) p fun m x => ifB (Nat.beq m n) (K x) ih) hp
theorem getK_eq (n : Nat) (E : Bool) (K : CSeg → Bool) : ∀ hp : HP, getK hp n E K = match hp.get n with | some x => K x | none => E
  | [] => rfl
  | (m, x) :: r => by
    show ifB (Nat.beq m n) (K x) (getK r n E K) = _
    rw [getK_eq n E K r]
    simp only [AL.get]
    cases Nat.beq m n <;> rfl
def revA {α : Type} : List α → List α → List α
  | [], r => r
  | a :: l, r => revA l (a :: r)
theorem revA_eq {α : Type} : ∀ (l r : List α), revA l r = l.reverse ++ r
  | [], r => rfl
  | a :: l, r => by simp [revA, revA_eq l]
/-- A name's cells are turned. -/
noncomputable def modK (hp : HP) (n : Nat) (f : CSeg → (CSeg → Bool) → Bool) (K : HP → Bool) : Bool :=
  @List.rec (Nat × CSeg) (fun _ => HP → Bool) (fun _ => false) (fun p r ih acc => @Prod.casesOn Nat CSeg (fun _ => Bool) p fun m x => ifB (Nat.beq m n) (f x fun x' => K ((n, x') :: revA acc r)) (ih ((m, x) :: acc))) hp []
theorem modK_go {n : Nat} {f : CSeg → (CSeg → Bool) → Bool} {K : HP → Bool} : ∀ (hp acc : HP), (∀ q ∈ acc, q.1 ≠ n) →
    @List.rec (Nat × CSeg) (fun _ => HP → Bool) (fun _ => false) (fun p r ih acc => @Prod.casesOn Nat CSeg (fun _ => Bool) p fun m x => ifB (Nat.beq m n) (f x fun x' => K ((n, x') :: revA acc r)) (ih ((m, x) :: acc))) hp acc = true →
    ∃ x, hp.get n = some x ∧ f x (fun x' => K ((n, x') :: (acc.reverse ++ hp.erase n))) = true
  | [], acc, _, h => by cases h
  | (m, x) :: r, acc, ha, h => by
    rcases ifB_out h with ⟨h1, h2⟩ | ⟨h1, h2⟩
    · refine ⟨x, by simp only [AL.get, h1], ?_⟩
      simp only [AL.erase, h1]
      have e : ∀ x' : CSeg, ((n, x') :: revA acc r : HP) = (n, x') :: (acc.reverse ++ r) := fun x' => by rw [revA_eq]
      simpa only [e] using h2
    · obtain ⟨x', g1, g2⟩ := modK_go r ((m, x) :: acc) (fun q hq => by
        rcases List.mem_cons.1 hq with rfl | hq
        · exact AL.beq_ne h1
        · exact ha q hq) h2
      refine ⟨x', by simp only [AL.get, h1]; exact g1, ?_⟩
      simp only [AL.erase, h1]
      simpa using g2
theorem modK_out {hp : HP} {n : Nat} {f : CSeg → (CSeg → Bool) → Bool} {K : HP → Bool} (h : modK hp n f K = true) : ∃ x, hp.get n = some x ∧ f x (fun x' => K (AL.set x' hp n)) = true := by
  obtain ⟨x, h1, h2⟩ := modK_go hp [] (by simp) h
  exact ⟨x, h1, by simpa [AL.set] using h2⟩
/-- A name is given up. -/
noncomputable def delK (hp : HP) (n : Nat) (K : HP → Bool) : Bool :=
  @List.rec (Nat × CSeg) (fun _ => HP → Bool) (fun _ => K hp) (fun p r ih acc => @Prod.casesOn Nat CSeg (fun _ => Bool) p fun m x => ifB (Nat.beq m n) (K (revA acc r)) (ih ((m, x) :: acc))) hp []
theorem erase_none {n : Nat} : ∀ {l : HP}, (∀ q ∈ l, q.1 ≠ n) → l.erase n = l
  | [], _ => rfl
  | p :: r, h => by
    have hp := h p (by simp)
    have : Nat.beq p.1 n = false := by rw [Bool.eq_false_iff]; intro h2; exact hp (Nat.eq_of_beq_eq_true h2)
    simp only [AL.erase, this]
    rw [erase_none fun q hq => h q (by simp [hq])]
theorem delK_go {n : Nat} {K : HP → Bool} {hp0 : HP} : ∀ (hp acc : HP), (∀ q ∈ acc, q.1 ≠ n) → hp0 = acc.reverse ++ hp →
    @List.rec (Nat × CSeg) (fun _ => HP → Bool) (fun _ => K hp0) (fun p r ih acc => @Prod.casesOn Nat CSeg (fun _ => Bool) p fun m x => ifB (Nat.beq m n) (K (revA acc r)) (ih ((m, x) :: acc))) hp acc = K (acc.reverse ++ hp.erase n)
  | [], acc, _, e => by subst e; rfl
  | (m, x) :: r, acc, ha, e => by
    show ifB (Nat.beq m n) (K (revA acc r)) _ = _
    cases h1 : Nat.beq m n with
    | true => show K (revA acc r) = _; simp only [AL.erase, h1]; rw [revA_eq]
    | false =>
      have := delK_go (K := K) (hp0 := hp0) r ((m, x) :: acc) (fun q hq => by
        rcases List.mem_cons.1 hq with rfl | hq
        · exact AL.beq_ne h1
        · exact ha q hq) (by simp [e])
      refine this.trans ?_
      simp [AL.erase, h1]
theorem delK_eq (hp : HP) (n : Nat) (K : HP → Bool) : delK hp n K = K (hp.erase n) := by
  have := delK_go (K := K) (n := n) (hp0 := hp) hp [] (by simp) rfl
  exact this.trans rfl

noncomputable def onSeg (s : CSeg) (E : Bool) (K : Kind → Trie CV → List CV → Nat → Bool → Bool) : Bool := @CSeg.casesOn (fun _ => Bool) s E K
theorem onSeg_out {s : CSeg} {K : Kind → Trie CV → List CV → Nat → Bool → Bool} (h : onSeg s false K = true) : ∃ k t d m op, s = .seg k t d m op ∧ K k t d m op = true := by
  cases s with
  | dead => cases h
  | seg k t d m op => exact ⟨k, t, d, m, op, rfl, h⟩
noncomputable def cellK (t : Trie CV) (d : List CV) (j : Nat) (K : CV → Bool) : Bool :=
  triK t j (@List.casesOn CV (fun _ => Bool) d (K (dflt d j)) fun x r => @List.casesOn CV (fun _ => Bool) r (K x) fun _ _ => K (dflt d j)) K
theorem cellK_eq (t : Trie CV) (d : List CV) (j : Nat) (K : CV → Bool) : cellK t d j K = K (cellC t d j) := by
  unfold cellK cellC
  rw [triK_eq]
  cases t.get j with
  | some x => rfl
  | none =>
    cases d with
    | nil => rfl
    | cons a r => cases r <;> rfl

section mem
variable {P : Program} {T : List (Nat × TyI)} {t : Nat} {env : List CV} {n c : Nat} {hp : HP} {x y : CV} {K : CV → Bool}

theorem segC_get {n : Nat} {m : CSeg} (h : hp.get n = some m) : segC ⟨env, c, hp, c⟩ n = m := by
  unfold segC AL.getD; simp only [h]

/-- A cell is read. -/
noncomputable def loadSK (hp : HP) (x : CV) (K : CV → Bool) : Bool :=
  onPtr x false fun n off => getK hp n false fun s => onSeg s false fun _ t d m _ => ifB (Nat.ble (Nat.succ off) m) (cellK t d off K) false
/-- Does a value fit among cells of a kind? -/
noncomputable def fitsF (k : Kind) (x : CV) (A : Bool) : Bool :=
  @Kind.casesOn (fun _ => Bool) k (onBool x false fun _ => A) (fun k => onInt x false fun k' _ => ifB (Nat.beq (kc k) (kc k')) A false) (fun k => ifB (fitsK (.flts k) x) A false) (fun k => ifB (fitsK (.cpxs k) x) A false) (ifB (fitsK .strs x) A false) (ifB (fitsK .avs x) A false)
theorem fitsF_out {k : Kind} {A : Bool} (h : fitsF k x A = true) : fitsK k x = true ∧ A = true := by
  cases k with
  | bools =>
    rcases onBool_out h with ⟨b, rfl, h1⟩ | h1
    · exact ⟨rfl, h1⟩
    · cases h1
  | ints k =>
    rcases onInt_out h with ⟨k', b, rfl, h1⟩ | h1
    · rcases ifB_out h1 with ⟨h2, h3⟩ | ⟨_, h3⟩
      · have := kc_eq h2; subst this
        exact ⟨by simp only [fitsK]; exact ikEq_refl' _, h3⟩
      · cases h3
    · cases h1
  | flts k => rcases ifB_out h with ⟨h2, h3⟩ | ⟨_, h3⟩ <;> first | exact ⟨h2, h3⟩ | cases h3
  | cpxs k => rcases ifB_out h with ⟨h2, h3⟩ | ⟨_, h3⟩ <;> first | exact ⟨h2, h3⟩ | cases h3
  | strs => rcases ifB_out h with ⟨h2, h3⟩ | ⟨_, h3⟩ <;> first | exact ⟨h2, h3⟩ | cases h3
  | avs => rcases ifB_out h with ⟨h2, h3⟩ | ⟨_, h3⟩ <;> first | exact ⟨h2, h3⟩ | cases h3
noncomputable def storeSK (hp : HP) (a x : CV) (K : HP → Bool) : Bool :=
  onPtr a false fun n off => modK hp n (fun s K => onSeg s false fun k t d m op => ifB (Nat.ble (Nat.succ off) m) (fitsF k x (Trie.setG x t off fun t => K (.seg k t d m op))) false) K
noncomputable def storeAK (r : Option HP) (K : HP → Bool) : Bool := match r with | some hp => K hp | none => false
/-- Where a row's element lies. -/
noncomputable def ptrK (sz : Nat) (n off len i : Nat) (K : CV → Bool) : Bool := ifB (Nat.ble (Nat.succ i) len) (forceF (Nat.add off (Nat.mul i sz)) fun o => K (.ptr n o)) false
noncomputable def idxSK (sz : Nat) (x i : CV) (K : CV → Bool) : Bool :=
  onInt i false fun _ i => onNat i false fun i => onRow x false fun n off len => ptrK sz n off len i K
noncomputable def idxAK (sz len : Nat) (x i : CV) (K : CV → Bool) : Bool :=
  onInt i false fun _ i => onNat i false fun i => onPtr x false fun n off => ptrK sz n off len i K
noncomputable def lenF (r : Option CV) (x : CV) (K : CV → Bool) : Bool := onRow x (genK r K) fun _ _ l => K (.int .i64 (.ofNat l))
noncomputable def nthOK (i : Nat) : List CV → (CV → Bool) → Bool :=
  @Nat.rec (fun _ => List CV → (CV → Bool) → Bool) (fun l K => @List.casesOn CV (fun _ => Bool) l false fun a _ => K a) (fun _ ih l K => @List.casesOn CV (fun _ => Bool) l false fun _ r => ih r K) i
theorem nthOK_out : ∀ {i : Nat} {l : List CV}, nthOK i l K = true → ∃ z, nth? l i = some z ∧ K z = true
  | 0, [], h => by cases h
  | 0, a :: r, h => ⟨a, rfl, h⟩
  | i + 1, [], h => by cases h
  | i + 1, a :: r, h => nthOK_out (i := i) (l := r) h
noncomputable def pickK (c x y : CV) (K : CV → Bool) : Bool := onBool c false fun b => ifB b (K x) (K y)
noncomputable def notK (r : Option CV) (x : CV) (K : CV → Bool) : Bool := onBool x (genK r K) fun b => ifB b (K (.bool false)) (K (.bool true))
noncomputable def condK (x : CV) (A B : Bool) : Bool := onBool x false fun b => ifB b A B

noncomputable def genM (r : Option (CV × HP × Nat)) (K : CV → HP → Nat → Bool) : Bool := match r with | some (x, hp, c) => forceV x fun x => K x hp c | none => false
theorem genM_out {r : Option (CV × HP × Nat)} {K : CV → HP → Nat → Bool} (h : genM r K = true) : ∃ x hp c, r = some (x, hp, c) ∧ K x hp c = true := by
  unfold genM at h
  split at h
  · rename_i x hp c; rw [forceV_eq] at h; exact ⟨x, hp, c, rfl, h⟩
  · cases h
end mem
end Go.Fw

namespace Go.Fw
open Go Go.RowKit
noncomputable def icvF (k : IntKind) (r : Option CV) (x : CV) (K : CV → Bool) : Bool := onInt x (genK r K) fun _ a => onNat a (genK r K) fun a => ifB (Nat.ble a (maxF k)) (outN k a K) (genK r K)
noncomputable def fadK (o : Nat) (x : CV) (K : CV → Bool) : Bool := onPtr x false fun n off => forceF (Nat.add off o) fun p => K (.ptr n p)
noncomputable def nilcK (x : CV) (K : CV → Bool) : Bool := onPtr x (onFn x false fun g cs => K (.fn g cs)) fun n off => K (.ptr n off)

def two (P : Program) (x : CV) (f : Value → Sem Value) : Option CV := match toV x with | some v => pureV P (f v) | none => none
def two2 (P : Program) (x y : CV) (f : Value → Value → Sem Value) : Option CV := match toV x, toV y with | some v, some u => pureV P (f v u) | _, _ => none

noncomputable def copK (r : Option (CV × HP)) (c : Nat) (K : KV) : Bool := match r with | some (z, hp) => forceV z fun z => K z hp c | none => false
noncomputable def cpyK (T : List (Nat × TyI)) (t : Nat) (hp : HP) (c : Nat) (x y : CV) (K : KV) : Bool :=
  match copyNil x y, elemOfT T t with
  | true, some _ => K (.int .i64 (.ofNat 0)) hp c
  | true, none => false
  | false, _ => copK (copyCC T ⟨[], 0, hp, c⟩ t x y) c K
noncomputable def appK (T : List (Nat × TyI)) (t t2 : Nat) (hp : HP) (c : Nat) (x y : CV) (K : KV) : Bool :=
  match appendNil x y with
  | some z => (match elemOfT T t, tyAt T t2 with
    | some _, some i => (match i.d with | .slice _ => K z hp c | _ => false)
    | _, _ => false)
  | none => genM (appendC T ⟨[], 0, hp, c⟩ t t2 x y) K
noncomputable def undK (g : CV) (B : Bool) : Bool := onTup g false fun l => @List.casesOn CV (fun _ => Bool) l B fun _ _ => false
noncomputable def guardK (want : Bool) (g : CV) (A B : Bool) : Bool :=
  match want with
  | true => onBool g (undK g B) fun b => ifB b A B
  | false => onBool g (undK g B) fun b => ifB b B A
/-- Values that have one meaning. -/
noncomputable def detK (x : CV) (A : Bool) : Bool :=
  @CV.casesOn (fun _ => Bool) x false (fun _ => A) (fun _ _ => A) (fun _ _ => A) (fun _ _ _ => A) (fun _ => A) A A A (fun _ _ _ _ => false) (fun _ _ _ _ => false) (fun _ _ => A) (fun _ => false) (fun _ => false) (fun _ _ => false)
noncomputable def knownK (x : CV) (A : Bool) : Bool :=
  @CV.casesOn (fun _ => Bool) x false (fun _ => A) (fun _ _ => A) (fun _ _ => A) (fun _ _ _ => A) (fun _ => A) A A A (fun _ _ _ _ => false) (fun _ _ _ _ => false) (fun _ _ => false) (fun cs => match toVSs cs with | some _ => A | none => false) (fun _ => false) (fun _ _ => false)
theorem detK_out {x : CV} {A : Bool} (h : detK x A = true) : detC x = true ∧ A = true := by
  cases x <;> first | exact ⟨rfl, h⟩ | cases h
theorem knownK_out {x : CV} {A : Bool} (h : knownK x A = true) : (∃ v, toV x = some v) ∧ A = true := by
  cases x <;> first | exact ⟨⟨_, rfl⟩, h⟩ | cases h | skip
  rename_i cs
  unfold knownK at h
  simp only at h
  split at h
  · rename_i vs hv
    exact ⟨⟨.agg vs.toArray, by simp only [toV, hv]⟩, h⟩
  · cases h
noncomputable def killVK (v : CV) (hp : HP) (K : HP → Bool) : Bool :=
  @CV.casesOn (fun _ => Bool) v (K hp) (fun _ => K hp) (fun _ _ => K hp) (fun _ _ => K hp) (fun _ _ _ => K hp) (fun _ => K hp) (K hp) (K hp) (K hp) (fun n _ _ _ => delK hp n K) (fun n _ _ _ => delK hp n K) (fun n _ => delK hp n K) (fun _ => K hp) (fun _ => K hp) (fun _ _ => K hp)
theorem killVK_eq (v : CV) (hp : HP) (K : HP → Bool) : killVK v hp K = K (killV v hp) := by
  cases v <;> first | rfl | exact delK_eq _ _ _

noncomputable def unsB (k : IntKind) : Bool := @IntKind.casesOn (fun _ => Bool) k false false false false true true true true
noncomputable def negK (r : Option CV) (x : CV) (K : CV → Bool) : Bool := onInt x (genK r K) fun k a => onNat a (genK r K) fun a =>
  ifB (Nat.beq a 0) (K (.int k (.ofNat 0))) (ifB (Nat.ble a (maxF k)) (ifB (unsB k) (outN k (Nat.sub (Nat.succ (maxF k)) a) K) (forceF (Nat.pred a) fun m => K (.int k (.negSucc m)))) (genK r K))
theorem negK_out {P : Program} {x : CV} {K : CV → Bool} (h : negK (two P x (Op.unary .neg)) x K = true) : ∃ z, two P x (Op.unary .neg) = some z ∧ K z = true := by
  unfold negK at h
  rcases onInt_out h with ⟨k, a, rfl, h1⟩ | h1
  · rcases onNat_out h1 with ⟨a, rfl, h2⟩ | h2
    · have e0 : two P (.int k (.ofNat a)) (Op.unary .neg) = some (.int k (k.wrap (0 - (a : Int)))) := rfl
      rcases ifB_out h2 with ⟨h3, h4⟩ | ⟨h3, h4⟩
      · have ha : a = 0 := Nat.eq_of_beq_eq_true h3
        subst ha
        exact ⟨_, by rw [e0]; cases k <;> rfl, h4⟩
      · have ha : a ≠ 0 := AL.beq_ne h3
        rcases ifB_out h4 with ⟨h5, h6⟩ | ⟨_, h6⟩
        · have hm := Nat.le_of_ble_eq_true h5
          rcases ifB_out h6 with ⟨h7, h8⟩ | ⟨h7, h8⟩
          · simp only [outN, forceF_eq] at h8
            refine ⟨_, ?_, h8⟩
            rw [e0]
            congr 2
            have : k.wrap (0 - (a : Int)) = ((Nat.sub (Nat.succ (maxF k)) a : Nat) : Int) := by
              have hs : Nat.sub (Nat.succ (maxF k)) a = maxF k + 1 - a := rfl
              rw [hs]
              cases k <;> first | (exact absurd h7 (by decide)) | (simp only [maxF] at hm ⊢; unfold IntKind.wrap; simp only [IntKind.bits, IntKind.signed]; simp; omega)
            exact this
          · rw [forceF_eq] at h8
            refine ⟨_, ?_, h8⟩
            rw [e0]
            congr 2
            have : k.wrap (0 - (a : Int)) = Int.negSucc (Nat.pred a) := by
              have hs : Int.negSucc (Nat.pred a) = 0 - (a : Int) := by rw [Int.negSucc_eq]; have : Nat.pred a = a - 1 := rfl; omega
              rw [hs]
              cases k <;> first | (exact absurd h7 (by decide)) | (simp only [maxF] at hm; unfold IntKind.wrap; simp only [IntKind.bits, IntKind.signed]; simp; omega)
            exact this
        · exact genK_out h6
    · exact genK_out h2
  · exact genK_out h1

/-- What a written run is made of: as a row of names, so that the kernel leaves them alone where it compares two texts. -/
structure Prim where
  share : (α : Type) → α → (α → Bool) → Bool
  condK : CV → Bool → Bool → Bool
  onTup : CV → Bool → (List CV → Bool) → Bool
  onFn : CV → Bool → (FuncId → List CV → Bool) → Bool
  nthOK : Nat → List CV → (CV → Bool) → Bool
  genK : Option CV → (CV → Bool) → Bool
  genM : Option (CV × HP × Nat) → KV → Bool
  addK : Option CV → CV → CV → (CV → Bool) → Bool
  subK : Option CV → CV → CV → (CV → Bool) → Bool
  mulK : Option CV → CV → CV → (CV → Bool) → Bool
  quoK : Option CV → CV → CV → (CV → Bool) → Bool
  remK : Option CV → CV → CV → (CV → Bool) → Bool
  shlK : Option CV → CV → CV → (CV → Bool) → Bool
  shrK : Option CV → CV → CV → (CV → Bool) → Bool
  bitK : (Nat → Nat → Nat) → Option CV → CV → CV → (CV → Bool) → Bool
  cmpK : (Nat → Nat → Bool) → Option CV → CV → CV → (CV → Bool) → Bool
  notK : Option CV → CV → (CV → Bool) → Bool
  negK : Option CV → CV → (CV → Bool) → Bool
  icvF : IntKind → Option CV → CV → (CV → Bool) → Bool
  loadSK : HP → CV → (CV → Bool) → Bool
  storeSK : HP → CV → CV → (HP → Bool) → Bool
  storeAK : Option HP → (HP → Bool) → Bool
  idxSK : Nat → CV → CV → (CV → Bool) → Bool
  idxAK : Nat → Nat → CV → CV → (CV → Bool) → Bool
  lenF : Option CV → CV → (CV → Bool) → Bool
  pickK : CV → CV → CV → (CV → Bool) → Bool
  nilcK : CV → (CV → Bool) → Bool
  fadK : Nat → CV → (CV → Bool) → Bool
  appK : List (Nat × TyI) → Nat → Nat → HP → Nat → CV → CV → KV → Bool
  cpyK : List (Nat × TyI) → Nat → HP → Nat → CV → CV → KV → Bool
  guardK : Bool → CV → Bool → Bool → Bool
  killVK : CV → HP → (HP → Bool) → Bool
  detK : CV → Bool → Bool
  knownK : CV → Bool → Bool
  ifB : Bool → Bool → Bool → Bool
noncomputable def real : Prim := ⟨fun _ x f => f x, condK, onTup, onFn, nthOK, genK, genM, addK, subK, mulK, quoK, remK, shlK, shrK, bitK, cmpK, notK, negK, icvF, loadSK, storeSK, storeAK, idxSK, idxAK, lenF, pickK, nilcK, fadK, appK, cpyK, guardK, killVK, detK, knownK, ifB⟩
section
variable {P : Program} {t : Nat} {xo yo : Operand} {x y : CV} {K : CV → Bool}
/-- An operation of two values. -/
noncomputable def binK (Q : Prim) (P : Program) (op : BinOp) (t : Nat) (xo yo : Operand) (x y : CV) (K : CV → Bool) : Bool :=
  match op with
  | .add => Q.addK (binC P .add t xo yo x y) x y K
  | .sub => Q.subK (binC P .sub t xo yo x y) x y K
  | .mul => Q.mulK (binC P .mul t xo yo x y) x y K
  | .quo => Q.quoK (binC P .quo t xo yo x y) x y K
  | .rem => Q.remK (binC P .rem t xo yo x y) x y K
  | .and => Q.bitK Nat.land (binC P .and t xo yo x y) x y K
  | .or => Q.bitK Nat.lor (binC P .or t xo yo x y) x y K
  | .xor => Q.bitK Nat.xor (binC P .xor t xo yo x y) x y K
  | .shl => Q.shlK (binC P .shl t xo yo x y) x y K
  | .shr => Q.shrK (binC P .shr t xo yo x y) x y K
  | .eql => Q.cmpK (cmpF .eql) (binC P .eql t xo yo x y) x y K
  | .neq => Q.cmpK (cmpF .neq) (binC P .neq t xo yo x y) x y K
  | .lss => Q.cmpK (cmpF .lss) (binC P .lss t xo yo x y) x y K
  | .leq => Q.cmpK (cmpF .leq) (binC P .leq t xo yo x y) x y K
  | .gtr => Q.cmpK (cmpF .gtr) (binC P .gtr t xo yo x y) x y K
  | .geq => Q.cmpK (cmpF .geq) (binC P .geq t xo yo x y) x y K
  | .andNot => Q.genK (binC P .andNot t xo yo x y) K
theorem binK_out {op : BinOp} (h : binK real P op t xo yo x y K = true) : ∃ z, binC P op t xo yo x y = some z ∧ K z = true := by
  cases op
  case add => exact addK_out h
  case sub => exact subK_out h
  case mul => exact mulK_out h
  case quo => exact quoK_out h
  case rem => exact remK_out h
  case and => exact bitK_out (by simp) h
  case or => exact bitK_out (by simp) h
  case xor => exact bitK_out (by simp) h
  case andNot => exact genK_out h
  case shl => exact shlK_out h
  case shr => exact shrK_out h
  all_goals exact cmpK_out (by simp) h
end
section mem
variable {P : Program} {T : List (Nat × TyI)} {t : Nat} {env : List CV} {n c : Nat} {hp : HP} {x y : CV} {K : CV → Bool}
noncomputable def loadK (Q : Prim) (T : List (Nat × TyI)) (hp : HP) (t : Nat) (x : CV) (K : CV → Bool) : Bool :=
  match isAggT T t with
  | some false => Q.loadSK hp x K
  | _ => Q.genK (loadCC T ⟨[], 0, hp, 0⟩ t x) K
theorem loadCC_hp (s : CSt) : loadCC T s t x = loadCC T ⟨[], 0, s.hp, 0⟩ t x := rfl
theorem loadK_out (h : loadK real T hp t x K = true) : ∃ z, loadCC T ⟨env, n, hp, c⟩ t x = some z ∧ K z = true := by
  rw [loadCC_hp]
  unfold loadK at h
  split at h
  · rename_i hag
    have h : loadSK hp x K = true := h
    unfold loadSK at h
    rcases onPtr_out h with ⟨n', off, rfl, h1⟩ | h1
    · rw [getK_eq] at h1
      split at h1
      · rename_i s hs
        obtain ⟨k, tr, d, m, op, rfl, h2⟩ := onSeg_out h1
        rcases ifB_out h2 with ⟨h3, h4⟩ | ⟨_, h4⟩
        · rw [cellK_eq] at h4
          refine ⟨_, ?_, h4⟩
          have e : segC ⟨[], 0, hp, 0⟩ n' = .seg k tr d m op := by unfold segC AL.getD; simp only [hs]
          have h3' : Nat.blt off m = true := h3
          simp only [loadCC, e, hag, h3']
        · cases h4
      · cases h1
    · cases h1
  · exact genK_out h

noncomputable def storeK (Q : Prim) (T : List (Nat × TyI)) (hp : HP) (t : Nat) (a x : CV) (K : HP → Bool) : Bool :=
  match sizeAt T t, isAggT T t with
  | some 1, some false => Q.storeSK hp a x K
  | _, _ => Q.storeAK (storeC T ⟨[], 0, hp, 0⟩ t a x) K
theorem storeC_hp (s : CSt) {a : CV} : storeC T s t a x = storeC T ⟨[], 0, s.hp, 0⟩ t a x := rfl
theorem storeK_out {a : CV} {K : HP → Bool} (h : storeK real T hp t a x K = true) : ∃ hp', storeC T ⟨env, n, hp, c⟩ t a x = some hp' ∧ K hp' = true := by
  rw [storeC_hp]
  unfold storeK at h
  split at h
  · rename_i hs hag
    have h : storeSK hp a x K = true := h
    unfold storeSK at h
    rcases onPtr_out h with ⟨n', off, rfl, h1⟩ | h1
    · obtain ⟨s, h2, h3⟩ := modK_out h1
      obtain ⟨k, tr, d, m, op, rfl, h4⟩ := onSeg_out h3
      rcases ifB_out h4 with ⟨h5, h6⟩ | ⟨_, h6⟩
      · obtain ⟨h7, h8⟩ := fitsF_out h6
        have e : segC ⟨[], 0, hp, 0⟩ n' = .seg k tr d m op := by unfold segC AL.getD; simp only [h2]
        have h5' : Nat.blt off m = true := h5
        rw [Trie.setG_eq] at h8
        refine ⟨_, ?_, h8⟩
        have hne : ∀ cs, x ≠ .agg cs := fun cs e => by subst e; cases k <;> simp [fitsK, isOneC] at h7
        have h1b : Nat.beq 1 1 = true := rfl
        cases x <;> first | exact absurd rfl (hne _) | (simp only [storeC, e, hs, h1b, h5', h7, Bool.and_self, forceV_eq, Trie.force_eq])
      · cases h6
    · cases h1
  · have h : storeAK (storeC T ⟨[], 0, hp, 0⟩ t a x) K = true := h
    unfold storeAK at h
    split at h
    · rename_i hp' hs; exact ⟨hp', hs, h⟩
    · cases h

noncomputable def idxK (Q : Prim) (T : List (Nat × TyI)) (t : Nat) (x i : CV) (K : CV → Bool) : Bool :=
  match elemSz T t with
  | some sz => Q.idxSK sz x i K
  | none => match tyAt T t with
    | some ti => (match ti.d with
      | .array len e => (match sizeAt T e with | some sz => Q.idxAK sz len x i K | none => false)
      | _ => false)
    | none => false
theorem idxK_out {i : CV} (h : idxK real T t x i K = true) : ∃ z, idxC T t x i = some z ∧ K z = true := by
  unfold idxK at h
  split at h
  · rename_i sz hsz
    have h : idxSK sz x i K = true := h
    unfold idxSK at h
    rcases onInt_out h with ⟨k, i, rfl, h1⟩ | h1
    · rcases onNat_out h1 with ⟨i, rfl, h2⟩ | h2
      · rcases onRow_out h2 with ⟨n, o, l, q, hx, h3⟩ | h3
        · unfold ptrK at h3
          rcases ifB_out h3 with ⟨h4, h5⟩ | ⟨_, h5⟩
          · rw [forceF_eq] at h5
            have h4' : Nat.blt i l = true := h4
            rcases hx with rfl | rfl
            · exact ⟨_, by simp only [idxC, hsz, h4']; rfl, h5⟩
            · exact ⟨_, by simp only [idxC, hsz, h4']; rfl, h5⟩
          · cases h5
        · cases h3
      · cases h2
    · cases h1
  · rename_i hn
    split at h
    · rename_i ti hti
      split at h
      · rename_i len e hd
        split at h
        · rename_i sz hsz
          have h : idxAK sz len x i K = true := h
          unfold idxAK at h
          rcases onInt_out h with ⟨k, i, rfl, h1⟩ | h1
          · rcases onNat_out h1 with ⟨i, rfl, h2⟩ | h2
            · rcases onPtr_out h2 with ⟨n, o, rfl, h3⟩ | h3
              · unfold ptrK at h3
                rcases ifB_out h3 with ⟨h4, h5⟩ | ⟨_, h5⟩
                · rw [forceF_eq] at h5
                  have h4' : Nat.blt i len = true := h4
                  exact ⟨_, by simp only [idxC, hti, hd, h4', hsz]; rfl, h5⟩
                · cases h5
              · cases h3
            · cases h2
          · cases h1
        · cases h
      · cases h
    · cases h

noncomputable def lenK (Q : Prim) (T : List (Nat × TyI)) (t : Nat) (x : CV) (K : CV → Bool) : Bool :=
  match tyAt T t with
  | some i => (match i.d with
    | .slice _ => Q.lenF (lenC T t x) x K
    | _ => Q.genK (lenC T t x) K)
  | none => false
theorem lenK_out (h : lenK real T t x K = true) : ∃ z, lenC T t x = some z ∧ K z = true := by
  unfold lenK at h
  split at h
  · rename_i i hi
    split at h
    · rename_i e hd
      have h : lenF (lenC T t x) x K = true := h
      unfold lenF at h
      rcases onRow_out h with ⟨n, o, l, q, hx, h1⟩ | h1
      · rcases hx with rfl | rfl
        · exact ⟨_, by simp only [lenC, hi, hd], h1⟩
        · exact ⟨_, by simp only [lenC, hi, hd], h1⟩
      · exact genK_out h1
    · exact genK_out h
  · cases h

end mem
noncomputable def icvK (Q : Prim) (P : Program) (T : List (Nat × TyI)) (hp : HP) (src dst : Nat) (x : CV) (K : CV → Bool) : Bool :=
  match tyAt T src, tyAt T dst with
  | some i, some j => (match i.d, j.d with
    | .int _, .int k => Q.icvF k (convC P T ⟨[], 0, hp, 0⟩ src dst x) x K
    | _, _ => Q.genK (convC P T ⟨[], 0, hp, 0⟩ src dst x) K)
  | _, _ => false
theorem convC_hp {P : Program} {T : List (Nat × TyI)} (s : CSt) {src dst : Nat} {x : CV} : convC P T s src dst x = convC P T ⟨[], 0, s.hp, 0⟩ src dst x := rfl
theorem icvK_out {P : Program} {T : List (Nat × TyI)} {hp : HP} {src dst : Nat} {x : CV} {K : CV → Bool} (h : icvK real P T hp src dst x K = true) : ∃ z, convC P T ⟨[], 0, hp, 0⟩ src dst x = some z ∧ K z = true := by
  unfold icvK at h
  split at h
  · rename_i i j hi hj
    split at h
    · rename_i k1 k hid hjd
      have h : icvF k (convC P T ⟨[], 0, hp, 0⟩ src dst x) x K = true := h
      unfold icvF at h
      rcases onInt_out h with ⟨k', a, rfl, h1⟩ | h1
      · rcases onNat_out h1 with ⟨a, rfl, h2⟩ | h2
        · rcases ifB_out h2 with ⟨h3, h4⟩ | ⟨_, h4⟩
          · simp only [outN, forceF_eq] at h4
            exact ⟨_, by simp only [convC, icvC, hi, hj, hid, hjd, wrapF_nat h3], h4⟩
          · exact genK_out h4
        · exact genK_out h2
      · exact genK_out h1
    · exact genK_out h
  · cases h

noncomputable def unK (Q : Prim) (P : Program) (op : UnOp) (x : CV) (K : CV → Bool) : Bool :=
  match op with
  | .not => Q.notK (two P x (Op.unary .not)) x K
  | .neg => Q.negK (two P x (Op.unary .neg)) x K
  | op => Q.genK (two P x (Op.unary op)) K
theorem unK_out {P : Program} {op : UnOp} {x : CV} {K : CV → Bool} (h : unK real P op x K = true) : ∃ z, (match toV x with | some v => pureV P (Op.unary op v) | none => none) = some z ∧ K z = true := by
  unfold unK at h
  split at h
  · have h : notK (two P x (Op.unary .not)) x K = true := h
    unfold notK at h
    rcases onBool_out h with ⟨b, rfl, h1⟩ | h1
    · cases b
      · exact ⟨_, rfl, h1⟩
      · exact ⟨_, rfl, h1⟩
    · exact genK_out h1
  · exact negK_out h
  · exact genK_out h

end Go.Fw

namespace Go.Fw
open Go Go.RowKit

/- The parts of a literal, by their values. -/
def evpK (n : Nat) (env : List CV) : List (Nat × Operand) → (List (Nat × CV) → Bool) → Bool
  | [], K => K []
  | (i, x) :: r, K => evK n env x fun v => evpK n env r fun vs => K ((i, v) :: vs)
theorem evpK_eq (n : Nat) (env : List CV) (hp : HP) (c : Nat) : ∀ (ps : List (Nat × Operand)) (K : List (Nat × CV) → Bool), evpK n env ps K = K (ps.map fun p => (p.1, evalC ⟨env, n, hp, c⟩ p.2))
  | [], _ => rfl
  | (i, x) :: r, K => by simp only [evpK, evK_eq n env hp c, evpK_eq n env hp c r, List.map_cons]
def fillV (T : List (Nat × TyI)) (d : Ty) : List CV → List (Nat × CV) → Option (List CV)
  | zs, [] => some zs
  | zs, (i, x) :: r =>
    (match placeC T d i with
    | some (off, sz) => (match flatOk x, flat1 x with
      | true, cs => (match Nat.beq cs.length sz && Nat.ble (off + sz) zs.length with
        | true => fillV T d (overL zs off cs) r
        | false => none)
      | false, _ => none)
    | none => none)
theorem fillV_eq {T : List (Nat × TyI)} {s : CSt} {d : Ty} : ∀ (ps : List (Nat × Operand)) (zs : List CV), fillC T s d zs ps = fillV T d zs (ps.map fun p => (p.1, evalC s p.2))
  | [], _ => rfl
  | (i, x) :: r, zs => by
    simp only [fillC, fillV, List.map_cons, fillV_eq r]
    rfl
def buildV (T : List (Nat × TyI)) (t : Nat) (ps : List (Nat × CV)) : Option CV :=
  match tyAt T t with
  | some i => (match (match i.d with | .struct fs => allSized T fs | .array _ e => (match sizeAt T e with | some _ => true | none => false) | _ => false) with
    | true => (match fillV T i.d (i.zero.cells.toList.map cvS) ps with | some cs => some (.agg cs) | none => none)
    | false => none)
  | none => none
theorem buildV_eq {T : List (Nat × TyI)} {s : CSt} {t : Nat} (ps : List (Nat × Operand)) : buildC T s t ps = buildV T t (ps.map fun p => (p.1, evalC s p.2)) := by
  simp only [buildC, buildV, fillV_eq]
  rfl
def partsV (sz : Nat) : Nat → List (Nat × CV) → Option (List CV)
  | _, [] => some []
  | i, (j, x) :: r => (match Nat.beq i j, cellsOf x with
    | true, cs => (match Nat.beq cs.length sz, partsV sz (i + 1) r with
      | true, some l => some (cs ++ l)
      | _, _ => none)
    | false, _ => none)
theorem partsV_eq {s : CSt} {sz : Nat} : ∀ (ps : List (Nat × Operand)) (i : Nat), partsC s sz i ps = partsV sz i (ps.map fun p => (p.1, evalC s p.2))
  | [], _ => rfl
  | (j, x) :: r, i => by simp only [partsC, partsV, List.map_cons, partsV_eq r]; rfl
noncomputable def buildSliceV (T : List (Nat × TyI)) (s : CSt) (t len : Nat) (ps : List (Nat × CV)) : Option (CV × AL CSeg × Nat) :=
  match elemOfT T t with
  | some (_, j) => (match partsV j.size 0 ps with
    | some l => (match Nat.beq ps.length len && (Nat.blt 0 j.size && (Nat.ble (len * j.size) 16777216 && (Nat.beq j.zero.cells.size j.size && (allFitsK (kindTy j.d) l && allOneC l)))) with
      | true => pushC s (kindTy j.d) (setManyC .nil 0 l) [] (len * j.size) false (.slice s.c 0 len len)
      | false => none)
    | none => none)
  | none => none
theorem buildSliceV_eq {T : List (Nat × TyI)} {s : CSt} {t len : Nat} (ps : List (Nat × Operand)) : buildSliceC T s t len ps = buildSliceV T s t len (ps.map fun p => (p.1, evalC s p.2)) := by
  simp only [buildSliceC, buildSliceV, partsV_eq, List.length_map]
  rfl
def evoK (n : Nat) (env : List CV) (x : Option Operand) (K : Option CV → Bool) : Bool := match x with | none => K none | some x => evK n env x fun v => K (some v)
theorem evoK_eq (n : Nat) (env : List CV) (hp : HP) (c : Nat) (x : Option Operand) (K : Option CV → Bool) : evoK n env x K = K (x.map (evalC ⟨env, n, hp, c⟩)) := by
  cases x with
  | none => rfl
  | some x => simp only [evoK, evK_eq n env hp c, Option.map_some]
/-- An operation that makes, writes, calls or none of it: its value, and memory behind it. -/
noncomputable def opV (Q : Prim) (P : Program) (T : List (Nat × TyI)) (call : CallK) (n : Nat) (o : Oper) (env : List CV) (hp : HP) (c : Nat) (K : KV) : Bool :=
  match o.op with
  | .move x => evK n env x fun x => K x hp c
  | .assign x => evK n env x fun x => K x hp c
  | .pick a x y => evK n env a fun a => evK n env x fun x => evK n env y fun y => Q.pickK a x y fun z => K z hp c
  | .binOp op t x y _ => evK n env x fun xv => evK n env y fun yv => binK Q P op t x y xv yv fun z => K z hp c
  | .unOp op _ x => evK n env x fun x => unK Q P op x fun z => K z hp c
  | .convert src dst x => evK n env x fun x => icvK Q P T hp src dst x fun z => K z hp c
  | .extract x i => evK n env x fun x => Q.onTup x false fun l => Q.nthOK i l fun z => K z hp c
  | .load t x => evK n env x fun x => loadK Q T hp t x fun z => K z hp c
  | .indexAddr t x i => evK n env x fun x => evK n env i fun i => idxK Q T t x i fun z => K z hp c
  | .index t x i => evK n env x fun x => evK n env i fun i => Q.genK (two2 P x i (Instr.index t)) fun z => K z hp c
  | .slice t x lo hi mx => evK n env x fun x => evoK n env lo fun lo => evoK n env hi fun hi => evoK n env mx fun mx => Q.genK (sliceC T t x lo hi mx) fun z => K z hp c
  | .nilCheck x => evK n env x fun x => Q.nilcK x fun z => K z hp c
  | .makeFunc (.func f) first caps => (match first.toList with
    | [] => evsK n env caps.toList fun cs => K (.fn f cs) hp c
    | _ => false)
  | .field t x f => evK n env x fun x => Q.genK (fieldC T t x f) fun z => K z hp c
  | .build t ps => evpK n env ps.toList fun ps => Q.genK (buildV T t ps) fun z => K z hp c
  | .fieldAddr t x f => (match fieldAt? T t f with
    | some (o, e) => (match sizeAt T e with
      | some (_ + 1) => evK n env x fun x => Q.fadK o x fun z => K z hp c
      | _ => false)
    | none => false)
  | .store t a x => evK n env a fun a => evK n env x fun x => storeK Q T hp t a x fun hp => K (.tup []) hp c
  | .makeSlice t l m => evK n env l fun l => evK n env m fun m => Q.genM (makeC T ⟨[], 0, hp, c⟩ t l m) K
  | .alloc t => Q.genM (allocC T ⟨[], 0, hp, c⟩ t) K
  | .box _ x => evK n env x fun x => Q.genM (boxC ⟨[], 0, hp, c⟩ x) K
  | .buildSlice t len ps => evpK n env ps.toList fun ps => Q.genM (buildSliceV T ⟨[], 0, hp, c⟩ t len ps) K
  | .call cc => (match cc.callee with
    | .value (.func g) => evsK n env cc.args.toList fun as => call g as hp c K
    | .value f => evK n env f fun f => evsK n env cc.args.toList fun as => Q.onFn f false fun g caps => call g (as ++ caps) hp c K
    | .builtin b => (match b, cc.args.toList, cc.argTypes.toList with
      | .len, [x], [t] => evK n env x fun x => lenK Q T t x fun z => K z hp c
      | .real, [x], _ => evK n env x fun x => Q.genK (two P x fun v => Builtin.real_ cc.argTypes o.type #[v]) fun z => K z hp c
      | .imag, [x], _ => evK n env x fun x => Q.genK (two P x fun v => Builtin.imag_ cc.argTypes o.type #[v]) fun z => K z hp c
      | .complex, [x, y], _ => evK n env x fun x => evK n env y fun y => Q.genK (two2 P x y fun v u => Builtin.complex_ cc.argTypes o.type #[v, u]) fun z => K z hp c
      | .min, [x, y], _ => evK n env x fun x => evK n env y fun y => Q.genK (two2 P x y fun v u => Builtin.min_ cc.argTypes o.type #[v, u]) fun z => K z hp c
      | .max, [x, y], _ => evK n env x fun x => evK n env y fun y => Q.genK (two2 P x y fun v u => Builtin.max_ cc.argTypes o.type #[v, u]) fun z => K z hp c
      | .append, [x, y], [t, t2] => evK n env x fun x => evK n env y fun y => Q.appK T t t2 hp c x y K
      | .copy, [x, y], [t, _] => evK n env x fun x => evK n env y fun y => Q.cpyK T t hp c x y K
      | _, _, _ => false)
    | _ => false)
  | _ => false

/-- The same, of the run. -/
noncomputable def opCV (P : Program) (T : List (Nat × TyI)) (s : CSt) (o : Oper) : Option (CV × HP × Nat) :=
  match isEff (fun _ => false) o with
  | false => (match evC P T s o with | some x => some (x, s.hp, s.c) | none => none)
  | true =>
    (match o.op with
     | .store t ad x => (match storeC T s t (evalC s ad) (evalC s x) with | some hp => some (.tup [], hp, s.c) | none => none)
     | .makeSlice t l c => makeC T s t (evalC s l) (evalC s c)
     | .alloc t => allocC T s t
     | .box _ x => boxC s (evalC s x)
     | .buildSlice t len ps => buildSliceC T s t len ps.toList
     | .call c => (match c.callee, c.args.toList, c.argTypes.toList with
       | .builtin .append, [x, y], [t, t2] => (match appendNil (evalC s x) (evalC s y) with
         | some z => (match elemOfT T t, tyAt T t2 with
           | some _, some i => (match i.d with | .slice _ => some (z, s.hp, s.c) | _ => none)
           | _, _ => none)
         | none => appendC T s t t2 (evalC s x) (evalC s y))
       | .builtin .copy, [x, y], [t, _] => (match copyNil (evalC s x) (evalC s y), elemOfT T t with
         | true, some _ => some (.int .i64 (.ofNat 0), s.hp, s.c)
         | true, none => none
         | false, _ => (match copyCC T s t (evalC s x) (evalC s y) with
           | some (z, hp) => some (z, hp, s.c)
           | none => none))
       | _, _, _ => none)
     | _ => none)
theorem opC_of {P : Program} {T : List (Nat × TyI)} {s : CSt} {o : Oper} {x : CV} {hp : HP} {c : Nat} (h : opCV P T s o = some (x, hp, c)) : opC P T s o = stepK ⟨s.sl, s.n, hp, c⟩ o.dst x := by
  unfold opCV at h
  unfold opC
  split at h
  · rename_i he
    rw [he]
    simp only
    split at h
    · rename_i y hy
      cases h
      rw [hy]
    · cases h
  · rename_i he
    rw [he]
    simp only
    obtain ⟨dst, op, type, pos, after, guard⟩ := o
    cases op <;> simp only [reduceCtorEq] at h ⊢
    case store t a x =>
      split at h
      · rename_i hp' hs
        cases h
        rw [hs]
      · cases h
    case makeSlice t l c => rw [h]; rfl
    case alloc t => rw [h]; rfl
    case box t x => rw [h]; rfl
    case buildSlice t l ps => rw [h]; rfl
    case call cc =>
      split at h
      · rename_i x y t t2 h1 h2 h3
        split at h
        · rename_i z hz
          split at h
          · rename_i p i g1 g2
            split at h
            · rename_i e he2
              cases h
              simp only [h1, h2, h3, hz, g1, g2, he2]
            · cases h
          · cases h
        · rename_i hz
          simp only [h1, h2, h3, hz, h]
          rfl
      · rename_i x y t t2 h1 h2 h3
        split at h
        · rename_i p hn hel
          cases h
          simp only [h1, h2, h3, hn, hel]
        · cases h
        · rename_i hn
          split at h
          · rename_i z hp' hz
            cases h
            simp only [h1, h2, h3, hn, hz]
          · cases h
      · cases h

theorem opV_plain {P : Program} {T : List (Nat × TyI)} {call : CallK} {n : Nat} {o : Oper} {env : List CV} {hp : HP} {c : Nat} {K : KV} (hc : calleeOf o = none) (h : opV real P T call n o env hp c K = true) :
    ∃ x hp' c', opCV P T ⟨env, n, hp, c⟩ o = some (x, hp', c') ∧ K x hp' c' = true := by
  obtain ⟨dst, op, type, pos, after, guard⟩ := o
  have pl : ∀ {x : CV}, isEff (fun _ => false) ⟨dst, op, type, pos, after, guard⟩ = false → evC P T ⟨env, n, hp, c⟩ ⟨dst, op, type, pos, after, guard⟩ = some x → K x hp c = true →
      ∃ x hp' c', opCV P T ⟨env, n, hp, c⟩ ⟨dst, op, type, pos, after, guard⟩ = some (x, hp', c') ∧ K x hp' c' = true := fun he hx hk => ⟨_, _, _, by unfold opCV; rw [he]; simp only [hx], hk⟩
  unfold opV at h
  cases op <;> simp only [reduceCtorEq, evK_eq n env hp c, evsK_eq n env hp c, evpK_eq n env hp c, evoK_eq n env hp c] at h
  case move x => exact pl rfl rfl h
  case assign x => exact pl rfl rfl h
  case pick a x y =>
    have h : pickK (evalC ⟨env, n, hp, c⟩ a) (evalC ⟨env, n, hp, c⟩ x) (evalC ⟨env, n, hp, c⟩ y) (fun z => K z hp c) = true := h
    unfold pickK at h
    rcases onBool_out h with ⟨b, hb, h1⟩ | h1
    · cases b
      · exact pl rfl (by simp only [evC, hb]) h1
      · exact pl rfl (by simp only [evC, hb]) h1
    · cases h1
  case binOp op t x y yt =>
    obtain ⟨z, h1, h2⟩ := binK_out h
    exact pl rfl h1 h2
  case unOp op t x =>
    obtain ⟨z, h1, h2⟩ := unK_out h
    exact pl rfl h1 h2
  case convert src d x =>
    obtain ⟨z, h1, h2⟩ := icvK_out h
    exact pl rfl h1 h2
  case extract x i =>
    rcases onTup_out h with ⟨l, hl, h1⟩ | h1
    · obtain ⟨z, h2, h3⟩ := nthOK_out (K := fun z => K z hp c) h1
      exact pl rfl (by simp only [evC, hl]; exact h2) h3
    · cases h1
  case load t x =>
    obtain ⟨z, h1, h2⟩ := loadK_out (env := env) (n := n) (c := c) (K := fun z => K z hp c) h
    exact pl rfl h1 h2
  case indexAddr t x i =>
    obtain ⟨z, h1, h2⟩ := idxK_out (K := fun z => K z hp c) h
    exact pl rfl h1 h2
  case index t x i =>
    obtain ⟨z, h1, h2⟩ := genK_out h
    exact pl rfl h1 h2
  case slice t x lo hi mx =>
    obtain ⟨z, h1, h2⟩ := genK_out h
    exact pl rfl h1 h2
  case nilCheck x =>
    have h : nilcK (evalC ⟨env, n, hp, c⟩ x) (fun z => K z hp c) = true := h
    unfold nilcK at h
    rcases onPtr_out h with ⟨b, off, hb, h1⟩ | h1
    · exact pl rfl (by simp only [evC, hb]) h1
    · rcases onFn_out h1 with ⟨g, cs, hb, h2⟩ | h2
      · exact pl rfl (by simp only [evC, hb]) h2
      · cases h2
  case makeFunc fn first caps =>
    cases fn <;> simp only [reduceCtorEq] at h
    split at h
    · rename_i hf
      exact pl rfl (by simp only [evC, hf]) h
    · cases h
  case field t x f =>
    obtain ⟨z, h1, h2⟩ := genK_out h
    exact pl rfl h1 h2
  case build t ps =>
    obtain ⟨z, h1, h2⟩ := genK_out h
    exact pl rfl (by simp only [evC, buildV_eq]; exact h1) h2
  case fieldAddr t x f =>
    split at h
    · rename_i o e hf
      split at h
      · rename_i k hs
        have h : fadK o (evalC ⟨env, n, hp, c⟩ x) (fun z => K z hp c) = true := h
        unfold fadK at h
        rcases onPtr_out h with ⟨b, off, hb, h1⟩ | h1
        · rw [forceF_eq] at h1
          exact pl rfl (by simp only [evC, hb, hf, hs]; rfl) h1
        · cases h1
      · cases h
    · cases h
  case store t a x =>
    obtain ⟨hp', h1, h2⟩ := storeK_out (env := env) (n := n) (c := c) (K := fun hp => K (.tup []) hp c) h
    exact ⟨_, _, _, by unfold opCV; simp only [isEff, h1], h2⟩
  case makeSlice t l m =>
    obtain ⟨x, hp', c', h1, h2⟩ := genM_out h
    exact ⟨_, _, _, by unfold opCV; simp only [isEff]; exact h1, h2⟩
  case alloc t =>
    obtain ⟨x, hp', c', h1, h2⟩ := genM_out h
    exact ⟨_, _, _, by unfold opCV; simp only [isEff]; exact h1, h2⟩
  case box t x =>
    obtain ⟨x, hp', c', h1, h2⟩ := genM_out h
    exact ⟨_, _, _, by unfold opCV; simp only [isEff]; exact h1, h2⟩
  case buildSlice t len ps =>
    obtain ⟨x, hp', c', h1, h2⟩ := genM_out h
    exact ⟨_, _, _, by unfold opCV; simp only [isEff, buildSliceV_eq]; exact h1, h2⟩
  case call cc =>
    obtain ⟨callee, args, argTypes⟩ := cc
    cases callee with
    | value f => simp [calleeOf] at hc
    | invoke r m => simp only [reduceCtorEq] at h
    | builtin b =>
      simp only at h
      split at h
      case h_1 x t ha ht =>
        obtain ⟨z, h1, h2⟩ := lenK_out (K := fun z => K z hp c) h
        exact pl rfl (by simp only [evC, ha, ht]; exact h1) h2
      case h_2 x ha =>
        obtain ⟨z, h1, h2⟩ := genK_out h
        exact pl rfl (by simp only [evC, ha]; exact h1) h2
      case h_3 x ha =>
        obtain ⟨z, h1, h2⟩ := genK_out h
        exact pl rfl (by simp only [evC, ha]; exact h1) h2
      case h_4 x y ha =>
        obtain ⟨z, h1, h2⟩ := genK_out h
        exact pl rfl (by simp only [evC, ha]; exact h1) h2
      case h_5 x y ha =>
        obtain ⟨z, h1, h2⟩ := genK_out h
        exact pl rfl (by simp only [evC, ha]; exact h1) h2
      case h_6 x y ha =>
        obtain ⟨z, h1, h2⟩ := genK_out h
        exact pl rfl (by simp only [evC, ha]; exact h1) h2
      case h_7 x y t t2 ha ht =>
        have h : appK T t t2 hp c (evalC ⟨env, n, hp, c⟩ x) (evalC ⟨env, n, hp, c⟩ y) K = true := h
        unfold appK at h
        split at h
        · rename_i z hz
          split at h
          · rename_i p i h1 h2
            split at h
            · rename_i e he
              exact ⟨_, _, _, by unfold opCV; simp only [isEff, ha, ht, hz, h1, h2, he], h⟩
            · cases h
          · cases h
        · rename_i hz
          obtain ⟨x, hp', c', h1, h2⟩ := genM_out h
          exact ⟨_, _, _, by unfold opCV; simp only [isEff, ha, ht, hz]; exact h1, h2⟩
      case h_8 x y t t2 ha ht =>
        have h : cpyK T t hp c (evalC ⟨env, n, hp, c⟩ x) (evalC ⟨env, n, hp, c⟩ y) K = true := h
        unfold cpyK at h
        split at h
        · rename_i p hn hel
          exact ⟨_, _, _, by unfold opCV; simp only [isEff, ha, ht, hn, hel], h⟩
        · cases h
        · rename_i hn
          unfold copK at h
          split at h
          · rename_i z hp' hz
            rw [forceV_eq] at h
            refine ⟨_, _, _, ?_, h⟩
            unfold opCV
            simp only [isEff, ha, ht, hn]
            have hz' : copyCC T ⟨env, n, hp, c⟩ t (evalC ⟨env, n, hp, c⟩ x) (evalC ⟨env, n, hp, c⟩ y) = some (z, hp') := hz
            rw [hz']
          · cases h
      case h_9 => cases h
end Go.Fw

namespace Go.Fw
open Go Go.RowKit

def hdV (vs : List CV) : CV := match vs with | [] => .any | v :: _ => v
noncomputable def opsK (Q : Prim) (P : Program) (T : List (Nat × TyI)) (call : CallK) (n : Nat) (all : List Oper) : List Oper → List CV → HP → Nat → KS → Bool
  | [], env, hp, c, K => K env hp c
  | o :: rest, env, hp, c, K =>
    match o.guard with
    | none => opV Q P T call n o env hp c fun x hp c => putE n env o.dst x fun env => opsK Q P T call n all rest env hp c K
    | some (j, want) => (match guardDst all j with
      | some t => evK n env (.tmp t) fun g =>
        Q.share _ (curry 1 fun vs hp c => putE n env o.dst (hdV vs) fun env => opsK Q P T call n all rest env hp c K) fun F =>
        Q.guardK want g (opV Q P T call n o env hp c fun x hp c => app 1 F [x] hp c) (app 1 F [.tup []] hp c)
      | none => false)
/-- An operation that asks nothing of memory. -/
def blindS (o : Oper) : Bool :=
  match o.op with
  | .binOp .. | .unOp .. | .extract .. | .pick .. | .index .. | .indexAddr .. | .fieldAddr .. | .field .. | .nilCheck _ => o.guard.isNone
  | .call c => (match c.callee with
    | .builtin .len | .builtin .real | .builtin .imag | .builtin .complex | .builtin .min | .builtin .max => o.guard.isNone
    | _ => false)
  | _ => false
noncomputable def stillV (Q : Prim) (call : CallK) (n : Nat) (all : List Oper) (o : Oper) (env : List CV) (hp : HP) (c : Nat) (K : KS) : Bool :=
  match o.guard with
  | some (j, want) => (match guardDst all j with
    | some t => evK n env (.tmp t) fun g =>
      Q.share _ (curry 1 fun vs hp c => putE n env o.dst (hdV vs) fun env => K env hp c) fun F =>
      Q.guardK want g (match calleeOf o with
        | some (f, args) => (match f with
          | .func g => evsK n env args fun as => call g as hp c fun x _ _ => Q.knownK x (app 1 F [x] hp c)
          | _ => false)
        | none => false) (app 1 F [.tup []] hp c)
    | none => false)
  | none => (match calleeOf o with
    | some (f, args) => (match f with
      | .func g => evsK n env args fun as => call g as hp c fun x _ _ => Q.knownK x (putE n env o.dst x fun env => K env hp c)
      | _ => false)
    | none => false)
noncomputable def pickP (Q : Prim) (P : Program) (T : List (Nat × TyI)) (stl : FuncId → Bool) (call : CallK) (n : Nat) (all : List Oper) (o : Oper) (env : List CV) (hp : HP) (c : Nat) (K : KS) : Bool :=
  match isStill stl o with
  | true => stillV Q call n all o env hp c K
  | false => opsK Q P T call n all [o] env hp c K
noncomputable def planK (Q : Prim) (P : Program) (T : List (Nat × TyI)) (stl : FuncId → Bool) (call : CallK) (n : Nat) (all : List Oper) : PlanC → List CV → HP → Nat → KS → Bool
  | .done, env, hp, c, K => K env hp c
  | .fin, _, _, _, _ => true
  | .op k b r, env, hp, c, K => (match nthOp all k with
    | some o => (match b with
      | true => (match isMove o with
        | true => pickP Q P T stl call n all o env hp c fun env hp c => planK Q P T stl call n all r env hp c K
        | false => (match blindS o with
          | true => opV Q P T call n o env hp c fun x hp c => Q.detK x (putE n env o.dst x fun env => planK Q P T stl call n all r env hp c K)
          | false => false))
      | false => pickP Q P T stl call n all o env hp c fun env hp c => planK Q P T stl call n all r env hp c K)
    | none => false)
  | .alt k r p, env, hp, c, K => (match nthOp all k with
    | some o => Q.ifB (pickP Q P T stl call n all o env hp c fun env hp c => planK Q P T stl call n all r env hp c K) (planK Q P T stl call n all p env hp c K) false
    | none => false)

def selK (env : List CV) : List Nat → (List CV → Bool) → Bool
  | [], K => K []
  | t :: r, K => nthK env t fun v => selK env r fun vs => K (v :: vs)
theorem selK_eq (env : List CV) : ∀ (ws : List Nat) (K : List CV → Bool), selK env ws K = K (ws.map fun t => env.getD t (.tup []))
  | [], _ => rfl
  | t :: r, K => by simp only [selK, nthK_eq, selK_eq env r, List.map_cons]
def setsE : List Nat → List CV → List CV → (List CV → Bool) → Bool
  | t :: r, v :: vs, env, K => setE env t v fun env => setsE r vs env K
  | _, _, env, K => K env
def setsL : List Nat → List CV → List CV → List CV
  | t :: r, v :: vs, env => setsL r vs (env.set t v)
  | _, _, env => env
theorem setsE_eq : ∀ (ws : List Nat) (vs env : List CV) (K : List CV → Bool), setsE ws vs env K = K (setsL ws vs env)
  | t :: r, v :: vs, env, K => by simp only [setsE, setE_eq, setsE_eq r, setsL]
  | [], vs, env, K => by cases vs <;> rfl
  | t :: r, [], env, K => rfl
def anyE : List Nat → List CV → (List CV → Bool) → Bool
  | [], env, K => K env
  | t :: r, env, K => setE env t .any fun env => anyE r env K
theorem anyE_eq : ∀ (ws : List Nat) (env : List CV) (K : List CV → Bool), anyE ws env K = K (anyAt ws env)
  | [], _, _ => rfl
  | t :: r, env, K => by simp only [anyE, setE_eq, anyE_eq r, anyAt]
noncomputable def killK (Q : Prim) : List Nat → List CV → HP → (HP → Bool) → Bool
  | [], _, hp, K => K hp
  | t :: r, env, hp, K => nthK env t fun v => Q.killVK v hp fun hp => killK Q r env hp K
theorem killK_eq : ∀ (l : List Nat) (env : List CV) (hp : HP) (K : HP → Bool), killK real l env hp K = K (killH l env hp)
  | [], _, _, _ => rfl
  | t :: r, env, hp, K => by show nthK env t (fun v => killVK v hp fun hp => killK real r env hp K) = _; simp only [nthK_eq, killVK_eq, killK_eq r, killH]
def lookX : List (Nat × KS) → Nat → KS
  | [], _ => fun _ _ _ => false
  | (i, K) :: r, id => match Nat.beq i id with | true => K | false => lookX r id
noncomputable def loopN (k : Nat) (body : Fun k → List CV → HP → Nat → Bool) (fu : Nat) : Fun k :=
  @Nat.rec (fun _ => Fun k) (curry k fun _ _ _ => false) (fun _ ih => curry k (body ih)) fu

/-- A RUN OF CODE, written for the kernel. -/
noncomputable def exK (Q : Prim) (P : Program) (T : List (Nat × TyI)) (stl : FuncId → Bool) (A : Ann) (fu : Nat) (call : CallK) (n : Nat) (kr : KS) : Code → List (Nat × KS) → List CV → HP → Nat → KS → Bool
  | .skip, _, env, hp, c, K => K env hp c
  | .label _, _, env, hp, c, K => K env hp c
  | .region id ops _, _, env, hp, c, K => (match A.plan id with
    | none => opsK Q P T call n ops.toList ops.toList env hp c fun env hp c => killK Q (A.kr id) env hp fun hp => K env hp c
    | some p => planK Q P T stl call n ops.toList p env hp c fun env hp c => killK Q (A.kr id) env hp fun hp => K env hp c)
  | .seq a b, X, env, hp, c, K => (match A.wj (firstR b) with
    | none => exK Q P T stl A fu call n kr a X env hp c fun env hp c => exK Q P T stl A fu call n kr b X env hp c K
    | some ws => Q.share _ (curry ws.length fun vs hp c => anyE (wrC a) env fun e => setsE ws vs e fun e => exK Q P T stl A fu call n kr b X e hp c K) fun F =>
      exK Q P T stl A fu call n kr a X env hp c fun env hp c => selK env ws fun vs => app ws.length F vs hp c)
  | .cond x a b, X, env, hp, c, K => evK n env x fun v => Q.condK v (exK Q P T stl A fu call n kr a X env hp c K) (exK Q P T stl A fu call n kr b X env hp c K)
  | .block id b, X, env, hp, c, K => exK Q P T stl A fu call n kr b ((id, K) :: X) env hp c K
  | .loop b, X, env, hp, c, _ => selK env (A.wl (firstR b)) fun vs => app (A.wl (firstR b)).length (loopN (A.wl (firstR b)).length (fun again vs hp c => anyE (wrC b) env fun e => setsE (A.wl (firstR b)) vs e fun e =>
      exK Q P T stl A fu call n kr b X e hp c fun e hp c => selK e (A.wl (firstR b)) fun vs => app (A.wl (firstR b)).length again vs hp c) fu) vs hp c
  | .scope b, X, env, hp, c, K => exK Q P T stl A fu call n kr b X env hp c K
  | .exit id, X, env, hp, c, _ => lookX X id env hp c
  | .ret, _, env, hp, c, _ => kr env hp c
  | _, _, _, _, _, _ => false

/- What a function hands back. -/
noncomputable def resGo (Q : Prim) (T : List (Nat × TyI)) (n : Nat) (env : List CV) (hp : HP) : List ResultVar → (List CV → Bool) → Bool
  | [], K => K []
  | .tmp t :: r, K => evK n env (.tmp t) fun x => resGo Q T n env hp r fun l => K (x :: l)
  | .cell t ty :: r, K => evK n env (.tmp t) fun a => loadK Q T hp ty a fun x => resGo Q T n env hp r fun l => K (x :: l)
def tupV : List CV → CV
  | [x] => x
  | l => .tup l
/-- A FUNCTION'S RUN, written for the kernel. -/
noncomputable def fnK (Q : Prim) (P : Program) (T : List (Nat × TyI)) (stl : FuncId → Bool) (fu : Nat) (call : CallK) (e : Ent) (args : List CV) (hp : HP) (c : Nat) (K : KV) : Bool :=
  match Nat.ble args.length e.n with
  | true => exK Q P T stl e.ann fu call e.n (fun env hp c => resGo Q T e.n env hp e.rs fun l => killK Q e.ann.kf env hp fun hp => K (tupV l) hp c) e.code [] (padT e.n args) hp c (fun env hp c => resGo Q T e.n env hp e.rs fun l => killK Q e.ann.kf env hp fun hp => K (tupV l) hp c)
  | false => false
end Go.Fw

namespace Go.Fw
open Go Go.RowKit

/-- Nothing but these slots has been written. -/
def Fr (w : List Nat) (e e' : List CV) : Prop := e'.length = e.length ∧ ∀ t, t ∉ w → e'[t]? = e[t]?
theorem Fr.refl (w : List Nat) (e : List CV) : Fr w e e := ⟨rfl, fun _ _ => rfl⟩
theorem Fr.trans {w v : List Nat} {a b c : List CV} (h : Fr w a b) (h' : Fr v b c) : Fr (w ++ v) a c :=
  ⟨h'.1.trans h.1, fun t ht => by rw [h'.2 t (fun e => ht (by simp [e])), h.2 t (fun e => ht (by simp [e]))]⟩
theorem Fr.mono {w v : List Nat} {a b : List CV} (h : Fr w a b) (hv : ∀ t ∈ w, t ∈ v) : Fr v a b := ⟨h.1, fun t ht => h.2 t fun e => ht (hv t e)⟩
def dOf (d : Option Tmp) : List Nat := match d with | some t => [t] | none => []
def dstL (o : Oper) : List Nat := dOf o.dst
theorem opsW_cons (o : Oper) (r : List Oper) : opsW (o :: r) = dstL o ++ opsW r := by
  unfold dstL dOf; simp only [opsW]; cases o.dst <;> rfl

theorem putE_out {n : Nat} {env : List CV} {d : Option Tmp} {x : CV} {K : List CV → Bool} (h : putE n env d x K = true) :
    ∃ e', (∀ hp c, stepK ⟨env, n, hp, c⟩ d x = some ⟨e', n, hp, c⟩) ∧ Fr (dOf d) env e' ∧ K e' = true := by
  cases d with
  | none => exact ⟨env, fun _ _ => rfl, Fr.refl _ _, h⟩
  | some t =>
    simp only [putE] at h
    split at h
    · rename_i ht
      rw [setE_eq] at h
      refine ⟨env.set t x, (fun hp c => by simp only [stepK, ht, forceV_eq]), ⟨by simp, fun u hu => ?_⟩, h⟩
      rw [List.getElem?_set_ne]
      intro e; exact hu (by simp [dOf, e])
    · cases h

/-- From some depth on a run has one outcome; all its ways are such; sg: it has one way. -/
def Out {β : Type} (r : Nat → Option (List β)) (sg : Prop) (G : β → Prop) : Prop := ∃ N0 LL, (∀ N, N0 ≤ N → r N = some LL) ∧ (sg → ∃ p, LL = [p]) ∧ ∀ p ∈ LL, G p
theorem Out.mono {β : Type} {r : Nat → Option (List β)} {sg sg' : Prop} {G G' : β → Prop} (h : Out r sg G) (hs : sg' → sg) (hg : ∀ p, G p → G' p) : Out r sg' G' := by
  obtain ⟨N0, LL, h1, h2, h3⟩ := h
  exact ⟨N0, LL, h1, fun h => h2 (hs h), fun p hp => hg p (h3 p hp)⟩
theorem Out.one {β : Type} {sg : Prop} {G : β → Prop} {x : β} (hx : G x) : Out (fun _ => some [x]) sg G := ⟨0, [x], fun _ _ => rfl, fun _ => ⟨x, rfl⟩, fun p hp => by simp at hp; subst hp; exact hx⟩
theorem Out.congr {β : Type} {r r' : Nat → Option (List β)} {sg : Prop} {G : β → Prop} (h : Out r sg G) (k : Nat) (he : ∀ N, r' (N + k) = r N) : Out r' sg G := by
  obtain ⟨N0, LL, h1, h2, h3⟩ := h
  refine ⟨N0 + k, LL, fun N hN => ?_, h2, h3⟩
  obtain ⟨M, rfl⟩ : ∃ M, N = M + k := ⟨N - k, by omega⟩
  rw [he]
  exact h1 M (by omega)
theorem allL_out {α β : Type} {f : Nat → α → Option (List β)} {sg : Prop} {G : β → Prop} : ∀ l : List α, (∀ x ∈ l, Out (fun N => f N x) sg G) → Out (fun N => allL (f N) l) (sg ∧ ∃ x, l = [x]) G
  | [], _ => ⟨0, [], fun _ _ => rfl, (fun h => by obtain ⟨_, x, hx⟩ := h; cases hx), by simp⟩
  | [a], h => (h a (by simp)).mono (fun h => h.1) fun _ h => h
  | a :: b :: r, h => by
    obtain ⟨N0, L0, g1, _, g3⟩ := h a (by simp)
    obtain ⟨N1, L1, k1, _, k3⟩ := allL_out (b :: r) fun x hx => h x (by simp [hx])
    refine ⟨max N0 N1, L0 ++ L1, fun N hN => ?_, (fun h => by obtain ⟨_, x, hx⟩ := h; cases hx), fun p hp => ?_⟩
    · have e1 : f N a = some L0 := g1 N (by omega)
      have e2 : allL (f N) (b :: r) = some L1 := k1 N (by omega)
      show (match f N a with | some x => (match allL (f N) (b :: r) with | some y => some (x ++ y) | none => none) | none => none) = some (L0 ++ L1)
      rw [e1, e2]
    · rcases List.mem_append.1 hp with hp | hp
      · exact g3 p hp
      · exact k3 p hp
theorem bind_out {α β : Type} {r : Nat → Option (List α)} {f : Nat → α → Option (List β)} {sg : Prop} {G : β → Prop} (h : Out r sg fun x => Out (fun N => f N x) sg G) : Out (fun N => bindL (r N) (f N)) sg G := by
  obtain ⟨N0, l, h1, h2, h3⟩ := h
  obtain ⟨N1, L, g1, g2, g3⟩ := allL_out l h3
  refine ⟨max N0 N1, L, fun N hN => ?_, fun hs => g2 ⟨hs, h2 hs⟩, g3⟩
  simp only [bindL, h1 N (by omega)]
  exact g1 N (by omega)

section
variable {P : Program} {T : List (Nat × TyI)} {stl : FuncId → Bool} {F : FuncId → Option Ent}

/-- What is asked of a table of functions. -/
def CallSim (P : Program) (T : List (Nat × TyI)) (stl : FuncId → Bool) (F : FuncId → Option Ent) (call : CallK) : Prop := ∀ g args hp c K, call g args hp c K = true →
  Out (fun N => enterK P T F (execC P T stl F N) g args hp c) (stl g = true) fun p => K p.1 p.2.1 p.2.2 = true

variable {call : CallK} {n : Nat}

theorem stepL_out {env : List CV} {d : Option Tmp} {R : KS} : ∀ (l : List (CV × HP × Nat)), (∀ p ∈ l, putE n env d p.1 (fun env => R env p.2.1 p.2.2) = true) → ∀ (hp : HP) (c : Nat),
    ∃ L, stepL ⟨env, n, hp, c⟩ d l = some L ∧ ((∃ p, l = [p]) → ∃ s, L = [s]) ∧ ∀ s' ∈ L, s'.n = n ∧ Fr (dOf d) env s'.sl ∧ R s'.sl s'.hp s'.c = true
  | [], _, hp, c => ⟨[], rfl, (fun h => by obtain ⟨p, h⟩ := h; cases h), by simp⟩
  | (x, hp', c') :: r, h, hp, c => by
    obtain ⟨L, h1, _, h3⟩ := stepL_out r (fun p hp => h p (by simp [hp])) hp c
    obtain ⟨e', g1, g2, g3⟩ := putE_out (h (x, hp', c') (by simp))
    refine ⟨⟨e', n, hp', c'⟩ :: L, by simp only [stepL, g1, h1], fun hh => ?_, fun s' hs => ?_⟩
    · obtain ⟨p, hh⟩ := hh
      cases hh
      simp only [stepL, Option.some.injEq] at h1
      exact ⟨_, by rw [← h1]⟩
    · rcases List.mem_cons.1 hs with rfl | hs
      · exact ⟨rfl, g2, g3⟩
      · exact h3 s' hs

theorem isEff_call {o : Oper} {f : Operand} {args : List Operand} (h : calleeOf o = some (f, args)) : isEff (fun _ => false) o = true := by
  obtain ⟨dst, op, type, pos, after, guard⟩ := o
  cases op <;> simp [calleeOf] at h
  rename_i cc
  obtain ⟨callee, as, ts⟩ := cc
  cases callee <;> simp at h
  rename_i v
  cases v <;> simp [isEff]

theorem opV_out (hcall : CallSim P T stl F call) {o : Oper} {env : List CV} {hp : HP} {c : Nat} {R : KS} (h : opV real P T call n o env hp c (fun x hp c => putE n env o.dst x fun env => R env hp c) = true) :
    Out (fun N => opL P T (enterK P T F (execC P T stl F N)) ⟨env, n, hp, c⟩ o) (plainC stl o = true) fun s' : CSt => s'.n = n ∧ Fr (dstL o) env s'.sl ∧ R s'.sl s'.hp s'.c = true := by
  cases hc : calleeOf o with
  | none =>
    obtain ⟨x, hp', c', h1, h2⟩ := opV_plain hc h
    obtain ⟨e', g1, g2, g3⟩ := putE_out h2
    have e := opC_of h1
    simp only [g1] at e
    refine (Out.one (sg := plainC stl o = true) (G := fun s' : CSt => s'.n = n ∧ Fr (dstL o) env s'.sl ∧ R s'.sl s'.hp s'.c = true) (x := (⟨e', n, hp', c'⟩ : CSt)) ⟨rfl, g2, g3⟩).congr 0 fun N => ?_
    simp only [opL, hc, e]
  | some p =>
    obtain ⟨f, args⟩ := p
    have hval : ∃ cc, o.op = .call cc ∧ cc.callee = .value f ∧ cc.args.toList = args := by
      obtain ⟨dst, op, type, pos, after, guard⟩ := o
      cases op <;> simp [calleeOf] at hc
      rename_i cc
      refine ⟨cc, rfl, ?_⟩
      obtain ⟨callee, as, ts⟩ := cc
      cases callee <;> simp at hc
      exact ⟨by simp [hc.1], by simp [hc.2]⟩
    obtain ⟨cc, ho, hcal, hargs⟩ := hval
    have key : ∃ g caps, evalC ⟨env, n, hp, c⟩ f = .fn g caps ∧ call g (args.map (evalC ⟨env, n, hp, c⟩) ++ caps) hp c (fun x hp c => putE n env o.dst x fun env => R env hp c) = true := by
      unfold opV at h
      simp only [ho, hcal] at h
      cases f with
      | func g =>
        simp only [evsK_eq n env hp c, hargs] at h
        exact ⟨g, [], rfl, by rw [List.append_nil]; exact h⟩
      | tmp t =>
        simp only [evK_eq n env hp c, evsK_eq n env hp c, hargs] at h
        rcases onFn_out h with ⟨g, caps, hf, h1⟩ | h1
        · exact ⟨g, caps, hf, h1⟩
        · cases h1
      | const v =>
        simp only [evK_eq n env hp c, evsK_eq n env hp c, hargs] at h
        rcases onFn_out h with ⟨g, caps, hf, h1⟩ | h1
        · exact ⟨g, caps, hf, h1⟩
        · cases h1
      | global v =>
        simp only [evK_eq n env hp c, evsK_eq n env hp c, hargs] at h
        have h : false = true := h
        cases h
    obtain ⟨g, caps, hf, h1⟩ := key
    obtain ⟨N0, l, k1, k2, k3⟩ := hcall g _ hp c _ h1
    obtain ⟨L, m1, m2, m3⟩ := stepL_out (n := n) (env := env) (d := o.dst) (R := R) l k3 hp c
    refine ⟨N0, L, fun N hN => ?_, fun hs => ?_, m3⟩
    · simp only [opL, hc, callL, hf, k1 N hN, m1]
    · rcases plain_cases hs with h0 | h0
      · rw [isEff_call hc] at h0; cases h0
      · obtain ⟨g', args', hc', hst⟩ := isStill_out h0
        rw [hc] at hc'
        cases hc'
        simp only [evalC, CV.fn.injEq] at hf
        rw [hf.1] at hst
        exact m2 (k2 hst)

theorem guardK_out {w : Bool} {g : CV} {A B : Bool} (h : guardK w g A B = true) : (g = .bool w ∧ A = true) ∨ ((g = .bool (!w) ∨ g = .tup []) ∧ B = true) := by
  have hu : ∀ {B : Bool}, undK g B = true → g = .tup [] ∧ B = true := fun h => by
    rcases onTup_out h with ⟨l, rfl, h1⟩ | h1
    · cases l with
      | nil => exact ⟨rfl, h1⟩
      | cons a r => cases h1
    · cases h1
  cases w with
  | true =>
    rcases onBool_out h with ⟨b, rfl, h1⟩ | h1
    · rcases ifB_out h1 with ⟨rfl, h2⟩ | ⟨rfl, h2⟩
      · exact .inl ⟨rfl, h2⟩
      · exact .inr ⟨.inl rfl, h2⟩
    · exact .inr ⟨.inr (hu h1).1, (hu h1).2⟩
  | false =>
    rcases onBool_out h with ⟨b, rfl, h1⟩ | h1
    · rcases ifB_out h1 with ⟨rfl, h2⟩ | ⟨rfl, h2⟩
      · exact .inr ⟨.inl rfl, h2⟩
      · exact .inl ⟨rfl, h2⟩
    · exact .inr ⟨.inr (hu h1).1, (hu h1).2⟩

theorem opsK_out (hcall : CallSim P T stl F call) {all : List Oper} {K : KS} : ∀ (l : List Oper) (env : List CV) (hp : HP) (c : Nat), opsK real P T call n all l env hp c K = true →
    Out (fun N => opsL P T (enterK P T F (execC P T stl F N)) all l ⟨env, n, hp, c⟩) (l.all (plainC stl) = true) fun s' => s'.n = n ∧ Fr (opsW l) env s'.sl ∧ K s'.sl s'.hp s'.c = true
  | [], env, hp, c, h => (Out.one (x := (⟨env, n, hp, c⟩ : CSt)) ⟨rfl, Fr.refl _ _, h⟩).congr 0 fun N => rfl
  | o :: rest, env, hp, c, h => by
    have step : ∀ {env1 : List CV} {hp1 : HP} {c1 : Nat}, Fr (dstL o) env env1 → opsK real P T call n all rest env1 hp1 c1 K = true →
        Out (fun N => opsL P T (enterK P T F (execC P T stl F N)) all rest ⟨env1, n, hp1, c1⟩) ((o :: rest).all (plainC stl) = true) fun s' => s'.n = n ∧ Fr (opsW (o :: rest)) env s'.sl ∧ K s'.sl s'.hp s'.c = true := fun hf hk =>
      (opsK_out hcall rest _ _ _ hk).mono (fun hs => by simp only [List.all_cons, Bool.and_eq_true] at hs; exact hs.2) fun p ⟨h1, h2, h3⟩ => ⟨h1, by rw [opsW_cons]; exact hf.trans h2, h3⟩
    have run : opV real P T call n o env hp c (fun x hp c => putE n env o.dst x fun env => opsK real P T call n all rest env hp c K) = true →
        Out (fun N => bindL (opL P T (enterK P T F (execC P T stl F N)) ⟨env, n, hp, c⟩ o) (opsL P T (enterK P T F (execC P T stl F N)) all rest)) ((o :: rest).all (plainC stl) = true) fun s' => s'.n = n ∧ Fr (opsW (o :: rest)) env s'.sl ∧ K s'.sl s'.hp s'.c = true := fun hh =>
      bind_out ((opV_out hcall hh).mono (fun hs => by simp only [List.all_cons, Bool.and_eq_true] at hs; exact hs.1) fun s' ⟨h1, h2, h3⟩ => by
        obtain ⟨sl, n', hp', c'⟩ := s'
        simp only at h1
        subst h1
        exact step h2 h3)
    unfold opsK at h
    split at h
    · rename_i hg
      exact (run h).congr 0 fun N => by simp only [opsL, hg]; rfl
    · rename_i j want hg
      split at h
      · rename_i t ht
        rw [evK_eq n env hp c] at h
        simp only [app, curry, hdV] at h
        have skip : putE n env o.dst (.tup []) (fun env => opsK real P T call n all rest env hp c K) = true →
            Out (fun N => bindL (oneL (stepK ⟨env, n, hp, c⟩ o.dst (.tup []))) (opsL P T (enterK P T F (execC P T stl F N)) all rest)) ((o :: rest).all (plainC stl) = true) fun s' => s'.n = n ∧ Fr (opsW (o :: rest)) env s'.sl ∧ K s'.sl s'.hp s'.c = true := fun hh => by
          obtain ⟨e', g1, g2, g3⟩ := putE_out hh
          exact (step g2 g3).congr 0 fun N => by simp only [g1, oneL, bindL, allL]; rfl
        rcases guardK_out h with ⟨hb, h1⟩ | ⟨hb | hb, h1⟩
        · exact (run h1).congr 0 fun N => by simp only [opsL, hg, ht, hb]; cases want <;> rfl
        · exact (skip h1).congr 0 fun N => by simp only [opsL, hg, ht, hb]; cases want <;> rfl
        · exact (skip h1).congr 0 fun N => by simp only [opsL, hg, ht, hb]; rfl
      · cases h
end
end Go.Fw

namespace Go.Fw
open Go Go.RowKit
section
variable {P : Program} {T : List (Nat × TyI)} {stl : FuncId → Bool} {F : FuncId → Option Ent} {call : CallK} {n : Nat}

theorem blindS_same {o : Oper} (h : blindS o = true) (env : List CV) (hp : HP) (c : Nat) : evC P T ⟨env, n, .nil, c⟩ o = evC P T ⟨env, n, hp, c⟩ o ∧ o.guard = none ∧ calleeOf o = none ∧ isEff (fun _ => false) o = false := by
  obtain ⟨dst, op, type, pos, after, guard⟩ := o
  cases op <;> simp only [blindS, reduceCtorEq] at h
  case call cc =>
    obtain ⟨callee, args, ts⟩ := cc
    cases callee with
    | value f => simp at h
    | invoke r m => simp at h
    | builtin b => cases b <;> first | (simp at h; done) | (refine ⟨rfl, ?_, rfl, rfl⟩; simpa using h)
  all_goals (refine ⟨rfl, ?_, rfl, rfl⟩; simpa using h)

theorem pickP_out (hcall : CallSim P T stl F call) {all : List Oper} {K : KS} {o : Oper} {env : List CV} {hp : HP} {c : Nat} (h : pickP real P T stl call n all o env hp c K = true) :
    Out (fun N => pickL P T stl (enterK P T F (execC P T stl F N)) all o ⟨env, n, hp, c⟩) False fun s' : CSt => s'.n = n ∧ Fr (dstL o) env s'.sl ∧ K s'.sl s'.hp s'.c = true := by
  unfold pickP at h
  split at h
  · rename_i hst
    have skip : ∀ {N0 : Nat}, putE n env o.dst (.tup []) (fun env => K env hp c) = true → (∀ N, N0 ≤ N → stillG stl (enterK P T F (execC P T stl F N)) all ⟨env, n, hp, c⟩ o = stepK ⟨env, n, hp, c⟩ o.dst (.tup [])) →
        Out (fun N => pickL P T stl (enterK P T F (execC P T stl F N)) all o ⟨env, n, hp, c⟩) False fun s' : CSt => s'.n = n ∧ Fr (dstL o) env s'.sl ∧ K s'.sl s'.hp s'.c = true := fun {N0} hk hs => by
      obtain ⟨e', g1, g2, g3⟩ := putE_out hk
      refine ⟨N0, [⟨e', n, hp, c⟩], fun N hN => ?_, False.elim, fun s' hs' => ?_⟩
      · simp only [pickL, hst, hs N hN, g1, oneL]
      · simp at hs'; subst hs'
        exact ⟨rfl, g2, g3⟩
    have run : ∀ {K1 : CV → Bool}, (∀ x, K1 x = true → putE n env o.dst x (fun env => K env hp c) = true) → (match calleeOf o with
        | some (f, args) => (match f with
          | .func g => evsK n env args fun as => call g as hp c fun x _ _ => real.knownK x (K1 x)
          | _ => false)
        | none => false) = true → (∀ N, stillG stl (enterK P T F (execC P T stl F N)) all ⟨env, n, hp, c⟩ o = stillL stl (enterK P T F (execC P T stl F N)) ⟨env, n, hp, c⟩ o) →
        Out (fun N => pickL P T stl (enterK P T F (execC P T stl F N)) all o ⟨env, n, hp, c⟩) False fun s' : CSt => s'.n = n ∧ Fr (dstL o) env s'.sl ∧ K s'.sl s'.hp s'.c = true := fun {K1} hK1 h hs => by
      split at h
      · rename_i f args hc
        split at h
        · rename_i g
          rw [evsK_eq n env hp c] at h
          have hs1 : stl g = true := by simpa [isStill, hc] using hst
          obtain ⟨N0, l, k1, k2, k3⟩ := hcall g _ hp c _ h
          obtain ⟨p, rfl⟩ := k2 hs1
          obtain ⟨x, hp', c'⟩ := p
          obtain ⟨⟨v, hv⟩, h2⟩ := knownK_out (k3 (x, hp', c') (List.mem_singleton.2 rfl))
          obtain ⟨e', g1, g2, g3⟩ := putE_out (hK1 x h2)
          refine ⟨N0, [⟨e', n, hp, c⟩], fun N hN => ?_, False.elim, fun s' hs' => ?_⟩
          · have k1' := k1 N hN
            simp only at k1'
            simp only [pickL, hst, hs N, stillL, hc, hs1, k1', hv, g1, oneL]
          · simp at hs'; subst hs'
            exact ⟨rfl, g2, g3⟩
        · cases h
      · cases h
    unfold stillV at h
    split at h
    · rename_i j want hg
      split at h
      · rename_i t ht
        rw [evK_eq n env hp c] at h
        rcases guardK_out h with ⟨hb, h1⟩ | ⟨hb | hb, h1⟩
        · exact run (K1 := fun x => putE n env o.dst x fun env => K env hp c) (fun x hx => hx) h1 fun N => by simp only [stillG, hg, ht, hb]; cases want <;> rfl
        · exact skip (N0 := 0) h1 fun N _ => by simp only [stillG, hg, ht, hb]; cases want <;> rfl
        · exact skip (N0 := 0) h1 fun N _ => by simp only [stillG, hg, ht, hb]; cases want <;> rfl
      · cases h
    · rename_i hg
      exact run (K1 := fun x => putE n env o.dst x fun env => K env hp c) (fun x hx => hx) h fun N => by simp only [stillG, hg]
  · rename_i hst
    refine ((opsK_out hcall [o] env hp c h).mono False.elim fun s' hs => ?_).congr 0 fun N => by simp only [pickL, hst]; rfl
    obtain ⟨h1, h2, h3⟩ := hs
    exact ⟨h1, by rw [opsW_cons] at h2; simpa [opsW] using h2, h3⟩

/-- The slots that a plan's operations write. -/
theorem nth_dst {all : List Oper} {k : Nat} {o : Oper} (h : nthOp all k = some o) : ∀ t ∈ dstL o, t ∈ opsW all := by
  induction all generalizing k with
  | nil => simp [nthOp] at h
  | cons a r ih =>
    intro t ht
    rw [opsW_cons]
    cases k with
    | zero => simp only [nthOp, Option.some.injEq] at h; subst h; simp [ht]
    | succ k => simp only [nthOp] at h; simp [ih h t ht]
theorem Fr.cat {w : List Nat} {a b c : List CV} (h : Fr w a b) (h' : Fr w b c) : Fr w a c := (h.trans h').mono fun t ht => by simpa using ht

theorem planK_out (hcall : CallSim P T stl F call) {all : List Oper} {K : KS} : ∀ (p : PlanC) (env : List CV) (hp : HP) (c : Nat), planK real P T stl call n all p env hp c K = true →
    Out (fun N => planL P T stl (enterK P T F (execC P T stl F N)) all p ⟨env, n, hp, c⟩) False fun s' : CSt => s'.n = n ∧ Fr (opsW all) env s'.sl ∧ K s'.sl s'.hp s'.c = true
  | .done, env, hp, c, h => (Out.one (x := (⟨env, n, hp, c⟩ : CSt)) ⟨rfl, Fr.refl _ _, h⟩).congr 0 fun N => rfl
  | .fin, env, hp, c, h => ⟨0, [], fun _ _ => rfl, False.elim, by simp⟩
  | .op k b r, env, hp, c, h => by
    have step : ∀ {env1 : List CV} {hp1 : HP} {c1 : Nat}, Fr (opsW all) env env1 → planK real P T stl call n all r env1 hp1 c1 K = true →
        Out (fun N => planL P T stl (enterK P T F (execC P T stl F N)) all r ⟨env1, n, hp1, c1⟩) False fun s' : CSt => s'.n = n ∧ Fr (opsW all) env s'.sl ∧ K s'.sl s'.hp s'.c = true := fun hf hk =>
      (planK_out hcall r _ _ _ hk).mono id fun p ⟨h1, h2, h3⟩ => ⟨h1, hf.cat h2, h3⟩
    unfold planK at h
    split at h
    · rename_i o ho
      have pick : pickP real P T stl call n all o env hp c (fun env hp c => planK real P T stl call n all r env hp c K) = true →
          Out (fun N => bindL (pickL P T stl (enterK P T F (execC P T stl F N)) all o ⟨env, n, hp, c⟩) (planL P T stl (enterK P T F (execC P T stl F N)) all r)) False fun s' : CSt => s'.n = n ∧ Fr (opsW all) env s'.sl ∧ K s'.sl s'.hp s'.c = true := fun hh =>
        bind_out ((pickP_out hcall hh).mono id fun s' ⟨h1, h2, h3⟩ => by
          obtain ⟨sl, n', hp', c'⟩ := s'
          simp only at h1
          subst h1
          exact step (h2.mono (nth_dst ho)) h3)
      split at h
      · split at h
        · rename_i hm
          exact (pick h).congr 0 fun N => by simp only [planL, ho, blindC, hm]; rfl
        · rename_i hm
          split at h
          · rename_i hb
            obtain ⟨e1, e2, e3, e4⟩ := blindS_same (P := P) (T := T) (n := n) hb env hp c
            obtain ⟨x, hp', c', h1, h2⟩ := opV_plain e3 h
            obtain ⟨hd, h3⟩ := detK_out h2
            have hev : evC P T ⟨env, n, hp, c⟩ o = some x ∧ hp' = hp ∧ c' = c := by
              unfold opCV at h1
              rw [e4] at h1
              simp only at h1
              split at h1
              · rename_i y hy; cases h1; exact ⟨hy, rfl, rfl⟩
              · cases h1
            obtain ⟨hev, rfl, rfl⟩ := hev
            have hbl : blindC P T ⟨env, n, hp', c'⟩ o = true := by
              simp only [blindC, hm, e2]
              have : evC P T ⟨env, n, .nil, c'⟩ o = some x := e1.trans hev
              rw [this]
              exact hd
            obtain ⟨e', g1, g2, g3⟩ := putE_out h3
            have hns : isStill stl o = false := by unfold isStill; rw [e3]
            have hpl := opC_of h1
            simp only [g1] at hpl
            refine (step (g2.mono (nth_dst ho)) g3).congr 0 fun N => ?_
            simp only [planL, ho, hbl, pickL, hns, opsL, e2, opL, e3, hpl, bindL, allL]
            rfl
          · cases h
      · exact (pick h).congr 0 fun N => by simp only [planL, ho]; rfl
    · cases h
  | .alt k r p, env, hp, c, h => by
    have step : ∀ {env1 : List CV} {hp1 : HP} {c1 : Nat}, Fr (opsW all) env env1 → planK real P T stl call n all r env1 hp1 c1 K = true →
        Out (fun N => planL P T stl (enterK P T F (execC P T stl F N)) all r ⟨env1, n, hp1, c1⟩) False fun s' : CSt => s'.n = n ∧ Fr (opsW all) env s'.sl ∧ K s'.sl s'.hp s'.c = true := fun hf hk =>
      (planK_out hcall r _ _ _ hk).mono id fun p ⟨h1, h2, h3⟩ => ⟨h1, hf.cat h2, h3⟩
    unfold planK at h
    split at h
    · rename_i o ho
      rcases ifB_out h with ⟨h1, h2⟩ | ⟨_, h2⟩
      · have a1 : Out (fun N => bindL (pickL P T stl (enterK P T F (execC P T stl F N)) all o ⟨env, n, hp, c⟩) (planL P T stl (enterK P T F (execC P T stl F N)) all r)) False fun s' : CSt => s'.n = n ∧ Fr (opsW all) env s'.sl ∧ K s'.sl s'.hp s'.c = true :=
          bind_out ((pickP_out hcall h1).mono id fun s' ⟨q1, q2, q3⟩ => by
            obtain ⟨sl, n', hp', c'⟩ := s'
            simp only at q1
            subst q1
            exact step (q2.mono (nth_dst ho)) q3)
        obtain ⟨N0, L0, g1, _, g3⟩ := a1
        obtain ⟨N1, L1, k1, _, k3⟩ := planK_out hcall p _ _ _ h2
        refine ⟨max N0 N1, L0 ++ L1, fun N hN => ?_, False.elim, fun q hq => ?_⟩
        · have e1 := g1 N (by omega)
          have e2 := k1 N (by omega)
          simp only at e1 e2
          simp only [planL, ho, e1, e2]
        · rcases List.mem_append.1 hq with hq | hq
          · exact g3 q hq
          · exact k3 q hq
      · cases h2
    · cases h
end
end Go.Fw

namespace Go.Fw
open Go Go.RowKit
section
variable {P : Program} {T : List (Nat × TyI)} {stl : FuncId → Bool} {F : FuncId → Option Ent} {call : CallK} {n : Nat}

/-- How a way ends, and what is asked then. -/
def KxOk (X : List (Nat × KS)) (K kr : KS) (p : CE × CSt) : Prop :=
  match p.1 with
  | .normal => K p.2.sl p.2.hp p.2.c = true
  | .exit id => lookX X id p.2.sl p.2.hp p.2.c = true
  | .ret => kr p.2.sl p.2.hp p.2.c = true
def Post (X : List (Nat × KS)) (K kr : KS) (n : Nat) (w : List Nat) (env : List CV) (p : CE × CSt) : Prop := p.2.n = n ∧ Fr w env p.2.sl ∧ KxOk X K kr p

theorem getD_of_get? {e e' : List CV} {t : Nat} (h : e'[t]? = e[t]?) (d : CV) : e'.getD t d = e.getD t d := by simp [List.getD_eq_getElem?_getD, h]
theorem anyAt_get? : ∀ (l : List Nat) (sl : List CV) (t : Nat), (anyAt l sl)[t]? = if t ∈ l ∧ t < sl.length then some .any else sl[t]?
  | [], sl, t => by simp [anyAt]
  | u :: r, sl, t => by
    rw [anyAt, anyAt_get? r, List.getElem?_set, List.length_set]
    by_cases h1 : t ∈ r ∧ t < sl.length
    · rw [if_pos h1, if_pos ⟨by simp [h1.1], h1.2⟩]
    · rw [if_neg h1]
      by_cases h2 : u = t
      · subst h2
        rw [if_pos rfl]
        by_cases h3 : u < sl.length
        · rw [if_pos h3, if_pos ⟨by simp, h3⟩]
        · rw [if_neg h3, if_neg (fun h => h3 h.2), List.getElem?_eq_none (Nat.le_of_not_lt h3)]
      · rw [if_neg h2, if_neg]
        intro h
        rcases List.mem_cons.1 h.1 with e | e
        · exact h2 e.symm
        · exact h1 ⟨e, h.2⟩
theorem setsL_len : ∀ (ws : List Nat) (vs env : List CV), (setsL ws vs env).length = env.length
  | t :: r, v :: vs, env => by simp [setsL, setsL_len r]
  | [], vs, env => by cases vs <;> rfl
  | t :: r, [], env => rfl
/-- The carried slots laid again over a row are the row, where it agrees. -/
theorem setsL_get? {e : List CV} : ∀ (ws : List Nat) (b : List CV) (t : Nat), b.length = e.length → (t ∉ ws → b[t]? = e[t]?) → (setsL ws (ws.map fun t => e.getD t (.tup [])) b)[t]? = e[t]?
  | [], b, t, _, h => by simpa [setsL] using h
  | u :: r, b, t, hl, h => by
    simp only [setsL, List.map_cons]
    refine setsL_get? r _ t (by simp [hl]) fun ht => ?_
    rw [List.getElem?_set]
    by_cases hu : u = t
    · subst hu
      rw [if_pos rfl]
      by_cases h3 : u < e.length
      · rw [if_pos (by omega)]; simp [List.getD_eq_getElem?_getD, List.getElem?_eq_getElem h3]
      · rw [if_neg (by omega), List.getElem?_eq_none (Nat.le_of_not_lt h3)]
    · rw [if_neg hu]
      exact h (by simp [ht]; exact fun e => hu e.symm)
theorem ext_get? {a b : List CV} (h : ∀ t : Nat, a[t]? = b[t]?) : a = b := List.ext_getElem? h
/-- What is known behind a place where ways meet. -/
theorem join_eq {w ws : List Nat} {env e' : List CV} (hf : Fr w env e') : setsL ws (ws.map fun t => e'.getD t (.tup [])) (anyAt w env) = anyAt (butL ws w) e' := by
  apply ext_get?
  intro t
  -- the target, laid on itself
  have key : (setsL ws (ws.map fun t => e'.getD t (.tup [])) (anyAt w env))[t]? = (anyAt (butL ws w) e')[t]? := by
    have hlen : (anyAt w env).length = e'.length := by rw [anyAt_len, hf.1]
    by_cases hw : t ∈ ws
    · have e1 : (anyAt (butL ws w) e')[t]? = e'[t]? := by
        rw [anyAt_get?, if_neg]
        rintro ⟨h, _⟩
        simp only [butL, List.mem_filter, Bool.not_eq_true', List.contains_eq_mem, decide_eq_false_iff_not] at h
        exact h.2 hw
      rw [e1]
      exact setsL_get? ws _ t hlen fun h => absurd hw h
    · have e2 : ∀ (l : List Nat) (vs b : List CV), t ∉ l → (setsL l vs b)[t]? = b[t]? := by
        intro l
        induction l with
        | nil => intro vs b _; cases vs <;> rfl
        | cons u r ih =>
          intro vs b ht
          cases vs with
          | nil => rfl
          | cons v vs =>
            simp only [setsL]
            rw [ih vs _ (fun h => ht (by simp [h])), List.getElem?_set_ne]
            intro e; exact ht (by simp [e])
      rw [e2 ws _ _ hw, anyAt_get?, anyAt_get?]
      by_cases ht : t ∈ w
      · have hb : t ∈ butL ws w := by simp [butL, ht, hw]
        by_cases hlt : t < env.length
        · rw [if_pos ⟨ht, hlt⟩, if_pos ⟨hb, by rw [hf.1]; exact hlt⟩]
        · rw [if_neg (fun h => hlt h.2), if_neg (fun h => hlt (by rw [← hf.1]; exact h.2)), List.getElem?_eq_none (Nat.le_of_not_lt hlt), List.getElem?_eq_none (by rw [hf.1]; exact Nat.le_of_not_lt hlt)]
      · have hb : t ∉ butL ws w := by simp [butL, ht]
        rw [if_neg (fun h => ht h.1), if_neg (fun h => hb h.1), hf.2 t ht]
  exact key
theorem weak_fr (ws w : List Nat) (e : List CV) : Fr w e (anyAt (butL ws w) e) := by
  refine ⟨anyAt_len _ _, fun t ht => ?_⟩
  rw [anyAt_get?, if_neg]
  rintro ⟨h, _⟩
  simp only [butL, List.mem_filter] at h
  exact ht h.1

/-- What a run of code for the kernel says of the run. -/
theorem exK_out (hcall : CallSim P T stl F call) {A : Ann} {fu : Nat} {kr : KS} : ∀ (cd : Code) (X : List (Nat × KS)) (env : List CV) (hp : HP) (c : Nat) (K : KS), codeCB stl A.plan cd = true → exK real P T stl A fu call n kr cd X env hp c K = true →
    Out (fun N => execC P T stl F N A cd ⟨env, n, hp, c⟩) (codeStill stl cd = true) (Post X K kr n (wrC cd) env)
  | .skip, X, env, hp, c, K, _, h => (Out.one (x := (CE.normal, (⟨env, n, hp, c⟩ : CSt))) ⟨rfl, Fr.refl _ _, h⟩).congr 1 fun N => rfl
  | .label l, X, env, hp, c, K, _, h => (Out.one (x := (CE.normal, (⟨env, n, hp, c⟩ : CSt))) ⟨rfl, Fr.refl _ _, h⟩).congr 1 fun N => rfl
  | .exit id, X, env, hp, c, K, _, h => (Out.one (x := (CE.exit id, (⟨env, n, hp, c⟩ : CSt))) ⟨rfl, Fr.refl _ _, h⟩).congr 1 fun N => rfl
  | .ret, X, env, hp, c, K, _, h => (Out.one (x := (CE.ret, (⟨env, n, hp, c⟩ : CSt))) ⟨rfl, Fr.refl _ _, h⟩).congr 1 fun N => rfl
  | .goto l, X, env, hp, c, K, _, h => by cases h
  | .scope b, X, env, hp, c, K, hB, h => by
    simp only [codeCB] at hB
    simp only [exK] at h
    exact ((exK_out hcall b X env hp c K hB h).congr 1 fun N => by simp only [execC]).mono (fun hs => by simpa only [codeStill] using hs) fun p hp => hp
  | .rangeFunc _ _ _ _, X, env, hp, c, K, _, h => by cases h
  | .refuse _, X, env, hp, c, K, _, h => by cases h
  | .region id ops draw, X, env, hp, c, K, hB, h => by
    unfold exK at h
    unfold codeCB at hB
    have fin : ∀ {r : Nat → Option (List CSt)} {sg : Prop}, Out r sg (fun s' : CSt => s'.n = n ∧ Fr (opsW ops.toList) env s'.sl ∧ (killK real (A.kr id) s'.sl s'.hp fun hp => K s'.sl hp s'.c) = true) →
        Out (fun N => tagL (A.kr id) (r N)) sg (Post X K kr n (wrC (.region id ops draw)) env) := fun hh => by
      obtain ⟨N0, l, h1, h2, h3⟩ := hh
      refine ⟨N0, l.map fun s => (.normal, killS (A.kr id) s), fun N hN => by simp only [h1 N hN, tagL], fun hs => ?_, fun p hp => ?_⟩
      · obtain ⟨p, rfl⟩ := h2 hs
        exact ⟨_, rfl⟩
      · obtain ⟨s', hs', rfl⟩ := List.mem_map.1 hp
        obtain ⟨g1, g2, g3⟩ := h3 s' hs'
        rw [killK_eq] at g3
        exact ⟨g1, g2, g3⟩
    split at h
    · rename_i hpl
      rw [hpl] at hB
      refine ((fin (opsK_out hcall _ _ _ _ h)).congr 1 fun N => by simp only [execC, hpl]).mono (fun hs => ?_) fun p hp => hp
      simp only [codeStill, Bool.and_eq_true] at hs
      exact hs.2
    · rename_i p hpl
      rw [hpl] at hB
      refine ((fin (planK_out hcall _ _ _ _ h)).congr 1 fun N => by simp only [execC, hpl]).mono (fun hs => ?_) fun p hp => hp
      simp only [codeStill, Bool.and_eq_true, Bool.not_eq_true'] at hs
      simp only [Bool.and_eq_true] at hB
      rw [hs.1] at hB
      cases hB.1.1
  | .cond x a b, X, env, hp, c, K, hB, h => by
    simp only [codeCB, Bool.and_eq_true] at hB
    simp only [exK, evK_eq n env hp c] at h
    have h : condK (evalC ⟨env, n, hp, c⟩ x) (exK real P T stl A fu call n kr a X env hp c K) (exK real P T stl A fu call n kr b X env hp c K) = true := h
    unfold condK at h
    rcases onBool_out h with ⟨v, hv, h1⟩ | h1
    · rcases ifB_out h1 with ⟨rfl, h2⟩ | ⟨rfl, h2⟩
      · refine ((exK_out hcall a X env hp c K hB.1 h2).congr 1 fun N => by simp only [execC, hv]).mono (fun hs => ?_) fun p ⟨g1, g2, g3⟩ => ⟨g1, g2.mono fun t ht => by simp [wrC, ht], g3⟩
        simp only [codeStill, Bool.and_eq_true] at hs
        exact hs.1
      · refine ((exK_out hcall b X env hp c K hB.2 h2).congr 1 fun N => by simp only [execC, hv]).mono (fun hs => ?_) fun p ⟨g1, g2, g3⟩ => ⟨g1, g2.mono fun t ht => by simp [wrC, ht], g3⟩
        simp only [codeStill, Bool.and_eq_true] at hs
        exact hs.2
    · cases h1
  | .block id b, X, env, hp, c, K, hB, h => by
    simp only [codeCB] at hB
    simp only [exK] at h
    have := exK_out hcall b ((id, K) :: X) env hp c K hB h
    refine (bind_out (f := fun N p => blockL id p) (sg := codeStill stl (.block id b) = true) (G := Post X K kr n (wrC (.block id b)) env) (this.mono (fun hs => by simpa only [codeStill] using hs) fun p hp => ?_)).congr 1 fun N => by simp only [execC]
    obtain ⟨e, s⟩ := p
    obtain ⟨g1, g2, g3⟩ := hp
    cases e with
    | normal => exact (Out.one (x := (CE.normal, s)) ⟨g1, g2, g3⟩).congr 0 fun N => rfl
    | ret => exact (Out.one (x := (CE.ret, s)) ⟨g1, g2, g3⟩).congr 0 fun N => rfl
    | exit k =>
      simp only [KxOk, lookX] at g3
      cases hk : Nat.beq id k with
      | true =>
        rw [hk] at g3
        have hk2 : Nat.beq k id = true := by rw [Nat.eq_of_beq_eq_true hk]; exact Nat.beq_eq.mpr rfl
        exact (Out.one (x := (CE.normal, s)) ⟨g1, g2, g3⟩).congr 0 fun N => by simp only [blockL, hk2]
      | false =>
        rw [hk] at g3
        have hk2 : Nat.beq k id = false := by
          cases h2 : Nat.beq k id with
          | false => rfl
          | true => rw [Nat.eq_of_beq_eq_true h2, Nat.beq_eq.mpr rfl] at hk; cases hk
        exact (Out.one (x := (CE.exit k, s)) ⟨g1, g2, g3⟩).congr 0 fun N => by simp only [blockL, hk2]
  | .seq a b, X, env, hp, c, K, hB, h => by
    simp only [codeCB, Bool.and_eq_true] at hB
    have fin : ∀ (Ka : KS), Out (fun N => execC P T stl F N A a ⟨env, n, hp, c⟩) (codeStill stl a = true) (Post X Ka kr n (wrC a) env) →
        (∀ sl hp c, Fr (wrC a) env sl → Ka sl hp c = true → Out (fun N => execC P T stl F N A b (weakJ (A.wj (firstR b)) a ⟨sl, n, hp, c⟩)) (codeStill stl b = true) (Post X K kr n (wrC (.seq a b)) env)) →
        Out (fun N => execC P T stl F N A (.seq a b) ⟨env, n, hp, c⟩) (codeStill stl (.seq a b) = true) (Post X K kr n (wrC (.seq a b)) env) := fun Ka ha hb => by
      refine (bind_out (r := fun N => execC P T stl F N A a ⟨env, n, hp, c⟩) (f := fun N => normL fun s => execC P T stl F N A b (weakJ (A.wj (firstR b)) a s)) (sg := codeStill stl (.seq a b) = true) (G := Post X K kr n (wrC (.seq a b)) env) (ha.mono (fun hs => ?_) fun p hp => ?_)).congr 1 fun N => by simp only [execC]
      · simp only [codeStill, Bool.and_eq_true] at hs; exact hs.1
      · obtain ⟨e, sl, n', hp', c'⟩ := p
        obtain ⟨g1, g2, g3⟩ := hp
        simp only at g1
        subst g1
        have up : Fr (wrC (.seq a b)) env sl := g2.mono fun t ht => by simp [wrC, ht]
        cases e with
        | normal => exact ((hb sl hp' c' g2 g3).mono (fun hs => by simp only [codeStill, Bool.and_eq_true] at hs; exact hs.2) fun _ h => h).congr 0 fun N => rfl
        | exit k => exact (Out.one (x := (CE.exit k, (⟨sl, n', hp', c'⟩ : CSt))) ⟨rfl, up, g3⟩).congr 0 fun N => rfl
        | ret => exact (Out.one (x := (CE.ret, (⟨sl, n', hp', c'⟩ : CSt))) ⟨rfl, up, g3⟩).congr 0 fun N => rfl
    unfold exK at h
    split at h
    · rename_i hj
      refine fin _ (exK_out hcall a X env hp c _ hB.1 h) fun sl hp c hf hk => ?_
      rw [hj]
      exact (exK_out hcall b X sl hp c K hB.2 hk).mono id fun p ⟨g1, g2, g3⟩ => ⟨g1, hf.trans g2, g3⟩
    · rename_i ws hj
      rw [show real.share = fun _ x f => f x from rfl] at h
      refine fin _ (exK_out hcall a X env hp c _ hB.1 h) fun sl hp c hf hk => ?_
      rw [selK_eq, app_curry _ _ _ _ _ (by simp), anyE_eq, setsE_eq, join_eq hf] at hk
      rw [hj]
      refine (exK_out hcall b X _ hp c K hB.2 hk).mono id fun p ⟨g1, g2, g3⟩ => ⟨g1, ?_, g3⟩
      exact (hf.cat (weak_fr ws (wrC a) sl)).trans g2
  | .loop b, X, env, hp, c, K, hB, h => by
    simp only [codeCB] at hB
    simp only [exK] at h
    have ihb := fun env hp c K => exK_out (fu := fu) (kr := kr) hcall b X env hp c K hB
    have go : ∀ (m : Nat) (sl : List CV) (hp : HP) (c : Nat), Fr (wrC b) env sl →
        (selK sl (A.wl (firstR b)) fun vs => app (A.wl (firstR b)).length (loopN (A.wl (firstR b)).length (fun again vs hp c => anyE (wrC b) env fun e => setsE (A.wl (firstR b)) vs e fun e =>
          exK real P T stl A fu call n kr b X e hp c fun e hp c => selK e (A.wl (firstR b)) fun vs => app (A.wl (firstR b)).length again vs hp c) m) vs hp c) = true →
        Out (fun N => execC P T stl F N A (.loop b) ⟨sl, n, hp, c⟩) (codeStill stl (.loop b) = true) (Post X K kr n (wrC (.loop b)) env) := by
      intro m
      induction m with
      | zero =>
        intro sl hp c hf hh
        rw [selK_eq] at hh
        have e0 : ∀ (B : Fun (A.wl (firstR b)).length → List CV → HP → Nat → Bool), loopN (A.wl (firstR b)).length B 0 = curry (A.wl (firstR b)).length fun _ _ _ => false := fun B => rfl
        rw [e0, app_curry _ _ _ _ _ (by simp)] at hh
        cases hh
      | succ m ih =>
        intro sl hp c hf hh
        rw [selK_eq] at hh
        have e0 : ∀ (B : Fun (A.wl (firstR b)).length → List CV → HP → Nat → Bool), loopN (A.wl (firstR b)).length B (m + 1) = curry (A.wl (firstR b)).length (B (loopN (A.wl (firstR b)).length B m)) := fun B => rfl
        rw [e0, app_curry _ _ _ _ _ (by simp), anyE_eq, setsE_eq, join_eq hf] at hh
        refine (bind_out (r := fun N => execC P T stl F N A b (weakS (A.wl (firstR b)) (wrC b) ⟨sl, n, hp, c⟩)) (f := fun N => normL (execC P T stl F N A (.loop b))) (sg := codeStill stl (.loop b) = true) (G := Post X K kr n (wrC (.loop b)) env) ((ihb _ hp c _ hh).mono (fun hs => by simpa only [codeStill] using hs) fun p hp => ?_)).congr 1 fun N => by simp only [execC]
        obtain ⟨e, sl', n', hp', c'⟩ := p
        obtain ⟨g1, g2, g3⟩ := hp
        simp only at g1
        subst g1
        have up : Fr (wrC b) env sl' := (hf.cat (weak_fr _ _ sl)).cat g2
        cases e with
        | normal => exact (ih sl' hp' c' up g3).congr 0 fun N => rfl
        | exit k => exact (Out.one (x := (CE.exit k, (⟨sl', n', hp', c'⟩ : CSt))) ⟨rfl, up, g3⟩).congr 0 fun N => rfl
        | ret => exact (Out.one (x := (CE.ret, (⟨sl', n', hp', c'⟩ : CSt))) ⟨rfl, up, g3⟩).congr 0 fun N => rfl
    exact go fu env hp c (Fr.refl _ _) h
end
end Go.Fw

namespace Go.Fw
open Go Go.RowKit
section
variable {P : Program} {T : List (Nat × TyI)} {stl : FuncId → Bool} {F : FuncId → Option Ent} {call : CallK} {n : Nat}

theorem resGo_out {env : List CV} {hp : HP} {c : Nat} : ∀ (rs : List ResultVar) (K : List CV → Bool), resGo real T n env hp rs K = true → ∃ l, resCs T ⟨env, n, hp, c⟩ rs = some l ∧ K l = true
  | [], K, h => ⟨[], rfl, h⟩
  | .tmp t :: r, K, h => by
    simp only [resGo, evK_eq n env hp c] at h
    obtain ⟨l, h1, h2⟩ := resGo_out (c := c) r _ h
    exact ⟨_, by simp only [resCs, resC1, h1], h2⟩
  | .cell t ty :: r, K, h => by
    simp only [resGo, evK_eq n env hp c] at h
    obtain ⟨x, h1, h2⟩ := loadK_out (env := env) (n := n) (c := c) (K := fun x => resGo real T n env hp r fun l => K (x :: l)) h
    obtain ⟨l, h3, h4⟩ := resGo_out (c := c) r _ h2
    exact ⟨_, by simp only [resCs, resC1, h1, h3], h4⟩
theorem resC_tup {s : CSt} {rs : List ResultVar} {l : List CV} (h : resCs T s rs = some l) : resC T s rs = some (tupV l) := by
  unfold resC
  rw [h]
  match l with
  | [] => rfl
  | [x] => rfl
  | x :: y :: r => rfl

/-- What a function's run for the kernel says of the run. -/
theorem fnK_out (hcall : CallSim P T stl F call) {fu g : Nat} {e : Ent} (hF : F g = some e) (hx : e.ext = false) (he : EntOk P stl g e) {args : List CV} {hp : HP} {c : Nat} {K : KV} (h : fnK real P T stl fu call e args hp c K = true) :
    Out (fun N => enterK P T F (execC P T stl F N) g args hp c) (stl g = true) fun p => K p.1 p.2.1 p.2.2 = true := by
  rcases he with hext | ⟨hext, e1, e2, e3, e4, e5, e6, e7⟩
  · rw [hext] at hx; cases hx
  unfold fnK at h
  split at h
  · rename_i hlen
    have := exK_out hcall e.code [] (padT e.n args) hp c _ e5 h
    refine (bind_out (r := fun N => execC P T stl F N e.ann e.code ⟨padT e.n args, e.n, hp, c⟩) (f := fun N => bodyL T e) (sg := stl g = true) (G := fun p : CV × HP × Nat => K p.1 p.2.1 p.2.2 = true) (this.mono (fun hs => by rw [hs] at e6; simpa using e6) fun p hp => ?_)).congr 0 fun N => by simp only [enterK, hF, hext, hlen]; rfl
    obtain ⟨ce, sl, n', hp', c'⟩ := p
    obtain ⟨g1, g2, g3⟩ := hp
    simp only at g1
    subst g1
    have fin : (resGo real T e.n sl hp' e.rs fun l => killK real e.ann.kf sl hp' fun hp => K (tupV l) hp c') = true → Out (fun _ => (match resC T ⟨sl, e.n, hp', c'⟩ e.rs with | some x => (forceV x fun x => some [(x, killH e.ann.kf sl hp', c')]) | none => none)) (stl g = true) fun p : CV × HP × Nat => K p.1 p.2.1 p.2.2 = true := fun hh => by
      obtain ⟨l, h1, h2⟩ := resGo_out (c := c') e.rs _ hh
      rw [killK_eq] at h2
      rw [resC_tup h1]
      simp only [forceV_eq]
      exact Out.one (x := (tupV l, killH e.ann.kf sl hp', c')) h2
    cases ce with
    | normal => exact (fin g3).congr 0 fun N => rfl
    | ret => exact (fin g3).congr 0 fun N => rfl
    | exit k => cases g3
  · cases h

/-- Arguments laid out, for the kernel. -/
noncomputable def appF : (k : Nat) → FunA k → List CV → HP → Nat → KV → Bool :=
  @Nat.rec (fun k => FunA k → List CV → HP → Nat → KV → Bool) (fun F args hp c K => @List.casesOn CV (fun _ => Bool) args (F hp c K) fun _ _ => false) (fun _ ih F args hp c K => @List.casesOn CV (fun _ => Bool) args false fun v vs => ih (F v) vs hp c K)
theorem appF_eq : ∀ (k : Nat) (F : FunA k) (args : List CV) (hp : HP) (c : Nat) (K : KV), appF k F args hp c K = appA k F args hp c K
  | 0, F, [], hp, c, K => rfl
  | 0, F, a :: r, hp, c, K => rfl
  | k + 1, F, [], hp, c, K => rfl
  | k + 1, F, a :: r, hp, c, K => appF_eq k (F a) r hp c K

/-- A function that is no Go text. -/
noncomputable def extN (P : Program) (g : FuncId) : List CV → HP → Nat → KV → Bool := fun args hp c K => genK (extV P g args) fun x => K x hp c
theorem ext_ok {g : Nat} {e : Ent} (hF : F g = some e) (hx : e.ext = true) : ∀ args hp c K, extN P g args hp c K = true → Out (fun N => enterK P T F (execC P T stl F N) g args hp c) (stl g = true) fun p => K p.1 p.2.1 p.2.2 = true := fun args hp c K h => by
  obtain ⟨z, h1, h2⟩ := genK_out h
  exact (Out.one (x := (z, hp, c)) h2).congr 0 fun N => by simp only [enterK, hF, hx, h1]

/-- One function beside a table. -/
noncomputable def withF (g : Nat) (f : List CV → HP → Nat → KV → Bool) (call : CallK) : CallK := fun g' args hp c K => ifB (Nat.beq g' g) (f args hp c K) (call g' args hp c K)
theorem withF_sim {call : CallK} (hcall : CallSim P T stl F call) {g : Nat} {f : List CV → HP → Nat → KV → Bool} (hf : ∀ args hp c K, f args hp c K = true → Out (fun N => enterK P T F (execC P T stl F N) g args hp c) (stl g = true) fun p => K p.1 p.2.1 p.2.2 = true) :
    CallSim P T stl F (withF g f call) := fun g' args hp c K h => by
  rcases ifB_out h with ⟨hg, h1⟩ | ⟨_, h1⟩
  · rw [Nat.eq_of_beq_eq_true hg]; exact hf args hp c K h1
  · exact hcall g' args hp c K h1
/-- A function that calls itself: so deep. -/
noncomputable def recF (g k : Nat) (R : CallK → FunA k) (call : CallK) (m : Nat) : List CV → HP → Nat → KV → Bool :=
  @Nat.rec (fun _ => List CV → HP → Nat → KV → Bool) (fun _ _ _ _ => false) (fun _ ih => appF k (R (withF g ih call))) m
theorem rec_ok {call : CallK} (hcall : CallSim P T stl F call) {fu g k : Nat} {e : Ent} (hF : F g = some e) (hx : e.ext = false) (he : EntOk P stl g e) {R : CallK → FunA k} (hR : ∀ call, curryA k (fnK real P T stl fu call e) = R call) :
    ∀ m args hp c K, recF g k R call m args hp c K = true → Out (fun N => enterK P T F (execC P T stl F N) g args hp c) (stl g = true) fun p => K p.1 p.2.1 p.2.2 = true
  | 0, args, hp, c, K, h => by cases h
  | m + 1, args, hp, c, K, h => by
    have h : appF k (R (withF g (recF g k R call m) call)) args hp c K = true := h
    rw [← hR, appF_eq] at h
    exact fnK_out (withF_sim hcall (rec_ok hcall hF hx he hR m)) hF hx he (appA_curryA k _ args hp c K h)

/-- Functions by number. -/
inductive Disp where
  | leaf
  | node (g : Nat) (f : List CV → HP → Nat → KV → Bool) (l r : Disp)
noncomputable def Disp.fn (t : Disp) : CallK := fun g args hp c K =>
  @Disp.rec (fun _ => Bool) false (fun k f _ _ a b => ifB (Nat.beq g k) (f args hp c K) (ifB (Nat.ble g k) a b)) t
def Disp.Ok (P : Program) (T : List (Nat × TyI)) (stl : FuncId → Bool) (F : FuncId → Option Ent) : Disp → Prop
  | .leaf => True
  | .node g f l r => (∀ args hp c K, f args hp c K = true → Out (fun N => enterK P T F (execC P T stl F N) g args hp c) (stl g = true) fun p => K p.1 p.2.1 p.2.2 = true) ∧ l.Ok P T stl F ∧ r.Ok P T stl F
theorem Disp.sim : ∀ {t : Disp}, t.Ok P T stl F → CallSim P T stl F t.fn
  | .leaf, _, g, args, hp, c, K, h => by cases h
  | .node k f l r, ⟨h1, h2, h3⟩, g, args, hp, c, K, h => by
    rcases ifB_out h with ⟨hg, h4⟩ | ⟨_, h4⟩
    · rw [Nat.eq_of_beq_eq_true hg]
      exact h1 args hp c K h4
    · rcases ifB_out h4 with ⟨_, h5⟩ | ⟨_, h5⟩
      · exact Disp.sim h2 g args hp c K h5
      · exact Disp.sim h3 g args hp c K h5

/-- A function of the table, as it stands written out. -/
theorem node_ok {call : CallK} (hcall : CallSim P T stl F call) {fu g k : Nat} {e : Ent} (hF : F g = some e) (hx : e.ext = false) (he : EntOk P stl g e) {R : FunA k} (hR : curryA k (fnK real P T stl fu call e) = R) :
    ∀ args hp c K, appF k R args hp c K = true → Out (fun N => enterK P T F (execC P T stl F N) g args hp c) (stl g = true) fun p => K p.1 p.2.1 p.2.2 = true := fun args hp c K h => by
  subst hR
  rw [appF_eq] at h
  exact fnK_out hcall hF hx he (appA_curryA k _ args hp c K h)
end

/-- A CLOSED LAW, run by the kernel. -/
noncomputable def lawK (call : CallK) (g : Nat) : Bool := call g [] [] 0 fun x _ _ => onBool x false fun b => b
theorem lawK_true {P : Program} {T : List (Nat × TyI)} (hT : TOk P T) (hm : P.follows .mixedOrders = true) {stl : FuncId → Bool} {F : FuncId → Option Ent} (hF : FOk P stl F) {call : CallK} (hcall : CallSim P T stl F call) {g : Nat} {e : Ent} (hg : F g = some e) (hx : e.ext = false) (h : lawK call g = true) (w : World) :
    Calls P g #[] w fun e w' => e = .returned (.bool true) ∧ Below w.heap.size w w' := by
  obtain ⟨N0, l, h1, _, h3⟩ := hcall g [] [] 0 _ h
  have hl := h1 N0 (Nat.le_refl _)
  refine run_true hT hm hF hg hx (N := N0) ?_ w
  unfold runTrue
  have hl' : enterK P T F (execC P T stl F N0) g [] .nil 0 = some l := hl
  rw [hl']
  have : ∀ l : List (CV × HP × Nat), (∀ p ∈ l, (onBool p.1 false fun b => b) = true) → allAre isTrue? l = true := by
    intro l
    induction l with
    | nil => intro _; rfl
    | cons p r ih =>
      intro hp
      obtain ⟨x, hp', c'⟩ := p
      have hx : (onBool x false fun b => b) = true := hp (x, hp', c') (by simp)
      rcases onBool_out hx with ⟨b, hb, h2⟩ | h2
      · subst hb
        have h3 : b = true := h2
        subst h3
        show (true && allAre isTrue? r) = true
        rw [Bool.true_and]
        exact ih fun q hq => hp q (by simp [hq])
      · cases h2
  exact this l h3
theorem lawK_fits {P : Program} {T : List (Nat × TyI)} (hT : TOk P T) (hm : P.follows .mixedOrders = true) {stl : FuncId → Bool} {F : FuncId → Option Ent} (hF : FOk P stl F) {call : CallK} (hcall : CallSim P T stl F call) {g : Nat} {e : Ent} (hg : F g = some e) (hx : e.ext = false) (h : lawK call g = true) :
    Fits P g ⟨[], [], [⟨Unit, fun _ => True, fun _ => .bool true, fun _ => []⟩]⟩ := by
  obtain ⟨N0, l, h1, _, h3⟩ := hcall g [] [] 0 _ h
  have hl := h1 N0 (Nat.le_refl _)
  refine fits_of_run hT hm hF hg hx (N := N0) ?_
  unfold runTrue
  have hl' : enterK P T F (execC P T stl F N0) g [] .nil 0 = some l := hl
  rw [hl']
  have : ∀ l : List (CV × HP × Nat), (∀ p ∈ l, (onBool p.1 false fun b => b) = true) → allAre isTrue? l = true := by
    intro l
    induction l with
    | nil => intro _; rfl
    | cons p r ih =>
      intro hp
      obtain ⟨x, hp', c'⟩ := p
      have hx : (onBool x false fun b => b) = true := hp (x, hp', c') (by simp)
      rcases onBool_out hx with ⟨b, hb, h2⟩ | h2
      · subst hb
        have h3 : b = true := h2
        subst h3
        show (true && allAre isTrue? r) = true
        rw [Bool.true_and]
        exact ih fun q hq => hp q (by simp [hq])
      · cases h2
  exact this l h3
end Go.Fw
