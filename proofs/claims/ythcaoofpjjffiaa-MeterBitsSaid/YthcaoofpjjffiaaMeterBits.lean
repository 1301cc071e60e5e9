/-
  For any two rows of bits and any gap: the wrong bits are counted, and the first one told, and the runs told, as the document defines them; rows that are too long or of unlike lengths, and a gap below 0, are refused; what is handed in stays, mark and all, and the answers are new memory: spoiling one leaves the next. No condition.
-/
import Derived.Test.YthcaoofpjjffiaaRows
import Derived.Test.YthcaoofpjjffiaaFv
import Derived.Test.YthcaoofpjjffiaaTwMeterBits
import Derived.Test.YthcaoofpjjffiaaFa
import Derived.WalkKit
import Derived.ProofKit
import Derived.OpenShut
import Derived.SizedLaws
import Derived.ChangeMaps5
set_option linter.unusedSimpArgs false
set_option linter.unusedVariables false
set_option linter.unusedVariables false
set_option linter.unusedSimpArgs false
namespace Go.Proofs.Ythcaoofpjjffiaa
open Go Go.Fw
def tyL : List (Nat × TyI) := [
  (1, ⟨.func, 1, 8, .nilFunc⟩),
  (2, ⟨.int .i64, 1, 8, .int .i64 0⟩),
  (3, ⟨.int .i64, 1, 8, .int .i64 0⟩),
  (4, ⟨.bool, 1, 1, .bool false⟩),
  (5, ⟨.int .u8, 1, 1, .int .u8 0⟩),
  (9, ⟨.str, 1, 16, .string (ByteArray.mk #[])⟩),
  (12, ⟨.int .u64, 1, 8, .int .u64 0⟩),
  (21, ⟨.int .i32, 1, 4, .int .i32 0⟩),
  (22, ⟨.slice 4, 1, 24, .slice none 0 0⟩),
  (23, ⟨.func, 1, 8, .nilFunc⟩),
  (24, ⟨.int .i64, 1, 8, .int .i64 0⟩),
  (26, ⟨.func, 1, 8, .nilFunc⟩),
  (27, ⟨.slice 36, 1, 24, .slice none 0 0⟩),
  (29, ⟨.func, 1, 8, .nilFunc⟩),
  (30, ⟨.slice 40, 1, 24, .slice none 0 0⟩),
  (32, ⟨.func, 1, 8, .nilFunc⟩),
  (33, ⟨.func, 1, 8, .nilFunc⟩),
  (34, ⟨.func, 1, 8, .nilFunc⟩),
  (35, ⟨.struct [(0, 3), (1, 3), (2, 3)], 3, 24, .agg #[.int .i64 0, .int .i64 0, .int .i64 0]⟩),
  (36, ⟨.struct [(0, 3), (1, 3), (2, 3)], 3, 24, .agg #[.int .i64 0, .int .i64 0, .int .i64 0]⟩),
  (37, ⟨.func, 1, 8, .nilFunc⟩),
  (38, ⟨.func, 1, 8, .nilFunc⟩),
  (39, ⟨.func, 1, 8, .nilFunc⟩),
  (40, ⟨.struct [(0, 3), (1, 3), (2, 3)], 3, 24, .agg #[.int .i64 0, .int .i64 0, .int .i64 0]⟩),
  (41, ⟨.float .f64, 1, 8, .float .f64 0⟩),
  (43, ⟨.func, 1, 8, .nilFunc⟩),
  (44, ⟨.cpx .f64, 1, 16, .complex .f64 0 0⟩),
  (45, ⟨.slice 44, 1, 24, .slice none 0 0⟩),
  (47, ⟨.func, 1, 8, .nilFunc⟩),
  (48, ⟨.func, 1, 8, .nilFunc⟩),
  (50, ⟨.func, 1, 8, .nilFunc⟩),
  (51, ⟨.func, 1, 8, .nilFunc⟩),
  (52, ⟨.func, 1, 8, .nilFunc⟩),
  (53, ⟨.struct [(0, 3), (1, 3), (2, 3), (3, 51), (4, 52)], 5, 40, .agg #[.int .i64 0, .int .i64 0, .int .i64 0, .nilFunc, .nilFunc]⟩),
  (54, ⟨.struct [(0, 3), (1, 3), (2, 3), (3, 51), (4, 52)], 5, 40, .agg #[.int .i64 0, .int .i64 0, .int .i64 0, .nilFunc, .nilFunc]⟩),
  (56, ⟨.func, 1, 8, .nilFunc⟩),
  (57, ⟨.func, 1, 8, .nilFunc⟩),
  (58, ⟨.func, 1, 8, .nilFunc⟩),
  (59, ⟨.func, 1, 8, .nilFunc⟩),
  (60, ⟨.func, 1, 8, .nilFunc⟩),
  (61, ⟨.func, 1, 8, .nilFunc⟩),
  (62, ⟨.func, 1, 8, .nilFunc⟩),
  (63, ⟨.int .u64, 1, 8, .int .u64 0⟩),
  (64, ⟨.func, 1, 8, .nilFunc⟩),
  (65, ⟨.func, 1, 8, .nilFunc⟩),
  (66, ⟨.func, 1, 8, .nilFunc⟩),
  (67, ⟨.func, 1, 8, .nilFunc⟩),
  (68, ⟨.func, 1, 8, .nilFunc⟩),
  (69, ⟨.func, 1, 8, .nilFunc⟩),
  (70, ⟨.int .u64, 1, 8, .int .u64 0⟩),
  (72, ⟨.func, 1, 8, .nilFunc⟩),
  (73, ⟨.func, 1, 8, .nilFunc⟩),
  (74, ⟨.func, 1, 8, .nilFunc⟩),
  (80, ⟨.func, 1, 8, .nilFunc⟩),
  (81, ⟨.int .u32, 1, 4, .int .u32 0⟩),
  (84, ⟨.func, 1, 8, .nilFunc⟩),
  (85, ⟨.ptr 5, 1, 8, .pointer none⟩)]
theorem tokL : TOk Try.prog tyL := tokl_of ⟨⟨by kernel_rfl, by kernel_rfl⟩, ⟨by kernel_rfl, by kernel_rfl⟩, ⟨by kernel_rfl, by kernel_rfl⟩, ⟨by kernel_rfl, by kernel_rfl⟩, ⟨by kernel_rfl, by kernel_rfl⟩, ⟨by kernel_rfl, by kernel_rfl⟩, ⟨by kernel_rfl, by kernel_rfl⟩, ⟨by kernel_rfl, by kernel_rfl⟩, ⟨by kernel_rfl, by kernel_rfl⟩, ⟨by kernel_rfl, by kernel_rfl⟩, ⟨by kernel_rfl, by kernel_rfl⟩, ⟨by kernel_rfl, by kernel_rfl⟩, ⟨by kernel_rfl, by kernel_rfl⟩, ⟨by kernel_rfl, by kernel_rfl⟩, ⟨by kernel_rfl, by kernel_rfl⟩, ⟨by kernel_rfl, by kernel_rfl⟩, ⟨by kernel_rfl, by kernel_rfl⟩, ⟨by kernel_rfl, by kernel_rfl⟩, ⟨by kernel_rfl, by kernel_rfl⟩, ⟨by kernel_rfl, by kernel_rfl⟩, ⟨by kernel_rfl, by kernel_rfl⟩, ⟨by kernel_rfl, by kernel_rfl⟩, ⟨by kernel_rfl, by kernel_rfl⟩, ⟨by kernel_rfl, by kernel_rfl⟩, ⟨by kernel_rfl, by kernel_rfl⟩, ⟨by kernel_rfl, by kernel_rfl⟩, ⟨by kernel_rfl, by kernel_rfl⟩, ⟨by kernel_rfl, by kernel_rfl⟩, ⟨by kernel_rfl, by kernel_rfl⟩, ⟨by kernel_rfl, by kernel_rfl⟩, ⟨by kernel_rfl, by kernel_rfl⟩, ⟨by kernel_rfl, by kernel_rfl⟩, ⟨by kernel_rfl, by kernel_rfl⟩, ⟨by kernel_rfl, by kernel_rfl⟩, ⟨by kernel_rfl, by kernel_rfl⟩, ⟨by kernel_rfl, by kernel_rfl⟩, ⟨by kernel_rfl, by kernel_rfl⟩, ⟨by kernel_rfl, by kernel_rfl⟩, ⟨by kernel_rfl, by kernel_rfl⟩, ⟨by kernel_rfl, by kernel_rfl⟩, ⟨by kernel_rfl, by kernel_rfl⟩, ⟨by kernel_rfl, by kernel_rfl⟩, ⟨by kernel_rfl, by kernel_rfl⟩, ⟨by kernel_rfl, by kernel_rfl⟩, ⟨by kernel_rfl, by kernel_rfl⟩, ⟨by kernel_rfl, by kernel_rfl⟩, ⟨by kernel_rfl, by kernel_rfl⟩, ⟨by kernel_rfl, by kernel_rfl⟩, ⟨by kernel_rfl, by kernel_rfl⟩, ⟨by kernel_rfl, by kernel_rfl⟩, ⟨by kernel_rfl, by kernel_rfl⟩, ⟨by kernel_rfl, by kernel_rfl⟩, ⟨by kernel_rfl, by kernel_rfl⟩, ⟨by kernel_rfl, by kernel_rfl⟩, ⟨by kernel_rfl, by kernel_rfl⟩, ⟨by kernel_rfl, by kernel_rfl⟩, ⟨by kernel_rfl, by kernel_rfl⟩, True.intro⟩
theorem mixedL : Try.prog.follows .mixedOrders = true := by kernel_rfl
theorem i64max : IntKind.i64.max = 9223372036854775807 := rfl
theorem u8max : IntKind.u8.max = 255 := rfl
theorem u16max : IntKind.u16.max = 65535 := rfl
theorem u32max : IntKind.u32.max = 4294967295 := rfl
theorem u64max : IntKind.u64.max = 18446744073709551615 := rfl
structure RS where
  n : Nat
  A : Nat → Nat
  E : Nat → Nat
  W : Nat → Nat
def upd (f : Nat → Nat) (k v : Nat) : Nat → Nat := fun j => if j = k then v else f j
theorem upd_s (f : Nat → Nat) (k v : Nat) : upd f k v k = v := if_pos rfl
theorem upd_n (f : Nat → Nat) {k j : Nat} (v : Nat) (h : j ≠ k) : upd f k v j = f j := if_neg h
def joins (g : Int) (s : RS) (i : Nat) : Prop := 0 < s.n ∧ (i : Int) - s.E (s.n - 1) ≤ g
instance (g : Int) (s : RS) (i : Nat) : Decidable (joins g s i) := by unfold joins; infer_instance
def grow (s : RS) (i : Nat) : RS := ⟨s.n, s.A, upd s.E (s.n - 1) (i + 1), upd s.W (s.n - 1) (s.W (s.n - 1) + 1)⟩
def fresh (s : RS) (i : Nat) : RS := ⟨s.n + 1, upd s.A s.n i, upd s.E s.n (i + 1), upd s.W s.n 1⟩
def rs (bad : Nat → Bool) (g : Int) : Nat → RS
  | 0 => ⟨0, fun _ => 0, fun _ => 0, fun _ => 0⟩
  | i + 1 => if bad i then (if joins g (rs bad g i) i then grow (rs bad g i) i else fresh (rs bad g i) i) else rs bad g i
theorem rs_no {bad : Nat → Bool} {g : Int} {i : Nat} (h : bad i = false) : rs bad g (i + 1) = rs bad g i := by
  show (if bad i then _ else _) = _
  rw [h]; rfl
theorem rs_grow {bad : Nat → Bool} {g : Int} {i : Nat} (h : bad i = true) (j : joins g (rs bad g i) i) : rs bad g (i + 1) = grow (rs bad g i) i := by
  show (if bad i then _ else _) = _
  rw [if_pos h, if_pos j]
theorem rs_fresh {bad : Nat → Bool} {g : Int} {i : Nat} (h : bad i = true) (j : ¬ joins g (rs bad g i) i) : rs bad g (i + 1) = fresh (rs bad g i) i := by
  show (if bad i then _ else _) = _
  rw [if_pos h, if_neg j]
def cnt (bad : Nat → Bool) : Nat → Nat
  | 0 => 0
  | i + 1 => cnt bad i + (bad i).toNat
def fs (bad : Nat → Bool) : Nat → Nat
  | 0 => 0
  | i + 1 => if bad i = true ∧ cnt bad i = 0 then i else fs bad i
theorem cnt_le (bad : Nat → Bool) : ∀ i, cnt bad i ≤ i
  | 0 => Nat.le_refl _
  | i + 1 => by
    have := cnt_le bad i
    have h2 : (bad i).toNat ≤ 1 := by cases bad i <;> decide
    show cnt bad i + (bad i).toNat ≤ i + 1; omega
theorem cnt_y {bad : Nat → Bool} {i : Nat} (h : bad i = true) : cnt bad (i + 1) = cnt bad i + 1 := by show _ + _ = _; rw [h]; rfl
theorem cnt_n {bad : Nat → Bool} {i : Nat} (h : bad i = false) : cnt bad (i + 1) = cnt bad i := by show _ + _ = _; rw [h]; rfl
theorem cnt_congr {b c : Nat → Bool} : ∀ n, (∀ i, i < n → b i = c i) → cnt b n = cnt c n
  | 0, _ => rfl
  | n + 1, h => by
    show cnt b n + _ = cnt c n + _
    rw [cnt_congr n (fun i hi => h i (by omega)), h n (by omega)]
theorem fs_congr {b c : Nat → Bool} : ∀ n, (∀ i, i < n → b i = c i) → fs b n = fs c n
  | 0, _ => rfl
  | n + 1, h => by
    show (if _ then _ else _) = (if _ then _ else _)
    rw [cnt_congr n (fun i hi => h i (by omega)), h n (by omega), fs_congr n (fun i hi => h i (by omega))]
theorem rs_congr {b c : Nat → Bool} (g : Int) : ∀ n, (∀ i, i < n → b i = c i) → rs b g n = rs c g n
  | 0, _ => rfl
  | n + 1, h => by
    show (if _ then (if _ then _ else _) else _) = (if _ then (if _ then _ else _) else _)
    rw [h n (by omega), rs_congr g n (fun i hi => h i (by omega))]
theorem fs_lt (bad : Nat → Bool) : ∀ i, fs bad i ≤ i
  | 0 => Nat.le_refl _
  | i + 1 => by
    have := fs_lt bad i
    show (if _ then _ else _) ≤ _
    split <;> omega
/-- The runs after so many bits. -/
structure RInv (bad : Nat → Bool) (g : Int) (i : Nat) (s : RS) : Prop where
  one : ∀ j, j < s.n → s.A j < s.E j ∧ s.E j ≤ i ∧ 1 ≤ s.W j ∧ s.W j ≤ s.E j - s.A j ∧ bad (s.A j) = true ∧ bad (s.E j - 1) = true
  far : ∀ j, j + 1 < s.n → (s.E j : Int) + g < s.A (j + 1)
  nil : s.n = 0 ↔ cnt bad i = 0
  fst : 0 < s.n → s.A 0 = fs bad i
  cap : s.n ≤ i
def sm (W : Nat → Nat) : Nat → Nat
  | 0 => 0
  | n + 1 => sm W n + W n
theorem sm_upd (W : Nat → Nat) (k v : Nat) : ∀ n, n ≤ k → sm (upd W k v) n = sm W n
  | 0, _ => rfl
  | n + 1, h => by
    show sm (upd W k v) n + upd W k v n = sm W n + W n
    rw [sm_upd W k v n (by omega), upd_n W v (by omega)]
theorem rinv (bad : Nat → Bool) (g : Int) : ∀ i, RInv bad g i (rs bad g i) ∧ sm (rs bad g i).W (rs bad g i).n = cnt bad i
  | 0 => ⟨⟨fun j h => absurd h (by show ¬ j < 0; omega), fun j h => absurd h (by show ¬ j + 1 < 0; omega), ⟨fun _ => rfl, fun _ => rfl⟩, fun h => absurd h (by show ¬ 0 < 0; omega), Nat.le_refl _⟩, rfl⟩
  | i + 1 => by
    obtain ⟨ih, is⟩ := rinv bad g i
    cases hb : bad i
    · rw [rs_no hb]
      have e1 := cnt_n hb
      have e2 : fs bad (i + 1) = fs bad i := if_neg (by rw [hb]; simp)
      refine ⟨⟨fun j h => ?_, ih.far, by rw [e1]; exact ih.nil, fun h => by rw [e2]; exact ih.fst h, by have := ih.cap; omega⟩, by rw [e1]; exact is⟩
      have := ih.one j h
      exact ⟨this.1, by omega, this.2.2⟩
    · have e1 := cnt_y hb
      by_cases hj : joins g (rs bad g i) i
      · rw [rs_grow hb hj]
        generalize rs bad g i = s at *
        obtain ⟨h1, h2⟩ := hj
        have c0 : ¬ cnt bad i = 0 := fun h => by have := ih.nil.2 h; omega
        have e2 : fs bad (i + 1) = fs bad i := if_neg (fun h => c0 h.2)
        refine ⟨⟨fun j h => ?_, fun j h => ?_, ?_, fun h => by rw [e2]; exact ih.fst h, by have := ih.cap; show s.n ≤ _; omega⟩, ?_⟩
        · have o := ih.one j h
          show s.A j < upd s.E (s.n - 1) (i + 1) j ∧ upd s.E (s.n - 1) (i + 1) j ≤ i + 1 ∧ 1 ≤ upd s.W (s.n - 1) (s.W (s.n - 1) + 1) j ∧ upd s.W (s.n - 1) (s.W (s.n - 1) + 1) j ≤ upd s.E (s.n - 1) (i + 1) j - s.A j ∧ bad (s.A j) = true ∧ bad (upd s.E (s.n - 1) (i + 1) j - 1) = true
          by_cases hk : j = s.n - 1
          · subst hk
            rw [upd_s, upd_s]
            exact ⟨by omega, by omega, by omega, by omega, o.2.2.2.2.1, hb⟩
          · rw [upd_n _ _ hk, upd_n _ _ hk]
            exact ⟨o.1, by omega, o.2.2⟩
        · show ((upd s.E (s.n - 1) (i + 1) j : Nat) : Int) + g < s.A (j + 1)
          have h : j + 1 < s.n := h
          rw [upd_n _ _ (by omega)]
          exact ih.far j h
        · show s.n = 0 ↔ _
          rw [e1]; omega
        · show sm (upd s.W (s.n - 1) (s.W (s.n - 1) + 1)) s.n = _
          obtain ⟨m, hm⟩ : ∃ m, s.n = m + 1 := ⟨s.n - 1, by omega⟩
          rw [hm] at is ⊢
          show sm (upd s.W m (s.W m + 1)) m + upd s.W m (s.W m + 1) m = _
          rw [sm_upd _ _ _ _ (Nat.le_refl _), upd_s, e1]
          have is : sm s.W m + s.W m = cnt bad i := is
          omega
      · rw [rs_fresh hb hj]
        generalize rs bad g i = s at *
        refine ⟨⟨fun j h => ?_, fun j h => ?_, ?_, fun h => ?_, by have := ih.cap; show s.n + 1 ≤ _; omega⟩, ?_⟩
        · show upd s.A s.n i j < upd s.E s.n (i + 1) j ∧ upd s.E s.n (i + 1) j ≤ i + 1 ∧ 1 ≤ upd s.W s.n 1 j ∧ upd s.W s.n 1 j ≤ upd s.E s.n (i + 1) j - upd s.A s.n i j ∧ bad (upd s.A s.n i j) = true ∧ bad (upd s.E s.n (i + 1) j - 1) = true
          have h : j < s.n + 1 := h
          by_cases hk : j = s.n
          · subst hk
            rw [upd_s, upd_s, upd_s]
            exact ⟨by omega, by omega, by omega, by omega, hb, hb⟩
          · rw [upd_n _ _ hk, upd_n _ _ hk, upd_n _ _ hk]
            have o := ih.one j (by omega)
            exact ⟨o.1, by omega, o.2.2⟩
        · show ((upd s.E s.n (i + 1) j : Nat) : Int) + g < (upd s.A s.n i (j + 1) : Nat)
          have h : j + 1 < s.n + 1 := h
          rw [upd_n _ _ (by omega)]
          by_cases hk : j + 1 = s.n
          · rw [hk, upd_s]
            have : ¬ ((i : Int) - s.E (s.n - 1) ≤ g) := fun hh => hj ⟨by omega, hh⟩
            rw [show s.n - 1 = j by omega] at this
            omega
          · rw [upd_n _ _ hk]
            exact ih.far j (by omega)
        · show s.n + 1 = 0 ↔ _
          rw [e1]; omega
        · show upd s.A s.n i 0 = fs bad (i + 1)
          by_cases h0 : s.n = 0
          · have c0 := ih.nil.1 h0
            rw [h0, upd_s]
            exact (if_pos ⟨hb, c0⟩).symm
          · have c0 : ¬ cnt bad i = 0 := fun h => h0 (ih.nil.2 h)
            rw [upd_n _ _ (by omega)]
            have e2 : fs bad (i + 1) = fs bad i := if_neg (fun h => c0 h.2)
            rw [e2]; exact ih.fst (by omega)
        · show sm (upd s.W s.n 1) s.n + upd s.W s.n 1 s.n = _
          rw [sm_upd _ _ _ _ (Nat.le_refl _), upd_s, e1, is]
theorem fs_y {bad : Nat → Bool} {i : Nat} (h : bad i = true) (c : cnt bad i = 0) : fs bad (i + 1) = i := if_pos ⟨h, c⟩
theorem fs_n {bad : Nat → Bool} {i : Nat} (h : bad i = false) : fs bad (i + 1) = fs bad i := if_neg (fun hh => by rw [h] at hh; exact absurd hh.1 (by decide))
theorem fs_o {bad : Nat → Bool} {i : Nat} (c : cnt bad i ≠ 0) : fs bad (i + 1) = fs bad i := if_neg (fun hh => c hh.2)
def qf : Nat → Bool := fun f => match f with | 6 => true | 7 => true | 10 => true | 11 => true | 13 => true | 14 => true | _ => false
def cfgs (k : Nat) : Cfg := { T := tyL, sgn := fun _ => false, wr := fun _ => false, k := k, q := qf }
def boS (o : Bool) (B : List Bool) : Seg := .seg o (.bools B)
noncomputable def c13 : Code := (Try.f13.body).getD .skip
set_option maxHeartbeats 0 in
set_option maxRecDepth 100000 in
theorem pair_q (A B : List Bool) (n m ca cb : Nat) (hn : n ≤ 4611686018427387903) (hm : m ≤ 4611686018427387903) (v : Bool) (hv : v = true ↔ n ≤ 32768 ∧ n = m) :
    QFits Try.prog 13 ⟨[.slice 0 0 n ca, .slice 1 0 m cb], [boS false A, boS false B], .bool v⟩ := by
  refine qfits_of_body (C := cfgs 2) (c := c13) (ts := [4]) tokL mixedL (fun _ => none) (fun _ => none)
    Try.func13 (by kernel_rfl) (by kernel_rfl) (by kernel_rfl) (by kernel_rfl) (by kernel_rfl) rfl rfl ?_
  conv => whnf
  refine tst_in (fun h1 => ?_) (fun h1' => ?_)
  · skip
    have h1 : n ≤ 32768 := by have := of_decide_eq_true (by rw [dLe_eq] at h1; exact h1); omega
    conv => whnf
    repeat (first
      | (refine And.intro ?_ ?_; (focus (first | omega | decide | exact EqOk.mk (by kernel_rfl) (by kernel_rfl) (by kernel_rfl) | exact Int.natCast_nonneg _ | ((repeat' refine And.intro ?_ ?_) <;> first | omega | exact Int.natCast_nonneg _ | (simp only [i64max, u8max, u16max, u32max, u64max]; omega) | (simp only [mulSz_eq, Cont.len, colsLen, Col.len, List.length_cons, List.length_nil, List.length_replicate, List.length_append]; first | done | omega) | (simp [mulSz, Cont.len, bne]; first | done | omega)))); conv => whnf)
      | (refine tst_in ?_ ?_; (focus (intro h_; exfalso; first | omega | ((try simp only [decide_eq_true_eq, decide_eq_false_iff_not] at h_); omega) | (simp [mulSz, Cont.len, bne] at h_; first | done | omega))); intro _; conv => whnf)
      | (refine tst_in ?_ ?_; rotate_left; (focus (intro h_; exfalso; first | omega | ((try simp only [decide_eq_true_eq, decide_eq_false_iff_not] at h_); omega) | (simp [mulSz, Cont.len, bne] at h_; first | done | omega))); intro _; conv => whnf)
      | (refine ⟨0, (show _ = _ by omega), ?_⟩; conv => whnf))
    cases v
    · symm; rw [decide_eq_false_iff_not]; intro h; exact absurd (hv.2 ⟨h1, by omega⟩) (by decide)
    · symm; rw [decide_eq_true_iff]; have := (hv.1 rfl).2; omega
  · skip
    have h1 : ¬ n ≤ 32768 := fun h => of_decide_eq_false (by rw [dLe_eq] at h1'; exact h1') (by omega)
    conv => whnf
    repeat (first
      | (refine And.intro ?_ ?_; (focus (first | omega | decide | exact EqOk.mk (by kernel_rfl) (by kernel_rfl) (by kernel_rfl) | exact Int.natCast_nonneg _ | ((repeat' refine And.intro ?_ ?_) <;> first | omega | exact Int.natCast_nonneg _ | (simp only [i64max, u8max, u16max, u32max, u64max]; omega) | (simp only [mulSz_eq, Cont.len, colsLen, Col.len, List.length_cons, List.length_nil, List.length_replicate, List.length_append]; first | done | omega) | (simp [mulSz, Cont.len, bne]; first | done | omega)))); conv => whnf)
      | (refine tst_in ?_ ?_; (focus (intro h_; exfalso; first | omega | ((try simp only [decide_eq_true_eq, decide_eq_false_iff_not] at h_); omega) | (simp [mulSz, Cont.len, bne] at h_; first | done | omega))); intro _; conv => whnf)
      | (refine tst_in ?_ ?_; rotate_left; (focus (intro h_; exfalso; first | omega | ((try simp only [decide_eq_true_eq, decide_eq_false_iff_not] at h_); omega) | (simp [mulSz, Cont.len, bne] at h_; first | done | omega))); intro _; conv => whnf)
      | (refine ⟨0, (show _ = _ by omega), ?_⟩; conv => whnf))
    cases v
    · rfl
    · exact absurd (hv.1 rfl).1 h1
def bad (A B : List Bool) (i : Nat) : Bool := A.getD i false != B.getD i false
noncomputable def c6 : Code := (Try.f6.body).getD .skip
def st6 (A B : List Bool) (n ca cb i : Nat) : St := ⟨slotsAt 34 [(0, .slice 0 0 n ca), (1, .slice 1 0 n cb), (4, .int .i64 (cnt (bad A B) i : Nat)), (5, .int .i64 (fs (bad A B) i : Nat)), (13, .int .i64 n), (14, .int .i64 i)], [boS false A, boS false B]⟩
def inv6 (A B : List Bool) (n ca cb : Nat) : LInv := ⟨Nat, fun i => st6 A B n ca cb i, fun i => i ≤ n, fun i => n - i⟩
def errV (w f : Nat) : AV := .tup [.int .i64 w, .int .i64 f, .int .i64 0]
set_option maxHeartbeats 0 in
set_option maxRecDepth 100000 in
theorem Errors_y (A B : List Bool) (n ca cb : Nat) (hn : n ≤ 32768) (hA : n ≤ A.length) (hB : n ≤ B.length) (hca : n ≤ ca) (hcb : n ≤ cb) :
    QFits Try.prog 6 ⟨[.slice 0 0 n ca, .slice 1 0 n cb], [boS false A, boS false B], errV (cnt (bad A B) n) (fs (bad A B) n)⟩ := by
  have PQ := pair_q A B n n ca cb (by omega) (by omega) true ⟨fun _ => ⟨hn, rfl⟩, fun _ => rfl⟩
  unfold errV
  refine qfits_of_body (C := cfgs 2) (c := c6) (ts := [4, 5, 6]) tokL mixedL (fun | 4 => some (inv6 A B n ca cb) | _ => none) (fun _ => none)
    Try.func6 (by kernel_rfl) (by kernel_rfl) (by kernel_rfl) (by kernel_rfl) (by kernel_rfl) rfl rfl ?_
  conv => whnf
  repeat (first
    | (refine And.intro ?_ ?_; (focus (first | omega | decide | exact EqOk.mk (by kernel_rfl) (by kernel_rfl) (by kernel_rfl) | exact Int.natCast_nonneg _ | ((repeat' refine And.intro ?_ ?_) <;> first | omega | exact Int.natCast_nonneg _ | (simp only [i64max, u8max, u16max, u32max, u64max]; omega) | (simp only [mulSz_eq, Cont.len, colsLen, Col.len, List.length_cons, List.length_nil, List.length_replicate, List.length_append]; first | done | omega) | (simp [mulSz, Cont.len, bne]; first | done | omega)))); conv => whnf)
    | (refine tst_in ?_ ?_; (focus (intro h_; exfalso; first | omega | ((try simp only [decide_eq_true_eq, decide_eq_false_iff_not] at h_); omega) | (simp [mulSz, Cont.len, bne] at h_; first | done | omega))); intro _; conv => whnf)
    | (refine tst_in ?_ ?_; rotate_left; (focus (intro h_; exfalso; first | omega | ((try simp only [decide_eq_true_eq, decide_eq_false_iff_not] at h_); omega) | (simp [mulSz, Cont.len, bne] at h_; first | done | omega))); intro _; conv => whnf)
    | (refine ⟨0, (show _ = _ by omega), ?_⟩; conv => whnf))
  refine ⟨_, [0, 1], PQ, ?_⟩
  conv => whnf
  iterate 2
   refine And.intro ?_ ?_
   focus
    conv => whnf
    repeat' (first | exact True.intro | rfl | refine And.intro ?_ ?_)
    all_goals (conv => whnf)
    repeat' (first | exact True.intro | rfl | refine And.intro ?_ ?_)
    all_goals (try (first | rfl | omega | (simp; first | done | omega)))
  conv => whnf
  conv => whnf
  repeat (first
    | (refine And.intro ?_ ?_; (focus (first | omega | decide | exact EqOk.mk (by kernel_rfl) (by kernel_rfl) (by kernel_rfl) | exact Int.natCast_nonneg _ | ((repeat' refine And.intro ?_ ?_) <;> first | omega | exact Int.natCast_nonneg _ | (simp only [i64max, u8max, u16max, u32max, u64max]; omega) | (simp only [mulSz_eq, Cont.len, colsLen, Col.len, List.length_cons, List.length_nil, List.length_replicate, List.length_append]; first | done | omega) | (simp [mulSz, Cont.len, bne]; first | done | omega)))); conv => whnf)
    | (refine tst_in ?_ ?_; (focus (intro h_; exfalso; first | omega | ((try simp only [decide_eq_true_eq, decide_eq_false_iff_not] at h_); omega) | (simp [mulSz, Cont.len, bne] at h_; first | done | omega))); intro _; conv => whnf)
    | (refine tst_in ?_ ?_; rotate_left; (focus (intro h_; exfalso; first | omega | ((try simp only [decide_eq_true_eq, decide_eq_false_iff_not] at h_); omega) | (simp [mulSz, Cont.len, bne] at h_; first | done | omega))); intro _; conv => whnf)
    | (refine ⟨0, (show _ = _ by omega), ?_⟩; conv => whnf))
  refine ⟨⟨[0, 1], (0 : Nat), ?_, Nat.zero_le _⟩, ?_⟩
  · show stLe _ _ (st6 A B n ca cb 0) _
    conv => whnf
    repeat' (first | exact True.intro | rfl | refine And.intro ?_ ?_)
    all_goals (conv => whnf)
    repeat' (first | exact True.intro | rfl | refine And.intro ?_ ?_)
    all_goals (try omega)
  · intro (i : Nat) (hi : i ≤ n)
    show forceSt (st6 A B n ca cb i) _
    conv => whnf
    repeat (first
      | (refine And.intro ?_ ?_; (focus (first | omega | decide | exact EqOk.mk (by kernel_rfl) (by kernel_rfl) (by kernel_rfl) | exact Int.natCast_nonneg _ | ((repeat' refine And.intro ?_ ?_) <;> first | omega | exact Int.natCast_nonneg _ | (simp only [i64max, u8max, u16max, u32max, u64max]; omega) | (simp only [mulSz_eq, Cont.len, colsLen, Col.len, List.length_cons, List.length_nil, List.length_replicate, List.length_append]; first | done | omega) | (simp [mulSz, Cont.len, bne]; first | done | omega)))); conv => whnf)
      | (refine tst_in ?_ ?_; (focus (intro h_; exfalso; first | omega | ((try simp only [decide_eq_true_eq, decide_eq_false_iff_not] at h_); omega) | (simp [mulSz, Cont.len, bne] at h_; first | done | omega))); intro _; conv => whnf)
      | (refine tst_in ?_ ?_; rotate_left; (focus (intro h_; exfalso; first | omega | ((try simp only [decide_eq_true_eq, decide_eq_false_iff_not] at h_); omega) | (simp [mulSz, Cont.len, bne] at h_; first | done | omega))); intro _; conv => whnf)
      | (refine ⟨0, (show _ = _ by omega), ?_⟩; conv => whnf))
    refine tst_in (fun hlt => ?_) (fun hge => ?_)
    · skip
      have hlt : i < n := by simp at hlt; omega
      have hc := cnt_le (bad A B) i
      have hf := fs_lt (bad A B) i
      have hi0 : 0 + ((i : Int)).toNat = i := by omega
      conv => whnf
      repeat (first
        | (refine And.intro ?_ ?_; (focus (first | omega | decide | exact EqOk.mk (by kernel_rfl) (by kernel_rfl) (by kernel_rfl) | exact Int.natCast_nonneg _ | ((repeat' refine And.intro ?_ ?_) <;> first | omega | exact Int.natCast_nonneg _ | (simp only [i64max, u8max, u16max, u32max, u64max]; omega) | (simp only [mulSz_eq, Cont.len, colsLen, Col.len, List.length_cons, List.length_nil, List.length_replicate, List.length_append]; first | done | omega) | (simp [mulSz, Cont.len, bne]; first | done | omega)))); conv => whnf)
        | (refine tst_in ?_ ?_; (focus (intro h_; exfalso; first | omega | ((try simp only [decide_eq_true_eq, decide_eq_false_iff_not] at h_); omega) | (simp [mulSz, Cont.len, bne] at h_; first | done | omega))); intro _; conv => whnf)
        | (refine tst_in ?_ ?_; rotate_left; (focus (intro h_; exfalso; first | omega | ((try simp only [decide_eq_true_eq, decide_eq_false_iff_not] at h_); omega) | (simp [mulSz, Cont.len, bne] at h_; first | done | omega))); intro _; conv => whnf)
        | (refine ⟨0, (show _ = _ by omega), ?_⟩; conv => whnf))
      refine tst_in (fun q => ?_) (fun q' => ?_)
      · skip
        have hb : bad A B i = false := by rw [hi0] at q; unfold bad bne; rw [q]; rfl
        conv => whnf
        repeat (first
          | (refine And.intro ?_ ?_; (focus (first | omega | decide | exact EqOk.mk (by kernel_rfl) (by kernel_rfl) (by kernel_rfl) | exact Int.natCast_nonneg _ | ((repeat' refine And.intro ?_ ?_) <;> first | omega | exact Int.natCast_nonneg _ | (simp only [i64max, u8max, u16max, u32max, u64max]; omega) | (simp only [mulSz_eq, Cont.len, colsLen, Col.len, List.length_cons, List.length_nil, List.length_replicate, List.length_append]; first | done | omega) | (simp [mulSz, Cont.len, bne]; first | done | omega)))); conv => whnf)
          | (refine tst_in ?_ ?_; (focus (intro h_; exfalso; first | omega | ((try simp only [decide_eq_true_eq, decide_eq_false_iff_not] at h_); omega) | (simp [mulSz, Cont.len, bne] at h_; first | done | omega))); intro _; conv => whnf)
          | (refine tst_in ?_ ?_; rotate_left; (focus (intro h_; exfalso; first | omega | ((try simp only [decide_eq_true_eq, decide_eq_false_iff_not] at h_); omega) | (simp [mulSz, Cont.len, bne] at h_; first | done | omega))); intro _; conv => whnf)
          | (refine ⟨0, (show _ = _ by omega), ?_⟩; conv => whnf))
        refine ⟨[0, 1], i + 1, ?_, (by show i + 1 ≤ n; omega), (by show n - (i + 1) < n - i; omega)⟩
        show stLe _ _ (st6 A B n ca cb (i + 1)) _
        conv => whnf
        repeat' (first | exact True.intro | rfl | refine And.intro ?_ ?_)
        all_goals (conv => whnf)
        repeat' (first | exact True.intro | rfl | refine And.intro ?_ ?_)
        all_goals (try omega)
        · show ((cnt (bad A B) (i + 1) : Nat) : Int) = _
          rw [cnt_n hb]
        · show ((fs (bad A B) (i + 1) : Nat) : Int) = _
          rw [fs_n hb]
      · skip
        have hb : bad A B i = true := by rw [hi0] at q'; unfold bad bne; rw [q']; rfl
        conv => whnf
        repeat (first
          | (refine And.intro ?_ ?_; (focus (first | omega | decide | exact EqOk.mk (by kernel_rfl) (by kernel_rfl) (by kernel_rfl) | exact Int.natCast_nonneg _ | ((repeat' refine And.intro ?_ ?_) <;> first | omega | exact Int.natCast_nonneg _ | (simp only [i64max, u8max, u16max, u32max, u64max]; omega) | (simp only [mulSz_eq, Cont.len, colsLen, Col.len, List.length_cons, List.length_nil, List.length_replicate, List.length_append]; first | done | omega) | (simp [mulSz, Cont.len, bne]; first | done | omega)))); conv => whnf)
          | (refine tst_in ?_ ?_; (focus (intro h_; exfalso; first | omega | ((try simp only [decide_eq_true_eq, decide_eq_false_iff_not] at h_); omega) | (simp [mulSz, Cont.len, bne] at h_; first | done | omega))); intro _; conv => whnf)
          | (refine tst_in ?_ ?_; rotate_left; (focus (intro h_; exfalso; first | omega | ((try simp only [decide_eq_true_eq, decide_eq_false_iff_not] at h_); omega) | (simp [mulSz, Cont.len, bne] at h_; first | done | omega))); intro _; conv => whnf)
          | (refine ⟨0, (show _ = _ by omega), ?_⟩; conv => whnf))
        refine tst_in (fun q2 => ?_) (fun q2' => ?_)
        · skip
          have q2 : cnt (bad A B) i = 0 := by simp at q2; omega
          conv => whnf
          repeat (first
            | (refine And.intro ?_ ?_; (focus (first | omega | decide | exact EqOk.mk (by kernel_rfl) (by kernel_rfl) (by kernel_rfl) | exact Int.natCast_nonneg _ | ((repeat' refine And.intro ?_ ?_) <;> first | omega | exact Int.natCast_nonneg _ | (simp only [i64max, u8max, u16max, u32max, u64max]; omega) | (simp only [mulSz_eq, Cont.len, colsLen, Col.len, List.length_cons, List.length_nil, List.length_replicate, List.length_append]; first | done | omega) | (simp [mulSz, Cont.len, bne]; first | done | omega)))); conv => whnf)
            | (refine tst_in ?_ ?_; (focus (intro h_; exfalso; first | omega | ((try simp only [decide_eq_true_eq, decide_eq_false_iff_not] at h_); omega) | (simp [mulSz, Cont.len, bne] at h_; first | done | omega))); intro _; conv => whnf)
            | (refine tst_in ?_ ?_; rotate_left; (focus (intro h_; exfalso; first | omega | ((try simp only [decide_eq_true_eq, decide_eq_false_iff_not] at h_); omega) | (simp [mulSz, Cont.len, bne] at h_; first | done | omega))); intro _; conv => whnf)
            | (refine ⟨0, (show _ = _ by omega), ?_⟩; conv => whnf))
          refine ⟨[0, 1], i + 1, ?_, (by show i + 1 ≤ n; omega), (by show n - (i + 1) < n - i; omega)⟩
          show stLe _ _ (st6 A B n ca cb (i + 1)) _
          conv => whnf
          repeat' (first | exact True.intro | rfl | refine And.intro ?_ ?_)
          all_goals (conv => whnf)
          repeat' (first | exact True.intro | rfl | refine And.intro ?_ ?_)
          all_goals (try omega)
          · show ((cnt (bad A B) (i + 1) : Nat) : Int) = _
            rw [cnt_y hb]; rfl
          · show ((fs (bad A B) (i + 1) : Nat) : Int) = _
            rw [fs_y hb q2]
        · skip
          have q2 : cnt (bad A B) i ≠ 0 := by simp at q2'; omega
          conv => whnf
          repeat (first
            | (refine And.intro ?_ ?_; (focus (first | omega | decide | exact EqOk.mk (by kernel_rfl) (by kernel_rfl) (by kernel_rfl) | exact Int.natCast_nonneg _ | ((repeat' refine And.intro ?_ ?_) <;> first | omega | exact Int.natCast_nonneg _ | (simp only [i64max, u8max, u16max, u32max, u64max]; omega) | (simp only [mulSz_eq, Cont.len, colsLen, Col.len, List.length_cons, List.length_nil, List.length_replicate, List.length_append]; first | done | omega) | (simp [mulSz, Cont.len, bne]; first | done | omega)))); conv => whnf)
            | (refine tst_in ?_ ?_; (focus (intro h_; exfalso; first | omega | ((try simp only [decide_eq_true_eq, decide_eq_false_iff_not] at h_); omega) | (simp [mulSz, Cont.len, bne] at h_; first | done | omega))); intro _; conv => whnf)
            | (refine tst_in ?_ ?_; rotate_left; (focus (intro h_; exfalso; first | omega | ((try simp only [decide_eq_true_eq, decide_eq_false_iff_not] at h_); omega) | (simp [mulSz, Cont.len, bne] at h_; first | done | omega))); intro _; conv => whnf)
            | (refine ⟨0, (show _ = _ by omega), ?_⟩; conv => whnf))
          refine ⟨[0, 1], i + 1, ?_, (by show i + 1 ≤ n; omega), (by show n - (i + 1) < n - i; omega)⟩
          show stLe _ _ (st6 A B n ca cb (i + 1)) _
          conv => whnf
          repeat' (first | exact True.intro | rfl | refine And.intro ?_ ?_)
          all_goals (conv => whnf)
          repeat' (first | exact True.intro | rfl | refine And.intro ?_ ?_)
          all_goals (try omega)
          · show ((cnt (bad A B) (i + 1) : Nat) : Int) = _
            rw [cnt_y hb]; rfl
          · show ((fs (bad A B) (i + 1) : Nat) : Int) = _
            rw [fs_o q2]
    · skip
      have hge : i = n := by simp at hge; omega
      subst hge
      conv => whnf
      repeat (first
        | (refine And.intro ?_ ?_; (focus (first | omega | decide | exact EqOk.mk (by kernel_rfl) (by kernel_rfl) (by kernel_rfl) | exact Int.natCast_nonneg _ | ((repeat' refine And.intro ?_ ?_) <;> first | omega | exact Int.natCast_nonneg _ | (simp only [i64max, u8max, u16max, u32max, u64max]; omega) | (simp only [mulSz_eq, Cont.len, colsLen, Col.len, List.length_cons, List.length_nil, List.length_replicate, List.length_append]; first | done | omega) | (simp [mulSz, Cont.len, bne]; first | done | omega)))); conv => whnf)
        | (refine tst_in ?_ ?_; (focus (intro h_; exfalso; first | omega | ((try simp only [decide_eq_true_eq, decide_eq_false_iff_not] at h_); omega) | (simp [mulSz, Cont.len, bne] at h_; first | done | omega))); intro _; conv => whnf)
        | (refine tst_in ?_ ?_; rotate_left; (focus (intro h_; exfalso; first | omega | ((try simp only [decide_eq_true_eq, decide_eq_false_iff_not] at h_); omega) | (simp [mulSz, Cont.len, bne] at h_; first | done | omega))); intro _; conv => whnf)
        | (refine ⟨0, (show _ = _ by omega), ?_⟩; conv => whnf))
      repeat' (first | exact True.intro | rfl | refine And.intro ?_ ?_)
end Go.Proofs.Ythcaoofpjjffiaa

set_option linter.unusedVariables false
set_option linter.unusedSimpArgs false
namespace Go.Proofs.Ythcaoofpjjffiaa
open Go Go.Fw
theorem push_tb (F G : Nat → Int) (t t1 : List Int) (i : Nat) (x : Int) (hx : x = G i) (hG : ∀ j, j < i → F j = G j) : List.take i (List.drop 0 (tb F i ++ t)) ++ [x] ++ t1 = tb G (i + 1) ++ t1 := by
  rw [List.drop_zero, List.take_left' (tab_len F i), hx, tab_congr hG, tab_snoc]
theorem set_tb (F G : Nat → Int) (t : List Int) (n k : Nat) (v : Int) (hk : k < n) (hv : G k = v) (hG : ∀ j, j < n → j ≠ k → F j = G j) : (tb F n ++ t).set k v = tb G n ++ t := by
  rw [List.set_append_left k v (by rw [tab_len]; exact hk)]
  congr 1
  apply row_ext 0 (by simp [tab_len])
  intro j hj
  rw [List.length_set, tab_len] at hj
  rw [g_set, tab_get G 0 hj, tab_len]
  by_cases h : k = j
  · subst h; rw [if_pos ⟨rfl, hk⟩, hv]
  · rw [if_neg (fun hh => h hh.1), tab_get F 0 hj]; exact hG j hj (fun hh => h hh.symm)
noncomputable def c8 : Code := (Try.f8.body).getD .skip
def cA (s : RS) (j : Nat) : Int := (s.A j : Nat)
def cL (s : RS) (j : Nat) : Int := (s.E j : Nat) - (s.A j : Nat)
def cW (s : RS) (j : Nat) : Int := (s.W j : Nat)
def runS (o : Bool) (s : RS) (a l w : List Int) : Seg := .seg o (.cols [.ints .i64 (tb (cA s) s.n ++ a), .ints .i64 (tb (cL s) s.n ++ l), .ints .i64 (tb (cW s) s.n ++ w)])
structure RT where
  r : Nat
  a : List Int
  l : List Int
  w : List Int
def RT.ok (t : RT) : Prop := t.a.length = t.r ∧ t.l.length = t.r ∧ t.w.length = t.r
def runOut (D : List Seg) (k : Nat) (s : RS) : FOut := ⟨RT, fun t => t.ok, fun t => .tup [.slice k 0 s.n (s.n + t.r), .int .i64 0], fun t => D ++ [runS true s t.a t.l t.w]⟩
def st8 (A B : List Bool) (n ca cb : Nat) (g : Int) (i : Nat) (t : RT) : St :=
  ⟨slotsAt 82 [(0, .slice 0 0 n ca), (1, .slice 1 0 n cb), (2, .int .i64 g), (8, .slice 2 0 (rs (bad A B) g i).n ((rs (bad A B) g i).n + t.r)), (20, .int .i64 n), (21, .int .i64 i)], [boS false A, boS false B, runS true (rs (bad A B) g i) t.a t.l t.w]⟩
def inv8 (A B : List Bool) (n ca cb : Nat) (g : Int) : LInv :=
  ⟨Nat × RT, fun t => st8 A B n ca cb g t.1 t.2, fun t => t.1 ≤ n ∧ t.2.ok, fun t => n - t.1⟩
set_option maxHeartbeats 0 in
set_option maxRecDepth 100000 in
theorem Runs_y (A B : List Bool) (n ca cb : Nat) (g : Int) (hn : n ≤ 32768) (hA : n ≤ A.length) (hB : n ≤ B.length) (hca : n ≤ ca) (hcb : n ≤ cb) (hg : 0 ≤ g) (hg2 : g ≤ 9223372036854775807) :
    Fits Try.prog 8 ⟨[.slice 0 0 n ca, .slice 1 0 n cb, .int .i64 g], [boS false A, boS false B], [runOut [.dead, .dead] 2 (rs (bad A B) g n)]⟩ := by
  have PQ := pair_q A B n n ca cb (by omega) (by omega) true ⟨fun _ => ⟨hn, rfl⟩, fun _ => rfl⟩
  refine fits_of_body (C := cfgs 2) (c := c8) (ts := [6, 7]) tokL mixedL (fun | 5 => some (inv8 A B n ca cb g) | _ => none) (fun _ => none)
    Try.func8 (by kernel_rfl) (by kernel_rfl) (by kernel_rfl) (by kernel_rfl) rfl ?_
  conv => whnf
  repeat (first
    | (refine And.intro ?_ ?_; (focus (first | omega | decide | exact EqOk.mk (by kernel_rfl) (by kernel_rfl) (by kernel_rfl) | exact Int.natCast_nonneg _ | ((repeat' refine And.intro ?_ ?_) <;> first | omega | exact Int.natCast_nonneg _ | (simp only [i64max, u8max, u16max, u32max, u64max]; omega) | (simp only [mulSz_eq, Cont.len, colsLen, Col.len, List.length_cons, List.length_nil, List.length_replicate, List.length_append]; first | done | omega) | (simp [mulSz, Cont.len, bne]; first | done | omega)))); conv => whnf)
    | (refine tst_in ?_ ?_; (focus (intro h_; exfalso; first | omega | ((try simp only [decide_eq_true_eq, decide_eq_false_iff_not] at h_); omega) | (simp [mulSz, Cont.len, bne] at h_; first | done | omega))); intro _; conv => whnf)
    | (refine tst_in ?_ ?_; rotate_left; (focus (intro h_; exfalso; first | omega | ((try simp only [decide_eq_true_eq, decide_eq_false_iff_not] at h_); omega) | (simp [mulSz, Cont.len, bne] at h_; first | done | omega))); intro _; conv => whnf)
    | (refine ⟨0, (show _ = _ by omega), ?_⟩; conv => whnf))
  refine ⟨_, [0, 1], PQ, ?_⟩
  conv => whnf
  iterate 2
   refine And.intro ?_ ?_
   focus
    conv => whnf
    repeat' (first | exact True.intro | rfl | refine And.intro ?_ ?_)
    all_goals (conv => whnf)
    repeat' (first | exact True.intro | rfl | refine And.intro ?_ ?_)
    all_goals (try (first | rfl | omega | (simp; first | done | omega)))
  conv => whnf
  conv => whnf
  repeat (first
    | (refine And.intro ?_ ?_; (focus (first | omega | decide | exact EqOk.mk (by kernel_rfl) (by kernel_rfl) (by kernel_rfl) | exact Int.natCast_nonneg _ | ((repeat' refine And.intro ?_ ?_) <;> first | omega | exact Int.natCast_nonneg _ | (simp only [i64max, u8max, u16max, u32max, u64max]; omega) | (simp only [mulSz_eq, Cont.len, colsLen, Col.len, List.length_cons, List.length_nil, List.length_replicate, List.length_append]; first | done | omega) | (simp [mulSz, Cont.len, bne]; first | done | omega)))); conv => whnf)
    | (refine tst_in ?_ ?_; (focus (intro h_; exfalso; first | omega | ((try simp only [decide_eq_true_eq, decide_eq_false_iff_not] at h_); omega) | (simp [mulSz, Cont.len, bne] at h_; first | done | omega))); intro _; conv => whnf)
    | (refine tst_in ?_ ?_; rotate_left; (focus (intro h_; exfalso; first | omega | ((try simp only [decide_eq_true_eq, decide_eq_false_iff_not] at h_); omega) | (simp [mulSz, Cont.len, bne] at h_; first | done | omega))); intro _; conv => whnf)
    | (refine ⟨0, (show _ = _ by omega), ?_⟩; conv => whnf))
  refine ⟨⟨[0, 1, 9], (0, ⟨0, [], [], []⟩), ?_, ⟨Nat.zero_le _, rfl, rfl, rfl⟩⟩, ?_⟩
  · show stLe _ _ (st8 A B n ca cb g 0 ⟨0, [], [], []⟩) _
    conv => whnf
    repeat' (first | exact True.intro | rfl | refine And.intro ?_ ?_)
    all_goals (conv => whnf)
    repeat' (first | exact True.intro | rfl | refine And.intro ?_ ?_)
    all_goals (try omega)
  · intro ⟨i, t⟩ ⟨(hi : i ≤ n), (ht : t.ok)⟩
    show forceSt (st8 A B n ca cb g i t) _
    obtain ⟨(t1 : t.a.length = t.r), (t2 : t.l.length = t.r), (t3 : t.w.length = t.r)⟩ := id ht
    have RI := (rinv (bad A B) g i).1
    have hcap := RI.cap
    conv => whnf
    repeat (first
      | (refine And.intro ?_ ?_; (focus (first | omega | decide | exact EqOk.mk (by kernel_rfl) (by kernel_rfl) (by kernel_rfl) | exact Int.natCast_nonneg _ | ((repeat' refine And.intro ?_ ?_) <;> first | omega | exact Int.natCast_nonneg _ | (simp only [i64max, u8max, u16max, u32max, u64max]; omega) | (simp only [mulSz_eq, Cont.len, colsLen, Col.len, List.length_cons, List.length_nil, List.length_replicate, List.length_append]; first | done | omega) | (simp [mulSz, Cont.len, bne]; first | done | omega)))); conv => whnf)
      | (refine tst_in ?_ ?_; (focus (intro h_; exfalso; first | omega | ((try simp only [decide_eq_true_eq, decide_eq_false_iff_not] at h_); omega) | (simp [mulSz, Cont.len, bne] at h_; first | done | omega))); intro _; conv => whnf)
      | (refine tst_in ?_ ?_; rotate_left; (focus (intro h_; exfalso; first | omega | ((try simp only [decide_eq_true_eq, decide_eq_false_iff_not] at h_); omega) | (simp [mulSz, Cont.len, bne] at h_; first | done | omega))); intro _; conv => whnf)
      | (refine ⟨0, (show _ = _ by omega), ?_⟩; conv => whnf))
    refine tst_in (fun hlt => ?_) (fun hge => ?_)
    · skip
      have hlt : i < n := by simp at hlt; omega
      have hi0 : 0 + ((i : Int)).toNat = i := by omega
      conv => whnf
      repeat (first
        | (refine And.intro ?_ ?_; (focus (first | omega | decide | exact EqOk.mk (by kernel_rfl) (by kernel_rfl) (by kernel_rfl) | exact Int.natCast_nonneg _ | ((repeat' refine And.intro ?_ ?_) <;> first | omega | exact Int.natCast_nonneg _ | (simp only [i64max, u8max, u16max, u32max, u64max]; omega) | (simp only [mulSz_eq, Cont.len, colsLen, Col.len, List.length_cons, List.length_nil, List.length_replicate, List.length_append]; first | done | omega) | (simp [mulSz, Cont.len, bne]; first | done | omega)))); conv => whnf)
        | (refine tst_in ?_ ?_; (focus (intro h_; exfalso; first | omega | ((try simp only [decide_eq_true_eq, decide_eq_false_iff_not] at h_); omega) | (simp [mulSz, Cont.len, bne] at h_; first | done | omega))); intro _; conv => whnf)
        | (refine tst_in ?_ ?_; rotate_left; (focus (intro h_; exfalso; first | omega | ((try simp only [decide_eq_true_eq, decide_eq_false_iff_not] at h_); omega) | (simp [mulSz, Cont.len, bne] at h_; first | done | omega))); intro _; conv => whnf)
        | (refine ⟨0, (show _ = _ by omega), ?_⟩; conv => whnf))
      refine tst_in (fun q => ?_) (fun q' => ?_)
      · skip
        have hb : bad A B i = false := by rw [hi0] at q; unfold bad bne; rw [q]; rfl
        have hr := rs_no (g := g) hb
        conv => whnf
        repeat (first
          | (refine And.intro ?_ ?_; (focus (first | omega | decide | exact EqOk.mk (by kernel_rfl) (by kernel_rfl) (by kernel_rfl) | exact Int.natCast_nonneg _ | ((repeat' refine And.intro ?_ ?_) <;> first | omega | exact Int.natCast_nonneg _ | (simp only [i64max, u8max, u16max, u32max, u64max]; omega) | (simp only [mulSz_eq, Cont.len, colsLen, Col.len, List.length_cons, List.length_nil, List.length_replicate, List.length_append]; first | done | omega) | (simp [mulSz, Cont.len, bne]; first | done | omega)))); conv => whnf)
          | (refine tst_in ?_ ?_; (focus (intro h_; exfalso; first | omega | ((try simp only [decide_eq_true_eq, decide_eq_false_iff_not] at h_); omega) | (simp [mulSz, Cont.len, bne] at h_; first | done | omega))); intro _; conv => whnf)
          | (refine tst_in ?_ ?_; rotate_left; (focus (intro h_; exfalso; first | omega | ((try simp only [decide_eq_true_eq, decide_eq_false_iff_not] at h_); omega) | (simp [mulSz, Cont.len, bne] at h_; first | done | omega))); intro _; conv => whnf)
          | (refine ⟨0, (show _ = _ by omega), ?_⟩; conv => whnf))
        refine ⟨[0, 1, 2], (i + 1, t), ?_, ⟨(by show i + 1 ≤ n; omega), t1, t2, t3⟩, (by show n - (i + 1) < n - i; omega)⟩
        show stLe _ _ (st8 A B n ca cb g (i + 1) t) _
        unfold st8
        rw [hr]
        conv => whnf
        repeat' (first | exact True.intro | rfl | refine And.intro ?_ ?_)
        all_goals (conv => whnf)
        repeat' (first | exact True.intro | rfl | refine And.intro ?_ ?_)
        all_goals (try omega)
      · skip
        have hb : bad A B i = true := by rw [hi0] at q'; unfold bad bne; rw [q']; rfl
        by_cases hj : joins g (rs (bad A B) g i) i
        · have hr := rs_grow hb hj
          obtain ⟨m, hm⟩ : ∃ m, (rs (bad A B) g i).n = m + 1 := ⟨(rs (bad A B) g i).n - 1, by have := hj.1; omega⟩
          have ONE := RI.one m (by omega)
          have hj2 := hj.2
          rw [show (rs (bad A B) g i).n - 1 = m by omega] at hj2
          have vA : (tb (cA (rs (bad A B) g i)) (rs (bad A B) g i).n ++ t.a).getD m 0 = ((rs (bad A B) g i).A m : Nat) := tab_app _ _ _ (by omega)
          have vL : (tb (cL (rs (bad A B) g i)) (rs (bad A B) g i).n ++ t.l).getD m 0 = ((rs (bad A B) g i).E m : Nat) - ((rs (bad A B) g i).A m : Nat) := tab_app _ _ _ (by omega)
          have vW : (tb (cW (rs (bad A B) g i)) (rs (bad A B) g i).n ++ t.w).getD m 0 = ((rs (bad A B) g i).W m : Nat) := tab_app _ _ _ (by omega)
          conv => whnf
          repeat (first
            | (refine And.intro ?_ ?_; (focus (first | omega | decide | exact EqOk.mk (by kernel_rfl) (by kernel_rfl) (by kernel_rfl) | exact Int.natCast_nonneg _ | ((repeat' refine And.intro ?_ ?_) <;> first | omega | exact Int.natCast_nonneg _ | (simp only [i64max, u8max, u16max, u32max, u64max]; omega) | (simp only [mulSz_eq, Cont.len, colsLen, Col.len, List.length_cons, List.length_nil, List.length_replicate, List.length_append, tab_len, t1, t2, t3]; first | done | omega) | (simp [mulSz, Cont.len, bne, tab_len, t1, t2, t3]; first | done | omega)))); conv => whnf)
            | (refine tst_in ?_ ?_; (focus (intro h_; exfalso; first | omega | ((try simp only [decide_eq_true_eq, decide_eq_false_iff_not] at h_); omega) | (simp [mulSz, Cont.len, bne, tab_len, t1, t2, t3] at h_; first | done | omega))); intro _; conv => whnf)
            | (refine tst_in ?_ ?_; rotate_left; (focus (intro h_; exfalso; first | omega | ((try simp only [decide_eq_true_eq, decide_eq_false_iff_not] at h_); omega) | (simp [mulSz, Cont.len, bne, tab_len, t1, t2, t3] at h_; first | done | omega))); intro _; conv => whnf)
            | (refine ⟨(m), (show _ = _ by omega), ?_⟩; conv => whnf)
            | (refine ⟨(m), 0, (show _ = _ by omega), ?_⟩; conv => whnf)
            | (refine ⟨(m), 1, (show _ = _ by omega), ?_⟩; conv => whnf)
            | (refine ⟨(m), 2, (show _ = _ by omega), ?_⟩; conv => whnf)
            | (refine ⟨(m), 3, (show _ = _ by omega), ?_⟩; conv => whnf)
            | (refine ⟨(m), 4, (show _ = _ by omega), ?_⟩; conv => whnf)
            | (refine ⟨(m), 5, (show _ = _ by omega), ?_⟩; conv => whnf)
            | (refine ⟨0, (show _ = _ by omega), ?_⟩; conv => whnf))
          rw [vA]
          conv => whnf
          repeat (first
            | (refine And.intro ?_ ?_; (focus (first | omega | decide | exact EqOk.mk (by kernel_rfl) (by kernel_rfl) (by kernel_rfl) | exact Int.natCast_nonneg _ | ((repeat' refine And.intro ?_ ?_) <;> first | omega | exact Int.natCast_nonneg _ | (simp only [i64max, u8max, u16max, u32max, u64max]; omega) | (simp only [mulSz_eq, Cont.len, colsLen, Col.len, List.length_cons, List.length_nil, List.length_replicate, List.length_append, tab_len, t1, t2, t3]; first | done | omega) | (simp [mulSz, Cont.len, bne, tab_len, t1, t2, t3]; first | done | omega)))); conv => whnf)
            | (refine tst_in ?_ ?_; (focus (intro h_; exfalso; first | omega | ((try simp only [decide_eq_true_eq, decide_eq_false_iff_not] at h_); omega) | (simp [mulSz, Cont.len, bne, tab_len, t1, t2, t3] at h_; first | done | omega))); intro _; conv => whnf)
            | (refine tst_in ?_ ?_; rotate_left; (focus (intro h_; exfalso; first | omega | ((try simp only [decide_eq_true_eq, decide_eq_false_iff_not] at h_); omega) | (simp [mulSz, Cont.len, bne, tab_len, t1, t2, t3] at h_; first | done | omega))); intro _; conv => whnf)
            | (refine ⟨(m), (show _ = _ by omega), ?_⟩; conv => whnf)
            | (refine ⟨(m), 0, (show _ = _ by omega), ?_⟩; conv => whnf)
            | (refine ⟨(m), 1, (show _ = _ by omega), ?_⟩; conv => whnf)
            | (refine ⟨(m), 2, (show _ = _ by omega), ?_⟩; conv => whnf)
            | (refine ⟨(m), 3, (show _ = _ by omega), ?_⟩; conv => whnf)
            | (refine ⟨(m), 4, (show _ = _ by omega), ?_⟩; conv => whnf)
            | (refine ⟨(m), 5, (show _ = _ by omega), ?_⟩; conv => whnf)
            | (refine ⟨0, (show _ = _ by omega), ?_⟩; conv => whnf))
          rw [vL]
          conv => whnf
          repeat (first
            | (refine And.intro ?_ ?_; (focus (first | omega | decide | exact EqOk.mk (by kernel_rfl) (by kernel_rfl) (by kernel_rfl) | exact Int.natCast_nonneg _ | ((repeat' refine And.intro ?_ ?_) <;> first | omega | exact Int.natCast_nonneg _ | (simp only [i64max, u8max, u16max, u32max, u64max]; omega) | (simp only [mulSz_eq, Cont.len, colsLen, Col.len, List.length_cons, List.length_nil, List.length_replicate, List.length_append, tab_len, t1, t2, t3]; first | done | omega) | (simp [mulSz, Cont.len, bne, tab_len, t1, t2, t3]; first | done | omega)))); conv => whnf)
            | (refine tst_in ?_ ?_; (focus (intro h_; exfalso; first | omega | ((try simp only [decide_eq_true_eq, decide_eq_false_iff_not] at h_); omega) | (simp [mulSz, Cont.len, bne, tab_len, t1, t2, t3] at h_; first | done | omega))); intro _; conv => whnf)
            | (refine tst_in ?_ ?_; rotate_left; (focus (intro h_; exfalso; first | omega | ((try simp only [decide_eq_true_eq, decide_eq_false_iff_not] at h_); omega) | (simp [mulSz, Cont.len, bne, tab_len, t1, t2, t3] at h_; first | done | omega))); intro _; conv => whnf)
            | (refine ⟨(m), (show _ = _ by omega), ?_⟩; conv => whnf)
            | (refine ⟨(m), 0, (show _ = _ by omega), ?_⟩; conv => whnf)
            | (refine ⟨(m), 1, (show _ = _ by omega), ?_⟩; conv => whnf)
            | (refine ⟨(m), 2, (show _ = _ by omega), ?_⟩; conv => whnf)
            | (refine ⟨(m), 3, (show _ = _ by omega), ?_⟩; conv => whnf)
            | (refine ⟨(m), 4, (show _ = _ by omega), ?_⟩; conv => whnf)
            | (refine ⟨(m), 5, (show _ = _ by omega), ?_⟩; conv => whnf)
            | (refine ⟨0, (show _ = _ by omega), ?_⟩; conv => whnf))
          refine ⟨[0, 1, 2], (i + 1, t), ?_, ⟨(by show i + 1 ≤ n; omega), ht⟩, (by show n - (i + 1) < n - i; omega)⟩
          show stLe _ _ (st8 A B n ca cb g (i + 1) t) _
          unfold st8
          rw [hr]
          conv => whnf
          repeat' (first | exact True.intro | rfl | refine And.intro ?_ ?_)
          all_goals (conv => whnf)
          repeat' (first | exact True.intro | rfl | refine And.intro ?_ ?_)
          all_goals (try omega)
          · refine (set_tb (cL (rs (bad A B) g i)) (cL (grow (rs (bad A B) g i) i)) t.l (rs (bad A B) g i).n m _ (by omega) ?_ ?_).symm
            · show ((upd _ _ _ m : Nat) : Int) - _ = _
              rw [show (rs (bad A B) g i).n - 1 = m by omega, upd_s]
              show ((i + 1 : Nat) : Int) - (((rs (bad A B) g i).A m : Nat) : Int) = (i : Int) - (((rs (bad A B) g i).A m : Nat) : Int) + 1
              omega
            · intro j hjn hjm
              show _ = ((upd _ _ _ j : Nat) : Int) - _
              rw [upd_n _ _ (show j ≠ (rs (bad A B) g i).n - 1 by omega)]; rfl
          · rw [vW]
            refine (set_tb (cW (rs (bad A B) g i)) (cW (grow (rs (bad A B) g i) i)) t.w (rs (bad A B) g i).n m _ (by omega) ?_ ?_).symm
            · show ((upd _ _ _ m : Nat) : Int) = _
              rw [show (rs (bad A B) g i).n - 1 = m by omega, upd_s]; simp
            · intro j hjn hjm
              show _ = ((upd _ _ _ j : Nat) : Int)
              rw [upd_n _ _ (show j ≠ (rs (bad A B) g i).n - 1 by omega)]; rfl
        · have hr := rs_fresh hb hj
          by_cases h0 : (rs (bad A B) g i).n = 0
          · skip
            conv => whnf
            repeat (first
              | (refine And.intro ?_ ?_; (focus (first | omega | decide | exact EqOk.mk (by kernel_rfl) (by kernel_rfl) (by kernel_rfl) | exact Int.natCast_nonneg _ | ((repeat' refine And.intro ?_ ?_) <;> first | omega | exact Int.natCast_nonneg _ | (simp only [i64max, u8max, u16max, u32max, u64max]; omega) | (simp only [mulSz_eq, Cont.len, colsLen, Col.len, List.length_cons, List.length_nil, List.length_replicate, List.length_append, tab_len, t1, t2, t3, List.length_take, List.length_drop]; first | done | omega) | (simp [mulSz, Cont.len, bne, tab_len, t1, t2, t3, List.length_take, List.length_drop]; first | done | omega)))); conv => whnf)
              | (refine tst_in ?_ ?_; (focus (intro h_; exfalso; first | omega | ((try simp only [decide_eq_true_eq, decide_eq_false_iff_not] at h_); omega) | (simp [mulSz, Cont.len, bne, tab_len, t1, t2, t3, List.length_take, List.length_drop] at h_; first | done | omega))); intro _; conv => whnf)
              | (refine tst_in ?_ ?_; rotate_left; (focus (intro h_; exfalso; first | omega | ((try simp only [decide_eq_true_eq, decide_eq_false_iff_not] at h_); omega) | (simp [mulSz, Cont.len, bne, tab_len, t1, t2, t3, List.length_take, List.length_drop] at h_; first | done | omega))); intro _; conv => whnf)
              | (refine ⟨0, (show _ = _ by omega), ?_⟩; conv => whnf))
            intro r' a1 ha1 l1 hl1 w1 hw1
            conv => whnf
            repeat (first
              | (refine And.intro ?_ ?_; (focus (first | omega | decide | exact EqOk.mk (by kernel_rfl) (by kernel_rfl) (by kernel_rfl) | exact Int.natCast_nonneg _ | ((repeat' refine And.intro ?_ ?_) <;> first | omega | exact Int.natCast_nonneg _ | (simp only [i64max, u8max, u16max, u32max, u64max]; omega) | (simp only [mulSz_eq, Cont.len, colsLen, Col.len, List.length_cons, List.length_nil, List.length_replicate, List.length_append]; first | done | omega) | (simp [mulSz, Cont.len, bne]; first | done | omega)))); conv => whnf)
              | (refine tst_in ?_ ?_; (focus (intro h_; exfalso; first | omega | ((try simp only [decide_eq_true_eq, decide_eq_false_iff_not] at h_); omega) | (simp [mulSz, Cont.len, bne] at h_; first | done | omega))); intro _; conv => whnf)
              | (refine tst_in ?_ ?_; rotate_left; (focus (intro h_; exfalso; first | omega | ((try simp only [decide_eq_true_eq, decide_eq_false_iff_not] at h_); omega) | (simp [mulSz, Cont.len, bne] at h_; first | done | omega))); intro _; conv => whnf)
              | (refine ⟨0, (show _ = _ by omega), ?_⟩; conv => whnf))
            refine ⟨[0, 1, 4], (i + 1, ⟨r', a1, l1, w1⟩), ?_, ⟨(by show i + 1 ≤ n; omega), ha1, hl1, hw1⟩, (by show n - (i + 1) < n - i; omega)⟩
            show stLe _ _ (st8 A B n ca cb g (i + 1) ⟨r', a1, l1, w1⟩) _
            unfold st8
            rw [hr]
            conv => whnf
            repeat' (first | exact True.intro | rfl | refine And.intro ?_ ?_)
            all_goals (conv => whnf)
            repeat' (first | exact True.intro | rfl | refine And.intro ?_ ?_)
            all_goals (try omega)
            all_goals (try exact (push_tb (cA (rs (bad A B) g i)) (cA (fresh (rs (bad A B) g i) i)) t.a a1 _ _ (by show _ = ((upd _ _ _ _ : Nat) : Int); rw [upd_s]) (fun j hj => by show _ = ((upd _ _ _ j : Nat) : Int); rw [upd_n _ _ (show j ≠ (rs (bad A B) g i).n by omega)]; rfl)).symm)
            all_goals (try exact (push_tb (cL (rs (bad A B) g i)) (cL (fresh (rs (bad A B) g i) i)) t.l l1 _ _ (by show _ = ((upd _ _ _ _ : Nat) : Int) - ((upd _ _ _ _ : Nat) : Int); rw [upd_s, upd_s]; omega) (fun j hj => by show _ = ((upd _ _ _ j : Nat) : Int) - ((upd _ _ _ j : Nat) : Int); rw [upd_n _ _ (show j ≠ (rs (bad A B) g i).n by omega), upd_n _ _ (show j ≠ (rs (bad A B) g i).n by omega)]; rfl)).symm)
            all_goals (try exact (push_tb (cW (rs (bad A B) g i)) (cW (fresh (rs (bad A B) g i) i)) t.w w1 _ _ (by show _ = ((upd _ _ _ _ : Nat) : Int); rw [upd_s]; rfl) (fun j hj => by show _ = ((upd _ _ _ j : Nat) : Int); rw [upd_n _ _ (show j ≠ (rs (bad A B) g i).n by omega)]; rfl)).symm)
          · obtain ⟨m, hm⟩ : ∃ m, (rs (bad A B) g i).n = m + 1 := ⟨(rs (bad A B) g i).n - 1, by omega⟩
            have ONE := RI.one m (by omega)
            have hj3 : ¬ ((i : Int) - (rs (bad A B) g i).E m ≤ g) := fun h => hj ⟨by omega, by rw [show (rs (bad A B) g i).n - 1 = m by omega]; exact h⟩
            have vA : (tb (cA (rs (bad A B) g i)) (rs (bad A B) g i).n ++ t.a).getD m 0 = ((rs (bad A B) g i).A m : Nat) := tab_app _ _ _ (by omega)
            have vL : (tb (cL (rs (bad A B) g i)) (rs (bad A B) g i).n ++ t.l).getD m 0 = ((rs (bad A B) g i).E m : Nat) - ((rs (bad A B) g i).A m : Nat) := tab_app _ _ _ (by omega)
            have vW : (tb (cW (rs (bad A B) g i)) (rs (bad A B) g i).n ++ t.w).getD m 0 = ((rs (bad A B) g i).W m : Nat) := tab_app _ _ _ (by omega)
            conv => whnf
            repeat (first
              | (refine And.intro ?_ ?_; (focus (first | omega | decide | exact EqOk.mk (by kernel_rfl) (by kernel_rfl) (by kernel_rfl) | exact Int.natCast_nonneg _ | ((repeat' refine And.intro ?_ ?_) <;> first | omega | exact Int.natCast_nonneg _ | (simp only [i64max, u8max, u16max, u32max, u64max]; omega) | (simp only [mulSz_eq, Cont.len, colsLen, Col.len, List.length_cons, List.length_nil, List.length_replicate, List.length_append, tab_len, t1, t2, t3]; first | done | omega) | (simp [mulSz, Cont.len, bne, tab_len, t1, t2, t3]; first | done | omega)))); conv => whnf)
              | (refine tst_in ?_ ?_; (focus (intro h_; exfalso; first | omega | ((try simp only [decide_eq_true_eq, decide_eq_false_iff_not] at h_); omega) | (simp [mulSz, Cont.len, bne, tab_len, t1, t2, t3] at h_; first | done | omega))); intro _; conv => whnf)
              | (refine tst_in ?_ ?_; rotate_left; (focus (intro h_; exfalso; first | omega | ((try simp only [decide_eq_true_eq, decide_eq_false_iff_not] at h_); omega) | (simp [mulSz, Cont.len, bne, tab_len, t1, t2, t3] at h_; first | done | omega))); intro _; conv => whnf)
              | (refine ⟨(m), (show _ = _ by omega), ?_⟩; conv => whnf)
              | (refine ⟨(m), 0, (show _ = _ by omega), ?_⟩; conv => whnf)
              | (refine ⟨(m), 1, (show _ = _ by omega), ?_⟩; conv => whnf)
              | (refine ⟨(m), 2, (show _ = _ by omega), ?_⟩; conv => whnf)
              | (refine ⟨(m), 3, (show _ = _ by omega), ?_⟩; conv => whnf)
              | (refine ⟨(m), 4, (show _ = _ by omega), ?_⟩; conv => whnf)
              | (refine ⟨(m), 5, (show _ = _ by omega), ?_⟩; conv => whnf)
              | (refine ⟨0, (show _ = _ by omega), ?_⟩; conv => whnf))
            rw [vA]
            conv => whnf
            repeat (first
              | (refine And.intro ?_ ?_; (focus (first | omega | decide | exact EqOk.mk (by kernel_rfl) (by kernel_rfl) (by kernel_rfl) | exact Int.natCast_nonneg _ | ((repeat' refine And.intro ?_ ?_) <;> first | omega | exact Int.natCast_nonneg _ | (simp only [i64max, u8max, u16max, u32max, u64max]; omega) | (simp only [mulSz_eq, Cont.len, colsLen, Col.len, List.length_cons, List.length_nil, List.length_replicate, List.length_append, tab_len, t1, t2, t3]; first | done | omega) | (simp [mulSz, Cont.len, bne, tab_len, t1, t2, t3]; first | done | omega)))); conv => whnf)
              | (refine tst_in ?_ ?_; (focus (intro h_; exfalso; first | omega | ((try simp only [decide_eq_true_eq, decide_eq_false_iff_not] at h_); omega) | (simp [mulSz, Cont.len, bne, tab_len, t1, t2, t3] at h_; first | done | omega))); intro _; conv => whnf)
              | (refine tst_in ?_ ?_; rotate_left; (focus (intro h_; exfalso; first | omega | ((try simp only [decide_eq_true_eq, decide_eq_false_iff_not] at h_); omega) | (simp [mulSz, Cont.len, bne, tab_len, t1, t2, t3] at h_; first | done | omega))); intro _; conv => whnf)
              | (refine ⟨(m), (show _ = _ by omega), ?_⟩; conv => whnf)
              | (refine ⟨(m), 0, (show _ = _ by omega), ?_⟩; conv => whnf)
              | (refine ⟨(m), 1, (show _ = _ by omega), ?_⟩; conv => whnf)
              | (refine ⟨(m), 2, (show _ = _ by omega), ?_⟩; conv => whnf)
              | (refine ⟨(m), 3, (show _ = _ by omega), ?_⟩; conv => whnf)
              | (refine ⟨(m), 4, (show _ = _ by omega), ?_⟩; conv => whnf)
              | (refine ⟨(m), 5, (show _ = _ by omega), ?_⟩; conv => whnf)
              | (refine ⟨0, (show _ = _ by omega), ?_⟩; conv => whnf))
            rw [vL]
            conv => whnf
            repeat (first
              | (refine And.intro ?_ ?_; (focus (first | omega | decide | exact EqOk.mk (by kernel_rfl) (by kernel_rfl) (by kernel_rfl) | exact Int.natCast_nonneg _ | ((repeat' refine And.intro ?_ ?_) <;> first | omega | exact Int.natCast_nonneg _ | (simp only [i64max, u8max, u16max, u32max, u64max]; omega) | (simp only [mulSz_eq, Cont.len, colsLen, Col.len, List.length_cons, List.length_nil, List.length_replicate, List.length_append, tab_len, t1, t2, t3, List.length_take, List.length_drop]; first | done | omega) | (simp [mulSz, Cont.len, bne, tab_len, t1, t2, t3, List.length_take, List.length_drop]; first | done | omega)))); conv => whnf)
              | (refine tst_in ?_ ?_; (focus (intro h_; exfalso; first | omega | ((try simp only [decide_eq_true_eq, decide_eq_false_iff_not] at h_); omega) | (simp [mulSz, Cont.len, bne, tab_len, t1, t2, t3, List.length_take, List.length_drop] at h_; first | done | omega))); intro _; conv => whnf)
              | (refine tst_in ?_ ?_; rotate_left; (focus (intro h_; exfalso; first | omega | ((try simp only [decide_eq_true_eq, decide_eq_false_iff_not] at h_); omega) | (simp [mulSz, Cont.len, bne, tab_len, t1, t2, t3, List.length_take, List.length_drop] at h_; first | done | omega))); intro _; conv => whnf)
              | (refine ⟨(m), (show _ = _ by omega), ?_⟩; conv => whnf)
              | (refine ⟨(m), 0, (show _ = _ by omega), ?_⟩; conv => whnf)
              | (refine ⟨(m), 1, (show _ = _ by omega), ?_⟩; conv => whnf)
              | (refine ⟨(m), 2, (show _ = _ by omega), ?_⟩; conv => whnf)
              | (refine ⟨(m), 3, (show _ = _ by omega), ?_⟩; conv => whnf)
              | (refine ⟨(m), 4, (show _ = _ by omega), ?_⟩; conv => whnf)
              | (refine ⟨(m), 5, (show _ = _ by omega), ?_⟩; conv => whnf)
              | (refine ⟨0, (show _ = _ by omega), ?_⟩; conv => whnf))
            intro r' a1 ha1 l1 hl1 w1 hw1
            conv => whnf
            repeat (first
              | (refine And.intro ?_ ?_; (focus (first | omega | decide | exact EqOk.mk (by kernel_rfl) (by kernel_rfl) (by kernel_rfl) | exact Int.natCast_nonneg _ | ((repeat' refine And.intro ?_ ?_) <;> first | omega | exact Int.natCast_nonneg _ | (simp only [i64max, u8max, u16max, u32max, u64max]; omega) | (simp only [mulSz_eq, Cont.len, colsLen, Col.len, List.length_cons, List.length_nil, List.length_replicate, List.length_append]; first | done | omega) | (simp [mulSz, Cont.len, bne]; first | done | omega)))); conv => whnf)
              | (refine tst_in ?_ ?_; (focus (intro h_; exfalso; first | omega | ((try simp only [decide_eq_true_eq, decide_eq_false_iff_not] at h_); omega) | (simp [mulSz, Cont.len, bne] at h_; first | done | omega))); intro _; conv => whnf)
              | (refine tst_in ?_ ?_; rotate_left; (focus (intro h_; exfalso; first | omega | ((try simp only [decide_eq_true_eq, decide_eq_false_iff_not] at h_); omega) | (simp [mulSz, Cont.len, bne] at h_; first | done | omega))); intro _; conv => whnf)
              | (refine ⟨0, (show _ = _ by omega), ?_⟩; conv => whnf))
            refine ⟨[0, 1, 4], (i + 1, ⟨r', a1, l1, w1⟩), ?_, ⟨(by show i + 1 ≤ n; omega), ha1, hl1, hw1⟩, (by show n - (i + 1) < n - i; omega)⟩
            show stLe _ _ (st8 A B n ca cb g (i + 1) ⟨r', a1, l1, w1⟩) _
            unfold st8
            rw [hr]
            conv => whnf
            repeat' (first | exact True.intro | rfl | refine And.intro ?_ ?_)
            all_goals (conv => whnf)
            repeat' (first | exact True.intro | rfl | refine And.intro ?_ ?_)
            all_goals (try omega)
            all_goals (try exact (push_tb (cA (rs (bad A B) g i)) (cA (fresh (rs (bad A B) g i) i)) t.a a1 _ _ (by show _ = ((upd _ _ _ _ : Nat) : Int); rw [upd_s]) (fun j hj => by show _ = ((upd _ _ _ j : Nat) : Int); rw [upd_n _ _ (show j ≠ (rs (bad A B) g i).n by omega)]; rfl)).symm)
            all_goals (try exact (push_tb (cL (rs (bad A B) g i)) (cL (fresh (rs (bad A B) g i) i)) t.l l1 _ _ (by show _ = ((upd _ _ _ _ : Nat) : Int) - ((upd _ _ _ _ : Nat) : Int); rw [upd_s, upd_s]; omega) (fun j hj => by show _ = ((upd _ _ _ j : Nat) : Int) - ((upd _ _ _ j : Nat) : Int); rw [upd_n _ _ (show j ≠ (rs (bad A B) g i).n by omega), upd_n _ _ (show j ≠ (rs (bad A B) g i).n by omega)]; rfl)).symm)
            all_goals (try exact (push_tb (cW (rs (bad A B) g i)) (cW (fresh (rs (bad A B) g i) i)) t.w w1 _ _ (by show _ = ((upd _ _ _ _ : Nat) : Int); rw [upd_s]; rfl) (fun j hj => by show _ = ((upd _ _ _ j : Nat) : Int); rw [upd_n _ _ (show j ≠ (rs (bad A B) g i).n by omega)]; rfl)).symm)
    · skip
      have hge : i = n := by simp at hge; omega
      subst hge
      conv => whnf
      repeat (first
        | (refine And.intro ?_ ?_; (focus (first | omega | decide | exact EqOk.mk (by kernel_rfl) (by kernel_rfl) (by kernel_rfl) | exact Int.natCast_nonneg _ | ((repeat' refine And.intro ?_ ?_) <;> first | omega | exact Int.natCast_nonneg _ | (simp only [i64max, u8max, u16max, u32max, u64max]; omega) | (simp only [mulSz_eq, Cont.len, colsLen, Col.len, List.length_cons, List.length_nil, List.length_replicate, List.length_append]; first | done | omega) | (simp [mulSz, Cont.len, bne]; first | done | omega)))); conv => whnf)
        | (refine tst_in ?_ ?_; (focus (intro h_; exfalso; first | omega | ((try simp only [decide_eq_true_eq, decide_eq_false_iff_not] at h_); omega) | (simp [mulSz, Cont.len, bne] at h_; first | done | omega))); intro _; conv => whnf)
        | (refine tst_in ?_ ?_; rotate_left; (focus (intro h_; exfalso; first | omega | ((try simp only [decide_eq_true_eq, decide_eq_false_iff_not] at h_); omega) | (simp [mulSz, Cont.len, bne] at h_; first | done | omega))); intro _; conv => whnf)
        | (refine ⟨0, (show _ = _ by omega), ?_⟩; conv => whnf))
      refine .inl ⟨t, [0, 1, 2], ?_⟩
      conv => whnf
      repeat' (first | exact True.intro | rfl | refine And.intro ?_ ?_)
      all_goals (conv => whnf)
      repeat' (first | exact True.intro | rfl | refine And.intro ?_ ?_)
      all_goals (try omega)
end Go.Proofs.Ythcaoofpjjffiaa

set_option linter.unusedVariables false
set_option linter.unusedSimpArgs false
namespace Go.Proofs.Ythcaoofpjjffiaa
open Go Go.Fw
theorem cnt_mono (bad : Nat → Bool) (k : Nat) : ∀ n, k ≤ n → cnt bad k ≤ cnt bad n
  | 0, h => by rw [show k = 0 by omega]; exact Nat.le_refl _
  | n + 1, h => by
    by_cases h2 : k = n + 1
    · subst h2; exact Nat.le_refl _
    · exact Nat.le_trans (cnt_mono bad k n (by omega)) (Nat.le_add_right _ _)
theorem fs_zero (bad : Nat → Bool) : ∀ n, cnt bad n = 0 → fs bad n = 0
  | 0, _ => rfl
  | n + 1, h => by
    have h1 := cnt_mono bad n (n + 1) (by omega)
    cases hb : bad n
    · rw [fs_n hb]; exact fs_zero bad n (by omega)
    · rw [cnt_y hb] at h; omega
theorem fs_first {bad : Nat → Bool} {f : Nat} (hb : bad f = true) (hc : cnt bad f = 0) : ∀ n, f < n → fs bad n = f
  | 0, h => absurd h (by omega)
  | n + 1, h => by
    by_cases h2 : f = n
    · subst h2; exact fs_y hb hc
    · have h1 := cnt_mono bad (f + 1) n (by omega)
      rw [cnt_y hb] at h1
      rw [fs_o (by omega)]
      exact fs_first hb hc n (by omega)
def lastP (bad : Nat → Bool) (n k f : Nat) : Prop := (cnt bad n = cnt bad k ∧ f = 0) ∨ (k ≤ f ∧ f < n ∧ bad f = true ∧ cnt bad f = cnt bad k)
theorem last_end {bad : Nat → Bool} {n f : Nat} (h : lastP bad n 0 f) : f = fs bad n := by
  rcases h with ⟨h1, h2⟩ | ⟨h1, h2, h3, h4⟩
  · rw [fs_zero bad n h1, h2]
  · rw [fs_first h3 h4 n h2]
noncomputable def c7 : Code := (Try.f7.body).getD .skip
def st7 (A B : List Bool) (n ca cb k f : Nat) : St := ⟨slotsAt 41 [(0, .slice 0 0 n ca), (1, .slice 1 0 n cb), (7, .int .i64 ((cnt (bad A B) n - cnt (bad A B) k : Nat) : Int)), (8, .int .i64 f), (9, .int .i64 ((k : Int) - 1))], [boS false A, boS false B]⟩
def inv7 (A B : List Bool) (n ca cb : Nat) : LInv := ⟨Nat × Nat, fun t => st7 A B n ca cb t.1 t.2, fun t => t.1 ≤ n ∧ t.2 ≤ n ∧ lastP (bad A B) n t.1 t.2, fun t => t.1⟩
set_option maxHeartbeats 0 in
set_option maxRecDepth 100000 in
theorem rErrors_y (A B : List Bool) (n ca cb : Nat) (hn : n ≤ 32768) (hA : n ≤ A.length) (hB : n ≤ B.length) (hca : n ≤ ca) (hcb : n ≤ cb) :
    QFits Try.prog 7 ⟨[.slice 0 0 n ca, .slice 1 0 n cb], [boS false A, boS false B], errV (cnt (bad A B) n) (fs (bad A B) n)⟩ := by
  unfold errV
  have hc := cnt_le (bad A B) n
  refine qfits_of_body (C := cfgs 2) (c := c7) (ts := [4, 5, 6]) tokL mixedL (fun | 6 => some (inv7 A B n ca cb) | _ => none) (fun _ => none)
    Try.func7 (by kernel_rfl) (by kernel_rfl) (by kernel_rfl) (by kernel_rfl) (by kernel_rfl) rfl rfl ?_
  conv => whnf
  repeat (first
    | (refine And.intro ?_ ?_; (focus (first | omega | decide | exact EqOk.mk (by kernel_rfl) (by kernel_rfl) (by kernel_rfl) | exact Int.natCast_nonneg _ | ((repeat' refine And.intro ?_ ?_) <;> first | omega | exact Int.natCast_nonneg _ | (simp only [i64max, u8max, u16max, u32max, u64max]; omega) | (simp only [mulSz_eq, Cont.len, colsLen, Col.len, List.length_cons, List.length_nil, List.length_replicate, List.length_append]; first | done | omega) | (simp [mulSz, Cont.len, bne]; first | done | omega)))); conv => whnf)
    | (refine tst_in ?_ ?_; (focus (intro h_; exfalso; first | omega | ((try simp only [decide_eq_true_eq, decide_eq_false_iff_not] at h_); omega) | (simp [mulSz, Cont.len, bne] at h_; first | done | omega))); intro _; conv => whnf)
    | (refine tst_in ?_ ?_; rotate_left; (focus (intro h_; exfalso; first | omega | ((try simp only [decide_eq_true_eq, decide_eq_false_iff_not] at h_); omega) | (simp [mulSz, Cont.len, bne] at h_; first | done | omega))); intro _; conv => whnf)
    | (refine ⟨0, (show _ = _ by omega), ?_⟩; conv => whnf))
  refine ⟨⟨[0, 1], (n, 0), ?_, ⟨Nat.le_refl _, Nat.zero_le _, .inl ⟨rfl, rfl⟩⟩⟩, ?_⟩
  · show stLe _ _ (st7 A B n ca cb n 0) _
    conv => whnf
    repeat' (first | exact True.intro | rfl | refine And.intro ?_ ?_)
    all_goals (conv => whnf)
    repeat' (first | exact True.intro | rfl | refine And.intro ?_ ?_)
    all_goals (try omega)
    all_goals (try (show ((cnt (bad A B) n - cnt (bad A B) n : Nat) : Int) = _; rw [Nat.sub_self]; rfl))
  · rintro ⟨k, f⟩ ⟨(hk : k ≤ n), (hf : f ≤ n), (hP : lastP (bad A B) n k f)⟩
    show forceSt (st7 A B n ca cb k f) _
    conv => whnf
    repeat (first
      | (refine And.intro ?_ ?_; (focus (first | omega | decide | exact EqOk.mk (by kernel_rfl) (by kernel_rfl) (by kernel_rfl) | exact Int.natCast_nonneg _ | ((repeat' refine And.intro ?_ ?_) <;> first | omega | exact Int.natCast_nonneg _ | (simp only [i64max, u8max, u16max, u32max, u64max]; omega) | (simp only [mulSz_eq, Cont.len, colsLen, Col.len, List.length_cons, List.length_nil, List.length_replicate, List.length_append]; first | done | omega) | (simp [mulSz, Cont.len, bne]; first | done | omega)))); conv => whnf)
      | (refine tst_in ?_ ?_; (focus (intro h_; exfalso; first | omega | ((try simp only [decide_eq_true_eq, decide_eq_false_iff_not] at h_); omega) | (simp [mulSz, Cont.len, bne] at h_; first | done | omega))); intro _; conv => whnf)
      | (refine tst_in ?_ ?_; rotate_left; (focus (intro h_; exfalso; first | omega | ((try simp only [decide_eq_true_eq, decide_eq_false_iff_not] at h_); omega) | (simp [mulSz, Cont.len, bne] at h_; first | done | omega))); intro _; conv => whnf)
      | (refine ⟨0, (show _ = _ by omega), ?_⟩; conv => whnf))
    refine tst_in (fun hlt => ?_) (fun hge => ?_)
    · skip
      have hlt : 1 ≤ k := by simp at hlt; omega
      obtain ⟨j, rfl⟩ : ∃ j, k = j + 1 := ⟨k - 1, by omega⟩
      have hi0 : 0 + (((j + 1 : Nat) : Int) - 1).toNat = j := by omega
      have m1 := cnt_mono (bad A B) j n (by omega)
      have m2 := cnt_mono (bad A B) (j + 1) n (by omega)
      conv => whnf
      repeat (first
        | (refine And.intro ?_ ?_; (focus (first | omega | decide | exact EqOk.mk (by kernel_rfl) (by kernel_rfl) (by kernel_rfl) | exact Int.natCast_nonneg _ | ((repeat' refine And.intro ?_ ?_) <;> first | omega | exact Int.natCast_nonneg _ | (simp only [i64max, u8max, u16max, u32max, u64max]; omega) | (simp only [mulSz_eq, Cont.len, colsLen, Col.len, List.length_cons, List.length_nil, List.length_replicate, List.length_append]; first | done | omega) | (simp [mulSz, Cont.len, bne]; first | done | omega)))); conv => whnf)
        | (refine tst_in ?_ ?_; (focus (intro h_; exfalso; first | omega | ((try simp only [decide_eq_true_eq, decide_eq_false_iff_not] at h_); omega) | (simp [mulSz, Cont.len, bne] at h_; first | done | omega))); intro _; conv => whnf)
        | (refine tst_in ?_ ?_; rotate_left; (focus (intro h_; exfalso; first | omega | ((try simp only [decide_eq_true_eq, decide_eq_false_iff_not] at h_); omega) | (simp [mulSz, Cont.len, bne] at h_; first | done | omega))); intro _; conv => whnf)
        | (refine ⟨0, (show _ = _ by omega), ?_⟩; conv => whnf))
      refine tst_in (fun q => ?_) (fun q' => ?_)
      · skip
        have hb : bad A B j = true := by rw [hi0] at q; exact q
        have e1 := cnt_y hb
        conv => whnf
        repeat (first
          | (refine And.intro ?_ ?_; (focus (first | omega | decide | exact EqOk.mk (by kernel_rfl) (by kernel_rfl) (by kernel_rfl) | exact Int.natCast_nonneg _ | ((repeat' refine And.intro ?_ ?_) <;> first | omega | exact Int.natCast_nonneg _ | (simp only [i64max, u8max, u16max, u32max, u64max]; omega) | (simp only [mulSz_eq, Cont.len, colsLen, Col.len, List.length_cons, List.length_nil, List.length_replicate, List.length_append]; first | done | omega) | (simp [mulSz, Cont.len, bne]; first | done | omega)))); conv => whnf)
          | (refine tst_in ?_ ?_; (focus (intro h_; exfalso; first | omega | ((try simp only [decide_eq_true_eq, decide_eq_false_iff_not] at h_); omega) | (simp [mulSz, Cont.len, bne] at h_; first | done | omega))); intro _; conv => whnf)
          | (refine tst_in ?_ ?_; rotate_left; (focus (intro h_; exfalso; first | omega | ((try simp only [decide_eq_true_eq, decide_eq_false_iff_not] at h_); omega) | (simp [mulSz, Cont.len, bne] at h_; first | done | omega))); intro _; conv => whnf)
          | (refine ⟨0, (show _ = _ by omega), ?_⟩; conv => whnf))
        refine ⟨[0, 1], (j, j), ?_, ⟨(by show j ≤ n; omega), (by show j ≤ n; omega), .inr ⟨Nat.le_refl _, by omega, hb, rfl⟩⟩, (by show j < j + 1; omega)⟩
        show stLe _ _ (st7 A B n ca cb j j) _
        conv => whnf
        repeat' (first | exact True.intro | rfl | refine And.intro ?_ ?_)
        all_goals (conv => whnf)
        repeat' (first | exact True.intro | rfl | refine And.intro ?_ ?_)
        all_goals (try omega)
        all_goals (first | omega | (show ((cnt (bad A B) n - cnt (bad A B) j : Nat) : Int) = _; omega))
      · skip
        have hb : bad A B j = false := by rw [hi0] at q'; exact q'
        have e1 := cnt_n hb
        conv => whnf
        repeat (first
          | (refine And.intro ?_ ?_; (focus (first | omega | decide | exact EqOk.mk (by kernel_rfl) (by kernel_rfl) (by kernel_rfl) | exact Int.natCast_nonneg _ | ((repeat' refine And.intro ?_ ?_) <;> first | omega | exact Int.natCast_nonneg _ | (simp only [i64max, u8max, u16max, u32max, u64max]; omega) | (simp only [mulSz_eq, Cont.len, colsLen, Col.len, List.length_cons, List.length_nil, List.length_replicate, List.length_append]; first | done | omega) | (simp [mulSz, Cont.len, bne]; first | done | omega)))); conv => whnf)
          | (refine tst_in ?_ ?_; (focus (intro h_; exfalso; first | omega | ((try simp only [decide_eq_true_eq, decide_eq_false_iff_not] at h_); omega) | (simp [mulSz, Cont.len, bne] at h_; first | done | omega))); intro _; conv => whnf)
          | (refine tst_in ?_ ?_; rotate_left; (focus (intro h_; exfalso; first | omega | ((try simp only [decide_eq_true_eq, decide_eq_false_iff_not] at h_); omega) | (simp [mulSz, Cont.len, bne] at h_; first | done | omega))); intro _; conv => whnf)
          | (refine ⟨0, (show _ = _ by omega), ?_⟩; conv => whnf))
        refine ⟨[0, 1], (j, f), ?_, ⟨(by show j ≤ n; omega), hf, by unfold lastP at *; rw [e1] at hP; rcases hP with h | h; exact .inl h; exact .inr ⟨by omega, h.2⟩⟩, (by show j < j + 1; omega)⟩
        show stLe _ _ (st7 A B n ca cb j f) _
        conv => whnf
        repeat' (first | exact True.intro | rfl | refine And.intro ?_ ?_)
        all_goals (conv => whnf)
        repeat' (first | exact True.intro | rfl | refine And.intro ?_ ?_)
        all_goals (try omega)
        all_goals (first | omega | (show ((cnt (bad A B) n - cnt (bad A B) j : Nat) : Int) = _; omega))
    · skip
      have hge : k = 0 := by simp at hge; omega
      subst hge
      conv => whnf
      repeat (first
        | (refine And.intro ?_ ?_; (focus (first | omega | decide | exact EqOk.mk (by kernel_rfl) (by kernel_rfl) (by kernel_rfl) | exact Int.natCast_nonneg _ | ((repeat' refine And.intro ?_ ?_) <;> first | omega | exact Int.natCast_nonneg _ | (simp only [i64max, u8max, u16max, u32max, u64max]; omega) | (simp only [mulSz_eq, Cont.len, colsLen, Col.len, List.length_cons, List.length_nil, List.length_replicate, List.length_append]; first | done | omega) | (simp [mulSz, Cont.len, bne]; first | done | omega)))); conv => whnf)
        | (refine tst_in ?_ ?_; (focus (intro h_; exfalso; first | omega | ((try simp only [decide_eq_true_eq, decide_eq_false_iff_not] at h_); omega) | (simp [mulSz, Cont.len, bne] at h_; first | done | omega))); intro _; conv => whnf)
        | (refine tst_in ?_ ?_; rotate_left; (focus (intro h_; exfalso; first | omega | ((try simp only [decide_eq_true_eq, decide_eq_false_iff_not] at h_); omega) | (simp [mulSz, Cont.len, bne] at h_; first | done | omega))); intro _; conv => whnf)
        | (refine ⟨0, (show _ = _ by omega), ?_⟩; conv => whnf))
      rw [last_end hP]
      repeat' (first | exact True.intro | rfl | refine And.intro ?_ ?_)
set_option maxHeartbeats 0 in
set_option maxRecDepth 100000 in
theorem Errors_n (A B : List Bool) (n m ca cb : Nat) (hn : n ≤ 4611686018427387) (hm : m ≤ 4611686018427387) (hv : ¬ (n ≤ 32768 ∧ n = m)) :
    QFits Try.prog 6 ⟨[.slice 0 0 n ca, .slice 1 0 m cb], [boS false A, boS false B], .tup [.int .i64 0, .int .i64 0, .int .i64 1]⟩ := by
  have PQ := pair_q A B n m ca cb (by omega) (by omega) false ⟨fun h => absurd h (by decide), fun h => absurd h hv⟩
  refine qfits_of_body (C := cfgs 2) (c := c6) (ts := [4, 5, 6]) tokL mixedL (fun _ => none) (fun _ => none)
    Try.func6 (by kernel_rfl) (by kernel_rfl) (by kernel_rfl) (by kernel_rfl) (by kernel_rfl) rfl rfl ?_
  conv => whnf
  repeat (first
    | (refine And.intro ?_ ?_; (focus (first | omega | decide | exact EqOk.mk (by kernel_rfl) (by kernel_rfl) (by kernel_rfl) | exact Int.natCast_nonneg _ | ((repeat' refine And.intro ?_ ?_) <;> first | omega | exact Int.natCast_nonneg _ | (simp only [i64max, u8max, u16max, u32max, u64max]; omega) | (simp only [mulSz_eq, Cont.len, colsLen, Col.len, List.length_cons, List.length_nil, List.length_replicate, List.length_append]; first | done | omega) | (simp [mulSz, Cont.len, bne]; first | done | omega)))); conv => whnf)
    | (refine tst_in ?_ ?_; (focus (intro h_; exfalso; first | omega | ((try simp only [decide_eq_true_eq, decide_eq_false_iff_not] at h_); omega) | (simp [mulSz, Cont.len, bne] at h_; first | done | omega))); intro _; conv => whnf)
    | (refine tst_in ?_ ?_; rotate_left; (focus (intro h_; exfalso; first | omega | ((try simp only [decide_eq_true_eq, decide_eq_false_iff_not] at h_); omega) | (simp [mulSz, Cont.len, bne] at h_; first | done | omega))); intro _; conv => whnf)
    | (refine ⟨0, (show _ = _ by omega), ?_⟩; conv => whnf))
  refine ⟨_, [0, 1], PQ, ?_⟩
  conv => whnf
  iterate 2
   refine And.intro ?_ ?_
   focus
    conv => whnf
    repeat' (first | exact True.intro | rfl | refine And.intro ?_ ?_)
    all_goals (conv => whnf)
    repeat' (first | exact True.intro | rfl | refine And.intro ?_ ?_)
    all_goals (try (first | rfl | omega | (simp; first | done | omega)))
  conv => whnf
  conv => whnf
  repeat (first
    | (refine And.intro ?_ ?_; (focus (first | omega | decide | exact EqOk.mk (by kernel_rfl) (by kernel_rfl) (by kernel_rfl) | exact Int.natCast_nonneg _ | ((repeat' refine And.intro ?_ ?_) <;> first | omega | exact Int.natCast_nonneg _ | (simp only [i64max, u8max, u16max, u32max, u64max]; omega) | (simp only [mulSz_eq, Cont.len, colsLen, Col.len, List.length_cons, List.length_nil, List.length_replicate, List.length_append]; first | done | omega) | (simp [mulSz, Cont.len, bne]; first | done | omega)))); conv => whnf)
    | (refine tst_in ?_ ?_; (focus (intro h_; exfalso; first | omega | ((try simp only [decide_eq_true_eq, decide_eq_false_iff_not] at h_); omega) | (simp [mulSz, Cont.len, bne] at h_; first | done | omega))); intro _; conv => whnf)
    | (refine tst_in ?_ ?_; rotate_left; (focus (intro h_; exfalso; first | omega | ((try simp only [decide_eq_true_eq, decide_eq_false_iff_not] at h_); omega) | (simp [mulSz, Cont.len, bne] at h_; first | done | omega))); intro _; conv => whnf)
    | (refine ⟨0, (show _ = _ by omega), ?_⟩; conv => whnf))
  repeat' (first | exact True.intro | rfl | refine And.intro ?_ ?_)
set_option maxHeartbeats 0 in
set_option maxRecDepth 100000 in
theorem rErrors_n (A B : List Bool) (n m ca cb : Nat) (hn : n ≤ 4611686018427387) (hm : m ≤ 4611686018427387) (hv : ¬ (n ≤ 32768 ∧ n = m)) :
    QFits Try.prog 7 ⟨[.slice 0 0 n ca, .slice 1 0 m cb], [boS false A, boS false B], .tup [.int .i64 0, .int .i64 0, .int .i64 1]⟩ := by
  refine qfits_of_body (C := cfgs 2) (c := c7) (ts := [4, 5, 6]) tokL mixedL (fun _ => none) (fun _ => none)
    Try.func7 (by kernel_rfl) (by kernel_rfl) (by kernel_rfl) (by kernel_rfl) (by kernel_rfl) rfl rfl ?_
  by_cases h1 : n ≤ 32768
  · have h2 : ¬ m = n := fun h => hv ⟨h1, h.symm⟩
    conv => whnf
    repeat (first
      | (refine And.intro ?_ ?_; (focus (first | omega | decide | exact EqOk.mk (by kernel_rfl) (by kernel_rfl) (by kernel_rfl) | exact Int.natCast_nonneg _ | ((repeat' refine And.intro ?_ ?_) <;> first | omega | exact Int.natCast_nonneg _ | (simp only [i64max, u8max, u16max, u32max, u64max]; omega) | (simp only [mulSz_eq, Cont.len, colsLen, Col.len, List.length_cons, List.length_nil, List.length_replicate, List.length_append]; first | done | omega) | (simp [mulSz, Cont.len, bne]; first | done | omega)))); conv => whnf)
      | (refine tst_in ?_ ?_; (focus (intro h_; exfalso; first | omega | ((try simp only [decide_eq_true_eq, decide_eq_false_iff_not] at h_); omega) | (simp [mulSz, Cont.len, bne] at h_; first | done | omega))); intro _; conv => whnf)
      | (refine tst_in ?_ ?_; rotate_left; (focus (intro h_; exfalso; first | omega | ((try simp only [decide_eq_true_eq, decide_eq_false_iff_not] at h_); omega) | (simp [mulSz, Cont.len, bne] at h_; first | done | omega))); intro _; conv => whnf)
      | (refine ⟨0, (show _ = _ by omega), ?_⟩; conv => whnf))
    repeat' (first | exact True.intro | rfl | refine And.intro ?_ ?_)
  · skip
    conv => whnf
    repeat (first
      | (refine And.intro ?_ ?_; (focus (first | omega | decide | exact EqOk.mk (by kernel_rfl) (by kernel_rfl) (by kernel_rfl) | exact Int.natCast_nonneg _ | ((repeat' refine And.intro ?_ ?_) <;> first | omega | exact Int.natCast_nonneg _ | (simp only [i64max, u8max, u16max, u32max, u64max]; omega) | (simp only [mulSz_eq, Cont.len, colsLen, Col.len, List.length_cons, List.length_nil, List.length_replicate, List.length_append]; first | done | omega) | (simp [mulSz, Cont.len, bne]; first | done | omega)))); conv => whnf)
      | (refine tst_in ?_ ?_; (focus (intro h_; exfalso; first | omega | ((try simp only [decide_eq_true_eq, decide_eq_false_iff_not] at h_); omega) | (simp [mulSz, Cont.len, bne] at h_; first | done | omega))); intro _; conv => whnf)
      | (refine tst_in ?_ ?_; rotate_left; (focus (intro h_; exfalso; first | omega | ((try simp only [decide_eq_true_eq, decide_eq_false_iff_not] at h_); omega) | (simp [mulSz, Cont.len, bne] at h_; first | done | omega))); intro _; conv => whnf)
      | (refine ⟨0, (show _ = _ by omega), ?_⟩; conv => whnf))
    repeat' (first | exact True.intro | rfl | refine And.intro ?_ ?_)
end Go.Proofs.Ythcaoofpjjffiaa

set_option linter.unusedVariables false
set_option linter.unusedSimpArgs false
namespace Go.Proofs.Ythcaoofpjjffiaa
open Go Go.Fw
def rs0 : RS := ⟨0, fun _ => 0, fun _ => 0, fun _ => 0⟩
def runOutE (D : List Seg) (k : Nat) (s : RS) (e : Int) : FOut := ⟨RT, fun t => t.ok, fun t => .tup [.slice k 0 s.n (s.n + t.r), .int .i64 e], fun t => D ++ [runS true s t.a t.l t.w]⟩
set_option maxHeartbeats 0 in
set_option maxRecDepth 100000 in
theorem Runs_n (A B : List Bool) (n m ca cb : Nat) (g : Int) (hn : n ≤ 4611686018427387) (hm : m ≤ 4611686018427387) (hv : ¬ (n ≤ 32768 ∧ n = m) ∨ g < 0) :
    Fits Try.prog 8 ⟨[.slice 0 0 n ca, .slice 1 0 m cb, .int .i64 g], [boS false A, boS false B], [runOutE [.dead, .dead] 2 rs0 1]⟩ := by
  refine fits_of_body (C := cfgs 2) (c := c8) (ts := [6, 7]) tokL mixedL (fun _ => none) (fun _ => none)
    Try.func8 (by kernel_rfl) (by kernel_rfl) (by kernel_rfl) (by kernel_rfl) rfl ?_
  by_cases h : n ≤ 32768 ∧ n = m
  · have PQ := pair_q A B n m ca cb (by omega) (by omega) true ⟨fun _ => h, fun _ => rfl⟩
    have hg : g < 0 := by rcases hv with hv | hv; exact absurd h hv; exact hv
    conv => whnf
    repeat (first
      | (refine And.intro ?_ ?_; (focus (first | omega | decide | exact EqOk.mk (by kernel_rfl) (by kernel_rfl) (by kernel_rfl) | exact Int.natCast_nonneg _ | ((repeat' refine And.intro ?_ ?_) <;> first | omega | exact Int.natCast_nonneg _ | (simp only [i64max, u8max, u16max, u32max, u64max]; omega) | (simp only [mulSz_eq, Cont.len, colsLen, Col.len, List.length_cons, List.length_nil, List.length_replicate, List.length_append]; first | done | omega) | (simp [mulSz, Cont.len, bne]; first | done | omega)))); conv => whnf)
      | (refine tst_in ?_ ?_; (focus (intro h_; exfalso; first | omega | ((try simp only [decide_eq_true_eq, decide_eq_false_iff_not] at h_); omega) | (simp [mulSz, Cont.len, bne] at h_; first | done | omega))); intro _; conv => whnf)
      | (refine tst_in ?_ ?_; rotate_left; (focus (intro h_; exfalso; first | omega | ((try simp only [decide_eq_true_eq, decide_eq_false_iff_not] at h_); omega) | (simp [mulSz, Cont.len, bne] at h_; first | done | omega))); intro _; conv => whnf)
      | (refine ⟨0, (show _ = _ by omega), ?_⟩; conv => whnf))
    refine ⟨_, [0, 1], PQ, ?_⟩
    conv => whnf
    iterate 2
     refine And.intro ?_ ?_
     focus
      conv => whnf
      repeat' (first | exact True.intro | rfl | refine And.intro ?_ ?_)
      all_goals (conv => whnf)
      repeat' (first | exact True.intro | rfl | refine And.intro ?_ ?_)
      all_goals (try (first | rfl | omega | (simp; first | done | omega)))
    conv => whnf
    conv => whnf
    repeat (first
      | (refine And.intro ?_ ?_; (focus (first | omega | decide | exact EqOk.mk (by kernel_rfl) (by kernel_rfl) (by kernel_rfl) | exact Int.natCast_nonneg _ | ((repeat' refine And.intro ?_ ?_) <;> first | omega | exact Int.natCast_nonneg _ | (simp only [i64max, u8max, u16max, u32max, u64max]; omega) | (simp only [mulSz_eq, Cont.len, colsLen, Col.len, List.length_cons, List.length_nil, List.length_replicate, List.length_append]; first | done | omega) | (simp [mulSz, Cont.len, bne]; first | done | omega)))); conv => whnf)
      | (refine tst_in ?_ ?_; (focus (intro h_; exfalso; first | omega | ((try simp only [decide_eq_true_eq, decide_eq_false_iff_not] at h_); omega) | (simp [mulSz, Cont.len, bne] at h_; first | done | omega))); intro _; conv => whnf)
      | (refine tst_in ?_ ?_; rotate_left; (focus (intro h_; exfalso; first | omega | ((try simp only [decide_eq_true_eq, decide_eq_false_iff_not] at h_); omega) | (simp [mulSz, Cont.len, bne] at h_; first | done | omega))); intro _; conv => whnf)
      | (refine ⟨0, (show _ = _ by omega), ?_⟩; conv => whnf))
    refine .inl ⟨⟨0, [], [], []⟩, [0, 1, 9], ?_⟩
    conv => whnf
    repeat' (first | exact True.intro | rfl | refine And.intro ?_ ?_)
    all_goals (conv => whnf)
    repeat' (first | exact True.intro | rfl | refine And.intro ?_ ?_)
    all_goals (try omega)
  · have PQ := pair_q A B n m ca cb (by omega) (by omega) false ⟨fun h => absurd h (by decide), fun hh => absurd hh h⟩
    conv => whnf
    repeat (first
      | (refine And.intro ?_ ?_; (focus (first | omega | decide | exact EqOk.mk (by kernel_rfl) (by kernel_rfl) (by kernel_rfl) | exact Int.natCast_nonneg _ | ((repeat' refine And.intro ?_ ?_) <;> first | omega | exact Int.natCast_nonneg _ | (simp only [i64max, u8max, u16max, u32max, u64max]; omega) | (simp only [mulSz_eq, Cont.len, colsLen, Col.len, List.length_cons, List.length_nil, List.length_replicate, List.length_append]; first | done | omega) | (simp [mulSz, Cont.len, bne]; first | done | omega)))); conv => whnf)
      | (refine tst_in ?_ ?_; (focus (intro h_; exfalso; first | omega | ((try simp only [decide_eq_true_eq, decide_eq_false_iff_not] at h_); omega) | (simp [mulSz, Cont.len, bne] at h_; first | done | omega))); intro _; conv => whnf)
      | (refine tst_in ?_ ?_; rotate_left; (focus (intro h_; exfalso; first | omega | ((try simp only [decide_eq_true_eq, decide_eq_false_iff_not] at h_); omega) | (simp [mulSz, Cont.len, bne] at h_; first | done | omega))); intro _; conv => whnf)
      | (refine ⟨0, (show _ = _ by omega), ?_⟩; conv => whnf))
    refine ⟨_, [0, 1], PQ, ?_⟩
    conv => whnf
    iterate 2
     refine And.intro ?_ ?_
     focus
      conv => whnf
      repeat' (first | exact True.intro | rfl | refine And.intro ?_ ?_)
      all_goals (conv => whnf)
      repeat' (first | exact True.intro | rfl | refine And.intro ?_ ?_)
      all_goals (try (first | rfl | omega | (simp; first | done | omega)))
    conv => whnf
    conv => whnf
    repeat (first
      | (refine And.intro ?_ ?_; (focus (first | omega | decide | exact EqOk.mk (by kernel_rfl) (by kernel_rfl) (by kernel_rfl) | exact Int.natCast_nonneg _ | ((repeat' refine And.intro ?_ ?_) <;> first | omega | exact Int.natCast_nonneg _ | (simp only [i64max, u8max, u16max, u32max, u64max]; omega) | (simp only [mulSz_eq, Cont.len, colsLen, Col.len, List.length_cons, List.length_nil, List.length_replicate, List.length_append]; first | done | omega) | (simp [mulSz, Cont.len, bne]; first | done | omega)))); conv => whnf)
      | (refine tst_in ?_ ?_; (focus (intro h_; exfalso; first | omega | ((try simp only [decide_eq_true_eq, decide_eq_false_iff_not] at h_); omega) | (simp [mulSz, Cont.len, bne] at h_; first | done | omega))); intro _; conv => whnf)
      | (refine tst_in ?_ ?_; rotate_left; (focus (intro h_; exfalso; first | omega | ((try simp only [decide_eq_true_eq, decide_eq_false_iff_not] at h_); omega) | (simp [mulSz, Cont.len, bne] at h_; first | done | omega))); intro _; conv => whnf)
      | (refine ⟨0, (show _ = _ by omega), ?_⟩; conv => whnf))
    refine .inl ⟨⟨0, [], [], []⟩, [0, 1, 9], ?_⟩
    conv => whnf
    repeat' (first | exact True.intro | rfl | refine And.intro ?_ ?_)
    all_goals (conv => whnf)
    repeat' (first | exact True.intro | rfl | refine And.intro ?_ ?_)
    all_goals (try omega)
noncomputable def c9 : Code := (Try.f9.body).getD .skip
set_option maxHeartbeats 0 in
set_option maxRecDepth 100000 in
theorem rRuns_n (A B : List Bool) (n m ca cb : Nat) (g : Int) (hn : n ≤ 4611686018427387) (hm : m ≤ 4611686018427387) (hv : ¬ (n ≤ 32768 ∧ n = m) ∨ g < 0) :
    Fits Try.prog 9 ⟨[.slice 0 0 n ca, .slice 1 0 m cb, .int .i64 g], [boS false A, boS false B], [runOutE [.dead, .dead] 2 rs0 1]⟩ := by
  refine fits_of_body (C := cfgs 2) (c := c9) (ts := [6, 7]) tokL mixedL (fun _ => none) (fun _ => none)
    Try.func9 (by kernel_rfl) (by kernel_rfl) (by kernel_rfl) (by kernel_rfl) rfl ?_
  by_cases h : n ≤ 32768
  · by_cases h2 : m = n
    · have hg : g < 0 := by rcases hv with hv | hv; exact absurd ⟨h, h2.symm⟩ hv; exact hv
      conv => whnf
      repeat (first
        | (refine And.intro ?_ ?_; (focus (first | omega | decide | exact EqOk.mk (by kernel_rfl) (by kernel_rfl) (by kernel_rfl) | exact Int.natCast_nonneg _ | ((repeat' refine And.intro ?_ ?_) <;> first | omega | exact Int.natCast_nonneg _ | (simp only [i64max, u8max, u16max, u32max, u64max]; omega) | (simp only [mulSz_eq, Cont.len, colsLen, Col.len, List.length_cons, List.length_nil, List.length_replicate, List.length_append]; first | done | omega) | (simp [mulSz, Cont.len, bne]; first | done | omega)))); conv => whnf)
        | (refine tst_in ?_ ?_; (focus (intro h_; exfalso; first | omega | ((try simp only [decide_eq_true_eq, decide_eq_false_iff_not] at h_); omega) | (simp [mulSz, Cont.len, bne] at h_; first | done | omega))); intro _; conv => whnf)
        | (refine tst_in ?_ ?_; rotate_left; (focus (intro h_; exfalso; first | omega | ((try simp only [decide_eq_true_eq, decide_eq_false_iff_not] at h_); omega) | (simp [mulSz, Cont.len, bne] at h_; first | done | omega))); intro _; conv => whnf)
        | (refine ⟨0, (show _ = _ by omega), ?_⟩; conv => whnf))
      refine .inl ⟨⟨0, [], [], []⟩, [0, 1, 9], ?_⟩
      conv => whnf
      repeat' (first | exact True.intro | rfl | refine And.intro ?_ ?_)
      all_goals (conv => whnf)
      repeat' (first | exact True.intro | rfl | refine And.intro ?_ ?_)
      all_goals (try omega)
    · skip
      conv => whnf
      repeat (first
        | (refine And.intro ?_ ?_; (focus (first | omega | decide | exact EqOk.mk (by kernel_rfl) (by kernel_rfl) (by kernel_rfl) | exact Int.natCast_nonneg _ | ((repeat' refine And.intro ?_ ?_) <;> first | omega | exact Int.natCast_nonneg _ | (simp only [i64max, u8max, u16max, u32max, u64max]; omega) | (simp only [mulSz_eq, Cont.len, colsLen, Col.len, List.length_cons, List.length_nil, List.length_replicate, List.length_append]; first | done | omega) | (simp [mulSz, Cont.len, bne]; first | done | omega)))); conv => whnf)
        | (refine tst_in ?_ ?_; (focus (intro h_; exfalso; first | omega | ((try simp only [decide_eq_true_eq, decide_eq_false_iff_not] at h_); omega) | (simp [mulSz, Cont.len, bne] at h_; first | done | omega))); intro _; conv => whnf)
        | (refine tst_in ?_ ?_; rotate_left; (focus (intro h_; exfalso; first | omega | ((try simp only [decide_eq_true_eq, decide_eq_false_iff_not] at h_); omega) | (simp [mulSz, Cont.len, bne] at h_; first | done | omega))); intro _; conv => whnf)
        | (refine ⟨0, (show _ = _ by omega), ?_⟩; conv => whnf))
      refine .inl ⟨⟨0, [], [], []⟩, [0, 1, 9], ?_⟩
      conv => whnf
      repeat' (first | exact True.intro | rfl | refine And.intro ?_ ?_)
      all_goals (conv => whnf)
      repeat' (first | exact True.intro | rfl | refine And.intro ?_ ?_)
      all_goals (try omega)
  · skip
    conv => whnf
    repeat (first
      | (refine And.intro ?_ ?_; (focus (first | omega | decide | exact EqOk.mk (by kernel_rfl) (by kernel_rfl) (by kernel_rfl) | exact Int.natCast_nonneg _ | ((repeat' refine And.intro ?_ ?_) <;> first | omega | exact Int.natCast_nonneg _ | (simp only [i64max, u8max, u16max, u32max, u64max]; omega) | (simp only [mulSz_eq, Cont.len, colsLen, Col.len, List.length_cons, List.length_nil, List.length_replicate, List.length_append]; first | done | omega) | (simp [mulSz, Cont.len, bne]; first | done | omega)))); conv => whnf)
      | (refine tst_in ?_ ?_; (focus (intro h_; exfalso; first | omega | ((try simp only [decide_eq_true_eq, decide_eq_false_iff_not] at h_); omega) | (simp [mulSz, Cont.len, bne] at h_; first | done | omega))); intro _; conv => whnf)
      | (refine tst_in ?_ ?_; rotate_left; (focus (intro h_; exfalso; first | omega | ((try simp only [decide_eq_true_eq, decide_eq_false_iff_not] at h_); omega) | (simp [mulSz, Cont.len, bne] at h_; first | done | omega))); intro _; conv => whnf)
      | (refine ⟨0, (show _ = _ by omega), ?_⟩; conv => whnf))
    refine .inl ⟨⟨0, [], [], []⟩, [0, 1, 9], ?_⟩
    conv => whnf
    repeat' (first | exact True.intro | rfl | refine And.intro ?_ ?_)
    all_goals (conv => whnf)
    repeat' (first | exact True.intro | rfl | refine And.intro ?_ ?_)
    all_goals (try omega)
def lst (s : RS) : Int := if s.n = 0 then -1 else (s.E (s.n - 1) : Nat) - 1
def st9 (A B : List Bool) (n ca cb : Nat) (g : Int) (i : Nat) (t : RT) : St :=
  ⟨slotsAt 80 [(0, .slice 0 0 n ca), (1, .slice 1 0 n cb), (2, .int .i64 g), (8, .slice 2 0 (rs (bad A B) g i).n ((rs (bad A B) g i).n + t.r)), (9, .int .i64 (lst (rs (bad A B) g i))), (10, .int .i64 i)], [boS false A, boS false B, runS true (rs (bad A B) g i) t.a t.l t.w]⟩
def inv9 (A B : List Bool) (n ca cb : Nat) (g : Int) : LInv :=
  ⟨Nat × RT, fun t => st9 A B n ca cb g t.1 t.2, fun t => t.1 ≤ n ∧ t.2.ok, fun t => n - t.1⟩
theorem cL_grow (s : RS) (i m : Nat) (h : s.n - 1 = m) : cL (grow s i) m = (i : Int) - (s.A m : Nat) + 1 := by
  show ((upd s.E (s.n - 1) (i + 1) m : Nat) : Int) - (s.A m : Nat) = _
  rw [h, upd_s]; omega
theorem cW_grow (s : RS) (i m : Nat) (h : s.n - 1 = m) : cW (grow s i) m = (s.W m : Nat) + 1 := by
  show ((upd s.W (s.n - 1) (s.W (s.n - 1) + 1) m : Nat) : Int) = _
  rw [h, upd_s]; omega
theorem cL_keep (s : RS) (i j : Nat) (h : j ≠ s.n - 1) : cL s j = cL (grow s i) j := by
  show _ = ((upd s.E (s.n - 1) (i + 1) j : Nat) : Int) - _
  rw [upd_n _ _ h]; rfl
theorem cW_keep (s : RS) (i j : Nat) (h : j ≠ s.n - 1) : cW s j = cW (grow s i) j := by
  show _ = ((upd s.W (s.n - 1) (s.W (s.n - 1) + 1) j : Nat) : Int)
  rw [upd_n _ _ h]; rfl
set_option maxHeartbeats 0 in
set_option maxRecDepth 100000 in
theorem rRuns_y (A B : List Bool) (n ca cb : Nat) (g : Int) (hn : n ≤ 32768) (hA : n ≤ A.length) (hB : n ≤ B.length) (hca : n ≤ ca) (hcb : n ≤ cb) (hg : 0 ≤ g) (hg2 : g ≤ 9223372036854775807) :
    Fits Try.prog 9 ⟨[.slice 0 0 n ca, .slice 1 0 n cb, .int .i64 g], [boS false A, boS false B], [runOut [.dead, .dead] 2 (rs (bad A B) g n)]⟩ := by
  refine fits_of_body (C := cfgs 2) (c := c9) (ts := [6, 7]) tokL mixedL (fun | 6 => some (inv9 A B n ca cb g) | _ => none) (fun _ => none)
    Try.func9 (by kernel_rfl) (by kernel_rfl) (by kernel_rfl) (by kernel_rfl) rfl ?_
  conv => whnf
  repeat (first
    | (refine And.intro ?_ ?_; (focus (first | omega | decide | exact EqOk.mk (by kernel_rfl) (by kernel_rfl) (by kernel_rfl) | exact Int.natCast_nonneg _ | ((repeat' refine And.intro ?_ ?_) <;> first | omega | exact Int.natCast_nonneg _ | (simp only [i64max, u8max, u16max, u32max, u64max]; omega) | (simp only [mulSz_eq, Cont.len, colsLen, Col.len, List.length_cons, List.length_nil, List.length_replicate, List.length_append]; first | done | omega) | (simp [mulSz, Cont.len, bne]; first | done | omega)))); conv => whnf)
    | (refine tst_in ?_ ?_; (focus (intro h_; exfalso; first | omega | ((try simp only [decide_eq_true_eq, decide_eq_false_iff_not] at h_); omega) | (simp [mulSz, Cont.len, bne] at h_; first | done | omega))); intro _; conv => whnf)
    | (refine tst_in ?_ ?_; rotate_left; (focus (intro h_; exfalso; first | omega | ((try simp only [decide_eq_true_eq, decide_eq_false_iff_not] at h_); omega) | (simp [mulSz, Cont.len, bne] at h_; first | done | omega))); intro _; conv => whnf)
    | (refine ⟨0, (show _ = _ by omega), ?_⟩; conv => whnf))
  refine ⟨⟨[0, 1, 9], (0, ⟨0, [], [], []⟩), ?_, ⟨Nat.zero_le _, rfl, rfl, rfl⟩⟩, ?_⟩
  · show stLe _ _ (st9 A B n ca cb g 0 ⟨0, [], [], []⟩) _
    conv => whnf
    repeat' (first | exact True.intro | rfl | refine And.intro ?_ ?_)
    all_goals (conv => whnf)
    repeat' (first | exact True.intro | rfl | refine And.intro ?_ ?_)
    all_goals (try omega)
  · intro ⟨i, t⟩ ⟨(hi : i ≤ n), (ht : t.ok)⟩
    show forceSt (st9 A B n ca cb g i t) _
    obtain ⟨(t1 : t.a.length = t.r), (t2 : t.l.length = t.r), (t3 : t.w.length = t.r)⟩ := id ht
    have RI := (rinv (bad A B) g i).1
    have hcap := RI.cap
    conv => whnf
    repeat (first
      | (refine And.intro ?_ ?_; (focus (first | omega | decide | exact EqOk.mk (by kernel_rfl) (by kernel_rfl) (by kernel_rfl) | exact Int.natCast_nonneg _ | ((repeat' refine And.intro ?_ ?_) <;> first | omega | exact Int.natCast_nonneg _ | (simp only [i64max, u8max, u16max, u32max, u64max]; omega) | (simp only [mulSz_eq, Cont.len, colsLen, Col.len, List.length_cons, List.length_nil, List.length_replicate, List.length_append]; first | done | omega) | (simp [mulSz, Cont.len, bne]; first | done | omega)))); conv => whnf)
      | (refine tst_in ?_ ?_; (focus (intro h_; exfalso; first | omega | ((try simp only [decide_eq_true_eq, decide_eq_false_iff_not] at h_); omega) | (simp [mulSz, Cont.len, bne] at h_; first | done | omega))); intro _; conv => whnf)
      | (refine tst_in ?_ ?_; rotate_left; (focus (intro h_; exfalso; first | omega | ((try simp only [decide_eq_true_eq, decide_eq_false_iff_not] at h_); omega) | (simp [mulSz, Cont.len, bne] at h_; first | done | omega))); intro _; conv => whnf)
      | (refine ⟨0, (show _ = _ by omega), ?_⟩; conv => whnf))
    refine tst_in (fun hlt => ?_) (fun hge => ?_)
    · skip
      have hlt : i < n := by simp at hlt; omega
      have hi0 : 0 + ((i : Int)).toNat = i := by omega
      conv => whnf
      repeat (first
        | (refine And.intro ?_ ?_; (focus (first | omega | decide | exact EqOk.mk (by kernel_rfl) (by kernel_rfl) (by kernel_rfl) | exact Int.natCast_nonneg _ | ((repeat' refine And.intro ?_ ?_) <;> first | omega | exact Int.natCast_nonneg _ | (simp only [i64max, u8max, u16max, u32max, u64max]; omega) | (simp only [mulSz_eq, Cont.len, colsLen, Col.len, List.length_cons, List.length_nil, List.length_replicate, List.length_append]; first | done | omega) | (simp [mulSz, Cont.len, bne]; first | done | omega)))); conv => whnf)
        | (refine tst_in ?_ ?_; (focus (intro h_; exfalso; first | omega | ((try simp only [decide_eq_true_eq, decide_eq_false_iff_not] at h_); omega) | (simp [mulSz, Cont.len, bne] at h_; first | done | omega))); intro _; conv => whnf)
        | (refine tst_in ?_ ?_; rotate_left; (focus (intro h_; exfalso; first | omega | ((try simp only [decide_eq_true_eq, decide_eq_false_iff_not] at h_); omega) | (simp [mulSz, Cont.len, bne] at h_; first | done | omega))); intro _; conv => whnf)
        | (refine ⟨0, (show _ = _ by omega), ?_⟩; conv => whnf))
      refine tst_in (fun q => ?_) (fun q' => ?_)
      · skip
        have hb : bad A B i = false := by rw [hi0] at q; unfold bad bne; rw [q]; rfl
        have hr := rs_no (g := g) hb
        conv => whnf
        repeat (first
          | (refine And.intro ?_ ?_; (focus (first | omega | decide | exact EqOk.mk (by kernel_rfl) (by kernel_rfl) (by kernel_rfl) | exact Int.natCast_nonneg _ | ((repeat' refine And.intro ?_ ?_) <;> first | omega | exact Int.natCast_nonneg _ | (simp only [i64max, u8max, u16max, u32max, u64max]; omega) | (simp only [mulSz_eq, Cont.len, colsLen, Col.len, List.length_cons, List.length_nil, List.length_replicate, List.length_append]; first | done | omega) | (simp [mulSz, Cont.len, bne]; first | done | omega)))); conv => whnf)
          | (refine tst_in ?_ ?_; (focus (intro h_; exfalso; first | omega | ((try simp only [decide_eq_true_eq, decide_eq_false_iff_not] at h_); omega) | (simp [mulSz, Cont.len, bne] at h_; first | done | omega))); intro _; conv => whnf)
          | (refine tst_in ?_ ?_; rotate_left; (focus (intro h_; exfalso; first | omega | ((try simp only [decide_eq_true_eq, decide_eq_false_iff_not] at h_); omega) | (simp [mulSz, Cont.len, bne] at h_; first | done | omega))); intro _; conv => whnf)
          | (refine ⟨0, (show _ = _ by omega), ?_⟩; conv => whnf))
        refine ⟨[0, 1, 2], (i + 1, t), ?_, ⟨(by show i + 1 ≤ n; omega), t1, t2, t3⟩, (by show n - (i + 1) < n - i; omega)⟩
        show stLe _ _ (st9 A B n ca cb g (i + 1) t) _
        unfold st9
        rw [hr]
        conv => whnf
        repeat' (first | exact True.intro | rfl | refine And.intro ?_ ?_)
        all_goals (conv => whnf)
        repeat' (first | exact True.intro | rfl | refine And.intro ?_ ?_)
        all_goals (try omega)
      · skip
        have hb : bad A B i = true := by rw [hi0] at q'; unfold bad bne; rw [q']; rfl
        by_cases hj : joins g (rs (bad A B) g i) i
        · have hr := rs_grow hb hj
          obtain ⟨m, hm⟩ : ∃ m, (rs (bad A B) g i).n = m + 1 := ⟨(rs (bad A B) g i).n - 1, by have := hj.1; omega⟩
          have ONE := RI.one m (by omega)
          have hj2 := hj.2
          rw [show (rs (bad A B) g i).n - 1 = m by omega] at hj2
          have hl : lst (rs (bad A B) g i) = ((rs (bad A B) g i).E m : Nat) - 1 := by unfold lst; rw [if_neg (by omega), show (rs (bad A B) g i).n - 1 = m by omega]
          have hl2 : lst (grow (rs (bad A B) g i) i) = (i : Int) := by
            show (if (rs (bad A B) g i).n = 0 then (-1 : Int) else ((upd (rs (bad A B) g i).E ((rs (bad A B) g i).n - 1) (i + 1) ((rs (bad A B) g i).n - 1) : Nat) : Int) - 1) = _
            rw [if_neg (by omega), upd_s]; omega
          have vA : (tb (cA (rs (bad A B) g i)) (rs (bad A B) g i).n ++ t.a).getD m 0 = ((rs (bad A B) g i).A m : Nat) := tab_app _ _ _ (by omega)
          have vL : (tb (cL (rs (bad A B) g i)) (rs (bad A B) g i).n ++ t.l).getD m 0 = ((rs (bad A B) g i).E m : Nat) - ((rs (bad A B) g i).A m : Nat) := tab_app _ _ _ (by omega)
          have vW : (tb (cW (rs (bad A B) g i)) (rs (bad A B) g i).n ++ t.w).getD m 0 = ((rs (bad A B) g i).W m : Nat) := tab_app _ _ _ (by omega)
          rw [hl]
          conv => whnf
          repeat (first
            | (refine And.intro ?_ ?_; (focus (first | omega | decide | exact EqOk.mk (by kernel_rfl) (by kernel_rfl) (by kernel_rfl) | exact Int.natCast_nonneg _ | ((repeat' refine And.intro ?_ ?_) <;> first | omega | exact Int.natCast_nonneg _ | (simp only [i64max, u8max, u16max, u32max, u64max]; omega) | (simp only [mulSz_eq, Cont.len, colsLen, Col.len, List.length_cons, List.length_nil, List.length_replicate, List.length_append, tab_len, t1, t2, t3]; first | done | omega) | (simp [mulSz, Cont.len, bne, tab_len, t1, t2, t3]; first | done | omega)))); conv => whnf)
            | (refine tst_in ?_ ?_; (focus (intro h_; exfalso; first | omega | ((try simp only [decide_eq_true_eq, decide_eq_false_iff_not] at h_); omega) | (simp [mulSz, Cont.len, bne, tab_len, t1, t2, t3] at h_; first | done | omega))); intro _; conv => whnf)
            | (refine tst_in ?_ ?_; rotate_left; (focus (intro h_; exfalso; first | omega | ((try simp only [decide_eq_true_eq, decide_eq_false_iff_not] at h_); omega) | (simp [mulSz, Cont.len, bne, tab_len, t1, t2, t3] at h_; first | done | omega))); intro _; conv => whnf)
            | (refine ⟨(m), (show _ = _ by omega), ?_⟩; conv => whnf)
            | (refine ⟨(m), 0, (show _ = _ by omega), ?_⟩; conv => whnf)
            | (refine ⟨(m), 1, (show _ = _ by omega), ?_⟩; conv => whnf)
            | (refine ⟨(m), 2, (show _ = _ by omega), ?_⟩; conv => whnf)
            | (refine ⟨(m), 3, (show _ = _ by omega), ?_⟩; conv => whnf)
            | (refine ⟨(m), 4, (show _ = _ by omega), ?_⟩; conv => whnf)
            | (refine ⟨(m), 5, (show _ = _ by omega), ?_⟩; conv => whnf)
            | (refine ⟨0, (show _ = _ by omega), ?_⟩; conv => whnf))
          rw [vA, vL, vW]
          conv => whnf
          repeat (first
            | (refine And.intro ?_ ?_; (focus (first | omega | decide | exact EqOk.mk (by kernel_rfl) (by kernel_rfl) (by kernel_rfl) | exact Int.natCast_nonneg _ | ((repeat' refine And.intro ?_ ?_) <;> first | omega | exact Int.natCast_nonneg _ | (simp only [i64max, u8max, u16max, u32max, u64max]; omega) | (simp only [mulSz_eq, Cont.len, colsLen, Col.len, List.length_cons, List.length_nil, List.length_replicate, List.length_append, tab_len, t1, t2, t3]; first | done | omega) | (simp [mulSz, Cont.len, bne, tab_len, t1, t2, t3]; first | done | omega)))); conv => whnf)
            | (refine tst_in ?_ ?_; (focus (intro h_; exfalso; first | omega | ((try simp only [decide_eq_true_eq, decide_eq_false_iff_not] at h_); omega) | (simp [mulSz, Cont.len, bne, tab_len, t1, t2, t3] at h_; first | done | omega))); intro _; conv => whnf)
            | (refine tst_in ?_ ?_; rotate_left; (focus (intro h_; exfalso; first | omega | ((try simp only [decide_eq_true_eq, decide_eq_false_iff_not] at h_); omega) | (simp [mulSz, Cont.len, bne, tab_len, t1, t2, t3] at h_; first | done | omega))); intro _; conv => whnf)
            | (refine ⟨(m), (show _ = _ by omega), ?_⟩; conv => whnf)
            | (refine ⟨(m), 0, (show _ = _ by omega), ?_⟩; conv => whnf)
            | (refine ⟨(m), 1, (show _ = _ by omega), ?_⟩; conv => whnf)
            | (refine ⟨(m), 2, (show _ = _ by omega), ?_⟩; conv => whnf)
            | (refine ⟨(m), 3, (show _ = _ by omega), ?_⟩; conv => whnf)
            | (refine ⟨(m), 4, (show _ = _ by omega), ?_⟩; conv => whnf)
            | (refine ⟨(m), 5, (show _ = _ by omega), ?_⟩; conv => whnf)
            | (refine ⟨0, (show _ = _ by omega), ?_⟩; conv => whnf))
          refine ⟨[0, 1, 2], (i + 1, t), ?_, ⟨(by show i + 1 ≤ n; omega), ht⟩, (by show n - (i + 1) < n - i; omega)⟩
          show stLe _ _ (st9 A B n ca cb g (i + 1) t) _
          unfold st9
          rw [hr, hl2]
          conv => whnf
          repeat' (first | exact True.intro | rfl | refine And.intro ?_ ?_)
          all_goals (conv => whnf)
          repeat' (first | exact True.intro | rfl | refine And.intro ?_ ?_)
          all_goals (try omega)
          · exact (set_tb (cA (rs (bad A B) g i)) (cA (grow (rs (bad A B) g i) i)) t.a (rs (bad A B) g i).n m _ (by omega) rfl (fun _ _ _ => rfl)).symm
          · exact (set_tb (cL (rs (bad A B) g i)) (cL (grow (rs (bad A B) g i) i)) t.l (rs (bad A B) g i).n m _ (by omega) (cL_grow _ i m (by omega)) (fun j _ h => cL_keep _ i j (by omega))).symm
          · exact (set_tb (cW (rs (bad A B) g i)) (cW (grow (rs (bad A B) g i) i)) t.w (rs (bad A B) g i).n m _ (by omega) (cW_grow _ i m (by omega)) (fun j _ h => cW_keep _ i j (by omega))).symm
        · have hr := rs_fresh hb hj
          have hl2 : lst (fresh (rs (bad A B) g i) i) = (i : Int) := by
            show (if (rs (bad A B) g i).n + 1 = 0 then (-1 : Int) else ((upd (rs (bad A B) g i).E (rs (bad A B) g i).n (i + 1) ((rs (bad A B) g i).n + 1 - 1) : Nat) : Int) - 1) = _
            rw [if_neg (by omega), Nat.add_sub_cancel, upd_s]; omega
          have hl : lst (rs (bad A B) g i) < 0 ∨ 0 ≤ lst (rs (bad A B) g i) ∧ g < (i : Int) - lst (rs (bad A B) g i) - 1 := by
            by_cases h0 : (rs (bad A B) g i).n = 0
            · unfold lst; rw [if_pos h0]; omega
            · have ONE := RI.one ((rs (bad A B) g i).n - 1) (by omega)
              have : ¬ ((i : Int) - (rs (bad A B) g i).E ((rs (bad A B) g i).n - 1) ≤ g) := fun h => hj ⟨by omega, h⟩
              unfold lst; rw [if_neg h0]; omega
          have hlb : -1 ≤ lst (rs (bad A B) g i) ∧ lst (rs (bad A B) g i) ≤ 32768 := by
            by_cases h0 : (rs (bad A B) g i).n = 0
            · unfold lst; rw [if_pos h0]; omega
            · have ONE := RI.one ((rs (bad A B) g i).n - 1) (by omega)
              unfold lst; rw [if_neg h0]; omega
          rcases hl with hl | ⟨hl, hl3⟩
          all_goals (
            conv => whnf
            repeat (first
              | (refine And.intro ?_ ?_; (focus (first | omega | decide | exact EqOk.mk (by kernel_rfl) (by kernel_rfl) (by kernel_rfl) | exact Int.natCast_nonneg _ | ((repeat' refine And.intro ?_ ?_) <;> first | omega | exact Int.natCast_nonneg _ | (simp only [i64max, u8max, u16max, u32max, u64max]; omega) | (simp only [mulSz_eq, Cont.len, colsLen, Col.len, List.length_cons, List.length_nil, List.length_replicate, List.length_append, tab_len, t1, t2, t3, List.length_take, List.length_drop]; first | done | omega) | (simp [mulSz, Cont.len, bne, tab_len, t1, t2, t3, List.length_take, List.length_drop]; first | done | omega)))); conv => whnf)
              | (refine tst_in ?_ ?_; (focus (intro h_; exfalso; first | omega | ((try simp only [decide_eq_true_eq, decide_eq_false_iff_not] at h_); omega) | (simp [mulSz, Cont.len, bne, tab_len, t1, t2, t3, List.length_take, List.length_drop] at h_; first | done | omega))); intro _; conv => whnf)
              | (refine tst_in ?_ ?_; rotate_left; (focus (intro h_; exfalso; first | omega | ((try simp only [decide_eq_true_eq, decide_eq_false_iff_not] at h_); omega) | (simp [mulSz, Cont.len, bne, tab_len, t1, t2, t3, List.length_take, List.length_drop] at h_; first | done | omega))); intro _; conv => whnf)
              | (refine ⟨0, (show _ = _ by omega), ?_⟩; conv => whnf))
            intro r' a1 ha1 l1 hl1 w1 hw1
            conv => whnf
            repeat (first
              | (refine And.intro ?_ ?_; (focus (first | omega | decide | exact EqOk.mk (by kernel_rfl) (by kernel_rfl) (by kernel_rfl) | exact Int.natCast_nonneg _ | ((repeat' refine And.intro ?_ ?_) <;> first | omega | exact Int.natCast_nonneg _ | (simp only [i64max, u8max, u16max, u32max, u64max]; omega) | (simp only [mulSz_eq, Cont.len, colsLen, Col.len, List.length_cons, List.length_nil, List.length_replicate, List.length_append]; first | done | omega) | (simp [mulSz, Cont.len, bne]; first | done | omega)))); conv => whnf)
              | (refine tst_in ?_ ?_; (focus (intro h_; exfalso; first | omega | ((try simp only [decide_eq_true_eq, decide_eq_false_iff_not] at h_); omega) | (simp [mulSz, Cont.len, bne] at h_; first | done | omega))); intro _; conv => whnf)
              | (refine tst_in ?_ ?_; rotate_left; (focus (intro h_; exfalso; first | omega | ((try simp only [decide_eq_true_eq, decide_eq_false_iff_not] at h_); omega) | (simp [mulSz, Cont.len, bne] at h_; first | done | omega))); intro _; conv => whnf)
              | (refine ⟨0, (show _ = _ by omega), ?_⟩; conv => whnf))
            refine ⟨[0, 1, 4], (i + 1, ⟨r', a1, l1, w1⟩), ?_, ⟨(by show i + 1 ≤ n; omega), ha1, hl1, hw1⟩, (by show n - (i + 1) < n - i; omega)⟩
            show stLe _ _ (st9 A B n ca cb g (i + 1) ⟨r', a1, l1, w1⟩) _
            unfold st9
            rw [hr, hl2]
            conv => whnf
            repeat' (first | exact True.intro | rfl | refine And.intro ?_ ?_)
            all_goals (conv => whnf)
            repeat' (first | exact True.intro | rfl | refine And.intro ?_ ?_)
            all_goals (try omega)
            all_goals (try exact (push_tb (cA (rs (bad A B) g i)) (cA (fresh (rs (bad A B) g i) i)) t.a a1 _ _ (by show _ = ((upd _ _ _ _ : Nat) : Int); rw [upd_s]) (fun j hj => by show _ = ((upd _ _ _ j : Nat) : Int); rw [upd_n _ _ (show j ≠ (rs (bad A B) g i).n by omega)]; rfl)).symm)
            all_goals (try exact (push_tb (cL (rs (bad A B) g i)) (cL (fresh (rs (bad A B) g i) i)) t.l l1 _ _ (by show _ = ((upd _ _ _ _ : Nat) : Int) - ((upd _ _ _ _ : Nat) : Int); rw [upd_s, upd_s]; omega) (fun j hj => by show _ = ((upd _ _ _ j : Nat) : Int) - ((upd _ _ _ j : Nat) : Int); rw [upd_n _ _ (show j ≠ (rs (bad A B) g i).n by omega), upd_n _ _ (show j ≠ (rs (bad A B) g i).n by omega)]; rfl)).symm)
            all_goals (try exact (push_tb (cW (rs (bad A B) g i)) (cW (fresh (rs (bad A B) g i) i)) t.w w1 _ _ (by show _ = ((upd _ _ _ _ : Nat) : Int); rw [upd_s]; rfl) (fun j hj => by show _ = ((upd _ _ _ j : Nat) : Int); rw [upd_n _ _ (show j ≠ (rs (bad A B) g i).n by omega)]; rfl)).symm)
          )
    · skip
      have hge : i = n := by simp at hge; omega
      subst hge
      conv => whnf
      repeat (first
        | (refine And.intro ?_ ?_; (focus (first | omega | decide | exact EqOk.mk (by kernel_rfl) (by kernel_rfl) (by kernel_rfl) | exact Int.natCast_nonneg _ | ((repeat' refine And.intro ?_ ?_) <;> first | omega | exact Int.natCast_nonneg _ | (simp only [i64max, u8max, u16max, u32max, u64max]; omega) | (simp only [mulSz_eq, Cont.len, colsLen, Col.len, List.length_cons, List.length_nil, List.length_replicate, List.length_append]; first | done | omega) | (simp [mulSz, Cont.len, bne]; first | done | omega)))); conv => whnf)
        | (refine tst_in ?_ ?_; (focus (intro h_; exfalso; first | omega | ((try simp only [decide_eq_true_eq, decide_eq_false_iff_not] at h_); omega) | (simp [mulSz, Cont.len, bne] at h_; first | done | omega))); intro _; conv => whnf)
        | (refine tst_in ?_ ?_; rotate_left; (focus (intro h_; exfalso; first | omega | ((try simp only [decide_eq_true_eq, decide_eq_false_iff_not] at h_); omega) | (simp [mulSz, Cont.len, bne] at h_; first | done | omega))); intro _; conv => whnf)
        | (refine ⟨0, (show _ = _ by omega), ?_⟩; conv => whnf))
      refine .inl ⟨t, [0, 1, 2], ?_⟩
      conv => whnf
      repeat' (first | exact True.intro | rfl | refine And.intro ?_ ?_)
      all_goals (conv => whnf)
      repeat' (first | exact True.intro | rfl | refine And.intro ?_ ?_)
      all_goals (try omega)
end Go.Proofs.Ythcaoofpjjffiaa

set_option linter.unusedVariables false
set_option linter.unusedSimpArgs false
namespace Go.Proofs.Ythcaoofpjjffiaa
open Go Go.Fw
noncomputable def c14 : Code := (Try.f14.body).getD .skip
def st14 (A B : List Bool) (n ca cb i : Nat) : St := ⟨slotsAt 26 [(0, .slice 0 0 n ca), (1, .slice 1 0 n cb), (5, .int .i64 i)], [boS false A, boS false B]⟩
def inv14 (A B : List Bool) (n ca cb : Nat) : LInv := ⟨Nat, fun i => st14 A B n ca cb i, fun i => i ≤ n, fun i => n - i⟩
set_option maxHeartbeats 0 in
set_option maxRecDepth 100000 in
theorem Same_q (A B : List Bool) (n ca cb : Nat) (hn : n ≤ 140737488351232) (hA : n ≤ A.length) (hB : n ≤ B.length) (hca : n ≤ ca) (hcb : n ≤ cb) (hE : ∀ i, i < n → A.getD i false = B.getD i false) :
    QFits Try.prog 14 ⟨[.slice 0 0 n ca, .slice 1 0 n cb], [boS false A, boS false B], .bool true⟩ := by
  refine qfits_of_body (C := cfgs 2) (c := c14) (ts := [4]) tokL mixedL (fun | 4 => some (inv14 A B n ca cb) | _ => none) (fun _ => none)
    Try.func14 (by kernel_rfl) (by kernel_rfl) (by kernel_rfl) (by kernel_rfl) (by kernel_rfl) rfl rfl ?_
  conv => whnf
  repeat (first
    | (refine And.intro ?_ ?_; (focus (first | omega | decide | exact EqOk.mk (by kernel_rfl) (by kernel_rfl) (by kernel_rfl) | exact Int.natCast_nonneg _ | ((repeat' refine And.intro ?_ ?_) <;> first | omega | exact Int.natCast_nonneg _ | (simp only [i64max, u8max, u16max, u32max, u64max]; omega) | (simp only [mulSz_eq, Cont.len, colsLen, Col.len, List.length_cons, List.length_nil, List.length_replicate, List.length_append]; first | done | omega) | (simp [mulSz, Cont.len, bne]; first | done | omega)))); conv => whnf)
    | (refine tst_in ?_ ?_; (focus (intro h_; exfalso; first | omega | ((try simp only [decide_eq_true_eq, decide_eq_false_iff_not] at h_); omega) | (simp [mulSz, Cont.len, bne] at h_; first | done | omega))); intro _; conv => whnf)
    | (refine tst_in ?_ ?_; rotate_left; (focus (intro h_; exfalso; first | omega | ((try simp only [decide_eq_true_eq, decide_eq_false_iff_not] at h_); omega) | (simp [mulSz, Cont.len, bne] at h_; first | done | omega))); intro _; conv => whnf)
    | (refine ⟨0, (show _ = _ by omega), ?_⟩; conv => whnf))
  refine ⟨⟨[0, 1], (0 : Nat), ?_, Nat.zero_le _⟩, ?_⟩
  · show stLe _ _ (st14 A B n ca cb 0) _
    conv => whnf
    repeat' (first | exact True.intro | rfl | refine And.intro ?_ ?_)
    all_goals (conv => whnf)
    repeat' (first | exact True.intro | rfl | refine And.intro ?_ ?_)
    all_goals (try omega)
  · intro (i : Nat) (hi : i ≤ n)
    show forceSt (st14 A B n ca cb i) _
    conv => whnf
    repeat (first
      | (refine And.intro ?_ ?_; (focus (first | omega | decide | exact EqOk.mk (by kernel_rfl) (by kernel_rfl) (by kernel_rfl) | exact Int.natCast_nonneg _ | ((repeat' refine And.intro ?_ ?_) <;> first | omega | exact Int.natCast_nonneg _ | (simp only [i64max, u8max, u16max, u32max, u64max]; omega) | (simp only [mulSz_eq, Cont.len, colsLen, Col.len, List.length_cons, List.length_nil, List.length_replicate, List.length_append]; first | done | omega) | (simp [mulSz, Cont.len, bne]; first | done | omega)))); conv => whnf)
      | (refine tst_in ?_ ?_; (focus (intro h_; exfalso; first | omega | ((try simp only [decide_eq_true_eq, decide_eq_false_iff_not] at h_); omega) | (simp [mulSz, Cont.len, bne] at h_; first | done | omega))); intro _; conv => whnf)
      | (refine tst_in ?_ ?_; rotate_left; (focus (intro h_; exfalso; first | omega | ((try simp only [decide_eq_true_eq, decide_eq_false_iff_not] at h_); omega) | (simp [mulSz, Cont.len, bne] at h_; first | done | omega))); intro _; conv => whnf)
      | (refine ⟨0, (show _ = _ by omega), ?_⟩; conv => whnf))
    refine tst_in (fun hlt => ?_) (fun hge => ?_)
    · skip
      have hlt : i < n := by simp at hlt; omega
      have hi0 : 0 + ((i : Int)).toNat = i := by omega
      have hb : (A.getD i false != B.getD i false) = false := by rw [hE i hlt]; cases B.getD i false <;> rfl
      conv => whnf
      repeat (first
        | (refine And.intro ?_ ?_; (focus (first | omega | decide | exact EqOk.mk (by kernel_rfl) (by kernel_rfl) (by kernel_rfl) | exact Int.natCast_nonneg _ | ((repeat' refine And.intro ?_ ?_) <;> first | omega | exact Int.natCast_nonneg _ | (simp only [i64max, u8max, u16max, u32max, u64max]; omega) | (simp only [mulSz_eq, Cont.len, colsLen, Col.len, List.length_cons, List.length_nil, List.length_replicate, List.length_append]; first | done | omega) | (simp [mulSz, Cont.len, bne]; first | done | omega)))); conv => whnf)
        | (refine tst_in ?_ ?_; (focus (intro h_; exfalso; first | omega | ((try simp only [decide_eq_true_eq, decide_eq_false_iff_not] at h_); omega) | (simp [mulSz, Cont.len, bne] at h_; first | done | omega))); intro _; conv => whnf)
        | (refine tst_in ?_ ?_; rotate_left; (focus (intro h_; exfalso; first | omega | ((try simp only [decide_eq_true_eq, decide_eq_false_iff_not] at h_); omega) | (simp [mulSz, Cont.len, bne] at h_; first | done | omega))); intro _; conv => whnf)
        | (refine ⟨0, (show _ = _ by omega), ?_⟩; conv => whnf))
      rw [hi0, hb]
      conv => whnf
      repeat (first
        | (refine And.intro ?_ ?_; (focus (first | omega | decide | exact EqOk.mk (by kernel_rfl) (by kernel_rfl) (by kernel_rfl) | exact Int.natCast_nonneg _ | ((repeat' refine And.intro ?_ ?_) <;> first | omega | exact Int.natCast_nonneg _ | (simp only [i64max, u8max, u16max, u32max, u64max]; omega) | (simp only [mulSz_eq, Cont.len, colsLen, Col.len, List.length_cons, List.length_nil, List.length_replicate, List.length_append]; first | done | omega) | (simp [mulSz, Cont.len, bne]; first | done | omega)))); conv => whnf)
        | (refine tst_in ?_ ?_; (focus (intro h_; exfalso; first | omega | ((try simp only [decide_eq_true_eq, decide_eq_false_iff_not] at h_); omega) | (simp [mulSz, Cont.len, bne] at h_; first | done | omega))); intro _; conv => whnf)
        | (refine tst_in ?_ ?_; rotate_left; (focus (intro h_; exfalso; first | omega | ((try simp only [decide_eq_true_eq, decide_eq_false_iff_not] at h_); omega) | (simp [mulSz, Cont.len, bne] at h_; first | done | omega))); intro _; conv => whnf)
        | (refine ⟨0, (show _ = _ by omega), ?_⟩; conv => whnf))
      refine ⟨[0, 1], i + 1, ?_, (by show i + 1 ≤ n; omega), (by show n - (i + 1) < n - i; omega)⟩
      show stLe _ _ (st14 A B n ca cb (i + 1)) _
      conv => whnf
      repeat' (first | exact True.intro | rfl | refine And.intro ?_ ?_)
      all_goals (conv => whnf)
      repeat' (first | exact True.intro | rfl | refine And.intro ?_ ?_)
      all_goals (try omega)
    · skip
      have hge : i = n := by simp at hge; omega
      subst hge
      conv => whnf
      repeat (first
        | (refine And.intro ?_ ?_; (focus (first | omega | decide | exact EqOk.mk (by kernel_rfl) (by kernel_rfl) (by kernel_rfl) | exact Int.natCast_nonneg _ | ((repeat' refine And.intro ?_ ?_) <;> first | omega | exact Int.natCast_nonneg _ | (simp only [i64max, u8max, u16max, u32max, u64max]; omega) | (simp only [mulSz_eq, Cont.len, colsLen, Col.len, List.length_cons, List.length_nil, List.length_replicate, List.length_append]; first | done | omega) | (simp [mulSz, Cont.len, bne]; first | done | omega)))); conv => whnf)
        | (refine tst_in ?_ ?_; (focus (intro h_; exfalso; first | omega | ((try simp only [decide_eq_true_eq, decide_eq_false_iff_not] at h_); omega) | (simp [mulSz, Cont.len, bne] at h_; first | done | omega))); intro _; conv => whnf)
        | (refine tst_in ?_ ?_; rotate_left; (focus (intro h_; exfalso; first | omega | ((try simp only [decide_eq_true_eq, decide_eq_false_iff_not] at h_); omega) | (simp [mulSz, Cont.len, bne] at h_; first | done | omega))); intro _; conv => whnf)
        | (refine ⟨0, (show _ = _ by omega), ?_⟩; conv => whnf))
noncomputable def c11 : Code := (Try.f11.body).getD .skip
set_option maxHeartbeats 0 in
set_option maxRecDepth 100000 in
theorem kept_q (A B : List Bool) (n ca cb : Nat) (hn : n ≤ 140737488351232) (hA : n + 1 ≤ A.length) (hB : n ≤ B.length) (hca : n + 1 ≤ ca) (hcb : n ≤ cb) (hE : ∀ i, i < n → A.getD i false = B.getD i false) (hM : A.getD n false = true) :
    QFits Try.prog 11 ⟨[.slice 0 0 n ca, .slice 1 0 n cb], [boS false A, boS false B], .bool true⟩ := by
  have SQ := Same_q A B n ca cb hn (by omega) hB (by omega) hcb hE
  refine qfits_of_body (C := cfgs 2) (c := c11) (ts := [4]) tokL mixedL (fun _ => none) (fun _ => none)
    Try.func11 (by kernel_rfl) (by kernel_rfl) (by kernel_rfl) (by kernel_rfl) (by kernel_rfl) rfl rfl ?_
  conv => whnf
  repeat (first
    | (refine And.intro ?_ ?_; (focus (first | omega | decide | exact EqOk.mk (by kernel_rfl) (by kernel_rfl) (by kernel_rfl) | exact Int.natCast_nonneg _ | ((repeat' refine And.intro ?_ ?_) <;> first | omega | exact Int.natCast_nonneg _ | (simp only [i64max, u8max, u16max, u32max, u64max]; omega) | (simp only [mulSz_eq, Cont.len, colsLen, Col.len, List.length_cons, List.length_nil, List.length_replicate, List.length_append]; first | done | omega) | (simp [mulSz, Cont.len, bne]; first | done | omega)))); conv => whnf)
    | (refine tst_in ?_ ?_; (focus (intro h_; exfalso; first | omega | ((try simp only [decide_eq_true_eq, decide_eq_false_iff_not] at h_); omega) | (simp [mulSz, Cont.len, bne] at h_; first | done | omega))); intro _; conv => whnf)
    | (refine tst_in ?_ ?_; rotate_left; (focus (intro h_; exfalso; first | omega | ((try simp only [decide_eq_true_eq, decide_eq_false_iff_not] at h_); omega) | (simp [mulSz, Cont.len, bne] at h_; first | done | omega))); intro _; conv => whnf)
    | (refine ⟨0, (show _ = _ by omega), ?_⟩; conv => whnf))
  refine ⟨_, [0, 1], SQ, ?_⟩
  conv => whnf
  iterate 2
   refine And.intro ?_ ?_
   focus
    conv => whnf
    repeat' (first | exact True.intro | rfl | refine And.intro ?_ ?_)
    all_goals (conv => whnf)
    repeat' (first | exact True.intro | rfl | refine And.intro ?_ ?_)
    all_goals (try (first | rfl | omega | (simp; first | done | omega)))
  conv => whnf
  conv => whnf
  repeat (first
    | (refine And.intro ?_ ?_; (focus (first | omega | decide | exact EqOk.mk (by kernel_rfl) (by kernel_rfl) (by kernel_rfl) | exact Int.natCast_nonneg _ | ((repeat' refine And.intro ?_ ?_) <;> first | omega | exact Int.natCast_nonneg _ | (simp only [i64max, u8max, u16max, u32max, u64max]; omega) | (simp only [mulSz_eq, Cont.len, colsLen, Col.len, List.length_cons, List.length_nil, List.length_replicate, List.length_append]; first | done | omega) | (simp [mulSz, Cont.len, bne]; first | done | omega)))); conv => whnf)
    | (refine tst_in ?_ ?_; (focus (intro h_; exfalso; first | omega | ((try simp only [decide_eq_true_eq, decide_eq_false_iff_not] at h_); omega) | (simp [mulSz, Cont.len, bne] at h_; first | done | omega))); intro _; conv => whnf)
    | (refine tst_in ?_ ?_; rotate_left; (focus (intro h_; exfalso; first | omega | ((try simp only [decide_eq_true_eq, decide_eq_false_iff_not] at h_); omega) | (simp [mulSz, Cont.len, bne] at h_; first | done | omega))); intro _; conv => whnf)
    | (refine ⟨0, (show _ = _ by omega), ?_⟩; conv => whnf))
  rw [show 0 + ((n : Int)).toNat = n by omega, hM]
noncomputable def c5 : Code := (Try.f5.body).getD .skip
def lentOut (A : List Bool) (n : Nat) : FOut := ⟨List Bool, fun _ => True, fun t => .slice 1 0 n (n + 1 + t.length), fun t => [.dead, boS true (A.take n ++ true :: t)]⟩
set_option maxHeartbeats 0 in
set_option maxRecDepth 100000 in
theorem lent_f (A : List Bool) (n ca : Nat) (hA : n ≤ A.length) (hN : n ≤ 140737488351232) :
    Fits Try.prog 5 ⟨[.slice 0 0 n ca], [boS false A], [lentOut A n]⟩ := by
  have hl1 : (A.take n).length = n := by simp; omega
  refine fits_of_body (C := cfgs 1) (c := c5) (ts := [2]) tokL mixedL (fun _ => none) (fun _ => none)
    Try.func5 (by kernel_rfl) (by kernel_rfl) (by kernel_rfl) (by kernel_rfl) rfl ?_
  conv => whnf
  repeat (first
    | (refine And.intro ?_ ?_; (focus (first | omega | decide | exact EqOk.mk (by kernel_rfl) (by kernel_rfl) (by kernel_rfl) | exact Int.natCast_nonneg _ | ((repeat' refine And.intro ?_ ?_) <;> first | omega | exact Int.natCast_nonneg _ | (simp only [i64max, u8max, u16max, u32max, u64max]; omega) | (simp only [mulSz_eq, Cont.len, colsLen, Col.len, List.length_cons, List.length_nil, List.length_replicate, List.length_append]; first | done | omega) | (simp [mulSz, Cont.len, bne]; first | done | omega)))); conv => whnf)
    | (refine tst_in ?_ ?_; (focus (intro h_; exfalso; first | omega | ((try simp only [decide_eq_true_eq, decide_eq_false_iff_not] at h_); omega) | (simp [mulSz, Cont.len, bne] at h_; first | done | omega))); intro _; conv => whnf)
    | (refine tst_in ?_ ?_; rotate_left; (focus (intro h_; exfalso; first | omega | ((try simp only [decide_eq_true_eq, decide_eq_false_iff_not] at h_); omega) | (simp [mulSz, Cont.len, bne] at h_; first | done | omega))); intro _; conv => whnf)
    | (refine ⟨0, (show _ = _ by omega), ?_⟩; conv => whnf))
  intro (t1 : List Bool)
  conv => whnf
  repeat (first
    | (refine And.intro ?_ ?_; (focus (first | omega | decide | exact EqOk.mk (by kernel_rfl) (by kernel_rfl) (by kernel_rfl) | exact Int.natCast_nonneg _ | ((repeat' refine And.intro ?_ ?_) <;> first | omega | exact Int.natCast_nonneg _ | (simp only [i64max, u8max, u16max, u32max, u64max]; omega) | (simp only [mulSz_eq, Cont.len, colsLen, Col.len, List.length_cons, List.length_nil, List.length_replicate, List.length_append, hl1]; first | done | omega) | (simp [mulSz, Cont.len, bne, hl1]; first | done | omega)))); conv => whnf)
    | (refine tst_in ?_ ?_; (focus (intro h_; exfalso; first | omega | ((try simp only [decide_eq_true_eq, decide_eq_false_iff_not] at h_); omega) | (simp [mulSz, Cont.len, bne, hl1] at h_; first | done | omega))); intro _; conv => whnf)
    | (refine tst_in ?_ ?_; rotate_left; (focus (intro h_; exfalso; first | omega | ((try simp only [decide_eq_true_eq, decide_eq_false_iff_not] at h_); omega) | (simp [mulSz, Cont.len, bne, hl1] at h_; first | done | omega))); intro _; conv => whnf)
    | (refine ⟨0, (show _ = _ by omega), ?_⟩; conv => whnf))
  intro (t2 : List Bool)
  conv => whnf
  repeat (first
    | (refine And.intro ?_ ?_; (focus (first | omega | decide | exact EqOk.mk (by kernel_rfl) (by kernel_rfl) (by kernel_rfl) | exact Int.natCast_nonneg _ | ((repeat' refine And.intro ?_ ?_) <;> first | omega | exact Int.natCast_nonneg _ | (simp only [i64max, u8max, u16max, u32max, u64max]; omega) | (simp only [mulSz_eq, Cont.len, colsLen, Col.len, List.length_cons, List.length_nil, List.length_replicate, List.length_append]; first | done | omega) | (simp [mulSz, Cont.len, bne]; first | done | omega)))); conv => whnf)
    | (refine tst_in ?_ ?_; (focus (intro h_; exfalso; first | omega | ((try simp only [decide_eq_true_eq, decide_eq_false_iff_not] at h_); omega) | (simp [mulSz, Cont.len, bne] at h_; first | done | omega))); intro _; conv => whnf)
    | (refine tst_in ?_ ?_; rotate_left; (focus (intro h_; exfalso; first | omega | ((try simp only [decide_eq_true_eq, decide_eq_false_iff_not] at h_); omega) | (simp [mulSz, Cont.len, bne] at h_; first | done | omega))); intro _; conv => whnf)
    | (refine ⟨0, (show _ = _ by omega), ?_⟩; conv => whnf))
  refine .inl ⟨t2, [0, 4], ?_⟩
  conv => whnf
  repeat' (first | exact True.intro | rfl | refine And.intro ?_ ?_)
  all_goals (conv => whnf)
  repeat' (first | exact True.intro | rfl | refine And.intro ?_ ?_)
  all_goals (try (first | omega | exact True.intro | rfl | assumption | (change LE.le (α := Nat) _ _; first | omega | (simp only [hl1]; omega)) | (simp only [hl1]; first | done | omega) | (simp [hl1]; first | done | omega)))
  all_goals (show A.take n ++ true :: t2 = _; simp [mulSz, List.take_append, List.take_take, Nat.min_eq_left hA])
noncomputable def c10 : Code := (Try.f10.body).getD .skip
def st10 (s : RS) (t u : RT) (ca cb i : Nat) : St := ⟨slotsAt 54 [(0, .slice 0 0 s.n ca), (1, .slice 1 0 s.n cb), (5, .int .i64 i)], [runS false s t.a t.l t.w, runS false s u.a u.l u.w]⟩
def inv10 (s : RS) (t u : RT) (ca cb : Nat) : LInv := ⟨Nat, fun i => st10 s t u ca cb i, fun i => i ≤ s.n, fun i => s.n - i⟩
set_option maxHeartbeats 0 in
set_option maxRecDepth 100000 in
theorem runs_q (s : RS) (t u : RT) (ca cb : Nat) (hn : s.n ≤ 32768) (hca : s.n ≤ ca) (hcb : s.n ≤ cb) (ht : t.ok) (hu : u.ok) :
    QFits Try.prog 10 ⟨[.slice 0 0 s.n ca, .slice 1 0 s.n cb], [runS false s t.a t.l t.w, runS false s u.a u.l u.w], .bool true⟩ := by
  refine qfits_of_body (C := cfgs 2) (c := c10) (ts := [4]) tokL mixedL (fun | 4 => some (inv10 s t u ca cb) | _ => none) (fun _ => none)
    Try.func10 (by kernel_rfl) (by kernel_rfl) (by kernel_rfl) (by kernel_rfl) (by kernel_rfl) rfl rfl ?_
  conv => whnf
  repeat (first
    | (refine And.intro ?_ ?_; (focus (first | omega | decide | exact EqOk.mk (by kernel_rfl) (by kernel_rfl) (by kernel_rfl) | exact Int.natCast_nonneg _ | ((repeat' refine And.intro ?_ ?_) <;> first | omega | exact Int.natCast_nonneg _ | (simp only [i64max, u8max, u16max, u32max, u64max]; omega) | (simp only [mulSz_eq, Cont.len, colsLen, Col.len, List.length_cons, List.length_nil, List.length_replicate, List.length_append]; first | done | omega) | (simp [mulSz, Cont.len, bne]; first | done | omega)))); conv => whnf)
    | (refine tst_in ?_ ?_; (focus (intro h_; exfalso; first | omega | ((try simp only [decide_eq_true_eq, decide_eq_false_iff_not] at h_); omega) | (simp [mulSz, Cont.len, bne] at h_; first | done | omega))); intro _; conv => whnf)
    | (refine tst_in ?_ ?_; rotate_left; (focus (intro h_; exfalso; first | omega | ((try simp only [decide_eq_true_eq, decide_eq_false_iff_not] at h_); omega) | (simp [mulSz, Cont.len, bne] at h_; first | done | omega))); intro _; conv => whnf)
    | (refine ⟨0, (show _ = _ by omega), ?_⟩; conv => whnf))
  refine ⟨⟨[0, 1], (0 : Nat), ?_, Nat.zero_le _⟩, ?_⟩
  · show stLe _ _ (st10 s t u ca cb 0) _
    conv => whnf
    repeat' (first | exact True.intro | rfl | refine And.intro ?_ ?_)
    all_goals (conv => whnf)
    repeat' (first | exact True.intro | rfl | refine And.intro ?_ ?_)
    all_goals (try omega)
  · intro (i : Nat) (hi : i ≤ s.n)
    show forceSt (st10 s t u ca cb i) _
    obtain ⟨(t1 : t.a.length = t.r), (t2 : t.l.length = t.r), (t3 : t.w.length = t.r)⟩ := id ht
    obtain ⟨(u1 : u.a.length = u.r), (u2 : u.l.length = u.r), (u3 : u.w.length = u.r)⟩ := id hu
    conv => whnf
    repeat (first
      | (refine And.intro ?_ ?_; (focus (first | omega | decide | exact EqOk.mk (by kernel_rfl) (by kernel_rfl) (by kernel_rfl) | exact Int.natCast_nonneg _ | ((repeat' refine And.intro ?_ ?_) <;> first | omega | exact Int.natCast_nonneg _ | (simp only [i64max, u8max, u16max, u32max, u64max]; omega) | (simp only [mulSz_eq, Cont.len, colsLen, Col.len, List.length_cons, List.length_nil, List.length_replicate, List.length_append]; first | done | omega) | (simp [mulSz, Cont.len, bne]; first | done | omega)))); conv => whnf)
      | (refine tst_in ?_ ?_; (focus (intro h_; exfalso; first | omega | ((try simp only [decide_eq_true_eq, decide_eq_false_iff_not] at h_); omega) | (simp [mulSz, Cont.len, bne] at h_; first | done | omega))); intro _; conv => whnf)
      | (refine tst_in ?_ ?_; rotate_left; (focus (intro h_; exfalso; first | omega | ((try simp only [decide_eq_true_eq, decide_eq_false_iff_not] at h_); omega) | (simp [mulSz, Cont.len, bne] at h_; first | done | omega))); intro _; conv => whnf)
      | (refine ⟨0, (show _ = _ by omega), ?_⟩; conv => whnf))
    refine tst_in (fun hlt => ?_) (fun hge => ?_)
    · skip
      have hlt : i < s.n := by simp at hlt; omega
      have vA : (tb (cA s) s.n ++ t.a).getD i 0 = cA s i := tab_app _ _ _ hlt
      have vL : (tb (cL s) s.n ++ t.l).getD i 0 = cL s i := tab_app _ _ _ hlt
      have vW : (tb (cW s) s.n ++ t.w).getD i 0 = cW s i := tab_app _ _ _ hlt
      have wA : (tb (cA s) s.n ++ u.a).getD i 0 = cA s i := tab_app _ _ _ hlt
      have wL : (tb (cL s) s.n ++ u.l).getD i 0 = cL s i := tab_app _ _ _ hlt
      have wW : (tb (cW s) s.n ++ u.w).getD i 0 = cW s i := tab_app _ _ _ hlt
      conv => whnf
      repeat (first
        | (refine And.intro ?_ ?_; (focus (first | omega | decide | exact EqOk.mk (by kernel_rfl) (by kernel_rfl) (by kernel_rfl) | exact Int.natCast_nonneg _ | ((repeat' refine And.intro ?_ ?_) <;> first | omega | exact Int.natCast_nonneg _ | (simp only [i64max, u8max, u16max, u32max, u64max]; omega) | (simp only [mulSz_eq, Cont.len, colsLen, Col.len, List.length_cons, List.length_nil, List.length_replicate, List.length_append, tab_len, t1, t2, t3, u1, u2, u3]; first | done | omega) | (simp [mulSz, Cont.len, bne, tab_len, t1, t2, t3, u1, u2, u3]; first | done | omega)))); conv => whnf)
        | (refine tst_in ?_ ?_; (focus (intro h_; exfalso; first | omega | ((try simp only [decide_eq_true_eq, decide_eq_false_iff_not] at h_); omega) | (simp [mulSz, Cont.len, bne, tab_len, t1, t2, t3, u1, u2, u3] at h_; first | done | omega))); intro _; conv => whnf)
        | (refine tst_in ?_ ?_; rotate_left; (focus (intro h_; exfalso; first | omega | ((try simp only [decide_eq_true_eq, decide_eq_false_iff_not] at h_); omega) | (simp [mulSz, Cont.len, bne, tab_len, t1, t2, t3, u1, u2, u3] at h_; first | done | omega))); intro _; conv => whnf)
        | (refine ⟨(i), (show _ = _ by omega), ?_⟩; conv => whnf)
        | (refine ⟨(i), 0, (show _ = _ by omega), ?_⟩; conv => whnf)
        | (refine ⟨(i), 1, (show _ = _ by omega), ?_⟩; conv => whnf)
        | (refine ⟨(i), 2, (show _ = _ by omega), ?_⟩; conv => whnf)
        | (refine ⟨(i), 3, (show _ = _ by omega), ?_⟩; conv => whnf)
        | (refine ⟨(i), 4, (show _ = _ by omega), ?_⟩; conv => whnf)
        | (refine ⟨(i), 5, (show _ = _ by omega), ?_⟩; conv => whnf)
        | (refine ⟨0, (show _ = _ by omega), ?_⟩; conv => whnf))
      rw [vA, wA]
      conv => whnf
      repeat (first
        | (refine And.intro ?_ ?_; (focus (first | omega | decide | exact EqOk.mk (by kernel_rfl) (by kernel_rfl) (by kernel_rfl) | exact Int.natCast_nonneg _ | ((repeat' refine And.intro ?_ ?_) <;> first | omega | exact Int.natCast_nonneg _ | (simp only [i64max, u8max, u16max, u32max, u64max]; omega) | (simp only [mulSz_eq, Cont.len, colsLen, Col.len, List.length_cons, List.length_nil, List.length_replicate, List.length_append, tab_len, t1, t2, t3, u1, u2, u3]; first | done | omega) | (simp [mulSz, Cont.len, bne, tab_len, t1, t2, t3, u1, u2, u3]; first | done | omega)))); conv => whnf)
        | (refine tst_in ?_ ?_; (focus (intro h_; exfalso; first | omega | ((try simp only [decide_eq_true_eq, decide_eq_false_iff_not] at h_); omega) | (simp [mulSz, Cont.len, bne, tab_len, t1, t2, t3, u1, u2, u3] at h_; first | done | omega))); intro _; conv => whnf)
        | (refine tst_in ?_ ?_; rotate_left; (focus (intro h_; exfalso; first | omega | ((try simp only [decide_eq_true_eq, decide_eq_false_iff_not] at h_); omega) | (simp [mulSz, Cont.len, bne, tab_len, t1, t2, t3, u1, u2, u3] at h_; first | done | omega))); intro _; conv => whnf)
        | (refine ⟨(i), (show _ = _ by omega), ?_⟩; conv => whnf)
        | (refine ⟨(i), 0, (show _ = _ by omega), ?_⟩; conv => whnf)
        | (refine ⟨(i), 1, (show _ = _ by omega), ?_⟩; conv => whnf)
        | (refine ⟨(i), 2, (show _ = _ by omega), ?_⟩; conv => whnf)
        | (refine ⟨(i), 3, (show _ = _ by omega), ?_⟩; conv => whnf)
        | (refine ⟨(i), 4, (show _ = _ by omega), ?_⟩; conv => whnf)
        | (refine ⟨(i), 5, (show _ = _ by omega), ?_⟩; conv => whnf)
        | (refine ⟨0, (show _ = _ by omega), ?_⟩; conv => whnf))
      rw [vL, wL]
      conv => whnf
      repeat (first
        | (refine And.intro ?_ ?_; (focus (first | omega | decide | exact EqOk.mk (by kernel_rfl) (by kernel_rfl) (by kernel_rfl) | exact Int.natCast_nonneg _ | ((repeat' refine And.intro ?_ ?_) <;> first | omega | exact Int.natCast_nonneg _ | (simp only [i64max, u8max, u16max, u32max, u64max]; omega) | (simp only [mulSz_eq, Cont.len, colsLen, Col.len, List.length_cons, List.length_nil, List.length_replicate, List.length_append, tab_len, t1, t2, t3, u1, u2, u3]; first | done | omega) | (simp [mulSz, Cont.len, bne, tab_len, t1, t2, t3, u1, u2, u3]; first | done | omega)))); conv => whnf)
        | (refine tst_in ?_ ?_; (focus (intro h_; exfalso; first | omega | ((try simp only [decide_eq_true_eq, decide_eq_false_iff_not] at h_); omega) | (simp [mulSz, Cont.len, bne, tab_len, t1, t2, t3, u1, u2, u3] at h_; first | done | omega))); intro _; conv => whnf)
        | (refine tst_in ?_ ?_; rotate_left; (focus (intro h_; exfalso; first | omega | ((try simp only [decide_eq_true_eq, decide_eq_false_iff_not] at h_); omega) | (simp [mulSz, Cont.len, bne, tab_len, t1, t2, t3, u1, u2, u3] at h_; first | done | omega))); intro _; conv => whnf)
        | (refine ⟨(i), (show _ = _ by omega), ?_⟩; conv => whnf)
        | (refine ⟨(i), 0, (show _ = _ by omega), ?_⟩; conv => whnf)
        | (refine ⟨(i), 1, (show _ = _ by omega), ?_⟩; conv => whnf)
        | (refine ⟨(i), 2, (show _ = _ by omega), ?_⟩; conv => whnf)
        | (refine ⟨(i), 3, (show _ = _ by omega), ?_⟩; conv => whnf)
        | (refine ⟨(i), 4, (show _ = _ by omega), ?_⟩; conv => whnf)
        | (refine ⟨(i), 5, (show _ = _ by omega), ?_⟩; conv => whnf)
        | (refine ⟨0, (show _ = _ by omega), ?_⟩; conv => whnf))
      rw [vW, wW]
      conv => whnf
      repeat (first
        | (refine And.intro ?_ ?_; (focus (first | omega | decide | exact EqOk.mk (by kernel_rfl) (by kernel_rfl) (by kernel_rfl) | exact Int.natCast_nonneg _ | ((repeat' refine And.intro ?_ ?_) <;> first | omega | exact Int.natCast_nonneg _ | (simp only [i64max, u8max, u16max, u32max, u64max]; omega) | (simp only [mulSz_eq, Cont.len, colsLen, Col.len, List.length_cons, List.length_nil, List.length_replicate, List.length_append]; first | done | omega) | (simp [mulSz, Cont.len, bne]; first | done | omega)))); conv => whnf)
        | (refine tst_in ?_ ?_; (focus (intro h_; exfalso; first | omega | ((try simp only [decide_eq_true_eq, decide_eq_false_iff_not] at h_); omega) | (simp [mulSz, Cont.len, bne] at h_; first | done | omega))); intro _; conv => whnf)
        | (refine tst_in ?_ ?_; rotate_left; (focus (intro h_; exfalso; first | omega | ((try simp only [decide_eq_true_eq, decide_eq_false_iff_not] at h_); omega) | (simp [mulSz, Cont.len, bne] at h_; first | done | omega))); intro _; conv => whnf)
        | (refine ⟨0, (show _ = _ by omega), ?_⟩; conv => whnf))
      refine ⟨[0, 1], i + 1, ?_, (by show i + 1 ≤ s.n; omega), (by show s.n - (i + 1) < s.n - i; omega)⟩
      show stLe _ _ (st10 s t u ca cb (i + 1)) _
      conv => whnf
      repeat' (first | exact True.intro | rfl | refine And.intro ?_ ?_)
      all_goals (conv => whnf)
      repeat' (first | exact True.intro | rfl | refine And.intro ?_ ?_)
      all_goals (try omega)
    · skip
      have hge : i = s.n := by simp at hge; omega
      subst hge
      conv => whnf
      repeat (first
        | (refine And.intro ?_ ?_; (focus (first | omega | decide | exact EqOk.mk (by kernel_rfl) (by kernel_rfl) (by kernel_rfl) | exact Int.natCast_nonneg _ | ((repeat' refine And.intro ?_ ?_) <;> first | omega | exact Int.natCast_nonneg _ | (simp only [i64max, u8max, u16max, u32max, u64max]; omega) | (simp only [mulSz_eq, Cont.len, colsLen, Col.len, List.length_cons, List.length_nil, List.length_replicate, List.length_append]; first | done | omega) | (simp [mulSz, Cont.len, bne]; first | done | omega)))); conv => whnf)
        | (refine tst_in ?_ ?_; (focus (intro h_; exfalso; first | omega | ((try simp only [decide_eq_true_eq, decide_eq_false_iff_not] at h_); omega) | (simp [mulSz, Cont.len, bne] at h_; first | done | omega))); intro _; conv => whnf)
        | (refine tst_in ?_ ?_; rotate_left; (focus (intro h_; exfalso; first | omega | ((try simp only [decide_eq_true_eq, decide_eq_false_iff_not] at h_); omega) | (simp [mulSz, Cont.len, bne] at h_; first | done | omega))); intro _; conv => whnf)
        | (refine ⟨0, (show _ = _ by omega), ?_⟩; conv => whnf))
end Go.Proofs.Ythcaoofpjjffiaa

set_option linter.unusedVariables false
set_option linter.unusedSimpArgs false
namespace Go.Proofs.Ythcaoofpjjffiaa
open Go Go.Fw
noncomputable def c3 : Code := (Try.f3.body).getD .skip
def mk (A : List Bool) (n : Nat) (q : List Bool) : List Bool := A.take n ++ true :: q
theorem mk_len (A : List Bool) (n : Nat) (q : List Bool) (h : n ≤ A.length) : (mk A n q).length = n + 1 + q.length := by unfold mk; simp; omega
theorem mk_get (A : List Bool) (n : Nat) (q : List Bool) (h : n ≤ A.length) (i : Nat) (hi : i < n) : (mk A n q).getD i false = A.getD i false := by
  unfold mk; rw [g_app, if_pos (by simp; omega), g_take, if_pos hi]
theorem mk_mark (A : List Bool) (n : Nat) (q : List Bool) (h : n ≤ A.length) : (mk A n q).getD n false = true := by
  unfold mk; rw [g_app, if_neg (by simp; omega)]
  simp [Nat.min_eq_left h]
def xS (s : RS) (XA : List Int) (t : RT) : Seg := .seg true (.cols [.ints .i64 XA, .ints .i64 (tb (cL s) s.n ++ t.l), .ints .i64 (tb (cW s) s.n ++ t.w)])
def stL (A B : List Bool) (n m : Nat) (gp : Int) (s : RS) (q1 q2 : List Bool) (t u : RT) (XA : List Int) (k : Nat) : St :=
  ⟨slotsAt 113 [(2, .int .i64 gp), (7, .slice 2 0 n (n + 1 + q1.length)), (8, .slice 3 0 m (m + 1 + q2.length)), (15, .slice 4 0 s.n (s.n + t.r)), (17, .slice 5 0 s.n (s.n + u.r)), (19, .int .i64 k)],
    [boS false A, boS false B, boS true (mk A n q1), boS true (mk B m q2), xS s XA t, runS true s u.a u.l u.w]⟩
structure LT where
  q1 : List Bool
  q2 : List Bool
  t : RT
  u : RT
  x : List Int
  k : Nat
def invL (A B : List Bool) (n m : Nat) (gp : Int) (s : RS) : LInv :=
  ⟨LT, fun p => stL A B n m gp s p.q1 p.q2 p.t p.u p.x p.k, fun p => p.x.length = s.n + p.t.r ∧ p.t.ok ∧ p.u.ok ∧ p.k ≤ s.n, fun p => s.n - p.k⟩
def stC (A B : List Bool) (n m : Nat) (gp : Int) (s : RS) (q1 q2 : List Bool) (t u : RT) : St :=
  ⟨slotsAt 113 [(2, .int .i64 gp), (7, .slice 2 0 n (n + 1 + q1.length)), (8, .slice 3 0 m (m + 1 + q2.length)), (15, .slice 4 0 s.n (s.n + t.r)), (17, .slice 5 0 s.n (s.n + u.r))],
    [boS false A, boS false B, boS true (mk A n q1), boS true (mk B m q2), runS true s t.a t.l t.w, runS true s u.a u.l u.w]⟩
def cutC (A B : List Bool) (n m : Nat) (gp : Int) (s : RS) : LInv :=
  ⟨(List Bool × List Bool) × RT × RT, fun p => stC A B n m gp s p.1.1 p.1.2 p.2.1 p.2.2, fun p => p.2.1.ok ∧ p.2.2.ok, fun _ => 0⟩
set_option maxHeartbeats 0 in
set_option maxRecDepth 100000 in
theorem law_g (A B : List Bool) (n m ca cb : Nat) (gp : Int) (w f : Nat) (e : Int) (s : RS) (e2 : Int) (hA : n ≤ A.length) (hB : m ≤ B.length) (hca : n ≤ ca) (hcb : m ≤ cb) (hca2 : ca ≤ 140737488351232) (hcb2 : cb ≤ 140737488351232) (hs : s.n ≤ 32768)
    (E1 : ∀ q1 q2, QFits Try.prog 6 ⟨[.slice 0 0 n (n + 1 + q1.length), .slice 1 0 m (m + 1 + q2.length)], [boS false (mk A n q1), boS false (mk B m q2)], .tup [.int .i64 w, .int .i64 f, .int .i64 e]⟩)
    (E2 : QFits Try.prog 7 ⟨[.slice 0 0 n ca, .slice 1 0 m cb], [boS false A, boS false B], .tup [.int .i64 w, .int .i64 f, .int .i64 e]⟩)
    (R1 : ∀ q1 q2, Fits Try.prog 8 ⟨[.slice 0 0 n (n + 1 + q1.length), .slice 1 0 m (m + 1 + q2.length), .int .i64 gp], [boS false (mk A n q1), boS false (mk B m q2)], [runOutE [.dead, .dead] 2 s e2]⟩)
    (R2 : Fits Try.prog 9 ⟨[.slice 0 0 n ca, .slice 1 0 m cb, .int .i64 gp], [boS false A, boS false B], [runOutE [.dead, .dead] 2 s e2]⟩) :
    Fits Try.prog 3 ⟨[.slice 0 0 n ca, .slice 1 0 m cb, .int .i64 gp], [boS false A, boS false B], [⟨Unit, fun _ => True, fun _ => .bool true, fun _ => [.dead, .dead]⟩]⟩ := by
  have LA := lent_f A n ca hA (by omega)
  have LB := lent_f B m cb hB (by omega)
  refine fits_of_body (C := cfgs 2) (c := c3) (ts := [6]) tokL mixedL (fun | 10 => some (invL A B n m gp s) | _ => none) (fun | 9 => some (cutC A B n m gp s) | _ => none)
    Try.func3 (by kernel_rfl) (by kernel_rfl) (by kernel_rfl) (by kernel_rfl) rfl ?_
  conv => whnf
  repeat (first
    | (refine And.intro ?_ ?_; (focus (first | omega | decide | exact EqOk.mk (by kernel_rfl) (by kernel_rfl) (by kernel_rfl) | exact Int.natCast_nonneg _ | ((repeat' refine And.intro ?_ ?_) <;> first | omega | exact Int.natCast_nonneg _ | (simp only [i64max, u8max, u16max, u32max, u64max]; omega) | (simp only [mulSz_eq, Cont.len, colsLen, Col.len, List.length_cons, List.length_nil, List.length_replicate, List.length_append]; first | done | omega) | (simp [mulSz, Cont.len, bne]; first | done | omega)))); conv => whnf)
    | (refine tst_in ?_ ?_; (focus (intro h_; exfalso; first | omega | ((try simp only [decide_eq_true_eq, decide_eq_false_iff_not] at h_); omega) | (simp [mulSz, Cont.len, bne] at h_; first | done | omega))); intro _; conv => whnf)
    | (refine tst_in ?_ ?_; rotate_left; (focus (intro h_; exfalso; first | omega | ((try simp only [decide_eq_true_eq, decide_eq_false_iff_not] at h_); omega) | (simp [mulSz, Cont.len, bne] at h_; first | done | omega))); intro _; conv => whnf)
    | (refine ⟨0, (show _ = _ by omega), ?_⟩; conv => whnf))
  refine ⟨_, [0], LA, ?_⟩
  conv => whnf
  iterate 2
   refine And.intro ?_ ?_
   focus
    conv => whnf
    repeat' (first | exact True.intro | rfl | refine And.intro ?_ ?_)
    all_goals (conv => whnf)
    repeat' (first | exact True.intro | rfl | refine And.intro ?_ ?_)
    all_goals (try (first | rfl | omega | (simp; first | done | omega)))
  conv => whnf
  refine ⟨?_, True.intro⟩
  rintro q1 _
  conv => whnf
  conv => whnf
  repeat (first
    | (refine And.intro ?_ ?_; (focus (first | omega | decide | exact EqOk.mk (by kernel_rfl) (by kernel_rfl) (by kernel_rfl) | exact Int.natCast_nonneg _ | ((repeat' refine And.intro ?_ ?_) <;> first | omega | exact Int.natCast_nonneg _ | (simp only [i64max, u8max, u16max, u32max, u64max]; omega) | (simp only [mulSz_eq, Cont.len, colsLen, Col.len, List.length_cons, List.length_nil, List.length_replicate, List.length_append]; first | done | omega) | (simp [mulSz, Cont.len, bne]; first | done | omega)))); conv => whnf)
    | (refine tst_in ?_ ?_; (focus (intro h_; exfalso; first | omega | ((try simp only [decide_eq_true_eq, decide_eq_false_iff_not] at h_); omega) | (simp [mulSz, Cont.len, bne] at h_; first | done | omega))); intro _; conv => whnf)
    | (refine tst_in ?_ ?_; rotate_left; (focus (intro h_; exfalso; first | omega | ((try simp only [decide_eq_true_eq, decide_eq_false_iff_not] at h_); omega) | (simp [mulSz, Cont.len, bne] at h_; first | done | omega))); intro _; conv => whnf)
    | (refine ⟨0, (show _ = _ by omega), ?_⟩; conv => whnf))
  refine ⟨_, [1], LB, ?_⟩
  conv => whnf
  iterate 2
   refine And.intro ?_ ?_
   focus
    conv => whnf
    repeat' (first | exact True.intro | rfl | refine And.intro ?_ ?_)
    all_goals (conv => whnf)
    repeat' (first | exact True.intro | rfl | refine And.intro ?_ ?_)
    all_goals (try (first | rfl | omega | (simp; first | done | omega)))
  conv => whnf
  refine ⟨?_, True.intro⟩
  rintro q2 _
  conv => whnf
  conv => whnf
  repeat (first
    | (refine And.intro ?_ ?_; (focus (first | omega | decide | exact EqOk.mk (by kernel_rfl) (by kernel_rfl) (by kernel_rfl) | exact Int.natCast_nonneg _ | ((repeat' refine And.intro ?_ ?_) <;> first | omega | exact Int.natCast_nonneg _ | (simp only [i64max, u8max, u16max, u32max, u64max]; omega) | (simp only [mulSz_eq, Cont.len, colsLen, Col.len, List.length_cons, List.length_nil, List.length_replicate, List.length_append]; first | done | omega) | (simp [mulSz, Cont.len, bne]; first | done | omega)))); conv => whnf)
    | (refine tst_in ?_ ?_; (focus (intro h_; exfalso; first | omega | ((try simp only [decide_eq_true_eq, decide_eq_false_iff_not] at h_); omega) | (simp [mulSz, Cont.len, bne] at h_; first | done | omega))); intro _; conv => whnf)
    | (refine tst_in ?_ ?_; rotate_left; (focus (intro h_; exfalso; first | omega | ((try simp only [decide_eq_true_eq, decide_eq_false_iff_not] at h_); omega) | (simp [mulSz, Cont.len, bne] at h_; first | done | omega))); intro _; conv => whnf)
    | (refine ⟨0, (show _ = _ by omega), ?_⟩; conv => whnf))
  have E1 := E1 q1 q2
  have R0 := R1 q1 q2
  unfold mk at E1 R0
  refine ⟨_, [2, 3], E1, ?_⟩
  conv => whnf
  iterate 2
   refine And.intro ?_ ?_
   focus
    conv => whnf
    repeat' (first | exact True.intro | rfl | refine And.intro ?_ ?_)
    all_goals (conv => whnf)
    repeat' (first | exact True.intro | rfl | refine And.intro ?_ ?_)
    all_goals (try (first | rfl | omega | (simp; first | done | omega)))
  conv => whnf
  conv => whnf
  repeat (first
    | (refine And.intro ?_ ?_; (focus (first | omega | decide | exact EqOk.mk (by kernel_rfl) (by kernel_rfl) (by kernel_rfl) | exact Int.natCast_nonneg _ | ((repeat' refine And.intro ?_ ?_) <;> first | omega | exact Int.natCast_nonneg _ | (simp only [i64max, u8max, u16max, u32max, u64max]; omega) | (simp only [mulSz_eq, Cont.len, colsLen, Col.len, List.length_cons, List.length_nil, List.length_replicate, List.length_append]; first | done | omega) | (simp [mulSz, Cont.len, bne]; first | done | omega)))); conv => whnf)
    | (refine tst_in ?_ ?_; (focus (intro h_; exfalso; first | omega | ((try simp only [decide_eq_true_eq, decide_eq_false_iff_not] at h_); omega) | (simp [mulSz, Cont.len, bne] at h_; first | done | omega))); intro _; conv => whnf)
    | (refine tst_in ?_ ?_; rotate_left; (focus (intro h_; exfalso; first | omega | ((try simp only [decide_eq_true_eq, decide_eq_false_iff_not] at h_); omega) | (simp [mulSz, Cont.len, bne] at h_; first | done | omega))); intro _; conv => whnf)
    | (refine ⟨0, (show _ = _ by omega), ?_⟩; conv => whnf))
  refine ⟨_, [0, 1], E2, ?_⟩
  conv => whnf
  iterate 2
   refine And.intro ?_ ?_
   focus
    conv => whnf
    repeat' (first | exact True.intro | rfl | refine And.intro ?_ ?_)
    all_goals (conv => whnf)
    repeat' (first | exact True.intro | rfl | refine And.intro ?_ ?_)
    all_goals (try (first | rfl | omega | (simp; first | done | omega)))
  conv => whnf
  conv => whnf
  repeat (first
    | (refine And.intro ?_ ?_; (focus (first | omega | decide | exact EqOk.mk (by kernel_rfl) (by kernel_rfl) (by kernel_rfl) | exact Int.natCast_nonneg _ | ((repeat' refine And.intro ?_ ?_) <;> first | omega | exact Int.natCast_nonneg _ | (simp only [i64max, u8max, u16max, u32max, u64max]; omega) | (simp only [mulSz_eq, Cont.len, colsLen, Col.len, List.length_cons, List.length_nil, List.length_replicate, List.length_append]; first | done | omega) | (simp [mulSz, Cont.len, bne]; first | done | omega)))); conv => whnf)
    | (refine tst_in ?_ ?_; (focus (intro h_; exfalso; first | omega | ((try simp only [decide_eq_true_eq, decide_eq_false_iff_not] at h_); omega) | (simp [mulSz, Cont.len, bne] at h_; first | done | omega))); intro _; conv => whnf)
    | (refine tst_in ?_ ?_; rotate_left; (focus (intro h_; exfalso; first | omega | ((try simp only [decide_eq_true_eq, decide_eq_false_iff_not] at h_); omega) | (simp [mulSz, Cont.len, bne] at h_; first | done | omega))); intro _; conv => whnf)
    | (refine ⟨0, (show _ = _ by omega), ?_⟩; conv => whnf))
  refine ⟨_, [2, 3], R0, ?_⟩
  conv => whnf
  iterate 2
   refine And.intro ?_ ?_
   focus
    conv => whnf
    repeat' (first | exact True.intro | rfl | refine And.intro ?_ ?_)
    all_goals (conv => whnf)
    repeat' (first | exact True.intro | rfl | refine And.intro ?_ ?_)
    all_goals (try (first | rfl | omega | (simp; first | done | omega)))
  conv => whnf
  refine ⟨?_, True.intro⟩
  rintro t ht
  conv => whnf
  conv => whnf
  repeat (first
    | (refine And.intro ?_ ?_; (focus (first | omega | decide | exact EqOk.mk (by kernel_rfl) (by kernel_rfl) (by kernel_rfl) | exact Int.natCast_nonneg _ | ((repeat' refine And.intro ?_ ?_) <;> first | omega | exact Int.natCast_nonneg _ | (simp only [i64max, u8max, u16max, u32max, u64max]; omega) | (simp only [mulSz_eq, Cont.len, colsLen, Col.len, List.length_cons, List.length_nil, List.length_replicate, List.length_append]; first | done | omega) | (simp [mulSz, Cont.len, bne]; first | done | omega)))); conv => whnf)
    | (refine tst_in ?_ ?_; (focus (intro h_; exfalso; first | omega | ((try simp only [decide_eq_true_eq, decide_eq_false_iff_not] at h_); omega) | (simp [mulSz, Cont.len, bne] at h_; first | done | omega))); intro _; conv => whnf)
    | (refine tst_in ?_ ?_; rotate_left; (focus (intro h_; exfalso; first | omega | ((try simp only [decide_eq_true_eq, decide_eq_false_iff_not] at h_); omega) | (simp [mulSz, Cont.len, bne] at h_; first | done | omega))); intro _; conv => whnf)
    | (refine ⟨0, (show _ = _ by omega), ?_⟩; conv => whnf))
  refine ⟨_, [0, 1], R2, ?_⟩
  conv => whnf
  iterate 2
   refine And.intro ?_ ?_
   focus
    conv => whnf
    repeat' (first | exact True.intro | rfl | refine And.intro ?_ ?_)
    all_goals (conv => whnf)
    repeat' (first | exact True.intro | rfl | refine And.intro ?_ ?_)
    all_goals (try (first | rfl | omega | (simp; first | done | omega)))
  conv => whnf
  refine ⟨?_, True.intro⟩
  rintro u hu
  conv => whnf
  conv => whnf
  repeat (first
    | (refine And.intro ?_ ?_; (focus (first | omega | decide | exact EqOk.mk (by kernel_rfl) (by kernel_rfl) (by kernel_rfl) | exact Int.natCast_nonneg _ | ((repeat' refine And.intro ?_ ?_) <;> first | omega | exact Int.natCast_nonneg _ | (simp only [i64max, u8max, u16max, u32max, u64max]; omega) | (simp only [mulSz_eq, Cont.len, colsLen, Col.len, List.length_cons, List.length_nil, List.length_replicate, List.length_append]; first | done | omega) | (simp [mulSz, Cont.len, bne]; first | done | omega)))); conv => whnf)
    | (refine tst_in ?_ ?_; (focus (intro h_; exfalso; first | omega | ((try simp only [decide_eq_true_eq, decide_eq_false_iff_not] at h_); omega) | (simp [mulSz, Cont.len, bne] at h_; first | done | omega))); intro _; conv => whnf)
    | (refine tst_in ?_ ?_; rotate_left; (focus (intro h_; exfalso; first | omega | ((try simp only [decide_eq_true_eq, decide_eq_false_iff_not] at h_); omega) | (simp [mulSz, Cont.len, bne] at h_; first | done | omega))); intro _; conv => whnf)
    | (refine ⟨0, (show _ = _ by omega), ?_⟩; conv => whnf))
  obtain ⟨t', et⟩ : ∃ t' : RT, t' = t := ⟨t, rfl⟩
  subst et
  obtain ⟨u', et⟩ : ∃ u' : RT, u' = u := ⟨u, rfl⟩
  subst et
  refine ⟨?_, ?_⟩
  · have K1 := kept_q (mk A n q1) A n (n + 1 + q1.length) ca (by omega) (by rw [mk_len A n q1 hA]; omega) hA (by omega) hca (mk_get A n q1 hA) (mk_mark A n q1 hA)
    have K2 := kept_q (mk B m q2) B m (m + 1 + q2.length) cb (by omega) (by rw [mk_len B m q2 hB]; omega) hB (by omega) hcb (mk_get B m q2 hB) (mk_mark B m q2 hB)
    have RQ := runs_q s t' u' (s.n + t'.r) (s.n + u'.r) hs (by omega) (by omega) ht hu
    unfold mk at K1 K2
    unfold runS at *
    conv => whnf
    repeat (first
      | (refine And.intro ?_ ?_; (focus (first | omega | decide | exact EqOk.mk (by kernel_rfl) (by kernel_rfl) (by kernel_rfl) | exact Int.natCast_nonneg _ | ((repeat' refine And.intro ?_ ?_) <;> first | omega | exact Int.natCast_nonneg _ | (simp only [i64max, u8max, u16max, u32max, u64max]; omega) | (simp only [mulSz_eq, Cont.len, colsLen, Col.len, List.length_cons, List.length_nil, List.length_replicate, List.length_append]; first | done | omega) | (simp [mulSz, Cont.len, bne]; first | done | omega)))); conv => whnf)
      | (refine tst_in ?_ ?_; (focus (intro h_; exfalso; first | omega | ((try simp only [decide_eq_true_eq, decide_eq_false_iff_not] at h_); omega) | (simp [mulSz, Cont.len, bne] at h_; first | done | omega))); intro _; conv => whnf)
      | (refine tst_in ?_ ?_; rotate_left; (focus (intro h_; exfalso; first | omega | ((try simp only [decide_eq_true_eq, decide_eq_false_iff_not] at h_); omega) | (simp [mulSz, Cont.len, bne] at h_; first | done | omega))); intro _; conv => whnf)
      | (refine ⟨0, (show _ = _ by omega), ?_⟩; conv => whnf))
    refine ⟨_, [4, 5], RQ, ?_⟩
    conv => whnf
    iterate 2
     refine And.intro ?_ ?_
     focus
      conv => whnf
      repeat' (first | exact True.intro | rfl | refine And.intro ?_ ?_)
      all_goals (conv => whnf)
      repeat' (first | exact True.intro | rfl | refine And.intro ?_ ?_)
      all_goals (try (first | rfl | omega | (simp; first | done | omega)))
    conv => whnf
    conv => whnf
    repeat (first
      | (refine And.intro ?_ ?_; (focus (first | omega | decide | exact EqOk.mk (by kernel_rfl) (by kernel_rfl) (by kernel_rfl) | exact Int.natCast_nonneg _ | ((repeat' refine And.intro ?_ ?_) <;> first | omega | exact Int.natCast_nonneg _ | (simp only [i64max, u8max, u16max, u32max, u64max]; omega) | (simp only [mulSz_eq, Cont.len, colsLen, Col.len, List.length_cons, List.length_nil, List.length_replicate, List.length_append]; first | done | omega) | (simp [mulSz, Cont.len, bne]; first | done | omega)))); conv => whnf)
      | (refine tst_in ?_ ?_; (focus (intro h_; exfalso; first | omega | ((try simp only [decide_eq_true_eq, decide_eq_false_iff_not] at h_); omega) | (simp [mulSz, Cont.len, bne] at h_; first | done | omega))); intro _; conv => whnf)
      | (refine tst_in ?_ ?_; rotate_left; (focus (intro h_; exfalso; first | omega | ((try simp only [decide_eq_true_eq, decide_eq_false_iff_not] at h_); omega) | (simp [mulSz, Cont.len, bne] at h_; first | done | omega))); intro _; conv => whnf)
      | (refine ⟨0, (show _ = _ by omega), ?_⟩; conv => whnf))
    refine ⟨_, [2, 0], K1, ?_⟩
    conv => whnf
    iterate 2
     refine And.intro ?_ ?_
     focus
      conv => whnf
      repeat' (first | exact True.intro | rfl | refine And.intro ?_ ?_)
      all_goals (conv => whnf)
      repeat' (first | exact True.intro | rfl | refine And.intro ?_ ?_)
      all_goals (try (first | rfl | omega | (simp; first | done | omega)))
    conv => whnf
    conv => whnf
    repeat (first
      | (refine And.intro ?_ ?_; (focus (first | omega | decide | exact EqOk.mk (by kernel_rfl) (by kernel_rfl) (by kernel_rfl) | exact Int.natCast_nonneg _ | ((repeat' refine And.intro ?_ ?_) <;> first | omega | exact Int.natCast_nonneg _ | (simp only [i64max, u8max, u16max, u32max, u64max]; omega) | (simp only [mulSz_eq, Cont.len, colsLen, Col.len, List.length_cons, List.length_nil, List.length_replicate, List.length_append]; first | done | omega) | (simp [mulSz, Cont.len, bne]; first | done | omega)))); conv => whnf)
      | (refine tst_in ?_ ?_; (focus (intro h_; exfalso; first | omega | ((try simp only [decide_eq_true_eq, decide_eq_false_iff_not] at h_); omega) | (simp [mulSz, Cont.len, bne] at h_; first | done | omega))); intro _; conv => whnf)
      | (refine tst_in ?_ ?_; rotate_left; (focus (intro h_; exfalso; first | omega | ((try simp only [decide_eq_true_eq, decide_eq_false_iff_not] at h_); omega) | (simp [mulSz, Cont.len, bne] at h_; first | done | omega))); intro _; conv => whnf)
      | (refine ⟨0, (show _ = _ by omega), ?_⟩; conv => whnf))
    refine ⟨_, [3, 1], K2, ?_⟩
    conv => whnf
    iterate 2
     refine And.intro ?_ ?_
     focus
      conv => whnf
      repeat' (first | exact True.intro | rfl | refine And.intro ?_ ?_)
      all_goals (conv => whnf)
      repeat' (first | exact True.intro | rfl | refine And.intro ?_ ?_)
      all_goals (try (first | rfl | omega | (simp; first | done | omega)))
    conv => whnf
    conv => whnf
    repeat (first
      | (refine And.intro ?_ ?_; (focus (first | omega | decide | exact EqOk.mk (by kernel_rfl) (by kernel_rfl) (by kernel_rfl) | exact Int.natCast_nonneg _ | ((repeat' refine And.intro ?_ ?_) <;> first | omega | exact Int.natCast_nonneg _ | (simp only [i64max, u8max, u16max, u32max, u64max]; omega) | (simp only [mulSz_eq, Cont.len, colsLen, Col.len, List.length_cons, List.length_nil, List.length_replicate, List.length_append]; first | done | omega) | (simp [mulSz, Cont.len, bne]; first | done | omega)))); conv => whnf)
      | (refine tst_in ?_ ?_; (focus (intro h_; exfalso; first | omega | ((try simp only [decide_eq_true_eq, decide_eq_false_iff_not] at h_); omega) | (simp [mulSz, Cont.len, bne] at h_; first | done | omega))); intro _; conv => whnf)
      | (refine tst_in ?_ ?_; rotate_left; (focus (intro h_; exfalso; first | omega | ((try simp only [decide_eq_true_eq, decide_eq_false_iff_not] at h_); omega) | (simp [mulSz, Cont.len, bne] at h_; first | done | omega))); intro _; conv => whnf)
      | (refine ⟨0, (show _ = _ by omega), ?_⟩; conv => whnf))
    refine ⟨[0, 1, 2, 3, 4, 5], ((q1, q2), t', u'), ?_, ht, hu⟩
    show stLe _ _ (stC A B n m gp s q1 q2 t' u') _
    unfold stC mk
    conv => whnf
    repeat' (first | exact True.intro | rfl | refine And.intro ?_ ?_)
    all_goals (conv => whnf)
    repeat' (first | exact True.intro | rfl | refine And.intro ?_ ?_)
    all_goals (try omega)
  · rintro ⟨⟨q1, q2⟩, t, u⟩ ⟨(ht : t.ok), (hu : u.ok)⟩
    show forceSt (stC A B n m gp s q1 q2 t u) _
    obtain ⟨(t1 : t.a.length = t.r), (t2 : t.l.length = t.r), (t3 : t.w.length = t.r)⟩ := id ht
    unfold stC
    conv => whnf
    repeat (first
      | (refine And.intro ?_ ?_; (focus (first | omega | decide | exact EqOk.mk (by kernel_rfl) (by kernel_rfl) (by kernel_rfl) | exact Int.natCast_nonneg _ | ((repeat' refine And.intro ?_ ?_) <;> first | omega | exact Int.natCast_nonneg _ | (simp only [i64max, u8max, u16max, u32max, u64max]; omega) | (simp only [mulSz_eq, Cont.len, colsLen, Col.len, List.length_cons, List.length_nil, List.length_replicate, List.length_append]; first | done | omega) | (simp [mulSz, Cont.len, bne]; first | done | omega)))); conv => whnf)
      | (refine tst_in ?_ ?_; (focus (intro h_; exfalso; first | omega | ((try simp only [decide_eq_true_eq, decide_eq_false_iff_not] at h_); omega) | (simp [mulSz, Cont.len, bne] at h_; first | done | omega))); intro _; conv => whnf)
      | (refine tst_in ?_ ?_; rotate_left; (focus (intro h_; exfalso; first | omega | ((try simp only [decide_eq_true_eq, decide_eq_false_iff_not] at h_); omega) | (simp [mulSz, Cont.len, bne] at h_; first | done | omega))); intro _; conv => whnf)
      | (refine ⟨0, (show _ = _ by omega), ?_⟩; conv => whnf))
    refine ⟨⟨[0, 1, 2, 3, 4, 5], ⟨q1, q2, t, u, tb (cA s) s.n ++ t.a, 0⟩, ?_, (by show (tb (cA s) s.n ++ t.a).length = _; simp [tab_len, t1]), ht, hu, Nat.zero_le _⟩, ?_⟩
    · show stLe _ _ (stL A B n m gp s q1 q2 t u (tb (cA s) s.n ++ t.a) 0) _
      conv => whnf
      repeat' (first | exact True.intro | rfl | refine And.intro ?_ ?_)
      all_goals (conv => whnf)
      repeat' (first | exact True.intro | rfl | refine And.intro ?_ ?_)
      all_goals (try omega)
    · rintro ⟨q1, q2, t, u, x, k⟩ ⟨(hx : x.length = s.n + t.r), (ht : t.ok), (hu : u.ok), (hk : k ≤ s.n)⟩
      show forceSt (stL A B n m gp s q1 q2 t u x k) _
      obtain ⟨(t1 : t.a.length = t.r), (t2 : t.l.length = t.r), (t3 : t.w.length = t.r)⟩ := id ht
      conv => whnf
      repeat (first
        | (refine And.intro ?_ ?_; (focus (first | omega | decide | exact EqOk.mk (by kernel_rfl) (by kernel_rfl) (by kernel_rfl) | exact Int.natCast_nonneg _ | ((repeat' refine And.intro ?_ ?_) <;> first | omega | exact Int.natCast_nonneg _ | (simp only [i64max, u8max, u16max, u32max, u64max]; omega) | (simp only [mulSz_eq, Cont.len, colsLen, Col.len, List.length_cons, List.length_nil, List.length_replicate, List.length_append]; first | done | omega) | (simp [mulSz, Cont.len, bne]; first | done | omega)))); conv => whnf)
        | (refine tst_in ?_ ?_; (focus (intro h_; exfalso; first | omega | ((try simp only [decide_eq_true_eq, decide_eq_false_iff_not] at h_); omega) | (simp [mulSz, Cont.len, bne] at h_; first | done | omega))); intro _; conv => whnf)
        | (refine tst_in ?_ ?_; rotate_left; (focus (intro h_; exfalso; first | omega | ((try simp only [decide_eq_true_eq, decide_eq_false_iff_not] at h_); omega) | (simp [mulSz, Cont.len, bne] at h_; first | done | omega))); intro _; conv => whnf)
        | (refine ⟨0, (show _ = _ by omega), ?_⟩; conv => whnf))
      refine tst_in (fun hlt => ?_) (fun hge => ?_)
      · skip
        have hlt : k < s.n := by simp at hlt; omega
        conv => whnf
        repeat (first
          | (refine And.intro ?_ ?_; (focus (first | omega | decide | exact EqOk.mk (by kernel_rfl) (by kernel_rfl) (by kernel_rfl) | exact Int.natCast_nonneg _ | ((repeat' refine And.intro ?_ ?_) <;> first | omega | exact Int.natCast_nonneg _ | (simp only [i64max, u8max, u16max, u32max, u64max]; omega) | (simp only [mulSz_eq, Cont.len, colsLen, Col.len, List.length_cons, List.length_nil, List.length_replicate, List.length_append, tab_len, t1, t2, t3, hx]; first | done | omega) | (simp [mulSz, Cont.len, bne, tab_len, t1, t2, t3, hx]; first | done | omega)))); conv => whnf)
          | (refine tst_in ?_ ?_; (focus (intro h_; exfalso; first | omega | ((try simp only [decide_eq_true_eq, decide_eq_false_iff_not] at h_); omega) | (simp [mulSz, Cont.len, bne, tab_len, t1, t2, t3, hx] at h_; first | done | omega))); intro _; conv => whnf)
          | (refine tst_in ?_ ?_; rotate_left; (focus (intro h_; exfalso; first | omega | ((try simp only [decide_eq_true_eq, decide_eq_false_iff_not] at h_); omega) | (simp [mulSz, Cont.len, bne, tab_len, t1, t2, t3, hx] at h_; first | done | omega))); intro _; conv => whnf)
          | (refine ⟨(k), (show _ = _ by omega), ?_⟩; conv => whnf)
          | (refine ⟨(k), 0, (show _ = _ by omega), ?_⟩; conv => whnf)
          | (refine ⟨(k), 1, (show _ = _ by omega), ?_⟩; conv => whnf)
          | (refine ⟨(k), 2, (show _ = _ by omega), ?_⟩; conv => whnf)
          | (refine ⟨(k), 3, (show _ = _ by omega), ?_⟩; conv => whnf)
          | (refine ⟨(k), 4, (show _ = _ by omega), ?_⟩; conv => whnf)
          | (refine ⟨(k), 5, (show _ = _ by omega), ?_⟩; conv => whnf)
          | (refine ⟨0, (show _ = _ by omega), ?_⟩; conv => whnf))
        refine ⟨[0, 1, 2, 3, 4, 5], ⟨q1, q2, t, u, x.set k (-1), k + 1⟩, ?_, ⟨(by show (x.set k (-1)).length = _; rw [List.length_set]; exact hx), ht, hu, (by show k + 1 ≤ s.n; omega)⟩, (by show s.n - (k + 1) < s.n - k; omega)⟩
        show stLe _ _ (stL A B n m gp s q1 q2 t u (x.set k (-1)) (k + 1)) _
        conv => whnf
        repeat' (first | exact True.intro | rfl | refine And.intro ?_ ?_)
        all_goals (conv => whnf)
        repeat' (first | exact True.intro | rfl | refine And.intro ?_ ?_)
        all_goals (try omega)
      · skip
        have hge : k = s.n := by simp at hge; omega
        have R3 := R1 q1 q2
        conv => whnf
        repeat (first
          | (refine And.intro ?_ ?_; (focus (first | omega | decide | exact EqOk.mk (by kernel_rfl) (by kernel_rfl) (by kernel_rfl) | exact Int.natCast_nonneg _ | ((repeat' refine And.intro ?_ ?_) <;> first | omega | exact Int.natCast_nonneg _ | (simp only [i64max, u8max, u16max, u32max, u64max]; omega) | (simp only [mulSz_eq, Cont.len, colsLen, Col.len, List.length_cons, List.length_nil, List.length_replicate, List.length_append]; first | done | omega) | (simp [mulSz, Cont.len, bne]; first | done | omega)))); conv => whnf)
          | (refine tst_in ?_ ?_; (focus (intro h_; exfalso; first | omega | ((try simp only [decide_eq_true_eq, decide_eq_false_iff_not] at h_); omega) | (simp [mulSz, Cont.len, bne] at h_; first | done | omega))); intro _; conv => whnf)
          | (refine tst_in ?_ ?_; rotate_left; (focus (intro h_; exfalso; first | omega | ((try simp only [decide_eq_true_eq, decide_eq_false_iff_not] at h_); omega) | (simp [mulSz, Cont.len, bne] at h_; first | done | omega))); intro _; conv => whnf)
          | (refine ⟨0, (show _ = _ by omega), ?_⟩; conv => whnf))
        unfold mk at R3
        try unfold mk
        refine ⟨_, [2, 3], R3, ?_⟩
        conv => whnf
        iterate 2
         refine And.intro ?_ ?_
         focus
          conv => whnf
          repeat' (first | exact True.intro | rfl | refine And.intro ?_ ?_)
          all_goals (conv => whnf)
          repeat' (first | exact True.intro | rfl | refine And.intro ?_ ?_)
          all_goals (try (first | rfl | omega | (simp; first | done | omega)))
        conv => whnf
        refine ⟨?_, True.intro⟩
        rintro v hv
        conv => whnf
        conv => whnf
        repeat (first
          | (refine And.intro ?_ ?_; (focus (first | omega | decide | exact EqOk.mk (by kernel_rfl) (by kernel_rfl) (by kernel_rfl) | exact Int.natCast_nonneg _ | ((repeat' refine And.intro ?_ ?_) <;> first | omega | exact Int.natCast_nonneg _ | (simp only [i64max, u8max, u16max, u32max, u64max]; omega) | (simp only [mulSz_eq, Cont.len, colsLen, Col.len, List.length_cons, List.length_nil, List.length_replicate, List.length_append]; first | done | omega) | (simp [mulSz, Cont.len, bne]; first | done | omega)))); conv => whnf)
          | (refine tst_in ?_ ?_; (focus (intro h_; exfalso; first | omega | ((try simp only [decide_eq_true_eq, decide_eq_false_iff_not] at h_); omega) | (simp [mulSz, Cont.len, bne] at h_; first | done | omega))); intro _; conv => whnf)
          | (refine tst_in ?_ ?_; rotate_left; (focus (intro h_; exfalso; first | omega | ((try simp only [decide_eq_true_eq, decide_eq_false_iff_not] at h_); omega) | (simp [mulSz, Cont.len, bne] at h_; first | done | omega))); intro _; conv => whnf)
          | (refine ⟨0, (show _ = _ by omega), ?_⟩; conv => whnf))
        obtain ⟨v', et⟩ : ∃ v' : RT, v' = v := ⟨v, rfl⟩
        subst et
        have RQ := runs_q s v' u (s.n + v'.r) (s.n + u.r) hs (by omega) (by omega) hv hu
        unfold runS at *
        refine ⟨_, [6, 5], RQ, ?_⟩
        conv => whnf
        iterate 2
         refine And.intro ?_ ?_
         focus
          conv => whnf
          repeat' (first | exact True.intro | rfl | refine And.intro ?_ ?_)
          all_goals (conv => whnf)
          repeat' (first | exact True.intro | rfl | refine And.intro ?_ ?_)
          all_goals (try (first | rfl | omega | (simp; first | done | omega)))
        conv => whnf
        conv => whnf
        repeat (first
          | (refine And.intro ?_ ?_; (focus (first | omega | decide | exact EqOk.mk (by kernel_rfl) (by kernel_rfl) (by kernel_rfl) | exact Int.natCast_nonneg _ | ((repeat' refine And.intro ?_ ?_) <;> first | omega | exact Int.natCast_nonneg _ | (simp only [i64max, u8max, u16max, u32max, u64max]; omega) | (simp only [mulSz_eq, Cont.len, colsLen, Col.len, List.length_cons, List.length_nil, List.length_replicate, List.length_append]; first | done | omega) | (simp [mulSz, Cont.len, bne]; first | done | omega)))); conv => whnf)
          | (refine tst_in ?_ ?_; (focus (intro h_; exfalso; first | omega | ((try simp only [decide_eq_true_eq, decide_eq_false_iff_not] at h_); omega) | (simp [mulSz, Cont.len, bne] at h_; first | done | omega))); intro _; conv => whnf)
          | (refine tst_in ?_ ?_; rotate_left; (focus (intro h_; exfalso; first | omega | ((try simp only [decide_eq_true_eq, decide_eq_false_iff_not] at h_); omega) | (simp [mulSz, Cont.len, bne] at h_; first | done | omega))); intro _; conv => whnf)
          | (refine ⟨0, (show _ = _ by omega), ?_⟩; conv => whnf))
        refine ⟨_, [], awake_f, ?_⟩
        conv => whnf
        iterate 2
         refine And.intro ?_ ?_
         focus
          conv => whnf
          repeat' (first | exact True.intro | rfl | refine And.intro ?_ ?_ | omega)
          all_goals (conv => whnf)
          all_goals (try (first | rfl | omega | (simp; done)))
        conv => whnf
        refine ⟨?_, True.intro⟩
        intro _ _
        conv => whnf
        conv => whnf
        repeat (first
          | (refine And.intro ?_ ?_; (focus (first | omega | decide | exact EqOk.mk (by kernel_rfl) (by kernel_rfl) (by kernel_rfl) | exact Int.natCast_nonneg _ | ((repeat' refine And.intro ?_ ?_) <;> first | omega | exact Int.natCast_nonneg _ | (simp only [i64max, u8max, u16max, u32max, u64max]; omega) | (simp only [mulSz_eq, Cont.len, colsLen, Col.len, List.length_cons, List.length_nil, List.length_replicate, List.length_append]; first | done | omega) | (simp [mulSz, Cont.len, bne]; first | done | omega)))); conv => whnf)
          | (refine tst_in ?_ ?_; (focus (intro h_; exfalso; first | omega | ((try simp only [decide_eq_true_eq, decide_eq_false_iff_not] at h_); omega) | (simp [mulSz, Cont.len, bne] at h_; first | done | omega))); intro _; conv => whnf)
          | (refine tst_in ?_ ?_; rotate_left; (focus (intro h_; exfalso; first | omega | ((try simp only [decide_eq_true_eq, decide_eq_false_iff_not] at h_); omega) | (simp [mulSz, Cont.len, bne] at h_; first | done | omega))); intro _; conv => whnf)
          | (refine ⟨0, (show _ = _ by omega), ?_⟩; conv => whnf))
        refine .inl ⟨(), [0, 1], ?_⟩
        conv => whnf
        repeat' (first | exact True.intro | rfl | refine And.intro ?_ ?_)
        all_goals (conv => whnf)
        repeat' (first | exact True.intro | rfl | refine And.intro ?_ ?_)
        all_goals (try omega)
end Go.Proofs.Ythcaoofpjjffiaa

set_option linter.unusedVariables false
set_option linter.unusedSimpArgs false
namespace Go.Proofs.Ythcaoofpjjffiaa
open Go Go.Fw
theorem bad_mk {A B : List Bool} {n : Nat} (q1 q2 : List Bool) (hA : n ≤ A.length) (hB : n ≤ B.length) (i : Nat) (hi : i < n) : bad (mk A n q1) (mk B n q2) i = bad A B i := by
  unfold bad; rw [mk_get A n q1 hA i hi, mk_get B n q2 hB i hi]
theorem law_f (A B : List Bool) (n m ca cb : Nat) (gp : Int) (hA : n ≤ A.length) (hB : m ≤ B.length) (hca : n ≤ ca) (hcb : m ≤ cb) (hca2 : ca ≤ 140737488351232) (hcb2 : cb ≤ 140737488351232) (hg : gp ≤ 9223372036854775807) :
    Fits Try.prog 3 ⟨[.slice 0 0 n ca, .slice 1 0 m cb, .int .i64 gp], [boS false A, boS false B], [⟨Unit, fun _ => True, fun _ => .bool true, fun _ => [.dead, .dead]⟩]⟩ := by
  by_cases hv : n ≤ 32768 ∧ n = m
  · obtain ⟨hn, rfl⟩ := hv
    have E1 : ∀ q1 q2, QFits Try.prog 6 ⟨[.slice 0 0 n (n + 1 + q1.length), .slice 1 0 n (n + 1 + q2.length)], [boS false (mk A n q1), boS false (mk B n q2)], .tup [.int .i64 (cnt (bad A B) n : Nat), .int .i64 (fs (bad A B) n : Nat), .int .i64 0]⟩ := fun q1 q2 => by
      have h := Errors_y (mk A n q1) (mk B n q2) n (n + 1 + q1.length) (n + 1 + q2.length) hn (by rw [mk_len A n q1 hA]; omega) (by rw [mk_len B n q2 hB]; omega) (by omega) (by omega)
      rw [cnt_congr n (bad_mk q1 q2 hA hB), fs_congr n (bad_mk q1 q2 hA hB)] at h
      exact h
    by_cases h0 : 0 ≤ gp
    · refine law_g A B n n ca cb gp _ _ _ (rs (bad A B) gp n) 0 hA hB hca hcb hca2 hcb2 ?_ E1 (rErrors_y A B n ca cb hn hA hB hca hcb) ?_ (rRuns_y A B n ca cb gp hn hA hB hca hcb h0 hg)
      · have := (rinv (bad A B) gp n).1.cap
        omega
      · intro q1 q2
        have h := Runs_y (mk A n q1) (mk B n q2) n (n + 1 + q1.length) (n + 1 + q2.length) gp hn (by rw [mk_len A n q1 hA]; omega) (by rw [mk_len B n q2 hB]; omega) (by omega) (by omega) h0 hg
        rw [rs_congr gp n (bad_mk q1 q2 hA hB)] at h
        exact h
    · exact law_g A B n n ca cb gp _ _ _ rs0 1 hA hB hca hcb hca2 hcb2 (Nat.zero_le _) E1 (rErrors_y A B n ca cb hn hA hB hca hcb)
        (fun q1 q2 => Runs_n _ _ n n _ _ gp (by omega) (by omega) (.inr (by omega))) (rRuns_n A B n n ca cb gp (by omega) (by omega) (.inr (by omega)))
  · exact law_g A B n m ca cb gp 0 0 1 rs0 1 hA hB hca hcb hca2 hcb2 (Nat.zero_le _)
      (fun q1 q2 => Errors_n _ _ n m _ _ (by omega) (by omega) hv) (rErrors_n A B n m ca cb (by omega) (by omega) hv)
      (fun q1 q2 => Runs_n _ _ n m _ _ gp (by omega) (by omega) (.inl hv)) (rRuns_n A B n m ca cb gp (by omega) (by omega) (.inl hv))
def lawSpec (n0 c0 : Nat) (g0 : Nat → Bool) (n1 c1 : Nat) (g1 : Nat → Bool) (gp : Int) : FSpec :=
  ⟨[.slice 0 0 n0 c0, .slice 1 0 n1 c1, .int .i64 gp], [.seg false (.bools ((List.range c0).map g0)), .seg false (.bools ((List.range c1).map g1))], [⟨Unit, fun _ => True, fun _ => .bool true, fun _ => [.dead, .dead]⟩]⟩
theorem law_m (n0 c0 : Nat) (g0 : Nat → Bool) (n1 c1 : Nat) (g1 : Nat → Bool) (gp : Int) (hn0 : n0 ≤ c0) (hb0 : c0 * 1 ≤ reachBytes) (hn1 : n1 ≤ c1) (hb1 : c1 * 1 ≤ reachBytes) (w : (Lit.int .i64 gp).wf = true) : Fits Try.prog 3 (lawSpec n0 c0 g0 n1 c1 g1 gp) :=
  law_f _ _ n0 n1 c0 c1 gp (by simp; exact hn0) (by simp; exact hn1) hn0 hn1 (by unfold reachBytes at hb0; omega) (by unfold reachBytes at hb1; omega)
    (by simp [Lit.wf, IntKind.min, IntKind.max, IntKind.signed, IntKind.bits] at w; omega)
end Go.Proofs.Ythcaoofpjjffiaa

namespace Go.Proofs.Ythcaoofpjjffiaa
open Go Go.Fw
namespace meterBits
open Go.ChangeShapes Go.WideShapes Go.ChangeAt Go.RowKit
theorem own : ownKnob Try.prog.godebug = none := by kernel_rfl
theorem laid : laidOutB Try.prog = true := by kernel_rfl

set_option maxRecDepth 100000 in
theorem lifted (os : Os) (started : os.Started) (H : Type) (enc : TypeId × Value → H) :
    ReturnsInHanded {} Try.checked os 3 .any (Rows.meterBitsSpec.pre6 enc Try.prog Try.f3 Rows.meterBitsRow.domain false) (Rows.meterBitsSpec.post enc Try.prog Try.f3 false true false false) := by
  refine returnsInHanded_of_change_sized (C := Try.checked) own started (by kernel_rfl) Try.func3
    (ChangeSpec.witness6 (enc := enc) (C := Try.checked) false ⟨#[], #[.slice none 0 0, .slice none 0 0, .int .i64 0], []⟩ 8 (by kernel_rfl) (by kernel_rfl) (by kernel_rfl) (by kernel_rfl)) ?_
  intro W base args ds gs before hval0 hW _ hsz0 _
  have hsz : (DataW.weightsEach Try.prog (Try.f3.params.toList ++ Rows.meterBitsSpec.plain.varTypes Try.prog) (ds ++ gs)).all (· ≤ reachBytes) = true := hsz0
  clear hsz0
  have hval : ∀ (j : Nat) t v, Try.f3.params[j]? = some t → args[j]? = some v → Value.okWide Try.prog W .any base t v := hval0
  have hW' := hW
  obtain ⟨p, q, hA0, hV, rfl, hfz, hnd⟩ := hW
  have hA : DataW.TrodAll enc Try.prog W 0 (fun _ => true) true Try.f3.params.toList args.toList ds p := hA0
  rw [Try.params3] at hA hval hsz
  obtain ⟨v0, vs0, d0, ds0, p0, q0, hargs, rfl, rfl, h0, r0⟩ := trodAll_cons hA
  obtain ⟨v1, vs1, d1, ds1, p1, q1, rfl, rfl, rfl, h1, r1⟩ := trodAll_cons r0
  obtain ⟨v2, vs2, d2, ds2, p2, q2, rfl, rfl, rfl, h2, r2⟩ := trodAll_cons r1
  obtain ⟨rfl, rfl, rfl⟩ := trodAll_nil r2
  obtain rfl : args = #[v0, v1, v2] := by cases args; simp_all
  obtain ⟨rfl, rfl⟩ := trodVars_none hV
  obtain ⟨a0, la0, z0, hv0⟩ := okWide_slice Try.underlying22 (hval 0 22 v0 rfl rfl)
  obtain ⟨c0c0, t0_0, e0_0, l0_0, e0_1⟩ : LeafsAre W [.row 1 [.bool]] v0.cells.toList := arg_open 12 (by kernel_rfl) h0 (fine_of (j := 0) hsz rfl rfl)
  subst e0_1
  obtain rfl : v0 = c0c0 := by subst hv0; simpa [Value.cells] using e0_0
  obtain ⟨n0_0, c0_0, g0_0, pl0_0, hn0_0, hb0_0, hc0_0⟩ := row_bools l0_0
  obtain ⟨a1, la1, z1, hv1⟩ := okWide_slice Try.underlying22 (hval 1 22 v1 rfl rfl)
  obtain ⟨c1c0, t1_0, e1_0, l1_0, e1_1⟩ : LeafsAre W [.row 1 [.bool]] v1.cells.toList := arg_open 12 (by kernel_rfl) h1 (fine_of (j := 1) hsz rfl rfl)
  subst e1_1
  obtain rfl : v1 = c1c0 := by subst hv1; simpa [Value.cells] using e1_0
  obtain ⟨n1_0, c1_0, g1_0, pl1_0, hn1_0, hb1_0, hc1_0⟩ := row_bools l1_0
  obtain ⟨x2_0, rfl, rfl, rfl, w2_0⟩ := open_int Try.underlying3 (hval 2 3 v2 rfl rfl) h2
  clear hA0 hval0
  obtain ⟨dd0_0, cc0_0⟩ := hc0_0 [pl0_0, pl1_0] 0 (by simp) rfl
  obtain ⟨dd1_0, cc1_0⟩ := hc1_0 [pl0_0, pl1_0] 1 (by simp) rfl
  have walk := (law_m n0_0 c0_0 g0_0 n1_0 c1_0 g1_0 x2_0 hn0_0 hb0_0 hn1_0 hb1_0 w2_0).calls W [pl0_0, pl1_0] [v0, v1, .int .i64 x2_0] (heap_args rfl fun i s hs => by
      match i, hs with
      | 0, hs => simp only [lawSpec, List.getElem?_cons_zero, Option.some.injEq] at hs; subst hs; exact ⟨_, rfl, cc0_0⟩
      | 1, hs => simp only [lawSpec, List.getElem?_cons_succ, List.getElem?_cons_zero, Option.some.injEq] at hs; subst hs; exact ⟨_, rfl, cc1_0⟩
      | i + 2, hs => simp [lawSpec] at hs) (by simp only [lawSpec, Dens]; exact ⟨_, _, rfl, dd0_0, ⟨_, _, rfl, dd1_0, ⟨_, _, rfl, by simp [Den], rfl⟩⟩⟩) (x := .bool true) (v := .bool true) rfl (by
      intro o ho y hy
      simp [lawSpec] at ho
      subst ho; rfl)
  refine walk.mono fun e W' ⟨he, hg⟩ => ?_
  subst he
  exact ⟨_, rfl, law_done laid rfl rfl Try.underlying4 (by kernel_rfl) hW' rfl hg⟩

theorem over : Rows.meterBitsRow.holds Try.pinned (OpenSpec.ofChange Rows.meterBitsSpec) :=
  OpenClaim.holds_of_wide 3 Try.f3 rfl rfl rfl rfl rfl rfl rfl ⟨rfl, rfl, rfl, rfl, rfl⟩ rfl rfl rfl rfl rfl (by kernel_rfl) Try.func3 (by kernel_rfl)
    (of_decide_eq_true (by kernel_rfl)) (by unfold Func.isWrapper; first | (rw [if_pos (by decide +kernel)]; kernel_rfl) | (rw [if_neg (by decide +kernel)]; exact ⟨rfl, rfl⟩))
    (fun os started H enc _ => lifted os started H enc)

theorem proved : Rows.MeterBitsSaid := over
end meterBits
end Go.Proofs.Ythcaoofpjjffiaa
