/-
  For any row of quarters and any number of a byte, the row that turns on, the bits and the counted-on row lead back as the document says, and the law answers true and leaves its arguments as they were. No condition.
-/
import Derived.Test.YteefbedjblppiaaRows
import Derived.Test.YteefbedjblppiaaFv
import Derived.Test.YteefbedjblppiaaChecked
import Derived.Test.YteefbedjblppiaaFa
import Derived.WalkKit
import Derived.ProofKit
import Derived.OpenShut
import Derived.SizedLaws
set_option linter.unusedSimpArgs false
set_option linter.unusedVariables false
set_option linter.unusedVariables false
set_option linter.unusedSimpArgs false
namespace Go.Proofs.Yteefbedjblppiaa
open Go Go.Fw
def tys : List (Nat × TyI) := [
  (3, ⟨.int .i64, 1, 8, .int .i64 0⟩),
  (4, ⟨.bool, 1, 1, .bool false⟩),
  (5, ⟨.int .u8, 1, 1, .int .u8 0⟩),
  (22, ⟨.slice 5, 1, 24, .slice none 0 0⟩),
  (23, ⟨.slice 4, 1, 24, .slice none 0 0⟩),
  (30, ⟨.int .i64, 1, 8, .int .i64 0⟩),
  (43, ⟨.func, 1, 8, .nilFunc⟩)]
theorem tok : TOk Try.prog tys := by
  intro p hp
  simp only [tys, List.mem_cons, List.not_mem_nil, or_false] at hp
  rcases hp with rfl | rfl | rfl | rfl | rfl | rfl | rfl
  all_goals exact ⟨by kernel_rfl, by kernel_rfl⟩
theorem mixed : Try.prog.follows .mixedOrders = true := by kernel_rfl
def qf : Nat → Bool := fun f => match f with | 6 => true | 7 => true | 23 => true | 25 => true | _ => false
def cfgs (k : Nat) : Cfg := { T := tys, sgn := fun _ => false, wr := fun _ => false, k := k, q := qf }
theorem i64max : IntKind.i64.max = 9223372036854775807 := rfl
theorem u8max : IntKind.u8.max = 255 := rfl
theorem u16max : IntKind.u16.max = 65535 := rfl
theorem u32max : IntKind.u32.max = 4294967295 := rfl
theorem u64max : IntKind.u64.max = 18446744073709551615 := rfl
theorem u8wrap (n : Int) : IntKind.u8.wrap n = n % 256 := by
  unfold IntKind.wrap
  simp [IntKind.bits, IntKind.signed]
def numOut (D : List Seg) (x : AV) : FOut := ⟨Unit, fun _ => True, fun _ => x, fun _ => D⟩
/-- A row by what stands at each place. -/
def tab {α : Type} (f : Nat → α) (n : Nat) : List α := (List.range n).map f
theorem tab_len {α : Type} (f : Nat → α) (n : Nat) : (tab f n).length = n := by simp [tab]
theorem tab_get {α : Type} (f : Nat → α) (d : α) {n i : Nat} (h : i < n) : (tab f n).getD i d = f i := by
  rw [List.getD_eq_getElem?_getD, tab, List.getElem?_map, List.getElem?_range h]; rfl
theorem tab_snoc {α : Type} (f : Nat → α) (n : Nat) : tab f n ++ [f n] = tab f (n + 1) := by simp [tab, List.range_succ]
theorem tab_app {α : Type} (f : Nat → α) (d : α) (t : List α) {n i : Nat} (h : i < n) : (tab f n ++ t).getD i d = f i := by
  rw [List.getD_eq_getElem?_getD, List.getElem?_append_left (by rw [tab_len]; exact h), ← List.getD_eq_getElem?_getD, tab_get f d h]
theorem tab_set {α : Type} (f : Nat → α) (z : α) (k r : Nat) : (tab f k ++ List.replicate (r + 1) z).set k (f k) = tab f (k + 1) ++ List.replicate r z := by
  have e := List.set_append_right k (f k) (s := tab f k) (t := List.replicate (r + 1) z) (by rw [tab_len]; exact Nat.le_refl _)
  rw [e, tab_len, Nat.sub_self, List.replicate_succ, List.set_cons_zero, ← tab_snoc, List.append_assoc]; rfl
theorem app_len {α : Type} (f : Nat → α) (n : Nat) (t : List α) : (tab f n ++ t).length = n + t.length := by rw [List.length_append, tab_len]
/-- The rows are alike at these places. -/
def q4 (a : Int) : Prop := 0 ≤ a ∧ a < 4
def sumq (A : Nat → Int) : Nat → Int
  | 0 => 0
  | k + 1 => (sumq A k + A k) % 4
def inq (A : Nat → Int) (k : Nat) : Int := sumq A (k + 1)
def outq (A : Nat → Int) (k : Nat) : Int := (A k - (if k = 0 then 0 else A (k - 1))) % 4
theorem sumq_in (A : Nat → Int) : ∀ k, q4 (sumq A k)
  | 0 => by show (0 : Int) ≤ 0 ∧ (0 : Int) < 4; omega
  | k + 1 => by unfold sumq q4; omega
theorem inq_in (A : Nat → Int) (k : Nat) : q4 (inq A k) := sumq_in A (k + 1)
theorem outq_in (A : Nat → Int) (k : Nat) : q4 (outq A k) := by unfold outq q4; omega
theorem out_in {A : Nat → Int} {k : Nat} (h : q4 (A k)) : outq (inq A) k = A k := by
  unfold outq inq
  have := sumq_in A k
  unfold q4 at *
  cases k with
  | zero =>
    rw [if_pos rfl]
    show ((0 + A 0) % 4 - 0) % 4 = A 0
    omega
  | succ k =>
    rw [if_neg (by omega), Nat.add_sub_cancel]
    show (sumq A (k + 1 + 1) - sumq A (k + 1)) % 4 = A (k + 1)
    rw [sumq]
    omega
theorem in_out {A : Nat → Int} (h : ∀ k, q4 (A k)) : ∀ k, inq (outq A) k = A k
  | 0 => by
    have := h 0
    unfold q4 at this
    unfold inq outq sumq sumq
    rw [if_pos rfl]; omega
  | k + 1 => by
    have := h (k + 1)
    have ih := in_out h k
    unfold q4 at this
    unfold inq at ih ⊢
    rw [sumq, ih]
    unfold outq
    rw [if_neg (by omega), Nat.add_sub_cancel]
    omega
theorem and3 (a : Int) (h : 0 ≤ a) : ((a.toNat &&& (3 : Int).toNat : Nat) : Int) = a % 4 := by
  rw [show (3 : Int).toNat = 2 ^ 2 - 1 from rfl, Nat.and_two_pow_sub_one_eq_mod]; omega
theorem on_eq {a b : Int} (ha : q4 a) (hb : q4 b) : (((IntKind.u8.wrap (a + b)).toNat &&& (3 : Int).toNat : Nat) : Int) = (a + b) % 4 := by
  unfold q4 at *
  rw [u8wrap, and3 _ (by omega)]; omega
theorem off_eq {a b : Int} (ha : q4 a) (hb : q4 b) : (((IntKind.u8.wrap (a - b)).toNat &&& (3 : Int).toNat : Nat) : Int) = (a - b) % 4 := by
  unfold q4 at *
  rw [u8wrap, and3 _ (by omega)]; omega
/-- Two bits a quarter. -/
def bitq (A : Nat → Int) (j : Nat) : Bool := if j % 2 = 0 then decide (2 ≤ A (j / 2)) else (decide (A (j / 2) = 1) || decide (A (j / 2) = 2))
def ofq (B : Nat → Bool) (k : Nat) : Int := if B (2 * k) then (if B (2 * k + 1) then 2 else 3) else (if B (2 * k + 1) then 1 else 0)
theorem bitq_even (A : Nat → Int) (k : Nat) : bitq A (2 * k) = decide (2 ≤ A k) := by
  unfold bitq; rw [if_pos (by omega), show 2 * k / 2 = k by omega]
theorem bitq_odd (A : Nat → Int) (k : Nat) : bitq A (2 * k + 1) = (decide (A k = 1) || decide (A k = 2)) := by
  unfold bitq; rw [if_neg (by omega), show (2 * k + 1) / 2 = k by omega]
theorem of_bit {A : Nat → Int} {k : Nat} (h : q4 (A k)) : ofq (bitq A) k = A k := by
  unfold ofq
  rw [bitq_even, bitq_odd]
  unfold q4 at h
  rcases (show A k = 0 ∨ A k = 1 ∨ A k = 2 ∨ A k = 3 by omega) with e | e | e | e <;> rw [e] <;> rfl
theorem tab_two {α : Type} (f : Nat → α) (k : Nat) : tab f (2 * k) ++ [f (2 * k), f (2 * k + 1)] = tab f (2 * (k + 1)) := by
  rw [show 2 * (k + 1) = 2 * k + 1 + 1 by omega, ← tab_snoc, ← tab_snoc, List.append_assoc]; rfl
end Go.Proofs.Yteefbedjblppiaa

set_option linter.unusedVariables false
set_option linter.unusedSimpArgs false
namespace Go.Proofs.Yteefbedjblppiaa
open Go Go.Fw
noncomputable def c23 : Code := (Try.f23.body).getD .skip
def st23 (A : List Int) (o n ca k : Nat) : St := ⟨anyTo 17 [.slice 0 o n ca, .any, .any, .any, .any, .any, .any, .any, .slice 0 o n ca, .int .i64 n, .int .i64 k], [.seg false (.ints .u8 A)]⟩
def inv23 (A : List Int) (o n ca : Nat) : LInv := ⟨Nat, fun k => st23 A o n ca k, fun k => k ≤ n, fun k => n - k⟩
set_option maxHeartbeats 0 in
set_option maxRecDepth 100000 in
theorem isRow_y (A : List Int) (F : Nat → Int) (o n ca : Nat) (hA : o + n ≤ A.length) (hN : n ≤ 65536) (hF : ∀ i, i < n → A.getD (o + i) 0 = F i ∧ q4 (F i)) :
    QFits Try.prog 23 ⟨[.slice 0 o n ca], [.seg false (.ints .u8 A)], .bool true⟩ := by
  refine qfits_of_body (C := cfgs 1) (c := c23) (ts := [2]) tok mixed (fun | 4 => some (inv23 A o n ca) | _ => none) (fun _ => none)
    Try.func23 (by kernel_rfl) (by kernel_rfl) (by kernel_rfl) (by kernel_rfl) (by kernel_rfl) rfl rfl ?_
  conv => whnf
  repeat (first
    | (refine And.intro ?_ ?_; (focus (first | omega | decide | exact Int.natCast_nonneg _ | ((repeat' refine And.intro ?_ ?_) <;> first | omega | exact Int.natCast_nonneg _ | (simp only [i64max]; omega) | (simp only [u8max]; omega) | (simp only [i64max, u8max, u16max, u32max, u64max]; omega) | (simp [mulSz, Cont.len, bne]; done) | (simp [mulSz, Cont.len, bne]; omega)))); conv => whnf)
    | (refine tst_in ?_ ?_; (focus (intro h_; exfalso; first | omega | ((try simp only [decide_eq_true_eq, decide_eq_false_iff_not] at h_); omega) | (simp [mulSz, Cont.len, bne] at h_; done) | (simp [mulSz, Cont.len, bne] at h_; omega))); intro _; conv => whnf)
    | (refine tst_in ?_ ?_; rotate_left; (focus (intro h_; exfalso; first | omega | ((try simp only [decide_eq_true_eq, decide_eq_false_iff_not] at h_); omega) | (simp [mulSz, Cont.len, bne] at h_; done) | (simp [mulSz, Cont.len, bne] at h_; omega))); intro _; conv => whnf))
  refine ⟨⟨[0], (0 : Nat), ?_, Nat.zero_le _⟩, ?_⟩
  · conv => whnf
    repeat' (first | exact True.intro | rfl | refine And.intro ?_ ?_)
    all_goals (conv => whnf)
    repeat' (first | exact True.intro | rfl | refine And.intro ?_ ?_)
    all_goals (try (first | omega | exact True.intro | rfl | assumption | (change LE.le (α := Nat) _ _; first | omega | (simp only []; omega)) | (simp only []; done) | (simp only []; omega) | (simp; done) | (simp; omega)))
  · intro (k : Nat) (hk : k ≤ n)
    show forceSt (st23 A o n ca k) _
    conv => whnf
    refine tst_in (fun hlt => ?_) (fun hge => ?_)
    · skip
      have hlt : k < n := by simp at hlt; omega
      have hX : o + ((k : Int)).toNat = o + k := by omega
      have hv := hF k hlt
      unfold q4 at hv
      conv => whnf
      repeat (first
        | (refine And.intro ?_ ?_; (focus (first | omega | decide | exact Int.natCast_nonneg _ | ((repeat' refine And.intro ?_ ?_) <;> first | omega | exact Int.natCast_nonneg _ | (simp only [i64max]; omega) | (simp only [u8max]; omega) | (simp only [i64max, u8max, u16max, u32max, u64max]; omega) | (simp [mulSz, Cont.len, bne]; done) | (simp [mulSz, Cont.len, bne]; omega)))); conv => whnf)
        | (refine tst_in ?_ ?_; (focus (intro h_; exfalso; first | omega | ((try simp only [decide_eq_true_eq, decide_eq_false_iff_not] at h_); omega) | (simp [mulSz, Cont.len, bne] at h_; done) | (simp [mulSz, Cont.len, bne] at h_; omega))); intro _; conv => whnf)
        | (refine tst_in ?_ ?_; rotate_left; (focus (intro h_; exfalso; first | omega | ((try simp only [decide_eq_true_eq, decide_eq_false_iff_not] at h_); omega) | (simp [mulSz, Cont.len, bne] at h_; done) | (simp [mulSz, Cont.len, bne] at h_; omega))); intro _; conv => whnf))
      rw [hX, hv.1]
      conv => whnf
      repeat (first
        | (refine And.intro ?_ ?_; (focus (first | omega | decide | exact Int.natCast_nonneg _ | ((repeat' refine And.intro ?_ ?_) <;> first | omega | exact Int.natCast_nonneg _ | (simp only [i64max]; omega) | (simp only [u8max]; omega) | (simp only [i64max, u8max, u16max, u32max, u64max]; omega) | (simp [mulSz, Cont.len, bne]; done) | (simp [mulSz, Cont.len, bne]; omega)))); conv => whnf)
        | (refine tst_in ?_ ?_; (focus (intro h_; exfalso; first | omega | ((try simp only [decide_eq_true_eq, decide_eq_false_iff_not] at h_); omega) | (simp [mulSz, Cont.len, bne] at h_; done) | (simp [mulSz, Cont.len, bne] at h_; omega))); intro _; conv => whnf)
        | (refine tst_in ?_ ?_; rotate_left; (focus (intro h_; exfalso; first | omega | ((try simp only [decide_eq_true_eq, decide_eq_false_iff_not] at h_); omega) | (simp [mulSz, Cont.len, bne] at h_; done) | (simp [mulSz, Cont.len, bne] at h_; omega))); intro _; conv => whnf))
      refine ⟨[0], k + 1, ?_, (by show k + 1 ≤ n; omega), (by show n - (k + 1) < n - k; omega)⟩
      conv => whnf
      repeat' (first | exact True.intro | rfl | refine And.intro ?_ ?_)
      all_goals (conv => whnf)
      repeat' (first | exact True.intro | rfl | refine And.intro ?_ ?_)
      all_goals (try (first | omega | exact True.intro | rfl | assumption | (change LE.le (α := Nat) _ _; first | omega | (simp only []; omega)) | (simp only []; done) | (simp only []; omega) | (simp; done) | (simp; omega)))
    · skip
      have hge : k = n := by simp at hge; omega
      conv => whnf
      repeat (first
        | (refine And.intro ?_ ?_; (focus (first | omega | decide | exact Int.natCast_nonneg _ | ((repeat' refine And.intro ?_ ?_) <;> first | omega | exact Int.natCast_nonneg _ | (simp only [i64max]; omega) | (simp only [u8max]; omega) | (simp only [i64max, u8max, u16max, u32max, u64max]; omega) | (simp [mulSz, Cont.len, bne]; done) | (simp [mulSz, Cont.len, bne]; omega)))); conv => whnf)
        | (refine tst_in ?_ ?_; (focus (intro h_; exfalso; first | omega | ((try simp only [decide_eq_true_eq, decide_eq_false_iff_not] at h_); omega) | (simp [mulSz, Cont.len, bne] at h_; done) | (simp [mulSz, Cont.len, bne] at h_; omega))); intro _; conv => whnf)
        | (refine tst_in ?_ ?_; rotate_left; (focus (intro h_; exfalso; first | omega | ((try simp only [decide_eq_true_eq, decide_eq_false_iff_not] at h_); omega) | (simp [mulSz, Cont.len, bne] at h_; done) | (simp [mulSz, Cont.len, bne] at h_; omega))); intro _; conv => whnf))
      first | exact rfl | trace_state
noncomputable def c24 : Code := (Try.f24.body).getD .skip
set_option maxHeartbeats 0 in
set_option maxRecDepth 100000 in
theorem turning_f : Fits Try.prog 24 ⟨[], [], [⟨Unit, fun _ => True, fun _ => .fn 26 [.ptr 0 0], fun _ => [.seg true (.avs [.int .u8 0])]⟩]⟩ := by
  refine fits_of_body (C := cfgs 0) (c := c24) (ts := [0]) tok mixed (fun _ => none) (fun _ => none)
    Try.func24 (by kernel_rfl) (by kernel_rfl) (by kernel_rfl) (by kernel_rfl) rfl ?_
  conv => whnf
  repeat (first
    | (refine And.intro ?_ ?_; (focus (first | omega | decide | exact Int.natCast_nonneg _ | ((repeat' refine And.intro ?_ ?_) <;> first | omega | exact Int.natCast_nonneg _ | (simp only [i64max]; omega) | (simp only [u8max]; omega) | (simp only [i64max, u8max, u16max, u32max, u64max]; omega) | (simp [mulSz, Cont.len, bne]; done) | (simp [mulSz, Cont.len, bne]; omega)))); conv => whnf)
    | (refine tst_in ?_ ?_; (focus (intro h_; exfalso; first | omega | ((try simp only [decide_eq_true_eq, decide_eq_false_iff_not] at h_); omega) | (simp [mulSz, Cont.len, bne] at h_; done) | (simp [mulSz, Cont.len, bne] at h_; omega))); intro _; conv => whnf)
    | (refine tst_in ?_ ?_; rotate_left; (focus (intro h_; exfalso; first | omega | ((try simp only [decide_eq_true_eq, decide_eq_false_iff_not] at h_); omega) | (simp [mulSz, Cont.len, bne] at h_; done) | (simp [mulSz, Cont.len, bne] at h_; omega))); intro _; conv => whnf))
  refine .inl ⟨(), [0], ?_⟩
  conv => whnf
  repeat' (first | exact True.intro | rfl | refine And.intro ?_ ?_)
  all_goals (conv => whnf)
  repeat' (first | exact True.intro | rfl | refine And.intro ?_ ?_)
  all_goals (try (first | omega | exact True.intro | rfl | assumption | (change LE.le (α := Nat) _ _; first | omega | (simp only []; omega)) | (simp only []; done) | (simp only []; omega) | (simp; done) | (simp; omega)))
noncomputable def c26 : Code := (Try.f26.body).getD .skip
set_option maxHeartbeats 0 in
set_option maxRecDepth 100000 in
theorem turn_f (a b : Int) (ha : q4 a) (hb : q4 b) : Fits Try.prog 26 ⟨[.int .u8 b, .ptr 0 0], [.seg true (.avs [.int .u8 a])], [numOut [.seg true (.avs [.int .u8 ((a + b) % 4)])] (.int .u8 ((a + b) % 4))]⟩ := by
  have e := on_eq ha hb
  have hw : 0 ≤ IntKind.u8.wrap (a + b) ∧ IntKind.u8.wrap (a + b) ≤ 255 := by rw [u8wrap]; omega
  refine fits_of_body (C := cfgs 1) (c := c26) (ts := [3]) tok mixed (fun _ => none) (fun _ => none)
    Try.func26 (by kernel_rfl) (by kernel_rfl) (by kernel_rfl) (by kernel_rfl) rfl ?_
  conv => whnf
  repeat (first
    | (refine And.intro ?_ ?_; (focus (first | omega | decide | exact Int.natCast_nonneg _ | ((repeat' refine And.intro ?_ ?_) <;> first | omega | exact Int.natCast_nonneg _ | (simp only [i64max]; omega) | (simp only [u8max]; omega) | (simp only [i64max, u8max, u16max, u32max, u64max]; omega) | (simp [mulSz, Cont.len, bne, u8max]; done) | (simp [mulSz, Cont.len, bne, u8max]; omega)))); conv => whnf)
    | (refine tst_in ?_ ?_; (focus (intro h_; exfalso; first | omega | ((try simp only [decide_eq_true_eq, decide_eq_false_iff_not] at h_); omega) | (simp [mulSz, Cont.len, bne, u8max] at h_; done) | (simp [mulSz, Cont.len, bne, u8max] at h_; omega))); intro _; conv => whnf)
    | (refine tst_in ?_ ?_; rotate_left; (focus (intro h_; exfalso; first | omega | ((try simp only [decide_eq_true_eq, decide_eq_false_iff_not] at h_); omega) | (simp [mulSz, Cont.len, bne, u8max] at h_; done) | (simp [mulSz, Cont.len, bne, u8max] at h_; omega))); intro _; conv => whnf))
  rw [e]
  conv => whnf
  repeat (first
    | (refine And.intro ?_ ?_; (focus (first | omega | decide | exact Int.natCast_nonneg _ | ((repeat' refine And.intro ?_ ?_) <;> first | omega | exact Int.natCast_nonneg _ | (simp only [i64max]; omega) | (simp only [u8max]; omega) | (simp only [i64max, u8max, u16max, u32max, u64max]; omega) | (simp [mulSz, Cont.len, bne]; done) | (simp [mulSz, Cont.len, bne]; omega)))); conv => whnf)
    | (refine tst_in ?_ ?_; (focus (intro h_; exfalso; first | omega | ((try simp only [decide_eq_true_eq, decide_eq_false_iff_not] at h_); omega) | (simp [mulSz, Cont.len, bne] at h_; done) | (simp [mulSz, Cont.len, bne] at h_; omega))); intro _; conv => whnf)
    | (refine tst_in ?_ ?_; rotate_left; (focus (intro h_; exfalso; first | omega | ((try simp only [decide_eq_true_eq, decide_eq_false_iff_not] at h_); omega) | (simp [mulSz, Cont.len, bne] at h_; done) | (simp [mulSz, Cont.len, bne] at h_; omega))); intro _; conv => whnf))
  refine .inl ⟨(), [0], ?_⟩
  conv => whnf
  repeat' (first | exact True.intro | rfl | refine And.intro ?_ ?_)
  all_goals (conv => whnf)
  repeat' (first | exact True.intro | rfl | refine And.intro ?_ ?_)
  all_goals (try (first | omega | exact True.intro | rfl | assumption | (change LE.le (α := Nat) _ _; first | omega | (simp only []; omega)) | (simp only []; done) | (simp only []; omega) | (simp; done) | (simp; omega)))
end Go.Proofs.Yteefbedjblppiaa

set_option linter.unusedVariables false
set_option linter.unusedSimpArgs false
namespace Go.Proofs.Yteefbedjblppiaa
open Go Go.Fw
noncomputable def c11 : Code := (Try.f11.body).getD .skip
def st11 (A : List Int) (F : Nat → Int) (o n ca k : Nat) : St := ⟨anyTo 30 [.slice 0 o n ca, .any, .any, .any, .slice 1 0 n n, .fn 26 [.ptr 2 0], .any, .any, .any, .any, .any, .any, .any, .any, .any, .slice 0 o n ca, .int .i64 n, .int .i64 k], [.seg false (.ints .u8 A), .seg true (.ints .u8 (tab (inq F) k ++ List.replicate (n - k) 0)), .seg true (.avs [.int .u8 (sumq F k)])]⟩
def inv11 (A : List Int) (F : Nat → Int) (o n ca : Nat) : LInv := ⟨Nat, fun k => st11 A F o n ca k, fun k => k ≤ n, fun k => n - k⟩
def rowOut (f : Nat → Int) (n : Nat) : FOut := ⟨Unit, fun _ => True, fun _ => .tup [.slice 1 0 n n, .int .i64 0], fun _ => [.dead, .seg true (.ints .u8 (tab f n))]⟩
set_option maxHeartbeats 0 in
set_option maxRecDepth 100000 in
theorem Into_f (A : List Int) (F : Nat → Int) (o n ca : Nat) (hA : o + n ≤ A.length) (hN : n ≤ 65536) (hF : ∀ i, i < n → A.getD (o + i) 0 = F i ∧ q4 (F i)) :
    Fits Try.prog 11 ⟨[.slice 0 o n ca], [.seg false (.ints .u8 A)], [rowOut (inq F) n]⟩ := by
  have IR := isRow_y A F o n ca hA hN hF
  refine fits_of_body (C := cfgs 1) (c := c11) (ts := [2, 3]) tok mixed (fun | 6 => some (inv11 A F o n ca) | _ => none) (fun _ => none)
    Try.func11 (by kernel_rfl) (by kernel_rfl) (by kernel_rfl) (by kernel_rfl) rfl ?_
  conv => whnf
  repeat (first
    | (refine And.intro ?_ ?_; (focus (first | omega | decide | exact Int.natCast_nonneg _ | ((repeat' refine And.intro ?_ ?_) <;> first | omega | exact Int.natCast_nonneg _ | (simp only [i64max]; omega) | (simp only [u8max]; omega) | (simp only [i64max, u8max, u16max, u32max, u64max]; omega) | (simp [mulSz, Cont.len, bne]; done) | (simp [mulSz, Cont.len, bne]; omega)))); conv => whnf)
    | (refine tst_in ?_ ?_; (focus (intro h_; exfalso; first | omega | ((try simp only [decide_eq_true_eq, decide_eq_false_iff_not] at h_); omega) | (simp [mulSz, Cont.len, bne] at h_; done) | (simp [mulSz, Cont.len, bne] at h_; omega))); intro _; conv => whnf)
    | (refine tst_in ?_ ?_; rotate_left; (focus (intro h_; exfalso; first | omega | ((try simp only [decide_eq_true_eq, decide_eq_false_iff_not] at h_); omega) | (simp [mulSz, Cont.len, bne] at h_; done) | (simp [mulSz, Cont.len, bne] at h_; omega))); intro _; conv => whnf))
  refine ⟨_, [0], IR, ?_⟩
  conv => whnf
  refine ⟨?_, ?_, ?_⟩
  · conv => whnf
    repeat' (first | exact True.intro | rfl | refine And.intro ?_ ?_)
    all_goals (conv => whnf)
    repeat' (first | exact True.intro | rfl | refine And.intro ?_ ?_)
    all_goals (try (first | rfl | omega | (simp; done) | (simp; omega)))
  · conv => whnf
    repeat' (first | exact True.intro | rfl | refine And.intro ?_ ?_)
    all_goals (conv => whnf)
    repeat' (first | exact True.intro | rfl | refine And.intro ?_ ?_)
    all_goals (try (first | rfl | omega | (simp; done) | (simp; omega)))
  conv => whnf
  conv => whnf
  repeat (first
    | (refine And.intro ?_ ?_; (focus (first | omega | decide | exact Int.natCast_nonneg _ | ((repeat' refine And.intro ?_ ?_) <;> first | omega | exact Int.natCast_nonneg _ | (simp only [i64max]; omega) | (simp only [u8max]; omega) | (simp only [i64max, u8max, u16max, u32max, u64max]; omega) | (simp [mulSz, Cont.len, bne]; done) | (simp [mulSz, Cont.len, bne]; omega)))); conv => whnf)
    | (refine tst_in ?_ ?_; (focus (intro h_; exfalso; first | omega | ((try simp only [decide_eq_true_eq, decide_eq_false_iff_not] at h_); omega) | (simp [mulSz, Cont.len, bne] at h_; done) | (simp [mulSz, Cont.len, bne] at h_; omega))); intro _; conv => whnf)
    | (refine tst_in ?_ ?_; rotate_left; (focus (intro h_; exfalso; first | omega | ((try simp only [decide_eq_true_eq, decide_eq_false_iff_not] at h_); omega) | (simp [mulSz, Cont.len, bne] at h_; done) | (simp [mulSz, Cont.len, bne] at h_; omega))); intro _; conv => whnf))
  refine ⟨_, [], turning_f, ?_⟩
  conv => whnf
  refine ⟨?_, ?_, ?_⟩
  · conv => whnf
    repeat' (first | exact True.intro | rfl | refine And.intro ?_ ?_ | omega)
    all_goals (conv => whnf)
    all_goals (try (first | rfl | omega | (simp; done)))
  · conv => whnf
    repeat' (first | exact True.intro | rfl | refine And.intro ?_ ?_ | omega)
    all_goals (conv => whnf)
    all_goals (try (first | rfl | omega | (simp; done)))
  conv => whnf
  refine ⟨?_, True.intro⟩
  intro _ _
  conv => whnf
  conv => whnf
  repeat (first
    | (refine And.intro ?_ ?_; (focus (first | omega | decide | exact Int.natCast_nonneg _ | ((repeat' refine And.intro ?_ ?_) <;> first | omega | exact Int.natCast_nonneg _ | (simp only [i64max]; omega) | (simp only [u8max]; omega) | (simp only [i64max, u8max, u16max, u32max, u64max]; omega) | (simp [mulSz, Cont.len, bne]; done) | (simp [mulSz, Cont.len, bne]; omega)))); conv => whnf)
    | (refine tst_in ?_ ?_; (focus (intro h_; exfalso; first | omega | ((try simp only [decide_eq_true_eq, decide_eq_false_iff_not] at h_); omega) | (simp [mulSz, Cont.len, bne] at h_; done) | (simp [mulSz, Cont.len, bne] at h_; omega))); intro _; conv => whnf)
    | (refine tst_in ?_ ?_; rotate_left; (focus (intro h_; exfalso; first | omega | ((try simp only [decide_eq_true_eq, decide_eq_false_iff_not] at h_); omega) | (simp [mulSz, Cont.len, bne] at h_; done) | (simp [mulSz, Cont.len, bne] at h_; omega))); intro _; conv => whnf))
  refine ⟨⟨[0, 1, 2], (0 : Nat), ?_, Nat.zero_le _⟩, ?_⟩
  · conv => whnf
    repeat' (first | exact True.intro | rfl | refine And.intro ?_ ?_)
    all_goals (conv => whnf)
    repeat' (first | exact True.intro | rfl | refine And.intro ?_ ?_)
    all_goals (try (first | omega | exact True.intro | rfl | assumption | (change LE.le (α := Nat) _ _; first | omega | (simp only []; omega)) | (simp only []; done) | (simp only []; omega) | (simp; done) | (simp; omega)))
  · intro (k : Nat) (hk : k ≤ n)
    show forceSt (st11 A F o n ca k) _
    conv => whnf
    refine tst_in (fun hlt => ?_) (fun hge => ?_)
    · skip
      have hlt : k < n := by simp at hlt; omega
      obtain ⟨r, hr⟩ : ∃ r, n - k = r + 1 := ⟨n - k - 1, by omega⟩
      have hX : o + ((k : Int)).toNat = o + k := by omega
      have hX0 : 0 + ((k : Int)).toNat = k := by omega
      have hv := hF k hlt
      have TU := turn_f (sumq F k) (F k) (sumq_in F k) hv.2
      have hlen := app_len (inq F) k (List.replicate (r + 1) (0 : Int))
      rw [List.length_replicate] at hlen
      rw [hr]
      conv => whnf
      repeat (first
        | (refine And.intro ?_ ?_; (focus (first | omega | decide | exact Int.natCast_nonneg _ | ((repeat' refine And.intro ?_ ?_) <;> first | omega | exact Int.natCast_nonneg _ | (simp only [i64max]; omega) | (simp only [u8max]; omega) | (simp only [i64max, u8max, u16max, u32max, u64max]; omega) | (simp [mulSz, Cont.len, bne]; done) | (simp [mulSz, Cont.len, bne]; omega)))); conv => whnf)
        | (refine tst_in ?_ ?_; (focus (intro h_; exfalso; first | omega | ((try simp only [decide_eq_true_eq, decide_eq_false_iff_not] at h_); omega) | (simp [mulSz, Cont.len, bne] at h_; done) | (simp [mulSz, Cont.len, bne] at h_; omega))); intro _; conv => whnf)
        | (refine tst_in ?_ ?_; rotate_left; (focus (intro h_; exfalso; first | omega | ((try simp only [decide_eq_true_eq, decide_eq_false_iff_not] at h_); omega) | (simp [mulSz, Cont.len, bne] at h_; done) | (simp [mulSz, Cont.len, bne] at h_; omega))); intro _; conv => whnf))
      rw [hX, hv.1]
      conv => whnf
      repeat (first
        | (refine And.intro ?_ ?_; (focus (first | omega | decide | exact Int.natCast_nonneg _ | ((repeat' refine And.intro ?_ ?_) <;> first | omega | exact Int.natCast_nonneg _ | (simp only [i64max]; omega) | (simp only [u8max]; omega) | (simp only [i64max, u8max, u16max, u32max, u64max]; omega) | (simp [mulSz, Cont.len, bne]; done) | (simp [mulSz, Cont.len, bne]; omega)))); conv => whnf)
        | (refine tst_in ?_ ?_; (focus (intro h_; exfalso; first | omega | ((try simp only [decide_eq_true_eq, decide_eq_false_iff_not] at h_); omega) | (simp [mulSz, Cont.len, bne] at h_; done) | (simp [mulSz, Cont.len, bne] at h_; omega))); intro _; conv => whnf)
        | (refine tst_in ?_ ?_; rotate_left; (focus (intro h_; exfalso; first | omega | ((try simp only [decide_eq_true_eq, decide_eq_false_iff_not] at h_); omega) | (simp [mulSz, Cont.len, bne] at h_; done) | (simp [mulSz, Cont.len, bne] at h_; omega))); intro _; conv => whnf))
      refine ⟨_, [2], TU, ?_⟩
      conv => whnf
      refine ⟨?_, ?_, ?_⟩
      · conv => whnf
        repeat' (first | exact True.intro | rfl | refine And.intro ?_ ?_ | omega)
        all_goals (conv => whnf)
        all_goals (try (first | rfl | omega | (simp; done)))
      · conv => whnf
        repeat' (first | exact True.intro | rfl | refine And.intro ?_ ?_ | omega)
        all_goals (conv => whnf)
        all_goals (try (first | rfl | omega | (simp; done)))
      conv => whnf
      refine ⟨?_, True.intro⟩
      intro _ _
      conv => whnf
      conv => whnf
      repeat (first
        | (refine And.intro ?_ ?_; (focus (first | omega | decide | exact Int.natCast_nonneg _ | ((repeat' refine And.intro ?_ ?_) <;> first | omega | exact Int.natCast_nonneg _ | (simp only [i64max]; omega) | (simp only [u8max]; omega) | (simp only [i64max, u8max, u16max, u32max, u64max]; omega) | (simp [mulSz, Cont.len, bne, hlen]; done) | (simp [mulSz, Cont.len, bne, hlen]; omega)))); conv => whnf)
        | (refine tst_in ?_ ?_; (focus (intro h_; exfalso; first | omega | ((try simp only [decide_eq_true_eq, decide_eq_false_iff_not] at h_); omega) | (simp [mulSz, Cont.len, bne, hlen] at h_; done) | (simp [mulSz, Cont.len, bne, hlen] at h_; omega))); intro _; conv => whnf)
        | (refine tst_in ?_ ?_; rotate_left; (focus (intro h_; exfalso; first | omega | ((try simp only [decide_eq_true_eq, decide_eq_false_iff_not] at h_); omega) | (simp [mulSz, Cont.len, bne, hlen] at h_; done) | (simp [mulSz, Cont.len, bne, hlen] at h_; omega))); intro _; conv => whnf))
      rw [hX0, show ((sumq F k + F k) % 4) = inq F k from rfl, tab_set]
      conv => whnf
      repeat (first
        | (refine And.intro ?_ ?_; (focus (first | omega | decide | exact Int.natCast_nonneg _ | ((repeat' refine And.intro ?_ ?_) <;> first | omega | exact Int.natCast_nonneg _ | (simp only [i64max]; omega) | (simp only [u8max]; omega) | (simp only [i64max, u8max, u16max, u32max, u64max]; omega) | (simp [mulSz, Cont.len, bne]; done) | (simp [mulSz, Cont.len, bne]; omega)))); conv => whnf)
        | (refine tst_in ?_ ?_; (focus (intro h_; exfalso; first | omega | ((try simp only [decide_eq_true_eq, decide_eq_false_iff_not] at h_); omega) | (simp [mulSz, Cont.len, bne] at h_; done) | (simp [mulSz, Cont.len, bne] at h_; omega))); intro _; conv => whnf)
        | (refine tst_in ?_ ?_; rotate_left; (focus (intro h_; exfalso; first | omega | ((try simp only [decide_eq_true_eq, decide_eq_false_iff_not] at h_); omega) | (simp [mulSz, Cont.len, bne] at h_; done) | (simp [mulSz, Cont.len, bne] at h_; omega))); intro _; conv => whnf))
      refine ⟨[0, 1, 2], k + 1, ?_, (by show k + 1 ≤ n; omega), (by show n - (k + 1) < n - k; omega)⟩
      show stLe _ _ (st11 A F o n ca (k + 1)) _
      unfold st11
      rw [show n - (k + 1) = r by omega]
      conv => whnf
      repeat' (first | exact True.intro | rfl | refine And.intro ?_ ?_)
      all_goals (conv => whnf)
      repeat' (first | exact True.intro | rfl | refine And.intro ?_ ?_)
      all_goals (try omega)
    · skip
      have hge : k = n := by simp at hge; omega
      subst hge
      rw [Nat.sub_self]
      conv => whnf
      repeat (first
        | (refine And.intro ?_ ?_; (focus (first | omega | decide | exact Int.natCast_nonneg _ | ((repeat' refine And.intro ?_ ?_) <;> first | omega | exact Int.natCast_nonneg _ | (simp only [i64max]; omega) | (simp only [u8max]; omega) | (simp only [i64max, u8max, u16max, u32max, u64max]; omega) | (simp [mulSz, Cont.len, bne]; done) | (simp [mulSz, Cont.len, bne]; omega)))); conv => whnf)
        | (refine tst_in ?_ ?_; (focus (intro h_; exfalso; first | omega | ((try simp only [decide_eq_true_eq, decide_eq_false_iff_not] at h_); omega) | (simp [mulSz, Cont.len, bne] at h_; done) | (simp [mulSz, Cont.len, bne] at h_; omega))); intro _; conv => whnf)
        | (refine tst_in ?_ ?_; rotate_left; (focus (intro h_; exfalso; first | omega | ((try simp only [decide_eq_true_eq, decide_eq_false_iff_not] at h_); omega) | (simp [mulSz, Cont.len, bne] at h_; done) | (simp [mulSz, Cont.len, bne] at h_; omega))); intro _; conv => whnf))
      refine .inl ⟨(), [0, 1], ?_⟩
      conv => whnf
      repeat' (first | exact True.intro | rfl | refine And.intro ?_ ?_)
      all_goals (conv => whnf)
      repeat' (first | exact True.intro | rfl | refine And.intro ?_ ?_)
      all_goals (try omega)
      all_goals (show tab (inq F) k = tab (inq F) k ++ []; rw [List.append_nil])
noncomputable def c12 : Code := (Try.f12.body).getD .skip
def bef (F : Nat → Int) (k : Nat) : Int := if k = 0 then 0 else F (k - 1)
def st12 (A : List Int) (F : Nat → Int) (o n ca k : Nat) : St := ⟨anyTo 31 [.slice 0 o n ca, .any, .any, .any, .slice 1 0 n n, .int .u8 (bef F k), .any, .any, .any, .any, .any, .any, .any, .any, .slice 0 o n ca, .int .i64 n, .int .i64 k], [.seg false (.ints .u8 A), .seg true (.ints .u8 (tab (outq F) k ++ List.replicate (n - k) 0))]⟩
def inv12 (A : List Int) (F : Nat → Int) (o n ca : Nat) : LInv := ⟨Nat, fun k => st12 A F o n ca k, fun k => k ≤ n, fun k => n - k⟩
set_option maxHeartbeats 0 in
set_option maxRecDepth 100000 in
theorem Out_f (A : List Int) (F : Nat → Int) (o n ca : Nat) (hA : o + n ≤ A.length) (hN : n ≤ 65536) (hF : ∀ i, i < n → A.getD (o + i) 0 = F i ∧ q4 (F i)) :
    Fits Try.prog 12 ⟨[.slice 0 o n ca], [.seg false (.ints .u8 A)], [rowOut (outq F) n]⟩ := by
  have IR := isRow_y A F o n ca hA hN hF
  refine fits_of_body (C := cfgs 1) (c := c12) (ts := [2, 3]) tok mixed (fun | 6 => some (inv12 A F o n ca) | _ => none) (fun _ => none)
    Try.func12 (by kernel_rfl) (by kernel_rfl) (by kernel_rfl) (by kernel_rfl) rfl ?_
  conv => whnf
  repeat (first
    | (refine And.intro ?_ ?_; (focus (first | omega | decide | exact Int.natCast_nonneg _ | ((repeat' refine And.intro ?_ ?_) <;> first | omega | exact Int.natCast_nonneg _ | (simp only [i64max]; omega) | (simp only [u8max]; omega) | (simp only [i64max, u8max, u16max, u32max, u64max]; omega) | (simp [mulSz, Cont.len, bne]; done) | (simp [mulSz, Cont.len, bne]; omega)))); conv => whnf)
    | (refine tst_in ?_ ?_; (focus (intro h_; exfalso; first | omega | ((try simp only [decide_eq_true_eq, decide_eq_false_iff_not] at h_); omega) | (simp [mulSz, Cont.len, bne] at h_; done) | (simp [mulSz, Cont.len, bne] at h_; omega))); intro _; conv => whnf)
    | (refine tst_in ?_ ?_; rotate_left; (focus (intro h_; exfalso; first | omega | ((try simp only [decide_eq_true_eq, decide_eq_false_iff_not] at h_); omega) | (simp [mulSz, Cont.len, bne] at h_; done) | (simp [mulSz, Cont.len, bne] at h_; omega))); intro _; conv => whnf))
  refine ⟨_, [0], IR, ?_⟩
  conv => whnf
  refine ⟨?_, ?_, ?_⟩
  · conv => whnf
    repeat' (first | exact True.intro | rfl | refine And.intro ?_ ?_)
    all_goals (conv => whnf)
    repeat' (first | exact True.intro | rfl | refine And.intro ?_ ?_)
    all_goals (try (first | rfl | omega | (simp; done) | (simp; omega)))
  · conv => whnf
    repeat' (first | exact True.intro | rfl | refine And.intro ?_ ?_)
    all_goals (conv => whnf)
    repeat' (first | exact True.intro | rfl | refine And.intro ?_ ?_)
    all_goals (try (first | rfl | omega | (simp; done) | (simp; omega)))
  conv => whnf
  conv => whnf
  repeat (first
    | (refine And.intro ?_ ?_; (focus (first | omega | decide | exact Int.natCast_nonneg _ | ((repeat' refine And.intro ?_ ?_) <;> first | omega | exact Int.natCast_nonneg _ | (simp only [i64max]; omega) | (simp only [u8max]; omega) | (simp only [i64max, u8max, u16max, u32max, u64max]; omega) | (simp [mulSz, Cont.len, bne]; done) | (simp [mulSz, Cont.len, bne]; omega)))); conv => whnf)
    | (refine tst_in ?_ ?_; (focus (intro h_; exfalso; first | omega | ((try simp only [decide_eq_true_eq, decide_eq_false_iff_not] at h_); omega) | (simp [mulSz, Cont.len, bne] at h_; done) | (simp [mulSz, Cont.len, bne] at h_; omega))); intro _; conv => whnf)
    | (refine tst_in ?_ ?_; rotate_left; (focus (intro h_; exfalso; first | omega | ((try simp only [decide_eq_true_eq, decide_eq_false_iff_not] at h_); omega) | (simp [mulSz, Cont.len, bne] at h_; done) | (simp [mulSz, Cont.len, bne] at h_; omega))); intro _; conv => whnf))
  refine ⟨⟨[0, 1], (0 : Nat), ?_, Nat.zero_le _⟩, ?_⟩
  · conv => whnf
    repeat' (first | exact True.intro | rfl | refine And.intro ?_ ?_)
    all_goals (conv => whnf)
    repeat' (first | exact True.intro | rfl | refine And.intro ?_ ?_)
    all_goals (try (first | omega | exact True.intro | rfl | assumption | (change LE.le (α := Nat) _ _; first | omega | (simp only []; omega)) | (simp only []; done) | (simp only []; omega) | (simp; done) | (simp; omega)))
  · intro (k : Nat) (hk : k ≤ n)
    show forceSt (st12 A F o n ca k) _
    conv => whnf
    refine tst_in (fun hlt => ?_) (fun hge => ?_)
    · skip
      have hlt : k < n := by simp at hlt; omega
      obtain ⟨r, hr⟩ : ∃ r, n - k = r + 1 := ⟨n - k - 1, by omega⟩
      have hX : o + ((k : Int)).toNat = o + k := by omega
      have hX0 : 0 + ((k : Int)).toNat = k := by omega
      have hv := hF k hlt
      have hb : q4 (bef F k) := by
        unfold bef
        split
        · show (0 : Int) ≤ 0 ∧ (0 : Int) < 4; omega
        · exact (hF (k - 1) (by omega)).2
      have e := off_eq hv.2 hb
      have hw : 0 ≤ IntKind.u8.wrap (F k - bef F k) ∧ IntKind.u8.wrap (F k - bef F k) ≤ 255 := by rw [u8wrap]; omega
      have hlen := app_len (outq F) k (List.replicate (r + 1) (0 : Int))
      rw [List.length_replicate] at hlen
      rw [hr]
      conv => whnf
      repeat (first
        | (refine And.intro ?_ ?_; (focus (first | omega | decide | exact Int.natCast_nonneg _ | ((repeat' refine And.intro ?_ ?_) <;> first | omega | exact Int.natCast_nonneg _ | (simp only [i64max]; omega) | (simp only [u8max]; omega) | (simp only [i64max, u8max, u16max, u32max, u64max]; omega) | (simp [mulSz, Cont.len, bne]; done) | (simp [mulSz, Cont.len, bne]; omega)))); conv => whnf)
        | (refine tst_in ?_ ?_; (focus (intro h_; exfalso; first | omega | ((try simp only [decide_eq_true_eq, decide_eq_false_iff_not] at h_); omega) | (simp [mulSz, Cont.len, bne] at h_; done) | (simp [mulSz, Cont.len, bne] at h_; omega))); intro _; conv => whnf)
        | (refine tst_in ?_ ?_; rotate_left; (focus (intro h_; exfalso; first | omega | ((try simp only [decide_eq_true_eq, decide_eq_false_iff_not] at h_); omega) | (simp [mulSz, Cont.len, bne] at h_; done) | (simp [mulSz, Cont.len, bne] at h_; omega))); intro _; conv => whnf))
      rw [hX, hv.1]
      conv => whnf
      repeat (first
        | (refine And.intro ?_ ?_; (focus (first | omega | decide | exact Int.natCast_nonneg _ | ((repeat' refine And.intro ?_ ?_) <;> first | omega | exact Int.natCast_nonneg _ | (simp only [i64max]; omega) | (simp only [u8max]; omega) | (simp only [i64max, u8max, u16max, u32max, u64max]; omega) | (simp [mulSz, Cont.len, bne, u8max, hlen]; done) | (simp [mulSz, Cont.len, bne, u8max, hlen]; omega)))); conv => whnf)
        | (refine tst_in ?_ ?_; (focus (intro h_; exfalso; first | omega | ((try simp only [decide_eq_true_eq, decide_eq_false_iff_not] at h_); omega) | (simp [mulSz, Cont.len, bne, u8max, hlen] at h_; done) | (simp [mulSz, Cont.len, bne, u8max, hlen] at h_; omega))); intro _; conv => whnf)
        | (refine tst_in ?_ ?_; rotate_left; (focus (intro h_; exfalso; first | omega | ((try simp only [decide_eq_true_eq, decide_eq_false_iff_not] at h_); omega) | (simp [mulSz, Cont.len, bne, u8max, hlen] at h_; done) | (simp [mulSz, Cont.len, bne, u8max, hlen] at h_; omega))); intro _; conv => whnf))
      rw [e]
      conv => whnf
      repeat (first
        | (refine And.intro ?_ ?_; (focus (first | omega | decide | exact Int.natCast_nonneg _ | ((repeat' refine And.intro ?_ ?_) <;> first | omega | exact Int.natCast_nonneg _ | (simp only [i64max]; omega) | (simp only [u8max]; omega) | (simp only [i64max, u8max, u16max, u32max, u64max]; omega) | (simp [mulSz, Cont.len, bne, hlen]; done) | (simp [mulSz, Cont.len, bne, hlen]; omega)))); conv => whnf)
        | (refine tst_in ?_ ?_; (focus (intro h_; exfalso; first | omega | ((try simp only [decide_eq_true_eq, decide_eq_false_iff_not] at h_); omega) | (simp [mulSz, Cont.len, bne, hlen] at h_; done) | (simp [mulSz, Cont.len, bne, hlen] at h_; omega))); intro _; conv => whnf)
        | (refine tst_in ?_ ?_; rotate_left; (focus (intro h_; exfalso; first | omega | ((try simp only [decide_eq_true_eq, decide_eq_false_iff_not] at h_); omega) | (simp [mulSz, Cont.len, bne, hlen] at h_; done) | (simp [mulSz, Cont.len, bne, hlen] at h_; omega))); intro _; conv => whnf))
      rw [hX0, show ((F k - bef F k) % 4) = outq F k from rfl, tab_set]
      conv => whnf
      repeat (first
        | (refine And.intro ?_ ?_; (focus (first | omega | decide | exact Int.natCast_nonneg _ | ((repeat' refine And.intro ?_ ?_) <;> first | omega | exact Int.natCast_nonneg _ | (simp only [i64max]; omega) | (simp only [u8max]; omega) | (simp only [i64max, u8max, u16max, u32max, u64max]; omega) | (simp [mulSz, Cont.len, bne]; done) | (simp [mulSz, Cont.len, bne]; omega)))); conv => whnf)
        | (refine tst_in ?_ ?_; (focus (intro h_; exfalso; first | omega | ((try simp only [decide_eq_true_eq, decide_eq_false_iff_not] at h_); omega) | (simp [mulSz, Cont.len, bne] at h_; done) | (simp [mulSz, Cont.len, bne] at h_; omega))); intro _; conv => whnf)
        | (refine tst_in ?_ ?_; rotate_left; (focus (intro h_; exfalso; first | omega | ((try simp only [decide_eq_true_eq, decide_eq_false_iff_not] at h_); omega) | (simp [mulSz, Cont.len, bne] at h_; done) | (simp [mulSz, Cont.len, bne] at h_; omega))); intro _; conv => whnf))
      refine ⟨[0, 1], k + 1, ?_, (by show k + 1 ≤ n; omega), (by show n - (k + 1) < n - k; omega)⟩
      show stLe _ _ (st12 A F o n ca (k + 1)) _
      unfold st12
      rw [show n - (k + 1) = r by omega, show bef F (k + 1) = F k by unfold bef; rw [if_neg (by omega), Nat.add_sub_cancel]]
      conv => whnf
      repeat' (first | exact True.intro | rfl | refine And.intro ?_ ?_)
      all_goals (conv => whnf)
      repeat' (first | exact True.intro | rfl | refine And.intro ?_ ?_)
      all_goals (try omega)
    · skip
      have hge : k = n := by simp at hge; omega
      subst hge
      rw [Nat.sub_self]
      conv => whnf
      repeat (first
        | (refine And.intro ?_ ?_; (focus (first | omega | decide | exact Int.natCast_nonneg _ | ((repeat' refine And.intro ?_ ?_) <;> first | omega | exact Int.natCast_nonneg _ | (simp only [i64max]; omega) | (simp only [u8max]; omega) | (simp only [i64max, u8max, u16max, u32max, u64max]; omega) | (simp [mulSz, Cont.len, bne]; done) | (simp [mulSz, Cont.len, bne]; omega)))); conv => whnf)
        | (refine tst_in ?_ ?_; (focus (intro h_; exfalso; first | omega | ((try simp only [decide_eq_true_eq, decide_eq_false_iff_not] at h_); omega) | (simp [mulSz, Cont.len, bne] at h_; done) | (simp [mulSz, Cont.len, bne] at h_; omega))); intro _; conv => whnf)
        | (refine tst_in ?_ ?_; rotate_left; (focus (intro h_; exfalso; first | omega | ((try simp only [decide_eq_true_eq, decide_eq_false_iff_not] at h_); omega) | (simp [mulSz, Cont.len, bne] at h_; done) | (simp [mulSz, Cont.len, bne] at h_; omega))); intro _; conv => whnf))
      refine .inl ⟨(), [0, 1], ?_⟩
      conv => whnf
      repeat' (first | exact True.intro | rfl | refine And.intro ?_ ?_)
      all_goals (conv => whnf)
      repeat' (first | exact True.intro | rfl | refine And.intro ?_ ?_)
      all_goals (try omega)
      all_goals (show tab (outq F) k = tab (outq F) k ++ []; rw [List.append_nil])
end Go.Proofs.Yteefbedjblppiaa

set_option linter.unusedVariables false
set_option linter.unusedSimpArgs false
namespace Go.Proofs.Yteefbedjblppiaa
open Go Go.Fw
theorem bitq_even2 (A : Nat → Int) (k : Nat) : bitq A (2 * k) = @decide (2 ≤ A k) (dLe 2 (A k)) := by
  rw [bitq_even]; congr
noncomputable def c13 : Code := (Try.f13.body).getD .skip
def st13 (A : List Int) (F : Nat → Int) (o n ca k : Nat) (tl : List Bool) : St := ⟨anyTo 38 [.slice 0 o n ca, .any, .any, .any, .slice 1 0 (2 * k) (2 * k + tl.length), .any, .any, .any, .any, .any, .any, .any, .any, .any, .any, .any, .any, .any, .any, .slice 0 o n ca, .int .i64 n, .int .i64 k], [.seg false (.ints .u8 A), .seg true (.bools (tab (bitq F) (2 * k) ++ tl))]⟩
def inv13 (A : List Int) (F : Nat → Int) (o n ca : Nat) : LInv := ⟨Nat × List Bool, fun y => st13 A F o n ca y.1 y.2, fun y => y.1 ≤ n, fun y => n - y.1⟩
def bitOut (F : Nat → Int) (n : Nat) : FOut := ⟨List Bool, fun _ => True, fun tl => .tup [.slice 1 0 (2 * n) (2 * n + tl.length), .int .i64 0], fun tl => [.dead, .seg true (.bools (tab (bitq F) (2 * n) ++ tl))]⟩
set_option maxHeartbeats 0 in
set_option maxRecDepth 100000 in
theorem Bits_f (A : List Int) (F : Nat → Int) (o n ca : Nat) (hA : o + n ≤ A.length) (hN : n ≤ 16384) (hF : ∀ i, i < n → A.getD (o + i) 0 = F i ∧ q4 (F i)) :
    Fits Try.prog 13 ⟨[.slice 0 o n ca], [.seg false (.ints .u8 A)], [bitOut F n]⟩ := by
  have IR := isRow_y A F o n ca hA (by omega) hF
  refine fits_of_body (C := cfgs 1) (c := c13) (ts := [2, 3]) tok mixed (fun | 5 => some (inv13 A F o n ca) | _ => none) (fun _ => none)
    Try.func13 (by kernel_rfl) (by kernel_rfl) (by kernel_rfl) (by kernel_rfl) rfl ?_
  conv => whnf
  repeat (first
    | (refine And.intro ?_ ?_; (focus (first | omega | decide | exact Int.natCast_nonneg _ | ((repeat' refine And.intro ?_ ?_) <;> first | omega | exact Int.natCast_nonneg _ | (simp only [i64max]; omega) | (simp only [u8max]; omega) | (simp only [i64max, u8max, u16max, u32max, u64max]; omega) | (simp [mulSz, Cont.len, bne]; done) | (simp [mulSz, Cont.len, bne]; omega)))); conv => whnf)
    | (refine tst_in ?_ ?_; (focus (intro h_; exfalso; first | omega | ((try simp only [decide_eq_true_eq, decide_eq_false_iff_not] at h_); omega) | (simp [mulSz, Cont.len, bne] at h_; done) | (simp [mulSz, Cont.len, bne] at h_; omega))); intro _; conv => whnf)
    | (refine tst_in ?_ ?_; rotate_left; (focus (intro h_; exfalso; first | omega | ((try simp only [decide_eq_true_eq, decide_eq_false_iff_not] at h_); omega) | (simp [mulSz, Cont.len, bne] at h_; done) | (simp [mulSz, Cont.len, bne] at h_; omega))); intro _; conv => whnf))
  refine ⟨_, [0], IR, ?_⟩
  conv => whnf
  refine ⟨?_, ?_, ?_⟩
  · conv => whnf
    repeat' (first | exact True.intro | rfl | refine And.intro ?_ ?_)
    all_goals (conv => whnf)
    repeat' (first | exact True.intro | rfl | refine And.intro ?_ ?_)
    all_goals (try (first | rfl | omega | (simp; done) | (simp; omega)))
  · conv => whnf
    repeat' (first | exact True.intro | rfl | refine And.intro ?_ ?_)
    all_goals (conv => whnf)
    repeat' (first | exact True.intro | rfl | refine And.intro ?_ ?_)
    all_goals (try (first | rfl | omega | (simp; done) | (simp; omega)))
  conv => whnf
  conv => whnf
  repeat (first
    | (refine And.intro ?_ ?_; (focus (first | omega | decide | exact Int.natCast_nonneg _ | ((repeat' refine And.intro ?_ ?_) <;> first | omega | exact Int.natCast_nonneg _ | (simp only [i64max]; omega) | (simp only [u8max]; omega) | (simp only [i64max, u8max, u16max, u32max, u64max]; omega) | (simp [mulSz, Cont.len, bne]; done) | (simp [mulSz, Cont.len, bne]; omega)))); conv => whnf)
    | (refine tst_in ?_ ?_; (focus (intro h_; exfalso; first | omega | ((try simp only [decide_eq_true_eq, decide_eq_false_iff_not] at h_); omega) | (simp [mulSz, Cont.len, bne] at h_; done) | (simp [mulSz, Cont.len, bne] at h_; omega))); intro _; conv => whnf)
    | (refine tst_in ?_ ?_; rotate_left; (focus (intro h_; exfalso; first | omega | ((try simp only [decide_eq_true_eq, decide_eq_false_iff_not] at h_); omega) | (simp [mulSz, Cont.len, bne] at h_; done) | (simp [mulSz, Cont.len, bne] at h_; omega))); intro _; conv => whnf))
  have h2n : ((2 : Int) * (n : Int)).toNat = 2 * n := by omega
  rw [h2n]
  refine ⟨⟨[0, 1], ((0, List.replicate (2 * n) false) : Nat × List Bool), ?_, Nat.zero_le _⟩, ?_⟩
  · conv => whnf
    repeat' (first | exact True.intro | rfl | refine And.intro ?_ ?_)
    all_goals (conv => whnf)
    repeat' (first | exact True.intro | rfl | refine And.intro ?_ ?_)
    all_goals (try (first | omega | exact True.intro | rfl | assumption | (change LE.le (α := Nat) _ _; first | omega | (simp only []; omega)) | (simp only []; done) | (simp only []; omega) | (simp; done) | (simp; omega)))
  · rintro ⟨k, tl⟩ hk
    have hk : k ≤ n := hk
    show forceSt (st13 A F o n ca k tl) _
    conv => whnf
    refine tst_in (fun hlt => ?_) (fun hge => ?_)
    · skip
      have hlt : k < n := by simp at hlt; omega
      have hX : o + ((k : Int)).toNat = o + k := by omega
      have hv := hF k hlt
      have hlen := app_len (bitq F) (2 * k) tl
      conv => whnf
      repeat (first
        | (refine And.intro ?_ ?_; (focus (first | omega | decide | exact Int.natCast_nonneg _ | ((repeat' refine And.intro ?_ ?_) <;> first | omega | exact Int.natCast_nonneg _ | (simp only [i64max]; omega) | (simp only [u8max]; omega) | (simp only [i64max, u8max, u16max, u32max, u64max]; omega) | (simp [mulSz, Cont.len, bne]; done) | (simp [mulSz, Cont.len, bne]; omega)))); conv => whnf)
        | (refine tst_in ?_ ?_; (focus (intro h_; exfalso; first | omega | ((try simp only [decide_eq_true_eq, decide_eq_false_iff_not] at h_); omega) | (simp [mulSz, Cont.len, bne] at h_; done) | (simp [mulSz, Cont.len, bne] at h_; omega))); intro _; conv => whnf)
        | (refine tst_in ?_ ?_; rotate_left; (focus (intro h_; exfalso; first | omega | ((try simp only [decide_eq_true_eq, decide_eq_false_iff_not] at h_); omega) | (simp [mulSz, Cont.len, bne] at h_; done) | (simp [mulSz, Cont.len, bne] at h_; omega))); intro _; conv => whnf))
      rw [hX, hv.1]
      conv => whnf
      repeat (first
        | (refine And.intro ?_ ?_; (focus (first | omega | decide | exact Int.natCast_nonneg _ | ((repeat' refine And.intro ?_ ?_) <;> first | omega | exact Int.natCast_nonneg _ | (simp only [i64max]; omega) | (simp only [u8max]; omega) | (simp only [i64max, u8max, u16max, u32max, u64max]; omega) | (simp [mulSz, Cont.len, bne]; done) | (simp [mulSz, Cont.len, bne]; omega)))); conv => whnf)
        | (refine tst_in ?_ ?_; (focus (intro h_; exfalso; first | omega | ((try simp only [decide_eq_true_eq, decide_eq_false_iff_not] at h_); omega) | (simp [mulSz, Cont.len, bne] at h_; done) | (simp [mulSz, Cont.len, bne] at h_; omega))); intro _; conv => whnf)
        | (refine tst_in ?_ ?_; rotate_left; (focus (intro h_; exfalso; first | omega | ((try simp only [decide_eq_true_eq, decide_eq_false_iff_not] at h_); omega) | (simp [mulSz, Cont.len, bne] at h_; done) | (simp [mulSz, Cont.len, bne] at h_; omega))); intro _; conv => whnf))
      refine tst_in (fun h1 => ?_) (fun h1 => ?_)
      · skip
        simp only [decide_eq_true_eq] at h1
        conv => whnf
        repeat (first
          | (refine And.intro ?_ ?_; (focus (first | omega | decide | exact Int.natCast_nonneg _ | ((repeat' refine And.intro ?_ ?_) <;> first | omega | exact Int.natCast_nonneg _ | (simp only [i64max]; omega) | (simp only [u8max]; omega) | (simp only [i64max, u8max, u16max, u32max, u64max]; omega) | (simp [mulSz, Cont.len, bne, hlen]; done) | (simp [mulSz, Cont.len, bne, hlen]; omega)))); conv => whnf)
          | (refine tst_in ?_ ?_; (focus (intro h_; exfalso; first | omega | ((try simp only [decide_eq_true_eq, decide_eq_false_iff_not] at h_); omega) | (simp [mulSz, Cont.len, bne, hlen] at h_; done) | (simp [mulSz, Cont.len, bne, hlen] at h_; omega))); intro _; conv => whnf)
          | (refine tst_in ?_ ?_; rotate_left; (focus (intro h_; exfalso; first | omega | ((try simp only [decide_eq_true_eq, decide_eq_false_iff_not] at h_); omega) | (simp [mulSz, Cont.len, bne, hlen] at h_; done) | (simp [mulSz, Cont.len, bne, hlen] at h_; omega))); intro _; conv => whnf))
        intro (tl2 : List Bool)
        conv => whnf
        repeat (first
          | (refine And.intro ?_ ?_; (focus (first | omega | decide | exact Int.natCast_nonneg _ | ((repeat' refine And.intro ?_ ?_) <;> first | omega | exact Int.natCast_nonneg _ | (simp only [i64max]; omega) | (simp only [u8max]; omega) | (simp only [i64max, u8max, u16max, u32max, u64max]; omega) | (simp [mulSz, Cont.len, bne]; done) | (simp [mulSz, Cont.len, bne]; omega)))); conv => whnf)
          | (refine tst_in ?_ ?_; (focus (intro h_; exfalso; first | omega | ((try simp only [decide_eq_true_eq, decide_eq_false_iff_not] at h_); omega) | (simp [mulSz, Cont.len, bne] at h_; done) | (simp [mulSz, Cont.len, bne] at h_; omega))); intro _; conv => whnf)
          | (refine tst_in ?_ ?_; rotate_left; (focus (intro h_; exfalso; first | omega | ((try simp only [decide_eq_true_eq, decide_eq_false_iff_not] at h_); omega) | (simp [mulSz, Cont.len, bne] at h_; done) | (simp [mulSz, Cont.len, bne] at h_; omega))); intro _; conv => whnf))
        refine ⟨[0, 3], ((k + 1, tl2) : Nat × List Bool), ?_, (by show k + 1 ≤ n; omega), (by show n - (k + 1) < n - k; omega)⟩
        show stLe _ _ (st13 A F o n ca (k + 1) tl2) _
        conv => whnf
        repeat' (first | exact True.intro | rfl | refine And.intro ?_ ?_)
        all_goals (conv => whnf)
        repeat' (first | exact True.intro | rfl | refine And.intro ?_ ?_)
        all_goals (try omega)
        · skip
          show tab (bitq F) (2 * (k + 1)) ++ tl2 = List.take (2 * k) (List.drop 0 (tab (bitq F) (2 * k) ++ tl)) ++ List.take 2 (List.drop 0 [@decide (2 ≤ F k) (dLe 2 (F k)), true]) ++ tl2
          rw [List.drop_zero, List.take_append_of_le_length (by rw [tab_len]; omega), List.take_of_length_le (by rw [tab_len]; omega), ← tab_two, bitq_even2, bitq_odd]
          rw [h1]; rfl
      · skip
        simp only [decide_eq_false_iff_not] at h1
        conv => whnf
        repeat (first
          | (refine And.intro ?_ ?_; (focus (first | omega | decide | exact Int.natCast_nonneg _ | ((repeat' refine And.intro ?_ ?_) <;> first | omega | exact Int.natCast_nonneg _ | (simp only [i64max]; omega) | (simp only [u8max]; omega) | (simp only [i64max, u8max, u16max, u32max, u64max]; omega) | (simp [mulSz, Cont.len, bne, hlen]; done) | (simp [mulSz, Cont.len, bne, hlen]; omega)))); conv => whnf)
          | (refine tst_in ?_ ?_; (focus (intro h_; exfalso; first | omega | ((try simp only [decide_eq_true_eq, decide_eq_false_iff_not] at h_); omega) | (simp [mulSz, Cont.len, bne, hlen] at h_; done) | (simp [mulSz, Cont.len, bne, hlen] at h_; omega))); intro _; conv => whnf)
          | (refine tst_in ?_ ?_; rotate_left; (focus (intro h_; exfalso; first | omega | ((try simp only [decide_eq_true_eq, decide_eq_false_iff_not] at h_); omega) | (simp [mulSz, Cont.len, bne, hlen] at h_; done) | (simp [mulSz, Cont.len, bne, hlen] at h_; omega))); intro _; conv => whnf))
        intro (tl2 : List Bool)
        conv => whnf
        repeat (first
          | (refine And.intro ?_ ?_; (focus (first | omega | decide | exact Int.natCast_nonneg _ | ((repeat' refine And.intro ?_ ?_) <;> first | omega | exact Int.natCast_nonneg _ | (simp only [i64max]; omega) | (simp only [u8max]; omega) | (simp only [i64max, u8max, u16max, u32max, u64max]; omega) | (simp [mulSz, Cont.len, bne]; done) | (simp [mulSz, Cont.len, bne]; omega)))); conv => whnf)
          | (refine tst_in ?_ ?_; (focus (intro h_; exfalso; first | omega | ((try simp only [decide_eq_true_eq, decide_eq_false_iff_not] at h_); omega) | (simp [mulSz, Cont.len, bne] at h_; done) | (simp [mulSz, Cont.len, bne] at h_; omega))); intro _; conv => whnf)
          | (refine tst_in ?_ ?_; rotate_left; (focus (intro h_; exfalso; first | omega | ((try simp only [decide_eq_true_eq, decide_eq_false_iff_not] at h_); omega) | (simp [mulSz, Cont.len, bne] at h_; done) | (simp [mulSz, Cont.len, bne] at h_; omega))); intro _; conv => whnf))
        refine ⟨[0, 3], ((k + 1, tl2) : Nat × List Bool), ?_, (by show k + 1 ≤ n; omega), (by show n - (k + 1) < n - k; omega)⟩
        show stLe _ _ (st13 A F o n ca (k + 1) tl2) _
        conv => whnf
        repeat' (first | exact True.intro | rfl | refine And.intro ?_ ?_)
        all_goals (conv => whnf)
        repeat' (first | exact True.intro | rfl | refine And.intro ?_ ?_)
        all_goals (try omega)
        · skip
          show tab (bitq F) (2 * (k + 1)) ++ tl2 = List.take (2 * k) (List.drop 0 (tab (bitq F) (2 * k) ++ tl)) ++ List.take 2 (List.drop 0 [@decide (2 ≤ F k) (dLe 2 (F k)), decide (F k = 2)]) ++ tl2
          rw [List.drop_zero, List.take_append_of_le_length (by rw [tab_len]; omega), List.take_of_length_le (by rw [tab_len]; omega), ← tab_two, bitq_even2, bitq_odd]
          rw [decide_eq_false h1]; rfl
    · skip
      have hge : k = n := by simp at hge; omega
      subst hge
      conv => whnf
      repeat (first
        | (refine And.intro ?_ ?_; (focus (first | omega | decide | exact Int.natCast_nonneg _ | ((repeat' refine And.intro ?_ ?_) <;> first | omega | exact Int.natCast_nonneg _ | (simp only [i64max]; omega) | (simp only [u8max]; omega) | (simp only [i64max, u8max, u16max, u32max, u64max]; omega) | (simp [mulSz, Cont.len, bne]; done) | (simp [mulSz, Cont.len, bne]; omega)))); conv => whnf)
        | (refine tst_in ?_ ?_; (focus (intro h_; exfalso; first | omega | ((try simp only [decide_eq_true_eq, decide_eq_false_iff_not] at h_); omega) | (simp [mulSz, Cont.len, bne] at h_; done) | (simp [mulSz, Cont.len, bne] at h_; omega))); intro _; conv => whnf)
        | (refine tst_in ?_ ?_; rotate_left; (focus (intro h_; exfalso; first | omega | ((try simp only [decide_eq_true_eq, decide_eq_false_iff_not] at h_); omega) | (simp [mulSz, Cont.len, bne] at h_; done) | (simp [mulSz, Cont.len, bne] at h_; omega))); intro _; conv => whnf))
      refine .inl ⟨tl, [0, 1], ?_⟩
      conv => whnf
      repeat' (first | exact True.intro | rfl | refine And.intro ?_ ?_)
      all_goals (conv => whnf)
      repeat' (first | exact True.intro | rfl | refine And.intro ?_ ?_)
      all_goals (try omega)
noncomputable def c6 : Code := (Try.f6.body).getD .skip
def st6 (A B : List Int) (o n ca p cb k : Nat) : St := ⟨anyTo 26 [.slice 0 o n ca, .slice 1 p n cb, .any, .any, .any, .int .i64 k], [.seg false (.ints .u8 A), .seg false (.ints .u8 B)]⟩
def inv6 (A B : List Int) (o n ca p cb : Nat) : LInv := ⟨Nat, fun k => st6 A B o n ca p cb k, fun k => k ≤ n, fun k => n - k⟩
set_option maxHeartbeats 0 in
set_option maxRecDepth 100000 in
theorem quar_q (A B : List Int) (o n ca p cb : Nat) (hA : o + n ≤ A.length) (hB : p + n ≤ B.length) (hN : n ≤ 4611686018427387904) (hE : ∀ i, i < n → A.getD (o + i) 0 = B.getD (p + i) 0) :
    QFits Try.prog 6 ⟨[.slice 0 o n ca, .slice 1 p n cb], [.seg false (.ints .u8 A), .seg false (.ints .u8 B)], .bool true⟩ := by
  refine qfits_of_body (C := cfgs 2) (c := c6) (ts := [4]) tok mixed (fun | 4 => some (inv6 A B o n ca p cb) | _ => none) (fun _ => none)
    Try.func6 (by kernel_rfl) (by kernel_rfl) (by kernel_rfl) (by kernel_rfl) (by kernel_rfl) rfl rfl ?_
  conv => whnf
  repeat (first
    | (refine And.intro ?_ ?_; (focus (first | omega | decide | exact Int.natCast_nonneg _ | ((repeat' refine And.intro ?_ ?_) <;> first | omega | exact Int.natCast_nonneg _ | (simp only [i64max]; omega) | (simp only [u8max]; omega) | (simp only [i64max, u8max, u16max, u32max, u64max]; omega) | (simp [mulSz, Cont.len, bne]; done) | (simp [mulSz, Cont.len, bne]; omega)))); conv => whnf)
    | (refine tst_in ?_ ?_; (focus (intro h_; exfalso; first | omega | ((try simp only [decide_eq_true_eq, decide_eq_false_iff_not] at h_); omega) | (simp [mulSz, Cont.len, bne] at h_; done) | (simp [mulSz, Cont.len, bne] at h_; omega))); intro _; conv => whnf)
    | (refine tst_in ?_ ?_; rotate_left; (focus (intro h_; exfalso; first | omega | ((try simp only [decide_eq_true_eq, decide_eq_false_iff_not] at h_); omega) | (simp [mulSz, Cont.len, bne] at h_; done) | (simp [mulSz, Cont.len, bne] at h_; omega))); intro _; conv => whnf))
  refine ⟨⟨[0, 1], (0 : Nat), ?_, Nat.zero_le _⟩, ?_⟩
  · conv => whnf
    repeat' (first | exact True.intro | rfl | refine And.intro ?_ ?_)
    all_goals (conv => whnf)
    repeat' (first | exact True.intro | rfl | refine And.intro ?_ ?_)
    all_goals (try (first | omega | exact True.intro | rfl | assumption | (change LE.le (α := Nat) _ _; first | omega | (simp only []; omega)) | (simp only []; done) | (simp only []; omega) | (simp; done) | (simp; omega)))
  · intro (k : Nat) (hk : k ≤ n)
    show forceSt (st6 A B o n ca p cb k) _
    conv => whnf
    refine tst_in (fun hlt => ?_) (fun hge => ?_)
    · skip
      have hlt : k < n := by simp at hlt; omega
      have hX : o + ((k : Int)).toNat = o + k := by omega
      have hY : p + ((k : Int)).toNat = p + k := by omega
      have hv := hE k hlt
      conv => whnf
      repeat (first
        | (refine And.intro ?_ ?_; (focus (first | omega | decide | exact Int.natCast_nonneg _ | ((repeat' refine And.intro ?_ ?_) <;> first | omega | exact Int.natCast_nonneg _ | (simp only [i64max]; omega) | (simp only [u8max]; omega) | (simp only [i64max, u8max, u16max, u32max, u64max]; omega) | (simp [mulSz, Cont.len, bne]; done) | (simp [mulSz, Cont.len, bne]; omega)))); conv => whnf)
        | (refine tst_in ?_ ?_; (focus (intro h_; exfalso; first | omega | ((try simp only [decide_eq_true_eq, decide_eq_false_iff_not] at h_); omega) | (simp [mulSz, Cont.len, bne] at h_; done) | (simp [mulSz, Cont.len, bne] at h_; omega))); intro _; conv => whnf)
        | (refine tst_in ?_ ?_; rotate_left; (focus (intro h_; exfalso; first | omega | ((try simp only [decide_eq_true_eq, decide_eq_false_iff_not] at h_); omega) | (simp [mulSz, Cont.len, bne] at h_; done) | (simp [mulSz, Cont.len, bne] at h_; omega))); intro _; conv => whnf))
      rw [hX, hY, hv]
      conv => whnf
      repeat (first
        | (refine And.intro ?_ ?_; (focus (first | omega | decide | exact Int.natCast_nonneg _ | ((repeat' refine And.intro ?_ ?_) <;> first | omega | exact Int.natCast_nonneg _ | (simp only [i64max]; omega) | (simp only [u8max]; omega) | (simp only [i64max, u8max, u16max, u32max, u64max]; omega) | (simp [mulSz, Cont.len, bne]; done) | (simp [mulSz, Cont.len, bne]; omega)))); conv => whnf)
        | (refine tst_in ?_ ?_; (focus (intro h_; exfalso; first | omega | ((try simp only [decide_eq_true_eq, decide_eq_false_iff_not] at h_); omega) | (simp [mulSz, Cont.len, bne] at h_; done) | (simp [mulSz, Cont.len, bne] at h_; omega))); intro _; conv => whnf)
        | (refine tst_in ?_ ?_; rotate_left; (focus (intro h_; exfalso; first | omega | ((try simp only [decide_eq_true_eq, decide_eq_false_iff_not] at h_); omega) | (simp [mulSz, Cont.len, bne] at h_; done) | (simp [mulSz, Cont.len, bne] at h_; omega))); intro _; conv => whnf))
      refine ⟨[0, 1], k + 1, ?_, (by show k + 1 ≤ n; omega), (by show n - (k + 1) < n - k; omega)⟩
      conv => whnf
      repeat' (first | exact True.intro | rfl | refine And.intro ?_ ?_)
      all_goals (conv => whnf)
      repeat' (first | exact True.intro | rfl | refine And.intro ?_ ?_)
      all_goals (try (first | omega | exact True.intro | rfl | assumption | (change LE.le (α := Nat) _ _; first | omega | (simp only []; omega)) | (simp only []; done) | (simp only []; omega) | (simp; done) | (simp; omega)))
    · skip
      have hge : k = n := by simp at hge; omega
      conv => whnf
      repeat (first
        | (refine And.intro ?_ ?_; (focus (first | omega | decide | exact Int.natCast_nonneg _ | ((repeat' refine And.intro ?_ ?_) <;> first | omega | exact Int.natCast_nonneg _ | (simp only [i64max]; omega) | (simp only [u8max]; omega) | (simp only [i64max, u8max, u16max, u32max, u64max]; omega) | (simp [mulSz, Cont.len, bne]; done) | (simp [mulSz, Cont.len, bne]; omega)))); conv => whnf)
        | (refine tst_in ?_ ?_; (focus (intro h_; exfalso; first | omega | ((try simp only [decide_eq_true_eq, decide_eq_false_iff_not] at h_); omega) | (simp [mulSz, Cont.len, bne] at h_; done) | (simp [mulSz, Cont.len, bne] at h_; omega))); intro _; conv => whnf)
        | (refine tst_in ?_ ?_; rotate_left; (focus (intro h_; exfalso; first | omega | ((try simp only [decide_eq_true_eq, decide_eq_false_iff_not] at h_); omega) | (simp [mulSz, Cont.len, bne] at h_; done) | (simp [mulSz, Cont.len, bne] at h_; omega))); intro _; conv => whnf))
end Go.Proofs.Yteefbedjblppiaa

set_option linter.unusedVariables false
set_option linter.unusedSimpArgs false
namespace Go.Proofs.Yteefbedjblppiaa
open Go Go.Fw
theorem tab_sete {α : Type} {f : Nat → α} {z v : α} {k r : Nat} (h : v = f k) : (tab f k ++ List.replicate (r + 1) z).set k v = tab f (k + 1) ++ List.replicate r z := by rw [h, tab_set]
theorem tab_same {α : Type} {f : Nat → α} {z : α} {k r : Nat} (h : z = f k) : tab f k ++ List.replicate (r + 1) z = tab f (k + 1) ++ List.replicate r z := by
  rw [← tab_snoc, ← h, List.append_assoc]; rfl
noncomputable def c14 : Code := (Try.f14.body).getD .skip
def st14 (B : List Bool) (G : Nat → Bool) (n ca k : Nat) : St := ⟨anyTo 57 [.slice 0 0 (2 * n) ca, .any, .any, .any, .slice 1 0 n n, .any, .any, .any, .any, .any, .any, .any, .any, .any, .any, .any, .any, .any, .any, .any, .any, .any, .int .i64 n, .int .i64 k], [.seg false (.bools B), .seg true (.ints .u8 (tab (ofq G) k ++ List.replicate (n - k) 0))]⟩
def inv14 (B : List Bool) (G : Nat → Bool) (n ca : Nat) : LInv := ⟨Nat, fun k => st14 B G n ca k, fun k => k ≤ n, fun k => n - k⟩
def cfg14 : Cfg := { T := tys, sgn := fun _ => false, wr := fun _ => false, k := 1, q := qf, plan := fun i => match Nat.beq i 7 with | true => none | false => none }
set_option maxHeartbeats 0 in
set_option maxRecDepth 100000 in
theorem Of_f (B : List Bool) (G : Nat → Bool) (n ca : Nat) (hB : 2 * n ≤ B.length) (hN : n ≤ 16384) (hG : ∀ i, i < 2 * n → B.getD i false = G i) :
    Fits Try.prog 14 ⟨[.slice 0 0 (2 * n) ca], [.seg false (.bools B)], [rowOut (ofq G) n]⟩ := by
  refine fits_of_body (C := cfg14) (c := c14) (ts := [2, 3]) tok mixed (fun | 5 => some (inv14 B G n ca) | _ => none) (fun _ => none)
    Try.func14 (by kernel_rfl) (by kernel_rfl) (by kernel_rfl) (by kernel_rfl) rfl ?_
  have hmod : ((2 * n : Nat) : Int) % 2 = 0 := by omega
  have hdiv : ((2 * n : Nat) : Int) / 2 = (n : Int) := by omega
  have hto : ((n : Int)).toNat = n := by omega
  conv => whnf
  repeat (first
    | (refine And.intro ?_ ?_; (focus (first | omega | decide | exact Int.natCast_nonneg _ | ((repeat' refine And.intro ?_ ?_) <;> first | omega | exact Int.natCast_nonneg _ | (simp only [i64max]; omega) | (simp only [u8max]; omega) | (simp only [i64max, u8max, u16max, u32max, u64max]; omega) | (simp [mulSz, Cont.len, bne]; done) | (simp [mulSz, Cont.len, bne]; omega)))); conv => whnf)
    | (refine tst_in ?_ ?_; (focus (intro h_; exfalso; first | omega | ((try simp only [decide_eq_true_eq, decide_eq_false_iff_not] at h_); omega) | (simp [mulSz, Cont.len, bne] at h_; done) | (simp [mulSz, Cont.len, bne] at h_; omega))); intro _; conv => whnf)
    | (refine tst_in ?_ ?_; rotate_left; (focus (intro h_; exfalso; first | omega | ((try simp only [decide_eq_true_eq, decide_eq_false_iff_not] at h_); omega) | (simp [mulSz, Cont.len, bne] at h_; done) | (simp [mulSz, Cont.len, bne] at h_; omega))); intro _; conv => whnf))
  rw [hdiv]
  conv => whnf
  repeat (first
    | (refine And.intro ?_ ?_; (focus (first | omega | decide | exact Int.natCast_nonneg _ | ((repeat' refine And.intro ?_ ?_) <;> first | omega | exact Int.natCast_nonneg _ | (simp only [i64max]; omega) | (simp only [u8max]; omega) | (simp only [i64max, u8max, u16max, u32max, u64max]; omega) | (simp [mulSz, Cont.len, bne]; done) | (simp [mulSz, Cont.len, bne]; omega)))); conv => whnf)
    | (refine tst_in ?_ ?_; (focus (intro h_; exfalso; first | omega | ((try simp only [decide_eq_true_eq, decide_eq_false_iff_not] at h_); omega) | (simp [mulSz, Cont.len, bne] at h_; done) | (simp [mulSz, Cont.len, bne] at h_; omega))); intro _; conv => whnf)
    | (refine tst_in ?_ ?_; rotate_left; (focus (intro h_; exfalso; first | omega | ((try simp only [decide_eq_true_eq, decide_eq_false_iff_not] at h_); omega) | (simp [mulSz, Cont.len, bne] at h_; done) | (simp [mulSz, Cont.len, bne] at h_; omega))); intro _; conv => whnf))
  rw [hto]
  refine ⟨⟨[0, 1], (0 : Nat), ?_, Nat.zero_le _⟩, ?_⟩
  · conv => whnf
    repeat' (first | exact True.intro | rfl | refine And.intro ?_ ?_)
    all_goals (conv => whnf)
    repeat' (first | exact True.intro | rfl | refine And.intro ?_ ?_)
    all_goals (try (first | omega | exact True.intro | rfl | assumption | (change LE.le (α := Nat) _ _; first | omega | (simp only []; omega)) | (simp only []; done) | (simp only []; omega) | (simp; done) | (simp; omega)))
  · intro (k : Nat) (hk : k ≤ n)
    show forceSt (st14 B G n ca k) _
    conv => whnf
    refine tst_in (fun hlt => ?_) (fun hge => ?_)
    · skip
      have hlt : k < n := by simp at hlt; omega
      obtain ⟨r, hr⟩ : ∃ r, n - k = r + 1 := ⟨n - k - 1, by omega⟩
      have hX : 0 + ((2 : Int) * (k : Int)).toNat = 2 * k := by omega
      have hY : 0 + ((2 : Int) * (k : Int) + 1).toNat = 2 * k + 1 := by omega
      have hX0 : 0 + ((k : Int)).toNat = k := by omega
      have h1 := hG (2 * k) (by omega)
      have h2 := hG (2 * k + 1) (by omega)
      have hlen := app_len (ofq G) k (List.replicate (r + 1) (0 : Int))
      rw [List.length_replicate] at hlen
      rw [hr]
      conv => whnf
      repeat (first
        | (refine And.intro ?_ ?_; (focus (first | omega | decide | exact Int.natCast_nonneg _ | ((repeat' refine And.intro ?_ ?_) <;> first | omega | exact Int.natCast_nonneg _ | (simp only [i64max]; omega) | (simp only [u8max]; omega) | (simp only [i64max, u8max, u16max, u32max, u64max]; omega) | (simp [mulSz, Cont.len, bne]; done) | (simp [mulSz, Cont.len, bne]; omega)))); conv => whnf)
        | (refine tst_in ?_ ?_; (focus (intro h_; exfalso; first | omega | ((try simp only [decide_eq_true_eq, decide_eq_false_iff_not] at h_); omega) | (simp [mulSz, Cont.len, bne] at h_; done) | (simp [mulSz, Cont.len, bne] at h_; omega))); intro _; conv => whnf)
        | (refine tst_in ?_ ?_; rotate_left; (focus (intro h_; exfalso; first | omega | ((try simp only [decide_eq_true_eq, decide_eq_false_iff_not] at h_); omega) | (simp [mulSz, Cont.len, bne] at h_; done) | (simp [mulSz, Cont.len, bne] at h_; omega))); intro _; conv => whnf))
      rw [hX, hY, h1, h2]
      cases e1 : G (2 * k) <;> cases e2 : G (2 * k + 1)
      · skip
        have hof : (0 : Int) = ofq G k := by unfold ofq; rw [e1, e2]; rfl
        conv => whnf
        repeat (first
          | (refine And.intro ?_ ?_; (focus (first | omega | decide | exact Int.natCast_nonneg _ | ((repeat' refine And.intro ?_ ?_) <;> first | omega | exact Int.natCast_nonneg _ | (simp only [i64max]; omega) | (simp only [u8max]; omega) | (simp only [i64max, u8max, u16max, u32max, u64max]; omega) | (simp [mulSz, Cont.len, bne, hlen]; done) | (simp [mulSz, Cont.len, bne, hlen]; omega)))); conv => whnf)
          | (refine tst_in ?_ ?_; (focus (intro h_; exfalso; first | omega | ((try simp only [decide_eq_true_eq, decide_eq_false_iff_not] at h_); omega) | (simp [mulSz, Cont.len, bne, hlen] at h_; done) | (simp [mulSz, Cont.len, bne, hlen] at h_; omega))); intro _; conv => whnf)
          | (refine tst_in ?_ ?_; rotate_left; (focus (intro h_; exfalso; first | omega | ((try simp only [decide_eq_true_eq, decide_eq_false_iff_not] at h_); omega) | (simp [mulSz, Cont.len, bne, hlen] at h_; done) | (simp [mulSz, Cont.len, bne, hlen] at h_; omega))); intro _; conv => whnf))
        refine ⟨[0, 1], k + 1, ?_, (by show k + 1 ≤ n; omega), (by show n - (k + 1) < n - k; omega)⟩
        show stLe _ _ (st14 B G n ca (k + 1)) _
        unfold st14
        rw [show n - (k + 1) = r by omega]
        rw [← tab_same hof]
        conv => whnf
        repeat' (first | exact True.intro | rfl | refine And.intro ?_ ?_)
        all_goals (conv => whnf)
        repeat' (first | exact True.intro | rfl | refine And.intro ?_ ?_)
        all_goals (try omega)
      · skip
        have hof : (1 : Int) = ofq G k := by unfold ofq; rw [e1, e2]; rfl
        conv => whnf
        repeat (first
          | (refine And.intro ?_ ?_; (focus (first | omega | decide | exact Int.natCast_nonneg _ | ((repeat' refine And.intro ?_ ?_) <;> first | omega | exact Int.natCast_nonneg _ | (simp only [i64max]; omega) | (simp only [u8max]; omega) | (simp only [i64max, u8max, u16max, u32max, u64max]; omega) | (simp [mulSz, Cont.len, bne, hlen]; done) | (simp [mulSz, Cont.len, bne, hlen]; omega)))); conv => whnf)
          | (refine tst_in ?_ ?_; (focus (intro h_; exfalso; first | omega | ((try simp only [decide_eq_true_eq, decide_eq_false_iff_not] at h_); omega) | (simp [mulSz, Cont.len, bne, hlen] at h_; done) | (simp [mulSz, Cont.len, bne, hlen] at h_; omega))); intro _; conv => whnf)
          | (refine tst_in ?_ ?_; rotate_left; (focus (intro h_; exfalso; first | omega | ((try simp only [decide_eq_true_eq, decide_eq_false_iff_not] at h_); omega) | (simp [mulSz, Cont.len, bne, hlen] at h_; done) | (simp [mulSz, Cont.len, bne, hlen] at h_; omega))); intro _; conv => whnf))
        rw [hX0, tab_sete hof]
        conv => whnf
        repeat (first
          | (refine And.intro ?_ ?_; (focus (first | omega | decide | exact Int.natCast_nonneg _ | ((repeat' refine And.intro ?_ ?_) <;> first | omega | exact Int.natCast_nonneg _ | (simp only [i64max]; omega) | (simp only [u8max]; omega) | (simp only [i64max, u8max, u16max, u32max, u64max]; omega) | (simp [mulSz, Cont.len, bne]; done) | (simp [mulSz, Cont.len, bne]; omega)))); conv => whnf)
          | (refine tst_in ?_ ?_; (focus (intro h_; exfalso; first | omega | ((try simp only [decide_eq_true_eq, decide_eq_false_iff_not] at h_); omega) | (simp [mulSz, Cont.len, bne] at h_; done) | (simp [mulSz, Cont.len, bne] at h_; omega))); intro _; conv => whnf)
          | (refine tst_in ?_ ?_; rotate_left; (focus (intro h_; exfalso; first | omega | ((try simp only [decide_eq_true_eq, decide_eq_false_iff_not] at h_); omega) | (simp [mulSz, Cont.len, bne] at h_; done) | (simp [mulSz, Cont.len, bne] at h_; omega))); intro _; conv => whnf))
        refine ⟨[0, 1], k + 1, ?_, (by show k + 1 ≤ n; omega), (by show n - (k + 1) < n - k; omega)⟩
        show stLe _ _ (st14 B G n ca (k + 1)) _
        unfold st14
        rw [show n - (k + 1) = r by omega]
        conv => whnf
        repeat' (first | exact True.intro | rfl | refine And.intro ?_ ?_)
        all_goals (conv => whnf)
        repeat' (first | exact True.intro | rfl | refine And.intro ?_ ?_)
        all_goals (try omega)
      · skip
        have hof : (3 : Int) = ofq G k := by unfold ofq; rw [e1, e2]; rfl
        conv => whnf
        repeat (first
          | (refine And.intro ?_ ?_; (focus (first | omega | decide | exact Int.natCast_nonneg _ | ((repeat' refine And.intro ?_ ?_) <;> first | omega | exact Int.natCast_nonneg _ | (simp only [i64max]; omega) | (simp only [u8max]; omega) | (simp only [i64max, u8max, u16max, u32max, u64max]; omega) | (simp [mulSz, Cont.len, bne, hlen]; done) | (simp [mulSz, Cont.len, bne, hlen]; omega)))); conv => whnf)
          | (refine tst_in ?_ ?_; (focus (intro h_; exfalso; first | omega | ((try simp only [decide_eq_true_eq, decide_eq_false_iff_not] at h_); omega) | (simp [mulSz, Cont.len, bne, hlen] at h_; done) | (simp [mulSz, Cont.len, bne, hlen] at h_; omega))); intro _; conv => whnf)
          | (refine tst_in ?_ ?_; rotate_left; (focus (intro h_; exfalso; first | omega | ((try simp only [decide_eq_true_eq, decide_eq_false_iff_not] at h_); omega) | (simp [mulSz, Cont.len, bne, hlen] at h_; done) | (simp [mulSz, Cont.len, bne, hlen] at h_; omega))); intro _; conv => whnf))
        rw [hX0, tab_sete hof]
        conv => whnf
        repeat (first
          | (refine And.intro ?_ ?_; (focus (first | omega | decide | exact Int.natCast_nonneg _ | ((repeat' refine And.intro ?_ ?_) <;> first | omega | exact Int.natCast_nonneg _ | (simp only [i64max]; omega) | (simp only [u8max]; omega) | (simp only [i64max, u8max, u16max, u32max, u64max]; omega) | (simp [mulSz, Cont.len, bne]; done) | (simp [mulSz, Cont.len, bne]; omega)))); conv => whnf)
          | (refine tst_in ?_ ?_; (focus (intro h_; exfalso; first | omega | ((try simp only [decide_eq_true_eq, decide_eq_false_iff_not] at h_); omega) | (simp [mulSz, Cont.len, bne] at h_; done) | (simp [mulSz, Cont.len, bne] at h_; omega))); intro _; conv => whnf)
          | (refine tst_in ?_ ?_; rotate_left; (focus (intro h_; exfalso; first | omega | ((try simp only [decide_eq_true_eq, decide_eq_false_iff_not] at h_); omega) | (simp [mulSz, Cont.len, bne] at h_; done) | (simp [mulSz, Cont.len, bne] at h_; omega))); intro _; conv => whnf))
        refine ⟨[0, 1], k + 1, ?_, (by show k + 1 ≤ n; omega), (by show n - (k + 1) < n - k; omega)⟩
        show stLe _ _ (st14 B G n ca (k + 1)) _
        unfold st14
        rw [show n - (k + 1) = r by omega]
        conv => whnf
        repeat' (first | exact True.intro | rfl | refine And.intro ?_ ?_)
        all_goals (conv => whnf)
        repeat' (first | exact True.intro | rfl | refine And.intro ?_ ?_)
        all_goals (try omega)
      · skip
        have hof : (2 : Int) = ofq G k := by unfold ofq; rw [e1, e2]; rfl
        conv => whnf
        repeat (first
          | (refine And.intro ?_ ?_; (focus (first | omega | decide | exact Int.natCast_nonneg _ | ((repeat' refine And.intro ?_ ?_) <;> first | omega | exact Int.natCast_nonneg _ | (simp only [i64max]; omega) | (simp only [u8max]; omega) | (simp only [i64max, u8max, u16max, u32max, u64max]; omega) | (simp [mulSz, Cont.len, bne, hlen]; done) | (simp [mulSz, Cont.len, bne, hlen]; omega)))); conv => whnf)
          | (refine tst_in ?_ ?_; (focus (intro h_; exfalso; first | omega | ((try simp only [decide_eq_true_eq, decide_eq_false_iff_not] at h_); omega) | (simp [mulSz, Cont.len, bne, hlen] at h_; done) | (simp [mulSz, Cont.len, bne, hlen] at h_; omega))); intro _; conv => whnf)
          | (refine tst_in ?_ ?_; rotate_left; (focus (intro h_; exfalso; first | omega | ((try simp only [decide_eq_true_eq, decide_eq_false_iff_not] at h_); omega) | (simp [mulSz, Cont.len, bne, hlen] at h_; done) | (simp [mulSz, Cont.len, bne, hlen] at h_; omega))); intro _; conv => whnf))
        rw [hX0, tab_sete hof]
        conv => whnf
        repeat (first
          | (refine And.intro ?_ ?_; (focus (first | omega | decide | exact Int.natCast_nonneg _ | ((repeat' refine And.intro ?_ ?_) <;> first | omega | exact Int.natCast_nonneg _ | (simp only [i64max]; omega) | (simp only [u8max]; omega) | (simp only [i64max, u8max, u16max, u32max, u64max]; omega) | (simp [mulSz, Cont.len, bne]; done) | (simp [mulSz, Cont.len, bne]; omega)))); conv => whnf)
          | (refine tst_in ?_ ?_; (focus (intro h_; exfalso; first | omega | ((try simp only [decide_eq_true_eq, decide_eq_false_iff_not] at h_); omega) | (simp [mulSz, Cont.len, bne] at h_; done) | (simp [mulSz, Cont.len, bne] at h_; omega))); intro _; conv => whnf)
          | (refine tst_in ?_ ?_; rotate_left; (focus (intro h_; exfalso; first | omega | ((try simp only [decide_eq_true_eq, decide_eq_false_iff_not] at h_); omega) | (simp [mulSz, Cont.len, bne] at h_; done) | (simp [mulSz, Cont.len, bne] at h_; omega))); intro _; conv => whnf))
        refine ⟨[0, 1], k + 1, ?_, (by show k + 1 ≤ n; omega), (by show n - (k + 1) < n - k; omega)⟩
        show stLe _ _ (st14 B G n ca (k + 1)) _
        unfold st14
        rw [show n - (k + 1) = r by omega]
        conv => whnf
        repeat' (first | exact True.intro | rfl | refine And.intro ?_ ?_)
        all_goals (conv => whnf)
        repeat' (first | exact True.intro | rfl | refine And.intro ?_ ?_)
        all_goals (try omega)
    · skip
      have hge : k = n := by simp at hge; omega
      subst hge
      rw [Nat.sub_self]
      conv => whnf
      repeat (first
        | (refine And.intro ?_ ?_; (focus (first | omega | decide | exact Int.natCast_nonneg _ | ((repeat' refine And.intro ?_ ?_) <;> first | omega | exact Int.natCast_nonneg _ | (simp only [i64max]; omega) | (simp only [u8max]; omega) | (simp only [i64max, u8max, u16max, u32max, u64max]; omega) | (simp [mulSz, Cont.len, bne]; done) | (simp [mulSz, Cont.len, bne]; omega)))); conv => whnf)
        | (refine tst_in ?_ ?_; (focus (intro h_; exfalso; first | omega | ((try simp only [decide_eq_true_eq, decide_eq_false_iff_not] at h_); omega) | (simp [mulSz, Cont.len, bne] at h_; done) | (simp [mulSz, Cont.len, bne] at h_; omega))); intro _; conv => whnf)
        | (refine tst_in ?_ ?_; rotate_left; (focus (intro h_; exfalso; first | omega | ((try simp only [decide_eq_true_eq, decide_eq_false_iff_not] at h_); omega) | (simp [mulSz, Cont.len, bne] at h_; done) | (simp [mulSz, Cont.len, bne] at h_; omega))); intro _; conv => whnf))
      refine .inl ⟨(), [0, 1], ?_⟩
      conv => whnf
      repeat' (first | exact True.intro | rfl | refine And.intro ?_ ?_)
      all_goals (conv => whnf)
      repeat' (first | exact True.intro | rfl | refine And.intro ?_ ?_)
      all_goals (try omega)
      all_goals (show tab (ofq G) k = tab (ofq G) k ++ []; rw [List.append_nil])
end Go.Proofs.Yteefbedjblppiaa

set_option linter.unusedVariables false
set_option linter.unusedSimpArgs false
namespace Go.Proofs.Yteefbedjblppiaa
open Go Go.Fw
noncomputable def c10 : Code := (Try.f10.body).getD .skip
def m4 (A : List Int) (i : Nat) : Int := (A.getD i 0) % 4
theorem m4_in (A : List Int) (i : Nat) : q4 (m4 A i) := by unfold m4 q4; omega
def st10 (A : List Int) (n ca M k : Nat) (tl : List Int) : St := ⟨anyTo 27 [.slice 0 0 n ca, .int .i64 M, .any, .any, .any, .slice 1 0 k (k + tl.length), .int .i64 k], [.seg false (.ints .u8 A), .seg true (.ints .u8 (tab (m4 A) k ++ tl))]⟩
def inv10 (A : List Int) (n ca M m : Nat) : LInv := ⟨Nat × List Int, fun y => st10 A n ca M y.1 y.2, fun y => y.1 ≤ m, fun y => m - y.1⟩
def fitOut (A : List Int) (m : Nat) : FOut := ⟨List Int, fun _ => True, fun tl => .slice 1 0 m (m + tl.length), fun tl => [.dead, .seg true (.ints .u8 (tab (m4 A) m ++ tl))]⟩
set_option maxHeartbeats 0 in
set_option maxRecDepth 100000 in
theorem fit_f (A : List Int) (n ca M m : Nat) (hA : n ≤ A.length) (hM : M ≤ 1000) (hm : m = min n M) (hA8 : ∀ i, i < n → 0 ≤ A.getD i 0 ∧ A.getD i 0 ≤ 255) (hN : n ≤ 4611686018427387904) :
    Fits Try.prog 10 ⟨[.slice 0 0 n ca, .int .i64 M], [.seg false (.ints .u8 A)], [fitOut A m]⟩ := by
  refine fits_of_body (C := cfgs 1) (c := c10) (ts := [4]) tok mixed (fun | 3 => some (inv10 A n ca M m) | _ => none) (fun _ => none)
    Try.func10 (by kernel_rfl) (by kernel_rfl) (by kernel_rfl) (by kernel_rfl) rfl ?_
  conv => whnf
  repeat (first
    | (refine And.intro ?_ ?_; (focus (first | omega | decide | exact Int.natCast_nonneg _ | ((repeat' refine And.intro ?_ ?_) <;> first | omega | exact Int.natCast_nonneg _ | (simp only [i64max]; omega) | (simp only [u8max]; omega) | (simp only [i64max, u8max, u16max, u32max, u64max]; omega) | (simp [mulSz, Cont.len, bne]; done) | (simp [mulSz, Cont.len, bne]; omega)))); conv => whnf)
    | (refine tst_in ?_ ?_; (focus (intro h_; exfalso; first | omega | ((try simp only [decide_eq_true_eq, decide_eq_false_iff_not] at h_); omega) | (simp [mulSz, Cont.len, bne] at h_; done) | (simp [mulSz, Cont.len, bne] at h_; omega))); intro _; conv => whnf)
    | (refine tst_in ?_ ?_; rotate_left; (focus (intro h_; exfalso; first | omega | ((try simp only [decide_eq_true_eq, decide_eq_false_iff_not] at h_); omega) | (simp [mulSz, Cont.len, bne] at h_; done) | (simp [mulSz, Cont.len, bne] at h_; omega))); intro _; conv => whnf))
  refine ⟨⟨[0, 1], ((0, []) : Nat × List Int), ?_, Nat.zero_le _⟩, ?_⟩
  · conv => whnf
    repeat' (first | exact True.intro | rfl | refine And.intro ?_ ?_)
    all_goals (conv => whnf)
    repeat' (first | exact True.intro | rfl | refine And.intro ?_ ?_)
    all_goals (try (first | omega | exact True.intro | rfl | assumption | (change LE.le (α := Nat) _ _; first | omega | (simp only []; omega)) | (simp only []; done) | (simp only []; omega) | (simp; done) | (simp; omega)))
  · rintro ⟨k, tl⟩ hk
    have hk : k ≤ m := hk
    show forceSt (st10 A n ca M k tl) _
    have hlen := app_len (m4 A) k tl
    have hX0 : 0 + ((k : Int)).toNat = k := by omega
    conv => whnf
    refine tst_in (fun h1 => ?_) (fun h1 => ?_)
    · skip
      have h1 : k < n := by simp at h1; omega
      have hv := hA8 k h1
      conv => whnf
      refine tst_in (fun h2 => ?_) (fun h2 => ?_)
      · skip
        have h2 : k < M := by simp at h2; omega
        conv => whnf
        repeat (first
          | (refine And.intro ?_ ?_; (focus (first | omega | decide | exact Int.natCast_nonneg _ | ((repeat' refine And.intro ?_ ?_) <;> first | omega | exact Int.natCast_nonneg _ | (simp only [i64max]; omega) | (simp only [u8max]; omega) | (simp only [i64max, u8max, u16max, u32max, u64max]; omega) | (simp [mulSz, Cont.len, bne]; done) | (simp [mulSz, Cont.len, bne]; omega)))); conv => whnf)
          | (refine tst_in ?_ ?_; (focus (intro h_; exfalso; first | omega | ((try simp only [decide_eq_true_eq, decide_eq_false_iff_not] at h_); omega) | (simp [mulSz, Cont.len, bne] at h_; done) | (simp [mulSz, Cont.len, bne] at h_; omega))); intro _; conv => whnf)
          | (refine tst_in ?_ ?_; rotate_left; (focus (intro h_; exfalso; first | omega | ((try simp only [decide_eq_true_eq, decide_eq_false_iff_not] at h_); omega) | (simp [mulSz, Cont.len, bne] at h_; done) | (simp [mulSz, Cont.len, bne] at h_; omega))); intro _; conv => whnf))
        rw [hX0]
        conv => whnf
        repeat (first
          | (refine And.intro ?_ ?_; (focus (first | omega | decide | exact Int.natCast_nonneg _ | ((repeat' refine And.intro ?_ ?_) <;> first | omega | exact Int.natCast_nonneg _ | (simp only [i64max]; omega) | (simp only [u8max]; omega) | (simp only [i64max, u8max, u16max, u32max, u64max]; omega) | (simp [mulSz, Cont.len, bne, hlen]; done) | (simp [mulSz, Cont.len, bne, hlen]; omega)))); conv => whnf)
          | (refine tst_in ?_ ?_; (focus (intro h_; exfalso; first | omega | ((try simp only [decide_eq_true_eq, decide_eq_false_iff_not] at h_); omega) | (simp [mulSz, Cont.len, bne, hlen] at h_; done) | (simp [mulSz, Cont.len, bne, hlen] at h_; omega))); intro _; conv => whnf)
          | (refine tst_in ?_ ?_; rotate_left; (focus (intro h_; exfalso; first | omega | ((try simp only [decide_eq_true_eq, decide_eq_false_iff_not] at h_); omega) | (simp [mulSz, Cont.len, bne, hlen] at h_; done) | (simp [mulSz, Cont.len, bne, hlen] at h_; omega))); intro _; conv => whnf))
        intro (tl2 : List Int)
        conv => whnf
        repeat (first
          | (refine And.intro ?_ ?_; (focus (first | omega | decide | exact Int.natCast_nonneg _ | ((repeat' refine And.intro ?_ ?_) <;> first | omega | exact Int.natCast_nonneg _ | (simp only [i64max]; omega) | (simp only [u8max]; omega) | (simp only [i64max, u8max, u16max, u32max, u64max]; omega) | (simp [mulSz, Cont.len, bne]; done) | (simp [mulSz, Cont.len, bne]; omega)))); conv => whnf)
          | (refine tst_in ?_ ?_; (focus (intro h_; exfalso; first | omega | ((try simp only [decide_eq_true_eq, decide_eq_false_iff_not] at h_); omega) | (simp [mulSz, Cont.len, bne] at h_; done) | (simp [mulSz, Cont.len, bne] at h_; omega))); intro _; conv => whnf)
          | (refine tst_in ?_ ?_; rotate_left; (focus (intro h_; exfalso; first | omega | ((try simp only [decide_eq_true_eq, decide_eq_false_iff_not] at h_); omega) | (simp [mulSz, Cont.len, bne] at h_; done) | (simp [mulSz, Cont.len, bne] at h_; omega))); intro _; conv => whnf))
        refine ⟨[0, 3], ((k + 1, tl2) : Nat × List Int), ?_, (by show k + 1 ≤ m; omega), (by show m - (k + 1) < m - k; omega)⟩
        show stLe _ _ (st10 A n ca M (k + 1) tl2) _
        conv => whnf
        repeat' (first | exact True.intro | rfl | refine And.intro ?_ ?_)
        all_goals (conv => whnf)
        repeat' (first | exact True.intro | rfl | refine And.intro ?_ ?_)
        all_goals (try omega)
        · skip
          show tab (m4 A) (k + 1) ++ tl2 = List.take k (List.drop 0 (tab (m4 A) k ++ tl)) ++ List.take 1 (List.drop 0 [A.getD k 0 % 4]) ++ tl2
          rw [List.drop_zero, List.take_append_of_le_length (by rw [tab_len]; omega), List.take_of_length_le (by rw [tab_len]; omega), ← tab_snoc]; rfl
      · skip
        have h2 : k = m := by simp at h2; omega
        subst h2
        conv => whnf
        repeat (first
          | (refine And.intro ?_ ?_; (focus (first | omega | decide | exact Int.natCast_nonneg _ | ((repeat' refine And.intro ?_ ?_) <;> first | omega | exact Int.natCast_nonneg _ | (simp only [i64max]; omega) | (simp only [u8max]; omega) | (simp only [i64max, u8max, u16max, u32max, u64max]; omega) | (simp [mulSz, Cont.len, bne]; done) | (simp [mulSz, Cont.len, bne]; omega)))); conv => whnf)
          | (refine tst_in ?_ ?_; (focus (intro h_; exfalso; first | omega | ((try simp only [decide_eq_true_eq, decide_eq_false_iff_not] at h_); omega) | (simp [mulSz, Cont.len, bne] at h_; done) | (simp [mulSz, Cont.len, bne] at h_; omega))); intro _; conv => whnf)
          | (refine tst_in ?_ ?_; rotate_left; (focus (intro h_; exfalso; first | omega | ((try simp only [decide_eq_true_eq, decide_eq_false_iff_not] at h_); omega) | (simp [mulSz, Cont.len, bne] at h_; done) | (simp [mulSz, Cont.len, bne] at h_; omega))); intro _; conv => whnf))
        refine .inl ⟨tl, [0, 1], ?_⟩
        conv => whnf
        repeat' (first | exact True.intro | rfl | refine And.intro ?_ ?_)
        all_goals (conv => whnf)
        repeat' (first | exact True.intro | rfl | refine And.intro ?_ ?_)
        all_goals (try omega)
    · skip
      have h1 : k = m := by simp at h1; omega
      subst h1
      conv => whnf
      repeat (first
        | (refine And.intro ?_ ?_; (focus (first | omega | decide | exact Int.natCast_nonneg _ | ((repeat' refine And.intro ?_ ?_) <;> first | omega | exact Int.natCast_nonneg _ | (simp only [i64max]; omega) | (simp only [u8max]; omega) | (simp only [i64max, u8max, u16max, u32max, u64max]; omega) | (simp [mulSz, Cont.len, bne]; done) | (simp [mulSz, Cont.len, bne]; omega)))); conv => whnf)
        | (refine tst_in ?_ ?_; (focus (intro h_; exfalso; first | omega | ((try simp only [decide_eq_true_eq, decide_eq_false_iff_not] at h_); omega) | (simp [mulSz, Cont.len, bne] at h_; done) | (simp [mulSz, Cont.len, bne] at h_; omega))); intro _; conv => whnf)
        | (refine tst_in ?_ ?_; rotate_left; (focus (intro h_; exfalso; first | omega | ((try simp only [decide_eq_true_eq, decide_eq_false_iff_not] at h_); omega) | (simp [mulSz, Cont.len, bne] at h_; done) | (simp [mulSz, Cont.len, bne] at h_; omega))); intro _; conv => whnf))
      refine .inl ⟨tl, [0, 1], ?_⟩
      conv => whnf
      repeat' (first | exact True.intro | rfl | refine And.intro ?_ ?_)
      all_goals (conv => whnf)
      repeat' (first | exact True.intro | rfl | refine And.intro ?_ ?_)
      all_goals (try omega)
noncomputable def c9 : Code := (Try.f9.body).getD .skip
def ls (l : List Int) (i : Nat) : Int := l.getD i 0
set_option maxHeartbeats 0 in
set_option maxRecDepth 100000 in
theorem awake_f : Fits Try.prog 9 ⟨[], [], [numOut [] (.bool true)]⟩ := by
  have hq1 : ∀ i, i < 4 → ([1, 1, 3, 2] : List Int).getD (0 + i) 0 = ls [1, 1, 3, 2] i ∧ q4 (ls [1, 1, 3, 2] i) := fun i h => by
    rcases (show i = 0 ∨ i = 1 ∨ i = 2 ∨ i = 3 by omega) with e | e | e | e <;> subst e <;> exact ⟨rfl, by unfold q4 ls; decide⟩
  have hq2 : ∀ i, i < 4 → ([1, 2, 1, 3] : List Int).getD (0 + i) 0 = ls [1, 2, 1, 3] i ∧ q4 (ls [1, 2, 1, 3] i) := fun i h => by
    rcases (show i = 0 ∨ i = 1 ∨ i = 2 ∨ i = 3 by omega) with e | e | e | e <;> subst e <;> exact ⟨rfl, by unfold q4 ls; decide⟩
  have IN := Into_f [1, 1, 3, 2] (ls [1, 1, 3, 2]) 0 4 4 (by decide) (by decide) hq1
  have OU := Out_f [1, 2, 1, 3] (ls [1, 2, 1, 3]) 0 4 4 (by decide) (by decide) hq2
  have Q1 := quar_q (tab (inq (ls [1, 1, 3, 2])) 4) [1, 2, 1, 3] 0 4 4 0 4 (by rw [tab_len]; decide) (by decide) (by decide) (fun i h => by
    rcases (show i = 0 ∨ i = 1 ∨ i = 2 ∨ i = 3 by omega) with e | e | e | e <;> subst e <;> decide)
  have Q2 := quar_q (tab (outq (ls [1, 2, 1, 3])) 4) [1, 1, 3, 2] 0 4 4 0 4 (by rw [tab_len]; decide) (by decide) (by decide) (fun i h => by
    rcases (show i = 0 ∨ i = 1 ∨ i = 2 ∨ i = 3 by omega) with e | e | e | e <;> subst e <;> decide)
  refine fits_of_body (C := cfgs 0) (c := c9) (ts := [0]) tok mixed (fun _ => none) (fun _ => none)
    Try.func9 (by kernel_rfl) (by kernel_rfl) (by kernel_rfl) (by kernel_rfl) rfl ?_
  conv => whnf
  repeat (first
    | (refine And.intro ?_ ?_; (focus (first | omega | decide | exact Int.natCast_nonneg _ | ((repeat' refine And.intro ?_ ?_) <;> first | omega | exact Int.natCast_nonneg _ | (simp only [i64max]; omega) | (simp only [u8max]; omega) | (simp only [i64max, u8max, u16max, u32max, u64max]; omega) | (simp [mulSz, Cont.len, bne]; done) | (simp [mulSz, Cont.len, bne]; omega)))); conv => whnf)
    | (refine tst_in ?_ ?_; (focus (intro h_; exfalso; first | omega | ((try simp only [decide_eq_true_eq, decide_eq_false_iff_not] at h_); omega) | (simp [mulSz, Cont.len, bne] at h_; done) | (simp [mulSz, Cont.len, bne] at h_; omega))); intro _; conv => whnf)
    | (refine tst_in ?_ ?_; rotate_left; (focus (intro h_; exfalso; first | omega | ((try simp only [decide_eq_true_eq, decide_eq_false_iff_not] at h_); omega) | (simp [mulSz, Cont.len, bne] at h_; done) | (simp [mulSz, Cont.len, bne] at h_; omega))); intro _; conv => whnf))
  refine ⟨_, [0], IN, ?_⟩
  conv => whnf
  refine ⟨?_, ?_, ?_⟩
  · conv => whnf
    repeat' (first | exact True.intro | rfl | refine And.intro ?_ ?_ | omega)
    all_goals (conv => whnf)
    all_goals (try (first | rfl | omega | (simp; done)))
  · conv => whnf
    repeat' (first | exact True.intro | rfl | refine And.intro ?_ ?_ | omega)
    all_goals (conv => whnf)
    all_goals (try (first | rfl | omega | (simp; done)))
  conv => whnf
  refine ⟨?_, True.intro⟩
  intro _ _
  conv => whnf
  conv => whnf
  repeat (first
    | (refine And.intro ?_ ?_; (focus (first | omega | decide | exact Int.natCast_nonneg _ | ((repeat' refine And.intro ?_ ?_) <;> first | omega | exact Int.natCast_nonneg _ | (simp only [i64max]; omega) | (simp only [u8max]; omega) | (simp only [i64max, u8max, u16max, u32max, u64max]; omega) | (simp [mulSz, Cont.len, bne]; done) | (simp [mulSz, Cont.len, bne]; omega)))); conv => whnf)
    | (refine tst_in ?_ ?_; (focus (intro h_; exfalso; first | omega | ((try simp only [decide_eq_true_eq, decide_eq_false_iff_not] at h_); omega) | (simp [mulSz, Cont.len, bne] at h_; done) | (simp [mulSz, Cont.len, bne] at h_; omega))); intro _; conv => whnf)
    | (refine tst_in ?_ ?_; rotate_left; (focus (intro h_; exfalso; first | omega | ((try simp only [decide_eq_true_eq, decide_eq_false_iff_not] at h_); omega) | (simp [mulSz, Cont.len, bne] at h_; done) | (simp [mulSz, Cont.len, bne] at h_; omega))); intro _; conv => whnf))
  refine ⟨_, [2], OU, ?_⟩
  conv => whnf
  refine ⟨?_, ?_, ?_⟩
  · conv => whnf
    repeat' (first | exact True.intro | rfl | refine And.intro ?_ ?_ | omega)
    all_goals (conv => whnf)
    all_goals (try (first | rfl | omega | (simp; done)))
  · conv => whnf
    repeat' (first | exact True.intro | rfl | refine And.intro ?_ ?_ | omega)
    all_goals (conv => whnf)
    all_goals (try (first | rfl | omega | (simp; done)))
  conv => whnf
  refine ⟨?_, True.intro⟩
  intro _ _
  conv => whnf
  conv => whnf
  repeat (first
    | (refine And.intro ?_ ?_; (focus (first | omega | decide | exact Int.natCast_nonneg _ | ((repeat' refine And.intro ?_ ?_) <;> first | omega | exact Int.natCast_nonneg _ | (simp only [i64max]; omega) | (simp only [u8max]; omega) | (simp only [i64max, u8max, u16max, u32max, u64max]; omega) | (simp [mulSz, Cont.len, bne]; done) | (simp [mulSz, Cont.len, bne]; omega)))); conv => whnf)
    | (refine tst_in ?_ ?_; (focus (intro h_; exfalso; first | omega | ((try simp only [decide_eq_true_eq, decide_eq_false_iff_not] at h_); omega) | (simp [mulSz, Cont.len, bne] at h_; done) | (simp [mulSz, Cont.len, bne] at h_; omega))); intro _; conv => whnf)
    | (refine tst_in ?_ ?_; rotate_left; (focus (intro h_; exfalso; first | omega | ((try simp only [decide_eq_true_eq, decide_eq_false_iff_not] at h_); omega) | (simp [mulSz, Cont.len, bne] at h_; done) | (simp [mulSz, Cont.len, bne] at h_; omega))); intro _; conv => whnf))
  refine ⟨_, [1, 4], Q1, ?_⟩
  conv => whnf
  refine ⟨?_, ?_, ?_⟩
  · conv => whnf
    repeat' (first | exact True.intro | rfl | refine And.intro ?_ ?_)
    all_goals (conv => whnf)
    repeat' (first | exact True.intro | rfl | refine And.intro ?_ ?_)
    all_goals (try (first | rfl | omega | (simp; done) | (simp; omega)))
  · conv => whnf
    repeat' (first | exact True.intro | rfl | refine And.intro ?_ ?_)
    all_goals (conv => whnf)
    repeat' (first | exact True.intro | rfl | refine And.intro ?_ ?_)
    all_goals (try (first | rfl | omega | (simp; done) | (simp; omega)))
  conv => whnf
  conv => whnf
  repeat (first
    | (refine And.intro ?_ ?_; (focus (first | omega | decide | exact Int.natCast_nonneg _ | ((repeat' refine And.intro ?_ ?_) <;> first | omega | exact Int.natCast_nonneg _ | (simp only [i64max]; omega) | (simp only [u8max]; omega) | (simp only [i64max, u8max, u16max, u32max, u64max]; omega) | (simp [mulSz, Cont.len, bne]; done) | (simp [mulSz, Cont.len, bne]; omega)))); conv => whnf)
    | (refine tst_in ?_ ?_; (focus (intro h_; exfalso; first | omega | ((try simp only [decide_eq_true_eq, decide_eq_false_iff_not] at h_); omega) | (simp [mulSz, Cont.len, bne] at h_; done) | (simp [mulSz, Cont.len, bne] at h_; omega))); intro _; conv => whnf)
    | (refine tst_in ?_ ?_; rotate_left; (focus (intro h_; exfalso; first | omega | ((try simp only [decide_eq_true_eq, decide_eq_false_iff_not] at h_); omega) | (simp [mulSz, Cont.len, bne] at h_; done) | (simp [mulSz, Cont.len, bne] at h_; omega))); intro _; conv => whnf))
  refine ⟨_, [3, 5], Q2, ?_⟩
  conv => whnf
  refine ⟨?_, ?_, ?_⟩
  · conv => whnf
    repeat' (first | exact True.intro | rfl | refine And.intro ?_ ?_)
    all_goals (conv => whnf)
    repeat' (first | exact True.intro | rfl | refine And.intro ?_ ?_)
    all_goals (try (first | rfl | omega | (simp; done) | (simp; omega)))
  · conv => whnf
    repeat' (first | exact True.intro | rfl | refine And.intro ?_ ?_)
    all_goals (conv => whnf)
    repeat' (first | exact True.intro | rfl | refine And.intro ?_ ?_)
    all_goals (try (first | rfl | omega | (simp; done) | (simp; omega)))
  conv => whnf
  conv => whnf
  repeat (first
    | (refine And.intro ?_ ?_; (focus (first | omega | decide | exact Int.natCast_nonneg _ | ((repeat' refine And.intro ?_ ?_) <;> first | omega | exact Int.natCast_nonneg _ | (simp only [i64max]; omega) | (simp only [u8max]; omega) | (simp only [i64max, u8max, u16max, u32max, u64max]; omega) | (simp [mulSz, Cont.len, bne]; done) | (simp [mulSz, Cont.len, bne]; omega)))); conv => whnf)
    | (refine tst_in ?_ ?_; (focus (intro h_; exfalso; first | omega | ((try simp only [decide_eq_true_eq, decide_eq_false_iff_not] at h_); omega) | (simp [mulSz, Cont.len, bne] at h_; done) | (simp [mulSz, Cont.len, bne] at h_; omega))); intro _; conv => whnf)
    | (refine tst_in ?_ ?_; rotate_left; (focus (intro h_; exfalso; first | omega | ((try simp only [decide_eq_true_eq, decide_eq_false_iff_not] at h_); omega) | (simp [mulSz, Cont.len, bne] at h_; done) | (simp [mulSz, Cont.len, bne] at h_; omega))); intro _; conv => whnf))
  refine .inl ⟨(), [], ?_⟩
  conv => whnf
  repeat' (first | exact True.intro | rfl | refine And.intro ?_ ?_)
  all_goals (conv => whnf)
  repeat' (first | exact True.intro | rfl | refine And.intro ?_ ?_)
  all_goals (try (first | omega | exact True.intro | rfl | assumption | (change LE.le (α := Nat) _ _; first | omega | (simp only []; omega)) | (simp only []; done) | (simp only []; omega) | (simp; done) | (simp; omega)))
end Go.Proofs.Yteefbedjblppiaa

set_option linter.unusedVariables false
set_option linter.unusedSimpArgs false
namespace Go.Proofs.Yteefbedjblppiaa
open Go Go.Fw
def xq (F : Nat → Int) (N : Int) (k : Nat) : Int := (inq F k + N % 4) % 4
theorem xq_in (F : Nat → Int) (N : Int) (k : Nat) : q4 (xq F N k) := by unfold xq q4; omega
theorem outx_0 {F : Nat → Int} {N : Int} : outq (xq F N) 0 = (F 0 + N % 4) % 4 := by
  unfold outq xq inq
  rw [if_pos rfl]
  show ((((0 + F 0) % 4) + N % 4) % 4 - 0) % 4 = _
  omega
theorem outx_s {F : Nat → Int} {N : Int} {k : Nat} (h : q4 (F k)) (hk : 0 < k) : outq (xq F N) k = F k := by
  obtain ⟨j, rfl⟩ : ∃ j, k = j + 1 := ⟨k - 1, by omega⟩
  unfold outq xq
  rw [if_neg (by omega), Nat.add_sub_cancel]
  have e : inq F (j + 1) = (inq F j + F (j + 1)) % 4 := rfl
  have := inq_in F j
  rw [e]
  unfold q4 at *
  omega
def whSpec (A : List Int) (n ca : Nat) (N : Int) : FSpec := ⟨[.slice 0 0 n ca, .int .u8 N], [.seg false (.ints .u8 A)], [numOut [.dead] (.bool true)]⟩
def sA (A : List Int) (m : Nat) (N : Int) (k : Nat) (tl t3 : List Int) : St := ⟨anyTo 200 [.any, .int .u8 N, .any, .any, .any, .slice 1 0 m (m + tl.length), .slice 2 0 m m, .any, .any, .any, .any, .any, .any, .any, .slice 3 0 k (k + t3.length), .int .i64 k], [.seg false (.ints .u8 A), .seg true (.ints .u8 (tab (m4 A) m ++ tl)), .seg true (.ints .u8 (tab (inq (m4 A)) m)), .seg true (.ints .u8 (tab (xq (m4 A) N) k ++ t3))]⟩
def iA (A : List Int) (m : Nat) (N : Int) : LInv := ⟨Nat × List Int × List Int, fun y => sA A m N y.1 y.2.1 y.2.2, fun y => y.1 ≤ m, fun y => m - y.1⟩
def sB (A : List Int) (m : Nat) (N : Int) (k : Nat) (tl : List Int) : St := ⟨anyTo 200 [.any, .int .u8 N, .any, .any, .any, .slice 1 0 m (m + tl.length), .any, .any, .any, .any, .any, .any, .any, .any, .any, .any, .slice 2 0 m m, .any, .any, .any, .int .i64 k], [.seg false (.ints .u8 A), .seg true (.ints .u8 (tab (m4 A) m ++ tl)), .seg true (.ints .u8 (tab (outq (xq (m4 A) N)) m))]⟩
def iB (A : List Int) (m : Nat) (N : Int) : LInv := ⟨Nat × List Int, fun y => sB A m N y.1 y.2, fun y => y.1 ≤ m, fun y => m - y.1⟩
def sC (A : List Int) (k : Nat) : St := ⟨anyTo 200 [.any, .any, .any, .any, .any, .any, .any, .any, .any, .any, .any, .any, .any, .any, .any, .any, .any, .any, .any, .any, .any, .int .u8 k], [.seg false (.ints .u8 A)]⟩
def iC (A : List Int) : LInv := ⟨Nat, fun k => sC A k, fun k => k ≤ 4, fun k => 4 - k⟩
noncomputable def c4 : Code := (Try.f4.body).getD .skip
set_option maxHeartbeats 0 in
set_option maxRecDepth 100000 in
theorem wh_R (A : List Int) (n ca m : Nat) (N : Int) (hA : n ≤ A.length) (hm : m = min n 300) (hA8 : ∀ i, i < n → 0 ≤ A.getD i 0 ∧ A.getD i 0 ≤ 255) (hn : n ≤ 4611686018427387904) (hN : 0 ≤ N ∧ N ≤ 255) : Fits Try.prog 4 (whSpec A n ca N) := by
  have FI := fit_f A n ca 300 m hA (by decide) hm hA8 hn
  have hF := m4_in A
  have hx := xq_in (m4 A) N
  have hm3 : m ≤ 300 := by omega
  have hq : ∀ (f : Nat → Int) (tl : List Int), (∀ i, q4 (f i)) → ∀ i, i < m → (tab f m ++ tl).getD (0 + i) 0 = f i ∧ q4 (f i) := fun f tl h i hi => by rw [Nat.zero_add, tab_app f 0 tl hi]; exact ⟨rfl, h i⟩
  have hq0 : ∀ (f : Nat → Int), (∀ i, q4 (f i)) → ∀ i, i < m → (tab f m).getD (0 + i) 0 = f i ∧ q4 (f i) := fun f h i hi => by rw [Nat.zero_add, tab_get f 0 hi]; exact ⟨rfl, h i⟩
  have hl : ∀ {α : Type} (f : Nat → α) (tl : List α) j, 0 + j ≤ (tab f j ++ tl).length := fun f tl j => by rw [app_len]; omega
  have hl0 : ∀ {α : Type} (f : Nat → α) j, 0 + j ≤ (tab f j).length := fun f j => by rw [tab_len]; omega
  have INq := fun tl => Into_f (tab (m4 A) m ++ tl) (m4 A) 0 m (m + tl.length) (hl (m4 A) tl m) (by omega) (hq (m4 A) tl hF)
  have OUp := Out_f (tab (inq (m4 A)) m) (inq (m4 A)) 0 m m (hl0 _ m) (by omega) (hq0 _ (inq_in (m4 A)))
  have BIq := fun tl => Bits_f (tab (m4 A) m ++ tl) (m4 A) 0 m (m + tl.length) (hl (m4 A) tl m) (by omega) (hq (m4 A) tl hF)
  have OFb := fun tl : List Bool => Of_f (tab (bitq (m4 A)) (2 * m) ++ tl) (bitq (m4 A)) m (2 * m + tl.length) (by rw [app_len]; omega) (by omega) (fun i hi => tab_app _ _ _ hi)
  have Q1 := fun tl => quar_q (tab (outq (inq (m4 A))) m) (tab (m4 A) m ++ tl) 0 m m 0 (m + tl.length) (hl0 _ m) (hl (m4 A) tl m) (by omega) (fun i hi => by
    rw [(hq (m4 A) tl hF i hi).1, Nat.zero_add, tab_get _ _ hi, out_in (hF i)])
  have Q2 := fun tl => quar_q (tab (ofq (bitq (m4 A))) m) (tab (m4 A) m ++ tl) 0 m m 0 (m + tl.length) (hl0 _ m) (hl (m4 A) tl m) (by omega) (fun i hi => by
    rw [(hq (m4 A) tl hF i hi).1, Nat.zero_add, tab_get _ _ hi, of_bit (hF i)])
  have OUa := fun tl => Out_f (tab (xq (m4 A) N) m ++ tl) (xq (m4 A) N) 0 m (m + tl.length) (hl _ tl m) (by omega) (hq _ tl hx)
  have INo := Into_f (tab (outq (xq (m4 A) N)) m) (outq (xq (m4 A) N)) 0 m m (hl0 _ m) (by omega) (hq0 _ (outq_in _))
  have Q3 := fun tl => quar_q (tab (inq (outq (xq (m4 A) N))) m) (tab (xq (m4 A) N) m ++ tl) 0 m m 0 (m + tl.length) (hl0 _ m) (hl _ tl m) (by omega) (fun i hi => by
    rw [(hq _ tl hx i hi).1, Nat.zero_add, tab_get _ _ hi, in_out hx])
  refine fits_of_body (C := cfgs 1) (c := c4) (ts := [4]) tok mixed (fun | 10 => some (iA A m N) | 18 => some (iB A m N) | 23 => some (iC A) | _ => none) (fun _ => none)
    Try.func4 (by kernel_rfl) (by kernel_rfl) (by kernel_rfl) (by kernel_rfl) rfl ?_
  conv => whnf
  repeat (first
    | (refine And.intro ?_ ?_; (focus (first | omega | decide | exact Int.natCast_nonneg _ | ((repeat' refine And.intro ?_ ?_) <;> first | omega | exact Int.natCast_nonneg _ | (simp only [i64max]; omega) | (simp only [u8max]; omega) | (simp only [i64max, u8max, u16max, u32max, u64max]; omega) | (simp [mulSz, Cont.len, bne]; done) | (simp [mulSz, Cont.len, bne]; omega)))); conv => whnf)
    | (refine tst_in ?_ ?_; (focus (intro h_; exfalso; first | omega | ((try simp only [decide_eq_true_eq, decide_eq_false_iff_not] at h_); omega) | (simp [mulSz, Cont.len, bne] at h_; done) | (simp [mulSz, Cont.len, bne] at h_; omega))); intro _; conv => whnf)
    | (refine tst_in ?_ ?_; rotate_left; (focus (intro h_; exfalso; first | omega | ((try simp only [decide_eq_true_eq, decide_eq_false_iff_not] at h_); omega) | (simp [mulSz, Cont.len, bne] at h_; done) | (simp [mulSz, Cont.len, bne] at h_; omega))); intro _; conv => whnf))
  refine ⟨_, [0], FI, ?_⟩
  conv => whnf
  refine ⟨?_, ?_, ?_⟩
  · conv => whnf
    repeat' (first | exact True.intro | rfl | refine And.intro ?_ ?_)
    all_goals (conv => whnf)
    repeat' (first | exact True.intro | rfl | refine And.intro ?_ ?_)
    all_goals (try (first | rfl | omega | (simp; done) | (simp; omega)))
  · conv => whnf
    repeat' (first | exact True.intro | rfl | refine And.intro ?_ ?_)
    all_goals (conv => whnf)
    repeat' (first | exact True.intro | rfl | refine And.intro ?_ ?_)
    all_goals (try (first | rfl | omega | (simp; done) | (simp; omega)))
  conv => whnf
  refine ⟨?_, True.intro⟩
  rintro (tl : List Int) -
  conv => whnf
  conv => whnf
  repeat (first
    | (refine And.intro ?_ ?_; (focus (first | omega | decide | exact Int.natCast_nonneg _ | ((repeat' refine And.intro ?_ ?_) <;> first | omega | exact Int.natCast_nonneg _ | (simp only [i64max]; omega) | (simp only [u8max]; omega) | (simp only [i64max, u8max, u16max, u32max, u64max]; omega) | (simp [mulSz, Cont.len, bne]; done) | (simp [mulSz, Cont.len, bne]; omega)))); conv => whnf)
    | (refine tst_in ?_ ?_; (focus (intro h_; exfalso; first | omega | ((try simp only [decide_eq_true_eq, decide_eq_false_iff_not] at h_); omega) | (simp [mulSz, Cont.len, bne] at h_; done) | (simp [mulSz, Cont.len, bne] at h_; omega))); intro _; conv => whnf)
    | (refine tst_in ?_ ?_; rotate_left; (focus (intro h_; exfalso; first | omega | ((try simp only [decide_eq_true_eq, decide_eq_false_iff_not] at h_); omega) | (simp [mulSz, Cont.len, bne] at h_; done) | (simp [mulSz, Cont.len, bne] at h_; omega))); intro _; conv => whnf))
  refine ⟨_, [1], INq tl, ?_⟩
  conv => whnf
  refine ⟨?_, ?_, ?_⟩
  · conv => whnf
    repeat' (first | exact True.intro | rfl | refine And.intro ?_ ?_ | omega)
    all_goals (conv => whnf)
    all_goals (try (first | rfl | omega | (simp; done)))
  · conv => whnf
    repeat' (first | exact True.intro | rfl | refine And.intro ?_ ?_ | omega)
    all_goals (conv => whnf)
    all_goals (try (first | rfl | omega | (simp; done)))
  conv => whnf
  refine ⟨?_, True.intro⟩
  intro _ _
  conv => whnf
  conv => whnf
  repeat (first
    | (refine And.intro ?_ ?_; (focus (first | omega | decide | exact Int.natCast_nonneg _ | ((repeat' refine And.intro ?_ ?_) <;> first | omega | exact Int.natCast_nonneg _ | (simp only [i64max]; omega) | (simp only [u8max]; omega) | (simp only [i64max, u8max, u16max, u32max, u64max]; omega) | (simp [mulSz, Cont.len, bne]; done) | (simp [mulSz, Cont.len, bne]; omega)))); conv => whnf)
    | (refine tst_in ?_ ?_; (focus (intro h_; exfalso; first | omega | ((try simp only [decide_eq_true_eq, decide_eq_false_iff_not] at h_); omega) | (simp [mulSz, Cont.len, bne] at h_; done) | (simp [mulSz, Cont.len, bne] at h_; omega))); intro _; conv => whnf)
    | (refine tst_in ?_ ?_; rotate_left; (focus (intro h_; exfalso; first | omega | ((try simp only [decide_eq_true_eq, decide_eq_false_iff_not] at h_); omega) | (simp [mulSz, Cont.len, bne] at h_; done) | (simp [mulSz, Cont.len, bne] at h_; omega))); intro _; conv => whnf))
  refine ⟨_, [2], OUp, ?_⟩
  conv => whnf
  refine ⟨?_, ?_, ?_⟩
  · conv => whnf
    repeat' (first | exact True.intro | rfl | refine And.intro ?_ ?_ | omega)
    all_goals (conv => whnf)
    all_goals (try (first | rfl | omega | (simp; done)))
  · conv => whnf
    repeat' (first | exact True.intro | rfl | refine And.intro ?_ ?_ | omega)
    all_goals (conv => whnf)
    all_goals (try (first | rfl | omega | (simp; done)))
  conv => whnf
  refine ⟨?_, True.intro⟩
  intro _ _
  conv => whnf
  conv => whnf
  repeat (first
    | (refine And.intro ?_ ?_; (focus (first | omega | decide | exact Int.natCast_nonneg _ | ((repeat' refine And.intro ?_ ?_) <;> first | omega | exact Int.natCast_nonneg _ | (simp only [i64max]; omega) | (simp only [u8max]; omega) | (simp only [i64max, u8max, u16max, u32max, u64max]; omega) | (simp [mulSz, Cont.len, bne]; done) | (simp [mulSz, Cont.len, bne]; omega)))); conv => whnf)
    | (refine tst_in ?_ ?_; (focus (intro h_; exfalso; first | omega | ((try simp only [decide_eq_true_eq, decide_eq_false_iff_not] at h_); omega) | (simp [mulSz, Cont.len, bne] at h_; done) | (simp [mulSz, Cont.len, bne] at h_; omega))); intro _; conv => whnf)
    | (refine tst_in ?_ ?_; rotate_left; (focus (intro h_; exfalso; first | omega | ((try simp only [decide_eq_true_eq, decide_eq_false_iff_not] at h_); omega) | (simp [mulSz, Cont.len, bne] at h_; done) | (simp [mulSz, Cont.len, bne] at h_; omega))); intro _; conv => whnf))
  refine ⟨_, [1], BIq tl, ?_⟩
  conv => whnf
  refine ⟨?_, ?_, ?_⟩
  · conv => whnf
    repeat' (first | exact True.intro | rfl | refine And.intro ?_ ?_)
    all_goals (conv => whnf)
    repeat' (first | exact True.intro | rfl | refine And.intro ?_ ?_)
    all_goals (try (first | rfl | omega | (simp; done) | (simp; omega)))
  · conv => whnf
    repeat' (first | exact True.intro | rfl | refine And.intro ?_ ?_)
    all_goals (conv => whnf)
    repeat' (first | exact True.intro | rfl | refine And.intro ?_ ?_)
    all_goals (try (first | rfl | omega | (simp; done) | (simp; omega)))
  conv => whnf
  refine ⟨?_, True.intro⟩
  rintro (tb : List Bool) -
  conv => whnf
  conv => whnf
  repeat (first
    | (refine And.intro ?_ ?_; (focus (first | omega | decide | exact Int.natCast_nonneg _ | ((repeat' refine And.intro ?_ ?_) <;> first | omega | exact Int.natCast_nonneg _ | (simp only [i64max]; omega) | (simp only [u8max]; omega) | (simp only [i64max, u8max, u16max, u32max, u64max]; omega) | (simp [mulSz, Cont.len, bne]; done) | (simp [mulSz, Cont.len, bne]; omega)))); conv => whnf)
    | (refine tst_in ?_ ?_; (focus (intro h_; exfalso; first | omega | ((try simp only [decide_eq_true_eq, decide_eq_false_iff_not] at h_); omega) | (simp [mulSz, Cont.len, bne] at h_; done) | (simp [mulSz, Cont.len, bne] at h_; omega))); intro _; conv => whnf)
    | (refine tst_in ?_ ?_; rotate_left; (focus (intro h_; exfalso; first | omega | ((try simp only [decide_eq_true_eq, decide_eq_false_iff_not] at h_); omega) | (simp [mulSz, Cont.len, bne] at h_; done) | (simp [mulSz, Cont.len, bne] at h_; omega))); intro _; conv => whnf))
  refine ⟨_, [4], OFb tb, ?_⟩
  conv => whnf
  refine ⟨?_, ?_, ?_⟩
  · conv => whnf
    repeat' (first | exact True.intro | rfl | refine And.intro ?_ ?_ | omega)
    all_goals (conv => whnf)
    all_goals (try (first | rfl | omega | (simp; done)))
  · conv => whnf
    repeat' (first | exact True.intro | rfl | refine And.intro ?_ ?_ | omega)
    all_goals (conv => whnf)
    all_goals (try (first | rfl | omega | (simp; done)))
  conv => whnf
  refine ⟨?_, True.intro⟩
  intro _ _
  conv => whnf
  conv => whnf
  repeat (first
    | (refine And.intro ?_ ?_; (focus (first | omega | decide | exact Int.natCast_nonneg _ | ((repeat' refine And.intro ?_ ?_) <;> first | omega | exact Int.natCast_nonneg _ | (simp only [i64max]; omega) | (simp only [u8max]; omega) | (simp only [i64max, u8max, u16max, u32max, u64max]; omega) | (simp [mulSz, Cont.len, bne]; done) | (simp [mulSz, Cont.len, bne]; omega)))); conv => whnf)
    | (refine tst_in ?_ ?_; (focus (intro h_; exfalso; first | omega | ((try simp only [decide_eq_true_eq, decide_eq_false_iff_not] at h_); omega) | (simp [mulSz, Cont.len, bne] at h_; done) | (simp [mulSz, Cont.len, bne] at h_; omega))); intro _; conv => whnf)
    | (refine tst_in ?_ ?_; rotate_left; (focus (intro h_; exfalso; first | omega | ((try simp only [decide_eq_true_eq, decide_eq_false_iff_not] at h_); omega) | (simp [mulSz, Cont.len, bne] at h_; done) | (simp [mulSz, Cont.len, bne] at h_; omega))); intro _; conv => whnf))
  refine ⟨_, [3, 1], Q1 tl, ?_⟩
  conv => whnf
  refine ⟨?_, ?_, ?_⟩
  · conv => whnf
    repeat' (first | exact True.intro | rfl | refine And.intro ?_ ?_)
    all_goals (conv => whnf)
    repeat' (first | exact True.intro | rfl | refine And.intro ?_ ?_)
    all_goals (try (first | rfl | omega | (simp; done) | (simp; omega)))
  · conv => whnf
    repeat' (first | exact True.intro | rfl | refine And.intro ?_ ?_)
    all_goals (conv => whnf)
    repeat' (first | exact True.intro | rfl | refine And.intro ?_ ?_)
    all_goals (try (first | rfl | omega | (simp; done) | (simp; omega)))
  conv => whnf
  conv => whnf
  repeat (first
    | (refine And.intro ?_ ?_; (focus (first | omega | decide | exact Int.natCast_nonneg _ | ((repeat' refine And.intro ?_ ?_) <;> first | omega | exact Int.natCast_nonneg _ | (simp only [i64max]; omega) | (simp only [u8max]; omega) | (simp only [i64max, u8max, u16max, u32max, u64max]; omega) | (simp [mulSz, Cont.len, bne]; done) | (simp [mulSz, Cont.len, bne]; omega)))); conv => whnf)
    | (refine tst_in ?_ ?_; (focus (intro h_; exfalso; first | omega | ((try simp only [decide_eq_true_eq, decide_eq_false_iff_not] at h_); omega) | (simp [mulSz, Cont.len, bne] at h_; done) | (simp [mulSz, Cont.len, bne] at h_; omega))); intro _; conv => whnf)
    | (refine tst_in ?_ ?_; rotate_left; (focus (intro h_; exfalso; first | omega | ((try simp only [decide_eq_true_eq, decide_eq_false_iff_not] at h_); omega) | (simp [mulSz, Cont.len, bne] at h_; done) | (simp [mulSz, Cont.len, bne] at h_; omega))); intro _; conv => whnf))
  refine ⟨_, [5, 1], Q2 tl, ?_⟩
  conv => whnf
  refine ⟨?_, ?_, ?_⟩
  · conv => whnf
    repeat' (first | exact True.intro | rfl | refine And.intro ?_ ?_)
    all_goals (conv => whnf)
    repeat' (first | exact True.intro | rfl | refine And.intro ?_ ?_)
    all_goals (try (first | rfl | omega | (simp; done) | (simp; omega)))
  · conv => whnf
    repeat' (first | exact True.intro | rfl | refine And.intro ?_ ?_)
    all_goals (conv => whnf)
    repeat' (first | exact True.intro | rfl | refine And.intro ?_ ?_)
    all_goals (try (first | rfl | omega | (simp; done) | (simp; omega)))
  conv => whnf
  conv => whnf
  repeat (first
    | (refine And.intro ?_ ?_; (focus (first | omega | decide | exact Int.natCast_nonneg _ | ((repeat' refine And.intro ?_ ?_) <;> first | omega | exact Int.natCast_nonneg _ | (simp only [i64max]; omega) | (simp only [u8max]; omega) | (simp only [i64max, u8max, u16max, u32max, u64max]; omega) | (simp [mulSz, Cont.len, bne]; done) | (simp [mulSz, Cont.len, bne]; omega)))); conv => whnf)
    | (refine tst_in ?_ ?_; (focus (intro h_; exfalso; first | omega | ((try simp only [decide_eq_true_eq, decide_eq_false_iff_not] at h_); omega) | (simp [mulSz, Cont.len, bne] at h_; done) | (simp [mulSz, Cont.len, bne] at h_; omega))); intro _; conv => whnf)
    | (refine tst_in ?_ ?_; rotate_left; (focus (intro h_; exfalso; first | omega | ((try simp only [decide_eq_true_eq, decide_eq_false_iff_not] at h_); omega) | (simp [mulSz, Cont.len, bne] at h_; done) | (simp [mulSz, Cont.len, bne] at h_; omega))); intro _; conv => whnf))
  refine ⟨⟨[0, 1, 2, 6], ((0, tl, []) : Nat × List Int × List Int), ?_, Nat.zero_le _⟩, ?_⟩
  · conv => whnf
    repeat' (first | exact True.intro | rfl | refine And.intro ?_ ?_)
    all_goals (conv => whnf)
    repeat' (first | exact True.intro | rfl | refine And.intro ?_ ?_)
    all_goals (try (first | omega | exact True.intro | rfl | assumption | (change LE.le (α := Nat) _ _; first | omega | (simp only []; omega)) | (simp only []; done) | (simp only []; omega) | (simp; done) | (simp; omega)))
  · rintro ⟨k, tl, t3⟩ hk
    have hk : k ≤ m := hk
    have hlen := app_len (xq (m4 A) N) k t3
    have hX0 : 0 + ((k : Int)).toNat = k := by omega
    show forceSt (sA A m N k tl t3) _
    conv => whnf
    refine tst_in (fun hlt => ?_) (fun hge => ?_)
    · skip
      have hlt : k < m := by simp at hlt; omega
      have hin := inq_in (m4 A) k
      unfold q4 at hin
      have hw : IntKind.u8.wrap (inq (m4 A) k + N % 4) = inq (m4 A) k + N % 4 := by rw [u8wrap]; omega
      have htl := tab_len (inq (m4 A)) m
      conv => whnf
      repeat (first
        | (refine And.intro ?_ ?_; (focus (first | omega | decide | exact Int.natCast_nonneg _ | ((repeat' refine And.intro ?_ ?_) <;> first | omega | exact Int.natCast_nonneg _ | (simp only [i64max]; omega) | (simp only [u8max]; omega) | (simp only [i64max, u8max, u16max, u32max, u64max]; omega) | (simp [mulSz, Cont.len, bne, htl]; done) | (simp [mulSz, Cont.len, bne, htl]; omega)))); conv => whnf)
        | (refine tst_in ?_ ?_; (focus (intro h_; exfalso; first | omega | ((try simp only [decide_eq_true_eq, decide_eq_false_iff_not] at h_); omega) | (simp [mulSz, Cont.len, bne, htl] at h_; done) | (simp [mulSz, Cont.len, bne, htl] at h_; omega))); intro _; conv => whnf)
        | (refine tst_in ?_ ?_; rotate_left; (focus (intro h_; exfalso; first | omega | ((try simp only [decide_eq_true_eq, decide_eq_false_iff_not] at h_); omega) | (simp [mulSz, Cont.len, bne, htl] at h_; done) | (simp [mulSz, Cont.len, bne, htl] at h_; omega))); intro _; conv => whnf))
      rw [hX0, tab_get _ _ hlt, hw]
      conv => whnf
      repeat (first
        | (refine And.intro ?_ ?_; (focus (first | omega | decide | exact Int.natCast_nonneg _ | ((repeat' refine And.intro ?_ ?_) <;> first | omega | exact Int.natCast_nonneg _ | (simp only [i64max]; omega) | (simp only [u8max]; omega) | (simp only [i64max, u8max, u16max, u32max, u64max]; omega) | (simp [mulSz, Cont.len, bne, hlen]; done) | (simp [mulSz, Cont.len, bne, hlen]; omega)))); conv => whnf)
        | (refine tst_in ?_ ?_; (focus (intro h_; exfalso; first | omega | ((try simp only [decide_eq_true_eq, decide_eq_false_iff_not] at h_); omega) | (simp [mulSz, Cont.len, bne, hlen] at h_; done) | (simp [mulSz, Cont.len, bne, hlen] at h_; omega))); intro _; conv => whnf)
        | (refine tst_in ?_ ?_; rotate_left; (focus (intro h_; exfalso; first | omega | ((try simp only [decide_eq_true_eq, decide_eq_false_iff_not] at h_); omega) | (simp [mulSz, Cont.len, bne, hlen] at h_; done) | (simp [mulSz, Cont.len, bne, hlen] at h_; omega))); intro _; conv => whnf))
      intro (t4 : List Int)
      conv => whnf
      repeat (first
        | (refine And.intro ?_ ?_; (focus (first | omega | decide | exact Int.natCast_nonneg _ | ((repeat' refine And.intro ?_ ?_) <;> first | omega | exact Int.natCast_nonneg _ | (simp only [i64max]; omega) | (simp only [u8max]; omega) | (simp only [i64max, u8max, u16max, u32max, u64max]; omega) | (simp [mulSz, Cont.len, bne]; done) | (simp [mulSz, Cont.len, bne]; omega)))); conv => whnf)
        | (refine tst_in ?_ ?_; (focus (intro h_; exfalso; first | omega | ((try simp only [decide_eq_true_eq, decide_eq_false_iff_not] at h_); omega) | (simp [mulSz, Cont.len, bne] at h_; done) | (simp [mulSz, Cont.len, bne] at h_; omega))); intro _; conv => whnf)
        | (refine tst_in ?_ ?_; rotate_left; (focus (intro h_; exfalso; first | omega | ((try simp only [decide_eq_true_eq, decide_eq_false_iff_not] at h_); omega) | (simp [mulSz, Cont.len, bne] at h_; done) | (simp [mulSz, Cont.len, bne] at h_; omega))); intro _; conv => whnf))
      refine ⟨[0, 1, 2, 5], ((k + 1, tl, t4) : Nat × List Int × List Int), ?_, (by show k + 1 ≤ m; omega), (by show m - (k + 1) < m - k; omega)⟩
      show stLe _ _ (sA A m N (k + 1) tl t4) _
      conv => whnf
      repeat' (first | exact True.intro | rfl | refine And.intro ?_ ?_)
      all_goals (conv => whnf)
      repeat' (first | exact True.intro | rfl | refine And.intro ?_ ?_)
      all_goals (try omega)
      · skip
        show tab (xq (m4 A) N) (k + 1) ++ t4 = List.take k (List.drop 0 (tab (xq (m4 A) N) k ++ t3)) ++ List.take 1 (List.drop 0 [xq (m4 A) N k]) ++ t4
        rw [List.drop_zero, List.take_append_of_le_length (by rw [tab_len]; omega), List.take_of_length_le (by rw [tab_len]; omega), ← tab_snoc]; rfl
    · skip
      have hge : k = m := by simp at hge; omega
      subst hge
      conv => whnf
      repeat (first
        | (refine And.intro ?_ ?_; (focus (first | omega | decide | exact Int.natCast_nonneg _ | ((repeat' refine And.intro ?_ ?_) <;> first | omega | exact Int.natCast_nonneg _ | (simp only [i64max]; omega) | (simp only [u8max]; omega) | (simp only [i64max, u8max, u16max, u32max, u64max]; omega) | (simp [mulSz, Cont.len, bne]; done) | (simp [mulSz, Cont.len, bne]; omega)))); conv => whnf)
        | (refine tst_in ?_ ?_; (focus (intro h_; exfalso; first | omega | ((try simp only [decide_eq_true_eq, decide_eq_false_iff_not] at h_); omega) | (simp [mulSz, Cont.len, bne] at h_; done) | (simp [mulSz, Cont.len, bne] at h_; omega))); intro _; conv => whnf)
        | (refine tst_in ?_ ?_; rotate_left; (focus (intro h_; exfalso; first | omega | ((try simp only [decide_eq_true_eq, decide_eq_false_iff_not] at h_); omega) | (simp [mulSz, Cont.len, bne] at h_; done) | (simp [mulSz, Cont.len, bne] at h_; omega))); intro _; conv => whnf))
      refine ⟨_, [3], OUa t3, ?_⟩
      conv => whnf
      refine ⟨?_, ?_, ?_⟩
      · conv => whnf
        repeat' (first | exact True.intro | rfl | refine And.intro ?_ ?_ | omega)
        all_goals (conv => whnf)
        all_goals (try (first | rfl | omega | (simp; done)))
      · conv => whnf
        repeat' (first | exact True.intro | rfl | refine And.intro ?_ ?_ | omega)
        all_goals (conv => whnf)
        all_goals (try (first | rfl | omega | (simp; done)))
      conv => whnf
      refine ⟨?_, True.intro⟩
      intro _ _
      conv => whnf
      conv => whnf
      repeat (first
        | (refine And.intro ?_ ?_; (focus (first | omega | decide | exact Int.natCast_nonneg _ | ((repeat' refine And.intro ?_ ?_) <;> first | omega | exact Int.natCast_nonneg _ | (simp only [i64max]; omega) | (simp only [u8max]; omega) | (simp only [i64max, u8max, u16max, u32max, u64max]; omega) | (simp [mulSz, Cont.len, bne]; done) | (simp [mulSz, Cont.len, bne]; omega)))); conv => whnf)
        | (refine tst_in ?_ ?_; (focus (intro h_; exfalso; first | omega | ((try simp only [decide_eq_true_eq, decide_eq_false_iff_not] at h_); omega) | (simp [mulSz, Cont.len, bne] at h_; done) | (simp [mulSz, Cont.len, bne] at h_; omega))); intro _; conv => whnf)
        | (refine tst_in ?_ ?_; rotate_left; (focus (intro h_; exfalso; first | omega | ((try simp only [decide_eq_true_eq, decide_eq_false_iff_not] at h_); omega) | (simp [mulSz, Cont.len, bne] at h_; done) | (simp [mulSz, Cont.len, bne] at h_; omega))); intro _; conv => whnf))
      refine ⟨_, [4], INo, ?_⟩
      conv => whnf
      refine ⟨?_, ?_, ?_⟩
      · conv => whnf
        repeat' (first | exact True.intro | rfl | refine And.intro ?_ ?_ | omega)
        all_goals (conv => whnf)
        all_goals (try (first | rfl | omega | (simp; done)))
      · conv => whnf
        repeat' (first | exact True.intro | rfl | refine And.intro ?_ ?_ | omega)
        all_goals (conv => whnf)
        all_goals (try (first | rfl | omega | (simp; done)))
      conv => whnf
      refine ⟨?_, True.intro⟩
      intro _ _
      conv => whnf
      conv => whnf
      repeat (first
        | (refine And.intro ?_ ?_; (focus (first | omega | decide | exact Int.natCast_nonneg _ | ((repeat' refine And.intro ?_ ?_) <;> first | omega | exact Int.natCast_nonneg _ | (simp only [i64max]; omega) | (simp only [u8max]; omega) | (simp only [i64max, u8max, u16max, u32max, u64max]; omega) | (simp [mulSz, Cont.len, bne]; done) | (simp [mulSz, Cont.len, bne]; omega)))); conv => whnf)
        | (refine tst_in ?_ ?_; (focus (intro h_; exfalso; first | omega | ((try simp only [decide_eq_true_eq, decide_eq_false_iff_not] at h_); omega) | (simp [mulSz, Cont.len, bne] at h_; done) | (simp [mulSz, Cont.len, bne] at h_; omega))); intro _; conv => whnf)
        | (refine tst_in ?_ ?_; rotate_left; (focus (intro h_; exfalso; first | omega | ((try simp only [decide_eq_true_eq, decide_eq_false_iff_not] at h_); omega) | (simp [mulSz, Cont.len, bne] at h_; done) | (simp [mulSz, Cont.len, bne] at h_; omega))); intro _; conv => whnf))
      refine ⟨_, [5, 3], Q3 t3, ?_⟩
      conv => whnf
      refine ⟨?_, ?_, ?_⟩
      · conv => whnf
        repeat' (first | exact True.intro | rfl | refine And.intro ?_ ?_)
        all_goals (conv => whnf)
        repeat' (first | exact True.intro | rfl | refine And.intro ?_ ?_)
        all_goals (try (first | rfl | omega | (simp; done) | (simp; omega)))
      · conv => whnf
        repeat' (first | exact True.intro | rfl | refine And.intro ?_ ?_)
        all_goals (conv => whnf)
        repeat' (first | exact True.intro | rfl | refine And.intro ?_ ?_)
        all_goals (try (first | rfl | omega | (simp; done) | (simp; omega)))
      conv => whnf
      conv => whnf
      repeat (first
        | (refine And.intro ?_ ?_; (focus (first | omega | decide | exact Int.natCast_nonneg _ | ((repeat' refine And.intro ?_ ?_) <;> first | omega | exact Int.natCast_nonneg _ | (simp only [i64max]; omega) | (simp only [u8max]; omega) | (simp only [i64max, u8max, u16max, u32max, u64max]; omega) | (simp [mulSz, Cont.len, bne]; done) | (simp [mulSz, Cont.len, bne]; omega)))); conv => whnf)
        | (refine tst_in ?_ ?_; (focus (intro h_; exfalso; first | omega | ((try simp only [decide_eq_true_eq, decide_eq_false_iff_not] at h_); omega) | (simp [mulSz, Cont.len, bne] at h_; done) | (simp [mulSz, Cont.len, bne] at h_; omega))); intro _; conv => whnf)
        | (refine tst_in ?_ ?_; rotate_left; (focus (intro h_; exfalso; first | omega | ((try simp only [decide_eq_true_eq, decide_eq_false_iff_not] at h_); omega) | (simp [mulSz, Cont.len, bne] at h_; done) | (simp [mulSz, Cont.len, bne] at h_; omega))); intro _; conv => whnf))
      refine ⟨⟨[0, 1, 4], ((0, tl) : Nat × List Int), ?_, Nat.zero_le _⟩, ?_⟩
      · conv => whnf
        repeat' (first | exact True.intro | rfl | refine And.intro ?_ ?_)
        all_goals (conv => whnf)
        repeat' (first | exact True.intro | rfl | refine And.intro ?_ ?_)
        all_goals (try (first | omega | exact True.intro | rfl | assumption | (change LE.le (α := Nat) _ _; first | omega | (simp only []; omega)) | (simp only []; done) | (simp only []; omega) | (simp; done) | (simp; omega)))
      · rintro ⟨j, tl⟩ hj
        have hj : j ≤ k := hj
        show forceSt (sB A k N j tl) _
        have hlen2 := app_len (m4 A) k tl
        have hlen3 := tab_len (outq (xq (m4 A) N)) k
        conv => whnf
        refine tst_in (fun hlt => ?_) (fun hge => ?_)
        · skip
          have hlt : j < k := by simp at hlt; omega
          have h4 := m4_in A j
          unfold q4 at h4
          have hX0 : 0 + ((j : Int)).toNat = j := by omega
          rcases Nat.eq_zero_or_pos j with h0 | hpos
          · skip
            subst h0
            have g1 : (tab (outq (xq (m4 A) N)) k).getD (0 + Int.toNat 0) 0 = (m4 A 0 + N % 4) % 4 := by rw [show 0 + Int.toNat 0 = 0 from rfl, tab_get _ _ hlt, outx_0]
            have g2 : (tab (m4 A) k ++ tl).getD (0 + Int.toNat 0) 0 = m4 A 0 := by rw [show 0 + Int.toNat 0 = 0 from rfl, tab_app _ _ tl hlt]
            have hw : IntKind.u8.wrap (m4 A 0 + N % 4) = m4 A 0 + N % 4 := by rw [u8wrap]; omega
            conv => whnf
            repeat (first
              | (refine And.intro ?_ ?_; (focus (first | omega | decide | exact Int.natCast_nonneg _ | ((repeat' refine And.intro ?_ ?_) <;> first | omega | exact Int.natCast_nonneg _ | (simp only [i64max]; omega) | (simp only [u8max]; omega) | (simp only [i64max, u8max, u16max, u32max, u64max]; omega) | (simp [mulSz, Cont.len, bne, hlen2, hlen3]; done) | (simp [mulSz, Cont.len, bne, hlen2, hlen3]; omega)))); conv => whnf)
              | (refine tst_in ?_ ?_; (focus (intro h_; exfalso; first | omega | ((try simp only [decide_eq_true_eq, decide_eq_false_iff_not] at h_); omega) | (simp [mulSz, Cont.len, bne, hlen2, hlen3] at h_; done) | (simp [mulSz, Cont.len, bne, hlen2, hlen3] at h_; omega))); intro _; conv => whnf)
              | (refine tst_in ?_ ?_; rotate_left; (focus (intro h_; exfalso; first | omega | ((try simp only [decide_eq_true_eq, decide_eq_false_iff_not] at h_); omega) | (simp [mulSz, Cont.len, bne, hlen2, hlen3] at h_; done) | (simp [mulSz, Cont.len, bne, hlen2, hlen3] at h_; omega))); intro _; conv => whnf))
            rw [g1, g2, hw]
            conv => whnf
            repeat (first
              | (refine And.intro ?_ ?_; (focus (first | omega | decide | exact Int.natCast_nonneg _ | ((repeat' refine And.intro ?_ ?_) <;> first | omega | exact Int.natCast_nonneg _ | (simp only [i64max]; omega) | (simp only [u8max]; omega) | (simp only [i64max, u8max, u16max, u32max, u64max]; omega) | (simp [mulSz, Cont.len, bne]; done) | (simp [mulSz, Cont.len, bne]; omega)))); conv => whnf)
              | (refine tst_in ?_ ?_; (focus (intro h_; exfalso; first | omega | ((try simp only [decide_eq_true_eq, decide_eq_false_iff_not] at h_); omega) | (simp [mulSz, Cont.len, bne] at h_; done) | (simp [mulSz, Cont.len, bne] at h_; omega))); intro _; conv => whnf)
              | (refine tst_in ?_ ?_; rotate_left; (focus (intro h_; exfalso; first | omega | ((try simp only [decide_eq_true_eq, decide_eq_false_iff_not] at h_); omega) | (simp [mulSz, Cont.len, bne] at h_; done) | (simp [mulSz, Cont.len, bne] at h_; omega))); intro _; conv => whnf))
            refine ⟨[0, 1, 2], ((0 + 1, tl) : Nat × List Int), ?_, (by show 0 + 1 ≤ k; omega), (by show k - (0 + 1) < k - 0; omega)⟩
            conv => whnf
            repeat' (first | exact True.intro | rfl | refine And.intro ?_ ?_)
            all_goals (conv => whnf)
            repeat' (first | exact True.intro | rfl | refine And.intro ?_ ?_)
            all_goals (try (first | omega | exact True.intro | rfl | assumption | (change LE.le (α := Nat) _ _; first | omega | (simp only []; omega)) | (simp only []; done) | (simp only []; omega) | (simp; done) | (simp; omega)))
          · skip
            conv => whnf
            repeat (first
              | (refine And.intro ?_ ?_; (focus (first | omega | decide | exact Int.natCast_nonneg _ | ((repeat' refine And.intro ?_ ?_) <;> first | omega | exact Int.natCast_nonneg _ | (simp only [i64max]; omega) | (simp only [u8max]; omega) | (simp only [i64max, u8max, u16max, u32max, u64max]; omega) | (simp [mulSz, Cont.len, bne, hlen2, hlen3]; done) | (simp [mulSz, Cont.len, bne, hlen2, hlen3]; omega)))); conv => whnf)
              | (refine tst_in ?_ ?_; (focus (intro h_; exfalso; first | omega | ((try simp only [decide_eq_true_eq, decide_eq_false_iff_not] at h_); omega) | (simp [mulSz, Cont.len, bne, hlen2, hlen3] at h_; done) | (simp [mulSz, Cont.len, bne, hlen2, hlen3] at h_; omega))); intro _; conv => whnf)
              | (refine tst_in ?_ ?_; rotate_left; (focus (intro h_; exfalso; first | omega | ((try simp only [decide_eq_true_eq, decide_eq_false_iff_not] at h_); omega) | (simp [mulSz, Cont.len, bne, hlen2, hlen3] at h_; done) | (simp [mulSz, Cont.len, bne, hlen2, hlen3] at h_; omega))); intro _; conv => whnf))
            rw [hX0, tab_get _ _ hlt, tab_app _ _ tl hlt, outx_s (m4_in A j) hpos]
            conv => whnf
            repeat (first
              | (refine And.intro ?_ ?_; (focus (first | omega | decide | exact Int.natCast_nonneg _ | ((repeat' refine And.intro ?_ ?_) <;> first | omega | exact Int.natCast_nonneg _ | (simp only [i64max]; omega) | (simp only [u8max]; omega) | (simp only [i64max, u8max, u16max, u32max, u64max]; omega) | (simp [mulSz, Cont.len, bne]; done) | (simp [mulSz, Cont.len, bne]; omega)))); conv => whnf)
              | (refine tst_in ?_ ?_; (focus (intro h_; exfalso; first | omega | ((try simp only [decide_eq_true_eq, decide_eq_false_iff_not] at h_); omega) | (simp [mulSz, Cont.len, bne] at h_; done) | (simp [mulSz, Cont.len, bne] at h_; omega))); intro _; conv => whnf)
              | (refine tst_in ?_ ?_; rotate_left; (focus (intro h_; exfalso; first | omega | ((try simp only [decide_eq_true_eq, decide_eq_false_iff_not] at h_); omega) | (simp [mulSz, Cont.len, bne] at h_; done) | (simp [mulSz, Cont.len, bne] at h_; omega))); intro _; conv => whnf))
            refine ⟨[0, 1, 2], ((j + 1, tl) : Nat × List Int), ?_, (by show j + 1 ≤ k; omega), (by show k - (j + 1) < k - j; omega)⟩
            conv => whnf
            repeat' (first | exact True.intro | rfl | refine And.intro ?_ ?_)
            all_goals (conv => whnf)
            repeat' (first | exact True.intro | rfl | refine And.intro ?_ ?_)
            all_goals (try (first | omega | exact True.intro | rfl | assumption | (change LE.le (α := Nat) _ _; first | omega | (simp only []; omega)) | (simp only []; done) | (simp only []; omega) | (simp; done) | (simp; omega)))
        · skip
          have hge : j = k := by simp at hge; omega
          conv => whnf
          repeat (first
            | (refine And.intro ?_ ?_; (focus (first | omega | decide | exact Int.natCast_nonneg _ | ((repeat' refine And.intro ?_ ?_) <;> first | omega | exact Int.natCast_nonneg _ | (simp only [i64max]; omega) | (simp only [u8max]; omega) | (simp only [i64max, u8max, u16max, u32max, u64max]; omega) | (simp [mulSz, Cont.len, bne]; done) | (simp [mulSz, Cont.len, bne]; omega)))); conv => whnf)
            | (refine tst_in ?_ ?_; (focus (intro h_; exfalso; first | omega | ((try simp only [decide_eq_true_eq, decide_eq_false_iff_not] at h_); omega) | (simp [mulSz, Cont.len, bne] at h_; done) | (simp [mulSz, Cont.len, bne] at h_; omega))); intro _; conv => whnf)
            | (refine tst_in ?_ ?_; rotate_left; (focus (intro h_; exfalso; first | omega | ((try simp only [decide_eq_true_eq, decide_eq_false_iff_not] at h_); omega) | (simp [mulSz, Cont.len, bne] at h_; done) | (simp [mulSz, Cont.len, bne] at h_; omega))); intro _; conv => whnf))
          refine ⟨⟨[0], (0 : Nat), ?_, Nat.zero_le _⟩, ?_⟩
          · conv => whnf
            repeat' (first | exact True.intro | rfl | refine And.intro ?_ ?_)
            all_goals (conv => whnf)
            repeat' (first | exact True.intro | rfl | refine And.intro ?_ ?_)
            all_goals (try (first | omega | exact True.intro | rfl | assumption | (change LE.le (α := Nat) _ _; first | omega | (simp only []; omega)) | (simp only []; done) | (simp only []; omega) | (simp; done) | (simp; omega)))
          · intro (i : Nat) (hi : i ≤ 4)
            show forceSt (sC A i) _
            conv => whnf
            refine tst_in (fun hlt => ?_) (fun hge => ?_)
            · skip
              have hlt : i < 4 := by simp at hlt; omega
              rcases (show i = 0 ∨ i = 1 ∨ i = 2 ∨ i = 3 by omega) with e | e | e | e <;> subst e
              · skip
                have hq : ∀ x, x < 2 → ([0, 1] : List Int).getD (0 + x) 0 = ls [0, 1] x ∧ q4 (ls [0, 1] x) := fun x h => by
                  rcases (show x = 0 ∨ x = 1 by omega) with e | e <;> subst e <;> exact ⟨rfl, by unfold q4 ls; decide⟩
                have BI := Bits_f [0, 1] (ls [0, 1]) 0 2 2 (by decide) (by decide) hq
                conv => whnf
                repeat (first
                  | (refine And.intro ?_ ?_; (focus (first | omega | decide | exact Int.natCast_nonneg _ | ((repeat' refine And.intro ?_ ?_) <;> first | omega | exact Int.natCast_nonneg _ | (simp only [i64max]; omega) | (simp only [u8max]; omega) | (simp only [i64max, u8max, u16max, u32max, u64max]; omega) | (simp [mulSz, Cont.len, bne]; done) | (simp [mulSz, Cont.len, bne]; omega)))); conv => whnf)
                  | (refine tst_in ?_ ?_; (focus (intro h_; exfalso; first | omega | ((try simp only [decide_eq_true_eq, decide_eq_false_iff_not] at h_); omega) | (simp [mulSz, Cont.len, bne] at h_; done) | (simp [mulSz, Cont.len, bne] at h_; omega))); intro _; conv => whnf)
                  | (refine tst_in ?_ ?_; rotate_left; (focus (intro h_; exfalso; first | omega | ((try simp only [decide_eq_true_eq, decide_eq_false_iff_not] at h_); omega) | (simp [mulSz, Cont.len, bne] at h_; done) | (simp [mulSz, Cont.len, bne] at h_; omega))); intro _; conv => whnf))
                refine ⟨_, [1], BI, ?_⟩
                conv => whnf
                refine ⟨?_, ?_, ?_⟩
                · conv => whnf
                  repeat' (first | exact True.intro | rfl | refine And.intro ?_ ?_)
                  all_goals (conv => whnf)
                  repeat' (first | exact True.intro | rfl | refine And.intro ?_ ?_)
                  all_goals (try (first | rfl | omega | (simp; done) | (simp; omega)))
                · conv => whnf
                  repeat' (first | exact True.intro | rfl | refine And.intro ?_ ?_)
                  all_goals (conv => whnf)
                  repeat' (first | exact True.intro | rfl | refine And.intro ?_ ?_)
                  all_goals (try (first | rfl | omega | (simp; done) | (simp; omega)))
                conv => whnf
                refine ⟨?_, True.intro⟩
                rintro (tb : List Bool) -
                conv => whnf
                conv => whnf
                repeat (first
                  | (refine And.intro ?_ ?_; (focus (first | omega | decide | exact Int.natCast_nonneg _ | ((repeat' refine And.intro ?_ ?_) <;> first | omega | exact Int.natCast_nonneg _ | (simp only [i64max]; omega) | (simp only [u8max]; omega) | (simp only [i64max, u8max, u16max, u32max, u64max]; omega) | (simp [mulSz, Cont.len, bne]; done) | (simp [mulSz, Cont.len, bne]; omega)))); conv => whnf)
                  | (refine tst_in ?_ ?_; (focus (intro h_; exfalso; first | omega | ((try simp only [decide_eq_true_eq, decide_eq_false_iff_not] at h_); omega) | (simp [mulSz, Cont.len, bne] at h_; done) | (simp [mulSz, Cont.len, bne] at h_; omega))); intro _; conv => whnf)
                  | (refine tst_in ?_ ?_; rotate_left; (focus (intro h_; exfalso; first | omega | ((try simp only [decide_eq_true_eq, decide_eq_false_iff_not] at h_); omega) | (simp [mulSz, Cont.len, bne] at h_; done) | (simp [mulSz, Cont.len, bne] at h_; omega))); intro _; conv => whnf))
                rw [show tab (bitq (ls [0, 1])) (2 * 2) ++ tb = false :: false :: false :: true :: tb from rfl]
                conv => whnf
                repeat (first
                  | (refine And.intro ?_ ?_; (focus (first | omega | decide | exact Int.natCast_nonneg _ | ((repeat' refine And.intro ?_ ?_) <;> first | omega | exact Int.natCast_nonneg _ | (simp only [i64max]; omega) | (simp only [u8max]; omega) | (simp only [i64max, u8max, u16max, u32max, u64max]; omega) | (simp [mulSz, Cont.len, bne]; done) | (simp [mulSz, Cont.len, bne]; omega)))); conv => whnf)
                  | (refine tst_in ?_ ?_; (focus (intro h_; exfalso; first | omega | ((try simp only [decide_eq_true_eq, decide_eq_false_iff_not] at h_); omega) | (simp [mulSz, Cont.len, bne] at h_; done) | (simp [mulSz, Cont.len, bne] at h_; omega))); intro _; conv => whnf)
                  | (refine tst_in ?_ ?_; rotate_left; (focus (intro h_; exfalso; first | omega | ((try simp only [decide_eq_true_eq, decide_eq_false_iff_not] at h_); omega) | (simp [mulSz, Cont.len, bne] at h_; done) | (simp [mulSz, Cont.len, bne] at h_; omega))); intro _; conv => whnf))
                refine ⟨[0], ((0 + 1 : Nat) : Nat), ?_, (by show 0 + 1 ≤ 4; omega), (by show 4 - (0 + 1) < 4 - 0; omega)⟩
                conv => whnf
                repeat' (first | exact True.intro | rfl | refine And.intro ?_ ?_)
                all_goals (conv => whnf)
                repeat' (first | exact True.intro | rfl | refine And.intro ?_ ?_)
                all_goals (try (first | omega | exact True.intro | rfl | assumption | (change LE.le (α := Nat) _ _; first | omega | (simp only []; omega)) | (simp only []; done) | (simp only []; omega) | (simp; done) | (simp; omega)))
              · skip
                have hq : ∀ x, x < 2 → ([1, 2] : List Int).getD (0 + x) 0 = ls [1, 2] x ∧ q4 (ls [1, 2] x) := fun x h => by
                  rcases (show x = 0 ∨ x = 1 by omega) with e | e <;> subst e <;> exact ⟨rfl, by unfold q4 ls; decide⟩
                have BI := Bits_f [1, 2] (ls [1, 2]) 0 2 2 (by decide) (by decide) hq
                conv => whnf
                repeat (first
                  | (refine And.intro ?_ ?_; (focus (first | omega | decide | exact Int.natCast_nonneg _ | ((repeat' refine And.intro ?_ ?_) <;> first | omega | exact Int.natCast_nonneg _ | (simp only [i64max]; omega) | (simp only [u8max]; omega) | (simp only [i64max, u8max, u16max, u32max, u64max]; omega) | (simp [mulSz, Cont.len, bne]; done) | (simp [mulSz, Cont.len, bne]; omega)))); conv => whnf)
                  | (refine tst_in ?_ ?_; (focus (intro h_; exfalso; first | omega | ((try simp only [decide_eq_true_eq, decide_eq_false_iff_not] at h_); omega) | (simp [mulSz, Cont.len, bne] at h_; done) | (simp [mulSz, Cont.len, bne] at h_; omega))); intro _; conv => whnf)
                  | (refine tst_in ?_ ?_; rotate_left; (focus (intro h_; exfalso; first | omega | ((try simp only [decide_eq_true_eq, decide_eq_false_iff_not] at h_); omega) | (simp [mulSz, Cont.len, bne] at h_; done) | (simp [mulSz, Cont.len, bne] at h_; omega))); intro _; conv => whnf))
                refine ⟨_, [1], BI, ?_⟩
                conv => whnf
                refine ⟨?_, ?_, ?_⟩
                · conv => whnf
                  repeat' (first | exact True.intro | rfl | refine And.intro ?_ ?_)
                  all_goals (conv => whnf)
                  repeat' (first | exact True.intro | rfl | refine And.intro ?_ ?_)
                  all_goals (try (first | rfl | omega | (simp; done) | (simp; omega)))
                · conv => whnf
                  repeat' (first | exact True.intro | rfl | refine And.intro ?_ ?_)
                  all_goals (conv => whnf)
                  repeat' (first | exact True.intro | rfl | refine And.intro ?_ ?_)
                  all_goals (try (first | rfl | omega | (simp; done) | (simp; omega)))
                conv => whnf
                refine ⟨?_, True.intro⟩
                rintro (tb : List Bool) -
                conv => whnf
                conv => whnf
                repeat (first
                  | (refine And.intro ?_ ?_; (focus (first | omega | decide | exact Int.natCast_nonneg _ | ((repeat' refine And.intro ?_ ?_) <;> first | omega | exact Int.natCast_nonneg _ | (simp only [i64max]; omega) | (simp only [u8max]; omega) | (simp only [i64max, u8max, u16max, u32max, u64max]; omega) | (simp [mulSz, Cont.len, bne]; done) | (simp [mulSz, Cont.len, bne]; omega)))); conv => whnf)
                  | (refine tst_in ?_ ?_; (focus (intro h_; exfalso; first | omega | ((try simp only [decide_eq_true_eq, decide_eq_false_iff_not] at h_); omega) | (simp [mulSz, Cont.len, bne] at h_; done) | (simp [mulSz, Cont.len, bne] at h_; omega))); intro _; conv => whnf)
                  | (refine tst_in ?_ ?_; rotate_left; (focus (intro h_; exfalso; first | omega | ((try simp only [decide_eq_true_eq, decide_eq_false_iff_not] at h_); omega) | (simp [mulSz, Cont.len, bne] at h_; done) | (simp [mulSz, Cont.len, bne] at h_; omega))); intro _; conv => whnf))
                rw [show tab (bitq (ls [1, 2])) (2 * 2) ++ tb = false :: true :: true :: true :: tb from rfl]
                conv => whnf
                repeat (first
                  | (refine And.intro ?_ ?_; (focus (first | omega | decide | exact Int.natCast_nonneg _ | ((repeat' refine And.intro ?_ ?_) <;> first | omega | exact Int.natCast_nonneg _ | (simp only [i64max]; omega) | (simp only [u8max]; omega) | (simp only [i64max, u8max, u16max, u32max, u64max]; omega) | (simp [mulSz, Cont.len, bne]; done) | (simp [mulSz, Cont.len, bne]; omega)))); conv => whnf)
                  | (refine tst_in ?_ ?_; (focus (intro h_; exfalso; first | omega | ((try simp only [decide_eq_true_eq, decide_eq_false_iff_not] at h_); omega) | (simp [mulSz, Cont.len, bne] at h_; done) | (simp [mulSz, Cont.len, bne] at h_; omega))); intro _; conv => whnf)
                  | (refine tst_in ?_ ?_; rotate_left; (focus (intro h_; exfalso; first | omega | ((try simp only [decide_eq_true_eq, decide_eq_false_iff_not] at h_); omega) | (simp [mulSz, Cont.len, bne] at h_; done) | (simp [mulSz, Cont.len, bne] at h_; omega))); intro _; conv => whnf))
                refine ⟨[0], ((1 + 1 : Nat) : Nat), ?_, (by show 1 + 1 ≤ 4; omega), (by show 4 - (1 + 1) < 4 - 1; omega)⟩
                conv => whnf
                repeat' (first | exact True.intro | rfl | refine And.intro ?_ ?_)
                all_goals (conv => whnf)
                repeat' (first | exact True.intro | rfl | refine And.intro ?_ ?_)
                all_goals (try (first | omega | exact True.intro | rfl | assumption | (change LE.le (α := Nat) _ _; first | omega | (simp only []; omega)) | (simp only []; done) | (simp only []; omega) | (simp; done) | (simp; omega)))
              · skip
                have hq : ∀ x, x < 2 → ([2, 3] : List Int).getD (0 + x) 0 = ls [2, 3] x ∧ q4 (ls [2, 3] x) := fun x h => by
                  rcases (show x = 0 ∨ x = 1 by omega) with e | e <;> subst e <;> exact ⟨rfl, by unfold q4 ls; decide⟩
                have BI := Bits_f [2, 3] (ls [2, 3]) 0 2 2 (by decide) (by decide) hq
                conv => whnf
                repeat (first
                  | (refine And.intro ?_ ?_; (focus (first | omega | decide | exact Int.natCast_nonneg _ | ((repeat' refine And.intro ?_ ?_) <;> first | omega | exact Int.natCast_nonneg _ | (simp only [i64max]; omega) | (simp only [u8max]; omega) | (simp only [i64max, u8max, u16max, u32max, u64max]; omega) | (simp [mulSz, Cont.len, bne]; done) | (simp [mulSz, Cont.len, bne]; omega)))); conv => whnf)
                  | (refine tst_in ?_ ?_; (focus (intro h_; exfalso; first | omega | ((try simp only [decide_eq_true_eq, decide_eq_false_iff_not] at h_); omega) | (simp [mulSz, Cont.len, bne] at h_; done) | (simp [mulSz, Cont.len, bne] at h_; omega))); intro _; conv => whnf)
                  | (refine tst_in ?_ ?_; rotate_left; (focus (intro h_; exfalso; first | omega | ((try simp only [decide_eq_true_eq, decide_eq_false_iff_not] at h_); omega) | (simp [mulSz, Cont.len, bne] at h_; done) | (simp [mulSz, Cont.len, bne] at h_; omega))); intro _; conv => whnf))
                refine ⟨_, [1], BI, ?_⟩
                conv => whnf
                refine ⟨?_, ?_, ?_⟩
                · conv => whnf
                  repeat' (first | exact True.intro | rfl | refine And.intro ?_ ?_)
                  all_goals (conv => whnf)
                  repeat' (first | exact True.intro | rfl | refine And.intro ?_ ?_)
                  all_goals (try (first | rfl | omega | (simp; done) | (simp; omega)))
                · conv => whnf
                  repeat' (first | exact True.intro | rfl | refine And.intro ?_ ?_)
                  all_goals (conv => whnf)
                  repeat' (first | exact True.intro | rfl | refine And.intro ?_ ?_)
                  all_goals (try (first | rfl | omega | (simp; done) | (simp; omega)))
                conv => whnf
                refine ⟨?_, True.intro⟩
                rintro (tb : List Bool) -
                conv => whnf
                conv => whnf
                repeat (first
                  | (refine And.intro ?_ ?_; (focus (first | omega | decide | exact Int.natCast_nonneg _ | ((repeat' refine And.intro ?_ ?_) <;> first | omega | exact Int.natCast_nonneg _ | (simp only [i64max]; omega) | (simp only [u8max]; omega) | (simp only [i64max, u8max, u16max, u32max, u64max]; omega) | (simp [mulSz, Cont.len, bne]; done) | (simp [mulSz, Cont.len, bne]; omega)))); conv => whnf)
                  | (refine tst_in ?_ ?_; (focus (intro h_; exfalso; first | omega | ((try simp only [decide_eq_true_eq, decide_eq_false_iff_not] at h_); omega) | (simp [mulSz, Cont.len, bne] at h_; done) | (simp [mulSz, Cont.len, bne] at h_; omega))); intro _; conv => whnf)
                  | (refine tst_in ?_ ?_; rotate_left; (focus (intro h_; exfalso; first | omega | ((try simp only [decide_eq_true_eq, decide_eq_false_iff_not] at h_); omega) | (simp [mulSz, Cont.len, bne] at h_; done) | (simp [mulSz, Cont.len, bne] at h_; omega))); intro _; conv => whnf))
                rw [show tab (bitq (ls [2, 3])) (2 * 2) ++ tb = true :: true :: true :: false :: tb from rfl]
                conv => whnf
                repeat (first
                  | (refine And.intro ?_ ?_; (focus (first | omega | decide | exact Int.natCast_nonneg _ | ((repeat' refine And.intro ?_ ?_) <;> first | omega | exact Int.natCast_nonneg _ | (simp only [i64max]; omega) | (simp only [u8max]; omega) | (simp only [i64max, u8max, u16max, u32max, u64max]; omega) | (simp [mulSz, Cont.len, bne]; done) | (simp [mulSz, Cont.len, bne]; omega)))); conv => whnf)
                  | (refine tst_in ?_ ?_; (focus (intro h_; exfalso; first | omega | ((try simp only [decide_eq_true_eq, decide_eq_false_iff_not] at h_); omega) | (simp [mulSz, Cont.len, bne] at h_; done) | (simp [mulSz, Cont.len, bne] at h_; omega))); intro _; conv => whnf)
                  | (refine tst_in ?_ ?_; rotate_left; (focus (intro h_; exfalso; first | omega | ((try simp only [decide_eq_true_eq, decide_eq_false_iff_not] at h_); omega) | (simp [mulSz, Cont.len, bne] at h_; done) | (simp [mulSz, Cont.len, bne] at h_; omega))); intro _; conv => whnf))
                refine ⟨[0], ((2 + 1 : Nat) : Nat), ?_, (by show 2 + 1 ≤ 4; omega), (by show 4 - (2 + 1) < 4 - 2; omega)⟩
                conv => whnf
                repeat' (first | exact True.intro | rfl | refine And.intro ?_ ?_)
                all_goals (conv => whnf)
                repeat' (first | exact True.intro | rfl | refine And.intro ?_ ?_)
                all_goals (try (first | omega | exact True.intro | rfl | assumption | (change LE.le (α := Nat) _ _; first | omega | (simp only []; omega)) | (simp only []; done) | (simp only []; omega) | (simp; done) | (simp; omega)))
              · skip
                have hq : ∀ x, x < 2 → ([3, 0] : List Int).getD (0 + x) 0 = ls [3, 0] x ∧ q4 (ls [3, 0] x) := fun x h => by
                  rcases (show x = 0 ∨ x = 1 by omega) with e | e <;> subst e <;> exact ⟨rfl, by unfold q4 ls; decide⟩
                have BI := Bits_f [3, 0] (ls [3, 0]) 0 2 2 (by decide) (by decide) hq
                conv => whnf
                repeat (first
                  | (refine And.intro ?_ ?_; (focus (first | omega | decide | exact Int.natCast_nonneg _ | ((repeat' refine And.intro ?_ ?_) <;> first | omega | exact Int.natCast_nonneg _ | (simp only [i64max]; omega) | (simp only [u8max]; omega) | (simp only [i64max, u8max, u16max, u32max, u64max]; omega) | (simp [mulSz, Cont.len, bne]; done) | (simp [mulSz, Cont.len, bne]; omega)))); conv => whnf)
                  | (refine tst_in ?_ ?_; (focus (intro h_; exfalso; first | omega | ((try simp only [decide_eq_true_eq, decide_eq_false_iff_not] at h_); omega) | (simp [mulSz, Cont.len, bne] at h_; done) | (simp [mulSz, Cont.len, bne] at h_; omega))); intro _; conv => whnf)
                  | (refine tst_in ?_ ?_; rotate_left; (focus (intro h_; exfalso; first | omega | ((try simp only [decide_eq_true_eq, decide_eq_false_iff_not] at h_); omega) | (simp [mulSz, Cont.len, bne] at h_; done) | (simp [mulSz, Cont.len, bne] at h_; omega))); intro _; conv => whnf))
                refine ⟨_, [1], BI, ?_⟩
                conv => whnf
                refine ⟨?_, ?_, ?_⟩
                · conv => whnf
                  repeat' (first | exact True.intro | rfl | refine And.intro ?_ ?_)
                  all_goals (conv => whnf)
                  repeat' (first | exact True.intro | rfl | refine And.intro ?_ ?_)
                  all_goals (try (first | rfl | omega | (simp; done) | (simp; omega)))
                · conv => whnf
                  repeat' (first | exact True.intro | rfl | refine And.intro ?_ ?_)
                  all_goals (conv => whnf)
                  repeat' (first | exact True.intro | rfl | refine And.intro ?_ ?_)
                  all_goals (try (first | rfl | omega | (simp; done) | (simp; omega)))
                conv => whnf
                refine ⟨?_, True.intro⟩
                rintro (tb : List Bool) -
                conv => whnf
                conv => whnf
                repeat (first
                  | (refine And.intro ?_ ?_; (focus (first | omega | decide | exact Int.natCast_nonneg _ | ((repeat' refine And.intro ?_ ?_) <;> first | omega | exact Int.natCast_nonneg _ | (simp only [i64max]; omega) | (simp only [u8max]; omega) | (simp only [i64max, u8max, u16max, u32max, u64max]; omega) | (simp [mulSz, Cont.len, bne]; done) | (simp [mulSz, Cont.len, bne]; omega)))); conv => whnf)
                  | (refine tst_in ?_ ?_; (focus (intro h_; exfalso; first | omega | ((try simp only [decide_eq_true_eq, decide_eq_false_iff_not] at h_); omega) | (simp [mulSz, Cont.len, bne] at h_; done) | (simp [mulSz, Cont.len, bne] at h_; omega))); intro _; conv => whnf)
                  | (refine tst_in ?_ ?_; rotate_left; (focus (intro h_; exfalso; first | omega | ((try simp only [decide_eq_true_eq, decide_eq_false_iff_not] at h_); omega) | (simp [mulSz, Cont.len, bne] at h_; done) | (simp [mulSz, Cont.len, bne] at h_; omega))); intro _; conv => whnf))
                rw [show tab (bitq (ls [3, 0])) (2 * 2) ++ tb = true :: false :: false :: false :: tb from rfl]
                conv => whnf
                repeat (first
                  | (refine And.intro ?_ ?_; (focus (first | omega | decide | exact Int.natCast_nonneg _ | ((repeat' refine And.intro ?_ ?_) <;> first | omega | exact Int.natCast_nonneg _ | (simp only [i64max]; omega) | (simp only [u8max]; omega) | (simp only [i64max, u8max, u16max, u32max, u64max]; omega) | (simp [mulSz, Cont.len, bne]; done) | (simp [mulSz, Cont.len, bne]; omega)))); conv => whnf)
                  | (refine tst_in ?_ ?_; (focus (intro h_; exfalso; first | omega | ((try simp only [decide_eq_true_eq, decide_eq_false_iff_not] at h_); omega) | (simp [mulSz, Cont.len, bne] at h_; done) | (simp [mulSz, Cont.len, bne] at h_; omega))); intro _; conv => whnf)
                  | (refine tst_in ?_ ?_; rotate_left; (focus (intro h_; exfalso; first | omega | ((try simp only [decide_eq_true_eq, decide_eq_false_iff_not] at h_); omega) | (simp [mulSz, Cont.len, bne] at h_; done) | (simp [mulSz, Cont.len, bne] at h_; omega))); intro _; conv => whnf))
                refine ⟨[0], ((3 + 1 : Nat) : Nat), ?_, (by show 3 + 1 ≤ 4; omega), (by show 4 - (3 + 1) < 4 - 3; omega)⟩
                conv => whnf
                repeat' (first | exact True.intro | rfl | refine And.intro ?_ ?_)
                all_goals (conv => whnf)
                repeat' (first | exact True.intro | rfl | refine And.intro ?_ ?_)
                all_goals (try (first | omega | exact True.intro | rfl | assumption | (change LE.le (α := Nat) _ _; first | omega | (simp only []; omega)) | (simp only []; done) | (simp only []; omega) | (simp; done) | (simp; omega)))
            · skip
              have hge : i = 4 := by simp at hge; omega
              conv => whnf
              repeat (first
                | (refine And.intro ?_ ?_; (focus (first | omega | decide | exact Int.natCast_nonneg _ | ((repeat' refine And.intro ?_ ?_) <;> first | omega | exact Int.natCast_nonneg _ | (simp only [i64max]; omega) | (simp only [u8max]; omega) | (simp only [i64max, u8max, u16max, u32max, u64max]; omega) | (simp [mulSz, Cont.len, bne]; done) | (simp [mulSz, Cont.len, bne]; omega)))); conv => whnf)
                | (refine tst_in ?_ ?_; (focus (intro h_; exfalso; first | omega | ((try simp only [decide_eq_true_eq, decide_eq_false_iff_not] at h_); omega) | (simp [mulSz, Cont.len, bne] at h_; done) | (simp [mulSz, Cont.len, bne] at h_; omega))); intro _; conv => whnf)
                | (refine tst_in ?_ ?_; rotate_left; (focus (intro h_; exfalso; first | omega | ((try simp only [decide_eq_true_eq, decide_eq_false_iff_not] at h_); omega) | (simp [mulSz, Cont.len, bne] at h_; done) | (simp [mulSz, Cont.len, bne] at h_; omega))); intro _; conv => whnf))
              refine ⟨_, [], awake_f, ?_⟩
              conv => whnf
              refine ⟨?_, ?_, ?_⟩
              · conv => whnf
                repeat' (first | exact True.intro | rfl | refine And.intro ?_ ?_ | omega)
                all_goals (conv => whnf)
                all_goals (try (first | rfl | omega | (simp; done)))
              · conv => whnf
                repeat' (first | exact True.intro | rfl | refine And.intro ?_ ?_ | omega)
                all_goals (conv => whnf)
                all_goals (try (first | rfl | omega | (simp; done)))
              conv => whnf
              refine ⟨?_, True.intro⟩
              intro _ _
              conv => whnf
              conv => whnf
              repeat (first
                | (refine And.intro ?_ ?_; (focus (first | omega | decide | exact Int.natCast_nonneg _ | ((repeat' refine And.intro ?_ ?_) <;> first | omega | exact Int.natCast_nonneg _ | (simp only [i64max]; omega) | (simp only [u8max]; omega) | (simp only [i64max, u8max, u16max, u32max, u64max]; omega) | (simp [mulSz, Cont.len, bne]; done) | (simp [mulSz, Cont.len, bne]; omega)))); conv => whnf)
                | (refine tst_in ?_ ?_; (focus (intro h_; exfalso; first | omega | ((try simp only [decide_eq_true_eq, decide_eq_false_iff_not] at h_); omega) | (simp [mulSz, Cont.len, bne] at h_; done) | (simp [mulSz, Cont.len, bne] at h_; omega))); intro _; conv => whnf)
                | (refine tst_in ?_ ?_; rotate_left; (focus (intro h_; exfalso; first | omega | ((try simp only [decide_eq_true_eq, decide_eq_false_iff_not] at h_); omega) | (simp [mulSz, Cont.len, bne] at h_; done) | (simp [mulSz, Cont.len, bne] at h_; omega))); intro _; conv => whnf))
              refine .inl ⟨(), [0], ?_⟩
              conv => whnf
              repeat' (first | exact True.intro | rfl | refine And.intro ?_ ?_)
              all_goals (conv => whnf)
              repeat' (first | exact True.intro | rfl | refine And.intro ?_ ?_)
              all_goals (try (first | omega | exact True.intro | rfl | assumption | (change LE.le (α := Nat) _ _; first | omega | (simp only []; omega)) | (simp only []; done) | (simp only []; omega) | (simp; done) | (simp; omega)))
theorem wf8 {N : Int} (h : (Lit.int .u8 N).wf = true) : 0 ≤ N ∧ N ≤ 255 := by
  simp only [Lit.wf, Bool.and_eq_true, decide_eq_true_eq, show IntKind.min .u8 = 0 from rfl, u8max] at h
  exact ⟨h.1, of_decide_eq_true h.2⟩
theorem wf8_get {A : List Int} (h : ∀ x ∈ A, (Lit.int .u8 x).wf = true) {i : Nat} (hi : i < A.length) : 0 ≤ A.getD i 0 ∧ A.getD i 0 ≤ 255 := by
  rw [List.getD_eq_getElem?_getD, List.getElem?_eq_getElem hi]
  exact wf8 (h _ (List.getElem_mem hi))
theorem wh_f (A : List Int) (n ca : Nat) (N : Int) (hA : n ≤ A.length) (hw : ∀ x ∈ A, (Lit.int .u8 x).wf = true) (hn : n * 1 ≤ 140737488355328) (hN : (Lit.int .u8 N).wf = true) : Fits Try.prog 4 (whSpec A n ca N) :=
  wh_R A n ca (min n 300) N hA rfl (fun i hi => wf8_get hw (by omega)) (by omega) (wf8 hN)
end Go.Proofs.Yteefbedjblppiaa


namespace Go.Proofs.Yteefbedjblppiaa
open Go Go.Fw
namespace turnsWhole
open Go.ChangeShapes Go.WideShapes Go.ChangeAt Go.RowKit
theorem own : ownKnob Try.prog.godebug = none := by kernel_rfl
theorem laid : laidOutB Try.prog = true := by kernel_rfl

set_option maxRecDepth 100000 in
theorem lifted (os : Os) (started : os.Started) (H : Type) (enc : TypeId × Value → H) :
    ReturnsInHanded {} Try.checked os 4 .any (Rows.turnsWholeSpec.pre6 enc Try.prog Try.f4 Rows.turnsWholeRow.domain false) (Rows.turnsWholeSpec.post enc Try.prog Try.f4 false true false false) := by
  refine returnsInHanded_of_change_sized (C := Try.checked) own started (by kernel_rfl) Try.func4
    (ChangeSpec.witness6 (enc := enc) (C := Try.checked) false ⟨#[], #[.slice none 0 0, .int .u8 0], []⟩ 8 (by kernel_rfl) (by kernel_rfl) (by kernel_rfl) (by kernel_rfl)) ?_
  intro W base args ds gs before hval0 hW _ hsz0 _
  have hsz : (DataW.weightsEach Try.prog (Try.f4.params.toList ++ Rows.turnsWholeSpec.plain.varTypes Try.prog) (ds ++ gs)).all (· ≤ reachBytes) = true := hsz0
  clear hsz0
  have hval : ∀ (j : Nat) t v, Try.f4.params[j]? = some t → args[j]? = some v → Value.okWide Try.prog W .any base t v := hval0
  have hW' := hW
  obtain ⟨p, q, hA0, hV, rfl, hfz, hnd⟩ := hW
  have hA : DataW.TrodAll enc Try.prog W 0 (fun _ => true) true Try.f4.params.toList args.toList ds p := hA0
  rw [Try.params4] at hA hval hsz
  obtain ⟨v0, vs0, d0, ds0, p0, q0, hargs, rfl, rfl, h0, r0⟩ := trodAll_cons hA
  obtain ⟨v1, vs1, d1, ds1, p1, q1, rfl, rfl, rfl, h1, r1⟩ := trodAll_cons r0
  obtain ⟨rfl, rfl, rfl⟩ := trodAll_nil r1
  obtain rfl : args = #[v0, v1] := by cases args; simp_all
  obtain ⟨rfl, rfl⟩ := trodVars_none hV
  obtain ⟨k1, rfl, rfl, rfl, w1⟩ := open_int Try.underlying5 (hval 1 5 v1 rfl rfl) h1
  obtain ⟨a0, l0, z0, hv0⟩ := okWide_slice Try.underlying22 (hval 0 22 v0 rfl rfl)
  obtain ⟨n0, c0, A0, pl0, hn0, hl0, hs0, hw0, hc0⟩ := arg_ints Try.underlying22 Try.underlying5 (by kernel_rfl) hv0 h0
  have by0 : Try.prog.bytesOf 5 = 1 := by kernel_rfl
  have hN0 : n0 * 1 ≤ 140737488351232 := by
    rcases hs0 with ⟨h, _⟩ | ⟨xs, ys, rfl, hx, hy⟩
    · omega
    · have := sized_slice hsz (j := 0) (t := 22) (e := 5) rfl rfl Try.underlying22
      rw [by0] at this
      simp only [reachBytes] at this
      omega
  clear hA0 hval0
  obtain ⟨dd0, cc0⟩ := hc0 [pl0] 0 (by simp) rfl
  have walk := (wh_f A0 n0 c0 k1 (by omega) hw0 (by omega) w1).calls W [pl0] [v0, .int .u8 k1] (heap_args rfl fun i s hs => by
      match i, hs with
      | 0, hs => simp only [whSpec, List.getElem?_cons_zero, Option.some.injEq] at hs; subst hs; exact ⟨_, rfl, cc0⟩
      | i + 1, hs => simp [whSpec] at hs) (by simp only [whSpec, Dens]; exact ⟨_, _, rfl, dd0, ⟨_, _, rfl, by simp [Den], rfl⟩⟩) (x := .bool true) (v := .bool true) rfl (by
      intro o ho y hy
      simp [whSpec] at ho
      subst ho; rfl)
  refine walk.mono fun e W' ⟨he, hg⟩ => ?_
  subst he
  exact ⟨_, rfl, law_done laid rfl rfl Try.underlying4 (by kernel_rfl) hW' rfl hg⟩

theorem over : Rows.turnsWholeRow.holds Try.pinned (OpenSpec.ofChange Rows.turnsWholeSpec) :=
  OpenClaim.holds_of_wide 4 Try.f4 rfl rfl rfl rfl rfl rfl rfl ⟨rfl, rfl, rfl, rfl, rfl⟩ rfl rfl rfl rfl rfl (by kernel_rfl) Try.func4 (by kernel_rfl)
    (of_decide_eq_true (by kernel_rfl)) (by unfold Func.isWrapper; first | (rw [if_pos (by decide +kernel)]; kernel_rfl) | (rw [if_neg (by decide +kernel)]; exact ⟨rfl, rfl⟩))
    (fun os started H enc _ => lifted os started H enc)

theorem proved : Rows.TurnsWholeSaid := over
end turnsWhole
end Go.Proofs.Yteefbedjblppiaa
