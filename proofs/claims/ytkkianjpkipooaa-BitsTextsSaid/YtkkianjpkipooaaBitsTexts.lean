/-
  For all texts and rows of bits: BitsTexts answers true and never panics: the text of a row and the row of a text, or the place of what is no digit, are what the document says, and what was handed in stands. No condition.
-/
import Derived.Test.YtkkianjpkipooaaRows
import Derived.Test.YtkkianjpkipooaaFv
import Derived.Test.YtkkianjpkipooaaBitsTextsP1
import Derived.Test.YtkkianjpkipooaaFa
import Derived.WalkKit
import Derived.ProofKit
import Derived.OpenShut
import Derived.SizedLaws
import Derived.ChangeMaps5
set_option linter.unusedSimpArgs false
set_option linter.unusedVariables false
set_option linter.unusedVariables false
set_option linter.unusedSimpArgs false
namespace Go.Proofs.Ytkkianjpkipooaa
open Go Go.Fw
/-- The bits of words. -/
def rwd (A : List Int) (W : Nat) : Nat → List Bool
  | 0 => []
  | k + 1 => rwd A W k ++ bt W (A.getD k 0).toNat W
theorem rwd_len (A : List Int) (W : Nat) : ∀ k, (rwd A W k).length = W * k
  | 0 => rfl
  | k + 1 => by rw [rwd, List.length_append, rwd_len A W k, bt_len, Nat.mul_succ]
def okW (A : List Int) (W k : Nat) : Prop := 0 ≤ A.getD k 0 ∧ A.getD k 0 < ((2 ^ W : Nat) : Int)
def rowB (X : List Bool) (e : Nat) : FOut := ⟨List Bool, fun _ => True, fun t => .tup [.slice 1 0 X.length (X.length + t.length), .int .i64 e], fun t => [.dead, .seg true (.bools (X ++ t))]⟩
def badR (w : Int) (n : Nat) : Prop := w < 1 ∨ 16 < w ∨ (1 ≤ w ∧ w ≤ 16 ∧ 32768 < w * (n : Int))
noncomputable def c15 : Code := (Try.f15.body).getD .skip
noncomputable def c16 : Code := (Try.f16.body).getD .skip
def natAt2 (st : St) (t : Nat) : Nat := natAt st t
def st16 (A : List Int) (W n ca k m : Nat) (j : AV) (X t : List Bool) : St := ⟨anyTo 68 [.slice 0 0 n ca, .int .i64 W, .any, .any, .any, .any, .slice 1 0 m (m + t.length), .int .i64 k, j], [.seg false (.ints .i64 A), .seg true (.bools (X ++ t))]⟩
def inv16 (A : List Int) (W n ca p : Nat) : LInv := ⟨Nat × List Bool, fun q => st16 A W n ca q.1 (W * q.1) .any (rwd A W q.1) q.2, fun q => q.1 ≤ p, fun q => p - q.1⟩
def inv16b (A : List Int) (W n ca : Nat) (st : St) : LInv := ⟨Nat × List Bool, fun q => st16 A W n ca (natAt st 7) (W * natAt st 7 + q.1) (.int .i64 q.1) (rwd A W (natAt st 7) ++ bt W (A.getD (natAt st 7) 0).toNat q.1) q.2, fun q => q.1 ≤ W, fun q => W - q.1⟩
def plan16 : PlanL := .lin [0, 1, 2, 5, 6, 7, 8] (.alt 3 (.alt 4 (.lin [9, 10, 11, 12, 13, 14, 15] .done) (.alt 9 (.lin [4, 10, 11, 12, 13, 14, 15] .done) .fin)) (.alt 9 (.lin [3, 4, 10, 11, 12, 13, 14, 15] .done) .fin))
def cfg16 (l : List (St → LInv)) : Cfg := { T := tys0, sgn := fun _ => false, wr := fun _ => false, k := 1, q := qf, plan := fun i => match Nat.beq i 12 with | true => some plan16 | false => none, dep := fun | 10 => l.head? | _ => none }
set_option maxHeartbeats 0 in
set_option maxRecDepth 100000 in
theorem Row_far (A : List Int) (w : Int) (n ca : Nat) (h : badR w n) (hN : n ≤ 140737488355328) :
    Fits Try.prog 15 ⟨[.slice 0 0 n ca, .int .i64 w], [.seg false (.ints .i64 A)], [rowB [] 1]⟩ := by
  have IW := isWidth_q w
  refine fits_of_body (C := cfgs 1) (c := c15) (ts := [4, 5]) tok0 mixed0 (fun _ => none) (fun _ => none)
    Try.func15 (by kernel_rfl) (by kernel_rfl) (by kernel_rfl) (by kernel_rfl) rfl ?_
  rcases h with h | h | ⟨h1, h2, h⟩
  · rw [decide_eq_false (show ¬ 1 ≤ w by omega), Bool.false_and] at IW
    conv => whnf
    repeat (first
      | (refine And.intro ?_ ?_; (focus (first | omega | decide | exact Int.natCast_nonneg _ | ((repeat' refine And.intro ?_ ?_) <;> first | omega | exact Int.natCast_nonneg _ | (simp only [i64max]; omega) | (simp only [u8max]; omega) | (simp only [i64max, u8max, u16max, u32max, u64max]; omega) | (simp [mulSz, Cont.len, bne]; done) | (simp [mulSz, Cont.len, bne]; omega)))); conv => whnf)
      | (refine tst_in ?_ ?_; (focus (intro h_; exfalso; first | omega | ((try simp only [decide_eq_true_eq, decide_eq_false_iff_not] at h_); omega) | (simp [mulSz, Cont.len, bne] at h_; done) | (simp [mulSz, Cont.len, bne] at h_; omega))); intro _; conv => whnf)
      | (refine tst_in ?_ ?_; rotate_left; (focus (intro h_; exfalso; first | omega | ((try simp only [decide_eq_true_eq, decide_eq_false_iff_not] at h_); omega) | (simp [mulSz, Cont.len, bne] at h_; done) | (simp [mulSz, Cont.len, bne] at h_; omega))); intro _; conv => whnf))
    refine ⟨_, [], IW, ?_⟩
    conv => whnf
    refine ⟨?_, ?_, ?_⟩
    · conv => whnf
      repeat' (first | exact True.intro | rfl | refine And.intro ?_ ?_)
      all_goals (conv => whnf)
      repeat' (first | exact True.intro | rfl | refine And.intro ?_ ?_)
      all_goals (try (first | rfl | omega | (simp; done) | (simp; omega)))
    · conv => whnf
      repeat' (first | exact True.intro | rfl | refine And.intro ?_ ?_)
      all_goals (conv => whnf)
      repeat' (first | exact True.intro | rfl | refine And.intro ?_ ?_)
      all_goals (try (first | rfl | omega | (simp; done) | (simp; omega)))
    conv => whnf
    conv => whnf
    repeat (first
      | (refine And.intro ?_ ?_; (focus (first | omega | decide | exact Int.natCast_nonneg _ | ((repeat' refine And.intro ?_ ?_) <;> first | omega | exact Int.natCast_nonneg _ | (simp only [i64max]; omega) | (simp only [u8max]; omega) | (simp only [i64max, u8max, u16max, u32max, u64max]; omega) | (simp [mulSz, Cont.len, bne]; done) | (simp [mulSz, Cont.len, bne]; omega)))); conv => whnf)
      | (refine tst_in ?_ ?_; (focus (intro h_; exfalso; first | omega | ((try simp only [decide_eq_true_eq, decide_eq_false_iff_not] at h_); omega) | (simp [mulSz, Cont.len, bne] at h_; done) | (simp [mulSz, Cont.len, bne] at h_; omega))); intro _; conv => whnf)
      | (refine tst_in ?_ ?_; rotate_left; (focus (intro h_; exfalso; first | omega | ((try simp only [decide_eq_true_eq, decide_eq_false_iff_not] at h_); omega) | (simp [mulSz, Cont.len, bne] at h_; done) | (simp [mulSz, Cont.len, bne] at h_; omega))); intro _; conv => whnf))
    refine .inl ⟨[], [0, 1], ?_⟩
    conv => whnf
    repeat' (first | exact True.intro | rfl | refine And.intro ?_ ?_)
    all_goals (conv => whnf)
    repeat' (first | exact True.intro | rfl | refine And.intro ?_ ?_)
    all_goals (try (first | omega | exact True.intro | rfl | assumption | (change LE.le (α := Nat) _ _; first | omega | (simp only []; omega)) | (simp only []; done) | (simp only []; omega) | (simp; done) | (simp; omega)))
  · rw [decide_eq_false (show ¬ w ≤ 16 by omega), Bool.and_false] at IW
    conv => whnf
    repeat (first
      | (refine And.intro ?_ ?_; (focus (first | omega | decide | exact Int.natCast_nonneg _ | ((repeat' refine And.intro ?_ ?_) <;> first | omega | exact Int.natCast_nonneg _ | (simp only [i64max]; omega) | (simp only [u8max]; omega) | (simp only [i64max, u8max, u16max, u32max, u64max]; omega) | (simp [mulSz, Cont.len, bne]; done) | (simp [mulSz, Cont.len, bne]; omega)))); conv => whnf)
      | (refine tst_in ?_ ?_; (focus (intro h_; exfalso; first | omega | ((try simp only [decide_eq_true_eq, decide_eq_false_iff_not] at h_); omega) | (simp [mulSz, Cont.len, bne] at h_; done) | (simp [mulSz, Cont.len, bne] at h_; omega))); intro _; conv => whnf)
      | (refine tst_in ?_ ?_; rotate_left; (focus (intro h_; exfalso; first | omega | ((try simp only [decide_eq_true_eq, decide_eq_false_iff_not] at h_); omega) | (simp [mulSz, Cont.len, bne] at h_; done) | (simp [mulSz, Cont.len, bne] at h_; omega))); intro _; conv => whnf))
    refine ⟨_, [], IW, ?_⟩
    conv => whnf
    refine ⟨?_, ?_, ?_⟩
    · conv => whnf
      repeat' (first | exact True.intro | rfl | refine And.intro ?_ ?_)
      all_goals (conv => whnf)
      repeat' (first | exact True.intro | rfl | refine And.intro ?_ ?_)
      all_goals (try (first | rfl | omega | (simp; done) | (simp; omega)))
    · conv => whnf
      repeat' (first | exact True.intro | rfl | refine And.intro ?_ ?_)
      all_goals (conv => whnf)
      repeat' (first | exact True.intro | rfl | refine And.intro ?_ ?_)
      all_goals (try (first | rfl | omega | (simp; done) | (simp; omega)))
    conv => whnf
    conv => whnf
    repeat (first
      | (refine And.intro ?_ ?_; (focus (first | omega | decide | exact Int.natCast_nonneg _ | ((repeat' refine And.intro ?_ ?_) <;> first | omega | exact Int.natCast_nonneg _ | (simp only [i64max]; omega) | (simp only [u8max]; omega) | (simp only [i64max, u8max, u16max, u32max, u64max]; omega) | (simp [mulSz, Cont.len, bne]; done) | (simp [mulSz, Cont.len, bne]; omega)))); conv => whnf)
      | (refine tst_in ?_ ?_; (focus (intro h_; exfalso; first | omega | ((try simp only [decide_eq_true_eq, decide_eq_false_iff_not] at h_); omega) | (simp [mulSz, Cont.len, bne] at h_; done) | (simp [mulSz, Cont.len, bne] at h_; omega))); intro _; conv => whnf)
      | (refine tst_in ?_ ?_; rotate_left; (focus (intro h_; exfalso; first | omega | ((try simp only [decide_eq_true_eq, decide_eq_false_iff_not] at h_); omega) | (simp [mulSz, Cont.len, bne] at h_; done) | (simp [mulSz, Cont.len, bne] at h_; omega))); intro _; conv => whnf))
    refine .inl ⟨[], [0, 1], ?_⟩
    conv => whnf
    repeat' (first | exact True.intro | rfl | refine And.intro ?_ ?_)
    all_goals (conv => whnf)
    repeat' (first | exact True.intro | rfl | refine And.intro ?_ ?_)
    all_goals (try (first | omega | exact True.intro | rfl | assumption | (change LE.le (α := Nat) _ _; first | omega | (simp only []; omega)) | (simp only []; done) | (simp only []; omega) | (simp; done) | (simp; omega)))
  · rw [decide_eq_true h1, decide_eq_true h2] at IW
    have hq : 32768 / w < (n : Int) := by
      apply Int.ediv_lt_of_lt_mul (by omega)
      rw [Int.mul_comm]; exact h
    conv => whnf
    repeat (first
      | (refine And.intro ?_ ?_; (focus (first | omega | decide | exact Int.natCast_nonneg _ | ((repeat' refine And.intro ?_ ?_) <;> first | omega | exact Int.natCast_nonneg _ | (simp only [i64max]; omega) | (simp only [u8max]; omega) | (simp only [i64max, u8max, u16max, u32max, u64max]; omega) | (simp [mulSz, Cont.len, bne]; done) | (simp [mulSz, Cont.len, bne]; omega)))); conv => whnf)
      | (refine tst_in ?_ ?_; (focus (intro h_; exfalso; first | omega | ((try simp only [decide_eq_true_eq, decide_eq_false_iff_not] at h_); omega) | (simp [mulSz, Cont.len, bne] at h_; done) | (simp [mulSz, Cont.len, bne] at h_; omega))); intro _; conv => whnf)
      | (refine tst_in ?_ ?_; rotate_left; (focus (intro h_; exfalso; first | omega | ((try simp only [decide_eq_true_eq, decide_eq_false_iff_not] at h_); omega) | (simp [mulSz, Cont.len, bne] at h_; done) | (simp [mulSz, Cont.len, bne] at h_; omega))); intro _; conv => whnf))
    refine ⟨_, [], IW, ?_⟩
    conv => whnf
    refine ⟨?_, ?_, ?_⟩
    · conv => whnf
      repeat' (first | exact True.intro | rfl | refine And.intro ?_ ?_)
      all_goals (conv => whnf)
      repeat' (first | exact True.intro | rfl | refine And.intro ?_ ?_)
      all_goals (try (first | rfl | omega | (simp; done) | (simp; omega)))
    · conv => whnf
      repeat' (first | exact True.intro | rfl | refine And.intro ?_ ?_)
      all_goals (conv => whnf)
      repeat' (first | exact True.intro | rfl | refine And.intro ?_ ?_)
      all_goals (try (first | rfl | omega | (simp; done) | (simp; omega)))
    conv => whnf
    conv => whnf
    repeat (first
      | (refine And.intro ?_ ?_; (focus (first | omega | decide | exact Int.natCast_nonneg _ | ((repeat' refine And.intro ?_ ?_) <;> first | omega | exact Int.natCast_nonneg _ | (simp only [i64max]; omega) | (simp only [u8max]; omega) | (simp only [i64max, u8max, u16max, u32max, u64max]; omega) | (simp [mulSz, Cont.len, bne]; done) | (simp [mulSz, Cont.len, bne]; omega)))); conv => whnf)
      | (refine tst_in ?_ ?_; (focus (intro h_; exfalso; first | omega | ((try simp only [decide_eq_true_eq, decide_eq_false_iff_not] at h_); omega) | (simp [mulSz, Cont.len, bne] at h_; done) | (simp [mulSz, Cont.len, bne] at h_; omega))); intro _; conv => whnf)
      | (refine tst_in ?_ ?_; rotate_left; (focus (intro h_; exfalso; first | omega | ((try simp only [decide_eq_true_eq, decide_eq_false_iff_not] at h_); omega) | (simp [mulSz, Cont.len, bne] at h_; done) | (simp [mulSz, Cont.len, bne] at h_; omega))); intro _; conv => whnf))
    conv => whnf
    repeat (first
      | (refine And.intro ?_ ?_; (focus (first | omega | decide | exact Int.natCast_nonneg _ | ((repeat' refine And.intro ?_ ?_) <;> first | omega | exact Int.natCast_nonneg _ | (simp only [i64max]; omega) | (simp only [u8max]; omega) | (simp only [i64max, u8max, u16max, u32max, u64max]; omega) | (simp [mulSz, Cont.len, bne]; done) | (simp [mulSz, Cont.len, bne]; omega)))); conv => whnf)
      | (refine tst_in ?_ ?_; (focus (intro h_; exfalso; first | omega | ((try simp only [decide_eq_true_eq, decide_eq_false_iff_not] at h_); omega) | (simp [mulSz, Cont.len, bne] at h_; done) | (simp [mulSz, Cont.len, bne] at h_; omega))); intro _; conv => whnf)
      | (refine tst_in ?_ ?_; rotate_left; (focus (intro h_; exfalso; first | omega | ((try simp only [decide_eq_true_eq, decide_eq_false_iff_not] at h_); omega) | (simp [mulSz, Cont.len, bne] at h_; done) | (simp [mulSz, Cont.len, bne] at h_; omega))); intro _; conv => whnf))
    refine .inl ⟨[], [0, 1], ?_⟩
    conv => whnf
    repeat' (first | exact True.intro | rfl | refine And.intro ?_ ?_)
    all_goals (conv => whnf)
    repeat' (first | exact True.intro | rfl | refine And.intro ?_ ?_)
    all_goals (try (first | omega | exact True.intro | rfl | assumption | (change LE.le (α := Nat) _ _; first | omega | (simp only []; omega)) | (simp only []; done) | (simp only []; omega) | (simp; done) | (simp; omega)))
set_option maxHeartbeats 0 in
set_option maxRecDepth 100000 in
theorem rRow_far (A : List Int) (w : Int) (n ca : Nat) (h : badR w n) (hN : n ≤ 140737488355328) :
    Fits Try.prog 16 ⟨[.slice 0 0 n ca, .int .i64 w], [.seg false (.ints .i64 A)], [rowB [] 1]⟩ := by
  refine fits_of_body (C := cfg16 []) (c := c16) (ts := [4, 5]) tok0 mixed0 (fun _ => none) (fun _ => none)
    Try.func16 (by kernel_rfl) (by kernel_rfl) (by kernel_rfl) (by kernel_rfl) rfl ?_
  rcases h with h | h | ⟨h1, h2, h⟩
  · conv => whnf
    repeat (first
      | (refine And.intro ?_ ?_; (focus (first | omega | decide | exact Int.natCast_nonneg _ | ((repeat' refine And.intro ?_ ?_) <;> first | omega | exact Int.natCast_nonneg _ | (simp only [i64max]; omega) | (simp only [u8max]; omega) | (simp only [i64max, u8max, u16max, u32max, u64max]; omega) | (simp [mulSz, Cont.len, bne]; done) | (simp [mulSz, Cont.len, bne]; omega)))); conv => whnf)
      | (refine tst_in ?_ ?_; (focus (intro h_; exfalso; first | omega | ((try simp only [decide_eq_true_eq, decide_eq_false_iff_not] at h_); omega) | (simp [mulSz, Cont.len, bne] at h_; done) | (simp [mulSz, Cont.len, bne] at h_; omega))); intro _; conv => whnf)
      | (refine tst_in ?_ ?_; rotate_left; (focus (intro h_; exfalso; first | omega | ((try simp only [decide_eq_true_eq, decide_eq_false_iff_not] at h_); omega) | (simp [mulSz, Cont.len, bne] at h_; done) | (simp [mulSz, Cont.len, bne] at h_; omega))); intro _; conv => whnf))
    refine .inl ⟨[], [0, 1], ?_⟩
    conv => whnf
    repeat' (first | exact True.intro | rfl | refine And.intro ?_ ?_)
    all_goals (conv => whnf)
    repeat' (first | exact True.intro | rfl | refine And.intro ?_ ?_)
    all_goals (try (first | omega | exact True.intro | rfl | assumption | (change LE.le (α := Nat) _ _; first | omega | (simp only []; omega)) | (simp only []; done) | (simp only []; omega) | (simp; done) | (simp; omega)))
  · conv => whnf
    repeat (first
      | (refine And.intro ?_ ?_; (focus (first | omega | decide | exact Int.natCast_nonneg _ | ((repeat' refine And.intro ?_ ?_) <;> first | omega | exact Int.natCast_nonneg _ | (simp only [i64max]; omega) | (simp only [u8max]; omega) | (simp only [i64max, u8max, u16max, u32max, u64max]; omega) | (simp [mulSz, Cont.len, bne]; done) | (simp [mulSz, Cont.len, bne]; omega)))); conv => whnf)
      | (refine tst_in ?_ ?_; (focus (intro h_; exfalso; first | omega | ((try simp only [decide_eq_true_eq, decide_eq_false_iff_not] at h_); omega) | (simp [mulSz, Cont.len, bne] at h_; done) | (simp [mulSz, Cont.len, bne] at h_; omega))); intro _; conv => whnf)
      | (refine tst_in ?_ ?_; rotate_left; (focus (intro h_; exfalso; first | omega | ((try simp only [decide_eq_true_eq, decide_eq_false_iff_not] at h_); omega) | (simp [mulSz, Cont.len, bne] at h_; done) | (simp [mulSz, Cont.len, bne] at h_; omega))); intro _; conv => whnf))
    refine .inl ⟨[], [0, 1], ?_⟩
    conv => whnf
    repeat' (first | exact True.intro | rfl | refine And.intro ?_ ?_)
    all_goals (conv => whnf)
    repeat' (first | exact True.intro | rfl | refine And.intro ?_ ?_)
    all_goals (try (first | omega | exact True.intro | rfl | assumption | (change LE.le (α := Nat) _ _; first | omega | (simp only []; omega)) | (simp only []; done) | (simp only []; omega) | (simp; done) | (simp; omega)))
  · have hb : w * (n : Int) ≤ 16 * (n : Int) := Int.mul_le_mul_of_nonneg_right h2 (by omega)
    by_cases hn : 32768 < n
    · conv => whnf
      repeat (first
        | (refine And.intro ?_ ?_; (focus (first | omega | decide | exact Int.natCast_nonneg _ | ((repeat' refine And.intro ?_ ?_) <;> first | omega | exact Int.natCast_nonneg _ | (simp only [i64max]; omega) | (simp only [u8max]; omega) | (simp only [i64max, u8max, u16max, u32max, u64max]; omega) | (simp [mulSz, Cont.len, bne]; done) | (simp [mulSz, Cont.len, bne]; omega)))); conv => whnf)
        | (refine tst_in ?_ ?_; (focus (intro h_; exfalso; first | omega | ((try simp only [decide_eq_true_eq, decide_eq_false_iff_not] at h_); omega) | (simp [mulSz, Cont.len, bne] at h_; done) | (simp [mulSz, Cont.len, bne] at h_; omega))); intro _; conv => whnf)
        | (refine tst_in ?_ ?_; rotate_left; (focus (intro h_; exfalso; first | omega | ((try simp only [decide_eq_true_eq, decide_eq_false_iff_not] at h_); omega) | (simp [mulSz, Cont.len, bne] at h_; done) | (simp [mulSz, Cont.len, bne] at h_; omega))); intro _; conv => whnf))
      refine .inl ⟨[], [0, 1], ?_⟩
      conv => whnf
      repeat' (first | exact True.intro | rfl | refine And.intro ?_ ?_)
      all_goals (conv => whnf)
      repeat' (first | exact True.intro | rfl | refine And.intro ?_ ?_)
      all_goals (try (first | omega | exact True.intro | rfl | assumption | (change LE.le (α := Nat) _ _; first | omega | (simp only []; omega)) | (simp only []; done) | (simp only []; omega) | (simp; done) | (simp; omega)))
    · conv => whnf
      repeat (first
        | (refine And.intro ?_ ?_; (focus (first | omega | decide | exact Int.natCast_nonneg _ | ((repeat' refine And.intro ?_ ?_) <;> first | omega | exact Int.natCast_nonneg _ | (simp only [i64max]; omega) | (simp only [u8max]; omega) | (simp only [i64max, u8max, u16max, u32max, u64max]; omega) | (simp [mulSz, Cont.len, bne]; done) | (simp [mulSz, Cont.len, bne]; omega)))); conv => whnf)
        | (refine tst_in ?_ ?_; (focus (intro h_; exfalso; first | omega | ((try simp only [decide_eq_true_eq, decide_eq_false_iff_not] at h_); omega) | (simp [mulSz, Cont.len, bne] at h_; done) | (simp [mulSz, Cont.len, bne] at h_; omega))); intro _; conv => whnf)
        | (refine tst_in ?_ ?_; rotate_left; (focus (intro h_; exfalso; first | omega | ((try simp only [decide_eq_true_eq, decide_eq_false_iff_not] at h_); omega) | (simp [mulSz, Cont.len, bne] at h_; done) | (simp [mulSz, Cont.len, bne] at h_; omega))); intro _; conv => whnf))
      refine .inl ⟨[], [0, 1], ?_⟩
      conv => whnf
      repeat' (first | exact True.intro | rfl | refine And.intro ?_ ?_)
      all_goals (conv => whnf)
      repeat' (first | exact True.intro | rfl | refine And.intro ?_ ?_)
      all_goals (try (first | omega | exact True.intro | rfl | assumption | (change LE.le (α := Nat) _ _; first | omega | (simp only []; omega)) | (simp only []; done) | (simp only []; omega) | (simp; done) | (simp; omega)))
def st15 (A : List Int) (W n ca k : Nat) (t : List Bool) : St := ⟨anyTo 44 [.slice 0 0 n ca, .int .i64 W, .any, .any, .any, .any, .slice 1 0 (W * k) (W * k + t.length), .any, .any, .any, .any, .any, .any, .any, .any, .any, .any, .any, .any, .any, .any, .any, .any, .any, .slice 0 0 n ca, .int .i64 n, .int .i64 k], [.seg false (.ints .i64 A), .seg true (.bools (rwd A W k ++ t))]⟩
def inv15 (A : List Int) (W n ca p : Nat) : LInv := ⟨Nat × List Bool, fun q => st15 A W n ca q.1 q.2, fun q => q.1 ≤ p, fun q => p - q.1⟩
set_option maxHeartbeats 0 in
set_option maxRecDepth 100000 in
theorem Row_y (A : List Int) (W n ca p : Nat) (hA : n ≤ A.length) (h1 : 1 ≤ W) (h2 : W ≤ 16) (hN : W * n ≤ 32768) (hv : ∀ i, i < p → okW A W i) (hp : p = n) :
    Fits Try.prog 15 ⟨[.slice 0 0 n ca, .int .i64 W], [.seg false (.ints .i64 A)], [rowB (rwd A W n) 0]⟩ := by
  have hl := rwd_len A W
  have hb0 : W * n ≤ 32768 := hN
  have hnn : n ≤ W * n := Nat.le_mul_of_pos_left n (by omega)
  have hpw : 2 ^ W ≤ 2 ^ 16 := Nat.pow_le_pow_right (by decide) h2
  have hpp : 1 ≤ 2 ^ W := Nat.one_le_two_pow
  have IW := isWidth_q (W : Int)
  rw [decide_eq_true (show (1 : Int) ≤ W by omega), decide_eq_true (show (W : Int) ≤ 16 by omega)] at IW
  have hq : ¬ 32768 / (W : Int) < (n : Int) := by
    apply Int.not_lt.mpr
    apply Int.le_ediv_of_mul_le (by omega)
    rw [Int.mul_comm]; exact_mod_cast hN
  have hm : (n : Int) * (W : Int) = ((W * n : Nat) : Int) := by rw [Int.natCast_mul, Int.mul_comm]
  refine fits_of_body (C := cfgs 1) (c := c15) (ts := [4, 5]) tok0 mixed0 (fun | 5 => some (inv15 A W n ca p) | _ => none) (fun _ => none)
    Try.func15 (by kernel_rfl) (by kernel_rfl) (by kernel_rfl) (by kernel_rfl) rfl ?_
  conv => whnf
  repeat (first
    | (refine And.intro ?_ ?_; (focus (first | omega | decide | exact Int.natCast_nonneg _ | ((repeat' refine And.intro ?_ ?_) <;> first | omega | exact Int.natCast_nonneg _ | (simp only [i64max]; omega) | (simp only [u8max]; omega) | (simp only [i64max, u8max, u16max, u32max, u64max]; omega) | (simp [mulSz, Cont.len, bne]; done) | (simp [mulSz, Cont.len, bne]; omega)))); conv => whnf)
    | (refine tst_in ?_ ?_; (focus (intro h_; exfalso; first | omega | ((try simp only [decide_eq_true_eq, decide_eq_false_iff_not] at h_); omega) | (simp [mulSz, Cont.len, bne] at h_; done) | (simp [mulSz, Cont.len, bne] at h_; omega))); intro _; conv => whnf)
    | (refine tst_in ?_ ?_; rotate_left; (focus (intro h_; exfalso; first | omega | ((try simp only [decide_eq_true_eq, decide_eq_false_iff_not] at h_); omega) | (simp [mulSz, Cont.len, bne] at h_; done) | (simp [mulSz, Cont.len, bne] at h_; omega))); intro _; conv => whnf))
  refine ⟨_, [], IW, ?_⟩
  conv => whnf
  refine ⟨?_, ?_, ?_⟩
  · conv => whnf
    repeat' (first | exact True.intro | rfl | refine And.intro ?_ ?_)
    all_goals (conv => whnf)
    repeat' (first | exact True.intro | rfl | refine And.intro ?_ ?_)
    all_goals (try (first | rfl | omega | (simp; done) | (simp; omega)))
  · conv => whnf
    repeat' (first | exact True.intro | rfl | refine And.intro ?_ ?_)
    all_goals (conv => whnf)
    repeat' (first | exact True.intro | rfl | refine And.intro ?_ ?_)
    all_goals (try (first | rfl | omega | (simp; done) | (simp; omega)))
  conv => whnf
  conv => whnf
  repeat (first
    | (refine And.intro ?_ ?_; (focus (first | omega | decide | exact Int.natCast_nonneg _ | ((repeat' refine And.intro ?_ ?_) <;> first | omega | exact Int.natCast_nonneg _ | (simp only [i64max]; omega) | (simp only [u8max]; omega) | (simp only [i64max, u8max, u16max, u32max, u64max]; omega) | (simp [mulSz, Cont.len, bne]; done) | (simp [mulSz, Cont.len, bne]; omega)))); conv => whnf)
    | (refine tst_in ?_ ?_; (focus (intro h_; exfalso; first | omega | ((try simp only [decide_eq_true_eq, decide_eq_false_iff_not] at h_); omega) | (simp [mulSz, Cont.len, bne] at h_; done) | (simp [mulSz, Cont.len, bne] at h_; omega))); intro _; conv => whnf)
    | (refine tst_in ?_ ?_; rotate_left; (focus (intro h_; exfalso; first | omega | ((try simp only [decide_eq_true_eq, decide_eq_false_iff_not] at h_); omega) | (simp [mulSz, Cont.len, bne] at h_; done) | (simp [mulSz, Cont.len, bne] at h_; omega))); intro _; conv => whnf))
  conv => whnf
  rw [hm]
  conv => whnf
  repeat (first
    | (refine And.intro ?_ ?_; (focus (first | omega | decide | exact Int.natCast_nonneg _ | ((repeat' refine And.intro ?_ ?_) <;> first | omega | exact Int.natCast_nonneg _ | (simp only [i64max]; omega) | (simp only [u8max]; omega) | (simp only [i64max, u8max, u16max, u32max, u64max]; omega) | (simp [mulSz, Cont.len, bne]; done) | (simp [mulSz, Cont.len, bne]; omega)))); conv => whnf)
    | (refine tst_in ?_ ?_; (focus (intro h_; exfalso; first | omega | ((try simp only [decide_eq_true_eq, decide_eq_false_iff_not] at h_); omega) | (simp [mulSz, Cont.len, bne] at h_; done) | (simp [mulSz, Cont.len, bne] at h_; omega))); intro _; conv => whnf)
    | (refine tst_in ?_ ?_; rotate_left; (focus (intro h_; exfalso; first | omega | ((try simp only [decide_eq_true_eq, decide_eq_false_iff_not] at h_); omega) | (simp [mulSz, Cont.len, bne] at h_; done) | (simp [mulSz, Cont.len, bne] at h_; omega))); intro _; conv => whnf))
  rw [show ((W * n : Nat) : Int).toNat = W * n from Int.toNat_natCast _]
  conv => whnf
  repeat (first
    | (refine And.intro ?_ ?_; (focus (first | omega | decide | exact Int.natCast_nonneg _ | ((repeat' refine And.intro ?_ ?_) <;> first | omega | exact Int.natCast_nonneg _ | (simp only [i64max]; omega) | (simp only [u8max]; omega) | (simp only [i64max, u8max, u16max, u32max, u64max]; omega) | (simp [mulSz, Cont.len, bne]; done) | (simp [mulSz, Cont.len, bne]; omega)))); conv => whnf)
    | (refine tst_in ?_ ?_; (focus (intro h_; exfalso; first | omega | ((try simp only [decide_eq_true_eq, decide_eq_false_iff_not] at h_); omega) | (simp [mulSz, Cont.len, bne] at h_; done) | (simp [mulSz, Cont.len, bne] at h_; omega))); intro _; conv => whnf)
    | (refine tst_in ?_ ?_; rotate_left; (focus (intro h_; exfalso; first | omega | ((try simp only [decide_eq_true_eq, decide_eq_false_iff_not] at h_); omega) | (simp [mulSz, Cont.len, bne] at h_; done) | (simp [mulSz, Cont.len, bne] at h_; omega))); intro _; conv => whnf))
  refine ⟨⟨[0, 1], ((0, List.replicate (W * n) false) : Nat × List Bool), ?_, Nat.zero_le _⟩, ?_⟩
  · show stLe _ _ (st15 A W n ca 0 (List.replicate (W * n) false)) _
    conv => whnf
    repeat' (first | exact True.intro | rfl | refine And.intro ?_ ?_)
    all_goals (conv => whnf)
    repeat' (first | exact True.intro | rfl | refine And.intro ?_ ?_)
    all_goals (try (first | omega | exact True.intro | rfl | assumption | (change LE.le (α := Nat) _ _; first | omega | (simp only []; omega)) | (simp only []; done) | (simp only []; omega) | (simp; done) | (simp; omega)))
  · rintro ⟨k, t⟩ hk
    have hk : k ≤ p := hk
    have hlk := hl k
    have hmk : W * k ≤ W * n := Nat.mul_le_mul_left _ (by omega)
    show forceSt (st15 A W n ca k t) _
    conv => whnf
    refine tst_in (fun hlt => ?_) (fun hge => ?_)
    · skip
      have hlt : k < n := by simp at hlt; omega
      have e0 : 0 + ((k : Int)).toNat = k := by omega
      obtain ⟨v1, v2⟩ := hv k (by omega)
      obtain ⟨x, hx⟩ : ∃ x : Nat, A.getD k 0 = x := ⟨(A.getD k 0).toNat, by omega⟩
      have hxt : (A.getD k 0).toNat = x := by rw [hx]; rfl
      rw [hx] at v1 v2
      have v3 : x < 2 ^ W := by omega
      have AW := appendWord_f (rwd A W k) t x W (W * k) hlk (by omega) h1 h2 (by omega)
      conv => whnf
      repeat (first
        | (refine And.intro ?_ ?_; (focus (first | omega | decide | exact Int.natCast_nonneg _ | ((repeat' refine And.intro ?_ ?_) <;> first | omega | exact Int.natCast_nonneg _ | (simp only [i64max]; omega) | (simp only [u8max]; omega) | (simp only [i64max, u8max, u16max, u32max, u64max]; omega) | (simp [mulSz, Cont.len, bne]; done) | (simp [mulSz, Cont.len, bne]; omega)))); conv => whnf)
        | (refine tst_in ?_ ?_; (focus (intro h_; exfalso; first | omega | ((try simp only [decide_eq_true_eq, decide_eq_false_iff_not] at h_); omega) | (simp [mulSz, Cont.len, bne] at h_; done) | (simp [mulSz, Cont.len, bne] at h_; omega))); intro _; conv => whnf)
        | (refine tst_in ?_ ?_; rotate_left; (focus (intro h_; exfalso; first | omega | ((try simp only [decide_eq_true_eq, decide_eq_false_iff_not] at h_); omega) | (simp [mulSz, Cont.len, bne] at h_; done) | (simp [mulSz, Cont.len, bne] at h_; omega))); intro _; conv => whnf))
      rw [e0, hx]
      conv => whnf
      repeat (first
        | (refine And.intro ?_ ?_; (focus (first | omega | decide | exact Int.natCast_nonneg _ | ((repeat' refine And.intro ?_ ?_) <;> first | omega | exact Int.natCast_nonneg _ | (simp only [i64max]; omega) | (simp only [u8max]; omega) | (simp only [i64max, u8max, u16max, u32max, u64max]; omega) | (simp [mulSz, Cont.len, bne]; done) | (simp [mulSz, Cont.len, bne]; omega)))); conv => whnf)
        | (refine tst_in ?_ ?_; (focus (intro h_; exfalso; first | omega | ((try simp only [decide_eq_true_eq, decide_eq_false_iff_not] at h_); omega) | (simp [mulSz, Cont.len, bne] at h_; done) | (simp [mulSz, Cont.len, bne] at h_; omega))); intro _; conv => whnf)
        | (refine tst_in ?_ ?_; rotate_left; (focus (intro h_; exfalso; first | omega | ((try simp only [decide_eq_true_eq, decide_eq_false_iff_not] at h_); omega) | (simp [mulSz, Cont.len, bne] at h_; done) | (simp [mulSz, Cont.len, bne] at h_; omega))); intro _; conv => whnf))
      rw [show (1 : Int) * 2 ^ (min ((W : Int)).toNat (IntKind.bits .i64)) = ((2 ^ W : Nat) : Int) by rw [Int.toNat_natCast, Nat.min_eq_left (show W ≤ IntKind.bits .i64 by show W ≤ 64; omega)]; simp]
      conv => whnf
      repeat (first
        | (refine And.intro ?_ ?_; (focus (first | omega | decide | exact Int.natCast_nonneg _ | ((repeat' refine And.intro ?_ ?_) <;> first | omega | exact Int.natCast_nonneg _ | (simp only [i64max]; omega) | (simp only [u8max]; omega) | (simp only [i64max, u8max, u16max, u32max, u64max]; omega) | (simp [mulSz, Cont.len, bne]; done) | (simp [mulSz, Cont.len, bne]; omega)))); conv => whnf)
        | (refine tst_in ?_ ?_; (focus (intro h_; exfalso; first | omega | ((try simp only [decide_eq_true_eq, decide_eq_false_iff_not] at h_); omega) | (simp [mulSz, Cont.len, bne] at h_; done) | (simp [mulSz, Cont.len, bne] at h_; omega))); intro _; conv => whnf)
        | (refine tst_in ?_ ?_; rotate_left; (focus (intro h_; exfalso; first | omega | ((try simp only [decide_eq_true_eq, decide_eq_false_iff_not] at h_); omega) | (simp [mulSz, Cont.len, bne] at h_; done) | (simp [mulSz, Cont.len, bne] at h_; omega))); intro _; conv => whnf))
      refine ⟨_, [1], AW, ?_⟩
      conv => whnf
      refine ⟨?_, ?_, ?_⟩
      · conv => whnf
        repeat' (first | exact True.intro | rfl | refine And.intro ?_ ?_)
        all_goals (conv => whnf)
        repeat' (first | exact True.intro | rfl | refine And.intro ?_ ?_)
        all_goals (try (first | rfl | omega | (simp; done) | (simp; omega)))
      · conv => whnf
        repeat' (first | exact True.intro | rfl | refine And.intro ?_ ?_)
        all_goals (conv => whnf)
        repeat' (first | exact True.intro | rfl | refine And.intro ?_ ?_)
        all_goals (try (first | rfl | omega | (simp; done) | (simp; omega)))
      conv => whnf
      refine ⟨?_, True.intro⟩
      rintro (t2 : List Bool) -
      conv => whnf
      conv => whnf
      repeat (first
        | (refine And.intro ?_ ?_; (focus (first | omega | decide | exact Int.natCast_nonneg _ | ((repeat' refine And.intro ?_ ?_) <;> first | omega | exact Int.natCast_nonneg _ | (simp only [i64max]; omega) | (simp only [u8max]; omega) | (simp only [i64max, u8max, u16max, u32max, u64max]; omega) | (simp [mulSz, Cont.len, bne]; done) | (simp [mulSz, Cont.len, bne]; omega)))); conv => whnf)
        | (refine tst_in ?_ ?_; (focus (intro h_; exfalso; first | omega | ((try simp only [decide_eq_true_eq, decide_eq_false_iff_not] at h_); omega) | (simp [mulSz, Cont.len, bne] at h_; done) | (simp [mulSz, Cont.len, bne] at h_; omega))); intro _; conv => whnf)
        | (refine tst_in ?_ ?_; rotate_left; (focus (intro h_; exfalso; first | omega | ((try simp only [decide_eq_true_eq, decide_eq_false_iff_not] at h_); omega) | (simp [mulSz, Cont.len, bne] at h_; done) | (simp [mulSz, Cont.len, bne] at h_; omega))); intro _; conv => whnf))
      refine ⟨[0, 2], ((k + 1, t2) : Nat × List Bool), ?_, (by show k + 1 ≤ p; omega), (by show p - (k + 1) < p - k; omega)⟩
      show stLe _ _ (st15 A W n ca (k + 1) t2) _
      have hx2 : rwd A W (k + 1) = rwd A W k ++ bt W x W := by rw [rwd, hxt]
      have hx3 : W * (k + 1) = W * k + W := Nat.mul_succ _ _
      conv => whnf
      repeat' (first | exact True.intro | rfl | refine And.intro ?_ ?_)
      all_goals (conv => whnf)
      repeat' (first | exact True.intro | rfl | refine And.intro ?_ ?_)
      all_goals (try (first | omega | exact True.intro | rfl | assumption | (change LE.le (α := Nat) _ _; first | omega | (simp only [hx2, hx3]; omega)) | (simp only [hx2, hx3]; done) | (simp only [hx2, hx3]; omega) | (simp [hx2, hx3]; done) | (simp [hx2, hx3]; omega)))
    · skip
      have hge : k = n := by simp at hge; omega
      subst hge
      conv => whnf
      repeat (first
        | (refine And.intro ?_ ?_; (focus (first | omega | decide | exact Int.natCast_nonneg _ | ((repeat' refine And.intro ?_ ?_) <;> first | omega | exact Int.natCast_nonneg _ | (simp only [i64max]; omega) | (simp only [u8max]; omega) | (simp only [i64max, u8max, u16max, u32max, u64max]; omega) | (simp [mulSz, Cont.len, bne]; done) | (simp [mulSz, Cont.len, bne]; omega)))); conv => whnf)
        | (refine tst_in ?_ ?_; (focus (intro h_; exfalso; first | omega | ((try simp only [decide_eq_true_eq, decide_eq_false_iff_not] at h_); omega) | (simp [mulSz, Cont.len, bne] at h_; done) | (simp [mulSz, Cont.len, bne] at h_; omega))); intro _; conv => whnf)
        | (refine tst_in ?_ ?_; rotate_left; (focus (intro h_; exfalso; first | omega | ((try simp only [decide_eq_true_eq, decide_eq_false_iff_not] at h_); omega) | (simp [mulSz, Cont.len, bne] at h_; done) | (simp [mulSz, Cont.len, bne] at h_; omega))); intro _; conv => whnf))
      refine .inl ⟨t, [0, 1], ?_⟩
      conv => whnf
      repeat' (first | exact True.intro | rfl | refine And.intro ?_ ?_)
      all_goals (conv => whnf)
      repeat' (first | exact True.intro | rfl | refine And.intro ?_ ?_)
      all_goals (try (first | omega | exact True.intro | rfl | assumption | (change LE.le (α := Nat) _ _; first | omega | (simp only [hl]; omega)) | (simp only [hl]; done) | (simp only [hl]; omega) | (simp [hl]; done) | (simp [hl]; omega)))
set_option maxHeartbeats 0 in
set_option maxRecDepth 100000 in
theorem Row_n (A : List Int) (W n ca p : Nat) (hA : n ≤ A.length) (h1 : 1 ≤ W) (h2 : W ≤ 16) (hN : W * n ≤ 32768) (hv : ∀ i, i < p → okW A W i) (hp : p < n) (hbad : ¬ okW A W p) :
    Fits Try.prog 15 ⟨[.slice 0 0 n ca, .int .i64 W], [.seg false (.ints .i64 A)], [rowB [] 1]⟩ := by
  have hl := rwd_len A W
  have hb0 : W * n ≤ 32768 := hN
  have hnn : n ≤ W * n := Nat.le_mul_of_pos_left n (by omega)
  have hpw : 2 ^ W ≤ 2 ^ 16 := Nat.pow_le_pow_right (by decide) h2
  have hpp : 1 ≤ 2 ^ W := Nat.one_le_two_pow
  have IW := isWidth_q (W : Int)
  rw [decide_eq_true (show (1 : Int) ≤ W by omega), decide_eq_true (show (W : Int) ≤ 16 by omega)] at IW
  have hq : ¬ 32768 / (W : Int) < (n : Int) := by
    apply Int.not_lt.mpr
    apply Int.le_ediv_of_mul_le (by omega)
    rw [Int.mul_comm]; exact_mod_cast hN
  have hm : (n : Int) * (W : Int) = ((W * n : Nat) : Int) := by rw [Int.natCast_mul, Int.mul_comm]
  refine fits_of_body (C := cfgs 1) (c := c15) (ts := [4, 5]) tok0 mixed0 (fun | 5 => some (inv15 A W n ca p) | _ => none) (fun _ => none)
    Try.func15 (by kernel_rfl) (by kernel_rfl) (by kernel_rfl) (by kernel_rfl) rfl ?_
  conv => whnf
  repeat (first
    | (refine And.intro ?_ ?_; (focus (first | omega | decide | exact Int.natCast_nonneg _ | ((repeat' refine And.intro ?_ ?_) <;> first | omega | exact Int.natCast_nonneg _ | (simp only [i64max]; omega) | (simp only [u8max]; omega) | (simp only [i64max, u8max, u16max, u32max, u64max]; omega) | (simp [mulSz, Cont.len, bne]; done) | (simp [mulSz, Cont.len, bne]; omega)))); conv => whnf)
    | (refine tst_in ?_ ?_; (focus (intro h_; exfalso; first | omega | ((try simp only [decide_eq_true_eq, decide_eq_false_iff_not] at h_); omega) | (simp [mulSz, Cont.len, bne] at h_; done) | (simp [mulSz, Cont.len, bne] at h_; omega))); intro _; conv => whnf)
    | (refine tst_in ?_ ?_; rotate_left; (focus (intro h_; exfalso; first | omega | ((try simp only [decide_eq_true_eq, decide_eq_false_iff_not] at h_); omega) | (simp [mulSz, Cont.len, bne] at h_; done) | (simp [mulSz, Cont.len, bne] at h_; omega))); intro _; conv => whnf))
  refine ⟨_, [], IW, ?_⟩
  conv => whnf
  refine ⟨?_, ?_, ?_⟩
  · conv => whnf
    repeat' (first | exact True.intro | rfl | refine And.intro ?_ ?_)
    all_goals (conv => whnf)
    repeat' (first | exact True.intro | rfl | refine And.intro ?_ ?_)
    all_goals (try (first | rfl | omega | (simp; done) | (simp; omega)))
  · conv => whnf
    repeat' (first | exact True.intro | rfl | refine And.intro ?_ ?_)
    all_goals (conv => whnf)
    repeat' (first | exact True.intro | rfl | refine And.intro ?_ ?_)
    all_goals (try (first | rfl | omega | (simp; done) | (simp; omega)))
  conv => whnf
  conv => whnf
  repeat (first
    | (refine And.intro ?_ ?_; (focus (first | omega | decide | exact Int.natCast_nonneg _ | ((repeat' refine And.intro ?_ ?_) <;> first | omega | exact Int.natCast_nonneg _ | (simp only [i64max]; omega) | (simp only [u8max]; omega) | (simp only [i64max, u8max, u16max, u32max, u64max]; omega) | (simp [mulSz, Cont.len, bne]; done) | (simp [mulSz, Cont.len, bne]; omega)))); conv => whnf)
    | (refine tst_in ?_ ?_; (focus (intro h_; exfalso; first | omega | ((try simp only [decide_eq_true_eq, decide_eq_false_iff_not] at h_); omega) | (simp [mulSz, Cont.len, bne] at h_; done) | (simp [mulSz, Cont.len, bne] at h_; omega))); intro _; conv => whnf)
    | (refine tst_in ?_ ?_; rotate_left; (focus (intro h_; exfalso; first | omega | ((try simp only [decide_eq_true_eq, decide_eq_false_iff_not] at h_); omega) | (simp [mulSz, Cont.len, bne] at h_; done) | (simp [mulSz, Cont.len, bne] at h_; omega))); intro _; conv => whnf))
  conv => whnf
  rw [hm]
  conv => whnf
  repeat (first
    | (refine And.intro ?_ ?_; (focus (first | omega | decide | exact Int.natCast_nonneg _ | ((repeat' refine And.intro ?_ ?_) <;> first | omega | exact Int.natCast_nonneg _ | (simp only [i64max]; omega) | (simp only [u8max]; omega) | (simp only [i64max, u8max, u16max, u32max, u64max]; omega) | (simp [mulSz, Cont.len, bne]; done) | (simp [mulSz, Cont.len, bne]; omega)))); conv => whnf)
    | (refine tst_in ?_ ?_; (focus (intro h_; exfalso; first | omega | ((try simp only [decide_eq_true_eq, decide_eq_false_iff_not] at h_); omega) | (simp [mulSz, Cont.len, bne] at h_; done) | (simp [mulSz, Cont.len, bne] at h_; omega))); intro _; conv => whnf)
    | (refine tst_in ?_ ?_; rotate_left; (focus (intro h_; exfalso; first | omega | ((try simp only [decide_eq_true_eq, decide_eq_false_iff_not] at h_); omega) | (simp [mulSz, Cont.len, bne] at h_; done) | (simp [mulSz, Cont.len, bne] at h_; omega))); intro _; conv => whnf))
  rw [show ((W * n : Nat) : Int).toNat = W * n from Int.toNat_natCast _]
  conv => whnf
  repeat (first
    | (refine And.intro ?_ ?_; (focus (first | omega | decide | exact Int.natCast_nonneg _ | ((repeat' refine And.intro ?_ ?_) <;> first | omega | exact Int.natCast_nonneg _ | (simp only [i64max]; omega) | (simp only [u8max]; omega) | (simp only [i64max, u8max, u16max, u32max, u64max]; omega) | (simp [mulSz, Cont.len, bne]; done) | (simp [mulSz, Cont.len, bne]; omega)))); conv => whnf)
    | (refine tst_in ?_ ?_; (focus (intro h_; exfalso; first | omega | ((try simp only [decide_eq_true_eq, decide_eq_false_iff_not] at h_); omega) | (simp [mulSz, Cont.len, bne] at h_; done) | (simp [mulSz, Cont.len, bne] at h_; omega))); intro _; conv => whnf)
    | (refine tst_in ?_ ?_; rotate_left; (focus (intro h_; exfalso; first | omega | ((try simp only [decide_eq_true_eq, decide_eq_false_iff_not] at h_); omega) | (simp [mulSz, Cont.len, bne] at h_; done) | (simp [mulSz, Cont.len, bne] at h_; omega))); intro _; conv => whnf))
  refine ⟨⟨[0, 1], ((0, List.replicate (W * n) false) : Nat × List Bool), ?_, Nat.zero_le _⟩, ?_⟩
  · show stLe _ _ (st15 A W n ca 0 (List.replicate (W * n) false)) _
    conv => whnf
    repeat' (first | exact True.intro | rfl | refine And.intro ?_ ?_)
    all_goals (conv => whnf)
    repeat' (first | exact True.intro | rfl | refine And.intro ?_ ?_)
    all_goals (try (first | omega | exact True.intro | rfl | assumption | (change LE.le (α := Nat) _ _; first | omega | (simp only []; omega)) | (simp only []; done) | (simp only []; omega) | (simp; done) | (simp; omega)))
  · rintro ⟨k, t⟩ hk
    have hk : k ≤ p := hk
    have hlk := hl k
    have hmk : W * k ≤ W * n := Nat.mul_le_mul_left _ (by omega)
    show forceSt (st15 A W n ca k t) _
    conv => whnf
    refine tst_in (fun hlt => ?_) (fun hge => ?_)
    · skip
      have hlt : k < n := by simp at hlt; omega
      have e0 : 0 + ((k : Int)).toNat = k := by omega
      rcases Nat.lt_or_ge k p with hkp | hkp
      · skip
        obtain ⟨v1, v2⟩ := hv k hkp
        obtain ⟨x, hx⟩ : ∃ x : Nat, A.getD k 0 = x := ⟨(A.getD k 0).toNat, by omega⟩
        have hxt : (A.getD k 0).toNat = x := by rw [hx]; rfl
        rw [hx] at v1 v2
        have v3 : x < 2 ^ W := by omega
        have AW := appendWord_f (rwd A W k) t x W (W * k) hlk (by omega) h1 h2 (by omega)
        conv => whnf
        repeat (first
          | (refine And.intro ?_ ?_; (focus (first | omega | decide | exact Int.natCast_nonneg _ | ((repeat' refine And.intro ?_ ?_) <;> first | omega | exact Int.natCast_nonneg _ | (simp only [i64max]; omega) | (simp only [u8max]; omega) | (simp only [i64max, u8max, u16max, u32max, u64max]; omega) | (simp [mulSz, Cont.len, bne]; done) | (simp [mulSz, Cont.len, bne]; omega)))); conv => whnf)
          | (refine tst_in ?_ ?_; (focus (intro h_; exfalso; first | omega | ((try simp only [decide_eq_true_eq, decide_eq_false_iff_not] at h_); omega) | (simp [mulSz, Cont.len, bne] at h_; done) | (simp [mulSz, Cont.len, bne] at h_; omega))); intro _; conv => whnf)
          | (refine tst_in ?_ ?_; rotate_left; (focus (intro h_; exfalso; first | omega | ((try simp only [decide_eq_true_eq, decide_eq_false_iff_not] at h_); omega) | (simp [mulSz, Cont.len, bne] at h_; done) | (simp [mulSz, Cont.len, bne] at h_; omega))); intro _; conv => whnf))
        rw [e0, hx]
        conv => whnf
        repeat (first
          | (refine And.intro ?_ ?_; (focus (first | omega | decide | exact Int.natCast_nonneg _ | ((repeat' refine And.intro ?_ ?_) <;> first | omega | exact Int.natCast_nonneg _ | (simp only [i64max]; omega) | (simp only [u8max]; omega) | (simp only [i64max, u8max, u16max, u32max, u64max]; omega) | (simp [mulSz, Cont.len, bne]; done) | (simp [mulSz, Cont.len, bne]; omega)))); conv => whnf)
          | (refine tst_in ?_ ?_; (focus (intro h_; exfalso; first | omega | ((try simp only [decide_eq_true_eq, decide_eq_false_iff_not] at h_); omega) | (simp [mulSz, Cont.len, bne] at h_; done) | (simp [mulSz, Cont.len, bne] at h_; omega))); intro _; conv => whnf)
          | (refine tst_in ?_ ?_; rotate_left; (focus (intro h_; exfalso; first | omega | ((try simp only [decide_eq_true_eq, decide_eq_false_iff_not] at h_); omega) | (simp [mulSz, Cont.len, bne] at h_; done) | (simp [mulSz, Cont.len, bne] at h_; omega))); intro _; conv => whnf))
        rw [show (1 : Int) * 2 ^ (min ((W : Int)).toNat (IntKind.bits .i64)) = ((2 ^ W : Nat) : Int) by rw [Int.toNat_natCast, Nat.min_eq_left (show W ≤ IntKind.bits .i64 by show W ≤ 64; omega)]; simp]
        conv => whnf
        repeat (first
          | (refine And.intro ?_ ?_; (focus (first | omega | decide | exact Int.natCast_nonneg _ | ((repeat' refine And.intro ?_ ?_) <;> first | omega | exact Int.natCast_nonneg _ | (simp only [i64max]; omega) | (simp only [u8max]; omega) | (simp only [i64max, u8max, u16max, u32max, u64max]; omega) | (simp [mulSz, Cont.len, bne]; done) | (simp [mulSz, Cont.len, bne]; omega)))); conv => whnf)
          | (refine tst_in ?_ ?_; (focus (intro h_; exfalso; first | omega | ((try simp only [decide_eq_true_eq, decide_eq_false_iff_not] at h_); omega) | (simp [mulSz, Cont.len, bne] at h_; done) | (simp [mulSz, Cont.len, bne] at h_; omega))); intro _; conv => whnf)
          | (refine tst_in ?_ ?_; rotate_left; (focus (intro h_; exfalso; first | omega | ((try simp only [decide_eq_true_eq, decide_eq_false_iff_not] at h_); omega) | (simp [mulSz, Cont.len, bne] at h_; done) | (simp [mulSz, Cont.len, bne] at h_; omega))); intro _; conv => whnf))
        refine ⟨_, [1], AW, ?_⟩
        conv => whnf
        refine ⟨?_, ?_, ?_⟩
        · conv => whnf
          repeat' (first | exact True.intro | rfl | refine And.intro ?_ ?_)
          all_goals (conv => whnf)
          repeat' (first | exact True.intro | rfl | refine And.intro ?_ ?_)
          all_goals (try (first | rfl | omega | (simp; done) | (simp; omega)))
        · conv => whnf
          repeat' (first | exact True.intro | rfl | refine And.intro ?_ ?_)
          all_goals (conv => whnf)
          repeat' (first | exact True.intro | rfl | refine And.intro ?_ ?_)
          all_goals (try (first | rfl | omega | (simp; done) | (simp; omega)))
        conv => whnf
        refine ⟨?_, True.intro⟩
        rintro (t2 : List Bool) -
        conv => whnf
        conv => whnf
        repeat (first
          | (refine And.intro ?_ ?_; (focus (first | omega | decide | exact Int.natCast_nonneg _ | ((repeat' refine And.intro ?_ ?_) <;> first | omega | exact Int.natCast_nonneg _ | (simp only [i64max]; omega) | (simp only [u8max]; omega) | (simp only [i64max, u8max, u16max, u32max, u64max]; omega) | (simp [mulSz, Cont.len, bne]; done) | (simp [mulSz, Cont.len, bne]; omega)))); conv => whnf)
          | (refine tst_in ?_ ?_; (focus (intro h_; exfalso; first | omega | ((try simp only [decide_eq_true_eq, decide_eq_false_iff_not] at h_); omega) | (simp [mulSz, Cont.len, bne] at h_; done) | (simp [mulSz, Cont.len, bne] at h_; omega))); intro _; conv => whnf)
          | (refine tst_in ?_ ?_; rotate_left; (focus (intro h_; exfalso; first | omega | ((try simp only [decide_eq_true_eq, decide_eq_false_iff_not] at h_); omega) | (simp [mulSz, Cont.len, bne] at h_; done) | (simp [mulSz, Cont.len, bne] at h_; omega))); intro _; conv => whnf))
        refine ⟨[0, 2], ((k + 1, t2) : Nat × List Bool), ?_, (by show k + 1 ≤ p; omega), (by show p - (k + 1) < p - k; omega)⟩
        show stLe _ _ (st15 A W n ca (k + 1) t2) _
        have hx2 : rwd A W (k + 1) = rwd A W k ++ bt W x W := by rw [rwd, hxt]
        have hx3 : W * (k + 1) = W * k + W := Nat.mul_succ _ _
        conv => whnf
        repeat' (first | exact True.intro | rfl | refine And.intro ?_ ?_)
        all_goals (conv => whnf)
        repeat' (first | exact True.intro | rfl | refine And.intro ?_ ?_)
        all_goals (try (first | omega | exact True.intro | rfl | assumption | (change LE.le (α := Nat) _ _; first | omega | (simp only [hx2, hx3]; omega)) | (simp only [hx2, hx3]; done) | (simp only [hx2, hx3]; omega) | (simp [hx2, hx3]; done) | (simp [hx2, hx3]; omega)))
      · have hkp : k = p := by omega
        subst hkp
        conv => whnf
        repeat (first
          | (refine And.intro ?_ ?_; (focus (first | omega | decide | exact Int.natCast_nonneg _ | ((repeat' refine And.intro ?_ ?_) <;> first | omega | exact Int.natCast_nonneg _ | (simp only [i64max]; omega) | (simp only [u8max]; omega) | (simp only [i64max, u8max, u16max, u32max, u64max]; omega) | (simp [mulSz, Cont.len, bne]; done) | (simp [mulSz, Cont.len, bne]; omega)))); conv => whnf)
          | (refine tst_in ?_ ?_; (focus (intro h_; exfalso; first | omega | ((try simp only [decide_eq_true_eq, decide_eq_false_iff_not] at h_); omega) | (simp [mulSz, Cont.len, bne] at h_; done) | (simp [mulSz, Cont.len, bne] at h_; omega))); intro _; conv => whnf)
          | (refine tst_in ?_ ?_; rotate_left; (focus (intro h_; exfalso; first | omega | ((try simp only [decide_eq_true_eq, decide_eq_false_iff_not] at h_); omega) | (simp [mulSz, Cont.len, bne] at h_; done) | (simp [mulSz, Cont.len, bne] at h_; omega))); intro _; conv => whnf))
        rw [e0]
        by_cases hneg : A.getD k 0 < 0
        · skip
          conv => whnf
          repeat (first
            | (refine And.intro ?_ ?_; (focus (first | omega | decide | exact Int.natCast_nonneg _ | ((repeat' refine And.intro ?_ ?_) <;> first | omega | exact Int.natCast_nonneg _ | (simp only [i64max]; omega) | (simp only [u8max]; omega) | (simp only [i64max, u8max, u16max, u32max, u64max]; omega) | (simp [mulSz, Cont.len, bne]; done) | (simp [mulSz, Cont.len, bne]; omega)))); conv => whnf)
            | (refine tst_in ?_ ?_; (focus (intro h_; exfalso; first | omega | ((try simp only [decide_eq_true_eq, decide_eq_false_iff_not] at h_); omega) | (simp [mulSz, Cont.len, bne] at h_; done) | (simp [mulSz, Cont.len, bne] at h_; omega))); intro _; conv => whnf)
            | (refine tst_in ?_ ?_; rotate_left; (focus (intro h_; exfalso; first | omega | ((try simp only [decide_eq_true_eq, decide_eq_false_iff_not] at h_); omega) | (simp [mulSz, Cont.len, bne] at h_; done) | (simp [mulSz, Cont.len, bne] at h_; omega))); intro _; conv => whnf))
          refine .inl ⟨[], [0, 2], ?_⟩
          conv => whnf
          repeat' (first | exact True.intro | rfl | refine And.intro ?_ ?_)
          all_goals (conv => whnf)
          repeat' (first | exact True.intro | rfl | refine And.intro ?_ ?_)
          all_goals (try (first | omega | exact True.intro | rfl | assumption | (change LE.le (α := Nat) _ _; first | omega | (simp only []; omega)) | (simp only []; done) | (simp only []; omega) | (simp; done) | (simp; omega)))
        · skip
          have hbig : ((2 ^ W : Nat) : Int) ≤ A.getD k 0 := by
            unfold okW at hbad
            omega
          conv => whnf
          repeat (first
            | (refine And.intro ?_ ?_; (focus (first | omega | decide | exact Int.natCast_nonneg _ | ((repeat' refine And.intro ?_ ?_) <;> first | omega | exact Int.natCast_nonneg _ | (simp only [i64max]; omega) | (simp only [u8max]; omega) | (simp only [i64max, u8max, u16max, u32max, u64max]; omega) | (simp [mulSz, Cont.len, bne]; done) | (simp [mulSz, Cont.len, bne]; omega)))); conv => whnf)
            | (refine tst_in ?_ ?_; (focus (intro h_; exfalso; first | omega | ((try simp only [decide_eq_true_eq, decide_eq_false_iff_not] at h_); omega) | (simp [mulSz, Cont.len, bne] at h_; done) | (simp [mulSz, Cont.len, bne] at h_; omega))); intro _; conv => whnf)
            | (refine tst_in ?_ ?_; rotate_left; (focus (intro h_; exfalso; first | omega | ((try simp only [decide_eq_true_eq, decide_eq_false_iff_not] at h_); omega) | (simp [mulSz, Cont.len, bne] at h_; done) | (simp [mulSz, Cont.len, bne] at h_; omega))); intro _; conv => whnf))
          rw [show (1 : Int) * 2 ^ (min ((W : Int)).toNat (IntKind.bits .i64)) = ((2 ^ W : Nat) : Int) by rw [Int.toNat_natCast, Nat.min_eq_left (show W ≤ IntKind.bits .i64 by show W ≤ 64; omega)]; simp]
          conv => whnf
          repeat (first
            | (refine And.intro ?_ ?_; (focus (first | omega | decide | exact Int.natCast_nonneg _ | ((repeat' refine And.intro ?_ ?_) <;> first | omega | exact Int.natCast_nonneg _ | (simp only [i64max]; omega) | (simp only [u8max]; omega) | (simp only [i64max, u8max, u16max, u32max, u64max]; omega) | (simp [mulSz, Cont.len, bne]; done) | (simp [mulSz, Cont.len, bne]; omega)))); conv => whnf)
            | (refine tst_in ?_ ?_; (focus (intro h_; exfalso; first | omega | ((try simp only [decide_eq_true_eq, decide_eq_false_iff_not] at h_); omega) | (simp [mulSz, Cont.len, bne] at h_; done) | (simp [mulSz, Cont.len, bne] at h_; omega))); intro _; conv => whnf)
            | (refine tst_in ?_ ?_; rotate_left; (focus (intro h_; exfalso; first | omega | ((try simp only [decide_eq_true_eq, decide_eq_false_iff_not] at h_); omega) | (simp [mulSz, Cont.len, bne] at h_; done) | (simp [mulSz, Cont.len, bne] at h_; omega))); intro _; conv => whnf))
          refine .inl ⟨[], [0, 2], ?_⟩
          conv => whnf
          repeat' (first | exact True.intro | rfl | refine And.intro ?_ ?_)
          all_goals (conv => whnf)
          repeat' (first | exact True.intro | rfl | refine And.intro ?_ ?_)
          all_goals (try (first | omega | exact True.intro | rfl | assumption | (change LE.le (α := Nat) _ _; first | omega | (simp only []; omega)) | (simp only []; done) | (simp only []; omega) | (simp; done) | (simp; omega)))
    · skip
      have hge : k = n := by simp at hge; omega
      exfalso; omega
set_option maxHeartbeats 0 in
set_option maxRecDepth 100000 in
theorem rRow_y (A : List Int) (W n ca p : Nat) (hA : n ≤ A.length) (h1 : 1 ≤ W) (h2 : W ≤ 16) (hN : W * n ≤ 32768) (hv : ∀ i, i < p → okW A W i) (hp : p = n) :
    Fits Try.prog 16 ⟨[.slice 0 0 n ca, .int .i64 W], [.seg false (.ints .i64 A)], [rowB (rwd A W n) 0]⟩ := by
  have hl := rwd_len A W
  have hb0 : W * n ≤ 32768 := hN
  have hnn : n ≤ W * n := Nat.le_mul_of_pos_left n (by omega)
  have hpw : 2 ^ W ≤ 2 ^ 16 := Nat.pow_le_pow_right (by decide) h2
  have hpp : 1 ≤ 2 ^ W := Nat.one_le_two_pow
  have PW0 := power_q W (by omega)
  have hm : (W : Int) * (n : Int) = ((W * n : Nat) : Int) := (Int.natCast_mul _ _).symm
  refine fits_of_body (C := cfg16 [inv16b A W n ca]) (c := c16) (ts := [4, 5]) tok0 mixed0 (fun | 5 => some (inv16 A W n ca p) | _ => none) (fun _ => none)
    Try.func16 (by kernel_rfl) (by kernel_rfl) (by kernel_rfl) (by kernel_rfl) rfl ?_
  conv => whnf
  repeat (first
    | (refine And.intro ?_ ?_; (focus (first | omega | decide | exact Int.natCast_nonneg _ | ((repeat' refine And.intro ?_ ?_) <;> first | omega | exact Int.natCast_nonneg _ | (simp only [i64max]; omega) | (simp only [u8max]; omega) | (simp only [i64max, u8max, u16max, u32max, u64max]; omega) | (simp [mulSz, Cont.len, bne]; done) | (simp [mulSz, Cont.len, bne]; omega)))); conv => whnf)
    | (refine tst_in ?_ ?_; (focus (intro h_; exfalso; first | omega | ((try simp only [decide_eq_true_eq, decide_eq_false_iff_not] at h_); omega) | (simp [mulSz, Cont.len, bne] at h_; done) | (simp [mulSz, Cont.len, bne] at h_; omega))); intro _; conv => whnf)
    | (refine tst_in ?_ ?_; rotate_left; (focus (intro h_; exfalso; first | omega | ((try simp only [decide_eq_true_eq, decide_eq_false_iff_not] at h_); omega) | (simp [mulSz, Cont.len, bne] at h_; done) | (simp [mulSz, Cont.len, bne] at h_; omega))); intro _; conv => whnf))
  rw [hm]
  conv => whnf
  repeat (first
    | (refine And.intro ?_ ?_; (focus (first | omega | decide | exact Int.natCast_nonneg _ | ((repeat' refine And.intro ?_ ?_) <;> first | omega | exact Int.natCast_nonneg _ | (simp only [i64max]; omega) | (simp only [u8max]; omega) | (simp only [i64max, u8max, u16max, u32max, u64max]; omega) | (simp [mulSz, Cont.len, bne]; done) | (simp [mulSz, Cont.len, bne]; omega)))); conv => whnf)
    | (refine tst_in ?_ ?_; (focus (intro h_; exfalso; first | omega | ((try simp only [decide_eq_true_eq, decide_eq_false_iff_not] at h_); omega) | (simp [mulSz, Cont.len, bne] at h_; done) | (simp [mulSz, Cont.len, bne] at h_; omega))); intro _; conv => whnf)
    | (refine tst_in ?_ ?_; rotate_left; (focus (intro h_; exfalso; first | omega | ((try simp only [decide_eq_true_eq, decide_eq_false_iff_not] at h_); omega) | (simp [mulSz, Cont.len, bne] at h_; done) | (simp [mulSz, Cont.len, bne] at h_; omega))); intro _; conv => whnf))
  refine ⟨⟨[0, 1], ((0, []) : Nat × List Bool), ?_, Nat.zero_le _⟩, ?_⟩
  · show stLe _ _ (st16 A W n ca 0 (W * 0) .any (rwd A W 0) []) _
    conv => whnf
    repeat' (first | exact True.intro | rfl | refine And.intro ?_ ?_)
    all_goals (conv => whnf)
    repeat' (first | exact True.intro | rfl | refine And.intro ?_ ?_)
    all_goals (try (first | omega | exact True.intro | rfl | assumption | (change LE.le (α := Nat) _ _; first | omega | (simp only [rwd]; omega)) | (simp only [rwd]; done) | (simp only [rwd]; omega) | (simp [rwd]; done) | (simp [rwd]; omega)))
  · rintro ⟨k, t⟩ hk
    have hk : k ≤ p := hk
    have hlk := hl k
    have hmk : W * k ≤ W * n := Nat.mul_le_mul_left _ (by omega)
    show forceSt (st16 A W n ca k (W * k) .any (rwd A W k) t) _
    conv => whnf
    refine tst_in (fun hlt => ?_) (fun hge => ?_)
    · skip
      have hlt : k < n := by simp at hlt; omega
      have e0 : 0 + ((k : Int)).toNat = k := by omega
      obtain ⟨v1, v2⟩ := hv k (by omega)
      obtain ⟨x, hx⟩ : ∃ x : Nat, A.getD k 0 = x := ⟨(A.getD k 0).toNat, by omega⟩
      have hxt : (A.getD k 0).toNat = x := by rw [hx]; rfl
      rw [hx] at v1 v2
      have v3 : x < 2 ^ W := by omega
      have hmk1 : W * (k + 1) ≤ W * n := Nat.mul_le_mul_left _ hlt
      have hx3 : W * (k + 1) = W * k + W := Nat.mul_succ _ _
      have hx2 : rwd A W (k + 1) = rwd A W k ++ bt W x W := by rw [rwd, hxt]
      conv => whnf
      repeat (first
        | (refine And.intro ?_ ?_; (focus (first | omega | decide | exact Int.natCast_nonneg _ | ((repeat' refine And.intro ?_ ?_) <;> first | omega | exact Int.natCast_nonneg _ | (simp only [i64max]; omega) | (simp only [u8max]; omega) | (simp only [i64max, u8max, u16max, u32max, u64max]; omega) | (simp [mulSz, Cont.len, bne]; done) | (simp [mulSz, Cont.len, bne]; omega)))); conv => whnf)
        | (refine tst_in ?_ ?_; (focus (intro h_; exfalso; first | omega | ((try simp only [decide_eq_true_eq, decide_eq_false_iff_not] at h_); omega) | (simp [mulSz, Cont.len, bne] at h_; done) | (simp [mulSz, Cont.len, bne] at h_; omega))); intro _; conv => whnf)
        | (refine tst_in ?_ ?_; rotate_left; (focus (intro h_; exfalso; first | omega | ((try simp only [decide_eq_true_eq, decide_eq_false_iff_not] at h_); omega) | (simp [mulSz, Cont.len, bne] at h_; done) | (simp [mulSz, Cont.len, bne] at h_; omega))); intro _; conv => whnf))
      rw [e0, hx]
      conv => whnf
      repeat (first
        | (refine And.intro ?_ ?_; (focus (first | omega | decide | exact Int.natCast_nonneg _ | ((repeat' refine And.intro ?_ ?_) <;> first | omega | exact Int.natCast_nonneg _ | (simp only [i64max]; omega) | (simp only [u8max]; omega) | (simp only [i64max, u8max, u16max, u32max, u64max]; omega) | (simp [mulSz, Cont.len, bne]; done) | (simp [mulSz, Cont.len, bne]; omega)))); conv => whnf)
        | (refine tst_in ?_ ?_; (focus (intro h_; exfalso; first | omega | ((try simp only [decide_eq_true_eq, decide_eq_false_iff_not] at h_); omega) | (simp [mulSz, Cont.len, bne] at h_; done) | (simp [mulSz, Cont.len, bne] at h_; omega))); intro _; conv => whnf)
        | (refine tst_in ?_ ?_; rotate_left; (focus (intro h_; exfalso; first | omega | ((try simp only [decide_eq_true_eq, decide_eq_false_iff_not] at h_); omega) | (simp [mulSz, Cont.len, bne] at h_; done) | (simp [mulSz, Cont.len, bne] at h_; omega))); intro _; conv => whnf))
      rw [e0, hx]
      conv => whnf
      refine ⟨_, [], PW0, ?_⟩
      conv => whnf
      refine ⟨?_, ?_, ?_⟩
      · conv => whnf
        repeat' (first | exact True.intro | rfl | refine And.intro ?_ ?_)
        all_goals (conv => whnf)
        repeat' (first | exact True.intro | rfl | refine And.intro ?_ ?_)
        all_goals (try (first | rfl | omega | (simp; done) | (simp; omega)))
      · conv => whnf
        repeat' (first | exact True.intro | rfl | refine And.intro ?_ ?_)
        all_goals (conv => whnf)
        repeat' (first | exact True.intro | rfl | refine And.intro ?_ ?_)
        all_goals (try (first | rfl | omega | (simp; done) | (simp; omega)))
      conv => whnf
      conv => whnf
      repeat (first
        | (refine And.intro ?_ ?_; (focus (first | omega | decide | exact Int.natCast_nonneg _ | ((repeat' refine And.intro ?_ ?_) <;> first | omega | exact Int.natCast_nonneg _ | (simp only [i64max]; omega) | (simp only [u8max]; omega) | (simp only [i64max, u8max, u16max, u32max, u64max]; omega) | (simp [mulSz, Cont.len, bne]; done) | (simp [mulSz, Cont.len, bne]; omega)))); conv => whnf)
        | (refine tst_in ?_ ?_; (focus (intro h_; exfalso; first | omega | ((try simp only [decide_eq_true_eq, decide_eq_false_iff_not] at h_); omega) | (simp [mulSz, Cont.len, bne] at h_; done) | (simp [mulSz, Cont.len, bne] at h_; omega))); intro _; conv => whnf)
        | (refine tst_in ?_ ?_; rotate_left; (focus (intro h_; exfalso; first | omega | ((try simp only [decide_eq_true_eq, decide_eq_false_iff_not] at h_); omega) | (simp [mulSz, Cont.len, bne] at h_; done) | (simp [mulSz, Cont.len, bne] at h_; omega))); intro _; conv => whnf))
      refine ⟨⟨[0, 1], ((0, t) : Nat × List Bool), ?_, Nat.zero_le _⟩, ?_⟩
      · show stLe _ _ (st16 A W n ca k (W * k + 0) (.int .i64 (0 : Nat)) (rwd A W k ++ bt W (A.getD k 0).toNat 0) t) _
        conv => whnf
        repeat' (first | exact True.intro | rfl | refine And.intro ?_ ?_)
        all_goals (conv => whnf)
        repeat' (first | exact True.intro | rfl | refine And.intro ?_ ?_)
        all_goals (try (first | omega | exact True.intro | rfl | assumption | (change LE.le (α := Nat) _ _; first | omega | (simp only [bt]; omega)) | (simp only [bt]; done) | (simp only [bt]; omega) | (simp [bt]; done) | (simp [bt]; omega)))
      · rintro ⟨j, t⟩ hj
        have hj : j ≤ W := hj
        show forceSt (st16 A W n ca k (W * k + j) (.int .i64 j) (rwd A W k ++ bt W (A.getD k 0).toNat j) t) _
        rw [hxt]
        have hbj := bt_len W x j
        conv => whnf
        refine tst_in (fun hjt => ?_) (fun hjt => ?_)
        · skip
          have hjt : j < W := by simp at hjt; omega
          have PW := power_q (W - 1 - j) (by omega)
          have hpp2 : 1 ≤ 2 ^ (W - 1 - j) := Nat.one_le_two_pow
          conv => whnf
          repeat (first
            | (refine And.intro ?_ ?_; (focus (first | omega | decide | exact Int.natCast_nonneg _ | ((repeat' refine And.intro ?_ ?_) <;> first | omega | exact Int.natCast_nonneg _ | (simp only [i64max]; omega) | (simp only [u8max]; omega) | (simp only [i64max, u8max, u16max, u32max, u64max]; omega) | (simp [mulSz, Cont.len, bne]; done) | (simp [mulSz, Cont.len, bne]; omega)))); conv => whnf)
            | (refine tst_in ?_ ?_; (focus (intro h_; exfalso; first | omega | ((try simp only [decide_eq_true_eq, decide_eq_false_iff_not] at h_); omega) | (simp [mulSz, Cont.len, bne] at h_; done) | (simp [mulSz, Cont.len, bne] at h_; omega))); intro _; conv => whnf)
            | (refine tst_in ?_ ?_; rotate_left; (focus (intro h_; exfalso; first | omega | ((try simp only [decide_eq_true_eq, decide_eq_false_iff_not] at h_); omega) | (simp [mulSz, Cont.len, bne] at h_; done) | (simp [mulSz, Cont.len, bne] at h_; omega))); intro _; conv => whnf))
          refine ⟨?_, ?_⟩
          · skip
            conv => whnf
            refine And.intro (by omega) ?_
            conv => whnf
            refine ⟨?_, ?_⟩
            · skip
              conv => whnf
              refine And.intro (by rw [e0]; omega) ?_
              rw [e0, hx]
              conv => whnf
              conv => whnf
              refine ⟨_, [], PW, ?_⟩
              conv => whnf
              refine ⟨?_, ?_, ?_⟩
              · conv => whnf
                repeat' (first | exact True.intro | rfl | refine And.intro ?_ ?_)
                all_goals (conv => whnf)
                repeat' (first | exact True.intro | rfl | refine And.intro ?_ ?_)
                all_goals (try (first | rfl | omega | (simp; done) | (simp; omega)))
              · conv => whnf
                repeat' (first | exact True.intro | rfl | refine And.intro ?_ ?_)
                all_goals (conv => whnf)
                repeat' (first | exact True.intro | rfl | refine And.intro ?_ ?_)
                all_goals (try (first | rfl | omega | (simp; done) | (simp; omega)))
              conv => whnf
              refine ⟨⟨by omega, by omega, by rw [i64max]; omega⟩, ?_⟩
              conv => whnf
              refine ⟨⟨Int.ediv_nonneg (by omega) (by omega), by decide⟩, ?_⟩
              conv => whnf
              rw [dm_bit]
              conv => whnf
              repeat (first
                | (refine And.intro ?_ ?_; (focus (first | omega | decide | exact Int.natCast_nonneg _ | ((repeat' refine And.intro ?_ ?_) <;> first | omega | exact Int.natCast_nonneg _ | (simp only [i64max]; omega) | (simp only [u8max]; omega) | (simp only [i64max, u8max, u16max, u32max, u64max]; omega) | (simp [mulSz, Cont.len, bne, hlk, hbj]; done) | (simp [mulSz, Cont.len, bne, hlk, hbj]; omega)))); conv => whnf)
                | (refine tst_in ?_ ?_; (focus (intro h_; exfalso; first | omega | ((try simp only [decide_eq_true_eq, decide_eq_false_iff_not] at h_); omega) | (simp [mulSz, Cont.len, bne, hlk, hbj] at h_; done) | (simp [mulSz, Cont.len, bne, hlk, hbj] at h_; omega))); intro _; conv => whnf)
                | (refine tst_in ?_ ?_; rotate_left; (focus (intro h_; exfalso; first | omega | ((try simp only [decide_eq_true_eq, decide_eq_false_iff_not] at h_); omega) | (simp [mulSz, Cont.len, bne, hlk, hbj] at h_; done) | (simp [mulSz, Cont.len, bne, hlk, hbj] at h_; omega))); intro _; conv => whnf))
              intro (t2 : List Bool)
              conv => whnf
              repeat (first
                | (refine And.intro ?_ ?_; (focus (first | omega | decide | exact Int.natCast_nonneg _ | ((repeat' refine And.intro ?_ ?_) <;> first | omega | exact Int.natCast_nonneg _ | (simp only [i64max]; omega) | (simp only [u8max]; omega) | (simp only [i64max, u8max, u16max, u32max, u64max]; omega) | (simp [mulSz, Cont.len, bne]; done) | (simp [mulSz, Cont.len, bne]; omega)))); conv => whnf)
                | (refine tst_in ?_ ?_; (focus (intro h_; exfalso; first | omega | ((try simp only [decide_eq_true_eq, decide_eq_false_iff_not] at h_); omega) | (simp [mulSz, Cont.len, bne] at h_; done) | (simp [mulSz, Cont.len, bne] at h_; omega))); intro _; conv => whnf)
                | (refine tst_in ?_ ?_; rotate_left; (focus (intro h_; exfalso; first | omega | ((try simp only [decide_eq_true_eq, decide_eq_false_iff_not] at h_); omega) | (simp [mulSz, Cont.len, bne] at h_; done) | (simp [mulSz, Cont.len, bne] at h_; omega))); intro _; conv => whnf))
              refine ⟨[0, 3], ((j + 1, t2) : Nat × List Bool), ?_, (by show j + 1 ≤ W; omega), (by show W - (j + 1) < W - j; omega)⟩
              show stLe _ _ (st16 A W n ca k (W * k + (j + 1)) (.int .i64 (j + 1 : Nat)) (rwd A W k ++ bt W (A.getD k 0).toNat (j + 1)) t2) _
              rw [hxt]
              conv => whnf
              repeat' (first | exact True.intro | rfl | refine And.intro ?_ ?_)
              all_goals (conv => whnf)
              repeat' (first | exact True.intro | rfl | refine And.intro ?_ ?_)
              all_goals (try (first | omega | exact True.intro | rfl | assumption | (change LE.le (α := Nat) _ _; first | omega | (simp only []; omega)) | (simp only []; done) | (simp only []; omega) | (simp; done) | (simp; omega)))
              all_goals (show rwd A W k ++ (bt W x j ++ [x.testBit (W - 1 - j)]) ++ t2 = _; rw [show List.take (mulSz 1 (W * k + j)) (List.drop 0 (rwd A W k ++ bt W x j ++ t)) = rwd A W k ++ bt W x j from List.take_left' (by rw [List.length_append, hlk, hbj]; rfl)]; simp [mulSz])
            · skip
              conv => whnf
              refine ⟨?_, True.intro⟩
              conv => whnf
              refine ⟨_, [], PW, ?_⟩
              conv => whnf
              refine ⟨?_, ?_, ?_⟩
              · conv => whnf
                repeat' (first | exact True.intro | rfl | refine And.intro ?_ ?_)
                all_goals (conv => whnf)
                repeat' (first | exact True.intro | rfl | refine And.intro ?_ ?_)
                all_goals (try (first | rfl | omega | (simp; done) | (simp; omega)))
              · conv => whnf
                repeat' (first | exact True.intro | rfl | refine And.intro ?_ ?_)
                all_goals (conv => whnf)
                repeat' (first | exact True.intro | rfl | refine And.intro ?_ ?_)
                all_goals (try (first | rfl | omega | (simp; done) | (simp; omega)))
              conv => whnf
              conv => whnf
              refine And.intro (by rw [e0]; omega) ?_
              rw [e0, hx]
              conv => whnf
              refine ⟨⟨by omega, by omega, by rw [i64max]; omega⟩, ?_⟩
              conv => whnf
              refine ⟨⟨Int.ediv_nonneg (by omega) (by omega), by decide⟩, ?_⟩
              conv => whnf
              rw [dm_bit]
              conv => whnf
              repeat (first
                | (refine And.intro ?_ ?_; (focus (first | omega | decide | exact Int.natCast_nonneg _ | ((repeat' refine And.intro ?_ ?_) <;> first | omega | exact Int.natCast_nonneg _ | (simp only [i64max]; omega) | (simp only [u8max]; omega) | (simp only [i64max, u8max, u16max, u32max, u64max]; omega) | (simp [mulSz, Cont.len, bne, hlk, hbj]; done) | (simp [mulSz, Cont.len, bne, hlk, hbj]; omega)))); conv => whnf)
                | (refine tst_in ?_ ?_; (focus (intro h_; exfalso; first | omega | ((try simp only [decide_eq_true_eq, decide_eq_false_iff_not] at h_); omega) | (simp [mulSz, Cont.len, bne, hlk, hbj] at h_; done) | (simp [mulSz, Cont.len, bne, hlk, hbj] at h_; omega))); intro _; conv => whnf)
                | (refine tst_in ?_ ?_; rotate_left; (focus (intro h_; exfalso; first | omega | ((try simp only [decide_eq_true_eq, decide_eq_false_iff_not] at h_); omega) | (simp [mulSz, Cont.len, bne, hlk, hbj] at h_; done) | (simp [mulSz, Cont.len, bne, hlk, hbj] at h_; omega))); intro _; conv => whnf))
              intro (t2 : List Bool)
              conv => whnf
              repeat (first
                | (refine And.intro ?_ ?_; (focus (first | omega | decide | exact Int.natCast_nonneg _ | ((repeat' refine And.intro ?_ ?_) <;> first | omega | exact Int.natCast_nonneg _ | (simp only [i64max]; omega) | (simp only [u8max]; omega) | (simp only [i64max, u8max, u16max, u32max, u64max]; omega) | (simp [mulSz, Cont.len, bne]; done) | (simp [mulSz, Cont.len, bne]; omega)))); conv => whnf)
                | (refine tst_in ?_ ?_; (focus (intro h_; exfalso; first | omega | ((try simp only [decide_eq_true_eq, decide_eq_false_iff_not] at h_); omega) | (simp [mulSz, Cont.len, bne] at h_; done) | (simp [mulSz, Cont.len, bne] at h_; omega))); intro _; conv => whnf)
                | (refine tst_in ?_ ?_; rotate_left; (focus (intro h_; exfalso; first | omega | ((try simp only [decide_eq_true_eq, decide_eq_false_iff_not] at h_); omega) | (simp [mulSz, Cont.len, bne] at h_; done) | (simp [mulSz, Cont.len, bne] at h_; omega))); intro _; conv => whnf))
              refine ⟨[0, 3], ((j + 1, t2) : Nat × List Bool), ?_, (by show j + 1 ≤ W; omega), (by show W - (j + 1) < W - j; omega)⟩
              show stLe _ _ (st16 A W n ca k (W * k + (j + 1)) (.int .i64 (j + 1 : Nat)) (rwd A W k ++ bt W (A.getD k 0).toNat (j + 1)) t2) _
              rw [hxt]
              conv => whnf
              repeat' (first | exact True.intro | rfl | refine And.intro ?_ ?_)
              all_goals (conv => whnf)
              repeat' (first | exact True.intro | rfl | refine And.intro ?_ ?_)
              all_goals (try (first | omega | exact True.intro | rfl | assumption | (change LE.le (α := Nat) _ _; first | omega | (simp only []; omega)) | (simp only []; done) | (simp only []; omega) | (simp; done) | (simp; omega)))
              all_goals (show rwd A W k ++ (bt W x j ++ [x.testBit (W - 1 - j)]) ++ t2 = _; rw [show List.take (mulSz 1 (W * k + j)) (List.drop 0 (rwd A W k ++ bt W x j ++ t)) = rwd A W k ++ bt W x j from List.take_left' (by rw [List.length_append, hlk, hbj]; rfl)]; simp [mulSz])
          · skip
            conv => whnf
            refine ⟨?_, True.intro⟩
            conv => whnf
            refine ⟨_, [], PW, ?_⟩
            conv => whnf
            refine ⟨?_, ?_, ?_⟩
            · conv => whnf
              repeat' (first | exact True.intro | rfl | refine And.intro ?_ ?_)
              all_goals (conv => whnf)
              repeat' (first | exact True.intro | rfl | refine And.intro ?_ ?_)
              all_goals (try (first | rfl | omega | (simp; done) | (simp; omega)))
            · conv => whnf
              repeat' (first | exact True.intro | rfl | refine And.intro ?_ ?_)
              all_goals (conv => whnf)
              repeat' (first | exact True.intro | rfl | refine And.intro ?_ ?_)
              all_goals (try (first | rfl | omega | (simp; done) | (simp; omega)))
            conv => whnf
            conv => whnf
            refine And.intro (by omega) ?_
            conv => whnf
            conv => whnf
            refine And.intro (by rw [e0]; omega) ?_
            rw [e0, hx]
            conv => whnf
            refine ⟨⟨by omega, by omega, by rw [i64max]; omega⟩, ?_⟩
            conv => whnf
            refine ⟨⟨Int.ediv_nonneg (by omega) (by omega), by decide⟩, ?_⟩
            conv => whnf
            rw [dm_bit]
            conv => whnf
            repeat (first
              | (refine And.intro ?_ ?_; (focus (first | omega | decide | exact Int.natCast_nonneg _ | ((repeat' refine And.intro ?_ ?_) <;> first | omega | exact Int.natCast_nonneg _ | (simp only [i64max]; omega) | (simp only [u8max]; omega) | (simp only [i64max, u8max, u16max, u32max, u64max]; omega) | (simp [mulSz, Cont.len, bne, hlk, hbj]; done) | (simp [mulSz, Cont.len, bne, hlk, hbj]; omega)))); conv => whnf)
              | (refine tst_in ?_ ?_; (focus (intro h_; exfalso; first | omega | ((try simp only [decide_eq_true_eq, decide_eq_false_iff_not] at h_); omega) | (simp [mulSz, Cont.len, bne, hlk, hbj] at h_; done) | (simp [mulSz, Cont.len, bne, hlk, hbj] at h_; omega))); intro _; conv => whnf)
              | (refine tst_in ?_ ?_; rotate_left; (focus (intro h_; exfalso; first | omega | ((try simp only [decide_eq_true_eq, decide_eq_false_iff_not] at h_); omega) | (simp [mulSz, Cont.len, bne, hlk, hbj] at h_; done) | (simp [mulSz, Cont.len, bne, hlk, hbj] at h_; omega))); intro _; conv => whnf))
            intro (t2 : List Bool)
            conv => whnf
            repeat (first
              | (refine And.intro ?_ ?_; (focus (first | omega | decide | exact Int.natCast_nonneg _ | ((repeat' refine And.intro ?_ ?_) <;> first | omega | exact Int.natCast_nonneg _ | (simp only [i64max]; omega) | (simp only [u8max]; omega) | (simp only [i64max, u8max, u16max, u32max, u64max]; omega) | (simp [mulSz, Cont.len, bne]; done) | (simp [mulSz, Cont.len, bne]; omega)))); conv => whnf)
              | (refine tst_in ?_ ?_; (focus (intro h_; exfalso; first | omega | ((try simp only [decide_eq_true_eq, decide_eq_false_iff_not] at h_); omega) | (simp [mulSz, Cont.len, bne] at h_; done) | (simp [mulSz, Cont.len, bne] at h_; omega))); intro _; conv => whnf)
              | (refine tst_in ?_ ?_; rotate_left; (focus (intro h_; exfalso; first | omega | ((try simp only [decide_eq_true_eq, decide_eq_false_iff_not] at h_); omega) | (simp [mulSz, Cont.len, bne] at h_; done) | (simp [mulSz, Cont.len, bne] at h_; omega))); intro _; conv => whnf))
            refine ⟨[0, 3], ((j + 1, t2) : Nat × List Bool), ?_, (by show j + 1 ≤ W; omega), (by show W - (j + 1) < W - j; omega)⟩
            show stLe _ _ (st16 A W n ca k (W * k + (j + 1)) (.int .i64 (j + 1 : Nat)) (rwd A W k ++ bt W (A.getD k 0).toNat (j + 1)) t2) _
            rw [hxt]
            conv => whnf
            repeat' (first | exact True.intro | rfl | refine And.intro ?_ ?_)
            all_goals (conv => whnf)
            repeat' (first | exact True.intro | rfl | refine And.intro ?_ ?_)
            all_goals (try (first | omega | exact True.intro | rfl | assumption | (change LE.le (α := Nat) _ _; first | omega | (simp only []; omega)) | (simp only []; done) | (simp only []; omega) | (simp; done) | (simp; omega)))
            all_goals (show rwd A W k ++ (bt W x j ++ [x.testBit (W - 1 - j)]) ++ t2 = _; rw [show List.take (mulSz 1 (W * k + j)) (List.drop 0 (rwd A W k ++ bt W x j ++ t)) = rwd A W k ++ bt W x j from List.take_left' (by rw [List.length_append, hlk, hbj]; rfl)]; simp [mulSz])
        · skip
          have hjt : j = W := by simp at hjt; omega
          subst hjt
          conv => whnf
          repeat (first
            | (refine And.intro ?_ ?_; (focus (first | omega | decide | exact Int.natCast_nonneg _ | ((repeat' refine And.intro ?_ ?_) <;> first | omega | exact Int.natCast_nonneg _ | (simp only [i64max]; omega) | (simp only [u8max]; omega) | (simp only [i64max, u8max, u16max, u32max, u64max]; omega) | (simp [mulSz, Cont.len, bne]; done) | (simp [mulSz, Cont.len, bne]; omega)))); conv => whnf)
            | (refine tst_in ?_ ?_; (focus (intro h_; exfalso; first | omega | ((try simp only [decide_eq_true_eq, decide_eq_false_iff_not] at h_); omega) | (simp [mulSz, Cont.len, bne] at h_; done) | (simp [mulSz, Cont.len, bne] at h_; omega))); intro _; conv => whnf)
            | (refine tst_in ?_ ?_; rotate_left; (focus (intro h_; exfalso; first | omega | ((try simp only [decide_eq_true_eq, decide_eq_false_iff_not] at h_); omega) | (simp [mulSz, Cont.len, bne] at h_; done) | (simp [mulSz, Cont.len, bne] at h_; omega))); intro _; conv => whnf))
          refine ⟨[0, 1], ((k + 1, t) : Nat × List Bool), ?_, (by show k + 1 ≤ p; omega), (by show p - (k + 1) < p - k; omega)⟩
          show stLe _ _ (st16 A j n ca (k + 1) (j * (k + 1)) .any (rwd A j (k + 1)) t) _
          conv => whnf
          repeat' (first | exact True.intro | rfl | refine And.intro ?_ ?_)
          all_goals (conv => whnf)
          repeat' (first | exact True.intro | rfl | refine And.intro ?_ ?_)
          all_goals (try (first | omega | exact True.intro | rfl | assumption | (change LE.le (α := Nat) _ _; first | omega | (simp only [hx2, hx3]; omega)) | (simp only [hx2, hx3]; done) | (simp only [hx2, hx3]; omega) | (simp [hx2, hx3]; done) | (simp [hx2, hx3]; omega)))
    · skip
      have hge : k = n := by simp at hge; omega
      subst hge
      conv => whnf
      repeat (first
        | (refine And.intro ?_ ?_; (focus (first | omega | decide | exact Int.natCast_nonneg _ | ((repeat' refine And.intro ?_ ?_) <;> first | omega | exact Int.natCast_nonneg _ | (simp only [i64max]; omega) | (simp only [u8max]; omega) | (simp only [i64max, u8max, u16max, u32max, u64max]; omega) | (simp [mulSz, Cont.len, bne]; done) | (simp [mulSz, Cont.len, bne]; omega)))); conv => whnf)
        | (refine tst_in ?_ ?_; (focus (intro h_; exfalso; first | omega | ((try simp only [decide_eq_true_eq, decide_eq_false_iff_not] at h_); omega) | (simp [mulSz, Cont.len, bne] at h_; done) | (simp [mulSz, Cont.len, bne] at h_; omega))); intro _; conv => whnf)
        | (refine tst_in ?_ ?_; rotate_left; (focus (intro h_; exfalso; first | omega | ((try simp only [decide_eq_true_eq, decide_eq_false_iff_not] at h_); omega) | (simp [mulSz, Cont.len, bne] at h_; done) | (simp [mulSz, Cont.len, bne] at h_; omega))); intro _; conv => whnf))
      refine .inl ⟨t, [0, 1], ?_⟩
      conv => whnf
      repeat' (first | exact True.intro | rfl | refine And.intro ?_ ?_)
      all_goals (conv => whnf)
      repeat' (first | exact True.intro | rfl | refine And.intro ?_ ?_)
      all_goals (try (first | omega | exact True.intro | rfl | assumption | (change LE.le (α := Nat) _ _; first | omega | (simp only [hl]; omega)) | (simp only [hl]; done) | (simp only [hl]; omega) | (simp [hl]; done) | (simp [hl]; omega)))
set_option maxHeartbeats 0 in
set_option maxRecDepth 100000 in
theorem rRow_n (A : List Int) (W n ca p : Nat) (hA : n ≤ A.length) (h1 : 1 ≤ W) (h2 : W ≤ 16) (hN : W * n ≤ 32768) (hv : ∀ i, i < p → okW A W i) (hp : p < n) (hbad : ¬ okW A W p) :
    Fits Try.prog 16 ⟨[.slice 0 0 n ca, .int .i64 W], [.seg false (.ints .i64 A)], [rowB [] 1]⟩ := by
  have hl := rwd_len A W
  have hb0 : W * n ≤ 32768 := hN
  have hnn : n ≤ W * n := Nat.le_mul_of_pos_left n (by omega)
  have hpw : 2 ^ W ≤ 2 ^ 16 := Nat.pow_le_pow_right (by decide) h2
  have hpp : 1 ≤ 2 ^ W := Nat.one_le_two_pow
  have PW0 := power_q W (by omega)
  have hm : (W : Int) * (n : Int) = ((W * n : Nat) : Int) := (Int.natCast_mul _ _).symm
  refine fits_of_body (C := cfg16 [inv16b A W n ca]) (c := c16) (ts := [4, 5]) tok0 mixed0 (fun | 5 => some (inv16 A W n ca p) | _ => none) (fun _ => none)
    Try.func16 (by kernel_rfl) (by kernel_rfl) (by kernel_rfl) (by kernel_rfl) rfl ?_
  conv => whnf
  repeat (first
    | (refine And.intro ?_ ?_; (focus (first | omega | decide | exact Int.natCast_nonneg _ | ((repeat' refine And.intro ?_ ?_) <;> first | omega | exact Int.natCast_nonneg _ | (simp only [i64max]; omega) | (simp only [u8max]; omega) | (simp only [i64max, u8max, u16max, u32max, u64max]; omega) | (simp [mulSz, Cont.len, bne]; done) | (simp [mulSz, Cont.len, bne]; omega)))); conv => whnf)
    | (refine tst_in ?_ ?_; (focus (intro h_; exfalso; first | omega | ((try simp only [decide_eq_true_eq, decide_eq_false_iff_not] at h_); omega) | (simp [mulSz, Cont.len, bne] at h_; done) | (simp [mulSz, Cont.len, bne] at h_; omega))); intro _; conv => whnf)
    | (refine tst_in ?_ ?_; rotate_left; (focus (intro h_; exfalso; first | omega | ((try simp only [decide_eq_true_eq, decide_eq_false_iff_not] at h_); omega) | (simp [mulSz, Cont.len, bne] at h_; done) | (simp [mulSz, Cont.len, bne] at h_; omega))); intro _; conv => whnf))
  rw [hm]
  conv => whnf
  repeat (first
    | (refine And.intro ?_ ?_; (focus (first | omega | decide | exact Int.natCast_nonneg _ | ((repeat' refine And.intro ?_ ?_) <;> first | omega | exact Int.natCast_nonneg _ | (simp only [i64max]; omega) | (simp only [u8max]; omega) | (simp only [i64max, u8max, u16max, u32max, u64max]; omega) | (simp [mulSz, Cont.len, bne]; done) | (simp [mulSz, Cont.len, bne]; omega)))); conv => whnf)
    | (refine tst_in ?_ ?_; (focus (intro h_; exfalso; first | omega | ((try simp only [decide_eq_true_eq, decide_eq_false_iff_not] at h_); omega) | (simp [mulSz, Cont.len, bne] at h_; done) | (simp [mulSz, Cont.len, bne] at h_; omega))); intro _; conv => whnf)
    | (refine tst_in ?_ ?_; rotate_left; (focus (intro h_; exfalso; first | omega | ((try simp only [decide_eq_true_eq, decide_eq_false_iff_not] at h_); omega) | (simp [mulSz, Cont.len, bne] at h_; done) | (simp [mulSz, Cont.len, bne] at h_; omega))); intro _; conv => whnf))
  refine ⟨⟨[0, 1], ((0, []) : Nat × List Bool), ?_, Nat.zero_le _⟩, ?_⟩
  · show stLe _ _ (st16 A W n ca 0 (W * 0) .any (rwd A W 0) []) _
    conv => whnf
    repeat' (first | exact True.intro | rfl | refine And.intro ?_ ?_)
    all_goals (conv => whnf)
    repeat' (first | exact True.intro | rfl | refine And.intro ?_ ?_)
    all_goals (try (first | omega | exact True.intro | rfl | assumption | (change LE.le (α := Nat) _ _; first | omega | (simp only [rwd]; omega)) | (simp only [rwd]; done) | (simp only [rwd]; omega) | (simp [rwd]; done) | (simp [rwd]; omega)))
  · rintro ⟨k, t⟩ hk
    have hk : k ≤ p := hk
    have hlk := hl k
    have hmk : W * k ≤ W * n := Nat.mul_le_mul_left _ (by omega)
    show forceSt (st16 A W n ca k (W * k) .any (rwd A W k) t) _
    conv => whnf
    refine tst_in (fun hlt => ?_) (fun hge => ?_)
    · skip
      have hlt : k < n := by simp at hlt; omega
      have e0 : 0 + ((k : Int)).toNat = k := by omega
      rcases Nat.lt_or_ge k p with hkp | hkp
      · skip
        obtain ⟨v1, v2⟩ := hv k hkp
        obtain ⟨x, hx⟩ : ∃ x : Nat, A.getD k 0 = x := ⟨(A.getD k 0).toNat, by omega⟩
        have hxt : (A.getD k 0).toNat = x := by rw [hx]; rfl
        rw [hx] at v1 v2
        have v3 : x < 2 ^ W := by omega
        have hmk1 : W * (k + 1) ≤ W * n := Nat.mul_le_mul_left _ hlt
        have hx3 : W * (k + 1) = W * k + W := Nat.mul_succ _ _
        have hx2 : rwd A W (k + 1) = rwd A W k ++ bt W x W := by rw [rwd, hxt]
        conv => whnf
        repeat (first
          | (refine And.intro ?_ ?_; (focus (first | omega | decide | exact Int.natCast_nonneg _ | ((repeat' refine And.intro ?_ ?_) <;> first | omega | exact Int.natCast_nonneg _ | (simp only [i64max]; omega) | (simp only [u8max]; omega) | (simp only [i64max, u8max, u16max, u32max, u64max]; omega) | (simp [mulSz, Cont.len, bne]; done) | (simp [mulSz, Cont.len, bne]; omega)))); conv => whnf)
          | (refine tst_in ?_ ?_; (focus (intro h_; exfalso; first | omega | ((try simp only [decide_eq_true_eq, decide_eq_false_iff_not] at h_); omega) | (simp [mulSz, Cont.len, bne] at h_; done) | (simp [mulSz, Cont.len, bne] at h_; omega))); intro _; conv => whnf)
          | (refine tst_in ?_ ?_; rotate_left; (focus (intro h_; exfalso; first | omega | ((try simp only [decide_eq_true_eq, decide_eq_false_iff_not] at h_); omega) | (simp [mulSz, Cont.len, bne] at h_; done) | (simp [mulSz, Cont.len, bne] at h_; omega))); intro _; conv => whnf))
        rw [e0, hx]
        conv => whnf
        repeat (first
          | (refine And.intro ?_ ?_; (focus (first | omega | decide | exact Int.natCast_nonneg _ | ((repeat' refine And.intro ?_ ?_) <;> first | omega | exact Int.natCast_nonneg _ | (simp only [i64max]; omega) | (simp only [u8max]; omega) | (simp only [i64max, u8max, u16max, u32max, u64max]; omega) | (simp [mulSz, Cont.len, bne]; done) | (simp [mulSz, Cont.len, bne]; omega)))); conv => whnf)
          | (refine tst_in ?_ ?_; (focus (intro h_; exfalso; first | omega | ((try simp only [decide_eq_true_eq, decide_eq_false_iff_not] at h_); omega) | (simp [mulSz, Cont.len, bne] at h_; done) | (simp [mulSz, Cont.len, bne] at h_; omega))); intro _; conv => whnf)
          | (refine tst_in ?_ ?_; rotate_left; (focus (intro h_; exfalso; first | omega | ((try simp only [decide_eq_true_eq, decide_eq_false_iff_not] at h_); omega) | (simp [mulSz, Cont.len, bne] at h_; done) | (simp [mulSz, Cont.len, bne] at h_; omega))); intro _; conv => whnf))
        rw [e0, hx]
        conv => whnf
        refine ⟨_, [], PW0, ?_⟩
        conv => whnf
        refine ⟨?_, ?_, ?_⟩
        · conv => whnf
          repeat' (first | exact True.intro | rfl | refine And.intro ?_ ?_)
          all_goals (conv => whnf)
          repeat' (first | exact True.intro | rfl | refine And.intro ?_ ?_)
          all_goals (try (first | rfl | omega | (simp; done) | (simp; omega)))
        · conv => whnf
          repeat' (first | exact True.intro | rfl | refine And.intro ?_ ?_)
          all_goals (conv => whnf)
          repeat' (first | exact True.intro | rfl | refine And.intro ?_ ?_)
          all_goals (try (first | rfl | omega | (simp; done) | (simp; omega)))
        conv => whnf
        conv => whnf
        repeat (first
          | (refine And.intro ?_ ?_; (focus (first | omega | decide | exact Int.natCast_nonneg _ | ((repeat' refine And.intro ?_ ?_) <;> first | omega | exact Int.natCast_nonneg _ | (simp only [i64max]; omega) | (simp only [u8max]; omega) | (simp only [i64max, u8max, u16max, u32max, u64max]; omega) | (simp [mulSz, Cont.len, bne]; done) | (simp [mulSz, Cont.len, bne]; omega)))); conv => whnf)
          | (refine tst_in ?_ ?_; (focus (intro h_; exfalso; first | omega | ((try simp only [decide_eq_true_eq, decide_eq_false_iff_not] at h_); omega) | (simp [mulSz, Cont.len, bne] at h_; done) | (simp [mulSz, Cont.len, bne] at h_; omega))); intro _; conv => whnf)
          | (refine tst_in ?_ ?_; rotate_left; (focus (intro h_; exfalso; first | omega | ((try simp only [decide_eq_true_eq, decide_eq_false_iff_not] at h_); omega) | (simp [mulSz, Cont.len, bne] at h_; done) | (simp [mulSz, Cont.len, bne] at h_; omega))); intro _; conv => whnf))
        refine ⟨⟨[0, 1], ((0, t) : Nat × List Bool), ?_, Nat.zero_le _⟩, ?_⟩
        · show stLe _ _ (st16 A W n ca k (W * k + 0) (.int .i64 (0 : Nat)) (rwd A W k ++ bt W (A.getD k 0).toNat 0) t) _
          conv => whnf
          repeat' (first | exact True.intro | rfl | refine And.intro ?_ ?_)
          all_goals (conv => whnf)
          repeat' (first | exact True.intro | rfl | refine And.intro ?_ ?_)
          all_goals (try (first | omega | exact True.intro | rfl | assumption | (change LE.le (α := Nat) _ _; first | omega | (simp only [bt]; omega)) | (simp only [bt]; done) | (simp only [bt]; omega) | (simp [bt]; done) | (simp [bt]; omega)))
        · rintro ⟨j, t⟩ hj
          have hj : j ≤ W := hj
          show forceSt (st16 A W n ca k (W * k + j) (.int .i64 j) (rwd A W k ++ bt W (A.getD k 0).toNat j) t) _
          rw [hxt]
          have hbj := bt_len W x j
          conv => whnf
          refine tst_in (fun hjt => ?_) (fun hjt => ?_)
          · skip
            have hjt : j < W := by simp at hjt; omega
            have PW := power_q (W - 1 - j) (by omega)
            have hpp2 : 1 ≤ 2 ^ (W - 1 - j) := Nat.one_le_two_pow
            conv => whnf
            repeat (first
              | (refine And.intro ?_ ?_; (focus (first | omega | decide | exact Int.natCast_nonneg _ | ((repeat' refine And.intro ?_ ?_) <;> first | omega | exact Int.natCast_nonneg _ | (simp only [i64max]; omega) | (simp only [u8max]; omega) | (simp only [i64max, u8max, u16max, u32max, u64max]; omega) | (simp [mulSz, Cont.len, bne]; done) | (simp [mulSz, Cont.len, bne]; omega)))); conv => whnf)
              | (refine tst_in ?_ ?_; (focus (intro h_; exfalso; first | omega | ((try simp only [decide_eq_true_eq, decide_eq_false_iff_not] at h_); omega) | (simp [mulSz, Cont.len, bne] at h_; done) | (simp [mulSz, Cont.len, bne] at h_; omega))); intro _; conv => whnf)
              | (refine tst_in ?_ ?_; rotate_left; (focus (intro h_; exfalso; first | omega | ((try simp only [decide_eq_true_eq, decide_eq_false_iff_not] at h_); omega) | (simp [mulSz, Cont.len, bne] at h_; done) | (simp [mulSz, Cont.len, bne] at h_; omega))); intro _; conv => whnf))
            refine ⟨?_, ?_⟩
            · skip
              conv => whnf
              refine And.intro (by omega) ?_
              conv => whnf
              refine ⟨?_, ?_⟩
              · skip
                conv => whnf
                refine And.intro (by rw [e0]; omega) ?_
                rw [e0, hx]
                conv => whnf
                conv => whnf
                refine ⟨_, [], PW, ?_⟩
                conv => whnf
                refine ⟨?_, ?_, ?_⟩
                · conv => whnf
                  repeat' (first | exact True.intro | rfl | refine And.intro ?_ ?_)
                  all_goals (conv => whnf)
                  repeat' (first | exact True.intro | rfl | refine And.intro ?_ ?_)
                  all_goals (try (first | rfl | omega | (simp; done) | (simp; omega)))
                · conv => whnf
                  repeat' (first | exact True.intro | rfl | refine And.intro ?_ ?_)
                  all_goals (conv => whnf)
                  repeat' (first | exact True.intro | rfl | refine And.intro ?_ ?_)
                  all_goals (try (first | rfl | omega | (simp; done) | (simp; omega)))
                conv => whnf
                refine ⟨⟨by omega, by omega, by rw [i64max]; omega⟩, ?_⟩
                conv => whnf
                refine ⟨⟨Int.ediv_nonneg (by omega) (by omega), by decide⟩, ?_⟩
                conv => whnf
                rw [dm_bit]
                conv => whnf
                repeat (first
                  | (refine And.intro ?_ ?_; (focus (first | omega | decide | exact Int.natCast_nonneg _ | ((repeat' refine And.intro ?_ ?_) <;> first | omega | exact Int.natCast_nonneg _ | (simp only [i64max]; omega) | (simp only [u8max]; omega) | (simp only [i64max, u8max, u16max, u32max, u64max]; omega) | (simp [mulSz, Cont.len, bne, hlk, hbj]; done) | (simp [mulSz, Cont.len, bne, hlk, hbj]; omega)))); conv => whnf)
                  | (refine tst_in ?_ ?_; (focus (intro h_; exfalso; first | omega | ((try simp only [decide_eq_true_eq, decide_eq_false_iff_not] at h_); omega) | (simp [mulSz, Cont.len, bne, hlk, hbj] at h_; done) | (simp [mulSz, Cont.len, bne, hlk, hbj] at h_; omega))); intro _; conv => whnf)
                  | (refine tst_in ?_ ?_; rotate_left; (focus (intro h_; exfalso; first | omega | ((try simp only [decide_eq_true_eq, decide_eq_false_iff_not] at h_); omega) | (simp [mulSz, Cont.len, bne, hlk, hbj] at h_; done) | (simp [mulSz, Cont.len, bne, hlk, hbj] at h_; omega))); intro _; conv => whnf))
                intro (t2 : List Bool)
                conv => whnf
                repeat (first
                  | (refine And.intro ?_ ?_; (focus (first | omega | decide | exact Int.natCast_nonneg _ | ((repeat' refine And.intro ?_ ?_) <;> first | omega | exact Int.natCast_nonneg _ | (simp only [i64max]; omega) | (simp only [u8max]; omega) | (simp only [i64max, u8max, u16max, u32max, u64max]; omega) | (simp [mulSz, Cont.len, bne]; done) | (simp [mulSz, Cont.len, bne]; omega)))); conv => whnf)
                  | (refine tst_in ?_ ?_; (focus (intro h_; exfalso; first | omega | ((try simp only [decide_eq_true_eq, decide_eq_false_iff_not] at h_); omega) | (simp [mulSz, Cont.len, bne] at h_; done) | (simp [mulSz, Cont.len, bne] at h_; omega))); intro _; conv => whnf)
                  | (refine tst_in ?_ ?_; rotate_left; (focus (intro h_; exfalso; first | omega | ((try simp only [decide_eq_true_eq, decide_eq_false_iff_not] at h_); omega) | (simp [mulSz, Cont.len, bne] at h_; done) | (simp [mulSz, Cont.len, bne] at h_; omega))); intro _; conv => whnf))
                refine ⟨[0, 3], ((j + 1, t2) : Nat × List Bool), ?_, (by show j + 1 ≤ W; omega), (by show W - (j + 1) < W - j; omega)⟩
                show stLe _ _ (st16 A W n ca k (W * k + (j + 1)) (.int .i64 (j + 1 : Nat)) (rwd A W k ++ bt W (A.getD k 0).toNat (j + 1)) t2) _
                rw [hxt]
                conv => whnf
                repeat' (first | exact True.intro | rfl | refine And.intro ?_ ?_)
                all_goals (conv => whnf)
                repeat' (first | exact True.intro | rfl | refine And.intro ?_ ?_)
                all_goals (try (first | omega | exact True.intro | rfl | assumption | (change LE.le (α := Nat) _ _; first | omega | (simp only []; omega)) | (simp only []; done) | (simp only []; omega) | (simp; done) | (simp; omega)))
                all_goals (show rwd A W k ++ (bt W x j ++ [x.testBit (W - 1 - j)]) ++ t2 = _; rw [show List.take (mulSz 1 (W * k + j)) (List.drop 0 (rwd A W k ++ bt W x j ++ t)) = rwd A W k ++ bt W x j from List.take_left' (by rw [List.length_append, hlk, hbj]; rfl)]; simp [mulSz])
              · skip
                conv => whnf
                refine ⟨?_, True.intro⟩
                conv => whnf
                refine ⟨_, [], PW, ?_⟩
                conv => whnf
                refine ⟨?_, ?_, ?_⟩
                · conv => whnf
                  repeat' (first | exact True.intro | rfl | refine And.intro ?_ ?_)
                  all_goals (conv => whnf)
                  repeat' (first | exact True.intro | rfl | refine And.intro ?_ ?_)
                  all_goals (try (first | rfl | omega | (simp; done) | (simp; omega)))
                · conv => whnf
                  repeat' (first | exact True.intro | rfl | refine And.intro ?_ ?_)
                  all_goals (conv => whnf)
                  repeat' (first | exact True.intro | rfl | refine And.intro ?_ ?_)
                  all_goals (try (first | rfl | omega | (simp; done) | (simp; omega)))
                conv => whnf
                conv => whnf
                refine And.intro (by rw [e0]; omega) ?_
                rw [e0, hx]
                conv => whnf
                refine ⟨⟨by omega, by omega, by rw [i64max]; omega⟩, ?_⟩
                conv => whnf
                refine ⟨⟨Int.ediv_nonneg (by omega) (by omega), by decide⟩, ?_⟩
                conv => whnf
                rw [dm_bit]
                conv => whnf
                repeat (first
                  | (refine And.intro ?_ ?_; (focus (first | omega | decide | exact Int.natCast_nonneg _ | ((repeat' refine And.intro ?_ ?_) <;> first | omega | exact Int.natCast_nonneg _ | (simp only [i64max]; omega) | (simp only [u8max]; omega) | (simp only [i64max, u8max, u16max, u32max, u64max]; omega) | (simp [mulSz, Cont.len, bne, hlk, hbj]; done) | (simp [mulSz, Cont.len, bne, hlk, hbj]; omega)))); conv => whnf)
                  | (refine tst_in ?_ ?_; (focus (intro h_; exfalso; first | omega | ((try simp only [decide_eq_true_eq, decide_eq_false_iff_not] at h_); omega) | (simp [mulSz, Cont.len, bne, hlk, hbj] at h_; done) | (simp [mulSz, Cont.len, bne, hlk, hbj] at h_; omega))); intro _; conv => whnf)
                  | (refine tst_in ?_ ?_; rotate_left; (focus (intro h_; exfalso; first | omega | ((try simp only [decide_eq_true_eq, decide_eq_false_iff_not] at h_); omega) | (simp [mulSz, Cont.len, bne, hlk, hbj] at h_; done) | (simp [mulSz, Cont.len, bne, hlk, hbj] at h_; omega))); intro _; conv => whnf))
                intro (t2 : List Bool)
                conv => whnf
                repeat (first
                  | (refine And.intro ?_ ?_; (focus (first | omega | decide | exact Int.natCast_nonneg _ | ((repeat' refine And.intro ?_ ?_) <;> first | omega | exact Int.natCast_nonneg _ | (simp only [i64max]; omega) | (simp only [u8max]; omega) | (simp only [i64max, u8max, u16max, u32max, u64max]; omega) | (simp [mulSz, Cont.len, bne]; done) | (simp [mulSz, Cont.len, bne]; omega)))); conv => whnf)
                  | (refine tst_in ?_ ?_; (focus (intro h_; exfalso; first | omega | ((try simp only [decide_eq_true_eq, decide_eq_false_iff_not] at h_); omega) | (simp [mulSz, Cont.len, bne] at h_; done) | (simp [mulSz, Cont.len, bne] at h_; omega))); intro _; conv => whnf)
                  | (refine tst_in ?_ ?_; rotate_left; (focus (intro h_; exfalso; first | omega | ((try simp only [decide_eq_true_eq, decide_eq_false_iff_not] at h_); omega) | (simp [mulSz, Cont.len, bne] at h_; done) | (simp [mulSz, Cont.len, bne] at h_; omega))); intro _; conv => whnf))
                refine ⟨[0, 3], ((j + 1, t2) : Nat × List Bool), ?_, (by show j + 1 ≤ W; omega), (by show W - (j + 1) < W - j; omega)⟩
                show stLe _ _ (st16 A W n ca k (W * k + (j + 1)) (.int .i64 (j + 1 : Nat)) (rwd A W k ++ bt W (A.getD k 0).toNat (j + 1)) t2) _
                rw [hxt]
                conv => whnf
                repeat' (first | exact True.intro | rfl | refine And.intro ?_ ?_)
                all_goals (conv => whnf)
                repeat' (first | exact True.intro | rfl | refine And.intro ?_ ?_)
                all_goals (try (first | omega | exact True.intro | rfl | assumption | (change LE.le (α := Nat) _ _; first | omega | (simp only []; omega)) | (simp only []; done) | (simp only []; omega) | (simp; done) | (simp; omega)))
                all_goals (show rwd A W k ++ (bt W x j ++ [x.testBit (W - 1 - j)]) ++ t2 = _; rw [show List.take (mulSz 1 (W * k + j)) (List.drop 0 (rwd A W k ++ bt W x j ++ t)) = rwd A W k ++ bt W x j from List.take_left' (by rw [List.length_append, hlk, hbj]; rfl)]; simp [mulSz])
            · skip
              conv => whnf
              refine ⟨?_, True.intro⟩
              conv => whnf
              refine ⟨_, [], PW, ?_⟩
              conv => whnf
              refine ⟨?_, ?_, ?_⟩
              · conv => whnf
                repeat' (first | exact True.intro | rfl | refine And.intro ?_ ?_)
                all_goals (conv => whnf)
                repeat' (first | exact True.intro | rfl | refine And.intro ?_ ?_)
                all_goals (try (first | rfl | omega | (simp; done) | (simp; omega)))
              · conv => whnf
                repeat' (first | exact True.intro | rfl | refine And.intro ?_ ?_)
                all_goals (conv => whnf)
                repeat' (first | exact True.intro | rfl | refine And.intro ?_ ?_)
                all_goals (try (first | rfl | omega | (simp; done) | (simp; omega)))
              conv => whnf
              conv => whnf
              refine And.intro (by omega) ?_
              conv => whnf
              conv => whnf
              refine And.intro (by rw [e0]; omega) ?_
              rw [e0, hx]
              conv => whnf
              refine ⟨⟨by omega, by omega, by rw [i64max]; omega⟩, ?_⟩
              conv => whnf
              refine ⟨⟨Int.ediv_nonneg (by omega) (by omega), by decide⟩, ?_⟩
              conv => whnf
              rw [dm_bit]
              conv => whnf
              repeat (first
                | (refine And.intro ?_ ?_; (focus (first | omega | decide | exact Int.natCast_nonneg _ | ((repeat' refine And.intro ?_ ?_) <;> first | omega | exact Int.natCast_nonneg _ | (simp only [i64max]; omega) | (simp only [u8max]; omega) | (simp only [i64max, u8max, u16max, u32max, u64max]; omega) | (simp [mulSz, Cont.len, bne, hlk, hbj]; done) | (simp [mulSz, Cont.len, bne, hlk, hbj]; omega)))); conv => whnf)
                | (refine tst_in ?_ ?_; (focus (intro h_; exfalso; first | omega | ((try simp only [decide_eq_true_eq, decide_eq_false_iff_not] at h_); omega) | (simp [mulSz, Cont.len, bne, hlk, hbj] at h_; done) | (simp [mulSz, Cont.len, bne, hlk, hbj] at h_; omega))); intro _; conv => whnf)
                | (refine tst_in ?_ ?_; rotate_left; (focus (intro h_; exfalso; first | omega | ((try simp only [decide_eq_true_eq, decide_eq_false_iff_not] at h_); omega) | (simp [mulSz, Cont.len, bne, hlk, hbj] at h_; done) | (simp [mulSz, Cont.len, bne, hlk, hbj] at h_; omega))); intro _; conv => whnf))
              intro (t2 : List Bool)
              conv => whnf
              repeat (first
                | (refine And.intro ?_ ?_; (focus (first | omega | decide | exact Int.natCast_nonneg _ | ((repeat' refine And.intro ?_ ?_) <;> first | omega | exact Int.natCast_nonneg _ | (simp only [i64max]; omega) | (simp only [u8max]; omega) | (simp only [i64max, u8max, u16max, u32max, u64max]; omega) | (simp [mulSz, Cont.len, bne]; done) | (simp [mulSz, Cont.len, bne]; omega)))); conv => whnf)
                | (refine tst_in ?_ ?_; (focus (intro h_; exfalso; first | omega | ((try simp only [decide_eq_true_eq, decide_eq_false_iff_not] at h_); omega) | (simp [mulSz, Cont.len, bne] at h_; done) | (simp [mulSz, Cont.len, bne] at h_; omega))); intro _; conv => whnf)
                | (refine tst_in ?_ ?_; rotate_left; (focus (intro h_; exfalso; first | omega | ((try simp only [decide_eq_true_eq, decide_eq_false_iff_not] at h_); omega) | (simp [mulSz, Cont.len, bne] at h_; done) | (simp [mulSz, Cont.len, bne] at h_; omega))); intro _; conv => whnf))
              refine ⟨[0, 3], ((j + 1, t2) : Nat × List Bool), ?_, (by show j + 1 ≤ W; omega), (by show W - (j + 1) < W - j; omega)⟩
              show stLe _ _ (st16 A W n ca k (W * k + (j + 1)) (.int .i64 (j + 1 : Nat)) (rwd A W k ++ bt W (A.getD k 0).toNat (j + 1)) t2) _
              rw [hxt]
              conv => whnf
              repeat' (first | exact True.intro | rfl | refine And.intro ?_ ?_)
              all_goals (conv => whnf)
              repeat' (first | exact True.intro | rfl | refine And.intro ?_ ?_)
              all_goals (try (first | omega | exact True.intro | rfl | assumption | (change LE.le (α := Nat) _ _; first | omega | (simp only []; omega)) | (simp only []; done) | (simp only []; omega) | (simp; done) | (simp; omega)))
              all_goals (show rwd A W k ++ (bt W x j ++ [x.testBit (W - 1 - j)]) ++ t2 = _; rw [show List.take (mulSz 1 (W * k + j)) (List.drop 0 (rwd A W k ++ bt W x j ++ t)) = rwd A W k ++ bt W x j from List.take_left' (by rw [List.length_append, hlk, hbj]; rfl)]; simp [mulSz])
          · skip
            have hjt : j = W := by simp at hjt; omega
            subst hjt
            conv => whnf
            repeat (first
              | (refine And.intro ?_ ?_; (focus (first | omega | decide | exact Int.natCast_nonneg _ | ((repeat' refine And.intro ?_ ?_) <;> first | omega | exact Int.natCast_nonneg _ | (simp only [i64max]; omega) | (simp only [u8max]; omega) | (simp only [i64max, u8max, u16max, u32max, u64max]; omega) | (simp [mulSz, Cont.len, bne]; done) | (simp [mulSz, Cont.len, bne]; omega)))); conv => whnf)
              | (refine tst_in ?_ ?_; (focus (intro h_; exfalso; first | omega | ((try simp only [decide_eq_true_eq, decide_eq_false_iff_not] at h_); omega) | (simp [mulSz, Cont.len, bne] at h_; done) | (simp [mulSz, Cont.len, bne] at h_; omega))); intro _; conv => whnf)
              | (refine tst_in ?_ ?_; rotate_left; (focus (intro h_; exfalso; first | omega | ((try simp only [decide_eq_true_eq, decide_eq_false_iff_not] at h_); omega) | (simp [mulSz, Cont.len, bne] at h_; done) | (simp [mulSz, Cont.len, bne] at h_; omega))); intro _; conv => whnf))
            refine ⟨[0, 1], ((k + 1, t) : Nat × List Bool), ?_, (by show k + 1 ≤ p; omega), (by show p - (k + 1) < p - k; omega)⟩
            show stLe _ _ (st16 A j n ca (k + 1) (j * (k + 1)) .any (rwd A j (k + 1)) t) _
            conv => whnf
            repeat' (first | exact True.intro | rfl | refine And.intro ?_ ?_)
            all_goals (conv => whnf)
            repeat' (first | exact True.intro | rfl | refine And.intro ?_ ?_)
            all_goals (try (first | omega | exact True.intro | rfl | assumption | (change LE.le (α := Nat) _ _; first | omega | (simp only [hx2, hx3]; omega)) | (simp only [hx2, hx3]; done) | (simp only [hx2, hx3]; omega) | (simp [hx2, hx3]; done) | (simp [hx2, hx3]; omega)))
      · have hkp : k = p := by omega
        subst hkp
        conv => whnf
        repeat (first
          | (refine And.intro ?_ ?_; (focus (first | omega | decide | exact Int.natCast_nonneg _ | ((repeat' refine And.intro ?_ ?_) <;> first | omega | exact Int.natCast_nonneg _ | (simp only [i64max]; omega) | (simp only [u8max]; omega) | (simp only [i64max, u8max, u16max, u32max, u64max]; omega) | (simp [mulSz, Cont.len, bne]; done) | (simp [mulSz, Cont.len, bne]; omega)))); conv => whnf)
          | (refine tst_in ?_ ?_; (focus (intro h_; exfalso; first | omega | ((try simp only [decide_eq_true_eq, decide_eq_false_iff_not] at h_); omega) | (simp [mulSz, Cont.len, bne] at h_; done) | (simp [mulSz, Cont.len, bne] at h_; omega))); intro _; conv => whnf)
          | (refine tst_in ?_ ?_; rotate_left; (focus (intro h_; exfalso; first | omega | ((try simp only [decide_eq_true_eq, decide_eq_false_iff_not] at h_); omega) | (simp [mulSz, Cont.len, bne] at h_; done) | (simp [mulSz, Cont.len, bne] at h_; omega))); intro _; conv => whnf))
        rw [e0]
        by_cases hneg : A.getD k 0 < 0
        · skip
          conv => whnf
          repeat (first
            | (refine And.intro ?_ ?_; (focus (first | omega | decide | exact Int.natCast_nonneg _ | ((repeat' refine And.intro ?_ ?_) <;> first | omega | exact Int.natCast_nonneg _ | (simp only [i64max]; omega) | (simp only [u8max]; omega) | (simp only [i64max, u8max, u16max, u32max, u64max]; omega) | (simp [mulSz, Cont.len, bne]; done) | (simp [mulSz, Cont.len, bne]; omega)))); conv => whnf)
            | (refine tst_in ?_ ?_; (focus (intro h_; exfalso; first | omega | ((try simp only [decide_eq_true_eq, decide_eq_false_iff_not] at h_); omega) | (simp [mulSz, Cont.len, bne] at h_; done) | (simp [mulSz, Cont.len, bne] at h_; omega))); intro _; conv => whnf)
            | (refine tst_in ?_ ?_; rotate_left; (focus (intro h_; exfalso; first | omega | ((try simp only [decide_eq_true_eq, decide_eq_false_iff_not] at h_); omega) | (simp [mulSz, Cont.len, bne] at h_; done) | (simp [mulSz, Cont.len, bne] at h_; omega))); intro _; conv => whnf))
          refine .inl ⟨[], [0, 2], ?_⟩
          conv => whnf
          repeat' (first | exact True.intro | rfl | refine And.intro ?_ ?_)
          all_goals (conv => whnf)
          repeat' (first | exact True.intro | rfl | refine And.intro ?_ ?_)
          all_goals (try (first | omega | exact True.intro | rfl | assumption | (change LE.le (α := Nat) _ _; first | omega | (simp only []; omega)) | (simp only []; done) | (simp only []; omega) | (simp; done) | (simp; omega)))
        · skip
          have hbig : ((2 ^ W : Nat) : Int) ≤ A.getD k 0 := by
            unfold okW at hbad
            omega
          conv => whnf
          repeat (first
            | (refine And.intro ?_ ?_; (focus (first | omega | decide | exact Int.natCast_nonneg _ | ((repeat' refine And.intro ?_ ?_) <;> first | omega | exact Int.natCast_nonneg _ | (simp only [i64max]; omega) | (simp only [u8max]; omega) | (simp only [i64max, u8max, u16max, u32max, u64max]; omega) | (simp [mulSz, Cont.len, bne]; done) | (simp [mulSz, Cont.len, bne]; omega)))); conv => whnf)
            | (refine tst_in ?_ ?_; (focus (intro h_; exfalso; first | omega | ((try simp only [decide_eq_true_eq, decide_eq_false_iff_not] at h_); omega) | (simp [mulSz, Cont.len, bne] at h_; done) | (simp [mulSz, Cont.len, bne] at h_; omega))); intro _; conv => whnf)
            | (refine tst_in ?_ ?_; rotate_left; (focus (intro h_; exfalso; first | omega | ((try simp only [decide_eq_true_eq, decide_eq_false_iff_not] at h_); omega) | (simp [mulSz, Cont.len, bne] at h_; done) | (simp [mulSz, Cont.len, bne] at h_; omega))); intro _; conv => whnf))
          rw [e0]
          conv => whnf
          refine ⟨_, [], PW0, ?_⟩
          conv => whnf
          refine ⟨?_, ?_, ?_⟩
          · conv => whnf
            repeat' (first | exact True.intro | rfl | refine And.intro ?_ ?_)
            all_goals (conv => whnf)
            repeat' (first | exact True.intro | rfl | refine And.intro ?_ ?_)
            all_goals (try (first | rfl | omega | (simp; done) | (simp; omega)))
          · conv => whnf
            repeat' (first | exact True.intro | rfl | refine And.intro ?_ ?_)
            all_goals (conv => whnf)
            repeat' (first | exact True.intro | rfl | refine And.intro ?_ ?_)
            all_goals (try (first | rfl | omega | (simp; done) | (simp; omega)))
          conv => whnf
          conv => whnf
          repeat (first
            | (refine And.intro ?_ ?_; (focus (first | omega | decide | exact Int.natCast_nonneg _ | ((repeat' refine And.intro ?_ ?_) <;> first | omega | exact Int.natCast_nonneg _ | (simp only [i64max]; omega) | (simp only [u8max]; omega) | (simp only [i64max, u8max, u16max, u32max, u64max]; omega) | (simp [mulSz, Cont.len, bne]; done) | (simp [mulSz, Cont.len, bne]; omega)))); conv => whnf)
            | (refine tst_in ?_ ?_; (focus (intro h_; exfalso; first | omega | ((try simp only [decide_eq_true_eq, decide_eq_false_iff_not] at h_); omega) | (simp [mulSz, Cont.len, bne] at h_; done) | (simp [mulSz, Cont.len, bne] at h_; omega))); intro _; conv => whnf)
            | (refine tst_in ?_ ?_; rotate_left; (focus (intro h_; exfalso; first | omega | ((try simp only [decide_eq_true_eq, decide_eq_false_iff_not] at h_); omega) | (simp [mulSz, Cont.len, bne] at h_; done) | (simp [mulSz, Cont.len, bne] at h_; omega))); intro _; conv => whnf))
          refine .inl ⟨[], [0, 2], ?_⟩
          conv => whnf
          repeat' (first | exact True.intro | rfl | refine And.intro ?_ ?_)
          all_goals (conv => whnf)
          repeat' (first | exact True.intro | rfl | refine And.intro ?_ ?_)
          all_goals (try (first | omega | exact True.intro | rfl | assumption | (change LE.le (α := Nat) _ _; first | omega | (simp only []; omega)) | (simp only []; done) | (simp only []; omega) | (simp; done) | (simp; omega)))
    · skip
      have hge : k = n := by simp at hge; omega
      exfalso; omega
theorem pRow (A B : List Int) (w : Int) (n ca cb : Nat) (hA : n ≤ A.length) (hB : n ≤ B.length) (hAB : ∀ i, i < n → A.getD i 0 = B.getD i 0) (hN : n ≤ 140737488355328) :
    ∃ (X : List Bool) (e : Nat), X.length ≤ 32768 ∧ Fits Try.prog 15 ⟨[.slice 0 0 n ca, .int .i64 w], [.seg false (.ints .i64 A)], [rowB X e]⟩ ∧ Fits Try.prog 16 ⟨[.slice 0 0 n cb, .int .i64 w], [.seg false (.ints .i64 B)], [rowB X e]⟩ := by
  by_cases h : badR w n
  · exact ⟨[], 1, by decide, Row_far A w n ca h hN, rRow_far B w n cb h hN⟩
  · unfold badR at h
    obtain ⟨W, rfl⟩ : ∃ W : Nat, w = W := ⟨w.toNat, by omega⟩
    have h1 : 1 ≤ W := by omega
    have h2 : W ≤ 16 := by omega
    have h3 : W * n ≤ 32768 := by
      have : ¬ 32768 < (W : Int) * (n : Int) := fun e => h (.inr (.inr ⟨by omega, by omega, e⟩))
      rw [← Int.natCast_mul] at this
      omega
    have key : ∀ m, m ≤ n → (∀ i, i < m → okW A W i) ∨ ∃ p, p < m ∧ (∀ i, i < p → okW A W i) ∧ ¬ okW A W p := by
      intro m
      induction m with
      | zero => exact fun _ => .inl fun i hi => by omega
      | succ m ih =>
        intro hm
        rcases ih (by omega) with h | ⟨p, a, b, c⟩
        · by_cases e : okW A W m
          · exact .inl fun i hi => by
              rcases Nat.lt_or_ge i m with z | z
              · exact h i z
              · have : i = m := by omega
                subst this; exact e
          · exact .inr ⟨m, by omega, h, e⟩
        · exact .inr ⟨p, by omega, b, c⟩
    have tr : ∀ i, i < n → (okW A W i ↔ okW B W i) := fun i hi => by unfold okW; rw [hAB i hi]
    have hr : ∀ m, m ≤ n → rwd A W m = rwd B W m := by
      intro m
      induction m with
      | zero => exact fun _ => rfl
      | succ m ih => intro hm; rw [rwd, rwd, ih (by omega), hAB m (by omega)]
    rcases key n (Nat.le_refl _) with hv | ⟨p, a, b, c⟩
    · refine ⟨rwd A W n, 0, by rw [rwd_len]; exact h3, Row_y A W n ca n hA h1 h2 h3 hv rfl, ?_⟩
      rw [hr n (Nat.le_refl _)]
      exact rRow_y B W n cb n hB h1 h2 h3 (fun i hi => (tr i hi).1 (hv i hi)) rfl
    · exact ⟨[], 1, by decide, Row_n A W n ca p hA h1 h2 h3 b a c, rRow_n B W n cb p hB h1 h2 h3 (fun i hi => (tr i (by omega)).1 (b i hi)) a (fun e => c ((tr p a).2 e))⟩
end Go.Proofs.Ytkkianjpkipooaa

set_option linter.unusedVariables false
set_option linter.unusedSimpArgs false
namespace Go.Proofs.Ytkkianjpkipooaa
open Go Go.Fw
def eqO (A : List Bool) (o : Nat) (B : List Bool) (p : Nat) : Nat → Bool
  | 0 => true
  | k + 1 => eqO A o B p k && (A.getD (o + k) false == B.getD (p + k) false)
theorem eqO_iff (A : List Bool) (o : Nat) (B : List Bool) (p : Nat) : ∀ k, eqO A o B p k = true ↔ ∀ i, i < k → A.getD (o + i) false = B.getD (p + i) false
  | 0 => by simp [eqO]
  | k + 1 => by
    simp only [eqO, Bool.and_eq_true, beq_iff_eq, eqO_iff A o B p k]
    constructor
    · rintro ⟨h1, h2⟩ i hi
      rcases Nat.lt_or_ge i k with h | h
      · exact h1 i h
      · have : i = k := by omega
        subst this; exact h2
    · intro h
      exact ⟨fun i hi => h i (by omega), h k (by omega)⟩
theorem eqO_false {A : List Bool} {o : Nat} {B : List Bool} {p i k : Nat} (h : ¬ A.getD (o + i) false = B.getD (p + i) false) (hi : i < k) : eqO A o B p k = false := by
  rw [← Bool.not_eq_true, eqO_iff]
  exact fun h2 => h (h2 i hi)
noncomputable def c17 : Code := (Try.f17.body).getD .skip
def st17 (A B : List Bool) (o n ca p cb k : Nat) : St := ⟨anyTo 26 [.slice 0 o n ca, .slice 1 p n cb, .any, .any, .any, .int .i64 k], [.seg false (.bools A), .seg false (.bools B)]⟩
def inv17 (A B : List Bool) (o n ca p cb : Nat) : LInv := ⟨Nat, fun k => st17 A B o n ca p cb k, fun k => k ≤ n ∧ eqO A o B p k = true, fun k => n - k⟩
set_option maxHeartbeats 0 in
set_option maxRecDepth 100000 in
theorem Same_q (A B : List Bool) (o n ca p m cb : Nat) (hA : o + n ≤ A.length) (hB : p + m ≤ B.length) (hN : n ≤ 4611686018427387904) :
    QFits Try.prog 17 ⟨[.slice 0 o n ca, .slice 1 p m cb], [.seg false (.bools A), .seg false (.bools B)], .bool (decide (n = m) && eqO A o B p n)⟩ := by
  refine qfits_of_body (C := cfgs 2) (c := c17) (ts := [4]) tok0 mixed0 (fun | 4 => some (inv17 A B o n ca p cb) | _ => none) (fun _ => none)
    Try.func17 (by kernel_rfl) (by kernel_rfl) (by kernel_rfl) (by kernel_rfl) (by kernel_rfl) rfl rfl ?_
  conv => whnf
  refine tst_in (fun hnm => ?_) (fun hnm => ?_)
  · skip
    have hnm : n ≠ m := by simp at hnm; omega
    conv => whnf
    repeat (first
      | (refine And.intro ?_ ?_; (focus (first | omega | decide | exact Int.natCast_nonneg _ | ((repeat' refine And.intro ?_ ?_) <;> first | omega | exact Int.natCast_nonneg _ | (simp only [i64max]; omega) | (simp only [u8max]; omega) | (simp only [i64max, u8max, u16max, u32max, u64max]; omega) | (simp [mulSz, Cont.len, bne]; done) | (simp [mulSz, Cont.len, bne]; omega)))); conv => whnf)
      | (refine tst_in ?_ ?_; (focus (intro h_; exfalso; first | omega | ((try simp only [decide_eq_true_eq, decide_eq_false_iff_not] at h_); omega) | (simp [mulSz, Cont.len, bne] at h_; done) | (simp [mulSz, Cont.len, bne] at h_; omega))); intro _; conv => whnf)
      | (refine tst_in ?_ ?_; rotate_left; (focus (intro h_; exfalso; first | omega | ((try simp only [decide_eq_true_eq, decide_eq_false_iff_not] at h_); omega) | (simp [mulSz, Cont.len, bne] at h_; done) | (simp [mulSz, Cont.len, bne] at h_; omega))); intro _; conv => whnf))
    rw [decide_eq_false hnm]
    conv => whnf
    repeat' (first | exact True.intro | rfl | refine And.intro ?_ ?_)
    all_goals (conv => whnf)
    repeat' (first | exact True.intro | rfl | refine And.intro ?_ ?_)
    all_goals (try (first | omega | exact True.intro | rfl | assumption | (change LE.le (α := Nat) _ _; first | omega | (simp only []; omega)) | (simp only []; done) | (simp only []; omega) | (simp; done) | (simp; omega)))
  · skip
    have hnm : n = m := by simp at hnm; omega
    subst hnm
    conv => whnf
    repeat (first
      | (refine And.intro ?_ ?_; (focus (first | omega | decide | exact Int.natCast_nonneg _ | ((repeat' refine And.intro ?_ ?_) <;> first | omega | exact Int.natCast_nonneg _ | (simp only [i64max]; omega) | (simp only [u8max]; omega) | (simp only [i64max, u8max, u16max, u32max, u64max]; omega) | (simp [mulSz, Cont.len, bne]; done) | (simp [mulSz, Cont.len, bne]; omega)))); conv => whnf)
      | (refine tst_in ?_ ?_; (focus (intro h_; exfalso; first | omega | ((try simp only [decide_eq_true_eq, decide_eq_false_iff_not] at h_); omega) | (simp [mulSz, Cont.len, bne] at h_; done) | (simp [mulSz, Cont.len, bne] at h_; omega))); intro _; conv => whnf)
      | (refine tst_in ?_ ?_; rotate_left; (focus (intro h_; exfalso; first | omega | ((try simp only [decide_eq_true_eq, decide_eq_false_iff_not] at h_); omega) | (simp [mulSz, Cont.len, bne] at h_; done) | (simp [mulSz, Cont.len, bne] at h_; omega))); intro _; conv => whnf))
    refine ⟨⟨[0, 1], (0 : Nat), ?_, ⟨Nat.zero_le _, rfl⟩⟩, ?_⟩
    · conv => whnf
      repeat' (first | exact True.intro | rfl | refine And.intro ?_ ?_)
      all_goals (conv => whnf)
      repeat' (first | exact True.intro | rfl | refine And.intro ?_ ?_)
      all_goals (try (first | omega | exact True.intro | rfl | assumption | (change LE.le (α := Nat) _ _; first | omega | (simp only []; omega)) | (simp only []; done) | (simp only []; omega) | (simp; done) | (simp; omega)))
    · rintro (k : Nat) ⟨hk, he⟩
      have hk : k ≤ n := hk
      have he : eqO A o B p k = true := he
      show forceSt (st17 A B o n ca p cb k) _
      conv => whnf
      refine tst_in (fun hlt => ?_) (fun hge => ?_)
      · skip
        have hlt : k < n := by simp at hlt; omega
        conv => whnf
        repeat (first
          | (refine And.intro ?_ ?_; (focus (first | omega | decide | exact Int.natCast_nonneg _ | ((repeat' refine And.intro ?_ ?_) <;> first | omega | exact Int.natCast_nonneg _ | (simp only [i64max]; omega) | (simp only [u8max]; omega) | (simp only [i64max, u8max, u16max, u32max, u64max]; omega) | (simp [mulSz, Cont.len, bne]; done) | (simp [mulSz, Cont.len, bne]; omega)))); conv => whnf)
          | (refine tst_in ?_ ?_; (focus (intro h_; exfalso; first | omega | ((try simp only [decide_eq_true_eq, decide_eq_false_iff_not] at h_); omega) | (simp [mulSz, Cont.len, bne] at h_; done) | (simp [mulSz, Cont.len, bne] at h_; omega))); intro _; conv => whnf)
          | (refine tst_in ?_ ?_; rotate_left; (focus (intro h_; exfalso; first | omega | ((try simp only [decide_eq_true_eq, decide_eq_false_iff_not] at h_); omega) | (simp [mulSz, Cont.len, bne] at h_; done) | (simp [mulSz, Cont.len, bne] at h_; omega))); intro _; conv => whnf))
        rw [show o + ((k : Int)).toNat = o + k by omega, show p + ((k : Int)).toNat = p + k by omega]
        refine tst_in (fun hd => ?_) (fun hd => ?_)
        · skip
          have hd : ¬ A.getD (o + k) false = B.getD (p + k) false := by simpa using hd
          conv => whnf
          repeat (first
            | (refine And.intro ?_ ?_; (focus (first | omega | decide | exact Int.natCast_nonneg _ | ((repeat' refine And.intro ?_ ?_) <;> first | omega | exact Int.natCast_nonneg _ | (simp only [i64max]; omega) | (simp only [u8max]; omega) | (simp only [i64max, u8max, u16max, u32max, u64max]; omega) | (simp [mulSz, Cont.len, bne]; done) | (simp [mulSz, Cont.len, bne]; omega)))); conv => whnf)
            | (refine tst_in ?_ ?_; (focus (intro h_; exfalso; first | omega | ((try simp only [decide_eq_true_eq, decide_eq_false_iff_not] at h_); omega) | (simp [mulSz, Cont.len, bne] at h_; done) | (simp [mulSz, Cont.len, bne] at h_; omega))); intro _; conv => whnf)
            | (refine tst_in ?_ ?_; rotate_left; (focus (intro h_; exfalso; first | omega | ((try simp only [decide_eq_true_eq, decide_eq_false_iff_not] at h_); omega) | (simp [mulSz, Cont.len, bne] at h_; done) | (simp [mulSz, Cont.len, bne] at h_; omega))); intro _; conv => whnf))
          rw [eqO_false hd hlt]
          conv => whnf
          repeat' (first | exact True.intro | rfl | refine And.intro ?_ ?_)
          all_goals (conv => whnf)
          repeat' (first | exact True.intro | rfl | refine And.intro ?_ ?_)
          all_goals (try (first | omega | exact True.intro | rfl | assumption | (change LE.le (α := Nat) _ _; first | omega | (simp only []; omega)) | (simp only []; done) | (simp only []; omega) | (simp; done) | (simp; omega)))
        · skip
          have hd : A.getD (o + k) false = B.getD (p + k) false := by simpa using hd
          conv => whnf
          repeat (first
            | (refine And.intro ?_ ?_; (focus (first | omega | decide | exact Int.natCast_nonneg _ | ((repeat' refine And.intro ?_ ?_) <;> first | omega | exact Int.natCast_nonneg _ | (simp only [i64max]; omega) | (simp only [u8max]; omega) | (simp only [i64max, u8max, u16max, u32max, u64max]; omega) | (simp [mulSz, Cont.len, bne]; done) | (simp [mulSz, Cont.len, bne]; omega)))); conv => whnf)
            | (refine tst_in ?_ ?_; (focus (intro h_; exfalso; first | omega | ((try simp only [decide_eq_true_eq, decide_eq_false_iff_not] at h_); omega) | (simp [mulSz, Cont.len, bne] at h_; done) | (simp [mulSz, Cont.len, bne] at h_; omega))); intro _; conv => whnf)
            | (refine tst_in ?_ ?_; rotate_left; (focus (intro h_; exfalso; first | omega | ((try simp only [decide_eq_true_eq, decide_eq_false_iff_not] at h_); omega) | (simp [mulSz, Cont.len, bne] at h_; done) | (simp [mulSz, Cont.len, bne] at h_; omega))); intro _; conv => whnf))
          refine ⟨[0, 1], k + 1, ?_, ⟨hlt, by show (eqO A o B p k && (A.getD (o + k) false == B.getD (p + k) false)) = true; rw [he, hd]; simp⟩, (by show n - (k + 1) < n - k; omega)⟩
          conv => whnf
          repeat' (first | exact True.intro | rfl | refine And.intro ?_ ?_)
          all_goals (conv => whnf)
          repeat' (first | exact True.intro | rfl | refine And.intro ?_ ?_)
          all_goals (try (first | omega | exact True.intro | rfl | assumption | (change LE.le (α := Nat) _ _; first | omega | (simp only []; omega)) | (simp only []; done) | (simp only []; omega) | (simp; done) | (simp; omega)))
      · skip
        have hge : k = n := by simp at hge; omega
        subst hge
        conv => whnf
        repeat (first
          | (refine And.intro ?_ ?_; (focus (first | omega | decide | exact Int.natCast_nonneg _ | ((repeat' refine And.intro ?_ ?_) <;> first | omega | exact Int.natCast_nonneg _ | (simp only [i64max]; omega) | (simp only [u8max]; omega) | (simp only [i64max, u8max, u16max, u32max, u64max]; omega) | (simp [mulSz, Cont.len, bne]; done) | (simp [mulSz, Cont.len, bne]; omega)))); conv => whnf)
          | (refine tst_in ?_ ?_; (focus (intro h_; exfalso; first | omega | ((try simp only [decide_eq_true_eq, decide_eq_false_iff_not] at h_); omega) | (simp [mulSz, Cont.len, bne] at h_; done) | (simp [mulSz, Cont.len, bne] at h_; omega))); intro _; conv => whnf)
          | (refine tst_in ?_ ?_; rotate_left; (focus (intro h_; exfalso; first | omega | ((try simp only [decide_eq_true_eq, decide_eq_false_iff_not] at h_); omega) | (simp [mulSz, Cont.len, bne] at h_; done) | (simp [mulSz, Cont.len, bne] at h_; omega))); intro _; conv => whnf))
        rw [he]
        conv => whnf
        repeat' (first | exact True.intro | rfl | refine And.intro ?_ ?_)
        all_goals (conv => whnf)
        repeat' (first | exact True.intro | rfl | refine And.intro ?_ ?_)
        all_goals (try (first | omega | exact True.intro | rfl | assumption | (change LE.le (α := Nat) _ _; first | omega | (simp only []; omega)) | (simp only []; done) | (simp only []; omega) | (simp; done) | (simp; omega)))
theorem eqO_self {X : List Bool} (t u : List Bool) : eqO (X ++ t) 0 (X ++ u) 0 X.length = true := by
  rw [eqO_iff]
  intro i hi
  rw [List.getD_eq_getElem?_getD, List.getD_eq_getElem?_getD, Nat.zero_add, List.getElem?_append_left hi, List.getElem?_append_left hi]
theorem Same_self {X : List Bool} (t u : List Bool) (hX : X.length ≤ 32768) : QFits Try.prog 17 ⟨[.slice 0 0 X.length (X.length + t.length), .slice 1 0 X.length (X.length + u.length)], [.seg false (.bools (X ++ t)), .seg false (.bools (X ++ u))], .bool true⟩ := by
  have := Same_q (X ++ t) (X ++ u) 0 X.length (X.length + t.length) 0 X.length (X.length + u.length) (by simp) (by simp) (by omega)
  rwa [eqO_self, decide_eq_true rfl, Bool.true_and] at this
def eqI (A : List Int) (o : Nat) (B : List Int) (p : Nat) : Nat → Bool
  | 0 => true
  | k + 1 => eqI A o B p k && (A.getD (o + k) 0 == B.getD (p + k) 0)
theorem eqI_iff (A : List Int) (o : Nat) (B : List Int) (p : Nat) : ∀ k, eqI A o B p k = true ↔ ∀ i, i < k → A.getD (o + i) 0 = B.getD (p + i) 0
  | 0 => by simp [eqI]
  | k + 1 => by
    simp only [eqI, Bool.and_eq_true, beq_iff_eq, eqI_iff A o B p k]
    constructor
    · rintro ⟨h1, h2⟩ i hi
      rcases Nat.lt_or_ge i k with h | h
      · exact h1 i h
      · have : i = k := by omega
        subst this; exact h2
    · intro h
      exact ⟨fun i hi => h i (by omega), h k (by omega)⟩
theorem eqI_false {A : List Int} {o : Nat} {B : List Int} {p i k : Nat} (h : ¬ A.getD (o + i) 0 = B.getD (p + i) 0) (hi : i < k) : eqI A o B p k = false := by
  rw [← Bool.not_eq_true, eqI_iff]
  exact fun h2 => h (h2 i hi)
noncomputable def c18 : Code := (Try.f18.body).getD .skip
def st18 (A B : List Int) (o n ca p cb k : Nat) : St := ⟨anyTo 26 [.slice 0 o n ca, .slice 1 p n cb, .any, .any, .any, .int .i64 k], [.seg false (.ints .i64 A), .seg false (.ints .i64 B)]⟩
def inv18 (A B : List Int) (o n ca p cb : Nat) : LInv := ⟨Nat, fun k => st18 A B o n ca p cb k, fun k => k ≤ n ∧ eqI A o B p k = true, fun k => n - k⟩
set_option maxHeartbeats 0 in
set_option maxRecDepth 100000 in
theorem SameI_q (A B : List Int) (o n ca p m cb : Nat) (hA : o + n ≤ A.length) (hB : p + m ≤ B.length) (hN : n ≤ 4611686018427387904) :
    QFits Try.prog 18 ⟨[.slice 0 o n ca, .slice 1 p m cb], [.seg false (.ints .i64 A), .seg false (.ints .i64 B)], .bool (decide (n = m) && eqI A o B p n)⟩ := by
  refine qfits_of_body (C := cfgs 2) (c := c18) (ts := [4]) tok0 mixed0 (fun | 4 => some (inv18 A B o n ca p cb) | _ => none) (fun _ => none)
    Try.func18 (by kernel_rfl) (by kernel_rfl) (by kernel_rfl) (by kernel_rfl) (by kernel_rfl) rfl rfl ?_
  conv => whnf
  refine tst_in (fun hnm => ?_) (fun hnm => ?_)
  · skip
    have hnm : n ≠ m := by simp at hnm; omega
    conv => whnf
    repeat (first
      | (refine And.intro ?_ ?_; (focus (first | omega | decide | exact Int.natCast_nonneg _ | ((repeat' refine And.intro ?_ ?_) <;> first | omega | exact Int.natCast_nonneg _ | (simp only [i64max]; omega) | (simp only [u8max]; omega) | (simp only [i64max, u8max, u16max, u32max, u64max]; omega) | (simp [mulSz, Cont.len, bne]; done) | (simp [mulSz, Cont.len, bne]; omega)))); conv => whnf)
      | (refine tst_in ?_ ?_; (focus (intro h_; exfalso; first | omega | ((try simp only [decide_eq_true_eq, decide_eq_false_iff_not] at h_); omega) | (simp [mulSz, Cont.len, bne] at h_; done) | (simp [mulSz, Cont.len, bne] at h_; omega))); intro _; conv => whnf)
      | (refine tst_in ?_ ?_; rotate_left; (focus (intro h_; exfalso; first | omega | ((try simp only [decide_eq_true_eq, decide_eq_false_iff_not] at h_); omega) | (simp [mulSz, Cont.len, bne] at h_; done) | (simp [mulSz, Cont.len, bne] at h_; omega))); intro _; conv => whnf))
    rw [decide_eq_false hnm]
    conv => whnf
    repeat' (first | exact True.intro | rfl | refine And.intro ?_ ?_)
    all_goals (conv => whnf)
    repeat' (first | exact True.intro | rfl | refine And.intro ?_ ?_)
    all_goals (try (first | omega | exact True.intro | rfl | assumption | (change LE.le (α := Nat) _ _; first | omega | (simp only []; omega)) | (simp only []; done) | (simp only []; omega) | (simp; done) | (simp; omega)))
  · skip
    have hnm : n = m := by simp at hnm; omega
    subst hnm
    conv => whnf
    repeat (first
      | (refine And.intro ?_ ?_; (focus (first | omega | decide | exact Int.natCast_nonneg _ | ((repeat' refine And.intro ?_ ?_) <;> first | omega | exact Int.natCast_nonneg _ | (simp only [i64max]; omega) | (simp only [u8max]; omega) | (simp only [i64max, u8max, u16max, u32max, u64max]; omega) | (simp [mulSz, Cont.len, bne]; done) | (simp [mulSz, Cont.len, bne]; omega)))); conv => whnf)
      | (refine tst_in ?_ ?_; (focus (intro h_; exfalso; first | omega | ((try simp only [decide_eq_true_eq, decide_eq_false_iff_not] at h_); omega) | (simp [mulSz, Cont.len, bne] at h_; done) | (simp [mulSz, Cont.len, bne] at h_; omega))); intro _; conv => whnf)
      | (refine tst_in ?_ ?_; rotate_left; (focus (intro h_; exfalso; first | omega | ((try simp only [decide_eq_true_eq, decide_eq_false_iff_not] at h_); omega) | (simp [mulSz, Cont.len, bne] at h_; done) | (simp [mulSz, Cont.len, bne] at h_; omega))); intro _; conv => whnf))
    refine ⟨⟨[0, 1], (0 : Nat), ?_, ⟨Nat.zero_le _, rfl⟩⟩, ?_⟩
    · conv => whnf
      repeat' (first | exact True.intro | rfl | refine And.intro ?_ ?_)
      all_goals (conv => whnf)
      repeat' (first | exact True.intro | rfl | refine And.intro ?_ ?_)
      all_goals (try (first | omega | exact True.intro | rfl | assumption | (change LE.le (α := Nat) _ _; first | omega | (simp only []; omega)) | (simp only []; done) | (simp only []; omega) | (simp; done) | (simp; omega)))
    · rintro (k : Nat) ⟨hk, he⟩
      have hk : k ≤ n := hk
      have he : eqI A o B p k = true := he
      show forceSt (st18 A B o n ca p cb k) _
      conv => whnf
      refine tst_in (fun hlt => ?_) (fun hge => ?_)
      · skip
        have hlt : k < n := by simp at hlt; omega
        conv => whnf
        repeat (first
          | (refine And.intro ?_ ?_; (focus (first | omega | decide | exact Int.natCast_nonneg _ | ((repeat' refine And.intro ?_ ?_) <;> first | omega | exact Int.natCast_nonneg _ | (simp only [i64max]; omega) | (simp only [u8max]; omega) | (simp only [i64max, u8max, u16max, u32max, u64max]; omega) | (simp [mulSz, Cont.len, bne]; done) | (simp [mulSz, Cont.len, bne]; omega)))); conv => whnf)
          | (refine tst_in ?_ ?_; (focus (intro h_; exfalso; first | omega | ((try simp only [decide_eq_true_eq, decide_eq_false_iff_not] at h_); omega) | (simp [mulSz, Cont.len, bne] at h_; done) | (simp [mulSz, Cont.len, bne] at h_; omega))); intro _; conv => whnf)
          | (refine tst_in ?_ ?_; rotate_left; (focus (intro h_; exfalso; first | omega | ((try simp only [decide_eq_true_eq, decide_eq_false_iff_not] at h_); omega) | (simp [mulSz, Cont.len, bne] at h_; done) | (simp [mulSz, Cont.len, bne] at h_; omega))); intro _; conv => whnf))
        rw [show o + ((k : Int)).toNat = o + k by omega, show p + ((k : Int)).toNat = p + k by omega]
        refine tst_in (fun hd => ?_) (fun hd => ?_)
        · skip
          have hd : ¬ A.getD (o + k) 0 = B.getD (p + k) 0 := by simpa using hd
          conv => whnf
          repeat (first
            | (refine And.intro ?_ ?_; (focus (first | omega | decide | exact Int.natCast_nonneg _ | ((repeat' refine And.intro ?_ ?_) <;> first | omega | exact Int.natCast_nonneg _ | (simp only [i64max]; omega) | (simp only [u8max]; omega) | (simp only [i64max, u8max, u16max, u32max, u64max]; omega) | (simp [mulSz, Cont.len, bne]; done) | (simp [mulSz, Cont.len, bne]; omega)))); conv => whnf)
            | (refine tst_in ?_ ?_; (focus (intro h_; exfalso; first | omega | ((try simp only [decide_eq_true_eq, decide_eq_false_iff_not] at h_); omega) | (simp [mulSz, Cont.len, bne] at h_; done) | (simp [mulSz, Cont.len, bne] at h_; omega))); intro _; conv => whnf)
            | (refine tst_in ?_ ?_; rotate_left; (focus (intro h_; exfalso; first | omega | ((try simp only [decide_eq_true_eq, decide_eq_false_iff_not] at h_); omega) | (simp [mulSz, Cont.len, bne] at h_; done) | (simp [mulSz, Cont.len, bne] at h_; omega))); intro _; conv => whnf))
          rw [eqI_false hd hlt]
          conv => whnf
          repeat' (first | exact True.intro | rfl | refine And.intro ?_ ?_)
          all_goals (conv => whnf)
          repeat' (first | exact True.intro | rfl | refine And.intro ?_ ?_)
          all_goals (try (first | omega | exact True.intro | rfl | assumption | (change LE.le (α := Nat) _ _; first | omega | (simp only []; omega)) | (simp only []; done) | (simp only []; omega) | (simp; done) | (simp; omega)))
        · skip
          have hd : A.getD (o + k) 0 = B.getD (p + k) 0 := by simpa using hd
          conv => whnf
          repeat (first
            | (refine And.intro ?_ ?_; (focus (first | omega | decide | exact Int.natCast_nonneg _ | ((repeat' refine And.intro ?_ ?_) <;> first | omega | exact Int.natCast_nonneg _ | (simp only [i64max]; omega) | (simp only [u8max]; omega) | (simp only [i64max, u8max, u16max, u32max, u64max]; omega) | (simp [mulSz, Cont.len, bne]; done) | (simp [mulSz, Cont.len, bne]; omega)))); conv => whnf)
            | (refine tst_in ?_ ?_; (focus (intro h_; exfalso; first | omega | ((try simp only [decide_eq_true_eq, decide_eq_false_iff_not] at h_); omega) | (simp [mulSz, Cont.len, bne] at h_; done) | (simp [mulSz, Cont.len, bne] at h_; omega))); intro _; conv => whnf)
            | (refine tst_in ?_ ?_; rotate_left; (focus (intro h_; exfalso; first | omega | ((try simp only [decide_eq_true_eq, decide_eq_false_iff_not] at h_); omega) | (simp [mulSz, Cont.len, bne] at h_; done) | (simp [mulSz, Cont.len, bne] at h_; omega))); intro _; conv => whnf))
          refine ⟨[0, 1], k + 1, ?_, ⟨hlt, by show (eqI A o B p k && (A.getD (o + k) 0 == B.getD (p + k) 0)) = true; rw [he, hd]; simp⟩, (by show n - (k + 1) < n - k; omega)⟩
          conv => whnf
          repeat' (first | exact True.intro | rfl | refine And.intro ?_ ?_)
          all_goals (conv => whnf)
          repeat' (first | exact True.intro | rfl | refine And.intro ?_ ?_)
          all_goals (try (first | omega | exact True.intro | rfl | assumption | (change LE.le (α := Nat) _ _; first | omega | (simp only []; omega)) | (simp only []; done) | (simp only []; omega) | (simp; done) | (simp; omega)))
      · skip
        have hge : k = n := by simp at hge; omega
        subst hge
        conv => whnf
        repeat (first
          | (refine And.intro ?_ ?_; (focus (first | omega | decide | exact Int.natCast_nonneg _ | ((repeat' refine And.intro ?_ ?_) <;> first | omega | exact Int.natCast_nonneg _ | (simp only [i64max]; omega) | (simp only [u8max]; omega) | (simp only [i64max, u8max, u16max, u32max, u64max]; omega) | (simp [mulSz, Cont.len, bne]; done) | (simp [mulSz, Cont.len, bne]; omega)))); conv => whnf)
          | (refine tst_in ?_ ?_; (focus (intro h_; exfalso; first | omega | ((try simp only [decide_eq_true_eq, decide_eq_false_iff_not] at h_); omega) | (simp [mulSz, Cont.len, bne] at h_; done) | (simp [mulSz, Cont.len, bne] at h_; omega))); intro _; conv => whnf)
          | (refine tst_in ?_ ?_; rotate_left; (focus (intro h_; exfalso; first | omega | ((try simp only [decide_eq_true_eq, decide_eq_false_iff_not] at h_); omega) | (simp [mulSz, Cont.len, bne] at h_; done) | (simp [mulSz, Cont.len, bne] at h_; omega))); intro _; conv => whnf))
        rw [he]
        conv => whnf
        repeat' (first | exact True.intro | rfl | refine And.intro ?_ ?_)
        all_goals (conv => whnf)
        repeat' (first | exact True.intro | rfl | refine And.intro ?_ ?_)
        all_goals (try (first | omega | exact True.intro | rfl | assumption | (change LE.le (α := Nat) _ _; first | omega | (simp only []; omega)) | (simp only []; done) | (simp only []; omega) | (simp; done) | (simp; omega)))
theorem eqI_self {X : List Int} (t u : List Int) : eqI (X ++ t) 0 (X ++ u) 0 X.length = true := by
  rw [eqI_iff]
  intro i hi
  rw [List.getD_eq_getElem?_getD, List.getD_eq_getElem?_getD, Nat.zero_add, List.getElem?_append_left hi, List.getElem?_append_left hi]
theorem SameI_self {X : List Int} (t u : List Int) (hX : X.length ≤ 32768) : QFits Try.prog 18 ⟨[.slice 0 0 X.length (X.length + t.length), .slice 1 0 X.length (X.length + u.length)], [.seg false (.ints .i64 (X ++ t)), .seg false (.ints .i64 (X ++ u))], .bool true⟩ := by
  have := SameI_q (X ++ t) (X ++ u) 0 X.length (X.length + t.length) 0 X.length (X.length + u.length) (by simp) (by simp) (by omega)
  rwa [eqI_self, decide_eq_true rfl, Bool.true_and] at this
noncomputable def c19 : Code := (Try.f19.body).getD .skip
def marks (M : List Bool) (n : Nat) : Prop := n + 4 ≤ M.length ∧ M.getD n false = true ∧ M.getD (n + 1) false = false ∧ M.getD (n + 2) false = true ∧ M.getD (n + 3) false = true
set_option maxHeartbeats 0 in
set_option maxRecDepth 100000 in
theorem unhurt_q (M B : List Bool) (n ca cb : Nat) (hM : marks M n) (hc : n + 4 ≤ ca) (hB : n ≤ B.length) (hN : n ≤ 140737488355328) (hAB : part M 0 n = part B 0 n) :
    QFits Try.prog 19 ⟨[.slice 0 0 (n + 4) ca, .slice 1 0 n cb], [.seg false (.bools M), .seg false (.bools B)], .bool true⟩ := by
  obtain ⟨m0, m1, m2, m3, m4⟩ := hM
  have SA := Same_q M B 0 n ca 0 n cb (by omega) (by omega) (by omega)
  have he : eqO M 0 B 0 n = true := by
    rw [eqO_iff]
    intro i hi
    rw [← part_get hi, ← part_get hi, hAB]
  rw [he, decide_eq_true rfl, Bool.true_and] at SA
  refine qfits_of_body (C := cfgs 2) (c := c19) (ts := [4]) tok0 mixed0 (fun _ => none) (fun _ => none)
    Try.func19 (by kernel_rfl) (by kernel_rfl) (by kernel_rfl) (by kernel_rfl) (by kernel_rfl) rfl rfl ?_
  conv => whnf
  repeat (first
    | (refine And.intro ?_ ?_; (focus (first | omega | decide | exact Int.natCast_nonneg _ | ((repeat' refine And.intro ?_ ?_) <;> first | omega | exact Int.natCast_nonneg _ | (simp only [i64max]; omega) | (simp only [u8max]; omega) | (simp only [i64max, u8max, u16max, u32max, u64max]; omega) | (simp [mulSz, Cont.len, bne]; done) | (simp [mulSz, Cont.len, bne]; omega)))); conv => whnf)
    | (refine tst_in ?_ ?_; (focus (intro h_; exfalso; first | omega | ((try simp only [decide_eq_true_eq, decide_eq_false_iff_not] at h_); omega) | (simp [mulSz, Cont.len, bne] at h_; done) | (simp [mulSz, Cont.len, bne] at h_; omega))); intro _; conv => whnf)
    | (refine tst_in ?_ ?_; rotate_left; (focus (intro h_; exfalso; first | omega | ((try simp only [decide_eq_true_eq, decide_eq_false_iff_not] at h_); omega) | (simp [mulSz, Cont.len, bne] at h_; done) | (simp [mulSz, Cont.len, bne] at h_; omega))); intro _; conv => whnf))
  rw [show ((n : Int)).toNat = n from Int.toNat_natCast n]
  conv => whnf
  repeat (first
    | (refine And.intro ?_ ?_; (focus (first | omega | decide | exact Int.natCast_nonneg _ | ((repeat' refine And.intro ?_ ?_) <;> first | omega | exact Int.natCast_nonneg _ | (simp only [i64max]; omega) | (simp only [u8max]; omega) | (simp only [i64max, u8max, u16max, u32max, u64max]; omega) | (simp [mulSz, Cont.len, bne]; done) | (simp [mulSz, Cont.len, bne]; omega)))); conv => whnf)
    | (refine tst_in ?_ ?_; (focus (intro h_; exfalso; first | omega | ((try simp only [decide_eq_true_eq, decide_eq_false_iff_not] at h_); omega) | (simp [mulSz, Cont.len, bne] at h_; done) | (simp [mulSz, Cont.len, bne] at h_; omega))); intro _; conv => whnf)
    | (refine tst_in ?_ ?_; rotate_left; (focus (intro h_; exfalso; first | omega | ((try simp only [decide_eq_true_eq, decide_eq_false_iff_not] at h_); omega) | (simp [mulSz, Cont.len, bne] at h_; done) | (simp [mulSz, Cont.len, bne] at h_; omega))); intro _; conv => whnf))
  refine ⟨_, [0, 1], SA, ?_⟩
  conv => whnf
  refine ⟨?_, ?_, ?_⟩
  · conv => whnf
    repeat' (first | exact True.intro | rfl | refine And.intro ?_ ?_)
    all_goals (conv => whnf)
    repeat' (first | exact True.intro | rfl | refine And.intro ?_ ?_)
    all_goals (try (first | rfl | omega | (simp; done) | (simp; omega)))
  · conv => whnf
    repeat' (first | exact True.intro | rfl | refine And.intro ?_ ?_)
    all_goals (conv => whnf)
    repeat' (first | exact True.intro | rfl | refine And.intro ?_ ?_)
    all_goals (try (first | rfl | omega | (simp; done) | (simp; omega)))
  conv => whnf
  conv => whnf
  repeat (first
    | (refine And.intro ?_ ?_; (focus (first | omega | decide | exact Int.natCast_nonneg _ | ((repeat' refine And.intro ?_ ?_) <;> first | omega | exact Int.natCast_nonneg _ | (simp only [i64max]; omega) | (simp only [u8max]; omega) | (simp only [i64max, u8max, u16max, u32max, u64max]; omega) | (simp [mulSz, Cont.len, bne]; done) | (simp [mulSz, Cont.len, bne]; omega)))); conv => whnf)
    | (refine tst_in ?_ ?_; (focus (intro h_; exfalso; first | omega | ((try simp only [decide_eq_true_eq, decide_eq_false_iff_not] at h_); omega) | (simp [mulSz, Cont.len, bne] at h_; done) | (simp [mulSz, Cont.len, bne] at h_; omega))); intro _; conv => whnf)
    | (refine tst_in ?_ ?_; rotate_left; (focus (intro h_; exfalso; first | omega | ((try simp only [decide_eq_true_eq, decide_eq_false_iff_not] at h_); omega) | (simp [mulSz, Cont.len, bne] at h_; done) | (simp [mulSz, Cont.len, bne] at h_; omega))); intro _; conv => whnf))
  rw [show 0 + ((n : Int)).toNat = n by omega, m1]
  conv => whnf
  repeat (first
    | (refine And.intro ?_ ?_; (focus (first | omega | decide | exact Int.natCast_nonneg _ | ((repeat' refine And.intro ?_ ?_) <;> first | omega | exact Int.natCast_nonneg _ | (simp only [i64max]; omega) | (simp only [u8max]; omega) | (simp only [i64max, u8max, u16max, u32max, u64max]; omega) | (simp [mulSz, Cont.len, bne]; done) | (simp [mulSz, Cont.len, bne]; omega)))); conv => whnf)
    | (refine tst_in ?_ ?_; (focus (intro h_; exfalso; first | omega | ((try simp only [decide_eq_true_eq, decide_eq_false_iff_not] at h_); omega) | (simp [mulSz, Cont.len, bne] at h_; done) | (simp [mulSz, Cont.len, bne] at h_; omega))); intro _; conv => whnf)
    | (refine tst_in ?_ ?_; rotate_left; (focus (intro h_; exfalso; first | omega | ((try simp only [decide_eq_true_eq, decide_eq_false_iff_not] at h_); omega) | (simp [mulSz, Cont.len, bne] at h_; done) | (simp [mulSz, Cont.len, bne] at h_; omega))); intro _; conv => whnf))
  rw [show 0 + ((n : Int) + 1).toNat = n + 1 by omega, m2]
  conv => whnf
  repeat (first
    | (refine And.intro ?_ ?_; (focus (first | omega | decide | exact Int.natCast_nonneg _ | ((repeat' refine And.intro ?_ ?_) <;> first | omega | exact Int.natCast_nonneg _ | (simp only [i64max]; omega) | (simp only [u8max]; omega) | (simp only [i64max, u8max, u16max, u32max, u64max]; omega) | (simp [mulSz, Cont.len, bne]; done) | (simp [mulSz, Cont.len, bne]; omega)))); conv => whnf)
    | (refine tst_in ?_ ?_; (focus (intro h_; exfalso; first | omega | ((try simp only [decide_eq_true_eq, decide_eq_false_iff_not] at h_); omega) | (simp [mulSz, Cont.len, bne] at h_; done) | (simp [mulSz, Cont.len, bne] at h_; omega))); intro _; conv => whnf)
    | (refine tst_in ?_ ?_; rotate_left; (focus (intro h_; exfalso; first | omega | ((try simp only [decide_eq_true_eq, decide_eq_false_iff_not] at h_); omega) | (simp [mulSz, Cont.len, bne] at h_; done) | (simp [mulSz, Cont.len, bne] at h_; omega))); intro _; conv => whnf))
  rw [show 0 + ((n : Int) + 2).toNat = n + 2 by omega, m3]
  conv => whnf
  repeat (first
    | (refine And.intro ?_ ?_; (focus (first | omega | decide | exact Int.natCast_nonneg _ | ((repeat' refine And.intro ?_ ?_) <;> first | omega | exact Int.natCast_nonneg _ | (simp only [i64max]; omega) | (simp only [u8max]; omega) | (simp only [i64max, u8max, u16max, u32max, u64max]; omega) | (simp [mulSz, Cont.len, bne]; done) | (simp [mulSz, Cont.len, bne]; omega)))); conv => whnf)
    | (refine tst_in ?_ ?_; (focus (intro h_; exfalso; first | omega | ((try simp only [decide_eq_true_eq, decide_eq_false_iff_not] at h_); omega) | (simp [mulSz, Cont.len, bne] at h_; done) | (simp [mulSz, Cont.len, bne] at h_; omega))); intro _; conv => whnf)
    | (refine tst_in ?_ ?_; rotate_left; (focus (intro h_; exfalso; first | omega | ((try simp only [decide_eq_true_eq, decide_eq_false_iff_not] at h_); omega) | (simp [mulSz, Cont.len, bne] at h_; done) | (simp [mulSz, Cont.len, bne] at h_; omega))); intro _; conv => whnf))
  rw [show 0 + ((n : Int) + 3).toNat = n + 3 by omega, m4]
def fl (L : List Bool) : Nat → List Bool
  | 0 => L
  | k + 1 => (fl L k).set k (!(fl L k).getD k false)
theorem fl_len (L : List Bool) : ∀ k, (fl L k).length = L.length
  | 0 => rfl
  | k + 1 => by simp only [fl, List.length_set, fl_len L k]
theorem fl_above (L : List Bool) : ∀ k i, k ≤ i → (fl L k).getD i false = L.getD i false
  | 0, _, _ => rfl
  | k + 1, i, h => by
    simp only [fl]
    rw [List.getD_eq_getElem?_getD, List.getElem?_set_ne (by omega), ← List.getD_eq_getElem?_getD, fl_above L k i (by omega)]
theorem fl_marks {L : List Bool} {n : Nat} (h : marks L n) : marks (fl L n) n := by
  obtain ⟨m0, m1, m2, m3, m4⟩ := h
  exact ⟨by rw [fl_len]; exact m0, by rw [fl_above _ _ _ (by omega), m1], by rw [fl_above _ _ _ (by omega), m2], by rw [fl_above _ _ _ (by omega), m3], by rw [fl_above _ _ _ (by omega), m4]⟩
noncomputable def c20 : Code := (Try.f20.body).getD .skip
def st20 (L : List Bool) (n ca k : Nat) : St := ⟨anyTo 17 [.slice 0 0 n ca, .any, .int .i64 k], [.seg true (.bools (fl L k))]⟩
def inv20 (L : List Bool) (n ca : Nat) : LInv := ⟨Nat, fun k => st20 L n ca k, fun k => k ≤ n, fun k => n - k⟩
set_option maxHeartbeats 0 in
set_option maxRecDepth 100000 in
theorem turn_f (L : List Bool) (n ca : Nat) (hL : n ≤ L.length) (hN : n ≤ 140737488355328) : Fits Try.prog 20 ⟨[.slice 0 0 n ca], [.seg true (.bools L)], [⟨Unit, fun _ => True, fun _ => .tup [], fun _ => [.seg true (.bools (fl L n))]⟩]⟩ := by
  have hl := fl_len L
  refine fits_of_body (C := cfgs 1) (c := c20) (ts := []) tok0 mixed0 (fun | 1 => some (inv20 L n ca) | _ => none) (fun _ => none)
    Try.func20 (by kernel_rfl) (by kernel_rfl) (by kernel_rfl) (by kernel_rfl) rfl ?_
  conv => whnf
  repeat (first
    | (refine And.intro ?_ ?_; (focus (first | omega | decide | exact Int.natCast_nonneg _ | ((repeat' refine And.intro ?_ ?_) <;> first | omega | exact Int.natCast_nonneg _ | (simp only [i64max]; omega) | (simp only [u8max]; omega) | (simp only [i64max, u8max, u16max, u32max, u64max]; omega) | (simp [mulSz, Cont.len, bne]; done) | (simp [mulSz, Cont.len, bne]; omega)))); conv => whnf)
    | (refine tst_in ?_ ?_; (focus (intro h_; exfalso; first | omega | ((try simp only [decide_eq_true_eq, decide_eq_false_iff_not] at h_); omega) | (simp [mulSz, Cont.len, bne] at h_; done) | (simp [mulSz, Cont.len, bne] at h_; omega))); intro _; conv => whnf)
    | (refine tst_in ?_ ?_; rotate_left; (focus (intro h_; exfalso; first | omega | ((try simp only [decide_eq_true_eq, decide_eq_false_iff_not] at h_); omega) | (simp [mulSz, Cont.len, bne] at h_; done) | (simp [mulSz, Cont.len, bne] at h_; omega))); intro _; conv => whnf))
  refine ⟨⟨[0], (0 : Nat), ?_, Nat.zero_le _⟩, ?_⟩
  · conv => whnf
    repeat' (first | exact True.intro | rfl | refine And.intro ?_ ?_)
    all_goals (conv => whnf)
    repeat' (first | exact True.intro | rfl | refine And.intro ?_ ?_)
    all_goals (try (first | omega | exact True.intro | rfl | assumption | (change LE.le (α := Nat) _ _; first | omega | (simp only []; omega)) | (simp only []; done) | (simp only []; omega) | (simp; done) | (simp; omega)))
  · intro (k : Nat) (hk : k ≤ n)
    have hlk := hl k
    show forceSt (st20 L n ca k) _
    conv => whnf
    refine tst_in (fun hlt => ?_) (fun hge => ?_)
    · skip
      have hlt : k < n := by simp at hlt; omega
      have hs : fl L (k + 1) = (fl L k).set k (!(fl L k).getD k false) := rfl
      conv => whnf
      repeat (first
        | (refine And.intro ?_ ?_; (focus (first | omega | decide | exact Int.natCast_nonneg _ | ((repeat' refine And.intro ?_ ?_) <;> first | omega | exact Int.natCast_nonneg _ | (simp only [i64max]; omega) | (simp only [u8max]; omega) | (simp only [i64max, u8max, u16max, u32max, u64max]; omega) | (simp [mulSz, Cont.len, bne]; done) | (simp [mulSz, Cont.len, bne]; omega)))); conv => whnf)
        | (refine tst_in ?_ ?_; (focus (intro h_; exfalso; first | omega | ((try simp only [decide_eq_true_eq, decide_eq_false_iff_not] at h_); omega) | (simp [mulSz, Cont.len, bne] at h_; done) | (simp [mulSz, Cont.len, bne] at h_; omega))); intro _; conv => whnf)
        | (refine tst_in ?_ ?_; rotate_left; (focus (intro h_; exfalso; first | omega | ((try simp only [decide_eq_true_eq, decide_eq_false_iff_not] at h_); omega) | (simp [mulSz, Cont.len, bne] at h_; done) | (simp [mulSz, Cont.len, bne] at h_; omega))); intro _; conv => whnf))
      rw [show 0 + ((k : Int)).toNat = k by omega, ← hs]
      conv => whnf
      repeat (first
        | (refine And.intro ?_ ?_; (focus (first | omega | decide | exact Int.natCast_nonneg _ | ((repeat' refine And.intro ?_ ?_) <;> first | omega | exact Int.natCast_nonneg _ | (simp only [i64max]; omega) | (simp only [u8max]; omega) | (simp only [i64max, u8max, u16max, u32max, u64max]; omega) | (simp [mulSz, Cont.len, bne]; done) | (simp [mulSz, Cont.len, bne]; omega)))); conv => whnf)
        | (refine tst_in ?_ ?_; (focus (intro h_; exfalso; first | omega | ((try simp only [decide_eq_true_eq, decide_eq_false_iff_not] at h_); omega) | (simp [mulSz, Cont.len, bne] at h_; done) | (simp [mulSz, Cont.len, bne] at h_; omega))); intro _; conv => whnf)
        | (refine tst_in ?_ ?_; rotate_left; (focus (intro h_; exfalso; first | omega | ((try simp only [decide_eq_true_eq, decide_eq_false_iff_not] at h_); omega) | (simp [mulSz, Cont.len, bne] at h_; done) | (simp [mulSz, Cont.len, bne] at h_; omega))); intro _; conv => whnf))
      refine ⟨[0], k + 1, ?_, (by show k + 1 ≤ n; omega), (by show n - (k + 1) < n - k; omega)⟩
      conv => whnf
      repeat' (first | exact True.intro | rfl | refine And.intro ?_ ?_)
      all_goals (conv => whnf)
      repeat' (first | exact True.intro | rfl | refine And.intro ?_ ?_)
      all_goals (try (first | omega | exact True.intro | rfl | assumption | (change LE.le (α := Nat) _ _; first | omega | (simp only []; omega)) | (simp only []; done) | (simp only []; omega) | (simp; done) | (simp; omega)))
    · skip
      have hge : k = n := by simp at hge; omega
      subst hge
      conv => whnf
      repeat (first
        | (refine And.intro ?_ ?_; (focus (first | omega | decide | exact Int.natCast_nonneg _ | ((repeat' refine And.intro ?_ ?_) <;> first | omega | exact Int.natCast_nonneg _ | (simp only [i64max]; omega) | (simp only [u8max]; omega) | (simp only [i64max, u8max, u16max, u32max, u64max]; omega) | (simp [mulSz, Cont.len, bne]; done) | (simp [mulSz, Cont.len, bne]; omega)))); conv => whnf)
        | (refine tst_in ?_ ?_; (focus (intro h_; exfalso; first | omega | ((try simp only [decide_eq_true_eq, decide_eq_false_iff_not] at h_); omega) | (simp [mulSz, Cont.len, bne] at h_; done) | (simp [mulSz, Cont.len, bne] at h_; omega))); intro _; conv => whnf)
        | (refine tst_in ?_ ?_; rotate_left; (focus (intro h_; exfalso; first | omega | ((try simp only [decide_eq_true_eq, decide_eq_false_iff_not] at h_); omega) | (simp [mulSz, Cont.len, bne] at h_; done) | (simp [mulSz, Cont.len, bne] at h_; omega))); intro _; conv => whnf))
      refine .inl ⟨(), [0], ?_⟩
      conv => whnf
      repeat' (first | exact True.intro | rfl | refine And.intro ?_ ?_)
      all_goals (conv => whnf)
      repeat' (first | exact True.intro | rfl | refine And.intro ?_ ?_)
      all_goals (try (first | omega | exact True.intro | rfl | assumption | (change LE.le (α := Nat) _ _; first | omega | (simp only []; omega)) | (simp only []; done) | (simp only []; omega) | (simp; done) | (simp; omega)))
noncomputable def c8 : Code := (Try.f8.body).getD .skip
def lentRow (A : List Bool) (n : Nat) (t : List Bool) : List Bool := A.take n ++ ([true, false, true, true] ++ t)
theorem lent_marks {A : List Bool} {n : Nat} (hA : n ≤ A.length) (t : List Bool) : marks (lentRow A n t) n := by
  have hl : (A.take n).length = n := by simp; omega
  have g : ∀ i, (lentRow A n t).getD (n + i) false = ([true, false, true, true] ++ t).getD i false := fun i => by
    unfold lentRow
    rw [List.getD_eq_getElem?_getD, List.getElem?_append_right (by omega), hl, Nat.add_sub_cancel_left, ← List.getD_eq_getElem?_getD]
  exact ⟨by simp [lentRow, hl], g 0, g 1, g 2, g 3⟩
set_option maxHeartbeats 0 in
set_option maxRecDepth 100000 in
theorem lent_f (A : List Bool) (n ca : Nat) (hA : n ≤ A.length) (hN : n ≤ 140737488351232) :
    Fits Try.prog 8 ⟨[.slice 0 0 n ca], [.seg false (.bools A)], [⟨List Bool, fun _ => True, fun t => .tup [.slice 1 0 n (n + 4 + t.length), .slice 1 0 (n + 4) (n + 4 + t.length)], fun t => [.dead, .seg true (.bools (lentRow A n t))]⟩]⟩ := by
  have hl1 : (A.take n).length = n := by simp; omega
  refine fits_of_body (C := cfgs 1) (c := c8) (ts := [2, 3]) tok0 mixed0 (fun _ => none) (fun _ => none)
    Try.func8 (by kernel_rfl) (by kernel_rfl) (by kernel_rfl) (by kernel_rfl) rfl ?_
  conv => whnf
  repeat (first
    | (refine And.intro ?_ ?_; (focus (first | omega | decide | exact Int.natCast_nonneg _ | ((repeat' refine And.intro ?_ ?_) <;> first | omega | exact Int.natCast_nonneg _ | (simp only [i64max]; omega) | (simp only [u8max]; omega) | (simp only [i64max, u8max, u16max, u32max, u64max]; omega) | (simp [mulSz, Cont.len, bne]; done) | (simp [mulSz, Cont.len, bne]; omega)))); conv => whnf)
    | (refine tst_in ?_ ?_; (focus (intro h_; exfalso; first | omega | ((try simp only [decide_eq_true_eq, decide_eq_false_iff_not] at h_); omega) | (simp [mulSz, Cont.len, bne] at h_; done) | (simp [mulSz, Cont.len, bne] at h_; omega))); intro _; conv => whnf)
    | (refine tst_in ?_ ?_; rotate_left; (focus (intro h_; exfalso; first | omega | ((try simp only [decide_eq_true_eq, decide_eq_false_iff_not] at h_); omega) | (simp [mulSz, Cont.len, bne] at h_; done) | (simp [mulSz, Cont.len, bne] at h_; omega))); intro _; conv => whnf))
  intro (t1 : List Bool)
  conv => whnf
  repeat (first
    | (refine And.intro ?_ ?_; (focus (first | omega | decide | exact Int.natCast_nonneg _ | ((repeat' refine And.intro ?_ ?_) <;> first | omega | exact Int.natCast_nonneg _ | (simp only [i64max]; omega) | (simp only [u8max]; omega) | (simp only [i64max, u8max, u16max, u32max, u64max]; omega) | (simp [mulSz, Cont.len, bne, hl1]; done) | (simp [mulSz, Cont.len, bne, hl1]; omega)))); conv => whnf)
    | (refine tst_in ?_ ?_; (focus (intro h_; exfalso; first | omega | ((try simp only [decide_eq_true_eq, decide_eq_false_iff_not] at h_); omega) | (simp [mulSz, Cont.len, bne, hl1] at h_; done) | (simp [mulSz, Cont.len, bne, hl1] at h_; omega))); intro _; conv => whnf)
    | (refine tst_in ?_ ?_; rotate_left; (focus (intro h_; exfalso; first | omega | ((try simp only [decide_eq_true_eq, decide_eq_false_iff_not] at h_); omega) | (simp [mulSz, Cont.len, bne, hl1] at h_; done) | (simp [mulSz, Cont.len, bne, hl1] at h_; omega))); intro _; conv => whnf))
  intro (t2 : List Bool)
  conv => whnf
  repeat (first
    | (refine And.intro ?_ ?_; (focus (first | omega | decide | exact Int.natCast_nonneg _ | ((repeat' refine And.intro ?_ ?_) <;> first | omega | exact Int.natCast_nonneg _ | (simp only [i64max]; omega) | (simp only [u8max]; omega) | (simp only [i64max, u8max, u16max, u32max, u64max]; omega) | (simp [mulSz, Cont.len, bne]; done) | (simp [mulSz, Cont.len, bne]; omega)))); conv => whnf)
    | (refine tst_in ?_ ?_; (focus (intro h_; exfalso; first | omega | ((try simp only [decide_eq_true_eq, decide_eq_false_iff_not] at h_); omega) | (simp [mulSz, Cont.len, bne] at h_; done) | (simp [mulSz, Cont.len, bne] at h_; omega))); intro _; conv => whnf)
    | (refine tst_in ?_ ?_; rotate_left; (focus (intro h_; exfalso; first | omega | ((try simp only [decide_eq_true_eq, decide_eq_false_iff_not] at h_); omega) | (simp [mulSz, Cont.len, bne] at h_; done) | (simp [mulSz, Cont.len, bne] at h_; omega))); intro _; conv => whnf))
  refine .inl ⟨t2, [0, 4], ?_⟩
  conv => whnf
  repeat' (first | exact True.intro | rfl | refine And.intro ?_ ?_)
  all_goals (conv => whnf)
  repeat' (first | exact True.intro | rfl | refine And.intro ?_ ?_)
  all_goals (try (first | omega | exact True.intro | rfl | assumption | (change LE.le (α := Nat) _ _; first | omega | (simp only [hl1]; omega)) | (simp only [hl1]; done) | (simp only [hl1]; omega) | (simp [hl1]; done) | (simp [hl1]; omega)))
  all_goals (show A.take n ++ ([true, false, true, true] ++ t2) = _; simp [mulSz, List.take_append, List.take_take, Nat.min_eq_left hA])
end Go.Proofs.Ytkkianjpkipooaa

set_option linter.unusedVariables false
set_option linter.unusedSimpArgs false
namespace Go.Proofs.Ytkkianjpkipooaa
open Go Go.Fw
def bit (s : ByteArray) (k : Nat) : Prop := (s.get! k).toNat = 48 ∨ (s.get! k).toNat = 49
theorem dec_low {s : ByteArray} {k : Nat} (h : (s.get! k).toNat < 128) : Utf8.decode s k = ((s.get! k).toNat, 1) := by
  unfold Utf8.decode
  simp only [Nat.add_zero]
  rw [if_pos h]
theorem dec_high {s : ByteArray} {k : Nat} (h : ¬ (s.get! k).toNat < 128) : 128 ≤ (Utf8.decode s k).1 := by
  unfold Utf8.decode
  simp only [Nat.add_zero]
  rw [if_neg h]
  have hr : Utf8.runeError = 65533 := rfl
  split
  · split
    · simp only; omega
    · simp only [hr]; omega
  · split
    · split
      · rename_i h2; simp only [Bool.and_eq_true, decide_eq_true_eq] at h2; simp only; omega
      · simp only [hr]; omega
    · split
      · split
        · rename_i h2; simp only [Bool.and_eq_true, decide_eq_true_eq] at h2; simp only; omega
        · simp only [hr]; omega
      · simp only [hr]; omega
theorem dec_ne {s : ByteArray} {k v : Nat} (hv : v < 128) (h : (s.get! k).toNat ≠ v) : (Utf8.decode s k).1 ≠ v := by
  by_cases hl : (s.get! k).toNat < 128
  · rw [dec_low hl]; exact h
  · have := dec_high hl; omega
def tx (A : List Bool) : Nat → List Int
  | 0 => []
  | k + 1 => tx A k ++ [if A.getD k false = true then 49 else 48]
theorem tx_len (A : List Bool) : ∀ k, (tx A k).length = k
  | 0 => rfl
  | k + 1 => by simp [tx, tx_len A k]
theorem tx_eq {A B : List Bool} : ∀ n, (∀ i, i < n → A.getD i false = B.getD i false) → tx A n = tx B n
  | 0, _ => rfl
  | n + 1, h => by simp only [tx]; rw [tx_eq n fun i hi => h i (by omega), h n (by omega)]
def txs (A : List Bool) (n : Nat) : ByteArray := ⟨⟨(tx A n).map fun n => UInt8.ofNat n.toNat⟩⟩
noncomputable def c23 : Code := (Try.f23.body).getD .skip
def st23 (n ca k : Nat) (A : List Bool) : St := ⟨anyTo 26 [.slice 0 0 n ca, .any, .any, .slice 1 0 n n, .any, .any, .any, .any, .any, .slice 0 0 n ca, .int .i64 n, .int .i64 k], [.seg false (.bools A), .seg true (.ints .u8 (tx A k ++ List.replicate (n - k) 0))]⟩
def inv23 (n ca : Nat) (A : List Bool) : LInv := ⟨Nat, fun k => st23 n ca k A, fun k => k ≤ n, fun k => n - k⟩
set_option maxHeartbeats 0 in
set_option maxRecDepth 100000 in
theorem Text_f (A : List Bool) (n ca : Nat) (hA : n ≤ A.length) (hN : n ≤ 140737488355328) :
    Fits Try.prog 23 ⟨[.slice 0 0 n ca], [.seg false (.bools A)], [numOut [.dead] (.str (txs A n))]⟩ := by
  have hl := tx_len A
  refine fits_of_body (C := cfgs 1) (c := c23) (ts := [2]) tok0 mixed0 (fun | 3 => some (inv23 n ca A) | _ => none) (fun _ => none)
    Try.func23 (by kernel_rfl) (by kernel_rfl) (by kernel_rfl) (by kernel_rfl) rfl ?_
  conv => whnf
  repeat (first
    | (refine And.intro ?_ ?_; (focus (first | omega | decide | exact Int.natCast_nonneg _ | ((repeat' refine And.intro ?_ ?_) <;> first | omega | exact Int.natCast_nonneg _ | (simp only [i64max]; omega) | (simp only [u8max]; omega) | (simp only [i64max, u8max, u16max, u32max, u64max]; omega) | (simp [mulSz, Cont.len, bne]; done) | (simp [mulSz, Cont.len, bne]; omega)))); conv => whnf)
    | (refine tst_in ?_ ?_; (focus (intro h_; exfalso; first | omega | ((try simp only [decide_eq_true_eq, decide_eq_false_iff_not] at h_); omega) | (simp [mulSz, Cont.len, bne] at h_; done) | (simp [mulSz, Cont.len, bne] at h_; omega))); intro _; conv => whnf)
    | (refine tst_in ?_ ?_; rotate_left; (focus (intro h_; exfalso; first | omega | ((try simp only [decide_eq_true_eq, decide_eq_false_iff_not] at h_); omega) | (simp [mulSz, Cont.len, bne] at h_; done) | (simp [mulSz, Cont.len, bne] at h_; omega))); intro _; conv => whnf))
  refine ⟨⟨[0, 1], (0 : Nat), ?_, Nat.zero_le _⟩, ?_⟩
  · conv => whnf
    repeat' (first | exact True.intro | rfl | refine And.intro ?_ ?_)
    all_goals (conv => whnf)
    repeat' (first | exact True.intro | rfl | refine And.intro ?_ ?_)
    all_goals (try (first | omega | exact True.intro | rfl | assumption | (change LE.le (α := Nat) _ _; first | omega | (simp only [tx]; omega)) | (simp only [tx]; done) | (simp only [tx]; omega) | (simp [tx]; done) | (simp [tx]; omega)))
  · intro (k : Nat) (hk : k ≤ n)
    have hlk := hl k
    show forceSt (st23 n ca k A) _
    conv => whnf
    refine tst_in (fun hlt => ?_) (fun hge => ?_)
    · skip
      have hlt : k < n := by simp at hlt; omega
      have hset : ∀ v : Int, (tx A k ++ List.replicate (n - k) 0).set k v = tx A k ++ [v] ++ List.replicate (n - (k + 1)) 0 := fun v => by
        rw [show n - k = (n - (k + 1)) + 1 by omega, List.replicate_succ, set_mid _ _ _ _ _ hlk]; simp
      have hset2 : ∀ u v : Int, (tx A k ++ [u] ++ List.replicate (n - (k + 1)) 0).set k v = tx A k ++ [v] ++ List.replicate (n - (k + 1)) 0 := fun u v => by
        rw [List.append_assoc, List.singleton_append, set_mid _ _ _ _ _ hlk]; simp
      conv => whnf
      repeat (first
        | (refine And.intro ?_ ?_; (focus (first | omega | decide | exact Int.natCast_nonneg _ | ((repeat' refine And.intro ?_ ?_) <;> first | omega | exact Int.natCast_nonneg _ | (simp only [i64max]; omega) | (simp only [u8max]; omega) | (simp only [i64max, u8max, u16max, u32max, u64max]; omega) | (simp [mulSz, Cont.len, bne, hlk]; done) | (simp [mulSz, Cont.len, bne, hlk]; omega)))); conv => whnf)
        | (refine tst_in ?_ ?_; (focus (intro h_; exfalso; first | omega | ((try simp only [decide_eq_true_eq, decide_eq_false_iff_not] at h_); omega) | (simp [mulSz, Cont.len, bne, hlk] at h_; done) | (simp [mulSz, Cont.len, bne, hlk] at h_; omega))); intro _; conv => whnf)
        | (refine tst_in ?_ ?_; rotate_left; (focus (intro h_; exfalso; first | omega | ((try simp only [decide_eq_true_eq, decide_eq_false_iff_not] at h_); omega) | (simp [mulSz, Cont.len, bne, hlk] at h_; done) | (simp [mulSz, Cont.len, bne, hlk] at h_; omega))); intro _; conv => whnf))
      rw [show 0 + ((k : Int)).toNat = k by omega, hset]
      conv => whnf
      repeat (first
        | (refine And.intro ?_ ?_; (focus (first | omega | decide | exact Int.natCast_nonneg _ | ((repeat' refine And.intro ?_ ?_) <;> first | omega | exact Int.natCast_nonneg _ | (simp only [i64max]; omega) | (simp only [u8max]; omega) | (simp only [i64max, u8max, u16max, u32max, u64max]; omega) | (simp [mulSz, Cont.len, bne]; done) | (simp [mulSz, Cont.len, bne]; omega)))); conv => whnf)
        | (refine tst_in ?_ ?_; (focus (intro h_; exfalso; first | omega | ((try simp only [decide_eq_true_eq, decide_eq_false_iff_not] at h_); omega) | (simp [mulSz, Cont.len, bne] at h_; done) | (simp [mulSz, Cont.len, bne] at h_; omega))); intro _; conv => whnf)
        | (refine tst_in ?_ ?_; rotate_left; (focus (intro h_; exfalso; first | omega | ((try simp only [decide_eq_true_eq, decide_eq_false_iff_not] at h_); omega) | (simp [mulSz, Cont.len, bne] at h_; done) | (simp [mulSz, Cont.len, bne] at h_; omega))); intro _; conv => whnf))
      refine tst_in (fun hb => ?_) (fun hb => ?_)
      · skip
        have hb : A.getD k false = true := hb
        conv => whnf
        repeat (first
          | (refine And.intro ?_ ?_; (focus (first | omega | decide | exact Int.natCast_nonneg _ | ((repeat' refine And.intro ?_ ?_) <;> first | omega | exact Int.natCast_nonneg _ | (simp only [i64max]; omega) | (simp only [u8max]; omega) | (simp only [i64max, u8max, u16max, u32max, u64max]; omega) | (simp [mulSz, Cont.len, bne, hlk]; done) | (simp [mulSz, Cont.len, bne, hlk]; omega)))); conv => whnf)
          | (refine tst_in ?_ ?_; (focus (intro h_; exfalso; first | omega | ((try simp only [decide_eq_true_eq, decide_eq_false_iff_not] at h_); omega) | (simp [mulSz, Cont.len, bne, hlk] at h_; done) | (simp [mulSz, Cont.len, bne, hlk] at h_; omega))); intro _; conv => whnf)
          | (refine tst_in ?_ ?_; rotate_left; (focus (intro h_; exfalso; first | omega | ((try simp only [decide_eq_true_eq, decide_eq_false_iff_not] at h_); omega) | (simp [mulSz, Cont.len, bne, hlk] at h_; done) | (simp [mulSz, Cont.len, bne, hlk] at h_; omega))); intro _; conv => whnf))
        rw [show 0 + ((k : Int)).toNat = k by omega, hset2]
        conv => whnf
        repeat (first
          | (refine And.intro ?_ ?_; (focus (first | omega | decide | exact Int.natCast_nonneg _ | ((repeat' refine And.intro ?_ ?_) <;> first | omega | exact Int.natCast_nonneg _ | (simp only [i64max]; omega) | (simp only [u8max]; omega) | (simp only [i64max, u8max, u16max, u32max, u64max]; omega) | (simp [mulSz, Cont.len, bne]; done) | (simp [mulSz, Cont.len, bne]; omega)))); conv => whnf)
          | (refine tst_in ?_ ?_; (focus (intro h_; exfalso; first | omega | ((try simp only [decide_eq_true_eq, decide_eq_false_iff_not] at h_); omega) | (simp [mulSz, Cont.len, bne] at h_; done) | (simp [mulSz, Cont.len, bne] at h_; omega))); intro _; conv => whnf)
          | (refine tst_in ?_ ?_; rotate_left; (focus (intro h_; exfalso; first | omega | ((try simp only [decide_eq_true_eq, decide_eq_false_iff_not] at h_); omega) | (simp [mulSz, Cont.len, bne] at h_; done) | (simp [mulSz, Cont.len, bne] at h_; omega))); intro _; conv => whnf))
        refine ⟨[0, 1], k + 1, ?_, (by show k + 1 ≤ n; omega), (by show n - (k + 1) < n - k; omega)⟩
        conv => whnf
        repeat' (first | exact True.intro | rfl | refine And.intro ?_ ?_)
        all_goals (conv => whnf)
        repeat' (first | exact True.intro | rfl | refine And.intro ?_ ?_)
        all_goals (try (first | omega | exact True.intro | rfl | assumption | (change LE.le (α := Nat) _ _; first | omega | (simp only []; omega)) | (simp only []; done) | (simp only []; omega) | (simp; done) | (simp; omega)))
        all_goals (show tx A (k + 1) ++ _ = tx A k ++ _ ++ _; simp only [tx]; rw [if_pos hb]; rfl)
      · skip
        have hb : ¬ A.getD k false = true := by simpa using hb
        conv => whnf
        repeat (first
          | (refine And.intro ?_ ?_; (focus (first | omega | decide | exact Int.natCast_nonneg _ | ((repeat' refine And.intro ?_ ?_) <;> first | omega | exact Int.natCast_nonneg _ | (simp only [i64max]; omega) | (simp only [u8max]; omega) | (simp only [i64max, u8max, u16max, u32max, u64max]; omega) | (simp [mulSz, Cont.len, bne]; done) | (simp [mulSz, Cont.len, bne]; omega)))); conv => whnf)
          | (refine tst_in ?_ ?_; (focus (intro h_; exfalso; first | omega | ((try simp only [decide_eq_true_eq, decide_eq_false_iff_not] at h_); omega) | (simp [mulSz, Cont.len, bne] at h_; done) | (simp [mulSz, Cont.len, bne] at h_; omega))); intro _; conv => whnf)
          | (refine tst_in ?_ ?_; rotate_left; (focus (intro h_; exfalso; first | omega | ((try simp only [decide_eq_true_eq, decide_eq_false_iff_not] at h_); omega) | (simp [mulSz, Cont.len, bne] at h_; done) | (simp [mulSz, Cont.len, bne] at h_; omega))); intro _; conv => whnf))
        refine ⟨[0, 1], k + 1, ?_, (by show k + 1 ≤ n; omega), (by show n - (k + 1) < n - k; omega)⟩
        conv => whnf
        repeat' (first | exact True.intro | rfl | refine And.intro ?_ ?_)
        all_goals (conv => whnf)
        repeat' (first | exact True.intro | rfl | refine And.intro ?_ ?_)
        all_goals (try (first | omega | exact True.intro | rfl | assumption | (change LE.le (α := Nat) _ _; first | omega | (simp only []; omega)) | (simp only []; done) | (simp only []; omega) | (simp; done) | (simp; omega)))
        all_goals (show tx A (k + 1) ++ _ = tx A k ++ _ ++ _; simp only [tx]; rw [if_neg hb]; rfl)
    · skip
      have hge : k = n := by simp at hge; omega
      subst hge
      conv => whnf
      repeat (first
        | (refine And.intro ?_ ?_; (focus (first | omega | decide | exact Int.natCast_nonneg _ | ((repeat' refine And.intro ?_ ?_) <;> first | omega | exact Int.natCast_nonneg _ | (simp only [i64max]; omega) | (simp only [u8max]; omega) | (simp only [i64max, u8max, u16max, u32max, u64max]; omega) | (simp [mulSz, Cont.len, bne, hlk]; done) | (simp [mulSz, Cont.len, bne, hlk]; omega)))); conv => whnf)
        | (refine tst_in ?_ ?_; (focus (intro h_; exfalso; first | omega | ((try simp only [decide_eq_true_eq, decide_eq_false_iff_not] at h_); omega) | (simp [mulSz, Cont.len, bne, hlk] at h_; done) | (simp [mulSz, Cont.len, bne, hlk] at h_; omega))); intro _; conv => whnf)
        | (refine tst_in ?_ ?_; rotate_left; (focus (intro h_; exfalso; first | omega | ((try simp only [decide_eq_true_eq, decide_eq_false_iff_not] at h_); omega) | (simp [mulSz, Cont.len, bne, hlk] at h_; done) | (simp [mulSz, Cont.len, bne, hlk] at h_; omega))); intro _; conv => whnf))
      refine .inl ⟨(), [0], ?_⟩
      conv => whnf
      repeat' (first | exact True.intro | rfl | refine And.intro ?_ ?_)
      all_goals (conv => whnf)
      repeat' (first | exact True.intro | rfl | refine And.intro ?_ ?_)
      all_goals (try (first | omega | exact True.intro | rfl | assumption | (change LE.le (α := Nat) _ _; first | omega | (simp only []; omega)) | (simp only []; done) | (simp only []; omega) | (simp; done) | (simp; omega)))
      all_goals (show txs A k = _; unfold txs; simp [List.take_of_length_le (Nat.le_of_eq hlk)])
noncomputable def c27 : Code := (Try.f27.body).getD .skip
def st27 (n ca k : Nat) (A : List Bool) (u : List Int) : St := ⟨anyTo 23 [.slice 0 0 n ca, .any, .any, .slice 1 0 k (k + u.length), .int .i64 k], [.seg false (.bools A), .seg true (.ints .u8 (tx A k ++ u))]⟩
def inv27 (n ca : Nat) (A : List Bool) : LInv := ⟨Nat × List Int, fun p => st27 n ca p.1 A p.2, fun p => p.1 ≤ n, fun p => n - p.1⟩
set_option maxHeartbeats 0 in
set_option maxRecDepth 100000 in
theorem rText_f (A : List Bool) (n ca : Nat) (hA : n ≤ A.length) (hN : n ≤ 140737488355328) :
    Fits Try.prog 27 ⟨[.slice 0 0 n ca], [.seg false (.bools A)], [numOut [.dead] (.str (txs A n))]⟩ := by
  have hl := tx_len A
  refine fits_of_body (C := cfgs 1) (c := c27) (ts := [2]) tok0 mixed0 (fun | 3 => some (inv27 n ca A) | _ => none) (fun _ => none)
    Try.func27 (by kernel_rfl) (by kernel_rfl) (by kernel_rfl) (by kernel_rfl) rfl ?_
  conv => whnf
  repeat (first
    | (refine And.intro ?_ ?_; (focus (first | omega | decide | exact Int.natCast_nonneg _ | ((repeat' refine And.intro ?_ ?_) <;> first | omega | exact Int.natCast_nonneg _ | (simp only [i64max]; omega) | (simp only [u8max]; omega) | (simp only [i64max, u8max, u16max, u32max, u64max]; omega) | (simp [mulSz, Cont.len, bne]; done) | (simp [mulSz, Cont.len, bne]; omega)))); conv => whnf)
    | (refine tst_in ?_ ?_; (focus (intro h_; exfalso; first | omega | ((try simp only [decide_eq_true_eq, decide_eq_false_iff_not] at h_); omega) | (simp [mulSz, Cont.len, bne] at h_; done) | (simp [mulSz, Cont.len, bne] at h_; omega))); intro _; conv => whnf)
    | (refine tst_in ?_ ?_; rotate_left; (focus (intro h_; exfalso; first | omega | ((try simp only [decide_eq_true_eq, decide_eq_false_iff_not] at h_); omega) | (simp [mulSz, Cont.len, bne] at h_; done) | (simp [mulSz, Cont.len, bne] at h_; omega))); intro _; conv => whnf))
  refine ⟨⟨[0, 1], ((0, []) : Nat × List Int), ?_, Nat.zero_le _⟩, ?_⟩
  · conv => whnf
    repeat' (first | exact True.intro | rfl | refine And.intro ?_ ?_)
    all_goals (conv => whnf)
    repeat' (first | exact True.intro | rfl | refine And.intro ?_ ?_)
    all_goals (try (first | omega | exact True.intro | rfl | assumption | (change LE.le (α := Nat) _ _; first | omega | (simp only [tx]; omega)) | (simp only [tx]; done) | (simp only [tx]; omega) | (simp [tx]; done) | (simp [tx]; omega)))
  · rintro ⟨k, u⟩ hk
    have hk : k ≤ n := hk
    have hlk := hl k
    show forceSt (st27 n ca k A u) _
    conv => whnf
    refine tst_in (fun hlt => ?_) (fun hge => ?_)
    · skip
      have hlt : k < n := by simp at hlt; omega
      conv => whnf
      repeat (first
        | (refine And.intro ?_ ?_; (focus (first | omega | decide | exact Int.natCast_nonneg _ | ((repeat' refine And.intro ?_ ?_) <;> first | omega | exact Int.natCast_nonneg _ | (simp only [i64max]; omega) | (simp only [u8max]; omega) | (simp only [i64max, u8max, u16max, u32max, u64max]; omega) | (simp [mulSz, Cont.len, bne]; done) | (simp [mulSz, Cont.len, bne]; omega)))); conv => whnf)
        | (refine tst_in ?_ ?_; (focus (intro h_; exfalso; first | omega | ((try simp only [decide_eq_true_eq, decide_eq_false_iff_not] at h_); omega) | (simp [mulSz, Cont.len, bne] at h_; done) | (simp [mulSz, Cont.len, bne] at h_; omega))); intro _; conv => whnf)
        | (refine tst_in ?_ ?_; rotate_left; (focus (intro h_; exfalso; first | omega | ((try simp only [decide_eq_true_eq, decide_eq_false_iff_not] at h_); omega) | (simp [mulSz, Cont.len, bne] at h_; done) | (simp [mulSz, Cont.len, bne] at h_; omega))); intro _; conv => whnf))
      rw [show 0 + ((k : Int)).toNat = k by omega]
      refine tst_in (fun hb => ?_) (fun hb => ?_)
      · skip
        have hb : A.getD k false = true := hb
        conv => whnf
        repeat (first
          | (refine And.intro ?_ ?_; (focus (first | omega | decide | exact Int.natCast_nonneg _ | ((repeat' refine And.intro ?_ ?_) <;> first | omega | exact Int.natCast_nonneg _ | (simp only [i64max]; omega) | (simp only [u8max]; omega) | (simp only [i64max, u8max, u16max, u32max, u64max]; omega) | (simp [mulSz, Cont.len, bne, hlk]; done) | (simp [mulSz, Cont.len, bne, hlk]; omega)))); conv => whnf)
          | (refine tst_in ?_ ?_; (focus (intro h_; exfalso; first | omega | ((try simp only [decide_eq_true_eq, decide_eq_false_iff_not] at h_); omega) | (simp [mulSz, Cont.len, bne, hlk] at h_; done) | (simp [mulSz, Cont.len, bne, hlk] at h_; omega))); intro _; conv => whnf)
          | (refine tst_in ?_ ?_; rotate_left; (focus (intro h_; exfalso; first | omega | ((try simp only [decide_eq_true_eq, decide_eq_false_iff_not] at h_); omega) | (simp [mulSz, Cont.len, bne, hlk] at h_; done) | (simp [mulSz, Cont.len, bne, hlk] at h_; omega))); intro _; conv => whnf))
        intro (u2 : List Int)
        conv => whnf
        repeat (first
          | (refine And.intro ?_ ?_; (focus (first | omega | decide | exact Int.natCast_nonneg _ | ((repeat' refine And.intro ?_ ?_) <;> first | omega | exact Int.natCast_nonneg _ | (simp only [i64max]; omega) | (simp only [u8max]; omega) | (simp only [i64max, u8max, u16max, u32max, u64max]; omega) | (simp [mulSz, Cont.len, bne]; done) | (simp [mulSz, Cont.len, bne]; omega)))); conv => whnf)
          | (refine tst_in ?_ ?_; (focus (intro h_; exfalso; first | omega | ((try simp only [decide_eq_true_eq, decide_eq_false_iff_not] at h_); omega) | (simp [mulSz, Cont.len, bne] at h_; done) | (simp [mulSz, Cont.len, bne] at h_; omega))); intro _; conv => whnf)
          | (refine tst_in ?_ ?_; rotate_left; (focus (intro h_; exfalso; first | omega | ((try simp only [decide_eq_true_eq, decide_eq_false_iff_not] at h_); omega) | (simp [mulSz, Cont.len, bne] at h_; done) | (simp [mulSz, Cont.len, bne] at h_; omega))); intro _; conv => whnf))
        refine ⟨[0, 3], ((k + 1, u2) : Nat × List Int), ?_, (by show k + 1 ≤ n; omega), (by show n - (k + 1) < n - k; omega)⟩
        conv => whnf
        repeat' (first | exact True.intro | rfl | refine And.intro ?_ ?_)
        all_goals (conv => whnf)
        repeat' (first | exact True.intro | rfl | refine And.intro ?_ ?_)
        all_goals (try (first | omega | exact True.intro | rfl | assumption | (change LE.le (α := Nat) _ _; first | omega | (simp only []; omega)) | (simp only []; done) | (simp only []; omega) | (simp; done) | (simp; omega)))
        all_goals (show tx A (k + 1) ++ u2 = _; simp only [tx]; rw [if_pos hb, show List.take (mulSz 1 k) (List.drop 0 (tx A k ++ u)) = tx A k from List.take_left' hlk]; simp [mulSz])
      · skip
        have hb : ¬ A.getD k false = true := by simpa using hb
        conv => whnf
        repeat (first
          | (refine And.intro ?_ ?_; (focus (first | omega | decide | exact Int.natCast_nonneg _ | ((repeat' refine And.intro ?_ ?_) <;> first | omega | exact Int.natCast_nonneg _ | (simp only [i64max]; omega) | (simp only [u8max]; omega) | (simp only [i64max, u8max, u16max, u32max, u64max]; omega) | (simp [mulSz, Cont.len, bne, hlk]; done) | (simp [mulSz, Cont.len, bne, hlk]; omega)))); conv => whnf)
          | (refine tst_in ?_ ?_; (focus (intro h_; exfalso; first | omega | ((try simp only [decide_eq_true_eq, decide_eq_false_iff_not] at h_); omega) | (simp [mulSz, Cont.len, bne, hlk] at h_; done) | (simp [mulSz, Cont.len, bne, hlk] at h_; omega))); intro _; conv => whnf)
          | (refine tst_in ?_ ?_; rotate_left; (focus (intro h_; exfalso; first | omega | ((try simp only [decide_eq_true_eq, decide_eq_false_iff_not] at h_); omega) | (simp [mulSz, Cont.len, bne, hlk] at h_; done) | (simp [mulSz, Cont.len, bne, hlk] at h_; omega))); intro _; conv => whnf))
        intro (u2 : List Int)
        conv => whnf
        repeat (first
          | (refine And.intro ?_ ?_; (focus (first | omega | decide | exact Int.natCast_nonneg _ | ((repeat' refine And.intro ?_ ?_) <;> first | omega | exact Int.natCast_nonneg _ | (simp only [i64max]; omega) | (simp only [u8max]; omega) | (simp only [i64max, u8max, u16max, u32max, u64max]; omega) | (simp [mulSz, Cont.len, bne]; done) | (simp [mulSz, Cont.len, bne]; omega)))); conv => whnf)
          | (refine tst_in ?_ ?_; (focus (intro h_; exfalso; first | omega | ((try simp only [decide_eq_true_eq, decide_eq_false_iff_not] at h_); omega) | (simp [mulSz, Cont.len, bne] at h_; done) | (simp [mulSz, Cont.len, bne] at h_; omega))); intro _; conv => whnf)
          | (refine tst_in ?_ ?_; rotate_left; (focus (intro h_; exfalso; first | omega | ((try simp only [decide_eq_true_eq, decide_eq_false_iff_not] at h_); omega) | (simp [mulSz, Cont.len, bne] at h_; done) | (simp [mulSz, Cont.len, bne] at h_; omega))); intro _; conv => whnf))
        refine ⟨[0, 3], ((k + 1, u2) : Nat × List Int), ?_, (by show k + 1 ≤ n; omega), (by show n - (k + 1) < n - k; omega)⟩
        conv => whnf
        repeat' (first | exact True.intro | rfl | refine And.intro ?_ ?_)
        all_goals (conv => whnf)
        repeat' (first | exact True.intro | rfl | refine And.intro ?_ ?_)
        all_goals (try (first | omega | exact True.intro | rfl | assumption | (change LE.le (α := Nat) _ _; first | omega | (simp only []; omega)) | (simp only []; done) | (simp only []; omega) | (simp; done) | (simp; omega)))
        all_goals (show tx A (k + 1) ++ u2 = _; simp only [tx]; rw [if_neg hb, show List.take (mulSz 1 k) (List.drop 0 (tx A k ++ u)) = tx A k from List.take_left' hlk]; simp [mulSz])
    · skip
      have hge : k = n := by simp at hge; omega
      subst hge
      conv => whnf
      repeat (first
        | (refine And.intro ?_ ?_; (focus (first | omega | decide | exact Int.natCast_nonneg _ | ((repeat' refine And.intro ?_ ?_) <;> first | omega | exact Int.natCast_nonneg _ | (simp only [i64max]; omega) | (simp only [u8max]; omega) | (simp only [i64max, u8max, u16max, u32max, u64max]; omega) | (simp [mulSz, Cont.len, bne, hlk]; done) | (simp [mulSz, Cont.len, bne, hlk]; omega)))); conv => whnf)
        | (refine tst_in ?_ ?_; (focus (intro h_; exfalso; first | omega | ((try simp only [decide_eq_true_eq, decide_eq_false_iff_not] at h_); omega) | (simp [mulSz, Cont.len, bne, hlk] at h_; done) | (simp [mulSz, Cont.len, bne, hlk] at h_; omega))); intro _; conv => whnf)
        | (refine tst_in ?_ ?_; rotate_left; (focus (intro h_; exfalso; first | omega | ((try simp only [decide_eq_true_eq, decide_eq_false_iff_not] at h_); omega) | (simp [mulSz, Cont.len, bne, hlk] at h_; done) | (simp [mulSz, Cont.len, bne, hlk] at h_; omega))); intro _; conv => whnf))
      refine .inl ⟨(), [0], ?_⟩
      conv => whnf
      repeat' (first | exact True.intro | rfl | refine And.intro ?_ ?_)
      all_goals (conv => whnf)
      repeat' (first | exact True.intro | rfl | refine And.intro ?_ ?_)
      all_goals (try (first | omega | exact True.intro | rfl | assumption | (change LE.le (α := Nat) _ _; first | omega | (simp only []; omega)) | (simp only []; done) | (simp only []; omega) | (simp; done) | (simp; omega)))
      all_goals (show txs A k = _; unfold txs; simp [List.take_left' hlk])
end Go.Proofs.Ytkkianjpkipooaa

set_option linter.unusedVariables false
set_option linter.unusedSimpArgs false
namespace Go.Proofs.Ytkkianjpkipooaa
open Go Go.Fw
theorem get_list2 (b : ByteArray) (p : Nat) (hp : p < b.data.toList.length) : b.get! p = b.data.toList[p] := by
  obtain ⟨⟨l⟩⟩ := b
  simp only at hp
  show (Array.mk l)[p]! = l[p]
  rw [getElem!_pos (Array.mk l) p (by simpa using hp)]
  rfl
theorem byteAt_get {s : ByteArray} {k : Nat} (h : k < s.size) : byteAt s k = (s.get! k).toNat := by
  have hk : k < s.data.toList.length := h
  have : s.get! k = s.data.toList[k] := get_list2 s k hk
  unfold byteAt
  rw [this, List.getD_eq_getElem?_getD, List.getElem?_eq_getElem hk]
  rfl
/-- What the first letters say. -/
def rb (s : ByteArray) : Nat → List Bool
  | 0 => []
  | k + 1 => rb s k ++ [decide ((s.get! k).toNat = 49)]
theorem rb_len (s : ByteArray) : ∀ k, (rb s k).length = k
  | 0 => rfl
  | k + 1 => by simp [rb, rb_len s k]
def rowP (X : List Bool) (at' e : Nat) : FOut := ⟨List Bool, fun _ => True, fun t => .tup [.slice 0 0 X.length (X.length + t.length), .int .i64 at', .int .i64 e], fun t => [.seg true (.bools (X ++ t))]⟩
structure Stop (s : ByteArray) (K : Nat) (X : List Bool) (at' e : Nat) : Prop where
  le : K ≤ s.size
  le2 : K ≤ 32768
  good : ∀ i, i < K → bit s i
  how : (K = s.size ∧ X = rb s K ∧ at' = 0 ∧ e = 0) ∨ (K < s.size ∧ (K = 32768 ∨ ¬ bit s K) ∧ X = [] ∧ at' = K ∧ e = 4)
theorem good_or (s : ByteArray) (n : Nat) : (∀ i, i < n → bit s i) ∨ ∃ K, K < n ∧ ¬ bit s K ∧ ∀ i, i < K → bit s i := by
  induction n with
  | zero => exact .inl fun i h => by omega
  | succ n ih =>
    rcases ih with h | ⟨K, h1, h2, h3⟩
    · by_cases hb : bit s n
      · exact .inl fun i hi => by
          rcases Nat.lt_or_ge i n with h' | h'
          · exact h i h'
          · have : i = n := by omega
            subst this; exact hb
      · exact .inr ⟨n, by omega, hb, h⟩
    · exact .inr ⟨K, by omega, h2, h3⟩
theorem stop_ex (s : ByteArray) : ∃ K X at' e, Stop s K X at' e ∧ X.length ≤ 32768 := by
  rcases good_or s (min s.size 32768) with h | ⟨K, h1, h2, h3⟩
  · rcases Nat.lt_or_ge 32768 s.size with hs | hs
    · rw [Nat.min_eq_right (by omega)] at h
      exact ⟨32768, [], 32768, 4, ⟨by omega, by omega, h, .inr ⟨hs, .inl rfl, rfl, rfl, rfl⟩⟩, by simp⟩
    · rw [Nat.min_eq_left hs] at h
      exact ⟨s.size, rb s s.size, 0, 0, ⟨by omega, hs, h, .inl ⟨rfl, rfl, rfl, rfl⟩⟩, by rw [rb_len]; exact hs⟩
  · have h4 : K < s.size := Nat.lt_of_lt_of_le h1 (Nat.min_le_left _ _)
    have h5 : K < 32768 := Nat.lt_of_lt_of_le h1 (Nat.min_le_right _ _)
    exact ⟨K, [], K, 4, ⟨by omega, by omega, h3, .inr ⟨h4, .inr h2, rfl, rfl, rfl⟩⟩, by simp⟩
noncomputable def c22 : Code := (Try.f22.body).getD .skip
def st22 (s : ByteArray) (k : Nat) (t : List Bool) : St := ⟨anyTo 35 [.str s, .any, .any, .any, .any, .slice 0 0 k (k + t.length), .any, .any, .any, .any, .any, .any, .any, .ptr 1 0], [.seg true (.bools (rb s k ++ t)), .obj (.iter s k)]⟩
def inv22 (s : ByteArray) (K : Nat) : LInv := ⟨Nat × List Bool, fun p => st22 s p.1 p.2, fun p => p.1 ≤ K, fun p => K - p.1⟩
set_option maxHeartbeats 0 in
set_option maxRecDepth 100000 in
theorem Parse_f (s : ByteArray) (K : Nat) (X : List Bool) (at' e : Nat) (hS : Stop s K X at' e) :
    Fits Try.prog 22 ⟨[.str s], [], [rowP X at' e]⟩ := by
  have hl := rb_len s
  obtain ⟨hK1, hK2, hgood, hhow⟩ := hS
  refine fits_of_body (C := cfgs 0) (c := c22) (ts := [2, 3, 4]) tok0 mixed0 (fun | 3 => some (inv22 s K) | _ => none) (fun _ => none)
    Try.func22 (by kernel_rfl) (by kernel_rfl) (by kernel_rfl) (by kernel_rfl) rfl ?_
  conv => whnf
  repeat (first
    | (refine And.intro ?_ ?_; (focus (first | omega | decide | exact Int.natCast_nonneg _ | ((repeat' refine And.intro ?_ ?_) <;> first | omega | exact Int.natCast_nonneg _ | (simp only [i64max]; omega) | (simp only [u8max]; omega) | (simp only [i64max, u8max, u16max, u32max, u64max]; omega) | (simp [mulSz, Cont.len, bne]; done) | (simp [mulSz, Cont.len, bne]; omega)))); conv => whnf)
    | (refine tst_in ?_ ?_; (focus (intro h_; exfalso; first | omega | ((try simp only [decide_eq_true_eq, decide_eq_false_iff_not] at h_); omega) | (simp [mulSz, Cont.len, bne] at h_; done) | (simp [mulSz, Cont.len, bne] at h_; omega))); intro _; conv => whnf)
    | (refine tst_in ?_ ?_; rotate_left; (focus (intro h_; exfalso; first | omega | ((try simp only [decide_eq_true_eq, decide_eq_false_iff_not] at h_); omega) | (simp [mulSz, Cont.len, bne] at h_; done) | (simp [mulSz, Cont.len, bne] at h_; omega))); intro _; conv => whnf))
  refine ⟨⟨[0, 1], ((0, List.replicate (min (s.size : Int) 32768).toNat false) : Nat × List Bool), ?_, Nat.zero_le _⟩, ?_⟩
  · conv => whnf
    repeat' (first | exact True.intro | rfl | refine And.intro ?_ ?_)
    all_goals (conv => whnf)
    repeat' (first | exact True.intro | rfl | refine And.intro ?_ ?_)
    all_goals (try (first | omega | exact True.intro | rfl | assumption | (change LE.le (α := Nat) _ _; first | omega | (simp only [rb]; omega)) | (simp only [rb]; done) | (simp only [rb]; omega) | (simp [rb]; done) | (simp [rb]; omega)))
  · rintro ⟨k, t⟩ hk
    have hk : k ≤ K := hk
    have hlk := hl k
    show forceSt (st22 s k t) _
    conv => whnf
    refine ⟨fun hlt => ?_, fun hge => ?_⟩
    · skip
      by_cases hkK : k < K
      · have hb := hgood k hkK
        have hk3 : k < 32768 := by omega
        have hd : Utf8.decode s k = ((s.get! k).toNat, 1) := dec_low (by rcases hb with hb | hb <;> omega)
        rcases hb with hb | hb
        · skip
          rw [hd, hb]
          conv => whnf
          repeat (first
            | (refine And.intro ?_ ?_; (focus (first | omega | decide | exact Int.natCast_nonneg _ | ((repeat' refine And.intro ?_ ?_) <;> first | omega | exact Int.natCast_nonneg _ | (simp only [i64max]; omega) | (simp only [u8max]; omega) | (simp only [i64max, u8max, u16max, u32max, u64max]; omega) | (simp [mulSz, Cont.len, bne, hlk]; done) | (simp [mulSz, Cont.len, bne, hlk]; omega)))); conv => whnf)
            | (refine tst_in ?_ ?_; (focus (intro h_; exfalso; first | omega | ((try simp only [decide_eq_true_eq, decide_eq_false_iff_not] at h_); omega) | (simp [mulSz, Cont.len, bne, hlk] at h_; done) | (simp [mulSz, Cont.len, bne, hlk] at h_; omega))); intro _; conv => whnf)
            | (refine tst_in ?_ ?_; rotate_left; (focus (intro h_; exfalso; first | omega | ((try simp only [decide_eq_true_eq, decide_eq_false_iff_not] at h_); omega) | (simp [mulSz, Cont.len, bne, hlk] at h_; done) | (simp [mulSz, Cont.len, bne, hlk] at h_; omega))); intro _; conv => whnf))
          intro (u : List Bool)
          conv => whnf
          repeat (first
            | (refine And.intro ?_ ?_; (focus (first | omega | decide | exact Int.natCast_nonneg _ | ((repeat' refine And.intro ?_ ?_) <;> first | omega | exact Int.natCast_nonneg _ | (simp only [i64max]; omega) | (simp only [u8max]; omega) | (simp only [i64max, u8max, u16max, u32max, u64max]; omega) | (simp [mulSz, Cont.len, bne]; done) | (simp [mulSz, Cont.len, bne]; omega)))); conv => whnf)
            | (refine tst_in ?_ ?_; (focus (intro h_; exfalso; first | omega | ((try simp only [decide_eq_true_eq, decide_eq_false_iff_not] at h_); omega) | (simp [mulSz, Cont.len, bne] at h_; done) | (simp [mulSz, Cont.len, bne] at h_; omega))); intro _; conv => whnf)
            | (refine tst_in ?_ ?_; rotate_left; (focus (intro h_; exfalso; first | omega | ((try simp only [decide_eq_true_eq, decide_eq_false_iff_not] at h_); omega) | (simp [mulSz, Cont.len, bne] at h_; done) | (simp [mulSz, Cont.len, bne] at h_; omega))); intro _; conv => whnf))
          refine ⟨[3, 1], ((k + 1, u) : Nat × List Bool), ?_, (by show k + 1 ≤ K; omega), (by show K - (k + 1) < K - k; omega)⟩
          conv => whnf
          repeat' (first | exact True.intro | rfl | refine And.intro ?_ ?_)
          all_goals (conv => whnf)
          repeat' (first | exact True.intro | rfl | refine And.intro ?_ ?_)
          all_goals (try (first | omega | exact True.intro | rfl | assumption | (change LE.le (α := Nat) _ _; first | omega | (simp only []; omega)) | (simp only []; done) | (simp only []; omega) | (simp; done) | (simp; omega)))
          all_goals (show rb s (k + 1) ++ u = _; simp only [rb]; rw [hb, show List.take (mulSz 1 k) (List.drop 0 (rb s k ++ t)) = rb s k from List.take_left' hlk]; simp [mulSz])
        · skip
          rw [hd, hb]
          conv => whnf
          repeat (first
            | (refine And.intro ?_ ?_; (focus (first | omega | decide | exact Int.natCast_nonneg _ | ((repeat' refine And.intro ?_ ?_) <;> first | omega | exact Int.natCast_nonneg _ | (simp only [i64max]; omega) | (simp only [u8max]; omega) | (simp only [i64max, u8max, u16max, u32max, u64max]; omega) | (simp [mulSz, Cont.len, bne, hlk]; done) | (simp [mulSz, Cont.len, bne, hlk]; omega)))); conv => whnf)
            | (refine tst_in ?_ ?_; (focus (intro h_; exfalso; first | omega | ((try simp only [decide_eq_true_eq, decide_eq_false_iff_not] at h_); omega) | (simp [mulSz, Cont.len, bne, hlk] at h_; done) | (simp [mulSz, Cont.len, bne, hlk] at h_; omega))); intro _; conv => whnf)
            | (refine tst_in ?_ ?_; rotate_left; (focus (intro h_; exfalso; first | omega | ((try simp only [decide_eq_true_eq, decide_eq_false_iff_not] at h_); omega) | (simp [mulSz, Cont.len, bne, hlk] at h_; done) | (simp [mulSz, Cont.len, bne, hlk] at h_; omega))); intro _; conv => whnf))
          intro (u : List Bool)
          conv => whnf
          repeat (first
            | (refine And.intro ?_ ?_; (focus (first | omega | decide | exact Int.natCast_nonneg _ | ((repeat' refine And.intro ?_ ?_) <;> first | omega | exact Int.natCast_nonneg _ | (simp only [i64max]; omega) | (simp only [u8max]; omega) | (simp only [i64max, u8max, u16max, u32max, u64max]; omega) | (simp [mulSz, Cont.len, bne]; done) | (simp [mulSz, Cont.len, bne]; omega)))); conv => whnf)
            | (refine tst_in ?_ ?_; (focus (intro h_; exfalso; first | omega | ((try simp only [decide_eq_true_eq, decide_eq_false_iff_not] at h_); omega) | (simp [mulSz, Cont.len, bne] at h_; done) | (simp [mulSz, Cont.len, bne] at h_; omega))); intro _; conv => whnf)
            | (refine tst_in ?_ ?_; rotate_left; (focus (intro h_; exfalso; first | omega | ((try simp only [decide_eq_true_eq, decide_eq_false_iff_not] at h_); omega) | (simp [mulSz, Cont.len, bne] at h_; done) | (simp [mulSz, Cont.len, bne] at h_; omega))); intro _; conv => whnf))
          refine ⟨[3, 1], ((k + 1, u) : Nat × List Bool), ?_, (by show k + 1 ≤ K; omega), (by show K - (k + 1) < K - k; omega)⟩
          conv => whnf
          repeat' (first | exact True.intro | rfl | refine And.intro ?_ ?_)
          all_goals (conv => whnf)
          repeat' (first | exact True.intro | rfl | refine And.intro ?_ ?_)
          all_goals (try (first | omega | exact True.intro | rfl | assumption | (change LE.le (α := Nat) _ _; first | omega | (simp only []; omega)) | (simp only []; done) | (simp only []; omega) | (simp; done) | (simp; omega)))
          all_goals (show rb s (k + 1) ++ u = _; simp only [rb]; rw [hb, show List.take (mulSz 1 k) (List.drop 0 (rb s k ++ t)) = rb s k from List.take_left' hlk]; simp [mulSz])
      · have hkK : k = K := by omega
        subst hkK
        rcases hhow with ⟨h1, _⟩ | ⟨_, h2, rfl, h6, rfl⟩
        · exact absurd h1 (by omega)
        · have h6 := h6.symm
          subst h6
          by_cases h5 : k = 32768
          · skip
            conv => whnf
            repeat (first
              | (refine And.intro ?_ ?_; (focus (first | omega | decide | exact Int.natCast_nonneg _ | ((repeat' refine And.intro ?_ ?_) <;> first | omega | exact Int.natCast_nonneg _ | (simp only [i64max]; omega) | (simp only [u8max]; omega) | (simp only [i64max, u8max, u16max, u32max, u64max]; omega) | (simp [mulSz, Cont.len, bne]; done) | (simp [mulSz, Cont.len, bne]; omega)))); conv => whnf)
              | (refine tst_in ?_ ?_; (focus (intro h_; exfalso; first | omega | ((try simp only [decide_eq_true_eq, decide_eq_false_iff_not] at h_); omega) | (simp [mulSz, Cont.len, bne] at h_; done) | (simp [mulSz, Cont.len, bne] at h_; omega))); intro _; conv => whnf)
              | (refine tst_in ?_ ?_; rotate_left; (focus (intro h_; exfalso; first | omega | ((try simp only [decide_eq_true_eq, decide_eq_false_iff_not] at h_); omega) | (simp [mulSz, Cont.len, bne] at h_; done) | (simp [mulSz, Cont.len, bne] at h_; omega))); intro _; conv => whnf))
            refine .inl ⟨([] : List Bool), [5], ?_⟩
            conv => whnf
            repeat' (first | exact True.intro | rfl | refine And.intro ?_ ?_)
            all_goals (conv => whnf)
            repeat' (first | exact True.intro | rfl | refine And.intro ?_ ?_)
            all_goals (try (first | omega | exact True.intro | rfl | assumption | (change LE.le (α := Nat) _ _; first | omega | (simp only []; omega)) | (simp only []; done) | (simp only []; omega) | (simp; done) | (simp; omega)))
          · have h3 : ¬ bit s k := h2.resolve_left h5
            obtain ⟨c, hc⟩ : ∃ c, c = Utf8.decode s k := ⟨_, rfl⟩
            have h48 : c.1 ≠ 48 := by rw [hc]; exact dec_ne (by omega) fun h => h3 (.inl h)
            have h49 : c.1 ≠ 49 := by rw [hc]; exact dec_ne (by omega) fun h => h3 (.inr h)
            rw [← hc]
            conv => whnf
            repeat (first
              | (refine And.intro ?_ ?_; (focus (first | omega | decide | exact Int.natCast_nonneg _ | ((repeat' refine And.intro ?_ ?_) <;> first | omega | exact Int.natCast_nonneg _ | (simp only [i64max]; omega) | (simp only [u8max]; omega) | (simp only [i64max, u8max, u16max, u32max, u64max]; omega) | (simp [mulSz, Cont.len, bne]; done) | (simp [mulSz, Cont.len, bne]; omega)))); conv => whnf)
              | (refine tst_in ?_ ?_; (focus (intro h_; exfalso; first | omega | ((try simp only [decide_eq_true_eq, decide_eq_false_iff_not] at h_); omega) | (simp [mulSz, Cont.len, bne] at h_; done) | (simp [mulSz, Cont.len, bne] at h_; omega))); intro _; conv => whnf)
              | (refine tst_in ?_ ?_; rotate_left; (focus (intro h_; exfalso; first | omega | ((try simp only [decide_eq_true_eq, decide_eq_false_iff_not] at h_); omega) | (simp [mulSz, Cont.len, bne] at h_; done) | (simp [mulSz, Cont.len, bne] at h_; omega))); intro _; conv => whnf))
            refine .inl ⟨([] : List Bool), [5], ?_⟩
            conv => whnf
            repeat' (first | exact True.intro | rfl | refine And.intro ?_ ?_)
            all_goals (conv => whnf)
            repeat' (first | exact True.intro | rfl | refine And.intro ?_ ?_)
            all_goals (try (first | omega | exact True.intro | rfl | assumption | (change LE.le (α := Nat) _ _; first | omega | (simp only []; omega)) | (simp only []; done) | (simp only []; omega) | (simp; done) | (simp; omega)))
    · skip
      rcases hhow with ⟨h1, rfl, rfl, rfl⟩ | ⟨h1, _⟩
      · have hkK : k = K := by omega
        subst hkK
        conv => whnf
        repeat (first
          | (refine And.intro ?_ ?_; (focus (first | omega | decide | exact Int.natCast_nonneg _ | ((repeat' refine And.intro ?_ ?_) <;> first | omega | exact Int.natCast_nonneg _ | (simp only [i64max]; omega) | (simp only [u8max]; omega) | (simp only [i64max, u8max, u16max, u32max, u64max]; omega) | (simp [mulSz, Cont.len, bne]; done) | (simp [mulSz, Cont.len, bne]; omega)))); conv => whnf)
          | (refine tst_in ?_ ?_; (focus (intro h_; exfalso; first | omega | ((try simp only [decide_eq_true_eq, decide_eq_false_iff_not] at h_); omega) | (simp [mulSz, Cont.len, bne] at h_; done) | (simp [mulSz, Cont.len, bne] at h_; omega))); intro _; conv => whnf)
          | (refine tst_in ?_ ?_; rotate_left; (focus (intro h_; exfalso; first | omega | ((try simp only [decide_eq_true_eq, decide_eq_false_iff_not] at h_); omega) | (simp [mulSz, Cont.len, bne] at h_; done) | (simp [mulSz, Cont.len, bne] at h_; omega))); intro _; conv => whnf))
        refine .inl ⟨t, [0], ?_⟩
        conv => whnf
        repeat' (first | exact True.intro | rfl | refine And.intro ?_ ?_)
        all_goals (conv => whnf)
        repeat' (first | exact True.intro | rfl | refine And.intro ?_ ?_)
        all_goals (try (first | omega | exact True.intro | rfl | assumption | (change LE.le (α := Nat) _ _; first | omega | (simp only [hlk]; omega)) | (simp only [hlk]; done) | (simp only [hlk]; omega) | (simp [hlk]; done) | (simp [hlk]; omega)))
      · exact absurd h1 (by omega)
noncomputable def c26 : Code := (Try.f26.body).getD .skip
def st26 (s : ByteArray) (k : Nat) (t : List Bool) : St := ⟨anyTo 36 [.str s, .any, .any, .any, .any, .slice 0 0 k (k + t.length), .int .i64 k], [.seg true (.bools (rb s k ++ t))]⟩
def inv26 (s : ByteArray) (K : Nat) : LInv := ⟨Nat × List Bool, fun p => st26 s p.1 p.2, fun p => p.1 ≤ K, fun p => K - p.1⟩
set_option maxHeartbeats 0 in
set_option maxRecDepth 100000 in
theorem rParse_f (s : ByteArray) (K : Nat) (X : List Bool) (at' e : Nat) (hS : Stop s K X at' e) :
    Fits Try.prog 26 ⟨[.str s], [], [rowP X at' e]⟩ := by
  have hl := rb_len s
  obtain ⟨hK1, hK2, hgood, hhow⟩ := hS
  refine fits_of_body (C := cfgs 0) (c := c26) (ts := [2, 3, 4]) tok0 mixed0 (fun | 3 => some (inv26 s K) | _ => none) (fun _ => none)
    Try.func26 (by kernel_rfl) (by kernel_rfl) (by kernel_rfl) (by kernel_rfl) rfl ?_
  conv => whnf
  repeat (first
    | (refine And.intro ?_ ?_; (focus (first | omega | decide | exact Int.natCast_nonneg _ | ((repeat' refine And.intro ?_ ?_) <;> first | omega | exact Int.natCast_nonneg _ | (simp only [i64max]; omega) | (simp only [u8max]; omega) | (simp only [i64max, u8max, u16max, u32max, u64max]; omega) | (simp [mulSz, Cont.len, bne]; done) | (simp [mulSz, Cont.len, bne]; omega)))); conv => whnf)
    | (refine tst_in ?_ ?_; (focus (intro h_; exfalso; first | omega | ((try simp only [decide_eq_true_eq, decide_eq_false_iff_not] at h_); omega) | (simp [mulSz, Cont.len, bne] at h_; done) | (simp [mulSz, Cont.len, bne] at h_; omega))); intro _; conv => whnf)
    | (refine tst_in ?_ ?_; rotate_left; (focus (intro h_; exfalso; first | omega | ((try simp only [decide_eq_true_eq, decide_eq_false_iff_not] at h_); omega) | (simp [mulSz, Cont.len, bne] at h_; done) | (simp [mulSz, Cont.len, bne] at h_; omega))); intro _; conv => whnf))
  refine ⟨⟨[0], ((0, []) : Nat × List Bool), ?_, Nat.zero_le _⟩, ?_⟩
  · conv => whnf
    repeat' (first | exact True.intro | rfl | refine And.intro ?_ ?_)
    all_goals (conv => whnf)
    repeat' (first | exact True.intro | rfl | refine And.intro ?_ ?_)
    all_goals (try (first | omega | exact True.intro | rfl | assumption | (change LE.le (α := Nat) _ _; first | omega | (simp only [rb]; omega)) | (simp only [rb]; done) | (simp only [rb]; omega) | (simp [rb]; done) | (simp [rb]; omega)))
  · rintro ⟨k, t⟩ hk
    have hk : k ≤ K := hk
    have hlk := hl k
    show forceSt (st26 s k t) _
    conv => whnf
    refine tst_in (fun hlt => ?_) (fun hge => ?_)
    · skip
      have hlt : k < s.size := by simp at hlt; omega
      have hby : byteAt s ((k : Int)).toNat = (s.get! k).toNat := by rw [Int.toNat_natCast]; exact byteAt_get hlt
      by_cases hkK : k < K
      · have hb := hgood k hkK
        have hk3 : k < 32768 := by omega
        rcases hb with hb | hb
        · skip
          rw [hb] at hby
          conv => whnf
          repeat (first
            | (refine And.intro ?_ ?_; (focus (first | omega | decide | exact Int.natCast_nonneg _ | ((repeat' refine And.intro ?_ ?_) <;> first | omega | exact Int.natCast_nonneg _ | (simp only [i64max]; omega) | (simp only [u8max]; omega) | (simp only [i64max, u8max, u16max, u32max, u64max]; omega) | (simp [mulSz, Cont.len, bne]; done) | (simp [mulSz, Cont.len, bne]; omega)))); conv => whnf)
            | (refine tst_in ?_ ?_; (focus (intro h_; exfalso; first | omega | ((try simp only [decide_eq_true_eq, decide_eq_false_iff_not] at h_); omega) | (simp [mulSz, Cont.len, bne] at h_; done) | (simp [mulSz, Cont.len, bne] at h_; omega))); intro _; conv => whnf)
            | (refine tst_in ?_ ?_; rotate_left; (focus (intro h_; exfalso; first | omega | ((try simp only [decide_eq_true_eq, decide_eq_false_iff_not] at h_); omega) | (simp [mulSz, Cont.len, bne] at h_; done) | (simp [mulSz, Cont.len, bne] at h_; omega))); intro _; conv => whnf))
          rw [hby]
          conv => whnf
          repeat (first
            | (refine And.intro ?_ ?_; (focus (first | omega | decide | exact Int.natCast_nonneg _ | ((repeat' refine And.intro ?_ ?_) <;> first | omega | exact Int.natCast_nonneg _ | (simp only [i64max]; omega) | (simp only [u8max]; omega) | (simp only [i64max, u8max, u16max, u32max, u64max]; omega) | (simp [mulSz, Cont.len, bne, hlk]; done) | (simp [mulSz, Cont.len, bne, hlk]; omega)))); conv => whnf)
            | (refine tst_in ?_ ?_; (focus (intro h_; exfalso; first | omega | ((try simp only [decide_eq_true_eq, decide_eq_false_iff_not] at h_); omega) | (simp [mulSz, Cont.len, bne, hlk] at h_; done) | (simp [mulSz, Cont.len, bne, hlk] at h_; omega))); intro _; conv => whnf)
            | (refine tst_in ?_ ?_; rotate_left; (focus (intro h_; exfalso; first | omega | ((try simp only [decide_eq_true_eq, decide_eq_false_iff_not] at h_); omega) | (simp [mulSz, Cont.len, bne, hlk] at h_; done) | (simp [mulSz, Cont.len, bne, hlk] at h_; omega))); intro _; conv => whnf))
          rw [hby]
          conv => whnf
          repeat (first
            | (refine And.intro ?_ ?_; (focus (first | omega | decide | exact Int.natCast_nonneg _ | ((repeat' refine And.intro ?_ ?_) <;> first | omega | exact Int.natCast_nonneg _ | (simp only [i64max]; omega) | (simp only [u8max]; omega) | (simp only [i64max, u8max, u16max, u32max, u64max]; omega) | (simp [mulSz, Cont.len, bne, hlk]; done) | (simp [mulSz, Cont.len, bne, hlk]; omega)))); conv => whnf)
            | (refine tst_in ?_ ?_; (focus (intro h_; exfalso; first | omega | ((try simp only [decide_eq_true_eq, decide_eq_false_iff_not] at h_); omega) | (simp [mulSz, Cont.len, bne, hlk] at h_; done) | (simp [mulSz, Cont.len, bne, hlk] at h_; omega))); intro _; conv => whnf)
            | (refine tst_in ?_ ?_; rotate_left; (focus (intro h_; exfalso; first | omega | ((try simp only [decide_eq_true_eq, decide_eq_false_iff_not] at h_); omega) | (simp [mulSz, Cont.len, bne, hlk] at h_; done) | (simp [mulSz, Cont.len, bne, hlk] at h_; omega))); intro _; conv => whnf))
          intro (u : List Bool)
          conv => whnf
          repeat (first
            | (refine And.intro ?_ ?_; (focus (first | omega | decide | exact Int.natCast_nonneg _ | ((repeat' refine And.intro ?_ ?_) <;> first | omega | exact Int.natCast_nonneg _ | (simp only [i64max]; omega) | (simp only [u8max]; omega) | (simp only [i64max, u8max, u16max, u32max, u64max]; omega) | (simp [mulSz, Cont.len, bne]; done) | (simp [mulSz, Cont.len, bne]; omega)))); conv => whnf)
            | (refine tst_in ?_ ?_; (focus (intro h_; exfalso; first | omega | ((try simp only [decide_eq_true_eq, decide_eq_false_iff_not] at h_); omega) | (simp [mulSz, Cont.len, bne] at h_; done) | (simp [mulSz, Cont.len, bne] at h_; omega))); intro _; conv => whnf)
            | (refine tst_in ?_ ?_; rotate_left; (focus (intro h_; exfalso; first | omega | ((try simp only [decide_eq_true_eq, decide_eq_false_iff_not] at h_); omega) | (simp [mulSz, Cont.len, bne] at h_; done) | (simp [mulSz, Cont.len, bne] at h_; omega))); intro _; conv => whnf))
          refine ⟨[2], ((k + 1, u) : Nat × List Bool), ?_, (by show k + 1 ≤ K; omega), (by show K - (k + 1) < K - k; omega)⟩
          conv => whnf
          repeat' (first | exact True.intro | rfl | refine And.intro ?_ ?_)
          all_goals (conv => whnf)
          repeat' (first | exact True.intro | rfl | refine And.intro ?_ ?_)
          all_goals (try (first | omega | exact True.intro | rfl | assumption | (change LE.le (α := Nat) _ _; first | omega | (simp only []; omega)) | (simp only []; done) | (simp only []; omega) | (simp; done) | (simp; omega)))
          all_goals (show rb s (k + 1) ++ u = _; simp only [rb]; rw [hb, show List.take (mulSz 1 k) (List.drop 0 (rb s k ++ t)) = rb s k from List.take_left' hlk]; simp [mulSz])
        · skip
          rw [hb] at hby
          conv => whnf
          repeat (first
            | (refine And.intro ?_ ?_; (focus (first | omega | decide | exact Int.natCast_nonneg _ | ((repeat' refine And.intro ?_ ?_) <;> first | omega | exact Int.natCast_nonneg _ | (simp only [i64max]; omega) | (simp only [u8max]; omega) | (simp only [i64max, u8max, u16max, u32max, u64max]; omega) | (simp [mulSz, Cont.len, bne]; done) | (simp [mulSz, Cont.len, bne]; omega)))); conv => whnf)
            | (refine tst_in ?_ ?_; (focus (intro h_; exfalso; first | omega | ((try simp only [decide_eq_true_eq, decide_eq_false_iff_not] at h_); omega) | (simp [mulSz, Cont.len, bne] at h_; done) | (simp [mulSz, Cont.len, bne] at h_; omega))); intro _; conv => whnf)
            | (refine tst_in ?_ ?_; rotate_left; (focus (intro h_; exfalso; first | omega | ((try simp only [decide_eq_true_eq, decide_eq_false_iff_not] at h_); omega) | (simp [mulSz, Cont.len, bne] at h_; done) | (simp [mulSz, Cont.len, bne] at h_; omega))); intro _; conv => whnf))
          rw [hby]
          conv => whnf
          repeat (first
            | (refine And.intro ?_ ?_; (focus (first | omega | decide | exact Int.natCast_nonneg _ | ((repeat' refine And.intro ?_ ?_) <;> first | omega | exact Int.natCast_nonneg _ | (simp only [i64max]; omega) | (simp only [u8max]; omega) | (simp only [i64max, u8max, u16max, u32max, u64max]; omega) | (simp [mulSz, Cont.len, bne]; done) | (simp [mulSz, Cont.len, bne]; omega)))); conv => whnf)
            | (refine tst_in ?_ ?_; (focus (intro h_; exfalso; first | omega | ((try simp only [decide_eq_true_eq, decide_eq_false_iff_not] at h_); omega) | (simp [mulSz, Cont.len, bne] at h_; done) | (simp [mulSz, Cont.len, bne] at h_; omega))); intro _; conv => whnf)
            | (refine tst_in ?_ ?_; rotate_left; (focus (intro h_; exfalso; first | omega | ((try simp only [decide_eq_true_eq, decide_eq_false_iff_not] at h_); omega) | (simp [mulSz, Cont.len, bne] at h_; done) | (simp [mulSz, Cont.len, bne] at h_; omega))); intro _; conv => whnf))
          rw [hby]
          conv => whnf
          repeat (first
            | (refine And.intro ?_ ?_; (focus (first | omega | decide | exact Int.natCast_nonneg _ | ((repeat' refine And.intro ?_ ?_) <;> first | omega | exact Int.natCast_nonneg _ | (simp only [i64max]; omega) | (simp only [u8max]; omega) | (simp only [i64max, u8max, u16max, u32max, u64max]; omega) | (simp [mulSz, Cont.len, bne, hlk]; done) | (simp [mulSz, Cont.len, bne, hlk]; omega)))); conv => whnf)
            | (refine tst_in ?_ ?_; (focus (intro h_; exfalso; first | omega | ((try simp only [decide_eq_true_eq, decide_eq_false_iff_not] at h_); omega) | (simp [mulSz, Cont.len, bne, hlk] at h_; done) | (simp [mulSz, Cont.len, bne, hlk] at h_; omega))); intro _; conv => whnf)
            | (refine tst_in ?_ ?_; rotate_left; (focus (intro h_; exfalso; first | omega | ((try simp only [decide_eq_true_eq, decide_eq_false_iff_not] at h_); omega) | (simp [mulSz, Cont.len, bne, hlk] at h_; done) | (simp [mulSz, Cont.len, bne, hlk] at h_; omega))); intro _; conv => whnf))
          rw [hby]
          conv => whnf
          repeat (first
            | (refine And.intro ?_ ?_; (focus (first | omega | decide | exact Int.natCast_nonneg _ | ((repeat' refine And.intro ?_ ?_) <;> first | omega | exact Int.natCast_nonneg _ | (simp only [i64max]; omega) | (simp only [u8max]; omega) | (simp only [i64max, u8max, u16max, u32max, u64max]; omega) | (simp [mulSz, Cont.len, bne, hlk]; done) | (simp [mulSz, Cont.len, bne, hlk]; omega)))); conv => whnf)
            | (refine tst_in ?_ ?_; (focus (intro h_; exfalso; first | omega | ((try simp only [decide_eq_true_eq, decide_eq_false_iff_not] at h_); omega) | (simp [mulSz, Cont.len, bne, hlk] at h_; done) | (simp [mulSz, Cont.len, bne, hlk] at h_; omega))); intro _; conv => whnf)
            | (refine tst_in ?_ ?_; rotate_left; (focus (intro h_; exfalso; first | omega | ((try simp only [decide_eq_true_eq, decide_eq_false_iff_not] at h_); omega) | (simp [mulSz, Cont.len, bne, hlk] at h_; done) | (simp [mulSz, Cont.len, bne, hlk] at h_; omega))); intro _; conv => whnf))
          intro (u : List Bool)
          conv => whnf
          repeat (first
            | (refine And.intro ?_ ?_; (focus (first | omega | decide | exact Int.natCast_nonneg _ | ((repeat' refine And.intro ?_ ?_) <;> first | omega | exact Int.natCast_nonneg _ | (simp only [i64max]; omega) | (simp only [u8max]; omega) | (simp only [i64max, u8max, u16max, u32max, u64max]; omega) | (simp [mulSz, Cont.len, bne]; done) | (simp [mulSz, Cont.len, bne]; omega)))); conv => whnf)
            | (refine tst_in ?_ ?_; (focus (intro h_; exfalso; first | omega | ((try simp only [decide_eq_true_eq, decide_eq_false_iff_not] at h_); omega) | (simp [mulSz, Cont.len, bne] at h_; done) | (simp [mulSz, Cont.len, bne] at h_; omega))); intro _; conv => whnf)
            | (refine tst_in ?_ ?_; rotate_left; (focus (intro h_; exfalso; first | omega | ((try simp only [decide_eq_true_eq, decide_eq_false_iff_not] at h_); omega) | (simp [mulSz, Cont.len, bne] at h_; done) | (simp [mulSz, Cont.len, bne] at h_; omega))); intro _; conv => whnf))
          refine ⟨[2], ((k + 1, u) : Nat × List Bool), ?_, (by show k + 1 ≤ K; omega), (by show K - (k + 1) < K - k; omega)⟩
          conv => whnf
          repeat' (first | exact True.intro | rfl | refine And.intro ?_ ?_)
          all_goals (conv => whnf)
          repeat' (first | exact True.intro | rfl | refine And.intro ?_ ?_)
          all_goals (try (first | omega | exact True.intro | rfl | assumption | (change LE.le (α := Nat) _ _; first | omega | (simp only []; omega)) | (simp only []; done) | (simp only []; omega) | (simp; done) | (simp; omega)))
          all_goals (show rb s (k + 1) ++ u = _; simp only [rb]; rw [hb, show List.take (mulSz 1 k) (List.drop 0 (rb s k ++ t)) = rb s k from List.take_left' hlk]; simp [mulSz])
      · have hkK : k = K := by omega
        subst hkK
        rcases hhow with ⟨h1, _⟩ | ⟨_, h2, rfl, h6, rfl⟩
        · exact absurd h1 (by omega)
        · have h6 := h6.symm
          subst h6
          by_cases h3 : bit s k
          · have h5 : k = 32768 := h2.resolve_right (fun h => h h3)
            rcases h3 with hb | hb
            · skip
              rw [hb] at hby
              conv => whnf
              repeat (first
                | (refine And.intro ?_ ?_; (focus (first | omega | decide | exact Int.natCast_nonneg _ | ((repeat' refine And.intro ?_ ?_) <;> first | omega | exact Int.natCast_nonneg _ | (simp only [i64max]; omega) | (simp only [u8max]; omega) | (simp only [i64max, u8max, u16max, u32max, u64max]; omega) | (simp [mulSz, Cont.len, bne]; done) | (simp [mulSz, Cont.len, bne]; omega)))); conv => whnf)
                | (refine tst_in ?_ ?_; (focus (intro h_; exfalso; first | omega | ((try simp only [decide_eq_true_eq, decide_eq_false_iff_not] at h_); omega) | (simp [mulSz, Cont.len, bne] at h_; done) | (simp [mulSz, Cont.len, bne] at h_; omega))); intro _; conv => whnf)
                | (refine tst_in ?_ ?_; rotate_left; (focus (intro h_; exfalso; first | omega | ((try simp only [decide_eq_true_eq, decide_eq_false_iff_not] at h_); omega) | (simp [mulSz, Cont.len, bne] at h_; done) | (simp [mulSz, Cont.len, bne] at h_; omega))); intro _; conv => whnf))
              rw [hby]
              conv => whnf
              repeat (first
                | (refine And.intro ?_ ?_; (focus (first | omega | decide | exact Int.natCast_nonneg _ | ((repeat' refine And.intro ?_ ?_) <;> first | omega | exact Int.natCast_nonneg _ | (simp only [i64max]; omega) | (simp only [u8max]; omega) | (simp only [i64max, u8max, u16max, u32max, u64max]; omega) | (simp [mulSz, Cont.len, bne]; done) | (simp [mulSz, Cont.len, bne]; omega)))); conv => whnf)
                | (refine tst_in ?_ ?_; (focus (intro h_; exfalso; first | omega | ((try simp only [decide_eq_true_eq, decide_eq_false_iff_not] at h_); omega) | (simp [mulSz, Cont.len, bne] at h_; done) | (simp [mulSz, Cont.len, bne] at h_; omega))); intro _; conv => whnf)
                | (refine tst_in ?_ ?_; rotate_left; (focus (intro h_; exfalso; first | omega | ((try simp only [decide_eq_true_eq, decide_eq_false_iff_not] at h_); omega) | (simp [mulSz, Cont.len, bne] at h_; done) | (simp [mulSz, Cont.len, bne] at h_; omega))); intro _; conv => whnf))
              refine .inl ⟨([] : List Bool), [5], ?_⟩
              conv => whnf
              repeat' (first | exact True.intro | rfl | refine And.intro ?_ ?_)
              all_goals (conv => whnf)
              repeat' (first | exact True.intro | rfl | refine And.intro ?_ ?_)
              all_goals (try (first | omega | exact True.intro | rfl | assumption | (change LE.le (α := Nat) _ _; first | omega | (simp only []; omega)) | (simp only []; done) | (simp only []; omega) | (simp; done) | (simp; omega)))
            · skip
              rw [hb] at hby
              conv => whnf
              repeat (first
                | (refine And.intro ?_ ?_; (focus (first | omega | decide | exact Int.natCast_nonneg _ | ((repeat' refine And.intro ?_ ?_) <;> first | omega | exact Int.natCast_nonneg _ | (simp only [i64max]; omega) | (simp only [u8max]; omega) | (simp only [i64max, u8max, u16max, u32max, u64max]; omega) | (simp [mulSz, Cont.len, bne]; done) | (simp [mulSz, Cont.len, bne]; omega)))); conv => whnf)
                | (refine tst_in ?_ ?_; (focus (intro h_; exfalso; first | omega | ((try simp only [decide_eq_true_eq, decide_eq_false_iff_not] at h_); omega) | (simp [mulSz, Cont.len, bne] at h_; done) | (simp [mulSz, Cont.len, bne] at h_; omega))); intro _; conv => whnf)
                | (refine tst_in ?_ ?_; rotate_left; (focus (intro h_; exfalso; first | omega | ((try simp only [decide_eq_true_eq, decide_eq_false_iff_not] at h_); omega) | (simp [mulSz, Cont.len, bne] at h_; done) | (simp [mulSz, Cont.len, bne] at h_; omega))); intro _; conv => whnf))
              rw [hby]
              conv => whnf
              repeat (first
                | (refine And.intro ?_ ?_; (focus (first | omega | decide | exact Int.natCast_nonneg _ | ((repeat' refine And.intro ?_ ?_) <;> first | omega | exact Int.natCast_nonneg _ | (simp only [i64max]; omega) | (simp only [u8max]; omega) | (simp only [i64max, u8max, u16max, u32max, u64max]; omega) | (simp [mulSz, Cont.len, bne]; done) | (simp [mulSz, Cont.len, bne]; omega)))); conv => whnf)
                | (refine tst_in ?_ ?_; (focus (intro h_; exfalso; first | omega | ((try simp only [decide_eq_true_eq, decide_eq_false_iff_not] at h_); omega) | (simp [mulSz, Cont.len, bne] at h_; done) | (simp [mulSz, Cont.len, bne] at h_; omega))); intro _; conv => whnf)
                | (refine tst_in ?_ ?_; rotate_left; (focus (intro h_; exfalso; first | omega | ((try simp only [decide_eq_true_eq, decide_eq_false_iff_not] at h_); omega) | (simp [mulSz, Cont.len, bne] at h_; done) | (simp [mulSz, Cont.len, bne] at h_; omega))); intro _; conv => whnf))
              rw [hby]
              conv => whnf
              repeat (first
                | (refine And.intro ?_ ?_; (focus (first | omega | decide | exact Int.natCast_nonneg _ | ((repeat' refine And.intro ?_ ?_) <;> first | omega | exact Int.natCast_nonneg _ | (simp only [i64max]; omega) | (simp only [u8max]; omega) | (simp only [i64max, u8max, u16max, u32max, u64max]; omega) | (simp [mulSz, Cont.len, bne]; done) | (simp [mulSz, Cont.len, bne]; omega)))); conv => whnf)
                | (refine tst_in ?_ ?_; (focus (intro h_; exfalso; first | omega | ((try simp only [decide_eq_true_eq, decide_eq_false_iff_not] at h_); omega) | (simp [mulSz, Cont.len, bne] at h_; done) | (simp [mulSz, Cont.len, bne] at h_; omega))); intro _; conv => whnf)
                | (refine tst_in ?_ ?_; rotate_left; (focus (intro h_; exfalso; first | omega | ((try simp only [decide_eq_true_eq, decide_eq_false_iff_not] at h_); omega) | (simp [mulSz, Cont.len, bne] at h_; done) | (simp [mulSz, Cont.len, bne] at h_; omega))); intro _; conv => whnf))
              refine .inl ⟨([] : List Bool), [5], ?_⟩
              conv => whnf
              repeat' (first | exact True.intro | rfl | refine And.intro ?_ ?_)
              all_goals (conv => whnf)
              repeat' (first | exact True.intro | rfl | refine And.intro ?_ ?_)
              all_goals (try (first | omega | exact True.intro | rfl | assumption | (change LE.le (α := Nat) _ _; first | omega | (simp only []; omega)) | (simp only []; done) | (simp only []; omega) | (simp; done) | (simp; omega)))
          · have h48 : (s.get! k).toNat ≠ 48 := fun h => h3 (.inl h)
            have h49 : (s.get! k).toNat ≠ 49 := fun h => h3 (.inr h)
            conv => whnf
            repeat (first
              | (refine And.intro ?_ ?_; (focus (first | omega | decide | exact Int.natCast_nonneg _ | ((repeat' refine And.intro ?_ ?_) <;> first | omega | exact Int.natCast_nonneg _ | (simp only [i64max]; omega) | (simp only [u8max]; omega) | (simp only [i64max, u8max, u16max, u32max, u64max]; omega) | (simp [mulSz, Cont.len, bne]; done) | (simp [mulSz, Cont.len, bne]; omega)))); conv => whnf)
              | (refine tst_in ?_ ?_; (focus (intro h_; exfalso; first | omega | ((try simp only [decide_eq_true_eq, decide_eq_false_iff_not] at h_); omega) | (simp [mulSz, Cont.len, bne] at h_; done) | (simp [mulSz, Cont.len, bne] at h_; omega))); intro _; conv => whnf)
              | (refine tst_in ?_ ?_; rotate_left; (focus (intro h_; exfalso; first | omega | ((try simp only [decide_eq_true_eq, decide_eq_false_iff_not] at h_); omega) | (simp [mulSz, Cont.len, bne] at h_; done) | (simp [mulSz, Cont.len, bne] at h_; omega))); intro _; conv => whnf))
            rw [hby]
            conv => whnf
            repeat (first
              | (refine And.intro ?_ ?_; (focus (first | omega | decide | exact Int.natCast_nonneg _ | ((repeat' refine And.intro ?_ ?_) <;> first | omega | exact Int.natCast_nonneg _ | (simp only [i64max]; omega) | (simp only [u8max]; omega) | (simp only [i64max, u8max, u16max, u32max, u64max]; omega) | (simp [mulSz, Cont.len, bne]; done) | (simp [mulSz, Cont.len, bne]; omega)))); conv => whnf)
              | (refine tst_in ?_ ?_; (focus (intro h_; exfalso; first | omega | ((try simp only [decide_eq_true_eq, decide_eq_false_iff_not] at h_); omega) | (simp [mulSz, Cont.len, bne] at h_; done) | (simp [mulSz, Cont.len, bne] at h_; omega))); intro _; conv => whnf)
              | (refine tst_in ?_ ?_; rotate_left; (focus (intro h_; exfalso; first | omega | ((try simp only [decide_eq_true_eq, decide_eq_false_iff_not] at h_); omega) | (simp [mulSz, Cont.len, bne] at h_; done) | (simp [mulSz, Cont.len, bne] at h_; omega))); intro _; conv => whnf))
            rw [hby]
            conv => whnf
            repeat (first
              | (refine And.intro ?_ ?_; (focus (first | omega | decide | exact Int.natCast_nonneg _ | ((repeat' refine And.intro ?_ ?_) <;> first | omega | exact Int.natCast_nonneg _ | (simp only [i64max]; omega) | (simp only [u8max]; omega) | (simp only [i64max, u8max, u16max, u32max, u64max]; omega) | (simp [mulSz, Cont.len, bne]; done) | (simp [mulSz, Cont.len, bne]; omega)))); conv => whnf)
              | (refine tst_in ?_ ?_; (focus (intro h_; exfalso; first | omega | ((try simp only [decide_eq_true_eq, decide_eq_false_iff_not] at h_); omega) | (simp [mulSz, Cont.len, bne] at h_; done) | (simp [mulSz, Cont.len, bne] at h_; omega))); intro _; conv => whnf)
              | (refine tst_in ?_ ?_; rotate_left; (focus (intro h_; exfalso; first | omega | ((try simp only [decide_eq_true_eq, decide_eq_false_iff_not] at h_); omega) | (simp [mulSz, Cont.len, bne] at h_; done) | (simp [mulSz, Cont.len, bne] at h_; omega))); intro _; conv => whnf))
            refine .inl ⟨([] : List Bool), [5], ?_⟩
            conv => whnf
            repeat' (first | exact True.intro | rfl | refine And.intro ?_ ?_)
            all_goals (conv => whnf)
            repeat' (first | exact True.intro | rfl | refine And.intro ?_ ?_)
            all_goals (try (first | omega | exact True.intro | rfl | assumption | (change LE.le (α := Nat) _ _; first | omega | (simp only []; omega)) | (simp only []; done) | (simp only []; omega) | (simp; done) | (simp; omega)))
    · skip
      have hge : s.size ≤ k := by simp at hge; omega
      rcases hhow with ⟨h1, rfl, rfl, rfl⟩ | ⟨h1, _⟩
      · have hkK : k = K := by omega
        subst hkK
        conv => whnf
        repeat (first
          | (refine And.intro ?_ ?_; (focus (first | omega | decide | exact Int.natCast_nonneg _ | ((repeat' refine And.intro ?_ ?_) <;> first | omega | exact Int.natCast_nonneg _ | (simp only [i64max]; omega) | (simp only [u8max]; omega) | (simp only [i64max, u8max, u16max, u32max, u64max]; omega) | (simp [mulSz, Cont.len, bne]; done) | (simp [mulSz, Cont.len, bne]; omega)))); conv => whnf)
          | (refine tst_in ?_ ?_; (focus (intro h_; exfalso; first | omega | ((try simp only [decide_eq_true_eq, decide_eq_false_iff_not] at h_); omega) | (simp [mulSz, Cont.len, bne] at h_; done) | (simp [mulSz, Cont.len, bne] at h_; omega))); intro _; conv => whnf)
          | (refine tst_in ?_ ?_; rotate_left; (focus (intro h_; exfalso; first | omega | ((try simp only [decide_eq_true_eq, decide_eq_false_iff_not] at h_); omega) | (simp [mulSz, Cont.len, bne] at h_; done) | (simp [mulSz, Cont.len, bne] at h_; omega))); intro _; conv => whnf))
        refine .inl ⟨t, [0], ?_⟩
        conv => whnf
        repeat' (first | exact True.intro | rfl | refine And.intro ?_ ?_)
        all_goals (conv => whnf)
        repeat' (first | exact True.intro | rfl | refine And.intro ?_ ?_)
        all_goals (try (first | omega | exact True.intro | rfl | assumption | (change LE.le (α := Nat) _ _; first | omega | (simp only [hlk]; omega)) | (simp only [hlk]; done) | (simp only [hlk]; omega) | (simp [hlk]; done) | (simp [hlk]; omega)))
      · exact absurd h1 (by omega)
theorem pParse (s : ByteArray) : ∃ X at' e, X.length ≤ 32768 ∧ at' ≤ 32768 ∧ e ≤ 4 ∧ Fits Try.prog 22 ⟨[.str s], [], [rowP X at' e]⟩ ∧ Fits Try.prog 26 ⟨[.str s], [], [rowP X at' e]⟩ := by
  obtain ⟨K, X, a, e, hS, hX⟩ := stop_ex s
  have h := hS.how
  have h2 := hS.le2
  exact ⟨X, a, e, hX, by rcases h with ⟨_, _, h, _⟩ | ⟨_, _, _, h, _⟩ <;> omega, by rcases h with ⟨_, _, _, h⟩ | ⟨_, _, _, _, h⟩ <;> omega, Parse_f s K X a e hS, rParse_f s K X a e hS⟩
end Go.Proofs.Ytkkianjpkipooaa

set_option linter.unusedVariables false
set_option linter.unusedSimpArgs false
namespace Go.Proofs.Ytkkianjpkipooaa
open Go Go.Fw
noncomputable def c5 : Code := (Try.f5.body).getD .skip
def textsSpec (s : ByteArray) (A : List Bool) (n ca : Nat) : FSpec := ⟨[.str s, .slice 0 0 n ca], [.seg false (.bools A)], [numOut [.dead] (.bool true)]⟩
theorem part_getD {A B : List Bool} {n : Nat} (h : part A 0 n = part B 0 n) (i : Nat) (hi : i < n) : A.getD i false = B.getD i false := by
  have h1 := part_get (A := A) (off := 0) hi
  have h2 := part_get (A := B) (off := 0) hi
  rw [Nat.zero_add] at h1 h2
  rw [← h1, ← h2, h]
theorem lent_part {A : List Bool} {n : Nat} (hA : n ≤ A.length) (t : List Bool) : part (lentRow A n t) 0 n = part A 0 n := by
  have hl : (A.take n).length = n := by simp; omega
  simp [part, lentRow, List.take_append, List.take_take, hl]
set_option maxHeartbeats 0 in
set_option maxRecDepth 100000 in
theorem texts_f (s : ByteArray) (A : List Bool) (n ca : Nat) (hA : n ≤ A.length) (hn : n ≤ 140737488351232) : Fits Try.prog 5 (textsSpec s A n ca) := by
  have LE := lent_f A n ca hA hn
  obtain ⟨X, a, e, x1, a1, e1, P1, P2⟩ := pParse s
  refine fits_of_body (C := cfgs 1) (c := c5) (ts := [4]) tok0 mixed0 (fun _ => none) (fun _ => none)
    Try.func5 (by kernel_rfl) (by kernel_rfl) (by kernel_rfl) (by kernel_rfl) rfl ?_
  conv => whnf
  repeat (first
    | (refine And.intro ?_ ?_; (focus (first | omega | decide | exact Int.natCast_nonneg _ | ((repeat' refine And.intro ?_ ?_) <;> first | omega | exact Int.natCast_nonneg _ | (simp only [i64max]; omega) | (simp only [u8max]; omega) | (simp only [i64max, u8max, u16max, u32max, u64max]; omega) | (simp [mulSz, Cont.len, bne]; done) | (simp [mulSz, Cont.len, bne]; omega)))); conv => whnf)
    | (refine tst_in ?_ ?_; (focus (intro h_; exfalso; first | omega | ((try simp only [decide_eq_true_eq, decide_eq_false_iff_not] at h_); omega) | (simp [mulSz, Cont.len, bne] at h_; done) | (simp [mulSz, Cont.len, bne] at h_; omega))); intro _; conv => whnf)
    | (refine tst_in ?_ ?_; rotate_left; (focus (intro h_; exfalso; first | omega | ((try simp only [decide_eq_true_eq, decide_eq_false_iff_not] at h_); omega) | (simp [mulSz, Cont.len, bne] at h_; done) | (simp [mulSz, Cont.len, bne] at h_; omega))); intro _; conv => whnf))
  refine ⟨_, [0], LE, ?_⟩
  conv => whnf
  refine ⟨?_, ?_, ?_⟩
  · conv => whnf
    repeat' (first | exact True.intro | rfl | refine And.intro ?_ ?_)
    all_goals (conv => whnf)
    repeat' (first | exact True.intro | rfl | refine And.intro ?_ ?_)
    all_goals (try (first | rfl | omega | (simp; done) | (simp; omega)))
  · conv => whnf
    repeat' (first | exact True.intro | rfl | refine And.intro ?_ ?_)
    all_goals (conv => whnf)
    repeat' (first | exact True.intro | rfl | refine And.intro ?_ ?_)
    all_goals (try (first | rfl | omega | (simp; done) | (simp; omega)))
  conv => whnf
  refine ⟨?_, True.intro⟩
  rintro (t : List Bool) -
  conv => whnf
  conv => whnf
  repeat (first
    | (refine And.intro ?_ ?_; (focus (first | omega | decide | exact Int.natCast_nonneg _ | ((repeat' refine And.intro ?_ ?_) <;> first | omega | exact Int.natCast_nonneg _ | (simp only [i64max]; omega) | (simp only [u8max]; omega) | (simp only [i64max, u8max, u16max, u32max, u64max]; omega) | (simp [mulSz, Cont.len, bne]; done) | (simp [mulSz, Cont.len, bne]; omega)))); conv => whnf)
    | (refine tst_in ?_ ?_; (focus (intro h_; exfalso; first | omega | ((try simp only [decide_eq_true_eq, decide_eq_false_iff_not] at h_); omega) | (simp [mulSz, Cont.len, bne] at h_; done) | (simp [mulSz, Cont.len, bne] at h_; omega))); intro _; conv => whnf)
    | (refine tst_in ?_ ?_; rotate_left; (focus (intro h_; exfalso; first | omega | ((try simp only [decide_eq_true_eq, decide_eq_false_iff_not] at h_); omega) | (simp [mulSz, Cont.len, bne] at h_; done) | (simp [mulSz, Cont.len, bne] at h_; omega))); intro _; conv => whnf))
  refine ⟨_, [], P1, ?_⟩
  conv => whnf
  refine ⟨?_, ?_, ?_⟩
  · conv => whnf
    repeat' (first | exact True.intro | rfl | refine And.intro ?_ ?_)
    all_goals (conv => whnf)
    repeat' (first | exact True.intro | rfl | refine And.intro ?_ ?_)
    all_goals (try (first | rfl | omega | (simp; done) | (simp; omega)))
  · conv => whnf
    repeat' (first | exact True.intro | rfl | refine And.intro ?_ ?_)
    all_goals (conv => whnf)
    repeat' (first | exact True.intro | rfl | refine And.intro ?_ ?_)
    all_goals (try (first | rfl | omega | (simp; done) | (simp; omega)))
  conv => whnf
  refine ⟨?_, True.intro⟩
  rintro (t1 : List Bool) -
  conv => whnf
  conv => whnf
  repeat (first
    | (refine And.intro ?_ ?_; (focus (first | omega | decide | exact Int.natCast_nonneg _ | ((repeat' refine And.intro ?_ ?_) <;> first | omega | exact Int.natCast_nonneg _ | (simp only [i64max]; omega) | (simp only [u8max]; omega) | (simp only [i64max, u8max, u16max, u32max, u64max]; omega) | (simp [mulSz, Cont.len, bne]; done) | (simp [mulSz, Cont.len, bne]; omega)))); conv => whnf)
    | (refine tst_in ?_ ?_; (focus (intro h_; exfalso; first | omega | ((try simp only [decide_eq_true_eq, decide_eq_false_iff_not] at h_); omega) | (simp [mulSz, Cont.len, bne] at h_; done) | (simp [mulSz, Cont.len, bne] at h_; omega))); intro _; conv => whnf)
    | (refine tst_in ?_ ?_; rotate_left; (focus (intro h_; exfalso; first | omega | ((try simp only [decide_eq_true_eq, decide_eq_false_iff_not] at h_); omega) | (simp [mulSz, Cont.len, bne] at h_; done) | (simp [mulSz, Cont.len, bne] at h_; omega))); intro _; conv => whnf))
  refine ⟨_, [], P2, ?_⟩
  conv => whnf
  refine ⟨?_, ?_, ?_⟩
  · conv => whnf
    repeat' (first | exact True.intro | rfl | refine And.intro ?_ ?_)
    all_goals (conv => whnf)
    repeat' (first | exact True.intro | rfl | refine And.intro ?_ ?_)
    all_goals (try (first | rfl | omega | (simp; done) | (simp; omega)))
  · conv => whnf
    repeat' (first | exact True.intro | rfl | refine And.intro ?_ ?_)
    all_goals (conv => whnf)
    repeat' (first | exact True.intro | rfl | refine And.intro ?_ ?_)
    all_goals (try (first | rfl | omega | (simp; done) | (simp; omega)))
  conv => whnf
  refine ⟨?_, True.intro⟩
  rintro (t2 : List Bool) -
  conv => whnf
  conv => whnf
  repeat (first
    | (refine And.intro ?_ ?_; (focus (first | omega | decide | exact Int.natCast_nonneg _ | ((repeat' refine And.intro ?_ ?_) <;> first | omega | exact Int.natCast_nonneg _ | (simp only [i64max]; omega) | (simp only [u8max]; omega) | (simp only [i64max, u8max, u16max, u32max, u64max]; omega) | (simp [mulSz, Cont.len, bne]; done) | (simp [mulSz, Cont.len, bne]; omega)))); conv => whnf)
    | (refine tst_in ?_ ?_; (focus (intro h_; exfalso; first | omega | ((try simp only [decide_eq_true_eq, decide_eq_false_iff_not] at h_); omega) | (simp [mulSz, Cont.len, bne] at h_; done) | (simp [mulSz, Cont.len, bne] at h_; omega))); intro _; conv => whnf)
    | (refine tst_in ?_ ?_; rotate_left; (focus (intro h_; exfalso; first | omega | ((try simp only [decide_eq_true_eq, decide_eq_false_iff_not] at h_); omega) | (simp [mulSz, Cont.len, bne] at h_; done) | (simp [mulSz, Cont.len, bne] at h_; omega))); intro _; conv => whnf))
  have hLl : (lentRow A n t).length = n + 4 + t.length := by simp [lentRow]; omega
  have hpt := lent_part hA t
  have T1 := Text_f (lentRow A n t) n (n + 4 + t.length) (by omega) (by omega)
  have T2 := rText_f A n ca hA (by omega)
  have hx : txs (lentRow A n t) n = txs A n := by unfold txs; rw [tx_eq n (part_getD hpt)]
  rw [hx] at T1
  have UH := unhurt_q (lentRow A n t) A n (n + 4 + t.length) ca (lent_marks hA t) (by omega) hA (by omega) hpt
  have S1 := Same_self t1 t2 x1
  refine ⟨_, [1], T1, ?_⟩
  conv => whnf
  refine ⟨?_, ?_, ?_⟩
  · conv => whnf
    repeat' (first | exact True.intro | rfl | refine And.intro ?_ ?_ | omega)
    all_goals (conv => whnf)
    all_goals (try (first | rfl | omega | (simp; done)))
  · conv => whnf
    repeat' (first | exact True.intro | rfl | refine And.intro ?_ ?_ | omega)
    all_goals (conv => whnf)
    all_goals (try (first | rfl | omega | (simp; done)))
  conv => whnf
  refine ⟨?_, True.intro⟩
  intro _ _
  conv => whnf
  conv => whnf
  repeat (first
    | (refine And.intro ?_ ?_; (focus (first | omega | decide | exact Int.natCast_nonneg _ | ((repeat' refine And.intro ?_ ?_) <;> first | omega | exact Int.natCast_nonneg _ | (simp only [i64max]; omega) | (simp only [u8max]; omega) | (simp only [i64max, u8max, u16max, u32max, u64max]; omega) | (simp [mulSz, Cont.len, bne]; done) | (simp [mulSz, Cont.len, bne]; omega)))); conv => whnf)
    | (refine tst_in ?_ ?_; (focus (intro h_; exfalso; first | omega | ((try simp only [decide_eq_true_eq, decide_eq_false_iff_not] at h_); omega) | (simp [mulSz, Cont.len, bne] at h_; done) | (simp [mulSz, Cont.len, bne] at h_; omega))); intro _; conv => whnf)
    | (refine tst_in ?_ ?_; rotate_left; (focus (intro h_; exfalso; first | omega | ((try simp only [decide_eq_true_eq, decide_eq_false_iff_not] at h_); omega) | (simp [mulSz, Cont.len, bne] at h_; done) | (simp [mulSz, Cont.len, bne] at h_; omega))); intro _; conv => whnf))
  refine ⟨_, [0], T2, ?_⟩
  conv => whnf
  refine ⟨?_, ?_, ?_⟩
  · conv => whnf
    repeat' (first | exact True.intro | rfl | refine And.intro ?_ ?_ | omega)
    all_goals (conv => whnf)
    all_goals (try (first | rfl | omega | (simp; done)))
  · conv => whnf
    repeat' (first | exact True.intro | rfl | refine And.intro ?_ ?_ | omega)
    all_goals (conv => whnf)
    all_goals (try (first | rfl | omega | (simp; done)))
  conv => whnf
  refine ⟨?_, True.intro⟩
  intro _ _
  conv => whnf
  conv => whnf
  repeat (first
    | (refine And.intro ?_ ?_; (focus (first | omega | decide | exact Int.natCast_nonneg _ | ((repeat' refine And.intro ?_ ?_) <;> first | omega | exact Int.natCast_nonneg _ | (simp only [i64max]; omega) | (simp only [u8max]; omega) | (simp only [i64max, u8max, u16max, u32max, u64max]; omega) | (simp [mulSz, Cont.len, bne]; done) | (simp [mulSz, Cont.len, bne]; omega)))); conv => whnf)
    | (refine tst_in ?_ ?_; (focus (intro h_; exfalso; first | omega | ((try simp only [decide_eq_true_eq, decide_eq_false_iff_not] at h_); omega) | (simp [mulSz, Cont.len, bne] at h_; done) | (simp [mulSz, Cont.len, bne] at h_; omega))); intro _; conv => whnf)
    | (refine tst_in ?_ ?_; rotate_left; (focus (intro h_; exfalso; first | omega | ((try simp only [decide_eq_true_eq, decide_eq_false_iff_not] at h_); omega) | (simp [mulSz, Cont.len, bne] at h_; done) | (simp [mulSz, Cont.len, bne] at h_; omega))); intro _; conv => whnf))
  refine ⟨_, [1, 0], UH, ?_⟩
  conv => whnf
  refine ⟨?_, ?_, ?_⟩
  · conv => whnf
    repeat' (first | exact True.intro | rfl | refine And.intro ?_ ?_)
    all_goals (conv => whnf)
    repeat' (first | exact True.intro | rfl | refine And.intro ?_ ?_)
    all_goals (try (first | rfl | omega | (simp; done) | (simp; omega)))
  · conv => whnf
    repeat' (first | exact True.intro | rfl | refine And.intro ?_ ?_)
    all_goals (conv => whnf)
    repeat' (first | exact True.intro | rfl | refine And.intro ?_ ?_)
    all_goals (try (first | rfl | omega | (simp; done) | (simp; omega)))
  conv => whnf
  conv => whnf
  repeat (first
    | (refine And.intro ?_ ?_; (focus (first | omega | decide | exact Int.natCast_nonneg _ | ((repeat' refine And.intro ?_ ?_) <;> first | omega | exact Int.natCast_nonneg _ | (simp only [i64max]; omega) | (simp only [u8max]; omega) | (simp only [i64max, u8max, u16max, u32max, u64max]; omega) | (simp [mulSz, Cont.len, bne]; done) | (simp [mulSz, Cont.len, bne]; omega)))); conv => whnf)
    | (refine tst_in ?_ ?_; (focus (intro h_; exfalso; first | omega | ((try simp only [decide_eq_true_eq, decide_eq_false_iff_not] at h_); omega) | (simp [mulSz, Cont.len, bne] at h_; done) | (simp [mulSz, Cont.len, bne] at h_; omega))); intro _; conv => whnf)
    | (refine tst_in ?_ ?_; rotate_left; (focus (intro h_; exfalso; first | omega | ((try simp only [decide_eq_true_eq, decide_eq_false_iff_not] at h_); omega) | (simp [mulSz, Cont.len, bne] at h_; done) | (simp [mulSz, Cont.len, bne] at h_; omega))); intro _; conv => whnf))
  refine ⟨_, [2, 3], S1, ?_⟩
  conv => whnf
  refine ⟨?_, ?_, ?_⟩
  · conv => whnf
    repeat' (first | exact True.intro | rfl | refine And.intro ?_ ?_)
    all_goals (conv => whnf)
    repeat' (first | exact True.intro | rfl | refine And.intro ?_ ?_)
    all_goals (try (first | rfl | omega | (simp; done) | (simp; omega)))
  · conv => whnf
    repeat' (first | exact True.intro | rfl | refine And.intro ?_ ?_)
    all_goals (conv => whnf)
    repeat' (first | exact True.intro | rfl | refine And.intro ?_ ?_)
    all_goals (try (first | rfl | omega | (simp; done) | (simp; omega)))
  conv => whnf
  conv => whnf
  repeat (first
    | (refine And.intro ?_ ?_; (focus (first | omega | decide | exact Int.natCast_nonneg _ | ((repeat' refine And.intro ?_ ?_) <;> first | omega | exact Int.natCast_nonneg _ | (simp only [i64max]; omega) | (simp only [u8max]; omega) | (simp only [i64max, u8max, u16max, u32max, u64max]; omega) | (simp [mulSz, Cont.len, bne]; done) | (simp [mulSz, Cont.len, bne]; omega)))); conv => whnf)
    | (refine tst_in ?_ ?_; (focus (intro h_; exfalso; first | omega | ((try simp only [decide_eq_true_eq, decide_eq_false_iff_not] at h_); omega) | (simp [mulSz, Cont.len, bne] at h_; done) | (simp [mulSz, Cont.len, bne] at h_; omega))); intro _; conv => whnf)
    | (refine tst_in ?_ ?_; rotate_left; (focus (intro h_; exfalso; first | omega | ((try simp only [decide_eq_true_eq, decide_eq_false_iff_not] at h_); omega) | (simp [mulSz, Cont.len, bne] at h_; done) | (simp [mulSz, Cont.len, bne] at h_; omega))); intro _; conv => whnf))
  refine .inl ⟨(), [0], ?_⟩
  conv => whnf
  repeat' (first | exact True.intro | rfl | refine And.intro ?_ ?_)
  all_goals (conv => whnf)
  repeat' (first | exact True.intro | rfl | refine And.intro ?_ ?_)
  all_goals (try (first | omega | exact True.intro | rfl | assumption | (change LE.le (α := Nat) _ _; first | omega | (simp only []; omega)) | (simp only []; done) | (simp only []; omega) | (simp; done) | (simp; omega)))
end Go.Proofs.Ytkkianjpkipooaa

namespace Go.Proofs.Ytkkianjpkipooaa
open Go Go.Fw
namespace bitsTexts
open Go.ChangeShapes Go.WideShapes Go.ChangeAt Go.RowKit
theorem own : ownKnob Try.prog.godebug = none := by kernel_rfl
theorem laid : laidOutB Try.prog = true := by kernel_rfl

set_option maxRecDepth 100000 in
theorem lifted (os : Os) (started : os.Started) (H : Type) (enc : TypeId × Value → H) :
    ReturnsInHanded {} Try.checked os 5 .any (Rows.bitsTextsSpec.pre6 enc Try.prog Try.f5 Rows.bitsTextsRow.domain false) (Rows.bitsTextsSpec.post enc Try.prog Try.f5 false true false false) := by
  refine returnsInHanded_of_change_sized (C := Try.checked) own started (by kernel_rfl) Try.func5
    (ChangeSpec.witness6 (enc := enc) (C := Try.checked) false ⟨#[], #[.string .empty, .slice none 0 0], []⟩ 8 (by kernel_rfl) (by kernel_rfl) (by kernel_rfl) (by kernel_rfl)) ?_
  intro W base args ds gs before hval0 hW _ hsz0 _
  have hsz : (DataW.weightsEach Try.prog (Try.f5.params.toList ++ Rows.bitsTextsSpec.plain.varTypes Try.prog) (ds ++ gs)).all (· ≤ reachBytes) = true := hsz0
  clear hsz0
  have hval : ∀ (j : Nat) t v, Try.f5.params[j]? = some t → args[j]? = some v → Value.okWide Try.prog W .any base t v := hval0
  have hW' := hW
  obtain ⟨p, q, hA0, hV, rfl, hfz, hnd⟩ := hW
  have hA : DataW.TrodAll enc Try.prog W 0 (fun _ => true) true Try.f5.params.toList args.toList ds p := hA0
  rw [Try.params5] at hA hval hsz
  obtain ⟨v0, vs0, d0, ds0, p0, q0, hargs, rfl, rfl, h0, r0⟩ := trodAll_cons hA
  obtain ⟨v1, vs1, d1, ds1, p1, q1, rfl, rfl, rfl, h1, r1⟩ := trodAll_cons r0
  obtain ⟨rfl, rfl, rfl⟩ := trodAll_nil r1
  obtain rfl : args = #[v0, v1] := by cases args; simp_all
  obtain ⟨rfl, rfl⟩ := trodVars_none hV
  obtain ⟨k0, rfl, rfl, rfl, w0⟩ := Go.ChangeMaps.open_string Try.underlying9 (hval 0 9 v0 rfl rfl) h0
  obtain ⟨a1, l1, z1, hv1⟩ := okWide_slice Try.underlying22 (hval 1 22 v1 rfl rfl)
  obtain ⟨n1, c1, A1, pl1, hn1, hl1, hs1, hc1⟩ := arg_bools Try.underlying22 Try.underlying4 (by kernel_rfl) hv1 h1
  have by1 : Try.prog.bytesOf 4 = 1 := by kernel_rfl
  have hN1 : n1 * 1 ≤ 140737488351232 := by
    rcases hs1 with ⟨h, _⟩ | ⟨xs, ys, rfl, hx, hy⟩
    · omega
    · have := sized_slice hsz (j := 1) (t := 22) (e := 4) rfl rfl Try.underlying22
      rw [by1] at this
      simp only [reachBytes] at this
      omega
  clear hA0 hval0
  obtain ⟨dd1, cc1⟩ := hc1 [pl1] 0 (by simp) rfl
  have walk := (texts_f k0 A1 n1 c1 (by omega) (by omega)).calls W [pl1] [.string k0, v1] (heap_args rfl fun i s hs => by
      match i, hs with
      | 0, hs => simp only [textsSpec, List.getElem?_cons_zero, Option.some.injEq] at hs; subst hs; exact ⟨_, rfl, cc1⟩
      | i + 1, hs => simp [textsSpec] at hs) (by simp only [textsSpec, Dens]; exact ⟨_, _, rfl, by simp [Den], ⟨_, _, rfl, dd1, rfl⟩⟩) (x := .bool true) (v := .bool true) rfl (by
      intro o ho y hy
      simp [textsSpec] at ho
      subst ho; rfl)
  refine walk.mono fun e W' ⟨he, hg⟩ => ?_
  subst he
  exact ⟨_, rfl, law_done laid rfl rfl Try.underlying4 (by kernel_rfl) hW' rfl hg⟩

theorem over : Rows.bitsTextsRow.holds Try.pinned (OpenSpec.ofChange Rows.bitsTextsSpec) :=
  OpenClaim.holds_of_wide 5 Try.f5 rfl rfl rfl rfl rfl rfl rfl ⟨rfl, rfl, rfl, rfl, rfl⟩ rfl rfl rfl rfl rfl (by kernel_rfl) Try.func5 (by kernel_rfl)
    (of_decide_eq_true (by kernel_rfl)) (by unfold Func.isWrapper; first | (rw [if_pos (by decide +kernel)]; kernel_rfl) | (rw [if_neg (by decide +kernel)]; exact ⟨rfl, rfl⟩))
    (fun os started H enc _ => lifted os started H enc)

theorem proved : Rows.BitsTextsSaid := over
end bitsTexts
end Go.Proofs.Ytkkianjpkipooaa
