/-
  TempoSlips, whole: how far one row has slipped against another one, and the slide of it, for any two rows, any numbers. No condition.
-/
import Derived.Test.YthhbcgnpbfmonaaRows
import Derived.Test.YthhbcgnpbfmonaaFv
import Derived.Test.YthhbcgnpbfmonaaTwTempoSlips
import Derived.Test.YthhbcgnpbfmonaaFa
import Derived.WalkKit
import Derived.ProofKit
import Derived.OpenShut
import Derived.SizedLaws
import Derived.ChangeMaps5
set_option linter.unusedSimpArgs false
set_option linter.unusedVariables false
set_option linter.unusedVariables false
set_option linter.unusedSimpArgs false
namespace Go.Proofs.Ythhbcgnpbfmonaa
open Go Go.Fw
def tyL : List (Nat × TyI) := [
  (1, ⟨.func, 1, 8, .nilFunc⟩),
  (2, ⟨.int .i64, 1, 8, .int .i64 0⟩),
  (3, ⟨.int .i64, 1, 8, .int .i64 0⟩),
  (4, ⟨.bool, 1, 1, .bool false⟩),
  (5, ⟨.int .u8, 1, 1, .int .u8 0⟩),
  (9, ⟨.str, 1, 16, .string (ByteArray.mk #[])⟩),
  (12, ⟨.int .u64, 1, 8, .int .u64 0⟩),
  (21, ⟨.int .i32, 1, 4, .int .i32 0⟩),
  (22, ⟨.struct [(0, 3), (1, 3), (2, 3)], 3, 24, .agg #[.int .i64 0, .int .i64 0, .int .i64 0]⟩),
  (23, ⟨.struct [(0, 3), (1, 3), (2, 3)], 3, 24, .agg #[.int .i64 0, .int .i64 0, .int .i64 0]⟩),
  (24, ⟨.slice 53, 1, 24, .slice none 0 0⟩),
  (25, ⟨.struct [(0, 3), (1, 3), (2, 3)], 3, 24, .agg #[.int .i64 0, .int .i64 0, .int .i64 0]⟩),
  (26, ⟨.int .i64, 1, 8, .int .i64 0⟩),
  (28, ⟨.func, 1, 8, .nilFunc⟩),
  (29, ⟨.func, 1, 8, .nilFunc⟩),
  (30, ⟨.slice 38, 1, 24, .slice none 0 0⟩),
  (31, ⟨.func, 1, 8, .nilFunc⟩),
  (32, ⟨.func, 1, 8, .nilFunc⟩),
  (33, ⟨.func, 1, 8, .nilFunc⟩),
  (34, ⟨.func, 1, 8, .nilFunc⟩),
  (35, ⟨.cpx .f64, 1, 16, .complex .f64 0 0⟩),
  (36, ⟨.float .f64, 1, 8, .float .f64 0⟩),
  (37, ⟨.struct [(0, 35), (1, 4)], 2, 24, .agg #[.complex .f64 0 0, .bool false]⟩),
  (38, ⟨.struct [(0, 35), (1, 4)], 2, 24, .agg #[.complex .f64 0 0, .bool false]⟩),
  (39, ⟨.func, 1, 8, .nilFunc⟩),
  (40, ⟨.func, 1, 8, .nilFunc⟩),
  (41, ⟨.struct [(0, 3), (1, 3), (2, 3)], 3, 24, .agg #[.int .i64 0, .int .i64 0, .int .i64 0]⟩),
  (42, ⟨.struct [(0, 3), (1, 3), (2, 3)], 3, 24, .agg #[.int .i64 0, .int .i64 0, .int .i64 0]⟩),
  (44, ⟨.func, 1, 8, .nilFunc⟩),
  (46, ⟨.func, 1, 8, .nilFunc⟩),
  (47, ⟨.func, 1, 8, .nilFunc⟩),
  (48, ⟨.func, 1, 8, .nilFunc⟩),
  (49, ⟨.func, 1, 8, .nilFunc⟩),
  (50, ⟨.func, 1, 8, .nilFunc⟩),
  (51, ⟨.func, 1, 8, .nilFunc⟩),
  (52, ⟨.struct [(0, 36), (1, 36), (2, 4)], 3, 24, .agg #[.float .f64 0, .float .f64 0, .bool false]⟩),
  (53, ⟨.struct [(0, 36), (1, 36), (2, 4)], 3, 24, .agg #[.float .f64 0, .float .f64 0, .bool false]⟩),
  (54, ⟨.func, 1, 8, .nilFunc⟩),
  (55, ⟨.func, 1, 8, .nilFunc⟩),
  (56, ⟨.func, 1, 8, .nilFunc⟩),
  (57, ⟨.slice 3, 1, 24, .slice none 0 0⟩),
  (58, ⟨.func, 1, 8, .nilFunc⟩),
  (59, ⟨.func, 1, 8, .nilFunc⟩),
  (60, ⟨.func, 1, 8, .nilFunc⟩),
  (61, ⟨.func, 1, 8, .nilFunc⟩),
  (62, ⟨.int .u64, 1, 8, .int .u64 0⟩),
  (63, ⟨.func, 1, 8, .nilFunc⟩),
  (64, ⟨.func, 1, 8, .nilFunc⟩),
  (70, ⟨.func, 1, 8, .nilFunc⟩),
  (71, ⟨.int .u32, 1, 4, .int .u32 0⟩),
  (74, ⟨.func, 1, 8, .nilFunc⟩),
  (75, ⟨.ptr 5, 1, 8, .pointer none⟩)]
theorem tokL : TOk Try.prog tyL := tokl_of ⟨⟨by kernel_rfl, by kernel_rfl⟩, ⟨by kernel_rfl, by kernel_rfl⟩, ⟨by kernel_rfl, by kernel_rfl⟩, ⟨by kernel_rfl, by kernel_rfl⟩, ⟨by kernel_rfl, by kernel_rfl⟩, ⟨by kernel_rfl, by kernel_rfl⟩, ⟨by kernel_rfl, by kernel_rfl⟩, ⟨by kernel_rfl, by kernel_rfl⟩, ⟨by kernel_rfl, by kernel_rfl⟩, ⟨by kernel_rfl, by kernel_rfl⟩, ⟨by kernel_rfl, by kernel_rfl⟩, ⟨by kernel_rfl, by kernel_rfl⟩, ⟨by kernel_rfl, by kernel_rfl⟩, ⟨by kernel_rfl, by kernel_rfl⟩, ⟨by kernel_rfl, by kernel_rfl⟩, ⟨by kernel_rfl, by kernel_rfl⟩, ⟨by kernel_rfl, by kernel_rfl⟩, ⟨by kernel_rfl, by kernel_rfl⟩, ⟨by kernel_rfl, by kernel_rfl⟩, ⟨by kernel_rfl, by kernel_rfl⟩, ⟨by kernel_rfl, by kernel_rfl⟩, ⟨by kernel_rfl, by kernel_rfl⟩, ⟨by kernel_rfl, by kernel_rfl⟩, ⟨by kernel_rfl, by kernel_rfl⟩, ⟨by kernel_rfl, by kernel_rfl⟩, ⟨by kernel_rfl, by kernel_rfl⟩, ⟨by kernel_rfl, by kernel_rfl⟩, ⟨by kernel_rfl, by kernel_rfl⟩, ⟨by kernel_rfl, by kernel_rfl⟩, ⟨by kernel_rfl, by kernel_rfl⟩, ⟨by kernel_rfl, by kernel_rfl⟩, ⟨by kernel_rfl, by kernel_rfl⟩, ⟨by kernel_rfl, by kernel_rfl⟩, ⟨by kernel_rfl, by kernel_rfl⟩, ⟨by kernel_rfl, by kernel_rfl⟩, ⟨by kernel_rfl, by kernel_rfl⟩, ⟨by kernel_rfl, by kernel_rfl⟩, ⟨by kernel_rfl, by kernel_rfl⟩, ⟨by kernel_rfl, by kernel_rfl⟩, ⟨by kernel_rfl, by kernel_rfl⟩, ⟨by kernel_rfl, by kernel_rfl⟩, ⟨by kernel_rfl, by kernel_rfl⟩, ⟨by kernel_rfl, by kernel_rfl⟩, ⟨by kernel_rfl, by kernel_rfl⟩, ⟨by kernel_rfl, by kernel_rfl⟩, ⟨by kernel_rfl, by kernel_rfl⟩, ⟨by kernel_rfl, by kernel_rfl⟩, ⟨by kernel_rfl, by kernel_rfl⟩, ⟨by kernel_rfl, by kernel_rfl⟩, ⟨by kernel_rfl, by kernel_rfl⟩, ⟨by kernel_rfl, by kernel_rfl⟩, ⟨by kernel_rfl, by kernel_rfl⟩, True.intro⟩
theorem mixedL : Try.prog.follows .mixedOrders = true := by kernel_rfl
theorem i64max : IntKind.i64.max = 9223372036854775807 := rfl
theorem u8max : IntKind.u8.max = 255 := rfl
theorem u16max : IntKind.u16.max = 65535 := rfl
theorem u32max : IntKind.u32.max = 4294967295 := rfl
theorem u64max : IntKind.u64.max = 18446744073709551615 := rfl
def numOut (D : List Seg) (x : AV) : FOut := ⟨Unit, fun _ => True, fun _ => x, fun _ => D⟩
def qf : Nat → Bool := fun f => match f with | 20 => true | 28 => true | 30 => true | 31 => true | _ => false
def cfgs (k : Nat) : Cfg := { T := tyL, sgn := fun _ => false, wr := fun _ => false, k := k, q := qf }
end Go.Proofs.Ythhbcgnpbfmonaa

set_option linter.unusedVariables false
set_option linter.unusedSimpArgs false
namespace Go.Proofs.Ythhbcgnpbfmonaa
open Go Go.Fw
def rowS (o : Bool) (A : List (Nat × Nat)) (B : List Bool) : Seg := .seg o (.cols [.cpxs .f64 A, .bools B])
noncomputable def c30 : Code := (Try.f30.body).getD .skip
set_option maxHeartbeats 0 in
set_option maxRecDepth 100000 in
theorem part_q (x : Nat) : QFits Try.prog 30 ⟨[.flt .f64 x, .flt .f64 x, .bool false], [], .bool true⟩ := by
  refine qfits_of_body (C := cfgs 0) (c := c30) (ts := [6]) tokL mixedL (fun _ => none) (fun _ => none)
    Try.func30 (by kernel_rfl) (by kernel_rfl) (by kernel_rfl) (by kernel_rfl) (by kernel_rfl) rfl rfl ?_
  conv => whnf
  refine tst_in (fun h => ?_) (fun h' => ?_)
  · skip
    conv => whnf
    repeat (first
      | (refine And.intro ?_ ?_; (focus (first | omega | decide | exact Int.natCast_nonneg _ | ((repeat' refine And.intro ?_ ?_) <;> first | omega | exact Int.natCast_nonneg _ | (simp only [i64max, u8max, u16max, u32max, u64max]; omega) | (simp only [mulSz_eq, Cont.len, colsLen, Col.len, List.length_cons, List.length_nil, List.length_replicate, List.length_append]; first | done | omega) | (simp [mulSz, Cont.len, bne]; first | done | omega)))); conv => whnf)
      | (refine tst_in ?_ ?_; (focus (intro h_; exfalso; first | omega | ((try simp only [decide_eq_true_eq, decide_eq_false_iff_not] at h_); omega) | (simp [mulSz, Cont.len, bne] at h_; first | done | omega))); intro _; conv => whnf)
      | (refine tst_in ?_ ?_; rotate_left; (focus (intro h_; exfalso; first | omega | ((try simp only [decide_eq_true_eq, decide_eq_false_iff_not] at h_); omega) | (simp [mulSz, Cont.len, bne] at h_; first | done | omega))); intro _; conv => whnf)
      | (refine ⟨0, (show _ = _ by omega), ?_⟩; conv => whnf))
    rw [h]
    conv => whnf
    repeat (first
      | (refine And.intro ?_ ?_; (focus (first | omega | decide | exact Int.natCast_nonneg _ | ((repeat' refine And.intro ?_ ?_) <;> first | omega | exact Int.natCast_nonneg _ | (simp only [i64max, u8max, u16max, u32max, u64max]; omega) | (simp only [mulSz_eq, Cont.len, colsLen, Col.len, List.length_cons, List.length_nil, List.length_replicate, List.length_append]; first | done | omega) | (simp [mulSz, Cont.len, bne]; first | done | omega)))); conv => whnf)
      | (refine tst_in ?_ ?_; (focus (intro h_; exfalso; first | omega | ((try simp only [decide_eq_true_eq, decide_eq_false_iff_not] at h_); omega) | (simp [mulSz, Cont.len, bne] at h_; first | done | omega))); intro _; conv => whnf)
      | (refine tst_in ?_ ?_; rotate_left; (focus (intro h_; exfalso; first | omega | ((try simp only [decide_eq_true_eq, decide_eq_false_iff_not] at h_); omega) | (simp [mulSz, Cont.len, bne] at h_; first | done | omega))); intro _; conv => whnf)
      | (refine ⟨0, (show _ = _ by omega), ?_⟩; conv => whnf))
    exact h.symm
  · skip
    have h2 : (FloatKind.f64.format.order x x == some Ordering.eq) = true := by
      have h' : (!(FloatKind.f64.format.order x x == some Ordering.eq)) = false := h'
      cases hh : (FloatKind.f64.format.order x x == some Ordering.eq)
      · rw [hh] at h'; cases h'
      · rfl
    conv => whnf
    repeat (first
      | (refine And.intro ?_ ?_; (focus (first | omega | decide | exact Int.natCast_nonneg _ | ((repeat' refine And.intro ?_ ?_) <;> first | omega | exact Int.natCast_nonneg _ | (simp only [i64max, u8max, u16max, u32max, u64max]; omega) | (simp only [mulSz_eq, Cont.len, colsLen, Col.len, List.length_cons, List.length_nil, List.length_replicate, List.length_append]; first | done | omega) | (simp [mulSz, Cont.len, bne]; first | done | omega)))); conv => whnf)
      | (refine tst_in ?_ ?_; (focus (intro h_; exfalso; first | omega | ((try simp only [decide_eq_true_eq, decide_eq_false_iff_not] at h_); omega) | (simp [mulSz, Cont.len, bne] at h_; first | done | omega))); intro _; conv => whnf)
      | (refine tst_in ?_ ?_; rotate_left; (focus (intro h_; exfalso; first | omega | ((try simp only [decide_eq_true_eq, decide_eq_false_iff_not] at h_); omega) | (simp [mulSz, Cont.len, bne] at h_; first | done | omega))); intro _; conv => whnf)
      | (refine ⟨0, (show _ = _ by omega), ?_⟩; conv => whnf))
    rw [h']
    conv => whnf
    repeat (first
      | (refine And.intro ?_ ?_; (focus (first | omega | decide | exact Int.natCast_nonneg _ | ((repeat' refine And.intro ?_ ?_) <;> first | omega | exact Int.natCast_nonneg _ | (simp only [i64max, u8max, u16max, u32max, u64max]; omega) | (simp only [mulSz_eq, Cont.len, colsLen, Col.len, List.length_cons, List.length_nil, List.length_replicate, List.length_append]; first | done | omega) | (simp [mulSz, Cont.len, bne]; first | done | omega)))); conv => whnf)
      | (refine tst_in ?_ ?_; (focus (intro h_; exfalso; first | omega | ((try simp only [decide_eq_true_eq, decide_eq_false_iff_not] at h_); omega) | (simp [mulSz, Cont.len, bne] at h_; first | done | omega))); intro _; conv => whnf)
      | (refine tst_in ?_ ?_; rotate_left; (focus (intro h_; exfalso; first | omega | ((try simp only [decide_eq_true_eq, decide_eq_false_iff_not] at h_); omega) | (simp [mulSz, Cont.len, bne] at h_; first | done | omega))); intro _; conv => whnf)
      | (refine ⟨0, (show _ = _ by omega), ?_⟩; conv => whnf))
    rw [h2]
    conv => whnf
    try rfl
noncomputable def c28 : Code := (Try.f28.body).getD .skip
set_option maxHeartbeats 0 in
set_option maxRecDepth 100000 in
theorem same_q (p : Nat × Nat) : QFits Try.prog 28 ⟨[.cpx .f64 p.1 p.2, .cpx .f64 p.1 p.2, .bool false], [], .bool true⟩ := by
  have P1 := part_q p.1
  have P2 := part_q p.2
  refine qfits_of_body (C := cfgs 0) (c := c28) (ts := [6]) tokL mixedL (fun _ => none) (fun _ => none)
    Try.func28 (by kernel_rfl) (by kernel_rfl) (by kernel_rfl) (by kernel_rfl) (by kernel_rfl) rfl rfl ?_
  conv => whnf
  repeat (first
    | (refine And.intro ?_ ?_; (focus (first | omega | decide | exact Int.natCast_nonneg _ | ((repeat' refine And.intro ?_ ?_) <;> first | omega | exact Int.natCast_nonneg _ | (simp only [i64max, u8max, u16max, u32max, u64max]; omega) | (simp only [mulSz_eq, Cont.len, colsLen, Col.len, List.length_cons, List.length_nil, List.length_replicate, List.length_append]; first | done | omega) | (simp [mulSz, Cont.len, bne]; first | done | omega)))); conv => whnf)
    | (refine tst_in ?_ ?_; (focus (intro h_; exfalso; first | omega | ((try simp only [decide_eq_true_eq, decide_eq_false_iff_not] at h_); omega) | (simp [mulSz, Cont.len, bne] at h_; first | done | omega))); intro _; conv => whnf)
    | (refine tst_in ?_ ?_; rotate_left; (focus (intro h_; exfalso; first | omega | ((try simp only [decide_eq_true_eq, decide_eq_false_iff_not] at h_); omega) | (simp [mulSz, Cont.len, bne] at h_; first | done | omega))); intro _; conv => whnf)
    | (refine ⟨0, (show _ = _ by omega), ?_⟩; conv => whnf))
  refine ⟨_, [], P1, ?_⟩
  conv => whnf
  iterate 2
   refine And.intro ?_ ?_
   focus
    conv => whnf
    repeat' (first | exact True.intro | rfl | refine And.intro ?_ ?_ | omega)
    all_goals (conv => whnf)
    all_goals (try (first | rfl | omega | (simp; done)))
  conv => whnf
  conv => whnf
  repeat (first
    | (refine And.intro ?_ ?_; (focus (first | omega | decide | exact Int.natCast_nonneg _ | ((repeat' refine And.intro ?_ ?_) <;> first | omega | exact Int.natCast_nonneg _ | (simp only [i64max, u8max, u16max, u32max, u64max]; omega) | (simp only [mulSz_eq, Cont.len, colsLen, Col.len, List.length_cons, List.length_nil, List.length_replicate, List.length_append]; first | done | omega) | (simp [mulSz, Cont.len, bne]; first | done | omega)))); conv => whnf)
    | (refine tst_in ?_ ?_; (focus (intro h_; exfalso; first | omega | ((try simp only [decide_eq_true_eq, decide_eq_false_iff_not] at h_); omega) | (simp [mulSz, Cont.len, bne] at h_; first | done | omega))); intro _; conv => whnf)
    | (refine tst_in ?_ ?_; rotate_left; (focus (intro h_; exfalso; first | omega | ((try simp only [decide_eq_true_eq, decide_eq_false_iff_not] at h_); omega) | (simp [mulSz, Cont.len, bne] at h_; first | done | omega))); intro _; conv => whnf)
    | (refine ⟨0, (show _ = _ by omega), ?_⟩; conv => whnf))
  refine ⟨_, [], P2, ?_⟩
  conv => whnf
  iterate 2
   refine And.intro ?_ ?_
   focus
    conv => whnf
    repeat' (first | exact True.intro | rfl | refine And.intro ?_ ?_ | omega)
    all_goals (conv => whnf)
    all_goals (try (first | rfl | omega | (simp; done)))
  conv => whnf

noncomputable def c18 : Code := (Try.f18.body).getD .skip
def st18 (A A' : List (Nat × Nat)) (B B' : List Bool) (n ca cb i : Nat) : St := ⟨slotsAt 42 [(0, .slice 0 0 n ca), (1, .slice 1 0 n cb), (5, .int .i64 i)], [rowS false A B, rowS false A' B']⟩
def inv18 (A A' : List (Nat × Nat)) (B B' : List Bool) (n ca cb : Nat) : LInv := ⟨Nat, fun i => st18 A A' B B' n ca cb i, fun i => i ≤ n, fun i => n - i⟩
set_option maxHeartbeats 0 in
set_option maxRecDepth 100000 in
theorem Same_f (A A' : List (Nat × Nat)) (B B' : List Bool) (n ca cb : Nat) (hA : n ≤ A.length) (hB : n ≤ B.length) (hA' : n ≤ A'.length) (hB' : n ≤ B'.length) (hca : n ≤ ca) (hcb : n ≤ cb) (hn : n ≤ 5864062014634)
    (hE : ∀ i, i < n → A'.getD i (0, 0) = A.getD i (0, 0) ∧ B'.getD i false = B.getD i false) :
    Fits Try.prog 18 ⟨[.slice 0 0 n ca, .slice 1 0 n cb], [rowS false A B, rowS false A' B'], [numOut [.dead, .dead] (.bool true)]⟩ := by
  refine fits_of_body (C := cfgs 2) (c := c18) (ts := [4]) tokL mixedL (fun | 4 => some (inv18 A A' B B' n ca cb) | _ => none) (fun _ => none)
    Try.func18 (by kernel_rfl) (by kernel_rfl) (by kernel_rfl) (by kernel_rfl) rfl ?_
  conv => whnf
  repeat (first
    | (refine And.intro ?_ ?_; (focus (first | omega | decide | exact Int.natCast_nonneg _ | ((repeat' refine And.intro ?_ ?_) <;> first | omega | exact Int.natCast_nonneg _ | (simp only [i64max, u8max, u16max, u32max, u64max]; omega) | (simp only [mulSz_eq, Cont.len, colsLen, Col.len, List.length_cons, List.length_nil, List.length_replicate, List.length_append]; first | done | omega) | (simp [mulSz, Cont.len, bne]; first | done | omega)))); conv => whnf)
    | (refine tst_in ?_ ?_; (focus (intro h_; exfalso; first | omega | ((try simp only [decide_eq_true_eq, decide_eq_false_iff_not] at h_); omega) | (simp [mulSz, Cont.len, bne] at h_; first | done | omega))); intro _; conv => whnf)
    | (refine tst_in ?_ ?_; rotate_left; (focus (intro h_; exfalso; first | omega | ((try simp only [decide_eq_true_eq, decide_eq_false_iff_not] at h_); omega) | (simp [mulSz, Cont.len, bne] at h_; first | done | omega))); intro _; conv => whnf)
    | (refine ⟨0, (show _ = _ by omega), ?_⟩; conv => whnf))
  refine ⟨⟨[0, 1], (0 : Nat), ?_, Nat.zero_le _⟩, ?_⟩
  · show stLe _ _ (st18 A A' B B' n ca cb 0) _
    conv => whnf
    repeat' (first | exact True.intro | rfl | refine And.intro ?_ ?_)
    all_goals (conv => whnf)
    repeat' (first | exact True.intro | rfl | refine And.intro ?_ ?_)
    all_goals (try omega)
  · intro (i : Nat) (hi : i ≤ n)
    show forceSt (st18 A A' B B' n ca cb i) _
    conv => whnf
    refine tst_in (fun hlt => ?_) (fun hge => ?_)
    · skip
      have hlt : i < n := by simp at hlt; omega
      obtain ⟨e1, e2⟩ := hE i hlt
      have SQ := same_q (A.getD i (0, 0))
      conv => whnf
      repeat (first
        | (refine And.intro ?_ ?_; (focus (first | omega | decide | exact Int.natCast_nonneg _ | ((repeat' refine And.intro ?_ ?_) <;> first | omega | exact Int.natCast_nonneg _ | (simp only [i64max, u8max, u16max, u32max, u64max]; omega) | (simp only [mulSz_eq, Cont.len, colsLen, Col.len, List.length_cons, List.length_nil, List.length_replicate, List.length_append]; first | done | omega) | (simp [mulSz, Cont.len, bne]; first | done | omega)))); conv => whnf)
        | (refine tst_in ?_ ?_; (focus (intro h_; exfalso; first | omega | ((try simp only [decide_eq_true_eq, decide_eq_false_iff_not] at h_); omega) | (simp [mulSz, Cont.len, bne] at h_; first | done | omega))); intro _; conv => whnf)
        | (refine tst_in ?_ ?_; rotate_left; (focus (intro h_; exfalso; first | omega | ((try simp only [decide_eq_true_eq, decide_eq_false_iff_not] at h_); omega) | (simp [mulSz, Cont.len, bne] at h_; first | done | omega))); intro _; conv => whnf)
        | (refine ⟨(i), (show _ = _ by omega), ?_⟩; conv => whnf)
        | (refine ⟨(i), 0, (show _ = _ by omega), ?_⟩; conv => whnf)
        | (refine ⟨(i), 1, (show _ = _ by omega), ?_⟩; conv => whnf)
        | (refine ⟨(i), 2, (show _ = _ by omega), ?_⟩; conv => whnf)
        | (refine ⟨0, (show _ = _ by omega), ?_⟩; conv => whnf))
      rw [e2]
      cases B.getD i false
      all_goals skip
      · skip
        conv => whnf
        repeat (first
          | (refine And.intro ?_ ?_; (focus (first | omega | decide | exact Int.natCast_nonneg _ | ((repeat' refine And.intro ?_ ?_) <;> first | omega | exact Int.natCast_nonneg _ | (simp only [i64max, u8max, u16max, u32max, u64max]; omega) | (simp only [mulSz_eq, Cont.len, colsLen, Col.len, List.length_cons, List.length_nil, List.length_replicate, List.length_append]; first | done | omega) | (simp [mulSz, Cont.len, bne]; first | done | omega)))); conv => whnf)
          | (refine tst_in ?_ ?_; (focus (intro h_; exfalso; first | omega | ((try simp only [decide_eq_true_eq, decide_eq_false_iff_not] at h_); omega) | (simp [mulSz, Cont.len, bne] at h_; first | done | omega))); intro _; conv => whnf)
          | (refine tst_in ?_ ?_; rotate_left; (focus (intro h_; exfalso; first | omega | ((try simp only [decide_eq_true_eq, decide_eq_false_iff_not] at h_); omega) | (simp [mulSz, Cont.len, bne] at h_; first | done | omega))); intro _; conv => whnf)
          | (refine ⟨(i), (show _ = _ by omega), ?_⟩; conv => whnf)
          | (refine ⟨(i), 0, (show _ = _ by omega), ?_⟩; conv => whnf)
          | (refine ⟨(i), 1, (show _ = _ by omega), ?_⟩; conv => whnf)
          | (refine ⟨(i), 2, (show _ = _ by omega), ?_⟩; conv => whnf)
          | (refine ⟨0, (show _ = _ by omega), ?_⟩; conv => whnf))
        rw [e1]
        refine ⟨_, [], SQ, ?_⟩
        conv => whnf
        iterate 2
         refine And.intro ?_ ?_
         focus
          conv => whnf
          repeat' (first | exact True.intro | rfl | refine And.intro ?_ ?_ | omega)
          all_goals (conv => whnf)
          all_goals (try (first | rfl | omega | (simp; done)))
        conv => whnf
        conv => whnf
        repeat (first
          | (refine And.intro ?_ ?_; (focus (first | omega | decide | exact Int.natCast_nonneg _ | ((repeat' refine And.intro ?_ ?_) <;> first | omega | exact Int.natCast_nonneg _ | (simp only [i64max, u8max, u16max, u32max, u64max]; omega) | (simp only [mulSz_eq, Cont.len, colsLen, Col.len, List.length_cons, List.length_nil, List.length_replicate, List.length_append]; first | done | omega) | (simp [mulSz, Cont.len, bne]; first | done | omega)))); conv => whnf)
          | (refine tst_in ?_ ?_; (focus (intro h_; exfalso; first | omega | ((try simp only [decide_eq_true_eq, decide_eq_false_iff_not] at h_); omega) | (simp [mulSz, Cont.len, bne] at h_; first | done | omega))); intro _; conv => whnf)
          | (refine tst_in ?_ ?_; rotate_left; (focus (intro h_; exfalso; first | omega | ((try simp only [decide_eq_true_eq, decide_eq_false_iff_not] at h_); omega) | (simp [mulSz, Cont.len, bne] at h_; first | done | omega))); intro _; conv => whnf)
          | (refine ⟨0, (show _ = _ by omega), ?_⟩; conv => whnf))
        refine ⟨[0, 1], i + 1, ?_, (by show i + 1 ≤ n; omega), (by show n - (i + 1) < n - i; omega)⟩
        show stLe _ _ (st18 A A' B B' n ca cb (i + 1)) _
        conv => whnf
        repeat' (first | exact True.intro | rfl | refine And.intro ?_ ?_)
        all_goals (conv => whnf)
        repeat' (first | exact True.intro | rfl | refine And.intro ?_ ?_)
        all_goals (try omega)
      · skip
        conv => whnf
        repeat (first
          | (refine And.intro ?_ ?_; (focus (first | omega | decide | exact Int.natCast_nonneg _ | ((repeat' refine And.intro ?_ ?_) <;> first | omega | exact Int.natCast_nonneg _ | (simp only [i64max, u8max, u16max, u32max, u64max]; omega) | (simp only [mulSz_eq, Cont.len, colsLen, Col.len, List.length_cons, List.length_nil, List.length_replicate, List.length_append]; first | done | omega) | (simp [mulSz, Cont.len, bne]; first | done | omega)))); conv => whnf)
          | (refine tst_in ?_ ?_; (focus (intro h_; exfalso; first | omega | ((try simp only [decide_eq_true_eq, decide_eq_false_iff_not] at h_); omega) | (simp [mulSz, Cont.len, bne] at h_; first | done | omega))); intro _; conv => whnf)
          | (refine tst_in ?_ ?_; rotate_left; (focus (intro h_; exfalso; first | omega | ((try simp only [decide_eq_true_eq, decide_eq_false_iff_not] at h_); omega) | (simp [mulSz, Cont.len, bne] at h_; first | done | omega))); intro _; conv => whnf)
          | (refine ⟨(i), (show _ = _ by omega), ?_⟩; conv => whnf)
          | (refine ⟨(i), 0, (show _ = _ by omega), ?_⟩; conv => whnf)
          | (refine ⟨(i), 1, (show _ = _ by omega), ?_⟩; conv => whnf)
          | (refine ⟨(i), 2, (show _ = _ by omega), ?_⟩; conv => whnf)
          | (refine ⟨0, (show _ = _ by omega), ?_⟩; conv => whnf))
        rw [e1]
        refine ⟨_, [], SQ, ?_⟩
        conv => whnf
        iterate 2
         refine And.intro ?_ ?_
         focus
          conv => whnf
          repeat' (first | exact True.intro | rfl | refine And.intro ?_ ?_ | omega)
          all_goals (conv => whnf)
          all_goals (try (first | rfl | omega | (simp; done)))
        conv => whnf
        conv => whnf
        repeat (first
          | (refine And.intro ?_ ?_; (focus (first | omega | decide | exact Int.natCast_nonneg _ | ((repeat' refine And.intro ?_ ?_) <;> first | omega | exact Int.natCast_nonneg _ | (simp only [i64max, u8max, u16max, u32max, u64max]; omega) | (simp only [mulSz_eq, Cont.len, colsLen, Col.len, List.length_cons, List.length_nil, List.length_replicate, List.length_append]; first | done | omega) | (simp [mulSz, Cont.len, bne]; first | done | omega)))); conv => whnf)
          | (refine tst_in ?_ ?_; (focus (intro h_; exfalso; first | omega | ((try simp only [decide_eq_true_eq, decide_eq_false_iff_not] at h_); omega) | (simp [mulSz, Cont.len, bne] at h_; first | done | omega))); intro _; conv => whnf)
          | (refine tst_in ?_ ?_; rotate_left; (focus (intro h_; exfalso; first | omega | ((try simp only [decide_eq_true_eq, decide_eq_false_iff_not] at h_); omega) | (simp [mulSz, Cont.len, bne] at h_; first | done | omega))); intro _; conv => whnf)
          | (refine ⟨0, (show _ = _ by omega), ?_⟩; conv => whnf))
        refine ⟨[0, 1], i + 1, ?_, (by show i + 1 ≤ n; omega), (by show n - (i + 1) < n - i; omega)⟩
        show stLe _ _ (st18 A A' B B' n ca cb (i + 1)) _
        conv => whnf
        repeat' (first | exact True.intro | rfl | refine And.intro ?_ ?_)
        all_goals (conv => whnf)
        repeat' (first | exact True.intro | rfl | refine And.intro ?_ ?_)
        all_goals (try omega)
    · skip
      have hge : i = n := by simp at hge; omega
      subst hge
      conv => whnf
      repeat (first
        | (refine And.intro ?_ ?_; (focus (first | omega | decide | exact Int.natCast_nonneg _ | ((repeat' refine And.intro ?_ ?_) <;> first | omega | exact Int.natCast_nonneg _ | (simp only [i64max, u8max, u16max, u32max, u64max]; omega) | (simp only [mulSz_eq, Cont.len, colsLen, Col.len, List.length_cons, List.length_nil, List.length_replicate, List.length_append]; first | done | omega) | (simp [mulSz, Cont.len, bne]; first | done | omega)))); conv => whnf)
        | (refine tst_in ?_ ?_; (focus (intro h_; exfalso; first | omega | ((try simp only [decide_eq_true_eq, decide_eq_false_iff_not] at h_); omega) | (simp [mulSz, Cont.len, bne] at h_; first | done | omega))); intro _; conv => whnf)
        | (refine tst_in ?_ ?_; rotate_left; (focus (intro h_; exfalso; first | omega | ((try simp only [decide_eq_true_eq, decide_eq_false_iff_not] at h_); omega) | (simp [mulSz, Cont.len, bne] at h_; first | done | omega))); intro _; conv => whnf)
        | (refine ⟨0, (show _ = _ by omega), ?_⟩; conv => whnf))
      refine .inl ⟨(), [0, 1], ?_⟩
      conv => whnf
      repeat' (first | exact True.intro | rfl | refine And.intro ?_ ?_)
      all_goals (conv => whnf)
      repeat' (first | exact True.intro | rfl | refine And.intro ?_ ?_)
      all_goals (try omega)
end Go.Proofs.Ythhbcgnpbfmonaa

set_option linter.unusedVariables false
set_option linter.unusedSimpArgs false
namespace Go.Proofs.Ythhbcgnpbfmonaa
open Go Go.Fw
def c77 : Nat × Nat := (0, 4635118810238550016)
theorem push_tb {α : Type} (F : Nat → α) (t t1 : List α) (i : Nat) (x : α) (hx : x = F i) : List.take i (List.drop 0 (tb F i ++ t)) ++ [x] ++ t1 = tb F (i + 1) ++ t1 := by
  rw [List.drop_zero, List.take_left' (tab_len F i), hx, tab_snoc]
end Go.Proofs.Ythhbcgnpbfmonaa

set_option linter.unusedVariables false
set_option linter.unusedSimpArgs false
namespace Go.Proofs.Ythhbcgnpbfmonaa
open Go Go.Fw
noncomputable def c9 : Code := (Try.f9.body).getD .skip
def parS (R I : List Nat) (B : List Bool) : Seg := .seg false (.cols [.flts .f64 R, .flts .f64 I, .bools B])
def pF (R I : List Nat) (i : Nat) : Nat × Nat := (R.getD i 0, I.getD i 0)
def pG (B : List Bool) (i : Nat) : Bool := B.getD i false
def rowOut (D : List Seg) (k : Nat) (x : AV → AV) (F : Nat → Nat × Nat) (G : Nat → Bool) (n : Nat) : FOut :=
  ⟨Nat × List (Nat × Nat) × List Bool, fun y => y.2.1.length = y.1 ∧ y.2.2.length = y.1, fun y => x (.slice k 0 n (n + y.1)), fun y => D ++ [rowS true (tb F n ++ y.2.1) (tb G n ++ y.2.2)]⟩
def st9 (R I : List Nat) (B : List Bool) (n ca i r : Nat) (tA : List (Nat × Nat)) (tB : List Bool) : St :=
  ⟨slotsAt 32 [(0, .slice 0 0 n ca), (3, .slice 1 0 i (i + r)), (4, .int .i64 i)], [parS R I B, rowS true (tb (pF R I) i ++ tA) (tb (pG B) i ++ tB)]⟩
def inv9 (R I : List Nat) (B : List Bool) (n ca : Nat) : LInv :=
  ⟨Nat × Nat × List (Nat × Nat) × List Bool, fun t => st9 R I B n ca t.1 t.2.1 t.2.2.1 t.2.2.2, fun t => t.1 ≤ n ∧ t.2.2.1.length = t.2.1 ∧ t.2.2.2.length = t.2.1, fun t => n - t.1⟩
def plan9 : PlanL := .lin [0, 1, 2, 3, 4, 5, 6, 7, 8, 9, 10, 11, 12, 13, 14, 15, 16, 17, 18, 19, 20] .done
def cfg9 : Cfg := { T := tyL, sgn := fun _ => false, wr := fun _ => false, k := 1, q := qf, plan := fun | 5 => some plan9 | _ => none }
set_option maxHeartbeats 0 in
set_option maxRecDepth 100000 in
theorem samples_f (R I : List Nat) (B : List Bool) (n ca : Nat) (hR : n ≤ R.length) (hI : n ≤ I.length) (hB : n ≤ B.length) (hca : n ≤ ca) (hn : n ≤ 5864062014634) :
    Fits Try.prog 9 ⟨[.slice 0 0 n ca], [parS R I B], [rowOut [.dead] 1 id (pF R I) (pG B) n]⟩ := by
  refine fits_of_body (C := cfg9) (c := c9) (ts := [2]) tokL mixedL (fun | 3 => some (inv9 R I B n ca) | _ => none) (fun _ => none)
    Try.func9 (by kernel_rfl) (by kernel_rfl) (by kernel_rfl) (by kernel_rfl) rfl ?_
  conv => whnf
  repeat (first
    | (refine And.intro ?_ ?_; (focus (first | omega | decide | exact Int.natCast_nonneg _ | ((repeat' refine And.intro ?_ ?_) <;> first | omega | exact Int.natCast_nonneg _ | (simp only [i64max, u8max, u16max, u32max, u64max]; omega) | (simp only [mulSz_eq, Cont.len, colsLen, Col.len, List.length_cons, List.length_nil, List.length_replicate, List.length_append]; first | done | omega) | (simp [mulSz, Cont.len, bne]; first | done | omega)))); conv => whnf)
    | (refine tst_in ?_ ?_; (focus (intro h_; exfalso; first | omega | ((try simp only [decide_eq_true_eq, decide_eq_false_iff_not] at h_); omega) | (simp [mulSz, Cont.len, bne] at h_; first | done | omega))); intro _; conv => whnf)
    | (refine tst_in ?_ ?_; rotate_left; (focus (intro h_; exfalso; first | omega | ((try simp only [decide_eq_true_eq, decide_eq_false_iff_not] at h_); omega) | (simp [mulSz, Cont.len, bne] at h_; first | done | omega))); intro _; conv => whnf)
    | (refine ⟨0, (show _ = _ by omega), ?_⟩; conv => whnf))
  refine ⟨⟨[0, 9], (0, 0, [], []), ?_, ⟨Nat.zero_le _, rfl, rfl⟩⟩, ?_⟩
  · show stLe _ _ (st9 R I B n ca 0 0 [] []) _
    conv => whnf
    repeat' (first | exact True.intro | rfl | refine And.intro ?_ ?_)
    all_goals (conv => whnf)
    repeat' (first | exact True.intro | rfl | refine And.intro ?_ ?_)
    all_goals (try omega)
  · intro ⟨i, r, tA, tB⟩ ⟨(hi : i ≤ n), (hA : tA.length = r), (hB : tB.length = r)⟩
    show forceSt (st9 R I B n ca i r tA tB) _
    conv => whnf
    refine tst_in (fun h1 => ?_) (fun h1' => ?_)
    · skip
      have h1 : i < n := by simp at h1; omega
      conv => whnf
      repeat (first
        | (refine And.intro ?_ ?_; (focus (first | omega | decide | exact Int.natCast_nonneg _ | ((repeat' refine And.intro ?_ ?_) <;> first | omega | exact Int.natCast_nonneg _ | (simp only [i64max, u8max, u16max, u32max, u64max]; omega) | (simp only [mulSz_eq, Cont.len, colsLen, Col.len, List.length_cons, List.length_nil, List.length_replicate, List.length_append, tab_len, hA, hB, List.length_take, List.length_drop]; first | done | omega) | (simp [mulSz, Cont.len, bne, tab_len, hA, hB, List.length_take, List.length_drop]; first | done | omega)))); conv => whnf)
        | (refine tst_in ?_ ?_; (focus (intro h_; exfalso; first | omega | ((try simp only [decide_eq_true_eq, decide_eq_false_iff_not] at h_); omega) | (simp [mulSz, Cont.len, bne, tab_len, hA, hB, List.length_take, List.length_drop] at h_; first | done | omega))); intro _; conv => whnf)
        | (refine tst_in ?_ ?_; rotate_left; (focus (intro h_; exfalso; first | omega | ((try simp only [decide_eq_true_eq, decide_eq_false_iff_not] at h_); omega) | (simp [mulSz, Cont.len, bne, tab_len, hA, hB, List.length_take, List.length_drop] at h_; first | done | omega))); intro _; conv => whnf)
        | (refine ⟨(i), (show _ = _ by omega), ?_⟩; conv => whnf)
        | (refine ⟨(i), 0, (show _ = _ by omega), ?_⟩; conv => whnf)
        | (refine ⟨(i), 1, (show _ = _ by omega), ?_⟩; conv => whnf)
        | (refine ⟨(i), 2, (show _ = _ by omega), ?_⟩; conv => whnf)
        | (refine ⟨0, (show _ = _ by omega), ?_⟩; conv => whnf))
      intro r' t1 h1' t2 h2'
      conv => whnf
      repeat (first
        | (refine And.intro ?_ ?_; (focus (first | omega | decide | exact Int.natCast_nonneg _ | ((repeat' refine And.intro ?_ ?_) <;> first | omega | exact Int.natCast_nonneg _ | (simp only [i64max, u8max, u16max, u32max, u64max]; omega) | (simp only [mulSz_eq, Cont.len, colsLen, Col.len, List.length_cons, List.length_nil, List.length_replicate, List.length_append]; first | done | omega) | (simp [mulSz, Cont.len, bne]; first | done | omega)))); conv => whnf)
        | (refine tst_in ?_ ?_; (focus (intro h_; exfalso; first | omega | ((try simp only [decide_eq_true_eq, decide_eq_false_iff_not] at h_); omega) | (simp [mulSz, Cont.len, bne] at h_; first | done | omega))); intro _; conv => whnf)
        | (refine tst_in ?_ ?_; rotate_left; (focus (intro h_; exfalso; first | omega | ((try simp only [decide_eq_true_eq, decide_eq_false_iff_not] at h_); omega) | (simp [mulSz, Cont.len, bne] at h_; first | done | omega))); intro _; conv => whnf)
        | (refine ⟨0, (show _ = _ by omega), ?_⟩; conv => whnf))
      refine ⟨[0, 3], (i + 1, r', t1, t2), ?_, ⟨(by show i + 1 ≤ n; omega), h1', h2'⟩, (by show n - (i + 1) < n - i; omega)⟩
      show stLe _ _ (st9 R I B n ca (i + 1) r' t1 t2) _
      conv => whnf
      repeat' (first | exact True.intro | rfl | refine And.intro ?_ ?_)
      all_goals (conv => whnf)
      repeat' (first | exact True.intro | rfl | refine And.intro ?_ ?_)
      all_goals (try omega)
      · exact (push_tb (pF R I) tA t1 i _ rfl).symm
      · exact (push_tb (pG B) tB t2 i _ rfl).symm
    · skip
      have h1 : i = n := by simp at h1'; omega
      subst h1
      conv => whnf
      repeat (first
        | (refine And.intro ?_ ?_; (focus (first | omega | decide | exact Int.natCast_nonneg _ | ((repeat' refine And.intro ?_ ?_) <;> first | omega | exact Int.natCast_nonneg _ | (simp only [i64max, u8max, u16max, u32max, u64max]; omega) | (simp only [mulSz_eq, Cont.len, colsLen, Col.len, List.length_cons, List.length_nil, List.length_replicate, List.length_append]; first | done | omega) | (simp [mulSz, Cont.len, bne]; first | done | omega)))); conv => whnf)
        | (refine tst_in ?_ ?_; (focus (intro h_; exfalso; first | omega | ((try simp only [decide_eq_true_eq, decide_eq_false_iff_not] at h_); omega) | (simp [mulSz, Cont.len, bne] at h_; first | done | omega))); intro _; conv => whnf)
        | (refine tst_in ?_ ?_; rotate_left; (focus (intro h_; exfalso; first | omega | ((try simp only [decide_eq_true_eq, decide_eq_false_iff_not] at h_); omega) | (simp [mulSz, Cont.len, bne] at h_; first | done | omega))); intro _; conv => whnf)
        | (refine ⟨0, (show _ = _ by omega), ?_⟩; conv => whnf))
      refine .inl ⟨(r, tA, tB), [0, 1], ?_⟩
      conv => whnf
      repeat' (first | exact True.intro | rfl | refine And.intro ?_ ?_)
      all_goals (conv => whnf)
      repeat' (first | exact True.intro | rfl | refine And.intro ?_ ?_)
      all_goals (try omega)
end Go.Proofs.Ythhbcgnpbfmonaa

set_option linter.unusedVariables false
set_option linter.unusedSimpArgs false
namespace Go.Proofs.Ythhbcgnpbfmonaa
open Go Go.Fw
theorem lent_row {α : Type} (F : Nat → α) (x : α) (t t1 t3 : List α) (n : Nat) : tb F n ++ x :: t3 =
    List.take (0 + n) (List.drop 0 (List.take 0 (List.drop 0 []) ++ List.take n (List.drop 0 (tb F n ++ t)) ++ t1)) ++ List.take 1 (List.drop 0 [x]) ++ t3 := by
  show _ = List.take (0 + n) ((([] : List α) ++ List.take n (tb F n ++ t)) ++ t1) ++ [x] ++ t3
  rw [Nat.zero_add, List.nil_append, List.take_left' (tab_len F n), List.take_left' (tab_len F n), List.append_assoc]; rfl
noncomputable def c10 : Code := (Try.f10.body).getD .skip
def lentOut (F : Nat → Nat × Nat) (G : Nat → Bool) (n : Nat) : FOut :=
  ⟨Nat × List (Nat × Nat) × List Bool, fun y => y.2.1.length = y.1 ∧ y.2.2.length = y.1, fun y => .slice 1 0 n (n + 1 + y.1), fun y => [.dead, rowS true (tb F n ++ c77 :: y.2.1) (tb G n ++ false :: y.2.2)]⟩
set_option maxHeartbeats 0 in
set_option maxRecDepth 100000 in
theorem lent_f (F : Nat → Nat × Nat) (G : Nat → Bool) (tA : List (Nat × Nat)) (tB : List Bool) (n r : Nat) (hA : tA.length = r) (hB : tB.length = r) (hn : n ≤ 5864062014634) :
    Fits Try.prog 10 ⟨[.slice 0 0 n (n + r)], [rowS false (tb F n ++ tA) (tb G n ++ tB)], [lentOut F G n]⟩ := by
  refine fits_of_body (C := cfgs 1) (c := c10) (ts := [2]) tokL mixedL (fun _ => none) (fun _ => none)
    Try.func10 (by kernel_rfl) (by kernel_rfl) (by kernel_rfl) (by kernel_rfl) rfl ?_
  conv => whnf
  repeat (first
    | (refine And.intro ?_ ?_; (focus (first | omega | decide | exact Int.natCast_nonneg _ | ((repeat' refine And.intro ?_ ?_) <;> first | omega | exact Int.natCast_nonneg _ | (simp only [i64max, u8max, u16max, u32max, u64max]; omega) | (simp only [mulSz_eq, Cont.len, colsLen, Col.len, List.length_cons, List.length_nil, List.length_replicate, List.length_append, tab_len, hA, hB, List.length_take, List.length_drop]; first | done | omega) | (simp [mulSz, Cont.len, bne, tab_len, hA, hB, List.length_take, List.length_drop]; first | done | omega)))); conv => whnf)
    | (refine tst_in ?_ ?_; (focus (intro h_; exfalso; first | omega | ((try simp only [decide_eq_true_eq, decide_eq_false_iff_not] at h_); omega) | (simp [mulSz, Cont.len, bne, tab_len, hA, hB, List.length_take, List.length_drop] at h_; first | done | omega))); intro _; conv => whnf)
    | (refine tst_in ?_ ?_; rotate_left; (focus (intro h_; exfalso; first | omega | ((try simp only [decide_eq_true_eq, decide_eq_false_iff_not] at h_); omega) | (simp [mulSz, Cont.len, bne, tab_len, hA, hB, List.length_take, List.length_drop] at h_; first | done | omega))); intro _; conv => whnf)
    | (refine ⟨0, (show _ = _ by omega), ?_⟩; conv => whnf))
  intro r' t1 h1' t2 h2'
  conv => whnf
  repeat (first
    | (refine And.intro ?_ ?_; (focus (first | omega | decide | exact Int.natCast_nonneg _ | ((repeat' refine And.intro ?_ ?_) <;> first | omega | exact Int.natCast_nonneg _ | (simp only [i64max, u8max, u16max, u32max, u64max]; omega) | (simp only [mulSz_eq, Cont.len, colsLen, Col.len, List.length_cons, List.length_nil, List.length_replicate, List.length_append, tab_len, hA, hB, h1', h2', List.length_take, List.length_drop]; first | done | omega) | (simp [mulSz, Cont.len, bne, tab_len, hA, hB, h1', h2', List.length_take, List.length_drop]; first | done | omega)))); conv => whnf)
    | (refine tst_in ?_ ?_; (focus (intro h_; exfalso; first | omega | ((try simp only [decide_eq_true_eq, decide_eq_false_iff_not] at h_); omega) | (simp [mulSz, Cont.len, bne, tab_len, hA, hB, h1', h2', List.length_take, List.length_drop] at h_; first | done | omega))); intro _; conv => whnf)
    | (refine tst_in ?_ ?_; rotate_left; (focus (intro h_; exfalso; first | omega | ((try simp only [decide_eq_true_eq, decide_eq_false_iff_not] at h_); omega) | (simp [mulSz, Cont.len, bne, tab_len, hA, hB, h1', h2', List.length_take, List.length_drop] at h_; first | done | omega))); intro _; conv => whnf)
    | (refine ⟨0, (show _ = _ by omega), ?_⟩; conv => whnf))
  intro r'' t3 h3' t4 h4'
  conv => whnf
  repeat (first
    | (refine And.intro ?_ ?_; (focus (first | omega | decide | exact Int.natCast_nonneg _ | ((repeat' refine And.intro ?_ ?_) <;> first | omega | exact Int.natCast_nonneg _ | (simp only [i64max, u8max, u16max, u32max, u64max]; omega) | (simp only [mulSz_eq, Cont.len, colsLen, Col.len, List.length_cons, List.length_nil, List.length_replicate, List.length_append, tab_len, hA, hB, h1', h2', h3', h4', List.length_take, List.length_drop]; first | done | omega) | (simp [mulSz, Cont.len, bne, tab_len, hA, hB, h1', h2', h3', h4', List.length_take, List.length_drop]; first | done | omega)))); conv => whnf)
    | (refine tst_in ?_ ?_; (focus (intro h_; exfalso; first | omega | ((try simp only [decide_eq_true_eq, decide_eq_false_iff_not] at h_); omega) | (simp [mulSz, Cont.len, bne, tab_len, hA, hB, h1', h2', h3', h4', List.length_take, List.length_drop] at h_; first | done | omega))); intro _; conv => whnf)
    | (refine tst_in ?_ ?_; rotate_left; (focus (intro h_; exfalso; first | omega | ((try simp only [decide_eq_true_eq, decide_eq_false_iff_not] at h_); omega) | (simp [mulSz, Cont.len, bne, tab_len, hA, hB, h1', h2', h3', h4', List.length_take, List.length_drop] at h_; first | done | omega))); intro _; conv => whnf)
    | (refine ⟨0, (show _ = _ by omega), ?_⟩; conv => whnf))
  refine .inl ⟨(r'', t3, t4), [0, 4], ?_⟩
  conv => whnf
  repeat' (first | exact True.intro | rfl | refine And.intro ?_ ?_)
  all_goals (conv => whnf)
  repeat' (first | exact True.intro | rfl | refine And.intro ?_ ?_)
  all_goals (try omega)
  · exact lent_row F c77 tA t1 t3 n
  · exact lent_row G false tB t2 t4 n
noncomputable def c12 : Code := (Try.f12.body).getD .skip
theorem at_n {α : Type} (F : Nat → α) (x z : α) (t : List α) (n : Nat) : (tb F n ++ x :: t).getD n z = x := by
  rw [List.getD_eq_getElem?_getD, List.getElem?_append_right (by rw [tab_len]; exact Nat.le_refl _), tab_len, Nat.sub_self]; rfl
set_option maxHeartbeats 0 in
set_option maxRecDepth 100000 in
theorem kept_f (F : Nat → Nat × Nat) (G : Nat → Bool) (tA : List (Nat × Nat)) (tB : List Bool) (n r ca : Nat) (A : List (Nat × Nat)) (B : List Bool) (hA : tA.length = r) (hB : tB.length = r) (hn : n ≤ 5864062014634)
    (hA' : n ≤ A.length) (hB' : n ≤ B.length) (hca : n ≤ ca) (hE : ∀ i, i < n → A.getD i (0, 0) = F i ∧ B.getD i false = G i) :
    Fits Try.prog 12 ⟨[.slice 0 0 n (n + 1 + r), .slice 1 0 n ca], [rowS false (tb F n ++ c77 :: tA) (tb G n ++ false :: tB), rowS false A B], [numOut [.dead, .dead] (.bool true)]⟩ := by
  have SA := Same_f (tb F n ++ c77 :: tA) A (tb G n ++ false :: tB) B n (n + 1 + r) ca (by simp [tab_len]) (by simp [tab_len]) hA' hB' (by omega) hca (by omega)
    (fun i hi => by rw [tab_app _ _ _ hi, tab_app _ _ _ hi]; exact hE i hi)
  refine fits_of_body (C := cfgs 2) (c := c12) (ts := [4]) tokL mixedL (fun _ => none) (fun _ => none)
    Try.func12 (by kernel_rfl) (by kernel_rfl) (by kernel_rfl) (by kernel_rfl) rfl ?_
  conv => whnf
  repeat (first
    | (refine And.intro ?_ ?_; (focus (first | omega | decide | exact Int.natCast_nonneg _ | ((repeat' refine And.intro ?_ ?_) <;> first | omega | exact Int.natCast_nonneg _ | (simp only [i64max, u8max, u16max, u32max, u64max]; omega) | (simp only [mulSz_eq, Cont.len, colsLen, Col.len, List.length_cons, List.length_nil, List.length_replicate, List.length_append]; first | done | omega) | (simp [mulSz, Cont.len, bne]; first | done | omega)))); conv => whnf)
    | (refine tst_in ?_ ?_; (focus (intro h_; exfalso; first | omega | ((try simp only [decide_eq_true_eq, decide_eq_false_iff_not] at h_); omega) | (simp [mulSz, Cont.len, bne] at h_; first | done | omega))); intro _; conv => whnf)
    | (refine tst_in ?_ ?_; rotate_left; (focus (intro h_; exfalso; first | omega | ((try simp only [decide_eq_true_eq, decide_eq_false_iff_not] at h_); omega) | (simp [mulSz, Cont.len, bne] at h_; first | done | omega))); intro _; conv => whnf)
    | (refine ⟨0, (show _ = _ by omega), ?_⟩; conv => whnf))
  refine ⟨_, [0, 1], SA, ?_⟩
  conv => whnf
  iterate 2
   refine And.intro ?_ ?_
   focus
    conv => whnf
    repeat' (first | exact True.intro | rfl | refine And.intro ?_ ?_ | omega)
    all_goals (conv => whnf)
    all_goals (try (first | rfl | omega | (simp; done)))
  conv => whnf
  refine ⟨?_, True.intro⟩
  intro _ _
  conv => whnf
  conv => whnf
  repeat (first
    | (refine And.intro ?_ ?_; (focus (first | omega | decide | exact Int.natCast_nonneg _ | ((repeat' refine And.intro ?_ ?_) <;> first | omega | exact Int.natCast_nonneg _ | (simp only [i64max, u8max, u16max, u32max, u64max]; omega) | (simp only [mulSz_eq, Cont.len, colsLen, Col.len, List.length_cons, List.length_nil, List.length_replicate, List.length_append, tab_len, hA, hB]; first | done | omega) | (simp [mulSz, Cont.len, bne, tab_len, hA, hB]; first | done | omega)))); conv => whnf)
    | (refine tst_in ?_ ?_; (focus (intro h_; exfalso; first | omega | ((try simp only [decide_eq_true_eq, decide_eq_false_iff_not] at h_); omega) | (simp [mulSz, Cont.len, bne, tab_len, hA, hB] at h_; first | done | omega))); intro _; conv => whnf)
    | (refine tst_in ?_ ?_; rotate_left; (focus (intro h_; exfalso; first | omega | ((try simp only [decide_eq_true_eq, decide_eq_false_iff_not] at h_); omega) | (simp [mulSz, Cont.len, bne, tab_len, hA, hB] at h_; first | done | omega))); intro _; conv => whnf)
    | (refine ⟨(n), (show _ = _ by omega), ?_⟩; conv => whnf)
    | (refine ⟨(n), 0, (show _ = _ by omega), ?_⟩; conv => whnf)
    | (refine ⟨(n), 1, (show _ = _ by omega), ?_⟩; conv => whnf)
    | (refine ⟨(n), 2, (show _ = _ by omega), ?_⟩; conv => whnf)
    | (refine ⟨0, (show _ = _ by omega), ?_⟩; conv => whnf))
  rw [at_n F c77 (0, 0) tA n]
  refine .inl ⟨(), [0, 1], ?_⟩
  conv => whnf
  repeat' (first | exact True.intro | rfl | refine And.intro ?_ ?_)
  all_goals (conv => whnf)
  repeat' (first | exact True.intro | rfl | refine And.intro ?_ ?_)
  all_goals (try omega)
end Go.Proofs.Ythhbcgnpbfmonaa

set_option linter.unusedVariables false
set_option linter.unusedSimpArgs false
namespace Go.Proofs.Ythhbcgnpbfmonaa
open Go Go.Fw
def eqV (x y : Nat × Nat) : Bool := FloatKind.f64.format.order x.1 y.1 == some .eq && FloatKind.f64.format.order x.2 y.2 == some .eq
/-- Does place i of the one row agree with place i + s of the other one? -/
def agr (F F' : Nat → Nat × Nat) (G G' : Nat → Bool) (nb : Nat) (s : Int) (i : Nat) : Bool :=
  if 0 ≤ (i : Int) + s ∧ (i : Int) + s < nb then !(G i) && (!(G' ((i : Int) + s).toNat) && eqV (F i) (F' ((i : Int) + s).toNat)) else false
def cnt (p : Nat → Bool) : Nat → Nat
  | 0 => 0
  | n + 1 => cnt p n + if p n then 1 else 0
theorem cnt_succ (p : Nat → Bool) (n : Nat) : cnt p (n + 1) = cnt p n + if p n then 1 else 0 := rfl
theorem cnt_le (p : Nat → Bool) (n : Nat) : cnt p n ≤ n := by
  induction n with
  | zero => exact Nat.le_refl _
  | succ n ih => rw [cnt_succ]; split <;> omega
theorem cnt_stop (p : Nat → Bool) (n m : Nat) (hnm : n ≤ m) (h : ∀ i, n ≤ i → i < m → p i = false) : cnt p m = cnt p n := by
  induction m with
  | zero => rw [show n = 0 by omega]
  | succ m ih =>
    by_cases h2 : n = m + 1
    · rw [h2]
    · rw [cnt_succ, h m (by omega) (by omega), ih (by omega) fun i h3 h4 => h i h3 (by omega)]; rfl
theorem agr_out (F F' : Nat → Nat × Nat) (G G' : Nat → Bool) (nb : Nat) (s : Int) (i : Nat) (h : (i : Int) + s < 0 ∨ (nb : Int) ≤ (i : Int) + s) : agr F F' G G' nb s i = false := by
  unfold agr; rw [if_neg (by omega)]
noncomputable def c29 : Code := (Try.f29.body).getD .skip
def plan10 : PlanN := .op 1 (.op 5 (.op 6 (.rd 0 (.rd 2 (.rd 3 (.rd 4 (.rd 7 (.rd 8 (.rd 9 (.alt 10 (.chk [9, 8, 7, 4, 3, 2, 0] (.op 11 (.chk [9, 8, 7, 4, 3, 2, 0] (.op 12 (.chk [9, 8, 7, 4] (.op 13 .done)))))) (.alt 11 (.chk [9, 8, 7, 4, 3, 2, 0] (.op 10 (.chk [9, 8, 7, 4, 3, 2, 0] (.op 12 (.chk [9, 8, 7, 4] (.op 13 .done)))))) .fin)))))))))))
def cfg10 : Cfg := { T := tyL, sgn := fun _ => false, wr := fun _ => false, k := 4, q := qf, plan := fun | 5 => some (.nn plan10) | _ => none }
def slc (k n c : Nat) : Seg := .seg false (.avs [.slice k 0 n c])
def hp10 (A A' : List (Nat × Nat)) (B B' : List Bool) (na ca nb cb : Nat) : List Seg := [slc 2 na ca, slc 3 nb cb, rowS false A B, rowS false A' B']
def st10 (A A' : List (Nat × Nat)) (B B' : List Bool) (na ca nb cb : Nat) (s : Int) (p : Nat → Bool) (i : Nat) : St :=
  ⟨slotsAt 54 [(0, .int .i64 s), (1, .ptr 0 0), (2, .ptr 1 0), (5, .int .i64 (cnt p i : Nat)), (6, .int .i64 i)], hp10 A A' B B' na ca nb cb⟩
def inv10 (A A' : List (Nat × Nat)) (B B' : List Bool) (na ca nb cb : Nat) (s : Int) (p : Nat → Bool) : LInv :=
  ⟨Nat, fun i => st10 A A' B B' na ca nb cb s p i, fun i => max 0 (-s) ≤ i ∧ (i : Int) ≤ max (max 0 (-s)) (min na (nb - s)), fun i => na - i⟩
set_option maxHeartbeats 0 in
set_option maxRecDepth 100000 in
theorem agree_f (A A' : List (Nat × Nat)) (B B' : List Bool) (F F' : Nat → Nat × Nat) (G G' : Nat → Bool) (na ca nb cb : Nat) (s : Int) (hA : na ≤ A.length) (hB : na ≤ B.length) (hA' : nb ≤ A'.length) (hB' : nb ≤ B'.length) (hca : na ≤ ca) (hcb : nb ≤ cb)
    (hs : -1024 ≤ s ∧ s ≤ 1024) (hna : na ≤ 4096) (hnb : nb ≤ 4096) (hF : ∀ i, i < na → A.getD i (0, 0) = F i ∧ B.getD i false = G i) (hF' : ∀ i, i < nb → A'.getD i (0, 0) = F' i ∧ B'.getD i false = G' i) :
    Fits Try.prog 29 ⟨[.int .i64 s, .ptr 0 0, .ptr 1 0], hp10 A A' B B' na ca nb cb, [numOut [.dead, .dead, .dead, .dead] (.int .i64 (cnt (agr F F' G G' nb s) na : Nat))]⟩ := by
  have hO := agr_out F F' G G' nb s
  have hI : ∀ i j : Nat, i < na → j < nb → (j : Int) = i + s → agr F F' G G' nb s i = (!(B.getD i false) && (!(B'.getD j false) && eqV (A.getD i (0, 0)) (A'.getD j (0, 0)))) := fun i j h1 h2 h3 => by
    unfold agr
    rw [if_pos (by omega), ← h3, show ((j : Int)).toNat = j by omega, (hF i h1).1, (hF i h1).2, (hF' j h2).1, (hF' j h2).2]
  generalize agr F F' G G' nb s = p at *
  refine fits_of_body (C := cfg10) (c := c29) (ts := [4]) tokL mixedL (fun | 3 => some (inv10 A A' B B' na ca nb cb s p) | _ => none) (fun _ => none)
    Try.func29 (by kernel_rfl) (by kernel_rfl) (by kernel_rfl) (by kernel_rfl) rfl ?_
  conv => whnf
  repeat (first
    | (refine And.intro ?_ ?_; (focus (first | omega | decide | exact Int.natCast_nonneg _ | ((repeat' refine And.intro ?_ ?_) <;> first | omega | exact Int.natCast_nonneg _ | (simp only [i64max, u8max, u16max, u32max, u64max]; omega) | (simp only [mulSz_eq, Cont.len, colsLen, Col.len, List.length_cons, List.length_nil, List.length_replicate, List.length_append]; first | done | omega) | (simp [mulSz, Cont.len, bne]; first | done | omega)))); conv => whnf)
    | (refine tst_in ?_ ?_; (focus (intro h_; exfalso; first | omega | ((try simp only [decide_eq_true_eq, decide_eq_false_iff_not] at h_); omega) | (simp [mulSz, Cont.len, bne] at h_; first | done | omega))); intro _; conv => whnf)
    | (refine tst_in ?_ ?_; rotate_left; (focus (intro h_; exfalso; first | omega | ((try simp only [decide_eq_true_eq, decide_eq_false_iff_not] at h_); omega) | (simp [mulSz, Cont.len, bne] at h_; first | done | omega))); intro _; conv => whnf)
    | (refine ⟨0, (show _ = _ by omega), ?_⟩; conv => whnf))
  refine ⟨⟨[0, 1, 2, 3], (max 0 (-s)).toNat, ?_, ?_⟩, ?_⟩
  · have h0 : cnt p (max 0 (-s)).toNat = 0 := cnt_stop p 0 _ (Nat.zero_le _) fun i h1 h2 => hO i (by omega)
    show stLe _ _ (st10 A A' B B' na ca nb cb s p _) _
    conv => whnf
    repeat' (first | exact True.intro | rfl | refine And.intro ?_ ?_)
    all_goals (conv => whnf)
    repeat' (first | exact True.intro | rfl | refine And.intro ?_ ?_)
    all_goals (try omega)
    all_goals (show ((cnt p (max 0 (-s)).toNat : Nat) : Int) = 0; omega)
  · show _ ∧ _
    omega
  · intro (i : Nat) ⟨(hi : max 0 (-s) ≤ i), (hi2 : (i : Int) ≤ max (max 0 (-s)) (min na (nb - s)))⟩
    show forceSt (st10 A A' B B' na ca nb cb s p i) _
    have hci := cnt_le p i
    conv => whnf
    refine tst_in (fun h1 => ?_) (fun h1' => ?_)
    · skip
      have h1 : i < na := by simp at h1; omega
      conv => whnf
      repeat (first
        | (refine And.intro ?_ ?_; (focus (first | omega | decide | exact Int.natCast_nonneg _ | ((repeat' refine And.intro ?_ ?_) <;> first | omega | exact Int.natCast_nonneg _ | (simp only [i64max, u8max, u16max, u32max, u64max]; omega) | (simp only [mulSz_eq, Cont.len, colsLen, Col.len, List.length_cons, List.length_nil, List.length_replicate, List.length_append]; first | done | omega) | (simp [mulSz, Cont.len, bne]; first | done | omega)))); conv => whnf)
        | (refine tst_in ?_ ?_; (focus (intro h_; exfalso; first | omega | ((try simp only [decide_eq_true_eq, decide_eq_false_iff_not] at h_); omega) | (simp [mulSz, Cont.len, bne] at h_; first | done | omega))); intro _; conv => whnf)
        | (refine tst_in ?_ ?_; rotate_left; (focus (intro h_; exfalso; first | omega | ((try simp only [decide_eq_true_eq, decide_eq_false_iff_not] at h_); omega) | (simp [mulSz, Cont.len, bne] at h_; first | done | omega))); intro _; conv => whnf)
        | (refine ⟨0, (show _ = _ by omega), ?_⟩; conv => whnf))
      refine tst_in (fun h2 => ?_) (fun h2' => ?_)
      · skip
        have h2 : (i : Int) + s < nb := by simp at h2; omega
        obtain ⟨j, hj⟩ : ∃ j : Nat, (j : Int) = i + s := ⟨((i : Int) + s).toNat, by omega⟩
        have hjn : j < nb := by omega
        have hE := hI i j h1 hjn hj
        have ej : ((i : Int) + s).toNat = j := by omega
        have ei : ((i : Int)).toNat = i := by omega
        conv => whnf
        repeat (first
          | (refine And.intro ?_ ?_; (focus (first | omega | decide | exact Int.natCast_nonneg _ | ((repeat' refine And.intro ?_ ?_) <;> first | omega | exact Int.natCast_nonneg _ | (simp only [i64max, u8max, u16max, u32max, u64max]; omega) | (simp only [mulSz_eq, Cont.len, colsLen, Col.len, List.length_cons, List.length_nil, List.length_replicate, List.length_append]; first | done | omega) | (simp [mulSz, Cont.len, bne]; first | done | omega)))); conv => whnf)
          | (refine tst_in ?_ ?_; (focus (intro h_; exfalso; first | omega | ((try simp only [decide_eq_true_eq, decide_eq_false_iff_not] at h_); omega) | (simp [mulSz, Cont.len, bne] at h_; first | done | omega))); intro _; conv => whnf)
          | (refine tst_in ?_ ?_; rotate_left; (focus (intro h_; exfalso; first | omega | ((try simp only [decide_eq_true_eq, decide_eq_false_iff_not] at h_); omega) | (simp [mulSz, Cont.len, bne] at h_; first | done | omega))); intro _; conv => whnf)
          | (refine ⟨(i), (show _ = _ by omega), ?_⟩; conv => whnf)
          | (refine ⟨(i), 0, (show _ = _ by omega), ?_⟩; conv => whnf)
          | (refine ⟨(i), 1, (show _ = _ by omega), ?_⟩; conv => whnf)
          | (refine ⟨(i), 2, (show _ = _ by omega), ?_⟩; conv => whnf)
          | (refine ⟨(j), (show _ = _ by omega), ?_⟩; conv => whnf)
          | (refine ⟨(j), 0, (show _ = _ by omega), ?_⟩; conv => whnf)
          | (refine ⟨(j), 1, (show _ = _ by omega), ?_⟩; conv => whnf)
          | (refine ⟨(j), 2, (show _ = _ by omega), ?_⟩; conv => whnf)
          | (refine ⟨0, (show _ = _ by omega), ?_⟩; conv => whnf))
        refine ⟨?_, ⟨?_, True.intro⟩⟩
        all_goals (
          conv => whnf
          repeat (first
            | (refine And.intro ?_ ?_; (focus (first | omega | decide | exact Int.natCast_nonneg _ | ((repeat' refine And.intro ?_ ?_) <;> first | omega | exact Int.natCast_nonneg _ | (simp only [i64max, u8max, u16max, u32max, u64max]; omega) | (simp only [mulSz_eq, Cont.len, colsLen, Col.len, List.length_cons, List.length_nil, List.length_replicate, List.length_append]; first | done | omega) | (simp [mulSz, Cont.len, bne]; first | done | omega)))); conv => whnf)
            | (refine tst_in ?_ ?_; (focus (intro h_; exfalso; first | omega | ((try simp only [decide_eq_true_eq, decide_eq_false_iff_not] at h_); omega) | (simp [mulSz, Cont.len, bne] at h_; first | done | omega))); intro _; conv => whnf)
            | (refine tst_in ?_ ?_; rotate_left; (focus (intro h_; exfalso; first | omega | ((try simp only [decide_eq_true_eq, decide_eq_false_iff_not] at h_); omega) | (simp [mulSz, Cont.len, bne] at h_; first | done | omega))); intro _; conv => whnf)
            | (refine ⟨(i), (show _ = _ by omega), ?_⟩; conv => whnf)
            | (refine ⟨(i), 0, (show _ = _ by omega), ?_⟩; conv => whnf)
            | (refine ⟨(i), 1, (show _ = _ by omega), ?_⟩; conv => whnf)
            | (refine ⟨(i), 2, (show _ = _ by omega), ?_⟩; conv => whnf)
            | (refine ⟨(j), (show _ = _ by omega), ?_⟩; conv => whnf)
            | (refine ⟨(j), 0, (show _ = _ by omega), ?_⟩; conv => whnf)
            | (refine ⟨(j), 1, (show _ = _ by omega), ?_⟩; conv => whnf)
            | (refine ⟨(j), 2, (show _ = _ by omega), ?_⟩; conv => whnf)
            | (refine ⟨0, (show _ = _ by omega), ?_⟩; conv => whnf))
          refine tst_in (fun g1 => ?_) (fun g1' => ?_)
          · skip
            rw [g1] at hE
            conv => whnf
            repeat (first
              | (refine And.intro ?_ ?_; (focus (first | omega | decide | exact Int.natCast_nonneg _ | ((repeat' refine And.intro ?_ ?_) <;> first | omega | exact Int.natCast_nonneg _ | (simp only [i64max, u8max, u16max, u32max, u64max]; omega) | (simp only [mulSz_eq, Cont.len, colsLen, Col.len, List.length_cons, List.length_nil, List.length_replicate, List.length_append]; first | done | omega) | (simp [mulSz, Cont.len, bne]; first | done | omega)))); conv => whnf)
              | (refine tst_in ?_ ?_; (focus (intro h_; exfalso; first | omega | ((try simp only [decide_eq_true_eq, decide_eq_false_iff_not] at h_); omega) | (simp [mulSz, Cont.len, bne] at h_; first | done | omega))); intro _; conv => whnf)
              | (refine tst_in ?_ ?_; rotate_left; (focus (intro h_; exfalso; first | omega | ((try simp only [decide_eq_true_eq, decide_eq_false_iff_not] at h_); omega) | (simp [mulSz, Cont.len, bne] at h_; first | done | omega))); intro _; conv => whnf)
              | (refine ⟨0, (show _ = _ by omega), ?_⟩; conv => whnf))
            refine tst_in (fun g2 => ?_) (fun g2' => ?_)
            · skip
              rw [g2] at hE
              conv => whnf
              repeat (first
                | (refine And.intro ?_ ?_; (focus (first | omega | decide | exact Int.natCast_nonneg _ | ((repeat' refine And.intro ?_ ?_) <;> first | omega | exact Int.natCast_nonneg _ | (simp only [i64max, u8max, u16max, u32max, u64max]; omega) | (simp only [mulSz_eq, Cont.len, colsLen, Col.len, List.length_cons, List.length_nil, List.length_replicate, List.length_append]; first | done | omega) | (simp [mulSz, Cont.len, bne]; first | done | omega)))); conv => whnf)
                | (refine tst_in ?_ ?_; (focus (intro h_; exfalso; first | omega | ((try simp only [decide_eq_true_eq, decide_eq_false_iff_not] at h_); omega) | (simp [mulSz, Cont.len, bne] at h_; first | done | omega))); intro _; conv => whnf)
                | (refine tst_in ?_ ?_; rotate_left; (focus (intro h_; exfalso; first | omega | ((try simp only [decide_eq_true_eq, decide_eq_false_iff_not] at h_); omega) | (simp [mulSz, Cont.len, bne] at h_; first | done | omega))); intro _; conv => whnf)
                | (refine ⟨0, (show _ = _ by omega), ?_⟩; conv => whnf))
              refine tst_in (fun g3 => ?_) (fun g3' => ?_)
              · skip
                have g3 : eqV (A.getD i (0, 0)) (A'.getD j (0, 0)) = true := g3
                rw [g3] at hE
                conv => whnf
                repeat (first
                  | (refine And.intro ?_ ?_; (focus (first | omega | decide | exact Int.natCast_nonneg _ | ((repeat' refine And.intro ?_ ?_) <;> first | omega | exact Int.natCast_nonneg _ | (simp only [i64max, u8max, u16max, u32max, u64max]; omega) | (simp only [mulSz_eq, Cont.len, colsLen, Col.len, List.length_cons, List.length_nil, List.length_replicate, List.length_append]; first | done | omega) | (simp [mulSz, Cont.len, bne]; first | done | omega)))); conv => whnf)
                  | (refine tst_in ?_ ?_; (focus (intro h_; exfalso; first | omega | ((try simp only [decide_eq_true_eq, decide_eq_false_iff_not] at h_); omega) | (simp [mulSz, Cont.len, bne] at h_; first | done | omega))); intro _; conv => whnf)
                  | (refine tst_in ?_ ?_; rotate_left; (focus (intro h_; exfalso; first | omega | ((try simp only [decide_eq_true_eq, decide_eq_false_iff_not] at h_); omega) | (simp [mulSz, Cont.len, bne] at h_; first | done | omega))); intro _; conv => whnf)
                  | (refine ⟨0, (show _ = _ by omega), ?_⟩; conv => whnf))
                refine ⟨[0, 1, 2, 3], i + 1, ?_, (by show _ ∧ _; omega), (by show na - (i + 1) < na - i; omega)⟩
                show stLe _ _ (st10 A A' B B' na ca nb cb s p (i + 1)) _
                conv => whnf
                repeat' (first | exact True.intro | rfl | refine And.intro ?_ ?_)
                all_goals (conv => whnf)
                repeat' (first | exact True.intro | rfl | refine And.intro ?_ ?_)
                all_goals (try omega)
                all_goals (show ((cnt p (i + 1) : Nat) : Int) = _; rw [cnt_succ, hE]; rfl)
              · skip
                have g3 : eqV (A.getD i (0, 0)) (A'.getD j (0, 0)) = false := g3'
                rw [g3] at hE
                conv => whnf
                repeat (first
                  | (refine And.intro ?_ ?_; (focus (first | omega | decide | exact Int.natCast_nonneg _ | ((repeat' refine And.intro ?_ ?_) <;> first | omega | exact Int.natCast_nonneg _ | (simp only [i64max, u8max, u16max, u32max, u64max]; omega) | (simp only [mulSz_eq, Cont.len, colsLen, Col.len, List.length_cons, List.length_nil, List.length_replicate, List.length_append]; first | done | omega) | (simp [mulSz, Cont.len, bne]; first | done | omega)))); conv => whnf)
                  | (refine tst_in ?_ ?_; (focus (intro h_; exfalso; first | omega | ((try simp only [decide_eq_true_eq, decide_eq_false_iff_not] at h_); omega) | (simp [mulSz, Cont.len, bne] at h_; first | done | omega))); intro _; conv => whnf)
                  | (refine tst_in ?_ ?_; rotate_left; (focus (intro h_; exfalso; first | omega | ((try simp only [decide_eq_true_eq, decide_eq_false_iff_not] at h_); omega) | (simp [mulSz, Cont.len, bne] at h_; first | done | omega))); intro _; conv => whnf)
                  | (refine ⟨0, (show _ = _ by omega), ?_⟩; conv => whnf))
                refine ⟨[0, 1, 2, 3], i + 1, ?_, (by show _ ∧ _; omega), (by show na - (i + 1) < na - i; omega)⟩
                show stLe _ _ (st10 A A' B B' na ca nb cb s p (i + 1)) _
                conv => whnf
                repeat' (first | exact True.intro | rfl | refine And.intro ?_ ?_)
                all_goals (conv => whnf)
                repeat' (first | exact True.intro | rfl | refine And.intro ?_ ?_)
                all_goals (try omega)
                all_goals (show ((cnt p (i + 1) : Nat) : Int) = _; rw [cnt_succ, hE]; rfl)
            · skip
              rw [g2'] at hE
              conv => whnf
              repeat (first
                | (refine And.intro ?_ ?_; (focus (first | omega | decide | exact Int.natCast_nonneg _ | ((repeat' refine And.intro ?_ ?_) <;> first | omega | exact Int.natCast_nonneg _ | (simp only [i64max, u8max, u16max, u32max, u64max]; omega) | (simp only [mulSz_eq, Cont.len, colsLen, Col.len, List.length_cons, List.length_nil, List.length_replicate, List.length_append]; first | done | omega) | (simp [mulSz, Cont.len, bne]; first | done | omega)))); conv => whnf)
                | (refine tst_in ?_ ?_; (focus (intro h_; exfalso; first | omega | ((try simp only [decide_eq_true_eq, decide_eq_false_iff_not] at h_); omega) | (simp [mulSz, Cont.len, bne] at h_; first | done | omega))); intro _; conv => whnf)
                | (refine tst_in ?_ ?_; rotate_left; (focus (intro h_; exfalso; first | omega | ((try simp only [decide_eq_true_eq, decide_eq_false_iff_not] at h_); omega) | (simp [mulSz, Cont.len, bne] at h_; first | done | omega))); intro _; conv => whnf)
                | (refine ⟨0, (show _ = _ by omega), ?_⟩; conv => whnf))
              refine ⟨[0, 1, 2, 3], i + 1, ?_, (by show _ ∧ _; omega), (by show na - (i + 1) < na - i; omega)⟩
              show stLe _ _ (st10 A A' B B' na ca nb cb s p (i + 1)) _
              conv => whnf
              repeat' (first | exact True.intro | rfl | refine And.intro ?_ ?_)
              all_goals (conv => whnf)
              repeat' (first | exact True.intro | rfl | refine And.intro ?_ ?_)
              all_goals (try omega)
              all_goals (show ((cnt p (i + 1) : Nat) : Int) = _; rw [cnt_succ, hE]; rfl)
          · skip
            rw [g1'] at hE
            conv => whnf
            repeat (first
              | (refine And.intro ?_ ?_; (focus (first | omega | decide | exact Int.natCast_nonneg _ | ((repeat' refine And.intro ?_ ?_) <;> first | omega | exact Int.natCast_nonneg _ | (simp only [i64max, u8max, u16max, u32max, u64max]; omega) | (simp only [mulSz_eq, Cont.len, colsLen, Col.len, List.length_cons, List.length_nil, List.length_replicate, List.length_append]; first | done | omega) | (simp [mulSz, Cont.len, bne]; first | done | omega)))); conv => whnf)
              | (refine tst_in ?_ ?_; (focus (intro h_; exfalso; first | omega | ((try simp only [decide_eq_true_eq, decide_eq_false_iff_not] at h_); omega) | (simp [mulSz, Cont.len, bne] at h_; first | done | omega))); intro _; conv => whnf)
              | (refine tst_in ?_ ?_; rotate_left; (focus (intro h_; exfalso; first | omega | ((try simp only [decide_eq_true_eq, decide_eq_false_iff_not] at h_); omega) | (simp [mulSz, Cont.len, bne] at h_; first | done | omega))); intro _; conv => whnf)
              | (refine ⟨0, (show _ = _ by omega), ?_⟩; conv => whnf))
            refine ⟨[0, 1, 2, 3], i + 1, ?_, (by show _ ∧ _; omega), (by show na - (i + 1) < na - i; omega)⟩
            show stLe _ _ (st10 A A' B B' na ca nb cb s p (i + 1)) _
            conv => whnf
            repeat' (first | exact True.intro | rfl | refine And.intro ?_ ?_)
            all_goals (conv => whnf)
            repeat' (first | exact True.intro | rfl | refine And.intro ?_ ?_)
            all_goals (try omega)
            all_goals (show ((cnt p (i + 1) : Nat) : Int) = _; rw [cnt_succ, hE]; rfl)
        )
      · skip
        have h2 : ¬ (i : Int) + s < nb := by simp at h2'; omega
        have hS := cnt_stop p i na (by omega) fun k h3 h4 => hO k (by omega)
        conv => whnf
        repeat (first
          | (refine And.intro ?_ ?_; (focus (first | omega | decide | exact Int.natCast_nonneg _ | ((repeat' refine And.intro ?_ ?_) <;> first | omega | exact Int.natCast_nonneg _ | (simp only [i64max, u8max, u16max, u32max, u64max]; omega) | (simp only [mulSz_eq, Cont.len, colsLen, Col.len, List.length_cons, List.length_nil, List.length_replicate, List.length_append]; first | done | omega) | (simp [mulSz, Cont.len, bne]; first | done | omega)))); conv => whnf)
          | (refine tst_in ?_ ?_; (focus (intro h_; exfalso; first | omega | ((try simp only [decide_eq_true_eq, decide_eq_false_iff_not] at h_); omega) | (simp [mulSz, Cont.len, bne] at h_; first | done | omega))); intro _; conv => whnf)
          | (refine tst_in ?_ ?_; rotate_left; (focus (intro h_; exfalso; first | omega | ((try simp only [decide_eq_true_eq, decide_eq_false_iff_not] at h_); omega) | (simp [mulSz, Cont.len, bne] at h_; first | done | omega))); intro _; conv => whnf)
          | (refine ⟨0, (show _ = _ by omega), ?_⟩; conv => whnf))
        refine .inl ⟨(), [0, 1, 2, 3], ?_⟩
        conv => whnf
        repeat' (first | exact True.intro | rfl | refine And.intro ?_ ?_)
        all_goals (conv => whnf)
        repeat' (first | exact True.intro | rfl | refine And.intro ?_ ?_)
        all_goals (try omega)
    · skip
      have h1 : ¬ i < na := by simp at h1'; omega
      have hS : cnt p na = cnt p i := by
        rcases (show i = na ∨ na < i by omega) with h | h
        · rw [h]
        · rw [cnt_stop p 0 na (Nat.zero_le _) fun k h3 h4 => hO k (by omega), cnt_stop p 0 i (Nat.zero_le _) fun k h3 h4 => hO k (by omega)]
      conv => whnf
      repeat (first
        | (refine And.intro ?_ ?_; (focus (first | omega | decide | exact Int.natCast_nonneg _ | ((repeat' refine And.intro ?_ ?_) <;> first | omega | exact Int.natCast_nonneg _ | (simp only [i64max, u8max, u16max, u32max, u64max]; omega) | (simp only [mulSz_eq, Cont.len, colsLen, Col.len, List.length_cons, List.length_nil, List.length_replicate, List.length_append]; first | done | omega) | (simp [mulSz, Cont.len, bne]; first | done | omega)))); conv => whnf)
        | (refine tst_in ?_ ?_; (focus (intro h_; exfalso; first | omega | ((try simp only [decide_eq_true_eq, decide_eq_false_iff_not] at h_); omega) | (simp [mulSz, Cont.len, bne] at h_; first | done | omega))); intro _; conv => whnf)
        | (refine tst_in ?_ ?_; rotate_left; (focus (intro h_; exfalso; first | omega | ((try simp only [decide_eq_true_eq, decide_eq_false_iff_not] at h_); omega) | (simp [mulSz, Cont.len, bne] at h_; first | done | omega))); intro _; conv => whnf)
        | (refine ⟨0, (show _ = _ by omega), ?_⟩; conv => whnf))
      refine .inl ⟨(), [0, 1, 2, 3], ?_⟩
      conv => whnf
      repeat' (first | exact True.intro | rfl | refine And.intro ?_ ?_)
      all_goals (conv => whnf)
      repeat' (first | exact True.intro | rfl | refine And.intro ?_ ?_)
      all_goals (try omega)
end Go.Proofs.Ythhbcgnpbfmonaa

set_option linter.unusedVariables false
set_option linter.unusedSimpArgs false
namespace Go.Proofs.Ythhbcgnpbfmonaa
open Go Go.Fw
noncomputable def c27 : Code := (Try.f27.body).getD .skip
def st27 (A A' : List (Nat × Nat)) (B B' : List Bool) (na ca nb cb : Nat) (s : Int) (p : Nat → Bool) (i : Nat) : St :=
  ⟨slotsAt 59 [(0, .slice 0 0 na ca), (1, .slice 1 0 nb cb), (2, .int .i64 s), (7, .int .i64 (cnt p i : Nat)), (8, .int .i64 i)], [rowS false A B, rowS false A' B']⟩
def inv27 (A A' : List (Nat × Nat)) (B B' : List Bool) (na ca nb cb : Nat) (s : Int) (p : Nat → Bool) : LInv := ⟨Nat, fun i => st27 A A' B B' na ca nb cb s p i, fun i => i ≤ na, fun i => na - i⟩
set_option maxHeartbeats 0 in
set_option maxRecDepth 100000 in
theorem rAgree_f (A A' : List (Nat × Nat)) (B B' : List Bool) (F F' : Nat → Nat × Nat) (G G' : Nat → Bool) (na ca nb cb : Nat) (s : Int) (hA : na ≤ A.length) (hB : na ≤ B.length) (hA' : nb ≤ A'.length) (hB' : nb ≤ B'.length) (hca : na ≤ ca) (hcb : nb ≤ cb)
    (hs : -1024 ≤ s ∧ s ≤ 1024) (hna : na ≤ 4096) (hnb : nb ≤ 4096) (hF : ∀ i, i < na → A.getD i (0, 0) = F i ∧ B.getD i false = G i) (hF' : ∀ i, i < nb → A'.getD i (0, 0) = F' i ∧ B'.getD i false = G' i) :
    Fits Try.prog 27 ⟨[.slice 0 0 na ca, .slice 1 0 nb cb, .int .i64 s], [rowS false A B, rowS false A' B'], [numOut [.dead, .dead] (.int .i64 (cnt (agr F F' G G' nb s) na : Nat))]⟩ := by
  have hO := agr_out F F' G G' nb s
  have hI : ∀ i j : Nat, i < na → j < nb → (j : Int) = i + s → agr F F' G G' nb s i = (!(B.getD i false) && (!(B'.getD j false) && eqV (A.getD i (0, 0)) (A'.getD j (0, 0)))) := fun i j h1 h2 h3 => by
    unfold agr
    rw [if_pos (by omega), ← h3, show ((j : Int)).toNat = j by omega, (hF i h1).1, (hF i h1).2, (hF' j h2).1, (hF' j h2).2]
  generalize agr F F' G G' nb s = p at *
  refine fits_of_body (C := cfgs 2) (c := c27) (ts := [6]) tokL mixedL (fun | 3 => some (inv27 A A' B B' na ca nb cb s p) | _ => none) (fun _ => none)
    Try.func27 (by kernel_rfl) (by kernel_rfl) (by kernel_rfl) (by kernel_rfl) rfl ?_
  conv => whnf
  repeat (first
    | (refine And.intro ?_ ?_; (focus (first | omega | decide | exact Int.natCast_nonneg _ | ((repeat' refine And.intro ?_ ?_) <;> first | omega | exact Int.natCast_nonneg _ | (simp only [i64max, u8max, u16max, u32max, u64max]; omega) | (simp only [mulSz_eq, Cont.len, colsLen, Col.len, List.length_cons, List.length_nil, List.length_replicate, List.length_append]; first | done | omega) | (simp [mulSz, Cont.len, bne]; first | done | omega)))); conv => whnf)
    | (refine tst_in ?_ ?_; (focus (intro h_; exfalso; first | omega | ((try simp only [decide_eq_true_eq, decide_eq_false_iff_not] at h_); omega) | (simp [mulSz, Cont.len, bne] at h_; first | done | omega))); intro _; conv => whnf)
    | (refine tst_in ?_ ?_; rotate_left; (focus (intro h_; exfalso; first | omega | ((try simp only [decide_eq_true_eq, decide_eq_false_iff_not] at h_); omega) | (simp [mulSz, Cont.len, bne] at h_; first | done | omega))); intro _; conv => whnf)
    | (refine ⟨0, (show _ = _ by omega), ?_⟩; conv => whnf))
  refine ⟨⟨[0, 1], (0 : Nat), ?_, Nat.zero_le _⟩, ?_⟩
  · show stLe _ _ (st27 A A' B B' na ca nb cb s p 0) _
    conv => whnf
    repeat' (first | exact True.intro | rfl | refine And.intro ?_ ?_)
    all_goals (conv => whnf)
    repeat' (first | exact True.intro | rfl | refine And.intro ?_ ?_)
    all_goals (try omega)
  · intro (i : Nat) (hi : i ≤ na)
    show forceSt (st27 A A' B B' na ca nb cb s p i) _
    have hci := cnt_le p i
    conv => whnf
    refine tst_in (fun h1 => ?_) (fun h1' => ?_)
    · skip
      have h1 : i < na := by simp at h1; omega
      rcases (show (i : Int) + s < 0 ∨ (nb : Int) ≤ i + s ∧ 0 ≤ (i : Int) + s ∨ 0 ≤ (i : Int) + s ∧ (i : Int) + s < nb by omega) with h2 | h2 | h2
      · have hE := hO i (.inl h2)
        conv => whnf
        repeat (first
          | (refine And.intro ?_ ?_; (focus (first | omega | decide | exact Int.natCast_nonneg _ | ((repeat' refine And.intro ?_ ?_) <;> first | omega | exact Int.natCast_nonneg _ | (simp only [i64max, u8max, u16max, u32max, u64max]; omega) | (simp only [mulSz_eq, Cont.len, colsLen, Col.len, List.length_cons, List.length_nil, List.length_replicate, List.length_append]; first | done | omega) | (simp [mulSz, Cont.len, bne]; first | done | omega)))); conv => whnf)
          | (refine tst_in ?_ ?_; (focus (intro h_; exfalso; first | omega | ((try simp only [decide_eq_true_eq, decide_eq_false_iff_not] at h_); omega) | (simp [mulSz, Cont.len, bne] at h_; first | done | omega))); intro _; conv => whnf)
          | (refine tst_in ?_ ?_; rotate_left; (focus (intro h_; exfalso; first | omega | ((try simp only [decide_eq_true_eq, decide_eq_false_iff_not] at h_); omega) | (simp [mulSz, Cont.len, bne] at h_; first | done | omega))); intro _; conv => whnf)
          | (refine ⟨0, (show _ = _ by omega), ?_⟩; conv => whnf))
        refine ⟨[0, 1], i + 1, ?_, (by show i + 1 ≤ na; omega), (by show na - (i + 1) < na - i; omega)⟩
        show stLe _ _ (st27 A A' B B' na ca nb cb s p (i + 1)) _
        conv => whnf
        repeat' (first | exact True.intro | rfl | refine And.intro ?_ ?_)
        all_goals (conv => whnf)
        repeat' (first | exact True.intro | rfl | refine And.intro ?_ ?_)
        all_goals (try omega)
        all_goals (show ((cnt p (i + 1) : Nat) : Int) = _; rw [cnt_succ, hE]; rfl)
      · have hE := hO i (.inr h2.1)
        conv => whnf
        repeat (first
          | (refine And.intro ?_ ?_; (focus (first | omega | decide | exact Int.natCast_nonneg _ | ((repeat' refine And.intro ?_ ?_) <;> first | omega | exact Int.natCast_nonneg _ | (simp only [i64max, u8max, u16max, u32max, u64max]; omega) | (simp only [mulSz_eq, Cont.len, colsLen, Col.len, List.length_cons, List.length_nil, List.length_replicate, List.length_append]; first | done | omega) | (simp [mulSz, Cont.len, bne]; first | done | omega)))); conv => whnf)
          | (refine tst_in ?_ ?_; (focus (intro h_; exfalso; first | omega | ((try simp only [decide_eq_true_eq, decide_eq_false_iff_not] at h_); omega) | (simp [mulSz, Cont.len, bne] at h_; first | done | omega))); intro _; conv => whnf)
          | (refine tst_in ?_ ?_; rotate_left; (focus (intro h_; exfalso; first | omega | ((try simp only [decide_eq_true_eq, decide_eq_false_iff_not] at h_); omega) | (simp [mulSz, Cont.len, bne] at h_; first | done | omega))); intro _; conv => whnf)
          | (refine ⟨0, (show _ = _ by omega), ?_⟩; conv => whnf))
        refine ⟨[0, 1], i + 1, ?_, (by show i + 1 ≤ na; omega), (by show na - (i + 1) < na - i; omega)⟩
        show stLe _ _ (st27 A A' B B' na ca nb cb s p (i + 1)) _
        conv => whnf
        repeat' (first | exact True.intro | rfl | refine And.intro ?_ ?_)
        all_goals (conv => whnf)
        repeat' (first | exact True.intro | rfl | refine And.intro ?_ ?_)
        all_goals (try omega)
        all_goals (show ((cnt p (i + 1) : Nat) : Int) = _; rw [cnt_succ, hE]; rfl)
      · obtain ⟨j, hj⟩ : ∃ j : Nat, (j : Int) = i + s := ⟨((i : Int) + s).toNat, by omega⟩
        have hjn : j < nb := by omega
        have hE := hI i j h1 hjn hj
        conv => whnf
        repeat (first
          | (refine And.intro ?_ ?_; (focus (first | omega | decide | exact Int.natCast_nonneg _ | ((repeat' refine And.intro ?_ ?_) <;> first | omega | exact Int.natCast_nonneg _ | (simp only [i64max, u8max, u16max, u32max, u64max]; omega) | (simp only [mulSz_eq, Cont.len, colsLen, Col.len, List.length_cons, List.length_nil, List.length_replicate, List.length_append]; first | done | omega) | (simp [mulSz, Cont.len, bne]; first | done | omega)))); conv => whnf)
          | (refine tst_in ?_ ?_; (focus (intro h_; exfalso; first | omega | ((try simp only [decide_eq_true_eq, decide_eq_false_iff_not] at h_); omega) | (simp [mulSz, Cont.len, bne] at h_; first | done | omega))); intro _; conv => whnf)
          | (refine tst_in ?_ ?_; rotate_left; (focus (intro h_; exfalso; first | omega | ((try simp only [decide_eq_true_eq, decide_eq_false_iff_not] at h_); omega) | (simp [mulSz, Cont.len, bne] at h_; first | done | omega))); intro _; conv => whnf)
          | (refine ⟨(i), (show _ = _ by omega), ?_⟩; conv => whnf)
          | (refine ⟨(i), 0, (show _ = _ by omega), ?_⟩; conv => whnf)
          | (refine ⟨(i), 1, (show _ = _ by omega), ?_⟩; conv => whnf)
          | (refine ⟨(i), 2, (show _ = _ by omega), ?_⟩; conv => whnf)
          | (refine ⟨(j), (show _ = _ by omega), ?_⟩; conv => whnf)
          | (refine ⟨(j), 0, (show _ = _ by omega), ?_⟩; conv => whnf)
          | (refine ⟨(j), 1, (show _ = _ by omega), ?_⟩; conv => whnf)
          | (refine ⟨(j), 2, (show _ = _ by omega), ?_⟩; conv => whnf)
          | (refine ⟨0, (show _ = _ by omega), ?_⟩; conv => whnf))
        cases hb1 : B.getD i false
        · rw [hb1] at hE
          conv => whnf
          repeat (first
            | (refine And.intro ?_ ?_; (focus (first | omega | decide | exact Int.natCast_nonneg _ | ((repeat' refine And.intro ?_ ?_) <;> first | omega | exact Int.natCast_nonneg _ | (simp only [i64max, u8max, u16max, u32max, u64max]; omega) | (simp only [mulSz_eq, Cont.len, colsLen, Col.len, List.length_cons, List.length_nil, List.length_replicate, List.length_append]; first | done | omega) | (simp [mulSz, Cont.len, bne]; first | done | omega)))); conv => whnf)
            | (refine tst_in ?_ ?_; (focus (intro h_; exfalso; first | omega | ((try simp only [decide_eq_true_eq, decide_eq_false_iff_not] at h_); omega) | (simp [mulSz, Cont.len, bne] at h_; first | done | omega))); intro _; conv => whnf)
            | (refine tst_in ?_ ?_; rotate_left; (focus (intro h_; exfalso; first | omega | ((try simp only [decide_eq_true_eq, decide_eq_false_iff_not] at h_); omega) | (simp [mulSz, Cont.len, bne] at h_; first | done | omega))); intro _; conv => whnf)
            | (refine ⟨(i), (show _ = _ by omega), ?_⟩; conv => whnf)
            | (refine ⟨(i), 0, (show _ = _ by omega), ?_⟩; conv => whnf)
            | (refine ⟨(i), 1, (show _ = _ by omega), ?_⟩; conv => whnf)
            | (refine ⟨(i), 2, (show _ = _ by omega), ?_⟩; conv => whnf)
            | (refine ⟨(j), (show _ = _ by omega), ?_⟩; conv => whnf)
            | (refine ⟨(j), 0, (show _ = _ by omega), ?_⟩; conv => whnf)
            | (refine ⟨(j), 1, (show _ = _ by omega), ?_⟩; conv => whnf)
            | (refine ⟨(j), 2, (show _ = _ by omega), ?_⟩; conv => whnf)
            | (refine ⟨0, (show _ = _ by omega), ?_⟩; conv => whnf))
          cases hb2 : B'.getD j false
          · rw [hb2] at hE
            conv => whnf
            repeat (first
              | (refine And.intro ?_ ?_; (focus (first | omega | decide | exact Int.natCast_nonneg _ | ((repeat' refine And.intro ?_ ?_) <;> first | omega | exact Int.natCast_nonneg _ | (simp only [i64max, u8max, u16max, u32max, u64max]; omega) | (simp only [mulSz_eq, Cont.len, colsLen, Col.len, List.length_cons, List.length_nil, List.length_replicate, List.length_append]; first | done | omega) | (simp [mulSz, Cont.len, bne]; first | done | omega)))); conv => whnf)
              | (refine tst_in ?_ ?_; (focus (intro h_; exfalso; first | omega | ((try simp only [decide_eq_true_eq, decide_eq_false_iff_not] at h_); omega) | (simp [mulSz, Cont.len, bne] at h_; first | done | omega))); intro _; conv => whnf)
              | (refine tst_in ?_ ?_; rotate_left; (focus (intro h_; exfalso; first | omega | ((try simp only [decide_eq_true_eq, decide_eq_false_iff_not] at h_); omega) | (simp [mulSz, Cont.len, bne] at h_; first | done | omega))); intro _; conv => whnf)
              | (refine ⟨(i), (show _ = _ by omega), ?_⟩; conv => whnf)
              | (refine ⟨(i), 0, (show _ = _ by omega), ?_⟩; conv => whnf)
              | (refine ⟨(i), 1, (show _ = _ by omega), ?_⟩; conv => whnf)
              | (refine ⟨(i), 2, (show _ = _ by omega), ?_⟩; conv => whnf)
              | (refine ⟨(j), (show _ = _ by omega), ?_⟩; conv => whnf)
              | (refine ⟨(j), 0, (show _ = _ by omega), ?_⟩; conv => whnf)
              | (refine ⟨(j), 1, (show _ = _ by omega), ?_⟩; conv => whnf)
              | (refine ⟨(j), 2, (show _ = _ by omega), ?_⟩; conv => whnf)
              | (refine ⟨0, (show _ = _ by omega), ?_⟩; conv => whnf))
            refine tst_in (fun g3 => ?_) (fun g3' => ?_)
            · have g3 : eqV (A.getD i (0, 0)) (A'.getD j (0, 0)) = true := g3
              rw [g3] at hE
              conv => whnf
              repeat (first
                | (refine And.intro ?_ ?_; (focus (first | omega | decide | exact Int.natCast_nonneg _ | ((repeat' refine And.intro ?_ ?_) <;> first | omega | exact Int.natCast_nonneg _ | (simp only [i64max, u8max, u16max, u32max, u64max]; omega) | (simp only [mulSz_eq, Cont.len, colsLen, Col.len, List.length_cons, List.length_nil, List.length_replicate, List.length_append]; first | done | omega) | (simp [mulSz, Cont.len, bne]; first | done | omega)))); conv => whnf)
                | (refine tst_in ?_ ?_; (focus (intro h_; exfalso; first | omega | ((try simp only [decide_eq_true_eq, decide_eq_false_iff_not] at h_); omega) | (simp [mulSz, Cont.len, bne] at h_; first | done | omega))); intro _; conv => whnf)
                | (refine tst_in ?_ ?_; rotate_left; (focus (intro h_; exfalso; first | omega | ((try simp only [decide_eq_true_eq, decide_eq_false_iff_not] at h_); omega) | (simp [mulSz, Cont.len, bne] at h_; first | done | omega))); intro _; conv => whnf)
                | (refine ⟨0, (show _ = _ by omega), ?_⟩; conv => whnf))
              refine ⟨[0, 1], i + 1, ?_, (by show i + 1 ≤ na; omega), (by show na - (i + 1) < na - i; omega)⟩
              show stLe _ _ (st27 A A' B B' na ca nb cb s p (i + 1)) _
              conv => whnf
              repeat' (first | exact True.intro | rfl | refine And.intro ?_ ?_)
              all_goals (conv => whnf)
              repeat' (first | exact True.intro | rfl | refine And.intro ?_ ?_)
              all_goals (try omega)
              all_goals (show ((cnt p (i + 1) : Nat) : Int) = _; rw [cnt_succ, hE]; rfl)
            · have g3 : eqV (A.getD i (0, 0)) (A'.getD j (0, 0)) = false := g3'
              rw [g3] at hE
              conv => whnf
              repeat (first
                | (refine And.intro ?_ ?_; (focus (first | omega | decide | exact Int.natCast_nonneg _ | ((repeat' refine And.intro ?_ ?_) <;> first | omega | exact Int.natCast_nonneg _ | (simp only [i64max, u8max, u16max, u32max, u64max]; omega) | (simp only [mulSz_eq, Cont.len, colsLen, Col.len, List.length_cons, List.length_nil, List.length_replicate, List.length_append]; first | done | omega) | (simp [mulSz, Cont.len, bne]; first | done | omega)))); conv => whnf)
                | (refine tst_in ?_ ?_; (focus (intro h_; exfalso; first | omega | ((try simp only [decide_eq_true_eq, decide_eq_false_iff_not] at h_); omega) | (simp [mulSz, Cont.len, bne] at h_; first | done | omega))); intro _; conv => whnf)
                | (refine tst_in ?_ ?_; rotate_left; (focus (intro h_; exfalso; first | omega | ((try simp only [decide_eq_true_eq, decide_eq_false_iff_not] at h_); omega) | (simp [mulSz, Cont.len, bne] at h_; first | done | omega))); intro _; conv => whnf)
                | (refine ⟨0, (show _ = _ by omega), ?_⟩; conv => whnf))
              refine ⟨[0, 1], i + 1, ?_, (by show i + 1 ≤ na; omega), (by show na - (i + 1) < na - i; omega)⟩
              show stLe _ _ (st27 A A' B B' na ca nb cb s p (i + 1)) _
              conv => whnf
              repeat' (first | exact True.intro | rfl | refine And.intro ?_ ?_)
              all_goals (conv => whnf)
              repeat' (first | exact True.intro | rfl | refine And.intro ?_ ?_)
              all_goals (try omega)
              all_goals (show ((cnt p (i + 1) : Nat) : Int) = _; rw [cnt_succ, hE]; rfl)
          · rw [hb2] at hE
            conv => whnf
            repeat (first
              | (refine And.intro ?_ ?_; (focus (first | omega | decide | exact Int.natCast_nonneg _ | ((repeat' refine And.intro ?_ ?_) <;> first | omega | exact Int.natCast_nonneg _ | (simp only [i64max, u8max, u16max, u32max, u64max]; omega) | (simp only [mulSz_eq, Cont.len, colsLen, Col.len, List.length_cons, List.length_nil, List.length_replicate, List.length_append]; first | done | omega) | (simp [mulSz, Cont.len, bne]; first | done | omega)))); conv => whnf)
              | (refine tst_in ?_ ?_; (focus (intro h_; exfalso; first | omega | ((try simp only [decide_eq_true_eq, decide_eq_false_iff_not] at h_); omega) | (simp [mulSz, Cont.len, bne] at h_; first | done | omega))); intro _; conv => whnf)
              | (refine tst_in ?_ ?_; rotate_left; (focus (intro h_; exfalso; first | omega | ((try simp only [decide_eq_true_eq, decide_eq_false_iff_not] at h_); omega) | (simp [mulSz, Cont.len, bne] at h_; first | done | omega))); intro _; conv => whnf)
              | (refine ⟨0, (show _ = _ by omega), ?_⟩; conv => whnf))
            refine ⟨[0, 1], i + 1, ?_, (by show i + 1 ≤ na; omega), (by show na - (i + 1) < na - i; omega)⟩
            show stLe _ _ (st27 A A' B B' na ca nb cb s p (i + 1)) _
            conv => whnf
            repeat' (first | exact True.intro | rfl | refine And.intro ?_ ?_)
            all_goals (conv => whnf)
            repeat' (first | exact True.intro | rfl | refine And.intro ?_ ?_)
            all_goals (try omega)
            all_goals (show ((cnt p (i + 1) : Nat) : Int) = _; rw [cnt_succ, hE]; rfl)
        · rw [hb1] at hE
          conv => whnf
          repeat (first
            | (refine And.intro ?_ ?_; (focus (first | omega | decide | exact Int.natCast_nonneg _ | ((repeat' refine And.intro ?_ ?_) <;> first | omega | exact Int.natCast_nonneg _ | (simp only [i64max, u8max, u16max, u32max, u64max]; omega) | (simp only [mulSz_eq, Cont.len, colsLen, Col.len, List.length_cons, List.length_nil, List.length_replicate, List.length_append]; first | done | omega) | (simp [mulSz, Cont.len, bne]; first | done | omega)))); conv => whnf)
            | (refine tst_in ?_ ?_; (focus (intro h_; exfalso; first | omega | ((try simp only [decide_eq_true_eq, decide_eq_false_iff_not] at h_); omega) | (simp [mulSz, Cont.len, bne] at h_; first | done | omega))); intro _; conv => whnf)
            | (refine tst_in ?_ ?_; rotate_left; (focus (intro h_; exfalso; first | omega | ((try simp only [decide_eq_true_eq, decide_eq_false_iff_not] at h_); omega) | (simp [mulSz, Cont.len, bne] at h_; first | done | omega))); intro _; conv => whnf)
            | (refine ⟨0, (show _ = _ by omega), ?_⟩; conv => whnf))
          refine ⟨[0, 1], i + 1, ?_, (by show i + 1 ≤ na; omega), (by show na - (i + 1) < na - i; omega)⟩
          show stLe _ _ (st27 A A' B B' na ca nb cb s p (i + 1)) _
          conv => whnf
          repeat' (first | exact True.intro | rfl | refine And.intro ?_ ?_)
          all_goals (conv => whnf)
          repeat' (first | exact True.intro | rfl | refine And.intro ?_ ?_)
          all_goals (try omega)
          all_goals (show ((cnt p (i + 1) : Nat) : Int) = _; rw [cnt_succ, hE]; rfl)
    · skip
      have h1 : i = na := by simp at h1'; omega
      subst h1
      conv => whnf
      repeat (first
        | (refine And.intro ?_ ?_; (focus (first | omega | decide | exact Int.natCast_nonneg _ | ((repeat' refine And.intro ?_ ?_) <;> first | omega | exact Int.natCast_nonneg _ | (simp only [i64max, u8max, u16max, u32max, u64max]; omega) | (simp only [mulSz_eq, Cont.len, colsLen, Col.len, List.length_cons, List.length_nil, List.length_replicate, List.length_append]; first | done | omega) | (simp [mulSz, Cont.len, bne]; first | done | omega)))); conv => whnf)
        | (refine tst_in ?_ ?_; (focus (intro h_; exfalso; first | omega | ((try simp only [decide_eq_true_eq, decide_eq_false_iff_not] at h_); omega) | (simp [mulSz, Cont.len, bne] at h_; first | done | omega))); intro _; conv => whnf)
        | (refine tst_in ?_ ?_; rotate_left; (focus (intro h_; exfalso; first | omega | ((try simp only [decide_eq_true_eq, decide_eq_false_iff_not] at h_); omega) | (simp [mulSz, Cont.len, bne] at h_; first | done | omega))); intro _; conv => whnf)
        | (refine ⟨0, (show _ = _ by omega), ?_⟩; conv => whnf))
      refine .inl ⟨(), [0, 1], ?_⟩
      conv => whnf
      repeat' (first | exact True.intro | rfl | refine And.intro ?_ ?_)
      all_goals (conv => whnf)
      repeat' (first | exact True.intro | rfl | refine And.intro ?_ ?_)
      all_goals (try omega)
end Go.Proofs.Ythhbcgnpbfmonaa

set_option linter.unusedVariables false
set_option linter.unusedSimpArgs false
namespace Go.Proofs.Ythhbcgnpbfmonaa
open Go Go.Fw
/-- A slip told so far, and how many agree there. -/
def step (c : Int → Nat) (t : Int × Nat) (s : Int) : Int × Nat := if t.2 < c s then (s, c s) else t
def slp (c : Int → Nat) : Nat → Int × Nat
  | 0 => (0, c 0)
  | k + 1 => step c (step c (slp c k) ((k : Int) + 1)) (-((k : Int) + 1))
def slt (c : Int → Nat) (k t : Nat) : Int × Nat := match t with | 0 => slp c k | 1 => step c (slp c k) ((k : Int) + 1) | _ => slp c (k + 1)
theorem step_yes {c : Int → Nat} {t : Int × Nat} {s : Int} (h : t.2 < c s) : step c t s = (s, c s) := if_pos h
theorem step_no {c : Int → Nat} {t : Int × Nat} {s : Int} (h : ¬ t.2 < c s) : step c t s = t := if_neg h
theorem step_ok {c : Int → Nat} {t : Int × Nat} {s : Int} {M : Nat} (hc : c s ≤ 4096) (hs : s.natAbs ≤ M) (h : t.1.natAbs ≤ M ∧ t.2 ≤ 4096) : (step c t s).1.natAbs ≤ M ∧ (step c t s).2 ≤ 4096 := by
  unfold step; split
  · exact ⟨hs, hc⟩
  · exact h
theorem slp_ok {c : Int → Nat} (hc : ∀ s, c s ≤ 4096) (k : Nat) : (slp c k).1.natAbs ≤ k ∧ (slp c k).2 ≤ 4096 := by
  induction k with
  | zero => exact ⟨Nat.le_refl _, hc 0⟩
  | succ k ih =>
    unfold slp
    exact step_ok (hc _) (by omega) (step_ok (hc _) (by omega) ⟨by omega, ih.2⟩)
theorem slt_ok {c : Int → Nat} (hc : ∀ s, c s ≤ 4096) (k t : Nat) : (slt c k t).1.natAbs ≤ k + 1 ∧ (slt c k t).2 ≤ 4096 := by
  have h := slp_ok hc k
  unfold slt
  split
  · exact ⟨by omega, h.2⟩
  · exact step_ok (hc _) (by omega) ⟨by omega, h.2⟩
  · exact slp_ok hc (k + 1)
noncomputable def c26 : Code := (Try.f26.body).getD .skip
noncomputable def c14 : Code := (Try.f14.body).getD .skip
def natAt (st : St) (t : Nat) : Nat := match slot st.sl t with | .int _ n => n.toNat | _ => 0
def fnOut (na ca nb cb : Nat) : FOut := ⟨Unit, fun _ => True, fun _ => .fn 29 [.ptr 2 0, .ptr 3 0], fun _ => [.dead, .dead, .seg true (.avs [.slice 0 0 na ca]), .seg true (.avs [.slice 1 0 nb cb])]⟩
set_option maxHeartbeats 0 in
set_option maxRecDepth 100000 in
theorem agreement_f (A A' : List (Nat × Nat)) (B B' : List Bool) (na ca nb cb : Nat) :
    Fits Try.prog 26 ⟨[.slice 0 0 na ca, .slice 1 0 nb cb], [rowS false A B, rowS false A' B'], [fnOut na ca nb cb]⟩ := by
  refine fits_of_body (C := cfgs 2) (c := c26) (ts := [4]) tokL mixedL (fun _ => none) (fun _ => none)
    Try.func26 (by kernel_rfl) (by kernel_rfl) (by kernel_rfl) (by kernel_rfl) rfl ?_
  conv => whnf
  repeat (first
    | (refine And.intro ?_ ?_; (focus (first | omega | decide | exact Int.natCast_nonneg _ | ((repeat' refine And.intro ?_ ?_) <;> first | omega | exact Int.natCast_nonneg _ | (simp only [i64max, u8max, u16max, u32max, u64max]; omega) | (simp only [mulSz_eq, Cont.len, colsLen, Col.len, List.length_cons, List.length_nil, List.length_replicate, List.length_append]; first | done | omega) | (simp [mulSz, Cont.len, bne]; first | done | omega)))); conv => whnf)
    | (refine tst_in ?_ ?_; (focus (intro h_; exfalso; first | omega | ((try simp only [decide_eq_true_eq, decide_eq_false_iff_not] at h_); omega) | (simp [mulSz, Cont.len, bne] at h_; first | done | omega))); intro _; conv => whnf)
    | (refine tst_in ?_ ?_; rotate_left; (focus (intro h_; exfalso; first | omega | ((try simp only [decide_eq_true_eq, decide_eq_false_iff_not] at h_); omega) | (simp [mulSz, Cont.len, bne] at h_; first | done | omega))); intro _; conv => whnf)
    | (refine ⟨0, (show _ = _ by omega), ?_⟩; conv => whnf))
  refine .inl ⟨(), [0, 1, 2, 3], ?_⟩
  conv => whnf
  repeat' (first | exact True.intro | rfl | refine And.intro ?_ ?_)
  all_goals (conv => whnf)
  repeat' (first | exact True.intro | rfl | refine And.intro ?_ ?_)
  all_goals (try omega)
def hp5 (A A' : List (Nat × Nat)) (B B' : List Bool) (na ca nb cb : Nat) : List Seg := [rowS false A B, rowS false A' B', .seg true (.avs [.slice 0 0 na ca]), .seg true (.avs [.slice 1 0 nb cb])]
def st5 (A A' : List (Nat × Nat)) (B B' : List Bool) (na ca nb cb : Nat) (p : Int × Nat) (most k : Nat) : St :=
  ⟨slotsAt 60 [(0, .slice 0 0 na ca), (1, .slice 1 0 nb cb), (2, .int .i64 most), (6, .int .i64 p.1), (7, .int .i64 p.2), (9, .fn 29 [.ptr 2 0, .ptr 3 0]), (10, .int .i64 (k + 1 : Nat))], hp5 A A' B B' na ca nb cb⟩
def inv5 (A A' : List (Nat × Nat)) (B B' : List Bool) (na ca nb cb : Nat) (c : Int → Nat) (most : Nat) : LInv :=
  ⟨Nat, fun k => st5 A A' B B' na ca nb cb (slp c k) most k, fun k => k ≤ most, fun k => most - k⟩
def st5b (A A' : List (Nat × Nat)) (B B' : List Bool) (na ca nb cb : Nat) (p : Int × Nat) (most k t : Nat) : St :=
  ⟨slotsAt 60 [(0, .slice 0 0 na ca), (1, .slice 1 0 nb cb), (2, .int .i64 most), (6, .int .i64 p.1), (7, .int .i64 p.2), (9, .fn 29 [.ptr 2 0, .ptr 3 0]), (10, .int .i64 (k + 1 : Nat)),
    (43, .slice 4 0 2 2), (44, .int .i64 2), (45, .int .i64 t)], hp5 A A' B B' na ca nb cb ++ [.seg true (.ints .i64 [((k + 1 : Nat) : Int), 0 - ((k + 1 : Nat) : Int)])]⟩
def inv5b (A A' : List (Nat × Nat)) (B B' : List Bool) (na ca nb cb : Nat) (c : Int → Nat) (most : Nat) (s0 : St) : LInv :=
  ⟨Nat, fun t => st5b A A' B B' na ca nb cb (slt c (natAt s0 10 - 1) t) most (natAt s0 10 - 1) t, fun t => t ≤ 2, fun t => 2 - t⟩
def cfg5 (A A' : List (Nat × Nat)) (B B' : List Bool) (na ca nb cb : Nat) (c : Int → Nat) (most : Nat) : Cfg :=
  { T := tyL, sgn := fun _ => false, wr := fun _ => false, k := 2, q := qf, dep := fun | 9 => some (inv5b A A' B B' na ca nb cb c most) | _ => none }
def slipOut (p : Int × Nat) : FOut := ⟨Unit, fun _ => True, fun _ => .tup [.int .i64 p.1, .int .i64 p.2, .int .i64 0], fun _ => [.dead, .dead]⟩
set_option maxHeartbeats 0 in
set_option maxRecDepth 100000 in
theorem Slip_y (A A' : List (Nat × Nat)) (B B' : List Bool) (F F' : Nat → Nat × Nat) (G G' : Nat → Bool) (na ca nb cb : Nat) (most : Nat) (hA : na ≤ A.length) (hB : na ≤ B.length) (hA' : nb ≤ A'.length) (hB' : nb ≤ B'.length) (hca : na ≤ ca) (hcb : nb ≤ cb)
    (hna : na ≤ 4096) (hnb : nb ≤ 4096) (hm : most ≤ 1024) (hF : ∀ i, i < na → A.getD i (0, 0) = F i ∧ B.getD i false = G i) (hF' : ∀ i, i < nb → A'.getD i (0, 0) = F' i ∧ B'.getD i false = G' i) :
    Fits Try.prog 14 ⟨[.slice 0 0 na ca, .slice 1 0 nb cb, .int .i64 most], [rowS false A B, rowS false A' B'], [slipOut (slp (fun s => cnt (agr F F' G G' nb s) na) most)]⟩ := by
  have AM := agreement_f A A' B B' na ca nb cb
  have AG := fun (s : Int) hs => agree_f A A' B B' F F' G G' na ca nb cb s hA hB hA' hB' hca hcb hs hna hnb hF hF'
  have hc : ∀ s : Int, cnt (agr F F' G G' nb s) na ≤ 4096 := fun s => Nat.le_trans (cnt_le _ _) hna
  change ∀ s (hs : -1024 ≤ s ∧ s ≤ 1024), Fits Try.prog 29 ⟨_, _, [numOut _ (.int .i64 ((fun s => cnt (agr F F' G G' nb s) na) s : Nat))]⟩ at AG
  change ∀ s, (fun s => cnt (agr F F' G G' nb s) na) s ≤ 4096 at hc
  generalize (fun s => cnt (agr F F' G G' nb s) na) = c at *
  refine fits_of_body (C := cfg5 A A' B B' na ca nb cb c most) (c := c14) (ts := [6, 7, 8]) tokL mixedL (fun | 6 => some (inv5 A A' B B' na ca nb cb c most) | _ => none) (fun _ => none)
    Try.func14 (by kernel_rfl) (by kernel_rfl) (by kernel_rfl) (by kernel_rfl) rfl ?_
  conv => whnf
  repeat (first
    | (refine And.intro ?_ ?_; (focus (first | omega | decide | exact Int.natCast_nonneg _ | ((repeat' refine And.intro ?_ ?_) <;> first | omega | exact Int.natCast_nonneg _ | (simp only [i64max, u8max, u16max, u32max, u64max]; omega) | (simp only [mulSz_eq, Cont.len, colsLen, Col.len, List.length_cons, List.length_nil, List.length_replicate, List.length_append]; first | done | omega) | (simp [mulSz, Cont.len, bne]; first | done | omega)))); conv => whnf)
    | (refine tst_in ?_ ?_; (focus (intro h_; exfalso; first | omega | ((try simp only [decide_eq_true_eq, decide_eq_false_iff_not] at h_); omega) | (simp [mulSz, Cont.len, bne] at h_; first | done | omega))); intro _; conv => whnf)
    | (refine tst_in ?_ ?_; rotate_left; (focus (intro h_; exfalso; first | omega | ((try simp only [decide_eq_true_eq, decide_eq_false_iff_not] at h_); omega) | (simp [mulSz, Cont.len, bne] at h_; first | done | omega))); intro _; conv => whnf)
    | (refine ⟨0, (show _ = _ by omega), ?_⟩; conv => whnf))
  refine ⟨_, [0, 1], AM, ?_⟩
  conv => whnf
  iterate 2
   refine And.intro ?_ ?_
   focus
    conv => whnf
    repeat' (first | exact True.intro | rfl | refine And.intro ?_ ?_ | omega)
    all_goals (conv => whnf)
    all_goals (try (first | rfl | omega | (simp; done)))
  conv => whnf
  refine ⟨?_, True.intro⟩
  intro _ _
  conv => whnf
  conv => whnf
  repeat (first
    | (refine And.intro ?_ ?_; (focus (first | omega | decide | exact Int.natCast_nonneg _ | ((repeat' refine And.intro ?_ ?_) <;> first | omega | exact Int.natCast_nonneg _ | (simp only [i64max, u8max, u16max, u32max, u64max]; omega) | (simp only [mulSz_eq, Cont.len, colsLen, Col.len, List.length_cons, List.length_nil, List.length_replicate, List.length_append]; first | done | omega) | (simp [mulSz, Cont.len, bne]; first | done | omega)))); conv => whnf)
    | (refine tst_in ?_ ?_; (focus (intro h_; exfalso; first | omega | ((try simp only [decide_eq_true_eq, decide_eq_false_iff_not] at h_); omega) | (simp [mulSz, Cont.len, bne] at h_; first | done | omega))); intro _; conv => whnf)
    | (refine tst_in ?_ ?_; rotate_left; (focus (intro h_; exfalso; first | omega | ((try simp only [decide_eq_true_eq, decide_eq_false_iff_not] at h_); omega) | (simp [mulSz, Cont.len, bne] at h_; first | done | omega))); intro _; conv => whnf)
    | (refine ⟨0, (show _ = _ by omega), ?_⟩; conv => whnf))
  refine ⟨_, [2, 3, 0, 1], (AG 0 (by omega)), ?_⟩
  conv => whnf
  iterate 2
   refine And.intro ?_ ?_
   focus
    conv => whnf
    repeat' (first | exact True.intro | rfl | refine And.intro ?_ ?_ | omega)
    all_goals (conv => whnf)
    all_goals (try (first | rfl | omega | (simp; done)))
  conv => whnf
  refine ⟨?_, True.intro⟩
  intro _ _
  conv => whnf
  conv => whnf
  repeat (first
    | (refine And.intro ?_ ?_; (focus (first | omega | decide | exact Int.natCast_nonneg _ | ((repeat' refine And.intro ?_ ?_) <;> first | omega | exact Int.natCast_nonneg _ | (simp only [i64max, u8max, u16max, u32max, u64max]; omega) | (simp only [mulSz_eq, Cont.len, colsLen, Col.len, List.length_cons, List.length_nil, List.length_replicate, List.length_append]; first | done | omega) | (simp [mulSz, Cont.len, bne]; first | done | omega)))); conv => whnf)
    | (refine tst_in ?_ ?_; (focus (intro h_; exfalso; first | omega | ((try simp only [decide_eq_true_eq, decide_eq_false_iff_not] at h_); omega) | (simp [mulSz, Cont.len, bne] at h_; first | done | omega))); intro _; conv => whnf)
    | (refine tst_in ?_ ?_; rotate_left; (focus (intro h_; exfalso; first | omega | ((try simp only [decide_eq_true_eq, decide_eq_false_iff_not] at h_); omega) | (simp [mulSz, Cont.len, bne] at h_; first | done | omega))); intro _; conv => whnf)
    | (refine ⟨0, (show _ = _ by omega), ?_⟩; conv => whnf))
  refine ⟨⟨[0, 1, 2, 3], (0 : Nat), ?_, Nat.zero_le _⟩, ?_⟩
  · show stLe _ _ (st5 A A' B B' na ca nb cb (slp c 0) most 0) _
    conv => whnf
    repeat' (first | exact True.intro | rfl | refine And.intro ?_ ?_)
    all_goals (conv => whnf)
    repeat' (first | exact True.intro | rfl | refine And.intro ?_ ?_)
    all_goals (try omega)
  · intro (k : Nat) (hk : k ≤ most)
    show forceSt (st5 A A' B B' na ca nb cb (slp c k) most k) _
    have H0 : slt c k 0 = slp c k := rfl
    have H1 : slt c k 2 = slp c (k + 1) := rfl
    have hs0 : ∀ t : Nat, t < 2 → ∃ s : Int, [((k + 1 : Nat) : Int), 0 - ((k + 1 : Nat) : Int)].getD (0 + (t : Int).toNat) 0 = s ∧ s.natAbs = k + 1 ∧ slt c k (t + 1) = step c (slt c k t) s := by
      intro t ht
      rcases (show t = 0 ∨ t = 1 by omega) with h | h <;> subst h
      · exact ⟨_, rfl, by show (((k + 1 : Nat) : Int)).natAbs = k + 1; omega, rfl⟩
      · refine ⟨_, rfl, by show (0 - ((k + 1 : Nat) : Int)).natAbs = k + 1; omega, ?_⟩
        show step c (step c (slp c k) ((k : Int) + 1)) (-((k : Int) + 1)) = step c (step c (slp c k) ((k : Int) + 1)) (0 - ((k + 1 : Nat) : Int))
        rw [show (0 - ((k + 1 : Nat) : Int)) = -((k : Int) + 1) by omega]
    have hok := slp_ok hc k
    rw [← H0] at hok
    rw [← H0]
    generalize hP : slt c k 0 = P at *
    conv => whnf
    refine tst_in (fun h1 => ?_) (fun h1' => ?_)
    · skip
      have h1 : k < most := by simp at h1; omega
      conv => whnf
      repeat (first
        | (refine And.intro ?_ ?_; (focus (first | omega | decide | exact Int.natCast_nonneg _ | ((repeat' refine And.intro ?_ ?_) <;> first | omega | exact Int.natCast_nonneg _ | (simp only [i64max, u8max, u16max, u32max, u64max]; omega) | (simp only [mulSz_eq, Cont.len, colsLen, Col.len, List.length_cons, List.length_nil, List.length_replicate, List.length_append]; first | done | omega) | (simp [mulSz, Cont.len, bne]; first | done | omega)))); conv => whnf)
        | (refine tst_in ?_ ?_; (focus (intro h_; exfalso; first | omega | ((try simp only [decide_eq_true_eq, decide_eq_false_iff_not] at h_); omega) | (simp [mulSz, Cont.len, bne] at h_; first | done | omega))); intro _; conv => whnf)
        | (refine tst_in ?_ ?_; rotate_left; (focus (intro h_; exfalso; first | omega | ((try simp only [decide_eq_true_eq, decide_eq_false_iff_not] at h_); omega) | (simp [mulSz, Cont.len, bne] at h_; first | done | omega))); intro _; conv => whnf)
        | (refine ⟨0, (show _ = _ by omega), ?_⟩; conv => whnf))
      refine ⟨⟨[0, 1, 2, 3, 4], (0 : Nat), ?_, Nat.zero_le _⟩, ?_⟩
      · show stLe _ _ (st5b A A' B B' na ca nb cb (slt c k 0) most k 0) _
        rw [hP]
        conv => whnf
        repeat' (first | exact True.intro | rfl | refine And.intro ?_ ?_)
        all_goals (conv => whnf)
        repeat' (first | exact True.intro | rfl | refine And.intro ?_ ?_)
        all_goals (try omega)
      · intro (t : Nat) (ht : t ≤ 2)
        show forceSt (st5b A A' B B' na ca nb cb (slt c k t) most k t) _
        have hok2 := slt_ok hc k t
        obtain ⟨x, hx⟩ : ∃ x, slt c k t = x := ⟨_, rfl⟩
        rw [hx] at hok2 ⊢
        conv => whnf
        refine tst_in (fun h2 => ?_) (fun h2' => ?_)
        · skip
          have h2 : t < 2 := by simp at h2; omega
          obtain ⟨s, hs, hsn, hst⟩ := hs0 t h2
          have hcs := hc s
          rw [hx] at hst
          conv => whnf
          repeat (first
            | (refine And.intro ?_ ?_; (focus (first | omega | decide | exact Int.natCast_nonneg _ | ((repeat' refine And.intro ?_ ?_) <;> first | omega | exact Int.natCast_nonneg _ | (simp only [i64max, u8max, u16max, u32max, u64max]; omega) | (simp only [mulSz_eq, Cont.len, colsLen, Col.len, List.length_cons, List.length_nil, List.length_replicate, List.length_append]; first | done | omega) | (simp [mulSz, Cont.len, bne]; first | done | omega)))); conv => whnf)
            | (refine tst_in ?_ ?_; (focus (intro h_; exfalso; first | omega | ((try simp only [decide_eq_true_eq, decide_eq_false_iff_not] at h_); omega) | (simp [mulSz, Cont.len, bne] at h_; first | done | omega))); intro _; conv => whnf)
            | (refine tst_in ?_ ?_; rotate_left; (focus (intro h_; exfalso; first | omega | ((try simp only [decide_eq_true_eq, decide_eq_false_iff_not] at h_); omega) | (simp [mulSz, Cont.len, bne] at h_; first | done | omega))); intro _; conv => whnf)
            | (refine ⟨0, (show _ = _ by omega), ?_⟩; conv => whnf))
          rw [hs]
          conv => whnf
          repeat (first
            | (refine And.intro ?_ ?_; (focus (first | omega | decide | exact Int.natCast_nonneg _ | ((repeat' refine And.intro ?_ ?_) <;> first | omega | exact Int.natCast_nonneg _ | (simp only [i64max, u8max, u16max, u32max, u64max]; omega) | (simp only [mulSz_eq, Cont.len, colsLen, Col.len, List.length_cons, List.length_nil, List.length_replicate, List.length_append]; first | done | omega) | (simp [mulSz, Cont.len, bne]; first | done | omega)))); conv => whnf)
            | (refine tst_in ?_ ?_; (focus (intro h_; exfalso; first | omega | ((try simp only [decide_eq_true_eq, decide_eq_false_iff_not] at h_); omega) | (simp [mulSz, Cont.len, bne] at h_; first | done | omega))); intro _; conv => whnf)
            | (refine tst_in ?_ ?_; rotate_left; (focus (intro h_; exfalso; first | omega | ((try simp only [decide_eq_true_eq, decide_eq_false_iff_not] at h_); omega) | (simp [mulSz, Cont.len, bne] at h_; first | done | omega))); intro _; conv => whnf)
            | (refine ⟨0, (show _ = _ by omega), ?_⟩; conv => whnf))
          refine ⟨_, [2, 3, 0, 1], (AG s (by omega)), ?_⟩
          conv => whnf
          iterate 2
           refine And.intro ?_ ?_
           focus
            conv => whnf
            repeat' (first | exact True.intro | rfl | refine And.intro ?_ ?_ | omega)
            all_goals (conv => whnf)
            all_goals (try (first | rfl | omega | (simp; done)))
          conv => whnf
          refine ⟨?_, True.intro⟩
          intro _ _
          conv => whnf
          conv => whnf
          repeat (first
            | (refine And.intro ?_ ?_; (focus (first | omega | decide | exact Int.natCast_nonneg _ | ((repeat' refine And.intro ?_ ?_) <;> first | omega | exact Int.natCast_nonneg _ | (simp only [i64max, u8max, u16max, u32max, u64max]; omega) | (simp only [mulSz_eq, Cont.len, colsLen, Col.len, List.length_cons, List.length_nil, List.length_replicate, List.length_append]; first | done | omega) | (simp [mulSz, Cont.len, bne]; first | done | omega)))); conv => whnf)
            | (refine tst_in ?_ ?_; (focus (intro h_; exfalso; first | omega | ((try simp only [decide_eq_true_eq, decide_eq_false_iff_not] at h_); omega) | (simp [mulSz, Cont.len, bne] at h_; first | done | omega))); intro _; conv => whnf)
            | (refine tst_in ?_ ?_; rotate_left; (focus (intro h_; exfalso; first | omega | ((try simp only [decide_eq_true_eq, decide_eq_false_iff_not] at h_); omega) | (simp [mulSz, Cont.len, bne] at h_; first | done | omega))); intro _; conv => whnf)
            | (refine ⟨0, (show _ = _ by omega), ?_⟩; conv => whnf))
          refine tst_in (fun h3 => ?_) (fun h3' => ?_)
          · skip
            have h3 : x.2 < c s := by rw [dLt_eq] at h3; have := of_decide_eq_true h3; omega
            rw [step_yes h3] at hst
            conv => whnf
            repeat (first
              | (refine And.intro ?_ ?_; (focus (first | omega | decide | exact Int.natCast_nonneg _ | ((repeat' refine And.intro ?_ ?_) <;> first | omega | exact Int.natCast_nonneg _ | (simp only [i64max, u8max, u16max, u32max, u64max]; omega) | (simp only [mulSz_eq, Cont.len, colsLen, Col.len, List.length_cons, List.length_nil, List.length_replicate, List.length_append]; first | done | omega) | (simp [mulSz, Cont.len, bne]; first | done | omega)))); conv => whnf)
              | (refine tst_in ?_ ?_; (focus (intro h_; exfalso; first | omega | ((try simp only [decide_eq_true_eq, decide_eq_false_iff_not] at h_); omega) | (simp [mulSz, Cont.len, bne] at h_; first | done | omega))); intro _; conv => whnf)
              | (refine tst_in ?_ ?_; rotate_left; (focus (intro h_; exfalso; first | omega | ((try simp only [decide_eq_true_eq, decide_eq_false_iff_not] at h_); omega) | (simp [mulSz, Cont.len, bne] at h_; first | done | omega))); intro _; conv => whnf)
              | (refine ⟨0, (show _ = _ by omega), ?_⟩; conv => whnf))
            refine ⟨[0, 1, 2, 3, 4], t + 1, ?_, (by show t + 1 ≤ 2; omega), (by show 2 - (t + 1) < 2 - t; omega)⟩
            show stLe _ _ (st5b A A' B B' na ca nb cb (slt c k (t + 1)) most k (t + 1)) _
            rw [hst]
            conv => whnf
            repeat' (first | exact True.intro | rfl | refine And.intro ?_ ?_)
            all_goals (conv => whnf)
            repeat' (first | exact True.intro | rfl | refine And.intro ?_ ?_)
            all_goals (try omega)
          · skip
            have h3 : ¬ x.2 < c s := by rw [dLt_eq] at h3'; have := of_decide_eq_false h3'; omega
            rw [step_no h3] at hst
            conv => whnf
            repeat (first
              | (refine And.intro ?_ ?_; (focus (first | omega | decide | exact Int.natCast_nonneg _ | ((repeat' refine And.intro ?_ ?_) <;> first | omega | exact Int.natCast_nonneg _ | (simp only [i64max, u8max, u16max, u32max, u64max]; omega) | (simp only [mulSz_eq, Cont.len, colsLen, Col.len, List.length_cons, List.length_nil, List.length_replicate, List.length_append]; first | done | omega) | (simp [mulSz, Cont.len, bne]; first | done | omega)))); conv => whnf)
              | (refine tst_in ?_ ?_; (focus (intro h_; exfalso; first | omega | ((try simp only [decide_eq_true_eq, decide_eq_false_iff_not] at h_); omega) | (simp [mulSz, Cont.len, bne] at h_; first | done | omega))); intro _; conv => whnf)
              | (refine tst_in ?_ ?_; rotate_left; (focus (intro h_; exfalso; first | omega | ((try simp only [decide_eq_true_eq, decide_eq_false_iff_not] at h_); omega) | (simp [mulSz, Cont.len, bne] at h_; first | done | omega))); intro _; conv => whnf)
              | (refine ⟨0, (show _ = _ by omega), ?_⟩; conv => whnf))
            refine ⟨[0, 1, 2, 3, 4], t + 1, ?_, (by show t + 1 ≤ 2; omega), (by show 2 - (t + 1) < 2 - t; omega)⟩
            show stLe _ _ (st5b A A' B B' na ca nb cb (slt c k (t + 1)) most k (t + 1)) _
            rw [hst]
            conv => whnf
            repeat' (first | exact True.intro | rfl | refine And.intro ?_ ?_)
            all_goals (conv => whnf)
            repeat' (first | exact True.intro | rfl | refine And.intro ?_ ?_)
            all_goals (try omega)
        · skip
          have h2 : t = 2 := by simp at h2'; omega
          subst h2
          rw [H1] at hx
          conv => whnf
          repeat (first
            | (refine And.intro ?_ ?_; (focus (first | omega | decide | exact Int.natCast_nonneg _ | ((repeat' refine And.intro ?_ ?_) <;> first | omega | exact Int.natCast_nonneg _ | (simp only [i64max, u8max, u16max, u32max, u64max]; omega) | (simp only [mulSz_eq, Cont.len, colsLen, Col.len, List.length_cons, List.length_nil, List.length_replicate, List.length_append]; first | done | omega) | (simp [mulSz, Cont.len, bne]; first | done | omega)))); conv => whnf)
            | (refine tst_in ?_ ?_; (focus (intro h_; exfalso; first | omega | ((try simp only [decide_eq_true_eq, decide_eq_false_iff_not] at h_); omega) | (simp [mulSz, Cont.len, bne] at h_; first | done | omega))); intro _; conv => whnf)
            | (refine tst_in ?_ ?_; rotate_left; (focus (intro h_; exfalso; first | omega | ((try simp only [decide_eq_true_eq, decide_eq_false_iff_not] at h_); omega) | (simp [mulSz, Cont.len, bne] at h_; first | done | omega))); intro _; conv => whnf)
            | (refine ⟨0, (show _ = _ by omega), ?_⟩; conv => whnf))
          refine ⟨[0, 1, 2, 3], k + 1, ?_, (by show k + 1 ≤ most; omega), (by show most - (k + 1) < most - k; omega)⟩
          show stLe _ _ (st5 A A' B B' na ca nb cb (slp c (k + 1)) most (k + 1)) _
          rw [hx]
          conv => whnf
          repeat' (first | exact True.intro | rfl | refine And.intro ?_ ?_)
          all_goals (conv => whnf)
          repeat' (first | exact True.intro | rfl | refine And.intro ?_ ?_)
          all_goals (try omega)
    · skip
      have h1 : k = most := by simp at h1'; omega
      subst h1
      conv => whnf
      repeat (first
        | (refine And.intro ?_ ?_; (focus (first | omega | decide | exact Int.natCast_nonneg _ | ((repeat' refine And.intro ?_ ?_) <;> first | omega | exact Int.natCast_nonneg _ | (simp only [i64max, u8max, u16max, u32max, u64max]; omega) | (simp only [mulSz_eq, Cont.len, colsLen, Col.len, List.length_cons, List.length_nil, List.length_replicate, List.length_append]; first | done | omega) | (simp [mulSz, Cont.len, bne]; first | done | omega)))); conv => whnf)
        | (refine tst_in ?_ ?_; (focus (intro h_; exfalso; first | omega | ((try simp only [decide_eq_true_eq, decide_eq_false_iff_not] at h_); omega) | (simp [mulSz, Cont.len, bne] at h_; first | done | omega))); intro _; conv => whnf)
        | (refine tst_in ?_ ?_; rotate_left; (focus (intro h_; exfalso; first | omega | ((try simp only [decide_eq_true_eq, decide_eq_false_iff_not] at h_); omega) | (simp [mulSz, Cont.len, bne] at h_; first | done | omega))); intro _; conv => whnf)
        | (refine ⟨0, (show _ = _ by omega), ?_⟩; conv => whnf))
      refine .inl ⟨(), [0, 1], ?_⟩
      conv => whnf
      repeat' (first | exact True.intro | rfl | refine And.intro ?_ ?_)
      all_goals (conv => whnf)
      repeat' (first | exact True.intro | rfl | refine And.intro ?_ ?_)
      all_goals (try omega)
      all_goals (show _ = _; rw [← H0])
end Go.Proofs.Ythhbcgnpbfmonaa

set_option linter.unusedVariables false
set_option linter.unusedSimpArgs false
namespace Go.Proofs.Ythhbcgnpbfmonaa
open Go Go.Fw
noncomputable def c15 : Code := (Try.f15.body).getD .skip
def st15 (A A' : List (Nat × Nat)) (B B' : List Bool) (na ca nb cb : Nat) (p : Int × Nat) (most k : Nat) : St :=
  ⟨slotsAt 59 [(0, .slice 0 0 na ca), (1, .slice 1 0 nb cb), (2, .int .i64 most), (9, .int .i64 p.1), (10, .int .i64 p.2), (11, .int .i64 (k + 1 : Nat))], [rowS false A B, rowS false A' B']⟩
def inv15 (A A' : List (Nat × Nat)) (B B' : List Bool) (na ca nb cb : Nat) (c : Int → Nat) (most : Nat) : LInv :=
  ⟨Nat, fun k => st15 A A' B B' na ca nb cb (slp c k) most k, fun k => k ≤ most, fun k => most - k⟩
set_option maxHeartbeats 0 in
set_option maxRecDepth 100000 in
theorem rSlip_y (A A' : List (Nat × Nat)) (B B' : List Bool) (F F' : Nat → Nat × Nat) (G G' : Nat → Bool) (na ca nb cb : Nat) (most : Nat) (hA : na ≤ A.length) (hB : na ≤ B.length) (hA' : nb ≤ A'.length) (hB' : nb ≤ B'.length) (hca : na ≤ ca) (hcb : nb ≤ cb)
    (hna : na ≤ 4096) (hnb : nb ≤ 4096) (hm : most ≤ 1024) (hF : ∀ i, i < na → A.getD i (0, 0) = F i ∧ B.getD i false = G i) (hF' : ∀ i, i < nb → A'.getD i (0, 0) = F' i ∧ B'.getD i false = G' i) :
    Fits Try.prog 15 ⟨[.slice 0 0 na ca, .slice 1 0 nb cb, .int .i64 most], [rowS false A B, rowS false A' B'], [slipOut (slp (fun s => cnt (agr F F' G G' nb s) na) most)]⟩ := by
  have AG := fun (s : Int) hs => rAgree_f A A' B B' F F' G G' na ca nb cb s hA hB hA' hB' hca hcb hs hna hnb hF hF'
  have hc : ∀ s : Int, cnt (agr F F' G G' nb s) na ≤ 4096 := fun s => Nat.le_trans (cnt_le _ _) hna
  change ∀ s (hs : -1024 ≤ s ∧ s ≤ 1024), Fits Try.prog 27 ⟨_, _, [numOut _ (.int .i64 ((fun s => cnt (agr F F' G G' nb s) na) s : Nat))]⟩ at AG
  change ∀ s, (fun s => cnt (agr F F' G G' nb s) na) s ≤ 4096 at hc
  generalize (fun s => cnt (agr F F' G G' nb s) na) = c at *
  refine fits_of_body (C := cfgs 2) (c := c15) (ts := [6, 7, 8]) tokL mixedL (fun | 6 => some (inv15 A A' B B' na ca nb cb c most) | _ => none) (fun _ => none)
    Try.func15 (by kernel_rfl) (by kernel_rfl) (by kernel_rfl) (by kernel_rfl) rfl ?_
  conv => whnf
  repeat (first
    | (refine And.intro ?_ ?_; (focus (first | omega | decide | exact Int.natCast_nonneg _ | ((repeat' refine And.intro ?_ ?_) <;> first | omega | exact Int.natCast_nonneg _ | (simp only [i64max, u8max, u16max, u32max, u64max]; omega) | (simp only [mulSz_eq, Cont.len, colsLen, Col.len, List.length_cons, List.length_nil, List.length_replicate, List.length_append]; first | done | omega) | (simp [mulSz, Cont.len, bne]; first | done | omega)))); conv => whnf)
    | (refine tst_in ?_ ?_; (focus (intro h_; exfalso; first | omega | ((try simp only [decide_eq_true_eq, decide_eq_false_iff_not] at h_); omega) | (simp [mulSz, Cont.len, bne] at h_; first | done | omega))); intro _; conv => whnf)
    | (refine tst_in ?_ ?_; rotate_left; (focus (intro h_; exfalso; first | omega | ((try simp only [decide_eq_true_eq, decide_eq_false_iff_not] at h_); omega) | (simp [mulSz, Cont.len, bne] at h_; first | done | omega))); intro _; conv => whnf)
    | (refine ⟨0, (show _ = _ by omega), ?_⟩; conv => whnf))
  refine ⟨_, [0, 1], (AG 0 (by omega)), ?_⟩
  conv => whnf
  iterate 2
   refine And.intro ?_ ?_
   focus
    conv => whnf
    repeat' (first | exact True.intro | rfl | refine And.intro ?_ ?_ | omega)
    all_goals (conv => whnf)
    all_goals (try (first | rfl | omega | (simp; done)))
  conv => whnf
  refine ⟨?_, True.intro⟩
  intro _ _
  conv => whnf
  conv => whnf
  repeat (first
    | (refine And.intro ?_ ?_; (focus (first | omega | decide | exact Int.natCast_nonneg _ | ((repeat' refine And.intro ?_ ?_) <;> first | omega | exact Int.natCast_nonneg _ | (simp only [i64max, u8max, u16max, u32max, u64max]; omega) | (simp only [mulSz_eq, Cont.len, colsLen, Col.len, List.length_cons, List.length_nil, List.length_replicate, List.length_append]; first | done | omega) | (simp [mulSz, Cont.len, bne]; first | done | omega)))); conv => whnf)
    | (refine tst_in ?_ ?_; (focus (intro h_; exfalso; first | omega | ((try simp only [decide_eq_true_eq, decide_eq_false_iff_not] at h_); omega) | (simp [mulSz, Cont.len, bne] at h_; first | done | omega))); intro _; conv => whnf)
    | (refine tst_in ?_ ?_; rotate_left; (focus (intro h_; exfalso; first | omega | ((try simp only [decide_eq_true_eq, decide_eq_false_iff_not] at h_); omega) | (simp [mulSz, Cont.len, bne] at h_; first | done | omega))); intro _; conv => whnf)
    | (refine ⟨0, (show _ = _ by omega), ?_⟩; conv => whnf))
  refine ⟨⟨[0, 1], (0 : Nat), ?_, Nat.zero_le _⟩, ?_⟩
  · show stLe _ _ (st15 A A' B B' na ca nb cb (slp c 0) most 0) _
    conv => whnf
    repeat' (first | exact True.intro | rfl | refine And.intro ?_ ?_)
    all_goals (conv => whnf)
    repeat' (first | exact True.intro | rfl | refine And.intro ?_ ?_)
    all_goals (try omega)
  · intro (k : Nat) (hk : k ≤ most)
    show forceSt (st15 A A' B B' na ca nb cb (slp c k) most k) _
    have hok := slp_ok hc k
    have hst : slp c (k + 1) = step c (step c (slp c k) ((k + 1 : Nat) : Int)) (-((k + 1 : Nat) : Int)) := rfl
    have c1 := hc ((k + 1 : Nat) : Int)
    have c2 := hc (-((k + 1 : Nat) : Int))
    generalize hP : slp c k = P at *
    conv => whnf
    refine tst_in (fun h1 => ?_) (fun h1' => ?_)
    · skip
      have h1 : k < most := by simp at h1; omega
      conv => whnf
      repeat (first
        | (refine And.intro ?_ ?_; (focus (first | omega | decide | exact Int.natCast_nonneg _ | ((repeat' refine And.intro ?_ ?_) <;> first | omega | exact Int.natCast_nonneg _ | (simp only [i64max, u8max, u16max, u32max, u64max]; omega) | (simp only [mulSz_eq, Cont.len, colsLen, Col.len, List.length_cons, List.length_nil, List.length_replicate, List.length_append]; first | done | omega) | (simp [mulSz, Cont.len, bne]; first | done | omega)))); conv => whnf)
        | (refine tst_in ?_ ?_; (focus (intro h_; exfalso; first | omega | ((try simp only [decide_eq_true_eq, decide_eq_false_iff_not] at h_); omega) | (simp [mulSz, Cont.len, bne] at h_; first | done | omega))); intro _; conv => whnf)
        | (refine tst_in ?_ ?_; rotate_left; (focus (intro h_; exfalso; first | omega | ((try simp only [decide_eq_true_eq, decide_eq_false_iff_not] at h_); omega) | (simp [mulSz, Cont.len, bne] at h_; first | done | omega))); intro _; conv => whnf)
        | (refine ⟨0, (show _ = _ by omega), ?_⟩; conv => whnf))
      refine ⟨_, [0, 1], (AG ((k + 1 : Nat) : Int) (by omega)), ?_⟩
      conv => whnf
      iterate 2
       refine And.intro ?_ ?_
       focus
        conv => whnf
        repeat' (first | exact True.intro | rfl | refine And.intro ?_ ?_ | omega)
        all_goals (conv => whnf)
        all_goals (try (first | rfl | omega | (simp; done)))
      conv => whnf
      refine ⟨?_, True.intro⟩
      intro _ _
      conv => whnf
      conv => whnf
      repeat (first
        | (refine And.intro ?_ ?_; (focus (first | omega | decide | exact Int.natCast_nonneg _ | ((repeat' refine And.intro ?_ ?_) <;> first | omega | exact Int.natCast_nonneg _ | (simp only [i64max, u8max, u16max, u32max, u64max]; omega) | (simp only [mulSz_eq, Cont.len, colsLen, Col.len, List.length_cons, List.length_nil, List.length_replicate, List.length_append]; first | done | omega) | (simp [mulSz, Cont.len, bne]; first | done | omega)))); conv => whnf)
        | (refine tst_in ?_ ?_; (focus (intro h_; exfalso; first | omega | ((try simp only [decide_eq_true_eq, decide_eq_false_iff_not] at h_); omega) | (simp [mulSz, Cont.len, bne] at h_; first | done | omega))); intro _; conv => whnf)
        | (refine tst_in ?_ ?_; rotate_left; (focus (intro h_; exfalso; first | omega | ((try simp only [decide_eq_true_eq, decide_eq_false_iff_not] at h_); omega) | (simp [mulSz, Cont.len, bne] at h_; first | done | omega))); intro _; conv => whnf)
        | (refine ⟨0, (show _ = _ by omega), ?_⟩; conv => whnf))
      refine tst_in (fun h3 => ?_) (fun h3' => ?_)
      · skip
        have h3 : P.2 < c ((k + 1 : Nat) : Int) := by rw [dLt_eq] at h3; have := of_decide_eq_true h3; omega
        rw [step_yes h3] at hst
        conv => whnf
        repeat (first
          | (refine And.intro ?_ ?_; (focus (first | omega | decide | exact Int.natCast_nonneg _ | ((repeat' refine And.intro ?_ ?_) <;> first | omega | exact Int.natCast_nonneg _ | (simp only [i64max, u8max, u16max, u32max, u64max]; omega) | (simp only [mulSz_eq, Cont.len, colsLen, Col.len, List.length_cons, List.length_nil, List.length_replicate, List.length_append]; first | done | omega) | (simp [mulSz, Cont.len, bne]; first | done | omega)))); conv => whnf)
          | (refine tst_in ?_ ?_; (focus (intro h_; exfalso; first | omega | ((try simp only [decide_eq_true_eq, decide_eq_false_iff_not] at h_); omega) | (simp [mulSz, Cont.len, bne] at h_; first | done | omega))); intro _; conv => whnf)
          | (refine tst_in ?_ ?_; rotate_left; (focus (intro h_; exfalso; first | omega | ((try simp only [decide_eq_true_eq, decide_eq_false_iff_not] at h_); omega) | (simp [mulSz, Cont.len, bne] at h_; first | done | omega))); intro _; conv => whnf)
          | (refine ⟨0, (show _ = _ by omega), ?_⟩; conv => whnf))
        refine ⟨_, [0, 1], (AG (-((k + 1 : Nat) : Int)) (by omega)), ?_⟩
        conv => whnf
        iterate 2
         refine And.intro ?_ ?_
         focus
          conv => whnf
          repeat' (first | exact True.intro | rfl | refine And.intro ?_ ?_ | omega)
          all_goals (conv => whnf)
          all_goals (try (first | rfl | omega | (simp; done)))
        conv => whnf
        refine ⟨?_, True.intro⟩
        intro _ _
        conv => whnf
        conv => whnf
        repeat (first
          | (refine And.intro ?_ ?_; (focus (first | omega | decide | exact Int.natCast_nonneg _ | ((repeat' refine And.intro ?_ ?_) <;> first | omega | exact Int.natCast_nonneg _ | (simp only [i64max, u8max, u16max, u32max, u64max]; omega) | (simp only [mulSz_eq, Cont.len, colsLen, Col.len, List.length_cons, List.length_nil, List.length_replicate, List.length_append]; first | done | omega) | (simp [mulSz, Cont.len, bne]; first | done | omega)))); conv => whnf)
          | (refine tst_in ?_ ?_; (focus (intro h_; exfalso; first | omega | ((try simp only [decide_eq_true_eq, decide_eq_false_iff_not] at h_); omega) | (simp [mulSz, Cont.len, bne] at h_; first | done | omega))); intro _; conv => whnf)
          | (refine tst_in ?_ ?_; rotate_left; (focus (intro h_; exfalso; first | omega | ((try simp only [decide_eq_true_eq, decide_eq_false_iff_not] at h_); omega) | (simp [mulSz, Cont.len, bne] at h_; first | done | omega))); intro _; conv => whnf)
          | (refine ⟨0, (show _ = _ by omega), ?_⟩; conv => whnf))
        refine tst_in (fun h4 => ?_) (fun h4 => ?_)
        have h4 : c ((k + 1 : Nat) : Int) < c (-((k + 1 : Nat) : Int)) := by rw [dLt_eq] at h4; have := of_decide_eq_true h4; omega
        rw [step_yes h4] at hst
        rotate_left
        have h4 : ¬ c ((k + 1 : Nat) : Int) < c (-((k + 1 : Nat) : Int)) := by rw [dLt_eq] at h4; have := of_decide_eq_false h4; omega
        rw [step_no h4] at hst
        all_goals (
          conv => whnf
          repeat (first
            | (refine And.intro ?_ ?_; (focus (first | omega | decide | exact Int.natCast_nonneg _ | ((repeat' refine And.intro ?_ ?_) <;> first | omega | exact Int.natCast_nonneg _ | (simp only [i64max, u8max, u16max, u32max, u64max]; omega) | (simp only [mulSz_eq, Cont.len, colsLen, Col.len, List.length_cons, List.length_nil, List.length_replicate, List.length_append]; first | done | omega) | (simp [mulSz, Cont.len, bne]; first | done | omega)))); conv => whnf)
            | (refine tst_in ?_ ?_; (focus (intro h_; exfalso; first | omega | ((try simp only [decide_eq_true_eq, decide_eq_false_iff_not] at h_); omega) | (simp [mulSz, Cont.len, bne] at h_; first | done | omega))); intro _; conv => whnf)
            | (refine tst_in ?_ ?_; rotate_left; (focus (intro h_; exfalso; first | omega | ((try simp only [decide_eq_true_eq, decide_eq_false_iff_not] at h_); omega) | (simp [mulSz, Cont.len, bne] at h_; first | done | omega))); intro _; conv => whnf)
            | (refine ⟨0, (show _ = _ by omega), ?_⟩; conv => whnf))
          refine ⟨[0, 1], k + 1, ?_, (by show k + 1 ≤ most; omega), (by show most - (k + 1) < most - k; omega)⟩
          show stLe _ _ (st15 A A' B B' na ca nb cb (slp c (k + 1)) most (k + 1)) _
          rw [hst]
          conv => whnf
          repeat' (first | exact True.intro | rfl | refine And.intro ?_ ?_)
          all_goals (conv => whnf)
          repeat' (first | exact True.intro | rfl | refine And.intro ?_ ?_)
          all_goals (try omega)
        )
      · skip
        have h3 : ¬ P.2 < c ((k + 1 : Nat) : Int) := by rw [dLt_eq] at h3'; have := of_decide_eq_false h3'; omega
        rw [step_no h3] at hst
        conv => whnf
        repeat (first
          | (refine And.intro ?_ ?_; (focus (first | omega | decide | exact Int.natCast_nonneg _ | ((repeat' refine And.intro ?_ ?_) <;> first | omega | exact Int.natCast_nonneg _ | (simp only [i64max, u8max, u16max, u32max, u64max]; omega) | (simp only [mulSz_eq, Cont.len, colsLen, Col.len, List.length_cons, List.length_nil, List.length_replicate, List.length_append]; first | done | omega) | (simp [mulSz, Cont.len, bne]; first | done | omega)))); conv => whnf)
          | (refine tst_in ?_ ?_; (focus (intro h_; exfalso; first | omega | ((try simp only [decide_eq_true_eq, decide_eq_false_iff_not] at h_); omega) | (simp [mulSz, Cont.len, bne] at h_; first | done | omega))); intro _; conv => whnf)
          | (refine tst_in ?_ ?_; rotate_left; (focus (intro h_; exfalso; first | omega | ((try simp only [decide_eq_true_eq, decide_eq_false_iff_not] at h_); omega) | (simp [mulSz, Cont.len, bne] at h_; first | done | omega))); intro _; conv => whnf)
          | (refine ⟨0, (show _ = _ by omega), ?_⟩; conv => whnf))
        refine ⟨_, [0, 1], (AG (-((k + 1 : Nat) : Int)) (by omega)), ?_⟩
        conv => whnf
        iterate 2
         refine And.intro ?_ ?_
         focus
          conv => whnf
          repeat' (first | exact True.intro | rfl | refine And.intro ?_ ?_ | omega)
          all_goals (conv => whnf)
          all_goals (try (first | rfl | omega | (simp; done)))
        conv => whnf
        refine ⟨?_, True.intro⟩
        intro _ _
        conv => whnf
        conv => whnf
        repeat (first
          | (refine And.intro ?_ ?_; (focus (first | omega | decide | exact Int.natCast_nonneg _ | ((repeat' refine And.intro ?_ ?_) <;> first | omega | exact Int.natCast_nonneg _ | (simp only [i64max, u8max, u16max, u32max, u64max]; omega) | (simp only [mulSz_eq, Cont.len, colsLen, Col.len, List.length_cons, List.length_nil, List.length_replicate, List.length_append]; first | done | omega) | (simp [mulSz, Cont.len, bne]; first | done | omega)))); conv => whnf)
          | (refine tst_in ?_ ?_; (focus (intro h_; exfalso; first | omega | ((try simp only [decide_eq_true_eq, decide_eq_false_iff_not] at h_); omega) | (simp [mulSz, Cont.len, bne] at h_; first | done | omega))); intro _; conv => whnf)
          | (refine tst_in ?_ ?_; rotate_left; (focus (intro h_; exfalso; first | omega | ((try simp only [decide_eq_true_eq, decide_eq_false_iff_not] at h_); omega) | (simp [mulSz, Cont.len, bne] at h_; first | done | omega))); intro _; conv => whnf)
          | (refine ⟨0, (show _ = _ by omega), ?_⟩; conv => whnf))
        refine tst_in (fun h4 => ?_) (fun h4 => ?_)
        have h4 : P.2 < c (-((k + 1 : Nat) : Int)) := by rw [dLt_eq] at h4; have := of_decide_eq_true h4; omega
        rw [step_yes h4] at hst
        rotate_left
        have h4 : ¬ P.2 < c (-((k + 1 : Nat) : Int)) := by rw [dLt_eq] at h4; have := of_decide_eq_false h4; omega
        rw [step_no h4] at hst
        all_goals (
          conv => whnf
          repeat (first
            | (refine And.intro ?_ ?_; (focus (first | omega | decide | exact Int.natCast_nonneg _ | ((repeat' refine And.intro ?_ ?_) <;> first | omega | exact Int.natCast_nonneg _ | (simp only [i64max, u8max, u16max, u32max, u64max]; omega) | (simp only [mulSz_eq, Cont.len, colsLen, Col.len, List.length_cons, List.length_nil, List.length_replicate, List.length_append]; first | done | omega) | (simp [mulSz, Cont.len, bne]; first | done | omega)))); conv => whnf)
            | (refine tst_in ?_ ?_; (focus (intro h_; exfalso; first | omega | ((try simp only [decide_eq_true_eq, decide_eq_false_iff_not] at h_); omega) | (simp [mulSz, Cont.len, bne] at h_; first | done | omega))); intro _; conv => whnf)
            | (refine tst_in ?_ ?_; rotate_left; (focus (intro h_; exfalso; first | omega | ((try simp only [decide_eq_true_eq, decide_eq_false_iff_not] at h_); omega) | (simp [mulSz, Cont.len, bne] at h_; first | done | omega))); intro _; conv => whnf)
            | (refine ⟨0, (show _ = _ by omega), ?_⟩; conv => whnf))
          refine ⟨[0, 1], k + 1, ?_, (by show k + 1 ≤ most; omega), (by show most - (k + 1) < most - k; omega)⟩
          show stLe _ _ (st15 A A' B B' na ca nb cb (slp c (k + 1)) most (k + 1)) _
          rw [hst]
          conv => whnf
          repeat' (first | exact True.intro | rfl | refine And.intro ?_ ?_)
          all_goals (conv => whnf)
          repeat' (first | exact True.intro | rfl | refine And.intro ?_ ?_)
          all_goals (try omega)
        )
    · skip
      have h1 : k = most := by simp at h1'; omega
      subst h1
      conv => whnf
      repeat (first
        | (refine And.intro ?_ ?_; (focus (first | omega | decide | exact Int.natCast_nonneg _ | ((repeat' refine And.intro ?_ ?_) <;> first | omega | exact Int.natCast_nonneg _ | (simp only [i64max, u8max, u16max, u32max, u64max]; omega) | (simp only [mulSz_eq, Cont.len, colsLen, Col.len, List.length_cons, List.length_nil, List.length_replicate, List.length_append]; first | done | omega) | (simp [mulSz, Cont.len, bne]; first | done | omega)))); conv => whnf)
        | (refine tst_in ?_ ?_; (focus (intro h_; exfalso; first | omega | ((try simp only [decide_eq_true_eq, decide_eq_false_iff_not] at h_); omega) | (simp [mulSz, Cont.len, bne] at h_; first | done | omega))); intro _; conv => whnf)
        | (refine tst_in ?_ ?_; rotate_left; (focus (intro h_; exfalso; first | omega | ((try simp only [decide_eq_true_eq, decide_eq_false_iff_not] at h_); omega) | (simp [mulSz, Cont.len, bne] at h_; first | done | omega))); intro _; conv => whnf)
        | (refine ⟨0, (show _ = _ by omega), ?_⟩; conv => whnf))
      refine .inl ⟨(), [0, 1], ?_⟩
      conv => whnf
      repeat' (first | exact True.intro | rfl | refine And.intro ?_ ?_)
      all_goals (conv => whnf)
      repeat' (first | exact True.intro | rfl | refine And.intro ?_ ?_)
      all_goals (try omega)
      all_goals (show _ = _; rw [hP])
/-- What a slip is refused for. -/
def badS (na nb : Nat) (m : Int) : Prop := 4096 < na ∨ (na ≤ 4096 ∧ 4096 < nb) ∨ (na ≤ 4096 ∧ nb ≤ 4096 ∧ m < 0) ∨ (na ≤ 4096 ∧ nb ≤ 4096 ∧ 0 ≤ m ∧ 1024 < m)
def slipNo : FOut := ⟨Unit, fun _ => True, fun _ => .tup [.int .i64 0, .int .i64 0, .int .i64 1], fun _ => [.dead, .dead]⟩
set_option maxHeartbeats 0 in
set_option maxRecDepth 100000 in
theorem Slip_n (A A' : List (Nat × Nat)) (B B' : List Bool) (na ca nb cb : Nat) (m : Int) (h : badS na nb m) :
    Fits Try.prog 14 ⟨[.slice 0 0 na ca, .slice 1 0 nb cb, .int .i64 m], [rowS false A B, rowS false A' B'], [slipNo]⟩ := by
  refine fits_of_body (C := cfgs 2) (c := c14) (ts := [6, 7, 8]) tokL mixedL (fun _ => none) (fun _ => none)
    Try.func14 (by kernel_rfl) (by kernel_rfl) (by kernel_rfl) (by kernel_rfl) rfl ?_
  rcases h with h | h | h | h
  all_goals (
    conv => whnf
    repeat (first
      | (refine And.intro ?_ ?_; (focus (first | omega | decide | exact Int.natCast_nonneg _ | ((repeat' refine And.intro ?_ ?_) <;> first | omega | exact Int.natCast_nonneg _ | (simp only [i64max, u8max, u16max, u32max, u64max]; omega) | (simp only [mulSz_eq, Cont.len, colsLen, Col.len, List.length_cons, List.length_nil, List.length_replicate, List.length_append]; first | done | omega) | (simp [mulSz, Cont.len, bne]; first | done | omega)))); conv => whnf)
      | (refine tst_in ?_ ?_; (focus (intro h_; exfalso; first | omega | ((try simp only [decide_eq_true_eq, decide_eq_false_iff_not] at h_); omega) | (simp [mulSz, Cont.len, bne] at h_; first | done | omega))); intro _; conv => whnf)
      | (refine tst_in ?_ ?_; rotate_left; (focus (intro h_; exfalso; first | omega | ((try simp only [decide_eq_true_eq, decide_eq_false_iff_not] at h_); omega) | (simp [mulSz, Cont.len, bne] at h_; first | done | omega))); intro _; conv => whnf)
      | (refine ⟨0, (show _ = _ by omega), ?_⟩; conv => whnf))
    refine .inl ⟨(), [0, 1], ?_⟩
    conv => whnf
    repeat' (first | exact True.intro | rfl | refine And.intro ?_ ?_)
    all_goals (conv => whnf)
    repeat' (first | exact True.intro | rfl | refine And.intro ?_ ?_)
    all_goals (try omega)
  )
set_option maxHeartbeats 0 in
set_option maxRecDepth 100000 in
theorem rSlip_n (A A' : List (Nat × Nat)) (B B' : List Bool) (na ca nb cb : Nat) (m : Int) (h : badS na nb m) :
    Fits Try.prog 15 ⟨[.slice 0 0 na ca, .slice 1 0 nb cb, .int .i64 m], [rowS false A B, rowS false A' B'], [slipNo]⟩ := by
  refine fits_of_body (C := cfgs 2) (c := c15) (ts := [6, 7, 8]) tokL mixedL (fun _ => none) (fun _ => none)
    Try.func15 (by kernel_rfl) (by kernel_rfl) (by kernel_rfl) (by kernel_rfl) rfl ?_
  rcases h with h | h | h | h
  all_goals (
    conv => whnf
    repeat (first
      | (refine And.intro ?_ ?_; (focus (first | omega | decide | exact Int.natCast_nonneg _ | ((repeat' refine And.intro ?_ ?_) <;> first | omega | exact Int.natCast_nonneg _ | (simp only [i64max, u8max, u16max, u32max, u64max]; omega) | (simp only [mulSz_eq, Cont.len, colsLen, Col.len, List.length_cons, List.length_nil, List.length_replicate, List.length_append]; first | done | omega) | (simp [mulSz, Cont.len, bne]; first | done | omega)))); conv => whnf)
      | (refine tst_in ?_ ?_; (focus (intro h_; exfalso; first | omega | ((try simp only [decide_eq_true_eq, decide_eq_false_iff_not] at h_); omega) | (simp [mulSz, Cont.len, bne] at h_; first | done | omega))); intro _; conv => whnf)
      | (refine tst_in ?_ ?_; rotate_left; (focus (intro h_; exfalso; first | omega | ((try simp only [decide_eq_true_eq, decide_eq_false_iff_not] at h_); omega) | (simp [mulSz, Cont.len, bne] at h_; first | done | omega))); intro _; conv => whnf)
      | (refine ⟨0, (show _ = _ by omega), ?_⟩; conv => whnf))
    refine .inl ⟨(), [0, 1], ?_⟩
    conv => whnf
    repeat' (first | exact True.intro | rfl | refine And.intro ?_ ?_)
    all_goals (conv => whnf)
    repeat' (first | exact True.intro | rfl | refine And.intro ?_ ?_)
    all_goals (try omega)
  )
end Go.Proofs.Ythhbcgnpbfmonaa

set_option linter.unusedVariables false
set_option linter.unusedSimpArgs false
namespace Go.Proofs.Ythhbcgnpbfmonaa
open Go Go.Fw
noncomputable def c20 : Code := (Try.f20.body).getD .skip
set_option maxHeartbeats 0 in
set_option maxRecDepth 100000 in
theorem cnt_y (n : Int) (h : 0 ≤ n ∧ n ≤ 65536) : QFits Try.prog 20 ⟨[.int .i64 n], [], .bool true⟩ := by
  refine qfits_of_body (C := cfgs 0) (c := c20) (ts := [2]) tokL mixedL (fun _ => none) (fun _ => none)
    Try.func20 (by kernel_rfl) (by kernel_rfl) (by kernel_rfl) (by kernel_rfl) (by kernel_rfl) rfl rfl ?_
  conv => whnf
  repeat (first
    | (refine And.intro ?_ ?_; (focus (first | omega | decide | exact Int.natCast_nonneg _ | ((repeat' refine And.intro ?_ ?_) <;> first | omega | exact Int.natCast_nonneg _ | (simp only [i64max, u8max, u16max, u32max, u64max]; omega) | (simp only [mulSz_eq, Cont.len, colsLen, Col.len, List.length_cons, List.length_nil, List.length_replicate, List.length_append]; first | done | omega) | (simp [mulSz, Cont.len, bne]; first | done | omega)))); conv => whnf)
    | (refine tst_in ?_ ?_; (focus (intro h_; exfalso; first | omega | ((try simp only [decide_eq_true_eq, decide_eq_false_iff_not] at h_); omega) | (simp [mulSz, Cont.len, bne] at h_; first | done | omega))); intro _; conv => whnf)
    | (refine tst_in ?_ ?_; rotate_left; (focus (intro h_; exfalso; first | omega | ((try simp only [decide_eq_true_eq, decide_eq_false_iff_not] at h_); omega) | (simp [mulSz, Cont.len, bne] at h_; first | done | omega))); intro _; conv => whnf)
    | (refine ⟨0, (show _ = _ by omega), ?_⟩; conv => whnf))
  have : decide (n ≤ 65536) = true := decide_eq_true h.2
  first | (rw [dLe_eq]; exact this.symm) | exact this.symm | rfl
set_option maxHeartbeats 0 in
set_option maxRecDepth 100000 in
theorem cnt_n (n : Int) (h : n < 0 ∨ 65536 < n) : QFits Try.prog 20 ⟨[.int .i64 n], [], .bool false⟩ := by
  refine qfits_of_body (C := cfgs 0) (c := c20) (ts := [2]) tokL mixedL (fun _ => none) (fun _ => none)
    Try.func20 (by kernel_rfl) (by kernel_rfl) (by kernel_rfl) (by kernel_rfl) (by kernel_rfl) rfl rfl ?_
  have : ¬ (0 ≤ n ∧ n ≤ 65536) := by omega
  rcases h with h | h
  · skip
    conv => whnf
    repeat (first
      | (refine And.intro ?_ ?_; (focus (first | omega | decide | exact Int.natCast_nonneg _ | ((repeat' refine And.intro ?_ ?_) <;> first | omega | exact Int.natCast_nonneg _ | (simp only [i64max, u8max, u16max, u32max, u64max]; omega) | (simp only [mulSz_eq, Cont.len, colsLen, Col.len, List.length_cons, List.length_nil, List.length_replicate, List.length_append]; first | done | omega) | (simp [mulSz, Cont.len, bne]; first | done | omega)))); conv => whnf)
      | (refine tst_in ?_ ?_; (focus (intro h_; exfalso; first | omega | ((try simp only [decide_eq_true_eq, decide_eq_false_iff_not] at h_); omega) | (simp [mulSz, Cont.len, bne] at h_; first | done | omega))); intro _; conv => whnf)
      | (refine tst_in ?_ ?_; rotate_left; (focus (intro h_; exfalso; first | omega | ((try simp only [decide_eq_true_eq, decide_eq_false_iff_not] at h_); omega) | (simp [mulSz, Cont.len, bne] at h_; first | done | omega))); intro _; conv => whnf)
      | (refine ⟨0, (show _ = _ by omega), ?_⟩; conv => whnf))
    first | rfl | skip
  · skip
    conv => whnf
    repeat (first
      | (refine And.intro ?_ ?_; (focus (first | omega | decide | exact Int.natCast_nonneg _ | ((repeat' refine And.intro ?_ ?_) <;> first | omega | exact Int.natCast_nonneg _ | (simp only [i64max, u8max, u16max, u32max, u64max]; omega) | (simp only [mulSz_eq, Cont.len, colsLen, Col.len, List.length_cons, List.length_nil, List.length_replicate, List.length_append]; first | done | omega) | (simp [mulSz, Cont.len, bne]; first | done | omega)))); conv => whnf)
      | (refine tst_in ?_ ?_; (focus (intro h_; exfalso; first | omega | ((try simp only [decide_eq_true_eq, decide_eq_false_iff_not] at h_); omega) | (simp [mulSz, Cont.len, bne] at h_; first | done | omega))); intro _; conv => whnf)
      | (refine tst_in ?_ ?_; rotate_left; (focus (intro h_; exfalso; first | omega | ((try simp only [decide_eq_true_eq, decide_eq_false_iff_not] at h_); omega) | (simp [mulSz, Cont.len, bne] at h_; first | done | omega))); intro _; conv => whnf)
      | (refine ⟨0, (show _ = _ by omega), ?_⟩; conv => whnf))
    have : decide (n ≤ 65536) = false := decide_eq_false (by omega)
    first | (rw [dLe_eq]; exact this.symm) | exact this.symm | rfl
noncomputable def c16 : Code := (Try.f16.body).getD .skip
def slF {α : Type} (z : α) (F : Nat → α) (at_ by_ i : Nat) : α := if i < at_ then F i else if i < at_ + by_ then z else F (i - by_)
def A4 (F : Nat → Nat × Nat) (at_ N : Nat) : List (Nat × Nat) := tb (fun i => if i < at_ then F i else (0, 0)) N
def B4 (G : Nat → Bool) (at_ N k : Nat) : List Bool := tb (fun i => if i < at_ then G i else decide (i < at_ + k)) N
def st4 (F : Nat → Nat × Nat) (G : Nat → Bool) (tA : List (Nat × Nat)) (tB : List Bool) (n r at_ by_ k : Nat) : St :=
  ⟨slotsAt 89 [(0, .slice 0 0 n (n + r)), (1, .int .i64 at_), (2, .int .i64 by_), (8, .slice 1 0 (n + by_) (n + by_)), (68, .int .i64 by_), (69, .int .i64 k)], [rowS false (tb F n ++ tA) (tb G n ++ tB), rowS true (A4 F at_ (n + by_)) (B4 G at_ (n + by_) k)]⟩
def inv4 (F : Nat → Nat × Nat) (G : Nat → Bool) (tA : List (Nat × Nat)) (tB : List Bool) (n r at_ by_ : Nat) : LInv := ⟨Nat, fun k => st4 F G tA tB n r at_ by_ k, fun k => k ≤ by_, fun k => by_ - k⟩
def slOut (F : Nat → Nat × Nat) (G : Nat → Bool) (N : Nat) : FOut := ⟨Unit, fun _ => True, fun _ => .tup [.slice 1 0 N N, .int .i64 0], fun _ => [.dead, rowS true (tb F N) (tb G N)]⟩
set_option maxHeartbeats 0 in
set_option maxRecDepth 100000 in
theorem Slide_f (F : Nat → Nat × Nat) (G : Nat → Bool) (tA : List (Nat × Nat)) (tB : List Bool) (n r at_ by_ : Nat) (hA : tA.length = r) (hB : tB.length = r) (hat : at_ ≤ n) (hby : by_ ≤ 1024) (hN : n + by_ ≤ 65536) :
    Fits Try.prog 16 ⟨[.slice 0 0 n (n + r), .int .i64 at_, .int .i64 by_], [rowS false (tb F n ++ tA) (tb G n ++ tB)], [slOut (slF (0, 0) F at_ by_) (slF true G at_ by_) (n + by_)]⟩ := by
  have IC := cnt_y n (by omega)
  refine fits_of_body (C := cfgs 1) (c := c16) (ts := [6, 7]) tokL mixedL (fun | 11 => some (inv4 F G tA tB n r at_ by_) | _ => none) (fun _ => none)
    Try.func16 (by kernel_rfl) (by kernel_rfl) (by kernel_rfl) (by kernel_rfl) rfl ?_
  conv => whnf
  repeat (first
    | (refine And.intro ?_ ?_; (focus (first | omega | decide | exact Int.natCast_nonneg _ | ((repeat' refine And.intro ?_ ?_) <;> first | omega | exact Int.natCast_nonneg _ | (simp only [i64max, u8max, u16max, u32max, u64max]; omega) | (simp only [mulSz_eq, Cont.len, colsLen, Col.len, List.length_cons, List.length_nil, List.length_replicate, List.length_append]; first | done | omega) | (simp [mulSz, Cont.len, bne]; first | done | omega)))); conv => whnf)
    | (refine tst_in ?_ ?_; (focus (intro h_; exfalso; first | omega | ((try simp only [decide_eq_true_eq, decide_eq_false_iff_not] at h_); omega) | (simp [mulSz, Cont.len, bne] at h_; first | done | omega))); intro _; conv => whnf)
    | (refine tst_in ?_ ?_; rotate_left; (focus (intro h_; exfalso; first | omega | ((try simp only [decide_eq_true_eq, decide_eq_false_iff_not] at h_); omega) | (simp [mulSz, Cont.len, bne] at h_; first | done | omega))); intro _; conv => whnf)
    | (refine ⟨0, (show _ = _ by omega), ?_⟩; conv => whnf))
  refine ⟨_, [], IC, ?_⟩
  conv => whnf
  iterate 2
   refine And.intro ?_ ?_
   focus
    conv => whnf
    repeat' (first | exact True.intro | rfl | refine And.intro ?_ ?_ | omega)
    all_goals (conv => whnf)
    all_goals (try (first | rfl | omega | (simp; done)))
  conv => whnf
  conv => whnf
  repeat (first
    | (refine And.intro ?_ ?_; (focus (first | omega | decide | exact Int.natCast_nonneg _ | ((repeat' refine And.intro ?_ ?_) <;> first | omega | exact Int.natCast_nonneg _ | (simp only [i64max, u8max, u16max, u32max, u64max]; omega) | (simp only [mulSz_eq, Cont.len, colsLen, Col.len, List.length_cons, List.length_nil, List.length_replicate, List.length_append, tab_len, hA, hB]; first | done | omega) | (simp [mulSz, Cont.len, bne, tab_len, hA, hB]; first | done | omega)))); conv => whnf)
    | (refine tst_in ?_ ?_; (focus (intro h_; exfalso; first | omega | ((try simp only [decide_eq_true_eq, decide_eq_false_iff_not] at h_); omega) | (simp [mulSz, Cont.len, bne, tab_len, hA, hB] at h_; first | done | omega))); intro _; conv => whnf)
    | (refine tst_in ?_ ?_; rotate_left; (focus (intro h_; exfalso; first | omega | ((try simp only [decide_eq_true_eq, decide_eq_false_iff_not] at h_); omega) | (simp [mulSz, Cont.len, bne, tab_len, hA, hB] at h_; first | done | omega))); intro _; conv => whnf)
    | (refine ⟨0, (show _ = _ by omega), ?_⟩; conv => whnf))
  have e1 : (↑at_ : Int).toNat = at_ := by omega
  have e2 : (↑n + ↑by_ : Int).toNat = n + by_ := by omega
  rw [e1, e2, Nat.min_eq_left (by omega)]
  refine ⟨⟨[0, 1], (0 : Nat), ?_, Nat.zero_le _⟩, ?_⟩
  · show stLe _ _ (st4 F G tA tB n r at_ by_ 0) _
    conv => whnf
    repeat' (first | exact True.intro | rfl | refine And.intro ?_ ?_)
    all_goals (conv => whnf)
    repeat' (first | exact True.intro | rfl | refine And.intro ?_ ?_)
    all_goals (try omega)
    · unfold A4
      refine row_ext ((0, 0)) ?_ ?_
      · simp only [List.length_append, List.length_take, List.length_drop, List.length_set, List.length_replicate, tab_len, List.length_map, List.length_range, List.length_cons, List.length_nil]
        try omega
      · intro i_ hi_
        simp only [List.length_append, List.length_take, List.length_drop, List.length_set, List.length_replicate, tab_len, List.length_map, List.length_range, List.length_cons, List.length_nil] at hi_
        simp only [g_app, g_take, g_drop, g_set, g_rep, g_tab, g_one, g_nil, List.length_append, List.length_take, List.length_drop, List.length_set, List.length_replicate, tab_len, List.length_map, List.length_range, List.length_cons, List.length_nil]
        repeat' split
        all_goals (try (first | rfl | omega | (congr 1; omega) | (simp; omega) | (rw [decide_eq_decide]; omega) | (symm; simp; omega)))
    · unfold B4
      refine row_ext (false) ?_ ?_
      · simp only [List.length_append, List.length_take, List.length_drop, List.length_set, List.length_replicate, tab_len, List.length_map, List.length_range, List.length_cons, List.length_nil]
        try omega
      · intro i_ hi_
        simp only [List.length_append, List.length_take, List.length_drop, List.length_set, List.length_replicate, tab_len, List.length_map, List.length_range, List.length_cons, List.length_nil] at hi_
        simp only [g_app, g_take, g_drop, g_set, g_rep, g_tab, g_one, g_nil, List.length_append, List.length_take, List.length_drop, List.length_set, List.length_replicate, tab_len, List.length_map, List.length_range, List.length_cons, List.length_nil]
        repeat' split
        all_goals (try (first | rfl | omega | (congr 1; omega) | (simp; omega) | (rw [decide_eq_decide]; omega) | (symm; simp; omega)))
  · intro (k : Nat) (hk : k ≤ by_)
    show forceSt (st4 F G tA tB n r at_ by_ k) _
    conv => whnf
    refine tst_in (fun hlt => ?_) (fun hge => ?_)
    · skip
      have hlt : k < by_ := by simp at hlt; omega
      conv => whnf
      repeat (first
        | (refine And.intro ?_ ?_; (focus (first | omega | decide | exact Int.natCast_nonneg _ | ((repeat' refine And.intro ?_ ?_) <;> first | omega | exact Int.natCast_nonneg _ | (simp only [i64max, u8max, u16max, u32max, u64max]; omega) | (simp only [mulSz_eq, Cont.len, colsLen, Col.len, List.length_cons, List.length_nil, List.length_replicate, List.length_append, A4, B4, tab_len]; first | done | omega) | (simp [mulSz, Cont.len, bne, A4, B4, tab_len]; first | done | omega)))); conv => whnf)
        | (refine tst_in ?_ ?_; (focus (intro h_; exfalso; first | omega | ((try simp only [decide_eq_true_eq, decide_eq_false_iff_not] at h_); omega) | (simp [mulSz, Cont.len, bne, A4, B4, tab_len] at h_; first | done | omega))); intro _; conv => whnf)
        | (refine tst_in ?_ ?_; rotate_left; (focus (intro h_; exfalso; first | omega | ((try simp only [decide_eq_true_eq, decide_eq_false_iff_not] at h_); omega) | (simp [mulSz, Cont.len, bne, A4, B4, tab_len] at h_; first | done | omega))); intro _; conv => whnf)
        | (refine ⟨(at_+k), (show _ = _ by omega), ?_⟩; conv => whnf)
        | (refine ⟨(at_+k), 0, (show _ = _ by omega), ?_⟩; conv => whnf)
        | (refine ⟨(at_+k), 1, (show _ = _ by omega), ?_⟩; conv => whnf)
        | (refine ⟨(at_+k), 2, (show _ = _ by omega), ?_⟩; conv => whnf)
        | (refine ⟨0, (show _ = _ by omega), ?_⟩; conv => whnf))
      refine ⟨[0, 1], k + 1, ?_, (by show k + 1 ≤ by_; omega), (by show by_ - (k + 1) < by_ - k; omega)⟩
      show stLe _ _ (st4 F G tA tB n r at_ by_ (k + 1)) _
      conv => whnf
      repeat' (first | exact True.intro | rfl | refine And.intro ?_ ?_)
      all_goals (conv => whnf)
      repeat' (first | exact True.intro | rfl | refine And.intro ?_ ?_)
      all_goals (try omega)
      unfold B4
      refine row_ext (false) ?_ ?_
      · simp only [List.length_append, List.length_take, List.length_drop, List.length_set, List.length_replicate, tab_len, List.length_map, List.length_range, List.length_cons, List.length_nil]
        try omega
      · intro i_ hi_
        simp only [List.length_append, List.length_take, List.length_drop, List.length_set, List.length_replicate, tab_len, List.length_map, List.length_range, List.length_cons, List.length_nil] at hi_
        simp only [g_app, g_take, g_drop, g_set, g_rep, g_tab, g_one, g_nil, List.length_append, List.length_take, List.length_drop, List.length_set, List.length_replicate, tab_len, List.length_map, List.length_range, List.length_cons, List.length_nil]
        repeat' split
        all_goals (try (first | rfl | omega | (congr 1; omega) | (simp; omega) | (rw [decide_eq_decide]; omega) | (symm; simp; omega)))
    · skip
      have hge : k = by_ := by simp at hge; omega
      subst hge
      conv => whnf
      repeat (first
        | (refine And.intro ?_ ?_; (focus (first | omega | decide | exact Int.natCast_nonneg _ | ((repeat' refine And.intro ?_ ?_) <;> first | omega | exact Int.natCast_nonneg _ | (simp only [i64max, u8max, u16max, u32max, u64max]; omega) | (simp only [mulSz_eq, Cont.len, colsLen, Col.len, List.length_cons, List.length_nil, List.length_replicate, List.length_append, A4, B4, tab_len]; first | done | omega) | (simp [mulSz, Cont.len, bne, A4, B4, tab_len]; first | done | omega)))); conv => whnf)
        | (refine tst_in ?_ ?_; (focus (intro h_; exfalso; first | omega | ((try simp only [decide_eq_true_eq, decide_eq_false_iff_not] at h_); omega) | (simp [mulSz, Cont.len, bne, A4, B4, tab_len] at h_; first | done | omega))); intro _; conv => whnf)
        | (refine tst_in ?_ ?_; rotate_left; (focus (intro h_; exfalso; first | omega | ((try simp only [decide_eq_true_eq, decide_eq_false_iff_not] at h_); omega) | (simp [mulSz, Cont.len, bne, A4, B4, tab_len] at h_; first | done | omega))); intro _; conv => whnf)
        | (refine ⟨(at_+k), (show _ = _ by omega), ?_⟩; conv => whnf)
        | (refine ⟨(at_+k), 0, (show _ = _ by omega), ?_⟩; conv => whnf)
        | (refine ⟨(at_+k), 1, (show _ = _ by omega), ?_⟩; conv => whnf)
        | (refine ⟨(at_+k), 2, (show _ = _ by omega), ?_⟩; conv => whnf)
        | (refine ⟨(at_), (show _ = _ by omega), ?_⟩; conv => whnf)
        | (refine ⟨(at_), 0, (show _ = _ by omega), ?_⟩; conv => whnf)
        | (refine ⟨(at_), 1, (show _ = _ by omega), ?_⟩; conv => whnf)
        | (refine ⟨(at_), 2, (show _ = _ by omega), ?_⟩; conv => whnf)
        | (refine ⟨0, (show _ = _ by omega), ?_⟩; conv => whnf))
      have e3 : (↑at_ + ↑k : Int).toNat = at_ + k := by omega
      rw [e1, e3]
      refine .inl ⟨(), [0, 1], ?_⟩
      conv => whnf
      repeat' (first | exact True.intro | rfl | refine And.intro ?_ ?_)
      all_goals (conv => whnf)
      repeat' (first | exact True.intro | rfl | refine And.intro ?_ ?_)
      all_goals (try omega)
      · unfold A4 slF
        refine row_ext ((0, 0)) ?_ ?_
        · simp only [List.length_append, List.length_take, List.length_drop, List.length_set, List.length_replicate, tab_len, List.length_map, List.length_range, List.length_cons, List.length_nil]
          try omega
        · intro i_ hi_
          simp only [List.length_append, List.length_take, List.length_drop, List.length_set, List.length_replicate, tab_len, List.length_map, List.length_range, List.length_cons, List.length_nil] at hi_
          simp only [g_app, g_take, g_drop, g_set, g_rep, g_tab, g_one, g_nil, List.length_append, List.length_take, List.length_drop, List.length_set, List.length_replicate, tab_len, List.length_map, List.length_range, List.length_cons, List.length_nil]
          repeat' split
          all_goals (try (first | rfl | omega | (congr 1; omega) | (simp; omega) | (rw [decide_eq_decide]; omega) | (symm; simp; omega)))
      · unfold B4 slF
        refine row_ext (false) ?_ ?_
        · simp only [List.length_append, List.length_take, List.length_drop, List.length_set, List.length_replicate, tab_len, List.length_map, List.length_range, List.length_cons, List.length_nil]
          try omega
        · intro i_ hi_
          simp only [List.length_append, List.length_take, List.length_drop, List.length_set, List.length_replicate, tab_len, List.length_map, List.length_range, List.length_cons, List.length_nil] at hi_
          simp only [g_app, g_take, g_drop, g_set, g_rep, g_tab, g_one, g_nil, List.length_append, List.length_take, List.length_drop, List.length_set, List.length_replicate, tab_len, List.length_map, List.length_range, List.length_cons, List.length_nil]
          repeat' split
          all_goals (try (first | rfl | omega | (congr 1; omega) | (simp; omega) | (rw [decide_eq_decide]; omega) | (symm; simp; omega)))
def dropF {α : Type} (F : Nat → α) (at_ b i : Nat) : α := if i < at_ then F i else F (i + b)
theorem cop0 {α : Type} (z : α) (F : Nat → α) (t : List α) (n at_ N : Nat) (h : at_ ≤ n) (h' : at_ ≤ N) :
    List.take 0 (List.replicate N z) ++ List.take at_ (List.drop 0 (tb F n ++ t)) ++ List.drop (0 + (List.take at_ (List.drop 0 (tb F n ++ t))).length) (List.replicate N z) = tb (fun i => if i < at_ then F i else z) N := by
  refine row_ext (z) ?_ ?_
  · simp only [List.length_append, List.length_take, List.length_drop, List.length_set, List.length_replicate, tab_len, List.length_map, List.length_range, List.length_cons, List.length_nil]
    try omega
  · intro i_ hi_
    simp only [List.length_append, List.length_take, List.length_drop, List.length_set, List.length_replicate, tab_len, List.length_map, List.length_range, List.length_cons, List.length_nil] at hi_
    simp only [g_app, g_take, g_drop, g_set, g_rep, g_tab, g_one, g_nil, List.length_append, List.length_take, List.length_drop, List.length_set, List.length_replicate, tab_len, List.length_map, List.length_range, List.length_cons, List.length_nil]
    repeat' split
    all_goals (try (first | rfl | omega | (congr 1; omega) | (simp; omega) | (rw [decide_eq_decide]; omega) | (symm; simp; omega)))
set_option maxHeartbeats 0 in
set_option maxRecDepth 100000 in
theorem Slide_n (F : Nat → Nat × Nat) (G : Nat → Bool) (tA : List (Nat × Nat)) (tB : List Bool) (n r at_ b : Nat) (hA : tA.length = r) (hB : tB.length = r) (hb : 0 < b) (hat : at_ + b ≤ n) (hby : b ≤ 1024) (hN : n ≤ 65536) :
    Fits Try.prog 16 ⟨[.slice 0 0 n (n + r), .int .i64 at_, .int .i64 (-(b : Int))], [rowS false (tb F n ++ tA) (tb G n ++ tB)], [slOut (dropF F at_ b) (dropF G at_ b) (n - b)]⟩ := by
  have IC := cnt_y n (by omega)
  refine fits_of_body (C := cfgs 1) (c := c16) (ts := [6, 7]) tokL mixedL (fun _ => none) (fun _ => none)
    Try.func16 (by kernel_rfl) (by kernel_rfl) (by kernel_rfl) (by kernel_rfl) rfl ?_
  conv => whnf
  repeat (first
    | (refine And.intro ?_ ?_; (focus (first | omega | decide | exact Int.natCast_nonneg _ | ((repeat' refine And.intro ?_ ?_) <;> first | omega | exact Int.natCast_nonneg _ | (simp only [i64max, u8max, u16max, u32max, u64max]; omega) | (simp only [mulSz_eq, Cont.len, colsLen, Col.len, List.length_cons, List.length_nil, List.length_replicate, List.length_append]; first | done | omega) | (simp [mulSz, Cont.len, bne]; first | done | omega)))); conv => whnf)
    | (refine tst_in ?_ ?_; (focus (intro h_; exfalso; first | omega | ((try simp only [decide_eq_true_eq, decide_eq_false_iff_not] at h_); omega) | (simp [mulSz, Cont.len, bne] at h_; first | done | omega))); intro _; conv => whnf)
    | (refine tst_in ?_ ?_; rotate_left; (focus (intro h_; exfalso; first | omega | ((try simp only [decide_eq_true_eq, decide_eq_false_iff_not] at h_); omega) | (simp [mulSz, Cont.len, bne] at h_; first | done | omega))); intro _; conv => whnf)
    | (refine ⟨0, (show _ = _ by omega), ?_⟩; conv => whnf))
  refine ⟨_, [], IC, ?_⟩
  conv => whnf
  iterate 2
   refine And.intro ?_ ?_
   focus
    conv => whnf
    repeat' (first | exact True.intro | rfl | refine And.intro ?_ ?_ | omega)
    all_goals (conv => whnf)
    all_goals (try (first | rfl | omega | (simp; done)))
  conv => whnf
  conv => whnf
  repeat (first
    | (refine And.intro ?_ ?_; (focus (first | omega | decide | exact Int.natCast_nonneg _ | ((repeat' refine And.intro ?_ ?_) <;> first | omega | exact Int.natCast_nonneg _ | (simp only [i64max, u8max, u16max, u32max, u64max]; omega) | (simp only [mulSz_eq, Cont.len, colsLen, Col.len, List.length_cons, List.length_nil, List.length_replicate, List.length_append, tab_len, hA, hB]; first | done | omega) | (simp [mulSz, Cont.len, bne, tab_len, hA, hB]; first | done | omega)))); conv => whnf)
    | (refine tst_in ?_ ?_; (focus (intro h_; exfalso; first | omega | ((try simp only [decide_eq_true_eq, decide_eq_false_iff_not] at h_); omega) | (simp [mulSz, Cont.len, bne, tab_len, hA, hB] at h_; first | done | omega))); intro _; conv => whnf)
    | (refine tst_in ?_ ?_; rotate_left; (focus (intro h_; exfalso; first | omega | ((try simp only [decide_eq_true_eq, decide_eq_false_iff_not] at h_); omega) | (simp [mulSz, Cont.len, bne, tab_len, hA, hB] at h_; first | done | omega))); intro _; conv => whnf)
    | (refine ⟨(at_), (show _ = _ by omega), ?_⟩; conv => whnf)
    | (refine ⟨(at_), 0, (show _ = _ by omega), ?_⟩; conv => whnf)
    | (refine ⟨(at_), 1, (show _ = _ by omega), ?_⟩; conv => whnf)
    | (refine ⟨(at_), 2, (show _ = _ by omega), ?_⟩; conv => whnf)
    | (refine ⟨(at_+b), (show _ = _ by omega), ?_⟩; conv => whnf)
    | (refine ⟨(at_+b), 0, (show _ = _ by omega), ?_⟩; conv => whnf)
    | (refine ⟨(at_+b), 1, (show _ = _ by omega), ?_⟩; conv => whnf)
    | (refine ⟨(at_+b), 2, (show _ = _ by omega), ?_⟩; conv => whnf)
    | (refine ⟨0, (show _ = _ by omega), ?_⟩; conv => whnf))
  have e1 : (↑at_ : Int).toNat = at_ := by omega
  have e2 : (↑n + -↑b : Int).toNat = n - b := by omega
  have e3 : (↑at_ - -↑b : Int).toNat = at_ + b := by omega
  rw [e1, e2, e3, Nat.min_eq_left (show at_ ≤ n - b by omega), Nat.min_eq_left (show n - (at_ + b) ≤ n - b - at_ by omega), cop0 (0, 0) F tA n at_ (n - b) (by omega) (by omega), cop0 false G tB n at_ (n - b) (by omega) (by omega)]
  conv => whnf
  repeat (first
    | (refine And.intro ?_ ?_; (focus (first | omega | decide | exact Int.natCast_nonneg _ | ((repeat' refine And.intro ?_ ?_) <;> first | omega | exact Int.natCast_nonneg _ | (simp only [i64max, u8max, u16max, u32max, u64max]; omega) | (simp only [mulSz_eq, Cont.len, colsLen, Col.len, List.length_cons, List.length_nil, List.length_replicate, List.length_append, tab_len, hA, hB]; first | done | omega) | (simp [mulSz, Cont.len, bne, tab_len, hA, hB]; first | done | omega)))); conv => whnf)
    | (refine tst_in ?_ ?_; (focus (intro h_; exfalso; first | omega | ((try simp only [decide_eq_true_eq, decide_eq_false_iff_not] at h_); omega) | (simp [mulSz, Cont.len, bne, tab_len, hA, hB] at h_; first | done | omega))); intro _; conv => whnf)
    | (refine tst_in ?_ ?_; rotate_left; (focus (intro h_; exfalso; first | omega | ((try simp only [decide_eq_true_eq, decide_eq_false_iff_not] at h_); omega) | (simp [mulSz, Cont.len, bne, tab_len, hA, hB] at h_; first | done | omega))); intro _; conv => whnf)
    | (refine ⟨(at_), (show _ = _ by omega), ?_⟩; conv => whnf)
    | (refine ⟨(at_), 0, (show _ = _ by omega), ?_⟩; conv => whnf)
    | (refine ⟨(at_), 1, (show _ = _ by omega), ?_⟩; conv => whnf)
    | (refine ⟨(at_), 2, (show _ = _ by omega), ?_⟩; conv => whnf)
    | (refine ⟨(at_+b), (show _ = _ by omega), ?_⟩; conv => whnf)
    | (refine ⟨(at_+b), 0, (show _ = _ by omega), ?_⟩; conv => whnf)
    | (refine ⟨(at_+b), 1, (show _ = _ by omega), ?_⟩; conv => whnf)
    | (refine ⟨(at_+b), 2, (show _ = _ by omega), ?_⟩; conv => whnf)
    | (refine ⟨0, (show _ = _ by omega), ?_⟩; conv => whnf))
  refine .inl ⟨(), [0, 1], ?_⟩
  conv => whnf
  repeat' (first | exact True.intro | rfl | refine And.intro ?_ ?_)
  all_goals (conv => whnf)
  repeat' (first | exact True.intro | rfl | refine And.intro ?_ ?_)
  all_goals (try omega)
  · unfold dropF
    refine row_ext ((0, 0)) ?_ ?_
    · simp only [List.length_append, List.length_take, List.length_drop, List.length_set, List.length_replicate, tab_len, List.length_map, List.length_range, List.length_cons, List.length_nil]
      try omega
    · intro i_ hi_
      simp only [List.length_append, List.length_take, List.length_drop, List.length_set, List.length_replicate, tab_len, List.length_map, List.length_range, List.length_cons, List.length_nil] at hi_
      simp only [g_app, g_take, g_drop, g_set, g_rep, g_tab, g_one, g_nil, List.length_append, List.length_take, List.length_drop, List.length_set, List.length_replicate, tab_len, List.length_map, List.length_range, List.length_cons, List.length_nil]
      repeat' split
      all_goals (try (first | rfl | omega | (congr 1; omega) | (simp; omega) | (rw [decide_eq_decide]; omega) | (symm; simp; omega)))
  · unfold dropF
    refine row_ext (false) ?_ ?_
    · simp only [List.length_append, List.length_take, List.length_drop, List.length_set, List.length_replicate, tab_len, List.length_map, List.length_range, List.length_cons, List.length_nil]
      try omega
    · intro i_ hi_
      simp only [List.length_append, List.length_take, List.length_drop, List.length_set, List.length_replicate, tab_len, List.length_map, List.length_range, List.length_cons, List.length_nil] at hi_
      simp only [g_app, g_take, g_drop, g_set, g_rep, g_tab, g_one, g_nil, List.length_append, List.length_take, List.length_drop, List.length_set, List.length_replicate, tab_len, List.length_map, List.length_range, List.length_cons, List.length_nil]
      repeat' split
      all_goals (try (first | rfl | omega | (congr 1; omega) | (simp; omega) | (rw [decide_eq_decide]; omega) | (symm; simp; omega)))
end Go.Proofs.Ythhbcgnpbfmonaa

set_option linter.unusedVariables false
set_option linter.unusedSimpArgs false
namespace Go.Proofs.Ythhbcgnpbfmonaa
open Go Go.Fw
def noOut : FOut := ⟨Unit, fun _ => True, fun _ => .tup [.nils, .int .i64 1], fun _ => [.dead]⟩
/-- What a slide is refused for. -/
def badL (n : Nat) (a b : Int) : Prop := 65536 < n ∨ (n ≤ 65536 ∧ a < 0) ∨ (n ≤ 65536 ∧ 0 ≤ a ∧ (n : Int) < a) ∨ (n ≤ 65536 ∧ 0 ≤ a ∧ a ≤ n ∧ b < -1024) ∨ (n ≤ 65536 ∧ 0 ≤ a ∧ a ≤ n ∧ 1024 < b)
  ∨ (n ≤ 65536 ∧ 0 ≤ a ∧ a ≤ n ∧ -1024 ≤ b ∧ b < 0 ∧ (n : Int) - a < -b) ∨ (n ≤ 65536 ∧ 0 ≤ a ∧ a ≤ n ∧ 0 ≤ b ∧ b ≤ 1024 ∧ 65536 < n + b)
set_option maxHeartbeats 0 in
set_option maxRecDepth 100000 in
theorem rSlide_n (A : List (Nat × Nat)) (B : List Bool) (n ca : Nat) (a b : Int) (hn : n ≤ 5864062014634) (h : badL n a b) :
    Fits Try.prog 17 ⟨[.slice 0 0 n ca, .int .i64 a, .int .i64 b], [rowS false A B], [noOut]⟩ := by
  refine fits_of_body (C := cfgs 1) (c := (Try.f17.body).getD .skip) (ts := [6, 7]) tokL mixedL (fun _ => none) (fun _ => none)
    Try.func17 (by kernel_rfl) (by kernel_rfl) (by kernel_rfl) (by kernel_rfl) rfl ?_
  rcases h with h | h | h | h | h | h | h
  all_goals (
    conv => whnf
    repeat (first
      | (refine And.intro ?_ ?_; (focus (first | omega | decide | exact Int.natCast_nonneg _ | ((repeat' refine And.intro ?_ ?_) <;> first | omega | exact Int.natCast_nonneg _ | (simp only [i64max, u8max, u16max, u32max, u64max]; omega) | (simp only [mulSz_eq, Cont.len, colsLen, Col.len, List.length_cons, List.length_nil, List.length_replicate, List.length_append]; first | done | omega) | (simp [mulSz, Cont.len, bne]; first | done | omega)))); conv => whnf)
      | (refine tst_in ?_ ?_; (focus (intro h_; exfalso; first | omega | ((try simp only [decide_eq_true_eq, decide_eq_false_iff_not] at h_); omega) | (simp [mulSz, Cont.len, bne] at h_; first | done | omega))); intro _; conv => whnf)
      | (refine tst_in ?_ ?_; rotate_left; (focus (intro h_; exfalso; first | omega | ((try simp only [decide_eq_true_eq, decide_eq_false_iff_not] at h_); omega) | (simp [mulSz, Cont.len, bne] at h_; first | done | omega))); intro _; conv => whnf)
      | (refine ⟨0, (show _ = _ by omega), ?_⟩; conv => whnf))
    refine .inl ⟨(), [0], ?_⟩
    conv => whnf
    repeat' (first | exact True.intro | rfl | refine And.intro ?_ ?_)
    all_goals (conv => whnf)
    repeat' (first | exact True.intro | rfl | refine And.intro ?_ ?_)
    all_goals (try omega)
  )
set_option maxHeartbeats 0 in
set_option maxRecDepth 100000 in
theorem Slide_no (A : List (Nat × Nat)) (B : List Bool) (n ca : Nat) (a b : Int) (hn : n ≤ 5864062014634) (h : badL n a b) :
    Fits Try.prog 16 ⟨[.slice 0 0 n ca, .int .i64 a, .int .i64 b], [rowS false A B], [noOut]⟩ := by
  refine fits_of_body (C := cfgs 1) (c := c16) (ts := [6, 7]) tokL mixedL (fun _ => none) (fun _ => none)
    Try.func16 (by kernel_rfl) (by kernel_rfl) (by kernel_rfl) (by kernel_rfl) rfl ?_
  rcases h with h | h | h | h | h | h | h
  · have IC := cnt_n n (.inr (by omega))
    conv => whnf
    repeat (first
      | (refine And.intro ?_ ?_; (focus (first | omega | decide | exact Int.natCast_nonneg _ | ((repeat' refine And.intro ?_ ?_) <;> first | omega | exact Int.natCast_nonneg _ | (simp only [i64max, u8max, u16max, u32max, u64max]; omega) | (simp only [mulSz_eq, Cont.len, colsLen, Col.len, List.length_cons, List.length_nil, List.length_replicate, List.length_append]; first | done | omega) | (simp [mulSz, Cont.len, bne]; first | done | omega)))); conv => whnf)
      | (refine tst_in ?_ ?_; (focus (intro h_; exfalso; first | omega | ((try simp only [decide_eq_true_eq, decide_eq_false_iff_not] at h_); omega) | (simp [mulSz, Cont.len, bne] at h_; first | done | omega))); intro _; conv => whnf)
      | (refine tst_in ?_ ?_; rotate_left; (focus (intro h_; exfalso; first | omega | ((try simp only [decide_eq_true_eq, decide_eq_false_iff_not] at h_); omega) | (simp [mulSz, Cont.len, bne] at h_; first | done | omega))); intro _; conv => whnf)
      | (refine ⟨0, (show _ = _ by omega), ?_⟩; conv => whnf))
    refine ⟨_, [], IC, ?_⟩
    conv => whnf
    iterate 2
     refine And.intro ?_ ?_
     focus
      conv => whnf
      repeat' (first | exact True.intro | rfl | refine And.intro ?_ ?_ | omega)
      all_goals (conv => whnf)
      all_goals (try (first | rfl | omega | (simp; done)))
    conv => whnf
    conv => whnf
    repeat (first
      | (refine And.intro ?_ ?_; (focus (first | omega | decide | exact Int.natCast_nonneg _ | ((repeat' refine And.intro ?_ ?_) <;> first | omega | exact Int.natCast_nonneg _ | (simp only [i64max, u8max, u16max, u32max, u64max]; omega) | (simp only [mulSz_eq, Cont.len, colsLen, Col.len, List.length_cons, List.length_nil, List.length_replicate, List.length_append]; first | done | omega) | (simp [mulSz, Cont.len, bne]; first | done | omega)))); conv => whnf)
      | (refine tst_in ?_ ?_; (focus (intro h_; exfalso; first | omega | ((try simp only [decide_eq_true_eq, decide_eq_false_iff_not] at h_); omega) | (simp [mulSz, Cont.len, bne] at h_; first | done | omega))); intro _; conv => whnf)
      | (refine tst_in ?_ ?_; rotate_left; (focus (intro h_; exfalso; first | omega | ((try simp only [decide_eq_true_eq, decide_eq_false_iff_not] at h_); omega) | (simp [mulSz, Cont.len, bne] at h_; first | done | omega))); intro _; conv => whnf)
      | (refine ⟨0, (show _ = _ by omega), ?_⟩; conv => whnf))
    refine .inl ⟨(), [0], ?_⟩
    conv => whnf
    repeat' (first | exact True.intro | rfl | refine And.intro ?_ ?_)
    all_goals (conv => whnf)
    repeat' (first | exact True.intro | rfl | refine And.intro ?_ ?_)
    all_goals (try omega)
  all_goals (
    have IC := cnt_y n (by omega)
    conv => whnf
    repeat (first
      | (refine And.intro ?_ ?_; (focus (first | omega | decide | exact Int.natCast_nonneg _ | ((repeat' refine And.intro ?_ ?_) <;> first | omega | exact Int.natCast_nonneg _ | (simp only [i64max, u8max, u16max, u32max, u64max]; omega) | (simp only [mulSz_eq, Cont.len, colsLen, Col.len, List.length_cons, List.length_nil, List.length_replicate, List.length_append]; first | done | omega) | (simp [mulSz, Cont.len, bne]; first | done | omega)))); conv => whnf)
      | (refine tst_in ?_ ?_; (focus (intro h_; exfalso; first | omega | ((try simp only [decide_eq_true_eq, decide_eq_false_iff_not] at h_); omega) | (simp [mulSz, Cont.len, bne] at h_; first | done | omega))); intro _; conv => whnf)
      | (refine tst_in ?_ ?_; rotate_left; (focus (intro h_; exfalso; first | omega | ((try simp only [decide_eq_true_eq, decide_eq_false_iff_not] at h_); omega) | (simp [mulSz, Cont.len, bne] at h_; first | done | omega))); intro _; conv => whnf)
      | (refine ⟨0, (show _ = _ by omega), ?_⟩; conv => whnf))
    refine ⟨_, [], IC, ?_⟩
    conv => whnf
    iterate 2
     refine And.intro ?_ ?_
     focus
      conv => whnf
      repeat' (first | exact True.intro | rfl | refine And.intro ?_ ?_ | omega)
      all_goals (conv => whnf)
      all_goals (try (first | rfl | omega | (simp; done)))
    conv => whnf
    conv => whnf
    repeat (first
      | (refine And.intro ?_ ?_; (focus (first | omega | decide | exact Int.natCast_nonneg _ | ((repeat' refine And.intro ?_ ?_) <;> first | omega | exact Int.natCast_nonneg _ | (simp only [i64max, u8max, u16max, u32max, u64max]; omega) | (simp only [mulSz_eq, Cont.len, colsLen, Col.len, List.length_cons, List.length_nil, List.length_replicate, List.length_append]; first | done | omega) | (simp [mulSz, Cont.len, bne]; first | done | omega)))); conv => whnf)
      | (refine tst_in ?_ ?_; (focus (intro h_; exfalso; first | omega | ((try simp only [decide_eq_true_eq, decide_eq_false_iff_not] at h_); omega) | (simp [mulSz, Cont.len, bne] at h_; first | done | omega))); intro _; conv => whnf)
      | (refine tst_in ?_ ?_; rotate_left; (focus (intro h_; exfalso; first | omega | ((try simp only [decide_eq_true_eq, decide_eq_false_iff_not] at h_); omega) | (simp [mulSz, Cont.len, bne] at h_; first | done | omega))); intro _; conv => whnf)
      | (refine ⟨0, (show _ = _ by omega), ?_⟩; conv => whnf))
    refine .inl ⟨(), [0], ?_⟩
    conv => whnf
    repeat' (first | exact True.intro | rfl | refine And.intro ?_ ?_)
    all_goals (conv => whnf)
    repeat' (first | exact True.intro | rfl | refine And.intro ?_ ?_)
    all_goals (try omega)
  )
end Go.Proofs.Ythhbcgnpbfmonaa

set_option linter.unusedVariables false
set_option linter.unusedSimpArgs false
namespace Go.Proofs.Ythhbcgnpbfmonaa
open Go Go.Fw
def okOut (x : AV) : AV := .tup [x, .int .i64 0]
noncomputable def c17 : Code := (Try.f17.body).getD .skip
def st17 (A : List (Nat × Nat)) (B : List Bool) (f : Nat → Nat × Nat) (g : Nat → Bool) (n ca at_ by_ k r : Nat) (t1 : List (Nat × Nat)) (t2 : List Bool) : St :=
  ⟨slotsAt 75 [(0, .slice 0 0 n ca), (1, .int .i64 at_), (2, .int .i64 by_), (8, .slice 1 0 (at_ + k) (at_ + k + r)), (9, .int .i64 k)], [rowS false A B, rowS true (tb f (at_ + k) ++ t1) (tb g (at_ + k) ++ t2)]⟩
def inv17 (A : List (Nat × Nat)) (B : List Bool) (f : Nat → Nat × Nat) (g : Nat → Bool) (n ca at_ by_ : Nat) : LInv :=
  ⟨Nat × Nat × List (Nat × Nat) × List Bool, fun t => st17 A B f g n ca at_ by_ t.1 t.2.1 t.2.2.1 t.2.2.2, fun t => t.1 ≤ by_ ∧ t.2.2.1.length = t.2.1 ∧ t.2.2.2.length = t.2.1, fun t => by_ - t.1⟩
set_option maxHeartbeats 0 in
set_option maxRecDepth 100000 in
theorem rSlide_y (F : Nat → Nat × Nat) (G : Nat → Bool) (tA : List (Nat × Nat)) (tB : List Bool) (n r at_ by_ : Nat) (hA : tA.length = r) (hB : tB.length = r) (hat : at_ ≤ n) (hby : by_ ≤ 1024) (hN : n + by_ ≤ 65536) :
    Fits Try.prog 17 ⟨[.slice 0 0 n (n + r), .int .i64 at_, .int .i64 by_], [rowS false (tb F n ++ tA) (tb G n ++ tB)], [rowOut [.dead] 1 okOut (slF (0, 0) F at_ by_) (slF true G at_ by_) (n + by_)]⟩ := by
  refine fits_of_body (C := cfgs 1) (c := c17) (ts := [6, 7]) tokL mixedL (fun | 6 => some (inv17 (tb F n ++ tA) (tb G n ++ tB) (slF (0, 0) F at_ by_) (slF true G at_ by_) n (n + r) at_ by_) | _ => none) (fun _ => none)
    Try.func17 (by kernel_rfl) (by kernel_rfl) (by kernel_rfl) (by kernel_rfl) rfl ?_
  have e1 : (↑at_ : Int).toNat = at_ := by omega
  conv => whnf
  repeat (first
    | (refine And.intro ?_ ?_; (focus (first | omega | decide | exact Int.natCast_nonneg _ | ((repeat' refine And.intro ?_ ?_) <;> first | omega | exact Int.natCast_nonneg _ | (simp only [i64max, u8max, u16max, u32max, u64max]; omega) | (simp only [mulSz_eq, Cont.len, colsLen, Col.len, List.length_cons, List.length_nil, List.length_replicate, List.length_append, tab_len, hA, hB, List.length_take, List.length_drop]; first | done | omega) | (simp [mulSz, Cont.len, bne, tab_len, hA, hB, List.length_take, List.length_drop]; first | done | omega)))); conv => whnf)
    | (refine tst_in ?_ ?_; (focus (intro h_; exfalso; first | omega | ((try simp only [decide_eq_true_eq, decide_eq_false_iff_not] at h_); omega) | (simp [mulSz, Cont.len, bne, tab_len, hA, hB, List.length_take, List.length_drop] at h_; first | done | omega))); intro _; conv => whnf)
    | (refine tst_in ?_ ?_; rotate_left; (focus (intro h_; exfalso; first | omega | ((try simp only [decide_eq_true_eq, decide_eq_false_iff_not] at h_); omega) | (simp [mulSz, Cont.len, bne, tab_len, hA, hB, List.length_take, List.length_drop] at h_; first | done | omega))); intro _; conv => whnf)
    | (refine ⟨0, (show _ = _ by omega), ?_⟩; conv => whnf))
  rw [e1]
  conv => whnf
  repeat (first
    | (refine And.intro ?_ ?_; (focus (first | omega | decide | exact Int.natCast_nonneg _ | ((repeat' refine And.intro ?_ ?_) <;> first | omega | exact Int.natCast_nonneg _ | (simp only [i64max, u8max, u16max, u32max, u64max]; omega) | (simp only [mulSz_eq, Cont.len, colsLen, Col.len, List.length_cons, List.length_nil, List.length_replicate, List.length_append, tab_len, hA, hB, List.length_take, List.length_drop]; first | done | omega) | (simp [mulSz, Cont.len, bne, tab_len, hA, hB, List.length_take, List.length_drop]; first | done | omega)))); conv => whnf)
    | (refine tst_in ?_ ?_; (focus (intro h_; exfalso; first | omega | ((try simp only [decide_eq_true_eq, decide_eq_false_iff_not] at h_); omega) | (simp [mulSz, Cont.len, bne, tab_len, hA, hB, List.length_take, List.length_drop] at h_; first | done | omega))); intro _; conv => whnf)
    | (refine tst_in ?_ ?_; rotate_left; (focus (intro h_; exfalso; first | omega | ((try simp only [decide_eq_true_eq, decide_eq_false_iff_not] at h_); omega) | (simp [mulSz, Cont.len, bne, tab_len, hA, hB, List.length_take, List.length_drop] at h_; first | done | omega))); intro _; conv => whnf)
    | (refine ⟨0, (show _ = _ by omega), ?_⟩; conv => whnf))
  intro r' t1 h1' t2 h2'
  conv => whnf
  repeat (first
    | (refine And.intro ?_ ?_; (focus (first | omega | decide | exact Int.natCast_nonneg _ | ((repeat' refine And.intro ?_ ?_) <;> first | omega | exact Int.natCast_nonneg _ | (simp only [i64max, u8max, u16max, u32max, u64max]; omega) | (simp only [mulSz_eq, Cont.len, colsLen, Col.len, List.length_cons, List.length_nil, List.length_replicate, List.length_append]; first | done | omega) | (simp [mulSz, Cont.len, bne]; first | done | omega)))); conv => whnf)
    | (refine tst_in ?_ ?_; (focus (intro h_; exfalso; first | omega | ((try simp only [decide_eq_true_eq, decide_eq_false_iff_not] at h_); omega) | (simp [mulSz, Cont.len, bne] at h_; first | done | omega))); intro _; conv => whnf)
    | (refine tst_in ?_ ?_; rotate_left; (focus (intro h_; exfalso; first | omega | ((try simp only [decide_eq_true_eq, decide_eq_false_iff_not] at h_); omega) | (simp [mulSz, Cont.len, bne] at h_; first | done | omega))); intro _; conv => whnf)
    | (refine ⟨0, (show _ = _ by omega), ?_⟩; conv => whnf))
  refine ⟨⟨[0, 1], (0, r', t1, t2), ?_, ⟨Nat.zero_le _, h1', h2'⟩⟩, ?_⟩
  · show stLe _ _ (st17 _ _ _ _ n (n + r) at_ by_ 0 r' t1 t2) _
    conv => whnf
    repeat' (first | exact True.intro | rfl | refine And.intro ?_ ?_)
    all_goals (conv => whnf)
    repeat' (first | exact True.intro | rfl | refine And.intro ?_ ?_)
    all_goals (try omega)
    · unfold slF
      refine row_ext ((0, 0)) ?_ ?_
      · simp only [List.length_append, List.length_take, List.length_drop, List.length_set, List.length_replicate, tab_len, List.length_map, List.length_range, List.length_cons, List.length_nil]
        try omega
      · intro i_ hi_
        simp only [List.length_append, List.length_take, List.length_drop, List.length_set, List.length_replicate, tab_len, List.length_map, List.length_range, List.length_cons, List.length_nil] at hi_
        simp only [g_app, g_take, g_drop, g_set, g_rep, g_tab, g_one, g_nil, List.length_append, List.length_take, List.length_drop, List.length_set, List.length_replicate, tab_len, List.length_map, List.length_range, List.length_cons, List.length_nil]
        repeat' split
        all_goals (try (first | rfl | omega | (congr 1; omega) | (simp; omega) | (rw [decide_eq_decide]; omega) | (symm; simp; omega)))
    · unfold slF
      refine row_ext (false) ?_ ?_
      · simp only [List.length_append, List.length_take, List.length_drop, List.length_set, List.length_replicate, tab_len, List.length_map, List.length_range, List.length_cons, List.length_nil]
        try omega
      · intro i_ hi_
        simp only [List.length_append, List.length_take, List.length_drop, List.length_set, List.length_replicate, tab_len, List.length_map, List.length_range, List.length_cons, List.length_nil] at hi_
        simp only [g_app, g_take, g_drop, g_set, g_rep, g_tab, g_one, g_nil, List.length_append, List.length_take, List.length_drop, List.length_set, List.length_replicate, tab_len, List.length_map, List.length_range, List.length_cons, List.length_nil]
        repeat' split
        all_goals (try (first | rfl | omega | (congr 1; omega) | (simp; omega) | (rw [decide_eq_decide]; omega) | (symm; simp; omega)))
  · intro ⟨k, r2, t1, t2⟩ ⟨(hk : k ≤ by_), (h1' : t1.length = r2), (h2' : t2.length = r2)⟩
    show forceSt (st17 _ _ _ _ n (n + r) at_ by_ k r2 t1 t2) _
    conv => whnf
    refine tst_in (fun hlt => ?_) (fun hge => ?_)
    · skip
      have hlt : k < by_ := by simp at hlt; omega
      conv => whnf
      repeat (first
        | (refine And.intro ?_ ?_; (focus (first | omega | decide | exact Int.natCast_nonneg _ | ((repeat' refine And.intro ?_ ?_) <;> first | omega | exact Int.natCast_nonneg _ | (simp only [i64max, u8max, u16max, u32max, u64max]; omega) | (simp only [mulSz_eq, Cont.len, colsLen, Col.len, List.length_cons, List.length_nil, List.length_replicate, List.length_append, tab_len, h1', h2', List.length_take, List.length_drop]; first | done | omega) | (simp [mulSz, Cont.len, bne, tab_len, h1', h2', List.length_take, List.length_drop]; first | done | omega)))); conv => whnf)
        | (refine tst_in ?_ ?_; (focus (intro h_; exfalso; first | omega | ((try simp only [decide_eq_true_eq, decide_eq_false_iff_not] at h_); omega) | (simp [mulSz, Cont.len, bne, tab_len, h1', h2', List.length_take, List.length_drop] at h_; first | done | omega))); intro _; conv => whnf)
        | (refine tst_in ?_ ?_; rotate_left; (focus (intro h_; exfalso; first | omega | ((try simp only [decide_eq_true_eq, decide_eq_false_iff_not] at h_); omega) | (simp [mulSz, Cont.len, bne, tab_len, h1', h2', List.length_take, List.length_drop] at h_; first | done | omega))); intro _; conv => whnf)
        | (refine ⟨0, (show _ = _ by omega), ?_⟩; conv => whnf))
      intro r' t3 h3' t4 h4'
      conv => whnf
      repeat (first
        | (refine And.intro ?_ ?_; (focus (first | omega | decide | exact Int.natCast_nonneg _ | ((repeat' refine And.intro ?_ ?_) <;> first | omega | exact Int.natCast_nonneg _ | (simp only [i64max, u8max, u16max, u32max, u64max]; omega) | (simp only [mulSz_eq, Cont.len, colsLen, Col.len, List.length_cons, List.length_nil, List.length_replicate, List.length_append]; first | done | omega) | (simp [mulSz, Cont.len, bne]; first | done | omega)))); conv => whnf)
        | (refine tst_in ?_ ?_; (focus (intro h_; exfalso; first | omega | ((try simp only [decide_eq_true_eq, decide_eq_false_iff_not] at h_); omega) | (simp [mulSz, Cont.len, bne] at h_; first | done | omega))); intro _; conv => whnf)
        | (refine tst_in ?_ ?_; rotate_left; (focus (intro h_; exfalso; first | omega | ((try simp only [decide_eq_true_eq, decide_eq_false_iff_not] at h_); omega) | (simp [mulSz, Cont.len, bne] at h_; first | done | omega))); intro _; conv => whnf)
        | (refine ⟨0, (show _ = _ by omega), ?_⟩; conv => whnf))
      refine ⟨[0, 3], (k + 1, r', t3, t4), ?_, ⟨(by show k + 1 ≤ by_; omega), h3', h4'⟩, (by show by_ - (k + 1) < by_ - k; omega)⟩
      show stLe _ _ (st17 _ _ _ _ n (n + r) at_ by_ (k + 1) r' t3 t4) _
      conv => whnf
      repeat' (first | exact True.intro | rfl | refine And.intro ?_ ?_)
      all_goals (conv => whnf)
      repeat' (first | exact True.intro | rfl | refine And.intro ?_ ?_)
      all_goals (try omega)
      · exact (push_tb (slF (0, 0) F at_ by_) t1 t3 (at_ + k) _ (by unfold slF; rw [if_neg (by omega), if_pos (by omega)])).symm
      · exact (push_tb (slF true G at_ by_) t2 t4 (at_ + k) _ (by unfold slF; rw [if_neg (by omega), if_pos (by omega)])).symm
    · skip
      have hge : k = by_ := by simp at hge; omega
      subst hge
      conv => whnf
      repeat (first
        | (refine And.intro ?_ ?_; (focus (first | omega | decide | exact Int.natCast_nonneg _ | ((repeat' refine And.intro ?_ ?_) <;> first | omega | exact Int.natCast_nonneg _ | (simp only [i64max, u8max, u16max, u32max, u64max]; omega) | (simp only [mulSz_eq, Cont.len, colsLen, Col.len, List.length_cons, List.length_nil, List.length_replicate, List.length_append, tab_len, hA, hB, h1', h2', List.length_take, List.length_drop]; first | done | omega) | (simp [mulSz, Cont.len, bne, tab_len, hA, hB, h1', h2', List.length_take, List.length_drop]; first | done | omega)))); conv => whnf)
        | (refine tst_in ?_ ?_; (focus (intro h_; exfalso; first | omega | ((try simp only [decide_eq_true_eq, decide_eq_false_iff_not] at h_); omega) | (simp [mulSz, Cont.len, bne, tab_len, hA, hB, h1', h2', List.length_take, List.length_drop] at h_; first | done | omega))); intro _; conv => whnf)
        | (refine tst_in ?_ ?_; rotate_left; (focus (intro h_; exfalso; first | omega | ((try simp only [decide_eq_true_eq, decide_eq_false_iff_not] at h_); omega) | (simp [mulSz, Cont.len, bne, tab_len, hA, hB, h1', h2', List.length_take, List.length_drop] at h_; first | done | omega))); intro _; conv => whnf)
        | (refine ⟨(at_), (show _ = _ by omega), ?_⟩; conv => whnf)
        | (refine ⟨(at_), 0, (show _ = _ by omega), ?_⟩; conv => whnf)
        | (refine ⟨(at_), 1, (show _ = _ by omega), ?_⟩; conv => whnf)
        | (refine ⟨(at_), 2, (show _ = _ by omega), ?_⟩; conv => whnf)
        | (refine ⟨0, (show _ = _ by omega), ?_⟩; conv => whnf))
      intro r3 t3 h3' t4 h4'
      conv => whnf
      repeat (first
        | (refine And.intro ?_ ?_; (focus (first | omega | decide | exact Int.natCast_nonneg _ | ((repeat' refine And.intro ?_ ?_) <;> first | omega | exact Int.natCast_nonneg _ | (simp only [i64max, u8max, u16max, u32max, u64max]; omega) | (simp only [mulSz_eq, Cont.len, colsLen, Col.len, List.length_cons, List.length_nil, List.length_replicate, List.length_append]; first | done | omega) | (simp [mulSz, Cont.len, bne]; first | done | omega)))); conv => whnf)
        | (refine tst_in ?_ ?_; (focus (intro h_; exfalso; first | omega | ((try simp only [decide_eq_true_eq, decide_eq_false_iff_not] at h_); omega) | (simp [mulSz, Cont.len, bne] at h_; first | done | omega))); intro _; conv => whnf)
        | (refine tst_in ?_ ?_; rotate_left; (focus (intro h_; exfalso; first | omega | ((try simp only [decide_eq_true_eq, decide_eq_false_iff_not] at h_); omega) | (simp [mulSz, Cont.len, bne] at h_; first | done | omega))); intro _; conv => whnf)
        | (refine ⟨0, (show _ = _ by omega), ?_⟩; conv => whnf))
      rw [e1]
      refine .inl ⟨(r3, t3, t4), [0, 2], ?_⟩
      conv => whnf
      repeat' (first | exact True.intro | rfl | refine And.intro ?_ ?_)
      all_goals (conv => whnf)
      repeat' (first | exact True.intro | rfl | refine And.intro ?_ ?_)
      all_goals (try omega)
      · unfold slF
        refine row_ext ((0, 0)) ?_ ?_
        · simp only [List.length_append, List.length_take, List.length_drop, List.length_set, List.length_replicate, tab_len, List.length_map, List.length_range, List.length_cons, List.length_nil]
          try omega
        · intro i_ hi_
          simp only [List.length_append, List.length_take, List.length_drop, List.length_set, List.length_replicate, tab_len, List.length_map, List.length_range, List.length_cons, List.length_nil] at hi_
          simp only [g_app, g_take, g_drop, g_set, g_rep, g_tab, g_one, g_nil, List.length_append, List.length_take, List.length_drop, List.length_set, List.length_replicate, tab_len, List.length_map, List.length_range, List.length_cons, List.length_nil]
          repeat' split
          all_goals (try (first | rfl | omega | (congr 1; omega) | (simp; omega) | (rw [decide_eq_decide]; omega) | (symm; simp; omega)))
      · unfold slF
        refine row_ext (false) ?_ ?_
        · simp only [List.length_append, List.length_take, List.length_drop, List.length_set, List.length_replicate, tab_len, List.length_map, List.length_range, List.length_cons, List.length_nil]
          try omega
        · intro i_ hi_
          simp only [List.length_append, List.length_take, List.length_drop, List.length_set, List.length_replicate, tab_len, List.length_map, List.length_range, List.length_cons, List.length_nil] at hi_
          simp only [g_app, g_take, g_drop, g_set, g_rep, g_tab, g_one, g_nil, List.length_append, List.length_take, List.length_drop, List.length_set, List.length_replicate, tab_len, List.length_map, List.length_range, List.length_cons, List.length_nil]
          repeat' split
          all_goals (try (first | rfl | omega | (congr 1; omega) | (simp; omega) | (rw [decide_eq_decide]; omega) | (symm; simp; omega)))
set_option maxHeartbeats 0 in
set_option maxRecDepth 100000 in
theorem rSlide_m (F : Nat → Nat × Nat) (G : Nat → Bool) (tA : List (Nat × Nat)) (tB : List Bool) (n r at_ b : Nat) (hA : tA.length = r) (hB : tB.length = r) (hb : 0 < b) (hat : at_ + b ≤ n) (hby : b ≤ 1024) (hN : n ≤ 65536) :
    Fits Try.prog 17 ⟨[.slice 0 0 n (n + r), .int .i64 at_, .int .i64 (-(b : Int))], [rowS false (tb F n ++ tA) (tb G n ++ tB)], [rowOut [.dead] 1 okOut (dropF F at_ b) (dropF G at_ b) (n - b)]⟩ := by
  refine fits_of_body (C := cfgs 1) (c := c17) (ts := [6, 7]) tokL mixedL (fun | 6 => some ⟨Nat × List (Nat × Nat) × List Bool, fun t => ⟨slotsAt 75 [(0, .slice 0 0 n (n + r)), (1, .int .i64 at_), (2, .int .i64 (-(b : Int))), (8, .slice 1 0 at_ (at_ + t.1)), (9, .int .i64 0)], [rowS false (tb F n ++ tA) (tb G n ++ tB), rowS true (tb F at_ ++ t.2.1) (tb G at_ ++ t.2.2)]⟩, fun t => t.2.1.length = t.1 ∧ t.2.2.length = t.1, fun _ => 0⟩ | _ => none) (fun _ => none)
    Try.func17 (by kernel_rfl) (by kernel_rfl) (by kernel_rfl) (by kernel_rfl) rfl ?_
  have e1 : (↑at_ : Int).toNat = at_ := by omega
  have e2 : (↑at_ - -(b : Int)).toNat = at_ + b := by omega
  conv => whnf
  repeat (first
    | (refine And.intro ?_ ?_; (focus (first | omega | decide | exact Int.natCast_nonneg _ | ((repeat' refine And.intro ?_ ?_) <;> first | omega | exact Int.natCast_nonneg _ | (simp only [i64max, u8max, u16max, u32max, u64max]; omega) | (simp only [mulSz_eq, Cont.len, colsLen, Col.len, List.length_cons, List.length_nil, List.length_replicate, List.length_append, tab_len, hA, hB, List.length_take, List.length_drop]; first | done | omega) | (simp [mulSz, Cont.len, bne, tab_len, hA, hB, List.length_take, List.length_drop]; first | done | omega)))); conv => whnf)
    | (refine tst_in ?_ ?_; (focus (intro h_; exfalso; first | omega | ((try simp only [decide_eq_true_eq, decide_eq_false_iff_not] at h_); omega) | (simp [mulSz, Cont.len, bne, tab_len, hA, hB, List.length_take, List.length_drop] at h_; first | done | omega))); intro _; conv => whnf)
    | (refine tst_in ?_ ?_; rotate_left; (focus (intro h_; exfalso; first | omega | ((try simp only [decide_eq_true_eq, decide_eq_false_iff_not] at h_); omega) | (simp [mulSz, Cont.len, bne, tab_len, hA, hB, List.length_take, List.length_drop] at h_; first | done | omega))); intro _; conv => whnf)
    | (refine ⟨0, (show _ = _ by omega), ?_⟩; conv => whnf))
  rw [e1]
  conv => whnf
  repeat (first
    | (refine And.intro ?_ ?_; (focus (first | omega | decide | exact Int.natCast_nonneg _ | ((repeat' refine And.intro ?_ ?_) <;> first | omega | exact Int.natCast_nonneg _ | (simp only [i64max, u8max, u16max, u32max, u64max]; omega) | (simp only [mulSz_eq, Cont.len, colsLen, Col.len, List.length_cons, List.length_nil, List.length_replicate, List.length_append, tab_len, hA, hB, List.length_take, List.length_drop]; first | done | omega) | (simp [mulSz, Cont.len, bne, tab_len, hA, hB, List.length_take, List.length_drop]; first | done | omega)))); conv => whnf)
    | (refine tst_in ?_ ?_; (focus (intro h_; exfalso; first | omega | ((try simp only [decide_eq_true_eq, decide_eq_false_iff_not] at h_); omega) | (simp [mulSz, Cont.len, bne, tab_len, hA, hB, List.length_take, List.length_drop] at h_; first | done | omega))); intro _; conv => whnf)
    | (refine tst_in ?_ ?_; rotate_left; (focus (intro h_; exfalso; first | omega | ((try simp only [decide_eq_true_eq, decide_eq_false_iff_not] at h_); omega) | (simp [mulSz, Cont.len, bne, tab_len, hA, hB, List.length_take, List.length_drop] at h_; first | done | omega))); intro _; conv => whnf)
    | (refine ⟨0, (show _ = _ by omega), ?_⟩; conv => whnf))
  intro r' t1 h1' t2 h2'
  conv => whnf
  repeat (first
    | (refine And.intro ?_ ?_; (focus (first | omega | decide | exact Int.natCast_nonneg _ | ((repeat' refine And.intro ?_ ?_) <;> first | omega | exact Int.natCast_nonneg _ | (simp only [i64max, u8max, u16max, u32max, u64max]; omega) | (simp only [mulSz_eq, Cont.len, colsLen, Col.len, List.length_cons, List.length_nil, List.length_replicate, List.length_append]; first | done | omega) | (simp [mulSz, Cont.len, bne]; first | done | omega)))); conv => whnf)
    | (refine tst_in ?_ ?_; (focus (intro h_; exfalso; first | omega | ((try simp only [decide_eq_true_eq, decide_eq_false_iff_not] at h_); omega) | (simp [mulSz, Cont.len, bne] at h_; first | done | omega))); intro _; conv => whnf)
    | (refine tst_in ?_ ?_; rotate_left; (focus (intro h_; exfalso; first | omega | ((try simp only [decide_eq_true_eq, decide_eq_false_iff_not] at h_); omega) | (simp [mulSz, Cont.len, bne] at h_; first | done | omega))); intro _; conv => whnf)
    | (refine ⟨0, (show _ = _ by omega), ?_⟩; conv => whnf))
  refine ⟨⟨[0, 1], (r', t1, t2), ?_, ⟨h1', h2'⟩⟩, ?_⟩
  · conv => whnf
    repeat' (first | exact True.intro | rfl | refine And.intro ?_ ?_)
    all_goals (conv => whnf)
    repeat' (first | exact True.intro | rfl | refine And.intro ?_ ?_)
    all_goals (try omega)
    · refine row_ext ((0, 0)) ?_ ?_
      · simp only [List.length_append, List.length_take, List.length_drop, List.length_set, List.length_replicate, tab_len, List.length_map, List.length_range, List.length_cons, List.length_nil]
        try omega
      · intro i_ hi_
        simp only [List.length_append, List.length_take, List.length_drop, List.length_set, List.length_replicate, tab_len, List.length_map, List.length_range, List.length_cons, List.length_nil] at hi_
        simp only [g_app, g_take, g_drop, g_set, g_rep, g_tab, g_one, g_nil, List.length_append, List.length_take, List.length_drop, List.length_set, List.length_replicate, tab_len, List.length_map, List.length_range, List.length_cons, List.length_nil]
        repeat' split
        all_goals (try (first | rfl | omega | (congr 1; omega) | (simp; omega) | (rw [decide_eq_decide]; omega) | (symm; simp; omega)))
    · refine row_ext (false) ?_ ?_
      · simp only [List.length_append, List.length_take, List.length_drop, List.length_set, List.length_replicate, tab_len, List.length_map, List.length_range, List.length_cons, List.length_nil]
        try omega
      · intro i_ hi_
        simp only [List.length_append, List.length_take, List.length_drop, List.length_set, List.length_replicate, tab_len, List.length_map, List.length_range, List.length_cons, List.length_nil] at hi_
        simp only [g_app, g_take, g_drop, g_set, g_rep, g_tab, g_one, g_nil, List.length_append, List.length_take, List.length_drop, List.length_set, List.length_replicate, tab_len, List.length_map, List.length_range, List.length_cons, List.length_nil]
        repeat' split
        all_goals (try (first | rfl | omega | (congr 1; omega) | (simp; omega) | (rw [decide_eq_decide]; omega) | (symm; simp; omega)))
  · intro ⟨r2, t1, t2⟩ ⟨(h1' : t1.length = r2), (h2' : t2.length = r2)⟩
    show forceSt (⟨slotsAt 75 [(0, .slice 0 0 n (n + r)), (1, .int .i64 at_), (2, .int .i64 (-(b : Int))), (8, .slice 1 0 at_ (at_ + r2)), (9, .int .i64 0)], [rowS false (tb F n ++ tA) (tb G n ++ tB), rowS true (tb F at_ ++ t1) (tb G at_ ++ t2)]⟩ : St) _
    conv => whnf
    repeat (first
      | (refine And.intro ?_ ?_; (focus (first | omega | decide | exact Int.natCast_nonneg _ | ((repeat' refine And.intro ?_ ?_) <;> first | omega | exact Int.natCast_nonneg _ | (simp only [i64max, u8max, u16max, u32max, u64max]; omega) | (simp only [mulSz_eq, Cont.len, colsLen, Col.len, List.length_cons, List.length_nil, List.length_replicate, List.length_append, tab_len, hA, hB, h1', h2', List.length_take, List.length_drop]; first | done | omega) | (simp [mulSz, Cont.len, bne, tab_len, hA, hB, h1', h2', List.length_take, List.length_drop]; first | done | omega)))); conv => whnf)
      | (refine tst_in ?_ ?_; (focus (intro h_; exfalso; first | omega | ((try simp only [decide_eq_true_eq, decide_eq_false_iff_not] at h_); omega) | (simp [mulSz, Cont.len, bne, tab_len, hA, hB, h1', h2', List.length_take, List.length_drop] at h_; first | done | omega))); intro _; conv => whnf)
      | (refine tst_in ?_ ?_; rotate_left; (focus (intro h_; exfalso; first | omega | ((try simp only [decide_eq_true_eq, decide_eq_false_iff_not] at h_); omega) | (simp [mulSz, Cont.len, bne, tab_len, hA, hB, h1', h2', List.length_take, List.length_drop] at h_; first | done | omega))); intro _; conv => whnf)
      | (refine ⟨(at_+b), (show _ = _ by omega), ?_⟩; conv => whnf)
      | (refine ⟨(at_+b), 0, (show _ = _ by omega), ?_⟩; conv => whnf)
      | (refine ⟨(at_+b), 1, (show _ = _ by omega), ?_⟩; conv => whnf)
      | (refine ⟨(at_+b), 2, (show _ = _ by omega), ?_⟩; conv => whnf)
      | (refine ⟨0, (show _ = _ by omega), ?_⟩; conv => whnf))
    intro r3 t3 h3' t4 h4'
    conv => whnf
    repeat (first
      | (refine And.intro ?_ ?_; (focus (first | omega | decide | exact Int.natCast_nonneg _ | ((repeat' refine And.intro ?_ ?_) <;> first | omega | exact Int.natCast_nonneg _ | (simp only [i64max, u8max, u16max, u32max, u64max]; omega) | (simp only [mulSz_eq, Cont.len, colsLen, Col.len, List.length_cons, List.length_nil, List.length_replicate, List.length_append]; first | done | omega) | (simp [mulSz, Cont.len, bne]; first | done | omega)))); conv => whnf)
      | (refine tst_in ?_ ?_; (focus (intro h_; exfalso; first | omega | ((try simp only [decide_eq_true_eq, decide_eq_false_iff_not] at h_); omega) | (simp [mulSz, Cont.len, bne] at h_; first | done | omega))); intro _; conv => whnf)
      | (refine tst_in ?_ ?_; rotate_left; (focus (intro h_; exfalso; first | omega | ((try simp only [decide_eq_true_eq, decide_eq_false_iff_not] at h_); omega) | (simp [mulSz, Cont.len, bne] at h_; first | done | omega))); intro _; conv => whnf)
      | (refine ⟨0, (show _ = _ by omega), ?_⟩; conv => whnf))
    rw [e2]
    refine .inl ⟨(r3, t3, t4), [0, 2], ?_⟩
    conv => whnf
    repeat' (first | exact True.intro | rfl | refine And.intro ?_ ?_)
    all_goals (conv => whnf)
    repeat' (first | exact True.intro | rfl | refine And.intro ?_ ?_)
    all_goals (try omega)
    · unfold dropF
      refine row_ext ((0, 0)) ?_ ?_
      · simp only [List.length_append, List.length_take, List.length_drop, List.length_set, List.length_replicate, tab_len, List.length_map, List.length_range, List.length_cons, List.length_nil]
        try omega
      · intro i_ hi_
        simp only [List.length_append, List.length_take, List.length_drop, List.length_set, List.length_replicate, tab_len, List.length_map, List.length_range, List.length_cons, List.length_nil] at hi_
        simp only [g_app, g_take, g_drop, g_set, g_rep, g_tab, g_one, g_nil, List.length_append, List.length_take, List.length_drop, List.length_set, List.length_replicate, tab_len, List.length_map, List.length_range, List.length_cons, List.length_nil]
        repeat' split
        all_goals (try (first | rfl | omega | (congr 1; omega) | (simp; omega) | (rw [decide_eq_decide]; omega) | (symm; simp; omega)))
    · unfold dropF
      refine row_ext (false) ?_ ?_
      · simp only [List.length_append, List.length_take, List.length_drop, List.length_set, List.length_replicate, tab_len, List.length_map, List.length_range, List.length_cons, List.length_nil]
        try omega
      · intro i_ hi_
        simp only [List.length_append, List.length_take, List.length_drop, List.length_set, List.length_replicate, tab_len, List.length_map, List.length_range, List.length_cons, List.length_nil] at hi_
        simp only [g_app, g_take, g_drop, g_set, g_rep, g_tab, g_one, g_nil, List.length_append, List.length_take, List.length_drop, List.length_set, List.length_replicate, tab_len, List.length_map, List.length_range, List.length_cons, List.length_nil]
        repeat' split
        all_goals (try (first | rfl | omega | (congr 1; omega) | (simp; omega) | (rw [decide_eq_decide]; omega) | (symm; simp; omega)))
end Go.Proofs.Ythhbcgnpbfmonaa

set_option linter.unusedVariables false
set_option linter.unusedSimpArgs false
namespace Go.Proofs.Ythhbcgnpbfmonaa
open Go Go.Fw
noncomputable def c4 : Code := (Try.f4.body).getD .skip
structure TT where
  r : Nat
  tA : List (Nat × Nat)
  tB : List Bool
  r2 : Nat
  t3 : List (Nat × Nat)
  t4 : List Bool
  N : Nat
  q : Nat
  X : List (Nat × Nat)
  Y : List Bool
  i : Nat
def TT.ok (t : TT) : Prop := t.tA.length = t.r ∧ t.tB.length = t.r ∧ t.t3.length = t.r2 ∧ t.t4.length = t.r2 ∧ t.X.length = t.N + t.q ∧ t.Y.length = t.N + t.q
def stQ (s : Nat) (R I : List Nat) (B : List Bool) (R' I' : List Nat) (B' : List Bool) (L r : Nat) (tA : List (Nat × Nat)) (tB : List Bool) (r2 : Nat) (t3 : List (Nat × Nat)) (t4 : List Bool) (N q : Nat) (X : List (Nat × Nat)) (Y : List Bool) (i : Nat) : St :=
  ⟨slotsAt 125 [(7, .slice 2 0 L (L + r)), (9, .slice 3 0 L (L + 1 + r2)), (17, .slice 4 0 N (N + q)), (s, .int .i64 i)],
    [parS R I B, parS R' I' B', rowS true (tb (pF R I) L ++ tA) (tb (pG B) L ++ tB), rowS true (tb (pF R I) L ++ c77 :: t3) (tb (pG B) L ++ false :: t4), rowS true X Y]⟩
def invQ (R I : List Nat) (B : List Bool) (R' I' : List Nat) (B' : List Bool) (L : Nat) : LInv :=
  ⟨TT, fun t => stQ 21 R I B R' I' B' L t.r t.tA t.tB t.r2 t.t3 t.t4 t.N t.q t.X t.Y t.i, fun t => t.ok ∧ t.N ≤ 70000 ∧ t.i ≤ t.N, fun t => t.N - t.i⟩
def invR (R I : List Nat) (B : List Bool) (R' I' : List Nat) (B' : List Bool) (L : Nat) : LInv :=
  ⟨TT, fun t => stQ 22 R I B R' I' B' L t.r t.tA t.tB t.r2 t.t3 t.t4 t.N t.q t.X t.Y t.i, fun t => t.ok ∧ t.N ≤ 70000 + t.i ∧ t.i ≤ 20, fun t => 20 - t.i⟩
def mv (a b c : Int) : AV := .agg [.int .i64 a, .int .i64 b, .int .i64 c]
def lawSpec (a b c : Int) (L cp : Nat) (R I : List Nat) (B : List Bool) (L' cp' : Nat) (R' I' : List Nat) (B' : List Bool) : FSpec :=
  ⟨[mv a b c, .slice 0 0 L cp, .slice 1 0 L' cp'], [parS R I B, parS R' I' B'], [⟨Unit, fun _ => True, fun _ => .bool true, fun _ => [.dead, .dead]⟩]⟩
set_option maxHeartbeats 0 in
set_option maxRecDepth 100000 in
theorem Same_nil : Fits Try.prog 18 ⟨[.nils, .nils], [], [numOut [] (.bool true)]⟩ := by
  refine fits_of_body (C := cfgs 0) (c := c18) (ts := [4]) tokL mixedL (fun | 4 => some ⟨Unit, fun _ => ⟨slotsAt 42 [(0, .nils), (1, .nils), (5, .int .i64 0)], []⟩, fun _ => True, fun _ => 0⟩ | _ => none) (fun _ => none)
    Try.func18 (by kernel_rfl) (by kernel_rfl) (by kernel_rfl) (by kernel_rfl) rfl ?_
  conv => whnf
  repeat (first
    | (refine And.intro ?_ ?_; (focus (first | omega | decide | exact Int.natCast_nonneg _ | ((repeat' refine And.intro ?_ ?_) <;> first | omega | exact Int.natCast_nonneg _ | (simp only [i64max, u8max, u16max, u32max, u64max]; omega) | (simp only [mulSz_eq, Cont.len, colsLen, Col.len, List.length_cons, List.length_nil, List.length_replicate, List.length_append]; first | done | omega) | (simp [mulSz, Cont.len, bne]; first | done | omega)))); conv => whnf)
    | (refine tst_in ?_ ?_; (focus (intro h_; exfalso; first | omega | ((try simp only [decide_eq_true_eq, decide_eq_false_iff_not] at h_); omega) | (simp [mulSz, Cont.len, bne] at h_; first | done | omega))); intro _; conv => whnf)
    | (refine tst_in ?_ ?_; rotate_left; (focus (intro h_; exfalso; first | omega | ((try simp only [decide_eq_true_eq, decide_eq_false_iff_not] at h_); omega) | (simp [mulSz, Cont.len, bne] at h_; first | done | omega))); intro _; conv => whnf)
    | (refine ⟨0, (show _ = _ by omega), ?_⟩; conv => whnf))
  refine ⟨⟨[], (), ?_, True.intro⟩, ?_⟩
  · conv => whnf
    repeat' (first | exact True.intro | rfl | refine And.intro ?_ ?_)
    all_goals (conv => whnf)
    repeat' (first | exact True.intro | rfl | refine And.intro ?_ ?_)
    all_goals (try omega)
  · intro _ _
    show forceSt (⟨slotsAt 42 [(0, .nils), (1, .nils), (5, .int .i64 0)], []⟩ : St) _
    conv => whnf
    repeat (first
      | (refine And.intro ?_ ?_; (focus (first | omega | decide | exact Int.natCast_nonneg _ | ((repeat' refine And.intro ?_ ?_) <;> first | omega | exact Int.natCast_nonneg _ | (simp only [i64max, u8max, u16max, u32max, u64max]; omega) | (simp only [mulSz_eq, Cont.len, colsLen, Col.len, List.length_cons, List.length_nil, List.length_replicate, List.length_append]; first | done | omega) | (simp [mulSz, Cont.len, bne]; first | done | omega)))); conv => whnf)
      | (refine tst_in ?_ ?_; (focus (intro h_; exfalso; first | omega | ((try simp only [decide_eq_true_eq, decide_eq_false_iff_not] at h_); omega) | (simp [mulSz, Cont.len, bne] at h_; first | done | omega))); intro _; conv => whnf)
      | (refine tst_in ?_ ?_; rotate_left; (focus (intro h_; exfalso; first | omega | ((try simp only [decide_eq_true_eq, decide_eq_false_iff_not] at h_); omega) | (simp [mulSz, Cont.len, bne] at h_; first | done | omega))); intro _; conv => whnf)
      | (refine ⟨0, (show _ = _ by omega), ?_⟩; conv => whnf))
    refine .inl ⟨(), [], ?_⟩
    conv => whnf
    repeat' (first | exact True.intro | rfl | refine And.intro ?_ ?_)
    all_goals (conv => whnf)
    repeat' (first | exact True.intro | rfl | refine And.intro ?_ ?_)
    all_goals (try omega)
def slipO (s : Int) (k : Nat) (e : Int) : FOut := ⟨Unit, fun _ => True, fun _ => .tup [.int .i64 s, .int .i64 k, .int .i64 e], fun _ => [.dead, .dead]⟩
set_option maxHeartbeats 0 in
set_option maxRecDepth 100000 in
theorem law_a (a b c s e : Int) (k : Nat) (L cp L' cp' : Nat) (R I R' I' : List Nat) (B B' : List Bool) (hR : L ≤ R.length) (hI : L ≤ I.length) (hB : L ≤ B.length) (hcp : L ≤ cp) (hL : L ≤ 5864062014634)
    (hR' : L' ≤ R'.length) (hI' : L' ≤ I'.length) (hB' : L' ≤ B'.length) (hcp' : L' ≤ cp') (hL' : L' ≤ 5864062014634)
    (SL : ∀ (A A' : List (Nat × Nat)) (D D' : List Bool) (ca cb : Nat), L ≤ A.length → L ≤ D.length → L' ≤ A'.length → L' ≤ D'.length → L ≤ ca → L' ≤ cb → (∀ i, i < L → A.getD i (0, 0) = pF R I i ∧ D.getD i false = pG B i) → (∀ i, i < L' → A'.getD i (0, 0) = pF R' I' i ∧ D'.getD i false = pG B' i) →
      Fits Try.prog 14 ⟨[.slice 0 0 L ca, .slice 1 0 L' cb, .int .i64 a], [rowS false A D, rowS false A' D'], [slipO s k e]⟩)
    (RS : ∀ (A A' : List (Nat × Nat)) (D D' : List Bool) (ca cb : Nat), L ≤ A.length → L ≤ D.length → L' ≤ A'.length → L' ≤ D'.length → L ≤ ca → L' ≤ cb → (∀ i, i < L → A.getD i (0, 0) = pF R I i ∧ D.getD i false = pG B i) → (∀ i, i < L' → A'.getD i (0, 0) = pF R' I' i ∧ D'.getD i false = pG B' i) →
      Fits Try.prog 15 ⟨[.slice 0 0 L ca, .slice 1 0 L' cb, .int .i64 a], [rowS false A D, rowS false A' D'], [slipO s k e]⟩)
    (hD : badL L b c ∨ ∃ (f : Nat → Nat × Nat) (g : Nat → Bool) (N : Nat), N ≤ 65536 ∧ (∀ (tA : List (Nat × Nat)) (tB : List Bool) (r : Nat), tA.length = r → tB.length = r → Fits Try.prog 16 ⟨[.slice 0 0 L (L + r), .int .i64 b, .int .i64 c], [rowS false (tb (pF R I) L ++ tA) (tb (pG B) L ++ tB)], [slOut f g N]⟩)
      ∧ ∀ (tA : List (Nat × Nat)) (tB : List Bool) (r : Nat), tA.length = r → tB.length = r → Fits Try.prog 17 ⟨[.slice 0 0 L (L + r), .int .i64 b, .int .i64 c], [rowS false (tb (pF R I) L ++ tA) (tb (pG B) L ++ tB)], [rowOut [.dead] 1 okOut f g N]⟩) :
    Fits Try.prog 4 (lawSpec a b c L cp R I B L' cp' R' I' B') := by
  have SM := samples_f R I B L cp hR hI hB hcp hL
  have SM' := samples_f R' I' B' L' cp' hR' hI' hB' hcp' hL'
  refine fits_of_body (C := cfgs 2) (c := c4) (ts := [6]) tokL mixedL (fun | 14 => some (invQ R I B R' I' B' L) | 18 => some (invR R I B R' I' B' L) | _ => none) (fun _ => none)
    Try.func4 (by kernel_rfl) (by kernel_rfl) (by kernel_rfl) (by kernel_rfl) rfl ?_
  conv => whnf
  repeat (first
    | (refine And.intro ?_ ?_; (focus (first | omega | decide | exact Int.natCast_nonneg _ | ((repeat' refine And.intro ?_ ?_) <;> first | omega | exact Int.natCast_nonneg _ | (simp only [i64max, u8max, u16max, u32max, u64max]; omega) | (simp only [mulSz_eq, Cont.len, colsLen, Col.len, List.length_cons, List.length_nil, List.length_replicate, List.length_append]; first | done | omega) | (simp [mulSz, Cont.len, bne]; first | done | omega)))); conv => whnf)
    | (refine tst_in ?_ ?_; (focus (intro h_; exfalso; first | omega | ((try simp only [decide_eq_true_eq, decide_eq_false_iff_not] at h_); omega) | (simp [mulSz, Cont.len, bne] at h_; first | done | omega))); intro _; conv => whnf)
    | (refine tst_in ?_ ?_; rotate_left; (focus (intro h_; exfalso; first | omega | ((try simp only [decide_eq_true_eq, decide_eq_false_iff_not] at h_); omega) | (simp [mulSz, Cont.len, bne] at h_; first | done | omega))); intro _; conv => whnf)
    | (refine ⟨0, (show _ = _ by omega), ?_⟩; conv => whnf))
  refine ⟨_, [0], SM, ?_⟩
  conv => whnf
  iterate 2
   refine And.intro ?_ ?_
   focus
    conv => whnf
    repeat' (first | exact True.intro | rfl | refine And.intro ?_ ?_)
    all_goals (conv => whnf)
    repeat' (first | exact True.intro | rfl | refine And.intro ?_ ?_)
    all_goals (try (first | rfl | omega | (simp; first | done | omega)))
  conv => whnf
  refine ⟨?_, True.intro⟩
  rintro ⟨r,tA,tB⟩ ⟨hTA,hTB⟩
  conv => whnf
  conv => whnf
  repeat (first
    | (refine And.intro ?_ ?_; (focus (first | omega | decide | exact Int.natCast_nonneg _ | ((repeat' refine And.intro ?_ ?_) <;> first | omega | exact Int.natCast_nonneg _ | (simp only [i64max, u8max, u16max, u32max, u64max]; omega) | (simp only [mulSz_eq, Cont.len, colsLen, Col.len, List.length_cons, List.length_nil, List.length_replicate, List.length_append]; first | done | omega) | (simp [mulSz, Cont.len, bne]; first | done | omega)))); conv => whnf)
    | (refine tst_in ?_ ?_; (focus (intro h_; exfalso; first | omega | ((try simp only [decide_eq_true_eq, decide_eq_false_iff_not] at h_); omega) | (simp [mulSz, Cont.len, bne] at h_; first | done | omega))); intro _; conv => whnf)
    | (refine tst_in ?_ ?_; rotate_left; (focus (intro h_; exfalso; first | omega | ((try simp only [decide_eq_true_eq, decide_eq_false_iff_not] at h_); omega) | (simp [mulSz, Cont.len, bne] at h_; first | done | omega))); intro _; conv => whnf)
    | (refine ⟨0, (show _ = _ by omega), ?_⟩; conv => whnf))
  refine ⟨_, [1], SM', ?_⟩
  conv => whnf
  iterate 2
   refine And.intro ?_ ?_
   focus
    conv => whnf
    repeat' (first | exact True.intro | rfl | refine And.intro ?_ ?_)
    all_goals (conv => whnf)
    repeat' (first | exact True.intro | rfl | refine And.intro ?_ ?_)
    all_goals (try (first | rfl | omega | (simp; first | done | omega)))
  conv => whnf
  refine ⟨?_, True.intro⟩
  rintro ⟨r',tA',tB'⟩ ⟨hTA',hTB'⟩
  conv => whnf
  have LE := lent_f (pF R I) (pG B) tA tB L r hTA hTB hL
  have LE' := lent_f (pF R' I') (pG B') tA' tB' L' r' hTA' hTB' hL'
  conv => whnf
  repeat (first
    | (refine And.intro ?_ ?_; (focus (first | omega | decide | exact Int.natCast_nonneg _ | ((repeat' refine And.intro ?_ ?_) <;> first | omega | exact Int.natCast_nonneg _ | (simp only [i64max, u8max, u16max, u32max, u64max]; omega) | (simp only [mulSz_eq, Cont.len, colsLen, Col.len, List.length_cons, List.length_nil, List.length_replicate, List.length_append]; first | done | omega) | (simp [mulSz, Cont.len, bne]; first | done | omega)))); conv => whnf)
    | (refine tst_in ?_ ?_; (focus (intro h_; exfalso; first | omega | ((try simp only [decide_eq_true_eq, decide_eq_false_iff_not] at h_); omega) | (simp [mulSz, Cont.len, bne] at h_; first | done | omega))); intro _; conv => whnf)
    | (refine tst_in ?_ ?_; rotate_left; (focus (intro h_; exfalso; first | omega | ((try simp only [decide_eq_true_eq, decide_eq_false_iff_not] at h_); omega) | (simp [mulSz, Cont.len, bne] at h_; first | done | omega))); intro _; conv => whnf)
    | (refine ⟨0, (show _ = _ by omega), ?_⟩; conv => whnf))
  refine ⟨_, [3], LE, ?_⟩
  conv => whnf
  iterate 2
   refine And.intro ?_ ?_
   focus
    conv => whnf
    repeat' (first | exact True.intro | rfl | refine And.intro ?_ ?_)
    all_goals (conv => whnf)
    repeat' (first | exact True.intro | rfl | refine And.intro ?_ ?_)
    all_goals (try (first | rfl | omega | (simp; first | done | omega)))
  conv => whnf
  refine ⟨?_, True.intro⟩
  rintro ⟨r2,t3,t4⟩ ⟨h3,h4⟩
  conv => whnf
  conv => whnf
  repeat (first
    | (refine And.intro ?_ ?_; (focus (first | omega | decide | exact Int.natCast_nonneg _ | ((repeat' refine And.intro ?_ ?_) <;> first | omega | exact Int.natCast_nonneg _ | (simp only [i64max, u8max, u16max, u32max, u64max]; omega) | (simp only [mulSz_eq, Cont.len, colsLen, Col.len, List.length_cons, List.length_nil, List.length_replicate, List.length_append]; first | done | omega) | (simp [mulSz, Cont.len, bne]; first | done | omega)))); conv => whnf)
    | (refine tst_in ?_ ?_; (focus (intro h_; exfalso; first | omega | ((try simp only [decide_eq_true_eq, decide_eq_false_iff_not] at h_); omega) | (simp [mulSz, Cont.len, bne] at h_; first | done | omega))); intro _; conv => whnf)
    | (refine tst_in ?_ ?_; rotate_left; (focus (intro h_; exfalso; first | omega | ((try simp only [decide_eq_true_eq, decide_eq_false_iff_not] at h_); omega) | (simp [mulSz, Cont.len, bne] at h_; first | done | omega))); intro _; conv => whnf)
    | (refine ⟨0, (show _ = _ by omega), ?_⟩; conv => whnf))
  refine ⟨_, [4], LE', ?_⟩
  conv => whnf
  iterate 2
   refine And.intro ?_ ?_
   focus
    conv => whnf
    repeat' (first | exact True.intro | rfl | refine And.intro ?_ ?_)
    all_goals (conv => whnf)
    repeat' (first | exact True.intro | rfl | refine And.intro ?_ ?_)
    all_goals (try (first | rfl | omega | (simp; first | done | omega)))
  conv => whnf
  refine ⟨?_, True.intro⟩
  rintro ⟨r2',t3',t4'⟩ ⟨h3',h4'⟩
  conv => whnf
  have KP := kept_f (pF R I) (pG B) t3 t4 L r2 (L + r) (tb (pF R I) L ++ tA) (tb (pG B) L ++ tB) h3 h4 hL (by simp [tab_len]) (by simp [tab_len]) (by omega)
    (fun i hi => ⟨tab_app _ _ _ hi, tab_app _ _ _ hi⟩)
  have KP' := kept_f (pF R' I') (pG B') t3' t4' L' r2' (L' + r') (tb (pF R' I') L' ++ tA') (tb (pG B') L' ++ tB') h3' h4' hL' (by simp [tab_len]) (by simp [tab_len]) (by omega)
    (fun i hi => ⟨tab_app _ _ _ hi, tab_app _ _ _ hi⟩)
  have S1 := SL (tb (pF R I) L ++ c77 :: t3) (tb (pF R' I') L' ++ c77 :: t3') (tb (pG B) L ++ false :: t4) (tb (pG B') L' ++ false :: t4') (L + 1 + r2) (L' + 1 + r2') (by simp [tab_len]) (by simp [tab_len]) (by simp [tab_len]) (by simp [tab_len]) (by omega) (by omega)
    (fun i hi => ⟨tab_app _ _ _ hi, tab_app _ _ _ hi⟩) (fun i hi => ⟨tab_app _ _ _ hi, tab_app _ _ _ hi⟩)
  have S2 := RS (tb (pF R I) L ++ tA) (tb (pF R' I') L' ++ tA') (tb (pG B) L ++ tB) (tb (pG B') L' ++ tB') (L + r) (L' + r') (by simp [tab_len]) (by simp [tab_len]) (by simp [tab_len]) (by simp [tab_len]) (by omega) (by omega)
    (fun i hi => ⟨tab_app _ _ _ hi, tab_app _ _ _ hi⟩) (fun i hi => ⟨tab_app _ _ _ hi, tab_app _ _ _ hi⟩)
  conv => whnf
  repeat (first
    | (refine And.intro ?_ ?_; (focus (first | omega | decide | exact Int.natCast_nonneg _ | ((repeat' refine And.intro ?_ ?_) <;> first | omega | exact Int.natCast_nonneg _ | (simp only [i64max, u8max, u16max, u32max, u64max]; omega) | (simp only [mulSz_eq, Cont.len, colsLen, Col.len, List.length_cons, List.length_nil, List.length_replicate, List.length_append]; first | done | omega) | (simp [mulSz, Cont.len, bne]; first | done | omega)))); conv => whnf)
    | (refine tst_in ?_ ?_; (focus (intro h_; exfalso; first | omega | ((try simp only [decide_eq_true_eq, decide_eq_false_iff_not] at h_); omega) | (simp [mulSz, Cont.len, bne] at h_; first | done | omega))); intro _; conv => whnf)
    | (refine tst_in ?_ ?_; rotate_left; (focus (intro h_; exfalso; first | omega | ((try simp only [decide_eq_true_eq, decide_eq_false_iff_not] at h_); omega) | (simp [mulSz, Cont.len, bne] at h_; first | done | omega))); intro _; conv => whnf)
    | (refine ⟨0, (show _ = _ by omega), ?_⟩; conv => whnf))
  refine ⟨_, [5, 6], S1, ?_⟩
  conv => whnf
  iterate 2
   refine And.intro ?_ ?_
   focus
    conv => whnf
    repeat' (first | exact True.intro | rfl | refine And.intro ?_ ?_ | omega)
    all_goals (conv => whnf)
    all_goals (try (first | rfl | omega | (simp; done)))
  conv => whnf
  refine ⟨?_, True.intro⟩
  intro _ _
  conv => whnf
  conv => whnf
  repeat (first
    | (refine And.intro ?_ ?_; (focus (first | omega | decide | exact Int.natCast_nonneg _ | ((repeat' refine And.intro ?_ ?_) <;> first | omega | exact Int.natCast_nonneg _ | (simp only [i64max, u8max, u16max, u32max, u64max]; omega) | (simp only [mulSz_eq, Cont.len, colsLen, Col.len, List.length_cons, List.length_nil, List.length_replicate, List.length_append]; first | done | omega) | (simp [mulSz, Cont.len, bne]; first | done | omega)))); conv => whnf)
    | (refine tst_in ?_ ?_; (focus (intro h_; exfalso; first | omega | ((try simp only [decide_eq_true_eq, decide_eq_false_iff_not] at h_); omega) | (simp [mulSz, Cont.len, bne] at h_; first | done | omega))); intro _; conv => whnf)
    | (refine tst_in ?_ ?_; rotate_left; (focus (intro h_; exfalso; first | omega | ((try simp only [decide_eq_true_eq, decide_eq_false_iff_not] at h_); omega) | (simp [mulSz, Cont.len, bne] at h_; first | done | omega))); intro _; conv => whnf)
    | (refine ⟨0, (show _ = _ by omega), ?_⟩; conv => whnf))
  refine ⟨_, [3, 4], S2, ?_⟩
  conv => whnf
  iterate 2
   refine And.intro ?_ ?_
   focus
    conv => whnf
    repeat' (first | exact True.intro | rfl | refine And.intro ?_ ?_ | omega)
    all_goals (conv => whnf)
    all_goals (try (first | rfl | omega | (simp; done)))
  conv => whnf
  refine ⟨?_, True.intro⟩
  intro _ _
  conv => whnf
  conv => whnf
  repeat (first
    | (refine And.intro ?_ ?_; (focus (first | omega | decide | exact Int.natCast_nonneg _ | ((repeat' refine And.intro ?_ ?_) <;> first | omega | exact Int.natCast_nonneg _ | (simp only [i64max, u8max, u16max, u32max, u64max]; omega) | (simp only [mulSz_eq, Cont.len, colsLen, Col.len, List.length_cons, List.length_nil, List.length_replicate, List.length_append]; first | done | omega) | (simp [mulSz, Cont.len, bne]; first | done | omega)))); conv => whnf)
    | (refine tst_in ?_ ?_; (focus (intro h_; exfalso; first | omega | ((try simp only [decide_eq_true_eq, decide_eq_false_iff_not] at h_); omega) | (simp [mulSz, Cont.len, bne] at h_; first | done | omega))); intro _; conv => whnf)
    | (refine tst_in ?_ ?_; rotate_left; (focus (intro h_; exfalso; first | omega | ((try simp only [decide_eq_true_eq, decide_eq_false_iff_not] at h_); omega) | (simp [mulSz, Cont.len, bne] at h_; first | done | omega))); intro _; conv => whnf)
    | (refine ⟨0, (show _ = _ by omega), ?_⟩; conv => whnf))
  rcases hD with hbad | ⟨f, g, N, hN, SD, RD⟩
  refine ⟨_, [5], (Slide_no (tb (pF R I) L ++ c77 :: t3) (tb (pG B) L ++ false :: t4) L (L + 1 + r2) b c hL hbad), ?_⟩
  conv => whnf
  iterate 2
   refine And.intro ?_ ?_
   focus
    conv => whnf
    repeat' (first | exact True.intro | rfl | refine And.intro ?_ ?_ | omega)
    all_goals (conv => whnf)
    all_goals (try (first | rfl | omega | (simp; done)))
  conv => whnf
  refine ⟨?_, True.intro⟩
  intro _ _
  conv => whnf
  conv => whnf
  repeat (first
    | (refine And.intro ?_ ?_; (focus (first | omega | decide | exact Int.natCast_nonneg _ | ((repeat' refine And.intro ?_ ?_) <;> first | omega | exact Int.natCast_nonneg _ | (simp only [i64max, u8max, u16max, u32max, u64max]; omega) | (simp only [mulSz_eq, Cont.len, colsLen, Col.len, List.length_cons, List.length_nil, List.length_replicate, List.length_append]; first | done | omega) | (simp [mulSz, Cont.len, bne]; first | done | omega)))); conv => whnf)
    | (refine tst_in ?_ ?_; (focus (intro h_; exfalso; first | omega | ((try simp only [decide_eq_true_eq, decide_eq_false_iff_not] at h_); omega) | (simp [mulSz, Cont.len, bne] at h_; first | done | omega))); intro _; conv => whnf)
    | (refine tst_in ?_ ?_; rotate_left; (focus (intro h_; exfalso; first | omega | ((try simp only [decide_eq_true_eq, decide_eq_false_iff_not] at h_); omega) | (simp [mulSz, Cont.len, bne] at h_; first | done | omega))); intro _; conv => whnf)
    | (refine ⟨0, (show _ = _ by omega), ?_⟩; conv => whnf))
  refine ⟨_, [3], (rSlide_n (tb (pF R I) L ++ tA) (tb (pG B) L ++ tB) L (L + r) b c hL hbad), ?_⟩
  conv => whnf
  iterate 2
   refine And.intro ?_ ?_
   focus
    conv => whnf
    repeat' (first | exact True.intro | rfl | refine And.intro ?_ ?_ | omega)
    all_goals (conv => whnf)
    all_goals (try (first | rfl | omega | (simp; done)))
  conv => whnf
  refine ⟨?_, True.intro⟩
  intro _ _
  conv => whnf
  conv => whnf
  repeat (first
    | (refine And.intro ?_ ?_; (focus (first | omega | decide | exact Int.natCast_nonneg _ | ((repeat' refine And.intro ?_ ?_) <;> first | omega | exact Int.natCast_nonneg _ | (simp only [i64max, u8max, u16max, u32max, u64max]; omega) | (simp only [mulSz_eq, Cont.len, colsLen, Col.len, List.length_cons, List.length_nil, List.length_replicate, List.length_append]; first | done | omega) | (simp [mulSz, Cont.len, bne]; first | done | omega)))); conv => whnf)
    | (refine tst_in ?_ ?_; (focus (intro h_; exfalso; first | omega | ((try simp only [decide_eq_true_eq, decide_eq_false_iff_not] at h_); omega) | (simp [mulSz, Cont.len, bne] at h_; first | done | omega))); intro _; conv => whnf)
    | (refine tst_in ?_ ?_; rotate_left; (focus (intro h_; exfalso; first | omega | ((try simp only [decide_eq_true_eq, decide_eq_false_iff_not] at h_); omega) | (simp [mulSz, Cont.len, bne] at h_; first | done | omega))); intro _; conv => whnf)
    | (refine ⟨0, (show _ = _ by omega), ?_⟩; conv => whnf))
  refine ⟨_, [], Same_nil, ?_⟩
  conv => whnf
  iterate 2
   refine And.intro ?_ ?_
   focus
    conv => whnf
    repeat' (first | exact True.intro | rfl | refine And.intro ?_ ?_ | omega)
    all_goals (conv => whnf)
    all_goals (try (first | rfl | omega | (simp; done)))
  conv => whnf
  refine ⟨?_, True.intro⟩
  intro _ _
  conv => whnf
  conv => whnf
  repeat (first
    | (refine And.intro ?_ ?_; (focus (first | omega | decide | exact Int.natCast_nonneg _ | ((repeat' refine And.intro ?_ ?_) <;> first | omega | exact Int.natCast_nonneg _ | (simp only [i64max, u8max, u16max, u32max, u64max]; omega) | (simp only [mulSz_eq, Cont.len, colsLen, Col.len, List.length_cons, List.length_nil, List.length_replicate, List.length_append]; first | done | omega) | (simp [mulSz, Cont.len, bne]; first | done | omega)))); conv => whnf)
    | (refine tst_in ?_ ?_; (focus (intro h_; exfalso; first | omega | ((try simp only [decide_eq_true_eq, decide_eq_false_iff_not] at h_); omega) | (simp [mulSz, Cont.len, bne] at h_; first | done | omega))); intro _; conv => whnf)
    | (refine tst_in ?_ ?_; rotate_left; (focus (intro h_; exfalso; first | omega | ((try simp only [decide_eq_true_eq, decide_eq_false_iff_not] at h_); omega) | (simp [mulSz, Cont.len, bne] at h_; first | done | omega))); intro _; conv => whnf)
    | (refine ⟨0, (show _ = _ by omega), ?_⟩; conv => whnf))
  refine ⟨_, [5, 3], KP, ?_⟩
  conv => whnf
  iterate 2
   refine And.intro ?_ ?_
   focus
    conv => whnf
    repeat' (first | exact True.intro | rfl | refine And.intro ?_ ?_ | omega)
    all_goals (conv => whnf)
    all_goals (try (first | rfl | omega | (simp; done)))
  conv => whnf
  refine ⟨?_, True.intro⟩
  intro _ _
  conv => whnf
  conv => whnf
  repeat (first
    | (refine And.intro ?_ ?_; (focus (first | omega | decide | exact Int.natCast_nonneg _ | ((repeat' refine And.intro ?_ ?_) <;> first | omega | exact Int.natCast_nonneg _ | (simp only [i64max, u8max, u16max, u32max, u64max]; omega) | (simp only [mulSz_eq, Cont.len, colsLen, Col.len, List.length_cons, List.length_nil, List.length_replicate, List.length_append]; first | done | omega) | (simp [mulSz, Cont.len, bne]; first | done | omega)))); conv => whnf)
    | (refine tst_in ?_ ?_; (focus (intro h_; exfalso; first | omega | ((try simp only [decide_eq_true_eq, decide_eq_false_iff_not] at h_); omega) | (simp [mulSz, Cont.len, bne] at h_; first | done | omega))); intro _; conv => whnf)
    | (refine tst_in ?_ ?_; rotate_left; (focus (intro h_; exfalso; first | omega | ((try simp only [decide_eq_true_eq, decide_eq_false_iff_not] at h_); omega) | (simp [mulSz, Cont.len, bne] at h_; first | done | omega))); intro _; conv => whnf)
    | (refine ⟨0, (show _ = _ by omega), ?_⟩; conv => whnf))
  refine ⟨_, [6, 4], KP', ?_⟩
  conv => whnf
  iterate 2
   refine And.intro ?_ ?_
   focus
    conv => whnf
    repeat' (first | exact True.intro | rfl | refine And.intro ?_ ?_ | omega)
    all_goals (conv => whnf)
    all_goals (try (first | rfl | omega | (simp; done)))
  conv => whnf
  refine ⟨?_, True.intro⟩
  intro _ _
  conv => whnf
  conv => whnf
  repeat (first
    | (refine And.intro ?_ ?_; (focus (first | omega | decide | exact Int.natCast_nonneg _ | ((repeat' refine And.intro ?_ ?_) <;> first | omega | exact Int.natCast_nonneg _ | (simp only [i64max, u8max, u16max, u32max, u64max]; omega) | (simp only [mulSz_eq, Cont.len, colsLen, Col.len, List.length_cons, List.length_nil, List.length_replicate, List.length_append]; first | done | omega) | (simp [mulSz, Cont.len, bne]; first | done | omega)))); conv => whnf)
    | (refine tst_in ?_ ?_; (focus (intro h_; exfalso; first | omega | ((try simp only [decide_eq_true_eq, decide_eq_false_iff_not] at h_); omega) | (simp [mulSz, Cont.len, bne] at h_; first | done | omega))); intro _; conv => whnf)
    | (refine tst_in ?_ ?_; rotate_left; (focus (intro h_; exfalso; first | omega | ((try simp only [decide_eq_true_eq, decide_eq_false_iff_not] at h_); omega) | (simp [mulSz, Cont.len, bne] at h_; first | done | omega))); intro _; conv => whnf)
    | (refine ⟨0, (show _ = _ by omega), ?_⟩; conv => whnf))
  refine ⟨⟨[0, 1, 3, 5, 9], ⟨r, tA, tB, r2, t3, t4, 0, 0, [], [], 0⟩, ?_, ⟨⟨hTA, hTB, h3, h4, rfl, rfl⟩, Nat.zero_le _, Nat.zero_le _⟩⟩, ?_⟩
  focus (
    show stLe _ _ (stQ 21 R I B R' I' B' L r tA tB r2 t3 t4 0 0 [] [] 0) _
    conv => whnf
    repeat' (first | exact True.intro | rfl | refine And.intro ?_ ?_)
    all_goals (conv => whnf)
    repeat' (first | exact True.intro | rfl | refine And.intro ?_ ?_)
    all_goals (try omega)
  )
  rotate_left
  have SD := SD (c77 :: t3) (false :: t4) (1 + r2) (by simp [h3]; omega) (by simp [h4]; omega)
  rw [show L + (1 + r2) = L + 1 + r2 by omega] at SD
  have RD := RD tA tB r hTA hTB
  refine ⟨_, [5], SD, ?_⟩
  conv => whnf
  iterate 2
   refine And.intro ?_ ?_
   focus
    conv => whnf
    repeat' (first | exact True.intro | rfl | refine And.intro ?_ ?_ | omega)
    all_goals (conv => whnf)
    all_goals (try (first | rfl | omega | (simp; done)))
  conv => whnf
  refine ⟨?_, True.intro⟩
  intro _ _
  conv => whnf
  conv => whnf
  repeat (first
    | (refine And.intro ?_ ?_; (focus (first | omega | decide | exact Int.natCast_nonneg _ | ((repeat' refine And.intro ?_ ?_) <;> first | omega | exact Int.natCast_nonneg _ | (simp only [i64max, u8max, u16max, u32max, u64max]; omega) | (simp only [mulSz_eq, Cont.len, colsLen, Col.len, List.length_cons, List.length_nil, List.length_replicate, List.length_append]; first | done | omega) | (simp [mulSz, Cont.len, bne]; first | done | omega)))); conv => whnf)
    | (refine tst_in ?_ ?_; (focus (intro h_; exfalso; first | omega | ((try simp only [decide_eq_true_eq, decide_eq_false_iff_not] at h_); omega) | (simp [mulSz, Cont.len, bne] at h_; first | done | omega))); intro _; conv => whnf)
    | (refine tst_in ?_ ?_; rotate_left; (focus (intro h_; exfalso; first | omega | ((try simp only [decide_eq_true_eq, decide_eq_false_iff_not] at h_); omega) | (simp [mulSz, Cont.len, bne] at h_; first | done | omega))); intro _; conv => whnf)
    | (refine ⟨0, (show _ = _ by omega), ?_⟩; conv => whnf))
  refine ⟨_, [3], RD, ?_⟩
  conv => whnf
  iterate 2
   refine And.intro ?_ ?_
   focus
    conv => whnf
    repeat' (first | exact True.intro | rfl | refine And.intro ?_ ?_)
    all_goals (conv => whnf)
    repeat' (first | exact True.intro | rfl | refine And.intro ?_ ?_)
    all_goals (try (first | rfl | omega | (simp; first | done | omega)))
  conv => whnf
  refine ⟨?_, True.intro⟩
  rintro ⟨r5,t5,t6⟩ ⟨h5,h6⟩
  conv => whnf
  have SA := Same_f (tb f N) (tb f N ++ t5) (tb g N) (tb g N ++ t6) N N (N + r5) (by simp [tab_len]) (by simp [tab_len]) (by simp [tab_len]) (by simp [tab_len]) (by omega) (by omega) (by omega)
    (fun i hi => by rw [tab_app _ _ _ hi, tab_app _ _ _ hi, tab_get _ _ hi, tab_get _ _ hi]; exact ⟨rfl, rfl⟩)
  conv => whnf
  repeat (first
    | (refine And.intro ?_ ?_; (focus (first | omega | decide | exact Int.natCast_nonneg _ | ((repeat' refine And.intro ?_ ?_) <;> first | omega | exact Int.natCast_nonneg _ | (simp only [i64max, u8max, u16max, u32max, u64max]; omega) | (simp only [mulSz_eq, Cont.len, colsLen, Col.len, List.length_cons, List.length_nil, List.length_replicate, List.length_append]; first | done | omega) | (simp [mulSz, Cont.len, bne]; first | done | omega)))); conv => whnf)
    | (refine tst_in ?_ ?_; (focus (intro h_; exfalso; first | omega | ((try simp only [decide_eq_true_eq, decide_eq_false_iff_not] at h_); omega) | (simp [mulSz, Cont.len, bne] at h_; first | done | omega))); intro _; conv => whnf)
    | (refine tst_in ?_ ?_; rotate_left; (focus (intro h_; exfalso; first | omega | ((try simp only [decide_eq_true_eq, decide_eq_false_iff_not] at h_); omega) | (simp [mulSz, Cont.len, bne] at h_; first | done | omega))); intro _; conv => whnf)
    | (refine ⟨0, (show _ = _ by omega), ?_⟩; conv => whnf))
  refine ⟨_, [7, 8], SA, ?_⟩
  conv => whnf
  iterate 2
   refine And.intro ?_ ?_
   focus
    conv => whnf
    repeat' (first | exact True.intro | rfl | refine And.intro ?_ ?_ | omega)
    all_goals (conv => whnf)
    all_goals (try (first | rfl | omega | (simp; done)))
  conv => whnf
  refine ⟨?_, True.intro⟩
  intro _ _
  conv => whnf
  conv => whnf
  repeat (first
    | (refine And.intro ?_ ?_; (focus (first | omega | decide | exact Int.natCast_nonneg _ | ((repeat' refine And.intro ?_ ?_) <;> first | omega | exact Int.natCast_nonneg _ | (simp only [i64max, u8max, u16max, u32max, u64max]; omega) | (simp only [mulSz_eq, Cont.len, colsLen, Col.len, List.length_cons, List.length_nil, List.length_replicate, List.length_append]; first | done | omega) | (simp [mulSz, Cont.len, bne]; first | done | omega)))); conv => whnf)
    | (refine tst_in ?_ ?_; (focus (intro h_; exfalso; first | omega | ((try simp only [decide_eq_true_eq, decide_eq_false_iff_not] at h_); omega) | (simp [mulSz, Cont.len, bne] at h_; first | done | omega))); intro _; conv => whnf)
    | (refine tst_in ?_ ?_; rotate_left; (focus (intro h_; exfalso; first | omega | ((try simp only [decide_eq_true_eq, decide_eq_false_iff_not] at h_); omega) | (simp [mulSz, Cont.len, bne] at h_; first | done | omega))); intro _; conv => whnf)
    | (refine ⟨0, (show _ = _ by omega), ?_⟩; conv => whnf))
  refine ⟨_, [5, 3], KP, ?_⟩
  conv => whnf
  iterate 2
   refine And.intro ?_ ?_
   focus
    conv => whnf
    repeat' (first | exact True.intro | rfl | refine And.intro ?_ ?_ | omega)
    all_goals (conv => whnf)
    all_goals (try (first | rfl | omega | (simp; done)))
  conv => whnf
  refine ⟨?_, True.intro⟩
  intro _ _
  conv => whnf
  conv => whnf
  repeat (first
    | (refine And.intro ?_ ?_; (focus (first | omega | decide | exact Int.natCast_nonneg _ | ((repeat' refine And.intro ?_ ?_) <;> first | omega | exact Int.natCast_nonneg _ | (simp only [i64max, u8max, u16max, u32max, u64max]; omega) | (simp only [mulSz_eq, Cont.len, colsLen, Col.len, List.length_cons, List.length_nil, List.length_replicate, List.length_append]; first | done | omega) | (simp [mulSz, Cont.len, bne]; first | done | omega)))); conv => whnf)
    | (refine tst_in ?_ ?_; (focus (intro h_; exfalso; first | omega | ((try simp only [decide_eq_true_eq, decide_eq_false_iff_not] at h_); omega) | (simp [mulSz, Cont.len, bne] at h_; first | done | omega))); intro _; conv => whnf)
    | (refine tst_in ?_ ?_; rotate_left; (focus (intro h_; exfalso; first | omega | ((try simp only [decide_eq_true_eq, decide_eq_false_iff_not] at h_); omega) | (simp [mulSz, Cont.len, bne] at h_; first | done | omega))); intro _; conv => whnf)
    | (refine ⟨0, (show _ = _ by omega), ?_⟩; conv => whnf))
  refine ⟨_, [6, 4], KP', ?_⟩
  conv => whnf
  iterate 2
   refine And.intro ?_ ?_
   focus
    conv => whnf
    repeat' (first | exact True.intro | rfl | refine And.intro ?_ ?_ | omega)
    all_goals (conv => whnf)
    all_goals (try (first | rfl | omega | (simp; done)))
  conv => whnf
  refine ⟨?_, True.intro⟩
  intro _ _
  conv => whnf
  conv => whnf
  repeat (first
    | (refine And.intro ?_ ?_; (focus (first | omega | decide | exact Int.natCast_nonneg _ | ((repeat' refine And.intro ?_ ?_) <;> first | omega | exact Int.natCast_nonneg _ | (simp only [i64max, u8max, u16max, u32max, u64max]; omega) | (simp only [mulSz_eq, Cont.len, colsLen, Col.len, List.length_cons, List.length_nil, List.length_replicate, List.length_append]; first | done | omega) | (simp [mulSz, Cont.len, bne]; first | done | omega)))); conv => whnf)
    | (refine tst_in ?_ ?_; (focus (intro h_; exfalso; first | omega | ((try simp only [decide_eq_true_eq, decide_eq_false_iff_not] at h_); omega) | (simp [mulSz, Cont.len, bne] at h_; first | done | omega))); intro _; conv => whnf)
    | (refine tst_in ?_ ?_; rotate_left; (focus (intro h_; exfalso; first | omega | ((try simp only [decide_eq_true_eq, decide_eq_false_iff_not] at h_); omega) | (simp [mulSz, Cont.len, bne] at h_; first | done | omega))); intro _; conv => whnf)
    | (refine ⟨0, (show _ = _ by omega), ?_⟩; conv => whnf))
  refine ⟨⟨[0, 1, 3, 5, 7], ⟨r, tA, tB, r2, t3, t4, N, 0, tb f N, tb g N, 0⟩, ?_, ⟨⟨hTA, hTB, h3, h4, (by simp [tab_len]), (by simp [tab_len])⟩, (by show N ≤ 70000; omega), Nat.zero_le _⟩⟩, ?_⟩
  focus (
    show stLe _ _ (stQ 21 R I B R' I' B' L r tA tB r2 t3 t4 N 0 (tb f N) (tb g N) 0) _
    conv => whnf
    repeat' (first | exact True.intro | rfl | refine And.intro ?_ ?_)
    all_goals (conv => whnf)
    repeat' (first | exact True.intro | rfl | refine And.intro ?_ ?_)
    all_goals (try omega)
  )
  all_goals (
    intro ⟨r, tA, tB, r2, t3, t4, N, q, X, Y, i⟩ ⟨⟨(hTA : tA.length = r), (hTB : tB.length = r), (h3 : t3.length = r2), (h4 : t4.length = r2), (hX : X.length = N + q), (hY : Y.length = N + q)⟩, (hN : N ≤ 70000), (hi : i ≤ N)⟩
    show forceSt (stQ 21 R I B R' I' B' L r tA tB r2 t3 t4 N q X Y i) _
    conv => whnf
    refine tst_in (fun g1 => ?_) (fun g1' => ?_)
    · skip
      have g1 : i < N := by simp at g1; omega
      conv => whnf
      repeat (first
        | (refine And.intro ?_ ?_; (focus (first | omega | decide | exact Int.natCast_nonneg _ | ((repeat' refine And.intro ?_ ?_) <;> first | omega | exact Int.natCast_nonneg _ | (simp only [i64max, u8max, u16max, u32max, u64max]; omega) | (simp only [mulSz_eq, Cont.len, colsLen, Col.len, List.length_cons, List.length_nil, List.length_replicate, List.length_append, hX, hY]; first | done | omega) | (simp [mulSz, Cont.len, bne, hX, hY]; first | done | omega)))); conv => whnf)
        | (refine tst_in ?_ ?_; (focus (intro h_; exfalso; first | omega | ((try simp only [decide_eq_true_eq, decide_eq_false_iff_not] at h_); omega) | (simp [mulSz, Cont.len, bne, hX, hY] at h_; first | done | omega))); intro _; conv => whnf)
        | (refine tst_in ?_ ?_; rotate_left; (focus (intro h_; exfalso; first | omega | ((try simp only [decide_eq_true_eq, decide_eq_false_iff_not] at h_); omega) | (simp [mulSz, Cont.len, bne, hX, hY] at h_; first | done | omega))); intro _; conv => whnf)
        | (refine ⟨(i), (show _ = _ by omega), ?_⟩; conv => whnf)
        | (refine ⟨(i), 0, (show _ = _ by omega), ?_⟩; conv => whnf)
        | (refine ⟨(i), 1, (show _ = _ by omega), ?_⟩; conv => whnf)
        | (refine ⟨(i), 2, (show _ = _ by omega), ?_⟩; conv => whnf)
        | (refine ⟨0, (show _ = _ by omega), ?_⟩; conv => whnf))
      refine ⟨[0, 1, 2, 3, 4], ⟨r, tA, tB, r2, t3, t4, N, q, X.set i (0, 4621256167635550208), Y, i + 1⟩, ?_, ⟨⟨hTA, hTB, h3, h4, (by show (X.set i _).length = N + q; rw [List.length_set]; exact hX), hY⟩, hN, (by show i + 1 ≤ N; omega)⟩, (by show N - (i + 1) < N - i; omega)⟩
      show stLe _ _ (stQ 21 R I B R' I' B' L r tA tB r2 t3 t4 N q (X.set i (0, 4621256167635550208)) Y (i + 1)) _
      conv => whnf
      repeat' (first | exact True.intro | rfl | refine And.intro ?_ ?_)
      all_goals (conv => whnf)
      repeat' (first | exact True.intro | rfl | refine And.intro ?_ ?_)
      all_goals (try omega)
    · skip
      conv => whnf
      repeat (first
        | (refine And.intro ?_ ?_; (focus (first | omega | decide | exact Int.natCast_nonneg _ | ((repeat' refine And.intro ?_ ?_) <;> first | omega | exact Int.natCast_nonneg _ | (simp only [i64max, u8max, u16max, u32max, u64max]; omega) | (simp only [mulSz_eq, Cont.len, colsLen, Col.len, List.length_cons, List.length_nil, List.length_replicate, List.length_append]; first | done | omega) | (simp [mulSz, Cont.len, bne]; first | done | omega)))); conv => whnf)
        | (refine tst_in ?_ ?_; (focus (intro h_; exfalso; first | omega | ((try simp only [decide_eq_true_eq, decide_eq_false_iff_not] at h_); omega) | (simp [mulSz, Cont.len, bne] at h_; first | done | omega))); intro _; conv => whnf)
        | (refine tst_in ?_ ?_; rotate_left; (focus (intro h_; exfalso; first | omega | ((try simp only [decide_eq_true_eq, decide_eq_false_iff_not] at h_); omega) | (simp [mulSz, Cont.len, bne] at h_; first | done | omega))); intro _; conv => whnf)
        | (refine ⟨0, (show _ = _ by omega), ?_⟩; conv => whnf))
      refine ⟨⟨[0, 1, 2, 3, 4], ⟨r, tA, tB, r2, t3, t4, N, q, X, Y, 0⟩, ?_, ⟨⟨hTA, hTB, h3, h4, hX, hY⟩, hN, Nat.zero_le _⟩⟩, ?_⟩
      · show stLe _ _ (stQ 22 R I B R' I' B' L r tA tB r2 t3 t4 N q X Y 0) _
        conv => whnf
        repeat' (first | exact True.intro | rfl | refine And.intro ?_ ?_)
        all_goals (conv => whnf)
        repeat' (first | exact True.intro | rfl | refine And.intro ?_ ?_)
        all_goals (try omega)
      · skip
        intro ⟨r, tA, tB, r2, t3, t4, N, q, X, Y, i⟩ ⟨⟨(hTA : tA.length = r), (hTB : tB.length = r), (h3 : t3.length = r2), (h4 : t4.length = r2), (hX : X.length = N + q), (hY : Y.length = N + q)⟩, (hN : N ≤ 70000 + i), (hi : i ≤ 20)⟩
        show forceSt (stQ 22 R I B R' I' B' L r tA tB r2 t3 t4 N q X Y i) _
        have KP := kept_f (pF R I) (pG B) t3 t4 L r2 (L + r) (tb (pF R I) L ++ tA) (tb (pG B) L ++ tB) h3 h4 hL (by simp [tab_len]) (by simp [tab_len]) (by omega)
          (fun i hi => ⟨tab_app _ _ _ hi, tab_app _ _ _ hi⟩)
        conv => whnf
        refine tst_in (fun g1 => ?_) (fun g1' => ?_)
        · skip
          have g1 : i < 20 := by simp at g1; omega
          conv => whnf
          repeat (first
            | (refine And.intro ?_ ?_; (focus (first | omega | decide | exact Int.natCast_nonneg _ | ((repeat' refine And.intro ?_ ?_) <;> first | omega | exact Int.natCast_nonneg _ | (simp only [i64max, u8max, u16max, u32max, u64max]; omega) | (simp only [mulSz_eq, Cont.len, colsLen, Col.len, List.length_cons, List.length_nil, List.length_replicate, List.length_append, hX, hY, List.length_take, List.length_drop]; first | done | omega) | (simp [mulSz, Cont.len, bne, hX, hY, List.length_take, List.length_drop]; first | done | omega)))); conv => whnf)
            | (refine tst_in ?_ ?_; (focus (intro h_; exfalso; first | omega | ((try simp only [decide_eq_true_eq, decide_eq_false_iff_not] at h_); omega) | (simp [mulSz, Cont.len, bne, hX, hY, List.length_take, List.length_drop] at h_; first | done | omega))); intro _; conv => whnf)
            | (refine tst_in ?_ ?_; rotate_left; (focus (intro h_; exfalso; first | omega | ((try simp only [decide_eq_true_eq, decide_eq_false_iff_not] at h_); omega) | (simp [mulSz, Cont.len, bne, hX, hY, List.length_take, List.length_drop] at h_; first | done | omega))); intro _; conv => whnf)
            | (refine ⟨0, (show _ = _ by omega), ?_⟩; conv => whnf))
          intro q' x1 hx1 y1 hy1
          conv => whnf
          repeat (first
            | (refine And.intro ?_ ?_; (focus (first | omega | decide | exact Int.natCast_nonneg _ | ((repeat' refine And.intro ?_ ?_) <;> first | omega | exact Int.natCast_nonneg _ | (simp only [i64max, u8max, u16max, u32max, u64max]; omega) | (simp only [mulSz_eq, Cont.len, colsLen, Col.len, List.length_cons, List.length_nil, List.length_replicate, List.length_append]; first | done | omega) | (simp [mulSz, Cont.len, bne]; first | done | omega)))); conv => whnf)
            | (refine tst_in ?_ ?_; (focus (intro h_; exfalso; first | omega | ((try simp only [decide_eq_true_eq, decide_eq_false_iff_not] at h_); omega) | (simp [mulSz, Cont.len, bne] at h_; first | done | omega))); intro _; conv => whnf)
            | (refine tst_in ?_ ?_; rotate_left; (focus (intro h_; exfalso; first | omega | ((try simp only [decide_eq_true_eq, decide_eq_false_iff_not] at h_); omega) | (simp [mulSz, Cont.len, bne] at h_; first | done | omega))); intro _; conv => whnf)
            | (refine ⟨0, (show _ = _ by omega), ?_⟩; conv => whnf))
          refine ⟨[0, 1, 2, 3, 6], ⟨r, tA, tB, r2, t3, t4, N + 1, q', List.take N (List.drop 0 X) ++ [(0, 4620693217682128896)] ++ x1, List.take N (List.drop 0 Y) ++ [false] ++ y1, i + 1⟩, ?_, ⟨⟨hTA, hTB, h3, h4, (by show (List.take N (List.drop 0 X) ++ [(0, 4620693217682128896)] ++ x1).length = N + 1 + q'; simp [hX, hx1]; omega), (by show (List.take N (List.drop 0 Y) ++ [false] ++ y1).length = N + 1 + q'; simp [hY, hy1]; omega)⟩, (by show N + 1 ≤ 70000 + (i + 1); omega), (by show i + 1 ≤ 20; omega)⟩, (by show 20 - (i + 1) < 20 - i; omega)⟩
          show stLe _ _ (stQ 22 R I B R' I' B' L r tA tB r2 t3 t4 (N + 1) q' (List.take N (List.drop 0 X) ++ [(0, 4620693217682128896)] ++ x1) (List.take N (List.drop 0 Y) ++ [false] ++ y1) (i + 1)) _
          conv => whnf
          repeat' (first | exact True.intro | rfl | refine And.intro ?_ ?_)
          all_goals (conv => whnf)
          repeat' (first | exact True.intro | rfl | refine And.intro ?_ ?_)
          all_goals (try omega)
        · skip
          conv => whnf
          repeat (first
            | (refine And.intro ?_ ?_; (focus (first | omega | decide | exact Int.natCast_nonneg _ | ((repeat' refine And.intro ?_ ?_) <;> first | omega | exact Int.natCast_nonneg _ | (simp only [i64max, u8max, u16max, u32max, u64max]; omega) | (simp only [mulSz_eq, Cont.len, colsLen, Col.len, List.length_cons, List.length_nil, List.length_replicate, List.length_append]; first | done | omega) | (simp [mulSz, Cont.len, bne]; first | done | omega)))); conv => whnf)
            | (refine tst_in ?_ ?_; (focus (intro h_; exfalso; first | omega | ((try simp only [decide_eq_true_eq, decide_eq_false_iff_not] at h_); omega) | (simp [mulSz, Cont.len, bne] at h_; first | done | omega))); intro _; conv => whnf)
            | (refine tst_in ?_ ?_; rotate_left; (focus (intro h_; exfalso; first | omega | ((try simp only [decide_eq_true_eq, decide_eq_false_iff_not] at h_); omega) | (simp [mulSz, Cont.len, bne] at h_; first | done | omega))); intro _; conv => whnf)
            | (refine ⟨0, (show _ = _ by omega), ?_⟩; conv => whnf))
          refine ⟨_, [3, 2], KP, ?_⟩
          conv => whnf
          iterate 2
           refine And.intro ?_ ?_
           focus
            conv => whnf
            repeat' (first | exact True.intro | rfl | refine And.intro ?_ ?_ | omega)
            all_goals (conv => whnf)
            all_goals (try (first | rfl | omega | (simp; done)))
          conv => whnf
          refine ⟨?_, True.intro⟩
          intro _ _
          conv => whnf
          conv => whnf
          repeat (first
            | (refine And.intro ?_ ?_; (focus (first | omega | decide | exact Int.natCast_nonneg _ | ((repeat' refine And.intro ?_ ?_) <;> first | omega | exact Int.natCast_nonneg _ | (simp only [i64max, u8max, u16max, u32max, u64max]; omega) | (simp only [mulSz_eq, Cont.len, colsLen, Col.len, List.length_cons, List.length_nil, List.length_replicate, List.length_append]; first | done | omega) | (simp [mulSz, Cont.len, bne]; first | done | omega)))); conv => whnf)
            | (refine tst_in ?_ ?_; (focus (intro h_; exfalso; first | omega | ((try simp only [decide_eq_true_eq, decide_eq_false_iff_not] at h_); omega) | (simp [mulSz, Cont.len, bne] at h_; first | done | omega))); intro _; conv => whnf)
            | (refine tst_in ?_ ?_; rotate_left; (focus (intro h_; exfalso; first | omega | ((try simp only [decide_eq_true_eq, decide_eq_false_iff_not] at h_); omega) | (simp [mulSz, Cont.len, bne] at h_; first | done | omega))); intro _; conv => whnf)
            | (refine ⟨0, (show _ = _ by omega), ?_⟩; conv => whnf))
          refine ⟨_, [], awake_f, ?_⟩
          conv => whnf
          iterate 2
           refine And.intro ?_ ?_
           focus
            conv => whnf
            repeat' (first | exact True.intro | rfl | refine And.intro ?_ ?_ | omega)
            all_goals (conv => whnf)
            all_goals (try (first | rfl | omega | (simp; done)))
          conv => whnf
          refine ⟨?_, True.intro⟩
          intro _ _
          conv => whnf
          conv => whnf
          repeat (first
            | (refine And.intro ?_ ?_; (focus (first | omega | decide | exact Int.natCast_nonneg _ | ((repeat' refine And.intro ?_ ?_) <;> first | omega | exact Int.natCast_nonneg _ | (simp only [i64max, u8max, u16max, u32max, u64max]; omega) | (simp only [mulSz_eq, Cont.len, colsLen, Col.len, List.length_cons, List.length_nil, List.length_replicate, List.length_append]; first | done | omega) | (simp [mulSz, Cont.len, bne]; first | done | omega)))); conv => whnf)
            | (refine tst_in ?_ ?_; (focus (intro h_; exfalso; first | omega | ((try simp only [decide_eq_true_eq, decide_eq_false_iff_not] at h_); omega) | (simp [mulSz, Cont.len, bne] at h_; first | done | omega))); intro _; conv => whnf)
            | (refine tst_in ?_ ?_; rotate_left; (focus (intro h_; exfalso; first | omega | ((try simp only [decide_eq_true_eq, decide_eq_false_iff_not] at h_); omega) | (simp [mulSz, Cont.len, bne] at h_; first | done | omega))); intro _; conv => whnf)
            | (refine ⟨0, (show _ = _ by omega), ?_⟩; conv => whnf))
          refine .inl ⟨(), [0, 1], ?_⟩
          conv => whnf
          repeat' (first | exact True.intro | rfl | refine And.intro ?_ ?_)
          all_goals (conv => whnf)
          repeat' (first | exact True.intro | rfl | refine And.intro ?_ ?_)
          all_goals (try omega)
  )
end Go.Proofs.Ythhbcgnpbfmonaa

set_option linter.unusedVariables false
set_option linter.unusedSimpArgs false
namespace Go.Proofs.Ythhbcgnpbfmonaa
open Go Go.Fw
def colR (g : Nat → Nat × Nat × Bool) (c : Nat) : List Nat := (List.range c).map fun i => (g i).1
def colI (g : Nat → Nat × Nat × Bool) (c : Nat) : List Nat := (List.range c).map fun i => (g i).2.1
def colB (g : Nat → Nat × Nat × Bool) (c : Nat) : List Bool := (List.range c).map fun i => (g i).2.2
theorem getD_map_range {α : Type} (f : Nat → α) (z : α) (c i : Nat) (h : i < c) : ((List.range c).map f).getD i z = f i := by
  simp [List.getD_eq_getElem?_getD, h]
theorem flat_ext {F G : Nat → List AV} {n : Nat} (h : ∀ i, i < n → F i = G i) : (List.range n).flatMap F = (List.range n).flatMap G := by
  induction n with
  | zero => rfl
  | succ n ih => rw [List.range_succ, List.flatMap_append, List.flatMap_append, ih fun i hi => h i (by omega)]; simp [h n (by omega)]
theorem avl_par (g : Nat → Nat × Nat × Bool) (c : Nat) : (Cont.cols [.flts .f64 (colR g c), .flts .f64 (colI g c), .bools (colB g c)]).avl = (Cont.avs ((List.range c).flatMap fun i => [.flt .f64 (g i).1, .flt .f64 (g i).2.1, .bool (g i).2.2])).avl := by
  show (List.range (colR g c).length).flatMap _ = _
  rw [show (colR g c).length = c by simp [colR]]
  refine flat_ext fun i hi => ?_
  show [AV.flt .f64 ((colR g c).getD i 0), .flt .f64 ((colI g c).getD i 0), .bool ((colB g c).getD i false)] = _
  unfold colR colI colB
  rw [getD_map_range _ _ _ _ hi, getD_map_range _ _ _ _ hi, getD_map_range _ _ _ _ hi]
theorem slide_ways (F : Nat → Nat × Nat) (G : Nat → Bool) (L : Nat) (b c : Int) : badL L b c ∨ ∃ (f : Nat → Nat × Nat) (g : Nat → Bool) (N : Nat), N ≤ 65536 ∧ (∀ (tA : List (Nat × Nat)) (tB : List Bool) (r : Nat), tA.length = r → tB.length = r → Fits Try.prog 16 ⟨[.slice 0 0 L (L + r), .int .i64 b, .int .i64 c], [rowS false (tb F L ++ tA) (tb G L ++ tB)], [slOut f g N]⟩)
      ∧ ∀ (tA : List (Nat × Nat)) (tB : List Bool) (r : Nat), tA.length = r → tB.length = r → Fits Try.prog 17 ⟨[.slice 0 0 L (L + r), .int .i64 b, .int .i64 c], [rowS false (tb F L ++ tA) (tb G L ++ tB)], [rowOut [.dead] 1 okOut f g N]⟩ := by
  by_cases h : badL L b c
  · exact .inl h
  · refine .inr ?_
    unfold badL at h
    obtain ⟨a', rfl⟩ : ∃ a' : Nat, b = a' := ⟨b.toNat, by omega⟩
    by_cases hc : 0 ≤ c
    · obtain ⟨c', rfl⟩ : ∃ c' : Nat, c = c' := ⟨c.toNat, by omega⟩
      exact ⟨_, _, L + c', by omega, fun tA tB r hA hB => Slide_f F G tA tB L r a' c' hA hB (by omega) (by omega) (by omega), fun tA tB r hA hB => rSlide_y F G tA tB L r a' c' hA hB (by omega) (by omega) (by omega)⟩
    · obtain ⟨c', rfl⟩ : ∃ c' : Nat, c = -(c' : Int) := ⟨(-c).toNat, by omega⟩
      exact ⟨_, _, L - c', by omega, fun tA tB r hA hB => Slide_n F G tA tB L r a' c' hA hB (by omega) (by omega) (by omega) (by omega), fun tA tB r hA hB => rSlide_m F G tA tB L r a' c' hA hB (by omega) (by omega) (by omega) (by omega)⟩
theorem law_f (a b c : Int) (L cp : Nat) (g : Nat → Nat × Nat × Bool) (L' cp' : Nat) (g' : Nat → Nat × Nat × Bool) (hL : L ≤ cp) (hb : cp * 24 ≤ reachBytes) (hL' : L' ≤ cp') (hb' : cp' * 24 ≤ reachBytes) :
    Fits Try.prog 4 (lawSpec a b c L cp (colR g cp) (colI g cp) (colB g cp) L' cp' (colR g' cp') (colI g' cp') (colB g' cp')) := by
  have hb : cp * 24 ≤ 140737488351232 := hb
  have hb' : cp' * 24 ≤ 140737488351232 := hb'
  have lR : L ≤ (colR g cp).length := by simp [colR, hL]
  have lI : L ≤ (colI g cp).length := by simp [colI, hL]
  have lB : L ≤ (colB g cp).length := by simp [colB, hL]
  have lR' : L' ≤ (colR g' cp').length := by simp [colR, hL']
  have lI' : L' ≤ (colI g' cp').length := by simp [colI, hL']
  have lB' : L' ≤ (colB g' cp').length := by simp [colB, hL']
  by_cases h : badS L L' a
  · exact law_a a b c 0 1 0 L cp L' cp' _ _ _ _ _ _ lR lI lB hL (by omega) lR' lI' lB' hL' (by omega)
      (fun A A' D D' ca cb _ _ _ _ _ _ _ _ => Slip_n A A' D D' L ca L' cb a h) (fun A A' D D' ca cb _ _ _ _ _ _ _ _ => rSlip_n A A' D D' L ca L' cb a h) (slide_ways _ _ _ _ _)
  · unfold badS at h
    obtain ⟨m, rfl⟩ : ∃ m : Nat, a = m := ⟨a.toNat, by omega⟩
    exact law_a m b c _ 0 _ L cp L' cp' _ _ _ _ _ _ lR lI lB hL (by omega) lR' lI' lB' hL' (by omega)
      (fun A A' D D' ca cb h1 h2 h3 h4 h5 h6 h7 h8 => Slip_y A A' D D' _ _ _ _ L ca L' cb m h1 h2 h3 h4 h5 h6 (by omega) (by omega) (by omega) h7 h8)
      (fun A A' D D' ca cb h1 h2 h3 h4 h5 h6 h7 h8 => rSlip_y A A' D D' _ _ _ _ L ca L' cb m h1 h2 h3 h4 h5 h6 (by omega) (by omega) (by omega) h7 h8) (slide_ways _ _ _ _ _)
end Go.Proofs.Ythhbcgnpbfmonaa

namespace Go.Proofs.Ythhbcgnpbfmonaa
open Go Go.Fw
namespace tempoSlips
open Go.ChangeShapes Go.WideShapes Go.ChangeAt Go.RowKit
theorem own : ownKnob Try.prog.godebug = none := by kernel_rfl
theorem laid : laidOutB Try.prog = true := by kernel_rfl

set_option maxRecDepth 100000 in
theorem lifted (os : Os) (started : os.Started) (H : Type) (enc : TypeId × Value → H) :
    ReturnsInHanded {} Try.checked os 4 .any (Rows.tempoSlipsSpec.pre6 enc Try.prog Try.f4 Rows.tempoSlipsRow.domain false) (Rows.tempoSlipsSpec.post enc Try.prog Try.f4 false true false false) := by
  refine returnsInHanded_of_change_sized (C := Try.checked) own started (by kernel_rfl) Try.func4
    (ChangeSpec.witness6 (enc := enc) (C := Try.checked) false ⟨#[], #[.agg #[.int .i64 0, .int .i64 0, .int .i64 0], .slice none 0 0, .slice none 0 0], []⟩ 8 (by kernel_rfl) (by kernel_rfl) (by kernel_rfl) (by kernel_rfl)) ?_
  intro W base args ds gs before hval0 hW _ hsz0 _
  have hsz : (DataW.weightsEach Try.prog (Try.f4.params.toList ++ Rows.tempoSlipsSpec.plain.varTypes Try.prog) (ds ++ gs)).all (· ≤ reachBytes) = true := hsz0
  clear hsz0
  have hval : ∀ (j : Nat) t v, Try.f4.params[j]? = some t → args[j]? = some v → Value.okWide Try.prog W .any base t v := hval0
  have hW' := hW
  obtain ⟨p, q, hA0, hV, rfl, hfz, hnd⟩ := hW
  have hA : DataW.TrodAll enc Try.prog W 0 (fun _ => true) true Try.f4.params.toList args.toList ds p := hA0
  rw [Try.params4] at hA hval hsz
  obtain ⟨v0, vs0, d0, ds0, p0, q0, hargs, rfl, rfl, h0, r0⟩ := trodAll_cons hA
  obtain ⟨v1, vs1, d1, ds1, p1, q1, rfl, rfl, rfl, h1, r1⟩ := trodAll_cons r0
  obtain ⟨v2, vs2, d2, ds2, p2, q2, rfl, rfl, rfl, h2, r2⟩ := trodAll_cons r1
  obtain ⟨rfl, rfl, rfl⟩ := trodAll_nil r2
  obtain rfl : args = #[v0, v1, v2] := by cases args; simp_all
  obtain ⟨rfl, rfl⟩ := trodVars_none hV
  obtain ⟨c0c0, t0_0, e0_0, l0_0, c0c1, t0_1, e0_1, l0_1, c0c2, t0_2, e0_2, l0_2, e0_3⟩ : LeafsAre W [.int .i64, .int .i64, .int .i64] v0.cells.toList := arg_open 12 (by kernel_rfl) h0 (fine_of (j := 0) hsz rfl rfl)
  subst e0_3
  subst e0_2
  subst e0_1
  obtain rfl := agg_of e0_0 (by simp)
  obtain ⟨x0_0, rfl, w0_0⟩ := l0_0
  obtain ⟨x0_1, rfl, w0_1⟩ := l0_1
  obtain ⟨x0_2, rfl, w0_2⟩ := l0_2
  obtain ⟨a1, la1, z1, hv1⟩ := okWide_slice Try.underlying24 (hval 1 24 v1 rfl rfl)
  obtain ⟨c1c0, t1_0, e1_0, l1_0, e1_1⟩ : LeafsAre W [.row 24 [.flt .f64, .flt .f64, .bool]] v1.cells.toList := arg_open 12 (by kernel_rfl) h1 (fine_of (j := 1) hsz rfl rfl)
  subst e1_1
  obtain rfl : v1 = c1c0 := by subst hv1; simpa [Value.cells] using e1_0
  obtain ⟨n1_0, c1_0, F1_0, pl1_0, hn1_0, hb1_0, hF1_0, hc1_0⟩ := row_avs (by simp) (by simp [plainSh]) l1_0
  obtain ⟨g1_0, hg1_0⟩ := choose_all (α := Nat × Nat × Bool) (n := c1_0) (p := fun i y => F1_0 i = [.flt .f64 y.1, .flt .f64 y.2.1, .bool y.2.2] ∧ (Lit.float .f64 y.1).wf = true ∧ (Lit.float .f64 y.2.1).wf = true ∧ True) fun i hi => by
    obtain ⟨y0, t0, e0, ⟨m0, u0, z0⟩, y1, t1, e1, ⟨m1, u1, z1⟩, y2, t2, e2, ⟨m2, u2⟩, e⟩ := hF1_0 i hi
    simp only [AvsAre] at e
    exact ⟨(m0, m1, m2), by rw [e0, u0, e1, u1, e2, u2, e], z0, z1, trivial⟩
  have hw1_0 := fun i (hi : i < c1_0) => (hg1_0 i hi).2
  rw [flat_congr fun i hi => (hg1_0 i hi).1] at hc1_0
  obtain ⟨a2, la2, z2, hv2⟩ := okWide_slice Try.underlying24 (hval 2 24 v2 rfl rfl)
  obtain ⟨c2c0, t2_0, e2_0, l2_0, e2_1⟩ : LeafsAre W [.row 24 [.flt .f64, .flt .f64, .bool]] v2.cells.toList := arg_open 12 (by kernel_rfl) h2 (fine_of (j := 2) hsz rfl rfl)
  subst e2_1
  obtain rfl : v2 = c2c0 := by subst hv2; simpa [Value.cells] using e2_0
  obtain ⟨n2_0, c2_0, F2_0, pl2_0, hn2_0, hb2_0, hF2_0, hc2_0⟩ := row_avs (by simp) (by simp [plainSh]) l2_0
  obtain ⟨g2_0, hg2_0⟩ := choose_all (α := Nat × Nat × Bool) (n := c2_0) (p := fun i y => F2_0 i = [.flt .f64 y.1, .flt .f64 y.2.1, .bool y.2.2] ∧ (Lit.float .f64 y.1).wf = true ∧ (Lit.float .f64 y.2.1).wf = true ∧ True) fun i hi => by
    obtain ⟨y0, t0, e0, ⟨m0, u0, z0⟩, y1, t1, e1, ⟨m1, u1, z1⟩, y2, t2, e2, ⟨m2, u2⟩, e⟩ := hF2_0 i hi
    simp only [AvsAre] at e
    exact ⟨(m0, m1, m2), by rw [e0, u0, e1, u1, e2, u2, e], z0, z1, trivial⟩
  have hw2_0 := fun i (hi : i < c2_0) => (hg2_0 i hi).2
  rw [flat_congr fun i hi => (hg2_0 i hi).1] at hc2_0
  clear hA0 hval0
  obtain ⟨dd1_0, cc1_0⟩ := hc1_0 [pl1_0, pl2_0] 0 (by simp) rfl
  obtain ⟨dd2_0, cc2_0⟩ := hc2_0 [pl1_0, pl2_0] 1 (by simp) rfl
  have walk := (law_f x0_0 x0_1 x0_2 n1_0 c1_0 g1_0 n2_0 c2_0 g2_0 hn1_0 hb1_0 hn2_0 hb2_0).calls W [pl1_0, pl2_0] [.agg #[.int .i64 x0_0, .int .i64 x0_1, .int .i64 x0_2], v1, v2] (heap_args rfl fun i s hs => by
      match i, hs with
      | 0, hs => simp only [lawSpec, List.getElem?_cons_zero, Option.some.injEq] at hs; subst hs; exact ⟨_, rfl, (avl_par g1_0 c1_0).symm ▸ cc1_0⟩
      | 1, hs => simp only [lawSpec, List.getElem?_cons_succ, List.getElem?_cons_zero, Option.some.injEq] at hs; subst hs; exact ⟨_, rfl, (avl_par g2_0 c2_0).symm ▸ cc2_0⟩
      | i + 2, hs => simp [lawSpec] at hs) (by simp only [lawSpec, Dens]; exact ⟨_, _, rfl, ⟨[.int .i64 x0_0, .int .i64 x0_1, .int .i64 x0_2], rfl, ⟨_, _, rfl, by simp [Den], ⟨_, _, rfl, by simp [Den], ⟨_, _, rfl, by simp [Den], rfl⟩⟩⟩⟩, ⟨_, _, rfl, dd1_0, ⟨_, _, rfl, dd2_0, rfl⟩⟩⟩) (x := .bool true) (v := .bool true) rfl (by
      intro o ho y hy
      simp [lawSpec] at ho
      subst ho; rfl)
  refine walk.mono fun e W' ⟨he, hg⟩ => ?_
  subst he
  exact ⟨_, rfl, law_done laid rfl rfl Try.underlying4 (by kernel_rfl) hW' rfl hg⟩

theorem over : Rows.tempoSlipsRow.holds Try.pinned (OpenSpec.ofChange Rows.tempoSlipsSpec) :=
  OpenClaim.holds_of_wide 4 Try.f4 rfl rfl rfl rfl rfl rfl rfl ⟨rfl, rfl, rfl, rfl, rfl⟩ rfl rfl rfl rfl rfl (by kernel_rfl) Try.func4 (by kernel_rfl)
    (of_decide_eq_true (by kernel_rfl)) (by unfold Func.isWrapper; first | (rw [if_pos (by decide +kernel)]; kernel_rfl) | (rw [if_neg (by decide +kernel)]; exact ⟨rfl, rfl⟩))
    (fun os started H enc _ => lifted os started H enc)

theorem proved : Rows.TempoSlipsSaid := over
end tempoSlips
end Go.Proofs.Ythhbcgnpbfmonaa
