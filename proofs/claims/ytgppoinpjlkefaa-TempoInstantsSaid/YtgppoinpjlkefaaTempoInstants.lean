/-
  TempoInstants holds of all arguments: instants rise by steps of two lengths at most. No condition.
-/
import Derived.Test.YtgppoinpjlkefaaRows
import Derived.Test.YtgppoinpjlkefaaFv
import Derived.Test.YtgppoinpjlkefaaTwTempoInstants
import Derived.Test.YtgppoinpjlkefaaFa
import Derived.WalkKit
import Derived.ProofKit
import Derived.OpenShut
import Derived.SizedLaws
import Derived.ChangeMaps5
set_option linter.unusedSimpArgs false
set_option linter.unusedVariables false
set_option linter.unusedVariables false
set_option linter.unusedSimpArgs false
namespace Go.Proofs.Ytgppoinpjlkefaa
open Go Go.Fw
def tyL : List (Nat × TyI) := [
  (3, ⟨.int .i64, 1, 8, .int .i64 0⟩),
  (4, ⟨.bool, 1, 1, .bool false⟩),
  (5, ⟨.int .u8, 1, 1, .int .u8 0⟩),
  (22, ⟨.int .u16, 1, 2, .int .u16 0⟩),
  (24, ⟨.struct [(0, 5), (1, 5), (2, 5), (3, 22)], 4, 6, .agg #[.int .u8 0, .int .u8 0, .int .u8 0, .int .u16 0]⟩),
  (26, ⟨.struct [(0, 3), (1, 3), (2, 3)], 3, 24, .agg #[.int .i64 0, .int .i64 0, .int .i64 0]⟩),
  (27, ⟨.int .i64, 1, 8, .int .i64 0⟩)]
theorem tokL : TOk Try.prog tyL := by
  intro p hp
  simp only [tyL, List.mem_cons, List.not_mem_nil, or_false] at hp
  rcases hp with rfl | rfl | rfl | rfl | rfl | rfl | rfl
  all_goals exact ⟨by kernel_rfl, by kernel_rfl⟩
theorem mixedL : Try.prog.follows .mixedOrders = true := by kernel_rfl
def qf : Nat → Bool := fun f => match f with | 8 => true | _ => false
def cfgs (k : Nat) : Cfg := { T := tyL, sgn := fun _ => false, wr := fun _ => false, k := k, q := qf }
theorem i64max : IntKind.i64.max = 9223372036854775807 := rfl
theorem u8max : IntKind.u8.max = 255 := rfl
theorem u16max : IntKind.u16.max = 65535 := rfl
def numOut (D : List Seg) (x : AV) : FOut := ⟨Unit, fun _ => True, fun _ => x, fun _ => D⟩
/-- How many of the first steps are long. -/
def lg (N d k : Nat) : Nat := k * (N % d) / d
theorem inst_eq (N d k : Nat) (hd : 0 < d) : k * N / d = k * (N / d) + lg N d k := by
  unfold lg
  conv => lhs; rw [← Nat.div_add_mod N d, Nat.mul_add, Nat.mul_left_comm]
  rw [Nat.add_comm, Nat.add_mul_div_left _ _ hd, Nat.add_comm]
theorem lg_mono (N d k : Nat) (hd : 0 < d) : lg N d k ≤ lg N d (k + 1) ∧ lg N d (k + 1) ≤ lg N d k + 1 := by
  unfold lg
  have hr := Nat.mod_lt N hd
  constructor
  · exact Nat.div_le_div_right (Nat.mul_le_mul_right _ (by omega))
  · have e : k * (N % d) / d + 1 = (k * (N % d) + d) / d := by rw [Nat.add_div_right _ hd]
    rw [e, Nat.succ_mul]
    exact Nat.div_le_div_right (by omega)
theorem lg_zero {N d : Nat} (h : N % d = 0) (k : Nat) : lg N d k = 0 := by unfold lg; rw [h]; simp
theorem lg_den {N d : Nat} (hd : 0 < d) : d * N / d = N := Nat.mul_div_cancel_left N hd
theorem lg_0 (N d : Nat) : lg N d 0 = 0 := by unfold lg; simp
theorem lg_le (N d k : Nat) (hd : 0 < d) : lg N d k ≤ k := by
  unfold lg
  have hr := Nat.mod_lt N hd
  have : k * (N % d) ≤ k * d := Nat.mul_le_mul_left k (by omega)
  calc k * (N % d) / d ≤ k * d / d := Nat.div_le_div_right this
    _ = k := Nat.mul_div_cancel k hd
def clk (F N d : Nat) : AV := .agg [.int .i64 F, .int .i64 N, .int .i64 d]
noncomputable def c8 : Code := (Try.f8.body).getD .skip
set_option maxHeartbeats 0 in
set_option maxRecDepth 100000 in
theorem cnt_q (n : Nat) (h : n ≤ 65536) : QFits Try.prog 8 ⟨[.int .i64 n], [], .bool true⟩ := by
  refine qfits_of_body (C := cfgs 0) (c := c8) (ts := [2]) tokL mixedL (fun _ => none) (fun _ => none)
    Try.func8 (by kernel_rfl) (by kernel_rfl) (by kernel_rfl) (by kernel_rfl) (by kernel_rfl) rfl rfl ?_
  conv => whnf
  repeat (first
    | (refine And.intro ?_ ?_; (focus (first | omega | decide | exact Int.natCast_nonneg _ | ((repeat' refine And.intro ?_ ?_) <;> first | omega | exact Int.natCast_nonneg _ | (simp only [i64max]; omega) | (simp only [u8max]; omega) | (simp only [i64max, u8max, u16max, u32max, u64max]; omega) | (simp only [mulSz_eq, Cont.len, colsLen, Col.len, List.length_cons, List.length_nil, List.length_replicate, List.length_append]; done) | (simp only [mulSz_eq, Cont.len, colsLen, Col.len, List.length_cons, List.length_nil, List.length_replicate, List.length_append]; omega) | (simp [mulSz, Cont.len, bne]; done) | (simp [mulSz, Cont.len, bne]; omega)))); conv => whnf)
    | (refine tst_in ?_ ?_; (focus (intro h_; exfalso; first | omega | ((try simp only [decide_eq_true_eq, decide_eq_false_iff_not] at h_); omega) | (simp [mulSz, Cont.len, bne] at h_; done) | (simp [mulSz, Cont.len, bne] at h_; omega))); intro _; conv => whnf)
    | (refine tst_in ?_ ?_; rotate_left; (focus (intro h_; exfalso; first | omega | ((try simp only [decide_eq_true_eq, decide_eq_false_iff_not] at h_); omega) | (simp [mulSz, Cont.len, bne] at h_; done) | (simp [mulSz, Cont.len, bne] at h_; omega))); intro _; conv => whnf)
    | (refine ⟨0, (show _ = _ by omega), ?_⟩; conv => whnf))
  first | exact rfl | simp
  first | omega | skip
noncomputable def c7 : Code := (Try.f7.body).getD .skip
set_option maxHeartbeats 0 in
set_option maxRecDepth 100000 in
theorem may_f (F N d : Nat) (hF : F ≤ 65536) (hd : 1 ≤ d) (hN : d ≤ N) (hN2 : N ≤ 65536) : Fits Try.prog 7 ⟨[clk F N d], [], [numOut [] (.bool true)]⟩ := by
  have CF := cnt_q F hF
  refine fits_of_body (C := cfgs 0) (c := c7) (ts := [2]) tokL mixedL (fun _ => none) (fun _ => none)
    Try.func7 (by kernel_rfl) (by kernel_rfl) (by kernel_rfl) (by kernel_rfl) rfl ?_
  conv => whnf
  repeat (first
    | (refine And.intro ?_ ?_; (focus (first | omega | decide | exact Int.natCast_nonneg _ | ((repeat' refine And.intro ?_ ?_) <;> first | omega | exact Int.natCast_nonneg _ | (simp only [i64max]; omega) | (simp only [u8max]; omega) | (simp only [i64max, u8max, u16max, u32max, u64max]; omega) | (simp only [mulSz_eq, Cont.len, colsLen, Col.len, List.length_cons, List.length_nil, List.length_replicate, List.length_append]; done) | (simp only [mulSz_eq, Cont.len, colsLen, Col.len, List.length_cons, List.length_nil, List.length_replicate, List.length_append]; omega) | (simp [mulSz, Cont.len, bne]; done) | (simp [mulSz, Cont.len, bne]; omega)))); conv => whnf)
    | (refine tst_in ?_ ?_; (focus (intro h_; exfalso; first | omega | ((try simp only [decide_eq_true_eq, decide_eq_false_iff_not] at h_); omega) | (simp [mulSz, Cont.len, bne] at h_; done) | (simp [mulSz, Cont.len, bne] at h_; omega))); intro _; conv => whnf)
    | (refine tst_in ?_ ?_; rotate_left; (focus (intro h_; exfalso; first | omega | ((try simp only [decide_eq_true_eq, decide_eq_false_iff_not] at h_); omega) | (simp [mulSz, Cont.len, bne] at h_; done) | (simp [mulSz, Cont.len, bne] at h_; omega))); intro _; conv => whnf)
    | (refine ⟨0, (show _ = _ by omega), ?_⟩; conv => whnf))
  refine ⟨_, [], CF, ?_⟩
  conv => whnf
  refine ⟨?_, ?_, ?_⟩
  · conv => whnf
    repeat' (first | exact True.intro | rfl | refine And.intro ?_ ?_)
    all_goals (conv => whnf)
    repeat' (first | exact True.intro | rfl | refine And.intro ?_ ?_)
    all_goals (try (first | rfl | omega | (simp; done) | (simp; omega)))
  · conv => whnf
    repeat' (first | exact True.intro | rfl | refine And.intro ?_ ?_)
    all_goals (conv => whnf)
    repeat' (first | exact True.intro | rfl | refine And.intro ?_ ?_)
    all_goals (try (first | rfl | omega | (simp; done) | (simp; omega)))
  conv => whnf
  conv => whnf
  repeat (first
    | (refine And.intro ?_ ?_; (focus (first | omega | decide | exact Int.natCast_nonneg _ | ((repeat' refine And.intro ?_ ?_) <;> first | omega | exact Int.natCast_nonneg _ | (simp only [i64max]; omega) | (simp only [u8max]; omega) | (simp only [i64max, u8max, u16max, u32max, u64max]; omega) | (simp only [mulSz_eq, Cont.len, colsLen, Col.len, List.length_cons, List.length_nil, List.length_replicate, List.length_append]; done) | (simp only [mulSz_eq, Cont.len, colsLen, Col.len, List.length_cons, List.length_nil, List.length_replicate, List.length_append]; omega) | (simp [mulSz, Cont.len, bne]; done) | (simp [mulSz, Cont.len, bne]; omega)))); conv => whnf)
    | (refine tst_in ?_ ?_; (focus (intro h_; exfalso; first | omega | ((try simp only [decide_eq_true_eq, decide_eq_false_iff_not] at h_); omega) | (simp [mulSz, Cont.len, bne] at h_; done) | (simp [mulSz, Cont.len, bne] at h_; omega))); intro _; conv => whnf)
    | (refine tst_in ?_ ?_; rotate_left; (focus (intro h_; exfalso; first | omega | ((try simp only [decide_eq_true_eq, decide_eq_false_iff_not] at h_); omega) | (simp [mulSz, Cont.len, bne] at h_; done) | (simp [mulSz, Cont.len, bne] at h_; omega))); intro _; conv => whnf)
    | (refine ⟨0, (show _ = _ by omega), ?_⟩; conv => whnf))
  refine .inl ⟨(), [], ?_⟩
  conv => whnf
  repeat' (first | exact True.intro | rfl | refine And.intro ?_ ?_)
  all_goals (conv => whnf)
  repeat' (first | exact True.intro | rfl | refine And.intro ?_ ?_)
  all_goals (try (first | omega | exact True.intro | rfl | assumption | (change LE.le (α := Nat) _ _; first | omega | (simp only []; omega)) | (simp only []; done) | (simp only []; omega) | (simp; done) | (simp; omega)))
noncomputable def c9 : Code := (Try.f9.body).getD .skip
set_option maxHeartbeats 0 in
set_option maxRecDepth 100000 in
theorem inst_f (F N d k : Nat) (hF : F ≤ 65536) (hd : 1 ≤ d) (hN2 : N ≤ 65536) (hk : k ≤ 65536) : Fits Try.prog 9 ⟨[clk F N d, .int .i64 k], [], [numOut [] (.int .i64 (F + k * N / d : Nat))]⟩ := by
  have hm : k * N ≤ 65536 * 65536 := Nat.mul_le_mul hk hN2
  have hcm : ((k : Int) * (N : Int)) = ((k * N : Nat) : Int) := by rw [Int.natCast_mul]
  have hq : k * N / d ≤ k * N := Nat.div_le_self _ _
  have hcd : (((k * N : Nat) : Int) / (d : Int)) = ((k * N / d : Nat) : Int) := rfl
  refine fits_of_body (C := cfgs 0) (c := c9) (ts := [4]) tokL mixedL (fun _ => none) (fun _ => none)
    Try.func9 (by kernel_rfl) (by kernel_rfl) (by kernel_rfl) (by kernel_rfl) rfl ?_
  conv => whnf
  rw [hcm]
  conv => whnf
  repeat (first
    | (refine And.intro ?_ ?_; (focus (first | omega | decide | exact Int.natCast_nonneg _ | ((repeat' refine And.intro ?_ ?_) <;> first | omega | exact Int.natCast_nonneg _ | (simp only [i64max]; omega) | (simp only [u8max]; omega) | (simp only [i64max, u8max, u16max, u32max, u64max]; omega) | (simp only [mulSz_eq, Cont.len, colsLen, Col.len, List.length_cons, List.length_nil, List.length_replicate, List.length_append, i64max]; done) | (simp only [mulSz_eq, Cont.len, colsLen, Col.len, List.length_cons, List.length_nil, List.length_replicate, List.length_append, i64max]; omega) | (simp [mulSz, Cont.len, bne, i64max]; done) | (simp [mulSz, Cont.len, bne, i64max]; omega)))); conv => whnf)
    | (refine tst_in ?_ ?_; (focus (intro h_; exfalso; first | omega | ((try simp only [decide_eq_true_eq, decide_eq_false_iff_not] at h_); omega) | (simp [mulSz, Cont.len, bne, i64max] at h_; done) | (simp [mulSz, Cont.len, bne, i64max] at h_; omega))); intro _; conv => whnf)
    | (refine tst_in ?_ ?_; rotate_left; (focus (intro h_; exfalso; first | omega | ((try simp only [decide_eq_true_eq, decide_eq_false_iff_not] at h_); omega) | (simp [mulSz, Cont.len, bne, i64max] at h_; done) | (simp [mulSz, Cont.len, bne, i64max] at h_; omega))); intro _; conv => whnf)
    | (refine ⟨0, (show _ = _ by omega), ?_⟩; conv => whnf))
  rw [hcd]
  generalize k * N / d = Q at *
  conv => whnf
  repeat (first
    | (refine And.intro ?_ ?_; (focus (first | omega | decide | exact Int.natCast_nonneg _ | ((repeat' refine And.intro ?_ ?_) <;> first | omega | exact Int.natCast_nonneg _ | (simp only [i64max]; omega) | (simp only [u8max]; omega) | (simp only [i64max, u8max, u16max, u32max, u64max]; omega) | (simp only [mulSz_eq, Cont.len, colsLen, Col.len, List.length_cons, List.length_nil, List.length_replicate, List.length_append]; done) | (simp only [mulSz_eq, Cont.len, colsLen, Col.len, List.length_cons, List.length_nil, List.length_replicate, List.length_append]; omega) | (simp [mulSz, Cont.len, bne]; done) | (simp [mulSz, Cont.len, bne]; omega)))); conv => whnf)
    | (refine tst_in ?_ ?_; (focus (intro h_; exfalso; first | omega | ((try simp only [decide_eq_true_eq, decide_eq_false_iff_not] at h_); omega) | (simp [mulSz, Cont.len, bne] at h_; done) | (simp [mulSz, Cont.len, bne] at h_; omega))); intro _; conv => whnf)
    | (refine tst_in ?_ ?_; rotate_left; (focus (intro h_; exfalso; first | omega | ((try simp only [decide_eq_true_eq, decide_eq_false_iff_not] at h_); omega) | (simp [mulSz, Cont.len, bne] at h_; done) | (simp [mulSz, Cont.len, bne] at h_; omega))); intro _; conv => whnf)
    | (refine ⟨0, (show _ = _ by omega), ?_⟩; conv => whnf))
  refine .inl ⟨(), [], ?_⟩
  conv => whnf
  repeat' (first | exact True.intro | rfl | refine And.intro ?_ ?_)
  all_goals (conv => whnf)
  repeat' (first | exact True.intro | rfl | refine And.intro ?_ ?_)
  all_goals (try (first | omega | exact True.intro | rfl | assumption | (change LE.le (α := Nat) _ _; first | omega | (simp only []; omega)) | (simp only []; done) | (simp only []; omega) | (simp; done) | (simp; omega)))
noncomputable def c4 : Code := (Try.f4.body).getD .skip
set_option maxHeartbeats 0 in
set_option maxRecDepth 100000 in
theorem At_f (F N d k : Nat) (hF : F ≤ 65536) (hd : 1 ≤ d) (hN : d ≤ N) (hN2 : N ≤ 65536) (hk : k ≤ 65536) : Fits Try.prog 4 ⟨[clk F N d, .int .i64 k], [], [numOut [] (.tup [.int .i64 (F + k * N / d : Nat), .int .i64 0])]⟩ := by
  have MA := may_f F N d hF hd hN hN2
  have CK := cnt_q k hk
  have IN := inst_f F N d k hF hd hN2 hk
  refine fits_of_body (C := cfgs 0) (c := c4) (ts := [4, 5]) tokL mixedL (fun _ => none) (fun _ => none)
    Try.func4 (by kernel_rfl) (by kernel_rfl) (by kernel_rfl) (by kernel_rfl) rfl ?_
  conv => whnf
  repeat (first
    | (refine And.intro ?_ ?_; (focus (first | omega | decide | exact Int.natCast_nonneg _ | ((repeat' refine And.intro ?_ ?_) <;> first | omega | exact Int.natCast_nonneg _ | (simp only [i64max]; omega) | (simp only [u8max]; omega) | (simp only [i64max, u8max, u16max, u32max, u64max]; omega) | (simp only [mulSz_eq, Cont.len, colsLen, Col.len, List.length_cons, List.length_nil, List.length_replicate, List.length_append]; done) | (simp only [mulSz_eq, Cont.len, colsLen, Col.len, List.length_cons, List.length_nil, List.length_replicate, List.length_append]; omega) | (simp [mulSz, Cont.len, bne]; done) | (simp [mulSz, Cont.len, bne]; omega)))); conv => whnf)
    | (refine tst_in ?_ ?_; (focus (intro h_; exfalso; first | omega | ((try simp only [decide_eq_true_eq, decide_eq_false_iff_not] at h_); omega) | (simp [mulSz, Cont.len, bne] at h_; done) | (simp [mulSz, Cont.len, bne] at h_; omega))); intro _; conv => whnf)
    | (refine tst_in ?_ ?_; rotate_left; (focus (intro h_; exfalso; first | omega | ((try simp only [decide_eq_true_eq, decide_eq_false_iff_not] at h_); omega) | (simp [mulSz, Cont.len, bne] at h_; done) | (simp [mulSz, Cont.len, bne] at h_; omega))); intro _; conv => whnf)
    | (refine ⟨0, (show _ = _ by omega), ?_⟩; conv => whnf))
  refine ⟨_, [], MA, ?_⟩
  conv => whnf
  refine ⟨?_, ?_, ?_⟩
  · conv => whnf
    repeat' (first | exact True.intro | rfl | refine And.intro ?_ ?_ | omega)
    all_goals (conv => whnf)
    all_goals (try (first | rfl | omega | (simp; done)))
  · conv => whnf
    repeat' (first | exact True.intro | rfl | refine And.intro ?_ ?_ | omega)
    all_goals (conv => whnf)
    all_goals (try (first | rfl | omega | (simp; done)))
  conv => whnf
  refine ⟨?_, True.intro⟩
  intro _ _
  conv => whnf
  conv => whnf
  repeat (first
    | (refine And.intro ?_ ?_; (focus (first | omega | decide | exact Int.natCast_nonneg _ | ((repeat' refine And.intro ?_ ?_) <;> first | omega | exact Int.natCast_nonneg _ | (simp only [i64max]; omega) | (simp only [u8max]; omega) | (simp only [i64max, u8max, u16max, u32max, u64max]; omega) | (simp only [mulSz_eq, Cont.len, colsLen, Col.len, List.length_cons, List.length_nil, List.length_replicate, List.length_append]; done) | (simp only [mulSz_eq, Cont.len, colsLen, Col.len, List.length_cons, List.length_nil, List.length_replicate, List.length_append]; omega) | (simp [mulSz, Cont.len, bne]; done) | (simp [mulSz, Cont.len, bne]; omega)))); conv => whnf)
    | (refine tst_in ?_ ?_; (focus (intro h_; exfalso; first | omega | ((try simp only [decide_eq_true_eq, decide_eq_false_iff_not] at h_); omega) | (simp [mulSz, Cont.len, bne] at h_; done) | (simp [mulSz, Cont.len, bne] at h_; omega))); intro _; conv => whnf)
    | (refine tst_in ?_ ?_; rotate_left; (focus (intro h_; exfalso; first | omega | ((try simp only [decide_eq_true_eq, decide_eq_false_iff_not] at h_); omega) | (simp [mulSz, Cont.len, bne] at h_; done) | (simp [mulSz, Cont.len, bne] at h_; omega))); intro _; conv => whnf)
    | (refine ⟨0, (show _ = _ by omega), ?_⟩; conv => whnf))
  refine ⟨_, [], CK, ?_⟩
  conv => whnf
  refine ⟨?_, ?_, ?_⟩
  · conv => whnf
    repeat' (first | exact True.intro | rfl | refine And.intro ?_ ?_)
    all_goals (conv => whnf)
    repeat' (first | exact True.intro | rfl | refine And.intro ?_ ?_)
    all_goals (try (first | rfl | omega | (simp; done) | (simp; omega)))
  · conv => whnf
    repeat' (first | exact True.intro | rfl | refine And.intro ?_ ?_)
    all_goals (conv => whnf)
    repeat' (first | exact True.intro | rfl | refine And.intro ?_ ?_)
    all_goals (try (first | rfl | omega | (simp; done) | (simp; omega)))
  conv => whnf
  conv => whnf
  repeat (first
    | (refine And.intro ?_ ?_; (focus (first | omega | decide | exact Int.natCast_nonneg _ | ((repeat' refine And.intro ?_ ?_) <;> first | omega | exact Int.natCast_nonneg _ | (simp only [i64max]; omega) | (simp only [u8max]; omega) | (simp only [i64max, u8max, u16max, u32max, u64max]; omega) | (simp only [mulSz_eq, Cont.len, colsLen, Col.len, List.length_cons, List.length_nil, List.length_replicate, List.length_append]; done) | (simp only [mulSz_eq, Cont.len, colsLen, Col.len, List.length_cons, List.length_nil, List.length_replicate, List.length_append]; omega) | (simp [mulSz, Cont.len, bne]; done) | (simp [mulSz, Cont.len, bne]; omega)))); conv => whnf)
    | (refine tst_in ?_ ?_; (focus (intro h_; exfalso; first | omega | ((try simp only [decide_eq_true_eq, decide_eq_false_iff_not] at h_); omega) | (simp [mulSz, Cont.len, bne] at h_; done) | (simp [mulSz, Cont.len, bne] at h_; omega))); intro _; conv => whnf)
    | (refine tst_in ?_ ?_; rotate_left; (focus (intro h_; exfalso; first | omega | ((try simp only [decide_eq_true_eq, decide_eq_false_iff_not] at h_); omega) | (simp [mulSz, Cont.len, bne] at h_; done) | (simp [mulSz, Cont.len, bne] at h_; omega))); intro _; conv => whnf)
    | (refine ⟨0, (show _ = _ by omega), ?_⟩; conv => whnf))
  refine ⟨_, [], IN, ?_⟩
  conv => whnf
  refine ⟨?_, ?_, ?_⟩
  · conv => whnf
    repeat' (first | exact True.intro | rfl | refine And.intro ?_ ?_ | omega)
    all_goals (conv => whnf)
    all_goals (try (first | rfl | omega | (simp; done)))
  · conv => whnf
    repeat' (first | exact True.intro | rfl | refine And.intro ?_ ?_ | omega)
    all_goals (conv => whnf)
    all_goals (try (first | rfl | omega | (simp; done)))
  conv => whnf
  refine ⟨?_, True.intro⟩
  intro _ _
  conv => whnf
  conv => whnf
  repeat (first
    | (refine And.intro ?_ ?_; (focus (first | omega | decide | exact Int.natCast_nonneg _ | ((repeat' refine And.intro ?_ ?_) <;> first | omega | exact Int.natCast_nonneg _ | (simp only [i64max]; omega) | (simp only [u8max]; omega) | (simp only [i64max, u8max, u16max, u32max, u64max]; omega) | (simp only [mulSz_eq, Cont.len, colsLen, Col.len, List.length_cons, List.length_nil, List.length_replicate, List.length_append]; done) | (simp only [mulSz_eq, Cont.len, colsLen, Col.len, List.length_cons, List.length_nil, List.length_replicate, List.length_append]; omega) | (simp [mulSz, Cont.len, bne]; done) | (simp [mulSz, Cont.len, bne]; omega)))); conv => whnf)
    | (refine tst_in ?_ ?_; (focus (intro h_; exfalso; first | omega | ((try simp only [decide_eq_true_eq, decide_eq_false_iff_not] at h_); omega) | (simp [mulSz, Cont.len, bne] at h_; done) | (simp [mulSz, Cont.len, bne] at h_; omega))); intro _; conv => whnf)
    | (refine tst_in ?_ ?_; rotate_left; (focus (intro h_; exfalso; first | omega | ((try simp only [decide_eq_true_eq, decide_eq_false_iff_not] at h_); omega) | (simp [mulSz, Cont.len, bne] at h_; done) | (simp [mulSz, Cont.len, bne] at h_; omega))); intro _; conv => whnf)
    | (refine ⟨0, (show _ = _ by omega), ?_⟩; conv => whnf))
  refine .inl ⟨(), [], ?_⟩
  conv => whnf
  repeat' (first | exact True.intro | rfl | refine And.intro ?_ ?_)
  all_goals (conv => whnf)
  repeat' (first | exact True.intro | rfl | refine And.intro ?_ ?_)
  all_goals (try (first | omega | exact True.intro | rfl | assumption | (change LE.le (α := Nat) _ _; first | omega | (simp only []; omega)) | (simp only []; done) | (simp only []; omega) | (simp; done) | (simp; omega)))
end Go.Proofs.Ytgppoinpjlkefaa

set_option linter.unusedVariables false
set_option linter.unusedSimpArgs false
namespace Go.Proofs.Ytgppoinpjlkefaa
open Go Go.Fw
noncomputable def c5 : Code := (Try.f5.body).getD .skip
def planL5 : PlanN := .op 0 (.op 1 (.op 6 (.rd 3 (.rd 4 (.rd 7 (.rd 8 (.rd 9 (.rd 10 (.rd 11 (.rd 12 (.op 2 (.chk [12, 11, 10, 9, 8, 7, 4, 3] (.op 5 (.op 13 (.op 14 (.op 15 .done))))))))))))))))
def cfgL5 : Cfg := { T := tyL, sgn := fun _ => false, wr := fun _ => false, k := 0, q := qf, plan := fun | 3 => some (.nn planL5) | _ => none }
set_option maxHeartbeats 0 in
set_option maxRecDepth 100000 in
theorem Long_f (F N d k : Nat) (hF : F ≤ 65536) (hd : 1 ≤ d) (hN : d ≤ N) (hN2 : N ≤ 65536) (hk : k ≤ 65536) : Fits Try.prog 5 ⟨[clk F N d, .int .i64 k], [], [numOut [] (.tup [.int .i64 (lg N d k : Nat), .int .i64 0])]⟩ := by
  have MA := may_f F N d hF hd hN hN2
  have CK := cnt_q k hk
  have IN := inst_f F N d k hF hd hN2 hk
  have IE := inst_eq N d k hd
  have LL := lg_le N d k hd
  have hq : N / d ≤ 65536 := Nat.le_trans (Nat.div_le_self _ _) hN2
  have hkq : k * (N / d) ≤ 65536 * 65536 := Nat.mul_le_mul hk hq
  have eq : (N : Int) / (d : Int) = ((N / d : Nat) : Int) := by simp
  have ek : (k : Int) * ((N / d : Nat) : Int) = ((k * (N / d) : Nat) : Int) := by simp
  refine fits_of_body (C := cfgL5) (c := c5) (ts := [4, 5]) tokL mixedL (fun _ => none) (fun _ => none)
    Try.func5 (by kernel_rfl) (by kernel_rfl) (by kernel_rfl) (by kernel_rfl) rfl ?_
  conv => whnf
  repeat (first
    | (refine And.intro ?_ ?_; (focus (first | omega | decide | exact Int.natCast_nonneg _ | ((repeat' refine And.intro ?_ ?_) <;> first | omega | exact Int.natCast_nonneg _ | (simp only [i64max]; omega) | (simp only [u8max]; omega) | (simp only [i64max, u8max, u16max, u32max, u64max]; omega) | (simp only [mulSz_eq, Cont.len, colsLen, Col.len, List.length_cons, List.length_nil, List.length_replicate, List.length_append]; done) | (simp only [mulSz_eq, Cont.len, colsLen, Col.len, List.length_cons, List.length_nil, List.length_replicate, List.length_append]; omega) | (simp [mulSz, Cont.len, bne]; done) | (simp [mulSz, Cont.len, bne]; omega)))); conv => whnf)
    | (refine tst_in ?_ ?_; (focus (intro h_; exfalso; first | omega | ((try simp only [decide_eq_true_eq, decide_eq_false_iff_not] at h_); omega) | (simp [mulSz, Cont.len, bne] at h_; done) | (simp [mulSz, Cont.len, bne] at h_; omega))); intro _; conv => whnf)
    | (refine tst_in ?_ ?_; rotate_left; (focus (intro h_; exfalso; first | omega | ((try simp only [decide_eq_true_eq, decide_eq_false_iff_not] at h_); omega) | (simp [mulSz, Cont.len, bne] at h_; done) | (simp [mulSz, Cont.len, bne] at h_; omega))); intro _; conv => whnf)
    | (refine ⟨0, (show _ = _ by omega), ?_⟩; conv => whnf))
  refine ⟨_, [], MA, ?_⟩
  conv => whnf
  refine ⟨?_, ?_, ?_⟩
  · conv => whnf
    repeat' (first | exact True.intro | rfl | refine And.intro ?_ ?_ | omega)
    all_goals (conv => whnf)
    all_goals (try (first | rfl | omega | (simp; done)))
  · conv => whnf
    repeat' (first | exact True.intro | rfl | refine And.intro ?_ ?_ | omega)
    all_goals (conv => whnf)
    all_goals (try (first | rfl | omega | (simp; done)))
  conv => whnf
  refine ⟨?_, True.intro⟩
  intro _ _
  conv => whnf
  conv => whnf
  repeat (first
    | (refine And.intro ?_ ?_; (focus (first | omega | decide | exact Int.natCast_nonneg _ | ((repeat' refine And.intro ?_ ?_) <;> first | omega | exact Int.natCast_nonneg _ | (simp only [i64max]; omega) | (simp only [u8max]; omega) | (simp only [i64max, u8max, u16max, u32max, u64max]; omega) | (simp only [mulSz_eq, Cont.len, colsLen, Col.len, List.length_cons, List.length_nil, List.length_replicate, List.length_append]; done) | (simp only [mulSz_eq, Cont.len, colsLen, Col.len, List.length_cons, List.length_nil, List.length_replicate, List.length_append]; omega) | (simp [mulSz, Cont.len, bne]; done) | (simp [mulSz, Cont.len, bne]; omega)))); conv => whnf)
    | (refine tst_in ?_ ?_; (focus (intro h_; exfalso; first | omega | ((try simp only [decide_eq_true_eq, decide_eq_false_iff_not] at h_); omega) | (simp [mulSz, Cont.len, bne] at h_; done) | (simp [mulSz, Cont.len, bne] at h_; omega))); intro _; conv => whnf)
    | (refine tst_in ?_ ?_; rotate_left; (focus (intro h_; exfalso; first | omega | ((try simp only [decide_eq_true_eq, decide_eq_false_iff_not] at h_); omega) | (simp [mulSz, Cont.len, bne] at h_; done) | (simp [mulSz, Cont.len, bne] at h_; omega))); intro _; conv => whnf)
    | (refine ⟨0, (show _ = _ by omega), ?_⟩; conv => whnf))
  refine ⟨_, [], CK, ?_⟩
  conv => whnf
  refine ⟨?_, ?_, ?_⟩
  · conv => whnf
    repeat' (first | exact True.intro | rfl | refine And.intro ?_ ?_ | omega)
    all_goals (conv => whnf)
    all_goals (try (first | rfl | omega | (simp; done)))
  · conv => whnf
    repeat' (first | exact True.intro | rfl | refine And.intro ?_ ?_ | omega)
    all_goals (conv => whnf)
    all_goals (try (first | rfl | omega | (simp; done)))
  conv => whnf
  conv => whnf
  repeat (first
    | (refine And.intro ?_ ?_; (focus (first | omega | decide | exact Int.natCast_nonneg _ | ((repeat' refine And.intro ?_ ?_) <;> first | omega | exact Int.natCast_nonneg _ | (simp only [i64max]; omega) | (simp only [u8max]; omega) | (simp only [i64max, u8max, u16max, u32max, u64max]; omega) | (simp only [mulSz_eq, Cont.len, colsLen, Col.len, List.length_cons, List.length_nil, List.length_replicate, List.length_append]; done) | (simp only [mulSz_eq, Cont.len, colsLen, Col.len, List.length_cons, List.length_nil, List.length_replicate, List.length_append]; omega) | (simp [mulSz, Cont.len, bne]; done) | (simp [mulSz, Cont.len, bne]; omega)))); conv => whnf)
    | (refine tst_in ?_ ?_; (focus (intro h_; exfalso; first | omega | ((try simp only [decide_eq_true_eq, decide_eq_false_iff_not] at h_); omega) | (simp [mulSz, Cont.len, bne] at h_; done) | (simp [mulSz, Cont.len, bne] at h_; omega))); intro _; conv => whnf)
    | (refine tst_in ?_ ?_; rotate_left; (focus (intro h_; exfalso; first | omega | ((try simp only [decide_eq_true_eq, decide_eq_false_iff_not] at h_); omega) | (simp [mulSz, Cont.len, bne] at h_; done) | (simp [mulSz, Cont.len, bne] at h_; omega))); intro _; conv => whnf)
    | (refine ⟨0, (show _ = _ by omega), ?_⟩; conv => whnf))
  rw [eq]
  conv => whnf
  repeat (first
    | (refine And.intro ?_ ?_; (focus (first | omega | decide | exact Int.natCast_nonneg _ | ((repeat' refine And.intro ?_ ?_) <;> first | omega | exact Int.natCast_nonneg _ | (simp only [i64max]; omega) | (simp only [u8max]; omega) | (simp only [i64max, u8max, u16max, u32max, u64max]; omega) | (simp only [mulSz_eq, Cont.len, colsLen, Col.len, List.length_cons, List.length_nil, List.length_replicate, List.length_append]; done) | (simp only [mulSz_eq, Cont.len, colsLen, Col.len, List.length_cons, List.length_nil, List.length_replicate, List.length_append]; omega) | (simp [mulSz, Cont.len, bne]; done) | (simp [mulSz, Cont.len, bne]; omega)))); conv => whnf)
    | (refine tst_in ?_ ?_; (focus (intro h_; exfalso; first | omega | ((try simp only [decide_eq_true_eq, decide_eq_false_iff_not] at h_); omega) | (simp [mulSz, Cont.len, bne] at h_; done) | (simp [mulSz, Cont.len, bne] at h_; omega))); intro _; conv => whnf)
    | (refine tst_in ?_ ?_; rotate_left; (focus (intro h_; exfalso; first | omega | ((try simp only [decide_eq_true_eq, decide_eq_false_iff_not] at h_); omega) | (simp [mulSz, Cont.len, bne] at h_; done) | (simp [mulSz, Cont.len, bne] at h_; omega))); intro _; conv => whnf)
    | (refine ⟨0, (show _ = _ by omega), ?_⟩; conv => whnf))
  rw [ek]
  conv => whnf
  repeat (first
    | (refine And.intro ?_ ?_; (focus (first | omega | decide | exact Int.natCast_nonneg _ | ((repeat' refine And.intro ?_ ?_) <;> first | omega | exact Int.natCast_nonneg _ | (simp only [i64max]; omega) | (simp only [u8max]; omega) | (simp only [i64max, u8max, u16max, u32max, u64max]; omega) | (simp only [mulSz_eq, Cont.len, colsLen, Col.len, List.length_cons, List.length_nil, List.length_replicate, List.length_append]; done) | (simp only [mulSz_eq, Cont.len, colsLen, Col.len, List.length_cons, List.length_nil, List.length_replicate, List.length_append]; omega) | (simp [mulSz, Cont.len, bne]; done) | (simp [mulSz, Cont.len, bne]; omega)))); conv => whnf)
    | (refine tst_in ?_ ?_; (focus (intro h_; exfalso; first | omega | ((try simp only [decide_eq_true_eq, decide_eq_false_iff_not] at h_); omega) | (simp [mulSz, Cont.len, bne] at h_; done) | (simp [mulSz, Cont.len, bne] at h_; omega))); intro _; conv => whnf)
    | (refine tst_in ?_ ?_; rotate_left; (focus (intro h_; exfalso; first | omega | ((try simp only [decide_eq_true_eq, decide_eq_false_iff_not] at h_); omega) | (simp [mulSz, Cont.len, bne] at h_; done) | (simp [mulSz, Cont.len, bne] at h_; omega))); intro _; conv => whnf)
    | (refine ⟨0, (show _ = _ by omega), ?_⟩; conv => whnf))
  refine ⟨_, [], IN, ?_⟩
  conv => whnf
  refine ⟨?_, ?_, ?_⟩
  · conv => whnf
    repeat' (first | exact True.intro | rfl | refine And.intro ?_ ?_ | omega)
    all_goals (conv => whnf)
    all_goals (try (first | rfl | omega | (simp; done)))
  · conv => whnf
    repeat' (first | exact True.intro | rfl | refine And.intro ?_ ?_ | omega)
    all_goals (conv => whnf)
    all_goals (try (first | rfl | omega | (simp; done)))
  conv => whnf
  refine ⟨?_, True.intro⟩
  intro _ _
  conv => whnf
  conv => whnf
  repeat (first
    | (refine And.intro ?_ ?_; (focus (first | omega | decide | exact Int.natCast_nonneg _ | ((repeat' refine And.intro ?_ ?_) <;> first | omega | exact Int.natCast_nonneg _ | (simp only [i64max]; omega) | (simp only [u8max]; omega) | (simp only [i64max, u8max, u16max, u32max, u64max]; omega) | (simp only [mulSz_eq, Cont.len, colsLen, Col.len, List.length_cons, List.length_nil, List.length_replicate, List.length_append]; done) | (simp only [mulSz_eq, Cont.len, colsLen, Col.len, List.length_cons, List.length_nil, List.length_replicate, List.length_append]; omega) | (simp [mulSz, Cont.len, bne]; done) | (simp [mulSz, Cont.len, bne]; omega)))); conv => whnf)
    | (refine tst_in ?_ ?_; (focus (intro h_; exfalso; first | omega | ((try simp only [decide_eq_true_eq, decide_eq_false_iff_not] at h_); omega) | (simp [mulSz, Cont.len, bne] at h_; done) | (simp [mulSz, Cont.len, bne] at h_; omega))); intro _; conv => whnf)
    | (refine tst_in ?_ ?_; rotate_left; (focus (intro h_; exfalso; first | omega | ((try simp only [decide_eq_true_eq, decide_eq_false_iff_not] at h_); omega) | (simp [mulSz, Cont.len, bne] at h_; done) | (simp [mulSz, Cont.len, bne] at h_; omega))); intro _; conv => whnf)
    | (refine ⟨0, (show _ = _ by omega), ?_⟩; conv => whnf))
  refine .inl ⟨(), [], ?_⟩
  conv => whnf
  repeat' (first | exact True.intro | rfl | refine And.intro ?_ ?_)
  all_goals (conv => whnf)
  repeat' (first | exact True.intro | rfl | refine And.intro ?_ ?_)
  all_goals (try omega)
end Go.Proofs.Ytgppoinpjlkefaa

set_option linter.unusedVariables false
set_option linter.unusedSimpArgs false
namespace Go.Proofs.Ytgppoinpjlkefaa
open Go Go.Fw
def tiSpec (f v e n : Int) : FSpec := ⟨[.agg [.int .u8 f, .int .u8 v, .int .u8 e, .int .u16 n]], [], [numOut [] (.bool true)]⟩
def s8 (F N d M s j L A : Nat) : St := ⟨anyTo 122 [.any, .any, .any, .any, .ptr 0 0, .int .i64 M, .int .i64 s, .int .i64 L, .int .i64 A, .int .i64 (j + 1 : Nat)], [.seg true (.avs [.int .i64 F, .int .i64 N, .int .i64 d])]⟩
def i8 (F N d M s : Nat) : LInv := ⟨Nat, fun j => s8 F N d M s j (F + j * N / d) (lg N d j), fun j => j ≤ M, fun j => M - j⟩
noncomputable def c3 : Code := (Try.f3.body).getD .skip
set_option maxHeartbeats 0 in
set_option maxRecDepth 100000 in
theorem ti_R (f v e n d M s : Nat) (hf : f ≤ 255) (hv : v ≤ 255) (he : e ≤ 255) (hn : n ≤ 65535) (hd : (e : Int) % 40 + 1 = (d : Int)) (hM : (n : Int) % 300 = (M : Int)) (hs : (d + v) / d = s) : Fits Try.prog 3 (tiSpec f v e n) := by
  have hd1 : 1 ≤ d ∧ d ≤ 40 := by omega
  have hM2 : M ≤ 299 := by omega
  have wf : IntKind.i64.wrap (f : Int) = f := wrap_i64 (by omega)
  have wv : IntKind.i64.wrap (v : Int) = v := wrap_i64 (by omega)
  have we : IntKind.i64.wrap (e : Int) = e := wrap_i64 (by omega)
  have wn : IntKind.i64.wrap (n : Int) = n := wrap_i64 (by omega)
  have AT := fun k hk => At_f f (d + v) d k (by omega) hd1.1 (by omega) (by omega) hk
  have LO := fun k hk => Long_f f (d + v) d k (by omega) hd1.1 (by omega) (by omega) hk
  have hcs : (((d + v : Nat) : Int) / (d : Int)) = ((s : Nat) : Int) := by rw [← hs]; rfl
  have hcm : (((d + v : Nat) : Int) % (d : Int)) = (((d + v) % d : Nat) : Int) := rfl
  have hsN : s ≤ d + v := by rw [← hs]; exact Nat.div_le_self _ _
  have hdv : ((d : Int) + (v : Int)) = ((d + v : Nat) : Int) := by omega
  refine fits_of_body (C := cfgs 0) (c := c3) (ts := [2]) tokL mixedL (fun | 8 => some (i8 f (d + v) d M s) | _ => none) (fun _ => none)
    Try.func3 (by kernel_rfl) (by kernel_rfl) (by kernel_rfl) (by kernel_rfl) rfl ?_
  conv => whnf
  rw [we]
  conv => whnf
  repeat (first
    | (refine And.intro ?_ ?_; (focus (first | omega | decide | exact Int.natCast_nonneg _ | ((repeat' refine And.intro ?_ ?_) <;> first | omega | exact Int.natCast_nonneg _ | (simp only [i64max]; omega) | (simp only [u8max]; omega) | (simp only [i64max, u8max, u16max, u32max, u64max]; omega) | (simp only [mulSz_eq, Cont.len, colsLen, Col.len, List.length_cons, List.length_nil, List.length_replicate, List.length_append]; done) | (simp only [mulSz_eq, Cont.len, colsLen, Col.len, List.length_cons, List.length_nil, List.length_replicate, List.length_append]; omega) | (simp [mulSz, Cont.len, bne]; done) | (simp [mulSz, Cont.len, bne]; omega)))); conv => whnf)
    | (refine tst_in ?_ ?_; (focus (intro h_; exfalso; first | omega | ((try simp only [decide_eq_true_eq, decide_eq_false_iff_not] at h_); omega) | (simp [mulSz, Cont.len, bne] at h_; done) | (simp [mulSz, Cont.len, bne] at h_; omega))); intro _; conv => whnf)
    | (refine tst_in ?_ ?_; rotate_left; (focus (intro h_; exfalso; first | omega | ((try simp only [decide_eq_true_eq, decide_eq_false_iff_not] at h_); omega) | (simp [mulSz, Cont.len, bne] at h_; done) | (simp [mulSz, Cont.len, bne] at h_; omega))); intro _; conv => whnf)
    | (refine ⟨0, (show _ = _ by omega), ?_⟩; conv => whnf))
  rw [hd, wf]
  conv => whnf
  repeat (first
    | (refine And.intro ?_ ?_; (focus (first | omega | decide | exact Int.natCast_nonneg _ | ((repeat' refine And.intro ?_ ?_) <;> first | omega | exact Int.natCast_nonneg _ | (simp only [i64max]; omega) | (simp only [u8max]; omega) | (simp only [i64max, u8max, u16max, u32max, u64max]; omega) | (simp only [mulSz_eq, Cont.len, colsLen, Col.len, List.length_cons, List.length_nil, List.length_replicate, List.length_append]; done) | (simp only [mulSz_eq, Cont.len, colsLen, Col.len, List.length_cons, List.length_nil, List.length_replicate, List.length_append]; omega) | (simp [mulSz, Cont.len, bne]; done) | (simp [mulSz, Cont.len, bne]; omega)))); conv => whnf)
    | (refine tst_in ?_ ?_; (focus (intro h_; exfalso; first | omega | ((try simp only [decide_eq_true_eq, decide_eq_false_iff_not] at h_); omega) | (simp [mulSz, Cont.len, bne] at h_; done) | (simp [mulSz, Cont.len, bne] at h_; omega))); intro _; conv => whnf)
    | (refine tst_in ?_ ?_; rotate_left; (focus (intro h_; exfalso; first | omega | ((try simp only [decide_eq_true_eq, decide_eq_false_iff_not] at h_); omega) | (simp [mulSz, Cont.len, bne] at h_; done) | (simp [mulSz, Cont.len, bne] at h_; omega))); intro _; conv => whnf)
    | (refine ⟨0, (show _ = _ by omega), ?_⟩; conv => whnf))
  rw [wv, hdv]
  conv => whnf
  repeat (first
    | (refine And.intro ?_ ?_; (focus (first | omega | decide | exact Int.natCast_nonneg _ | ((repeat' refine And.intro ?_ ?_) <;> first | omega | exact Int.natCast_nonneg _ | (simp only [i64max]; omega) | (simp only [u8max]; omega) | (simp only [i64max, u8max, u16max, u32max, u64max]; omega) | (simp only [mulSz_eq, Cont.len, colsLen, Col.len, List.length_cons, List.length_nil, List.length_replicate, List.length_append]; done) | (simp only [mulSz_eq, Cont.len, colsLen, Col.len, List.length_cons, List.length_nil, List.length_replicate, List.length_append]; omega) | (simp [mulSz, Cont.len, bne]; done) | (simp [mulSz, Cont.len, bne]; omega)))); conv => whnf)
    | (refine tst_in ?_ ?_; (focus (intro h_; exfalso; first | omega | ((try simp only [decide_eq_true_eq, decide_eq_false_iff_not] at h_); omega) | (simp [mulSz, Cont.len, bne] at h_; done) | (simp [mulSz, Cont.len, bne] at h_; omega))); intro _; conv => whnf)
    | (refine tst_in ?_ ?_; rotate_left; (focus (intro h_; exfalso; first | omega | ((try simp only [decide_eq_true_eq, decide_eq_false_iff_not] at h_); omega) | (simp [mulSz, Cont.len, bne] at h_; done) | (simp [mulSz, Cont.len, bne] at h_; omega))); intro _; conv => whnf)
    | (refine ⟨0, (show _ = _ by omega), ?_⟩; conv => whnf))
  rw [wn]
  conv => whnf
  repeat (first
    | (refine And.intro ?_ ?_; (focus (first | omega | decide | exact Int.natCast_nonneg _ | ((repeat' refine And.intro ?_ ?_) <;> first | omega | exact Int.natCast_nonneg _ | (simp only [i64max]; omega) | (simp only [u8max]; omega) | (simp only [i64max, u8max, u16max, u32max, u64max]; omega) | (simp only [mulSz_eq, Cont.len, colsLen, Col.len, List.length_cons, List.length_nil, List.length_replicate, List.length_append]; done) | (simp only [mulSz_eq, Cont.len, colsLen, Col.len, List.length_cons, List.length_nil, List.length_replicate, List.length_append]; omega) | (simp [mulSz, Cont.len, bne]; done) | (simp [mulSz, Cont.len, bne]; omega)))); conv => whnf)
    | (refine tst_in ?_ ?_; (focus (intro h_; exfalso; first | omega | ((try simp only [decide_eq_true_eq, decide_eq_false_iff_not] at h_); omega) | (simp [mulSz, Cont.len, bne] at h_; done) | (simp [mulSz, Cont.len, bne] at h_; omega))); intro _; conv => whnf)
    | (refine tst_in ?_ ?_; rotate_left; (focus (intro h_; exfalso; first | omega | ((try simp only [decide_eq_true_eq, decide_eq_false_iff_not] at h_); omega) | (simp [mulSz, Cont.len, bne] at h_; done) | (simp [mulSz, Cont.len, bne] at h_; omega))); intro _; conv => whnf)
    | (refine ⟨0, (show _ = _ by omega), ?_⟩; conv => whnf))
  rw [hM]
  conv => whnf
  repeat (first
    | (refine And.intro ?_ ?_; (focus (first | omega | decide | exact Int.natCast_nonneg _ | ((repeat' refine And.intro ?_ ?_) <;> first | omega | exact Int.natCast_nonneg _ | (simp only [i64max]; omega) | (simp only [u8max]; omega) | (simp only [i64max, u8max, u16max, u32max, u64max]; omega) | (simp only [mulSz_eq, Cont.len, colsLen, Col.len, List.length_cons, List.length_nil, List.length_replicate, List.length_append]; done) | (simp only [mulSz_eq, Cont.len, colsLen, Col.len, List.length_cons, List.length_nil, List.length_replicate, List.length_append]; omega) | (simp [mulSz, Cont.len, bne]; done) | (simp [mulSz, Cont.len, bne]; omega)))); conv => whnf)
    | (refine tst_in ?_ ?_; (focus (intro h_; exfalso; first | omega | ((try simp only [decide_eq_true_eq, decide_eq_false_iff_not] at h_); omega) | (simp [mulSz, Cont.len, bne] at h_; done) | (simp [mulSz, Cont.len, bne] at h_; omega))); intro _; conv => whnf)
    | (refine tst_in ?_ ?_; rotate_left; (focus (intro h_; exfalso; first | omega | ((try simp only [decide_eq_true_eq, decide_eq_false_iff_not] at h_); omega) | (simp [mulSz, Cont.len, bne] at h_; done) | (simp [mulSz, Cont.len, bne] at h_; omega))); intro _; conv => whnf)
    | (refine ⟨0, (show _ = _ by omega), ?_⟩; conv => whnf))
  rw [hcs]
  conv => whnf
  repeat (first
    | (refine And.intro ?_ ?_; (focus (first | omega | decide | exact Int.natCast_nonneg _ | ((repeat' refine And.intro ?_ ?_) <;> first | omega | exact Int.natCast_nonneg _ | (simp only [i64max]; omega) | (simp only [u8max]; omega) | (simp only [i64max, u8max, u16max, u32max, u64max]; omega) | (simp only [mulSz_eq, Cont.len, colsLen, Col.len, List.length_cons, List.length_nil, List.length_replicate, List.length_append]; done) | (simp only [mulSz_eq, Cont.len, colsLen, Col.len, List.length_cons, List.length_nil, List.length_replicate, List.length_append]; omega) | (simp [mulSz, Cont.len, bne]; done) | (simp [mulSz, Cont.len, bne]; omega)))); conv => whnf)
    | (refine tst_in ?_ ?_; (focus (intro h_; exfalso; first | omega | ((try simp only [decide_eq_true_eq, decide_eq_false_iff_not] at h_); omega) | (simp [mulSz, Cont.len, bne] at h_; done) | (simp [mulSz, Cont.len, bne] at h_; omega))); intro _; conv => whnf)
    | (refine tst_in ?_ ?_; rotate_left; (focus (intro h_; exfalso; first | omega | ((try simp only [decide_eq_true_eq, decide_eq_false_iff_not] at h_); omega) | (simp [mulSz, Cont.len, bne] at h_; done) | (simp [mulSz, Cont.len, bne] at h_; omega))); intro _; conv => whnf)
    | (refine ⟨0, (show _ = _ by omega), ?_⟩; conv => whnf))
  refine ⟨⟨[1], (0 : Nat), ?_, Nat.zero_le _⟩, ?_⟩
  · show stLe _ _ (s8 f (d + v) d M s 0 (f + 0 * (d + v) / d) (lg (d + v) d 0)) _
    rw [show f + 0 * (d + v) / d = f by rw [Nat.zero_mul, Nat.zero_div]; rfl, lg_0]
    conv => whnf
    repeat' (first | exact True.intro | rfl | refine And.intro ?_ ?_)
    all_goals (conv => whnf)
    repeat' (first | exact True.intro | rfl | refine And.intro ?_ ?_)
    all_goals (try (first | omega | exact True.intro | rfl | assumption | (change LE.le (α := Nat) _ _; first | omega | (simp only []; omega)) | (simp only []; done) | (simp only []; omega) | (simp; done) | (simp; omega)))
  · intro (j : Nat) (hj : j ≤ M)
    have i0 := inst_eq (d + v) d j hd1.1
    have i1 := inst_eq (d + v) d (j + 1) hd1.1
    have lm := lg_mono (d + v) d j hd1.1
    have hbN : (j + 1) * (d + v) / d ≤ 300 * 295 := Nat.le_trans (Nat.div_le_self _ _) (Nat.mul_le_mul (by omega) (by omega))
    have hden : j + 1 = d → (j + 1) * (d + v) / d = d + v := fun h => by rw [h]; exact lg_den hd1.1
    have ATj := AT (j + 1) (by omega)
    have LOj := LO (j + 1) (by omega)
    have hP : (j + 1) * s = j * s + s := Nat.succ_mul j s
    have hPc : (((j + 1 : Nat) : Int) * (s : Int)) = ((j * s + s : Nat) : Int) := by rw [← hP, Int.natCast_mul]
    have hz : (d + v) % d = 0 → lg (d + v) d j = 0 := fun h => lg_zero h j
    show forceSt (s8 f (d + v) d M s j (f + j * (d + v) / d) (lg (d + v) d j)) _
    rw [hs] at i0 i1
    rw [hP] at i1
    rw [i0]
    rw [i1] at ATj hbN hden
    generalize hA : lg (d + v) d j = A at *
    generalize hA' : lg (d + v) d (j + 1) = A' at *
    have hAt' : f + (j + 1) * (d + v) / d = f + (j * s + s + A') := by rw [i1]
    generalize j * s = Q at *
    conv => whnf
    refine tst_in (fun hlt => ?_) (fun hge => ?_)
    · skip
      have hlt : j < M := by simp at hlt; omega
      conv => whnf
      repeat (first
        | (refine And.intro ?_ ?_; (focus (first | omega | decide | exact Int.natCast_nonneg _ | ((repeat' refine And.intro ?_ ?_) <;> first | omega | exact Int.natCast_nonneg _ | (simp only [i64max]; omega) | (simp only [u8max]; omega) | (simp only [i64max, u8max, u16max, u32max, u64max]; omega) | (simp only [mulSz_eq, Cont.len, colsLen, Col.len, List.length_cons, List.length_nil, List.length_replicate, List.length_append]; done) | (simp only [mulSz_eq, Cont.len, colsLen, Col.len, List.length_cons, List.length_nil, List.length_replicate, List.length_append]; omega) | (simp [mulSz, Cont.len, bne]; done) | (simp [mulSz, Cont.len, bne]; omega)))); conv => whnf)
        | (refine tst_in ?_ ?_; (focus (intro h_; exfalso; first | omega | ((try simp only [decide_eq_true_eq, decide_eq_false_iff_not] at h_); omega) | (simp [mulSz, Cont.len, bne] at h_; done) | (simp [mulSz, Cont.len, bne] at h_; omega))); intro _; conv => whnf)
        | (refine tst_in ?_ ?_; rotate_left; (focus (intro h_; exfalso; first | omega | ((try simp only [decide_eq_true_eq, decide_eq_false_iff_not] at h_); omega) | (simp [mulSz, Cont.len, bne] at h_; done) | (simp [mulSz, Cont.len, bne] at h_; omega))); intro _; conv => whnf)
        | (refine ⟨0, (show _ = _ by omega), ?_⟩; conv => whnf))
      refine ⟨_, [], ATj, ?_⟩
      conv => whnf
      refine ⟨?_, ?_, ?_⟩
      · conv => whnf
        repeat' (first | exact True.intro | rfl | refine And.intro ?_ ?_ | omega)
        all_goals (conv => whnf)
        all_goals (try (first | rfl | omega | (simp; done)))
      · conv => whnf
        repeat' (first | exact True.intro | rfl | refine And.intro ?_ ?_ | omega)
        all_goals (conv => whnf)
        all_goals (try (first | rfl | omega | (simp; done)))
      conv => whnf
      refine ⟨?_, True.intro⟩
      intro _ _
      conv => whnf
      conv => whnf
      repeat (first
        | (refine And.intro ?_ ?_; (focus (first | omega | decide | exact Int.natCast_nonneg _ | ((repeat' refine And.intro ?_ ?_) <;> first | omega | exact Int.natCast_nonneg _ | (simp only [i64max]; omega) | (simp only [u8max]; omega) | (simp only [i64max, u8max, u16max, u32max, u64max]; omega) | (simp only [mulSz_eq, Cont.len, colsLen, Col.len, List.length_cons, List.length_nil, List.length_replicate, List.length_append]; done) | (simp only [mulSz_eq, Cont.len, colsLen, Col.len, List.length_cons, List.length_nil, List.length_replicate, List.length_append]; omega) | (simp [mulSz, Cont.len, bne]; done) | (simp [mulSz, Cont.len, bne]; omega)))); conv => whnf)
        | (refine tst_in ?_ ?_; (focus (intro h_; exfalso; first | omega | ((try simp only [decide_eq_true_eq, decide_eq_false_iff_not] at h_); omega) | (simp [mulSz, Cont.len, bne] at h_; done) | (simp [mulSz, Cont.len, bne] at h_; omega))); intro _; conv => whnf)
        | (refine tst_in ?_ ?_; rotate_left; (focus (intro h_; exfalso; first | omega | ((try simp only [decide_eq_true_eq, decide_eq_false_iff_not] at h_); omega) | (simp [mulSz, Cont.len, bne] at h_; done) | (simp [mulSz, Cont.len, bne] at h_; omega))); intro _; conv => whnf)
        | (refine ⟨0, (show _ = _ by omega), ?_⟩; conv => whnf))
      refine ⟨_, [], LOj, ?_⟩
      conv => whnf
      refine ⟨?_, ?_, ?_⟩
      · conv => whnf
        repeat' (first | exact True.intro | rfl | refine And.intro ?_ ?_ | omega)
        all_goals (conv => whnf)
        all_goals (try (first | rfl | omega | (simp; done)))
      · conv => whnf
        repeat' (first | exact True.intro | rfl | refine And.intro ?_ ?_ | omega)
        all_goals (conv => whnf)
        all_goals (try (first | rfl | omega | (simp; done)))
      conv => whnf
      refine ⟨?_, True.intro⟩
      intro _ _
      conv => whnf
      conv => whnf
      repeat (first
        | (refine And.intro ?_ ?_; (focus (first | omega | decide | exact Int.natCast_nonneg _ | ((repeat' refine And.intro ?_ ?_) <;> first | omega | exact Int.natCast_nonneg _ | (simp only [i64max]; omega) | (simp only [u8max]; omega) | (simp only [i64max, u8max, u16max, u32max, u64max]; omega) | (simp only [mulSz_eq, Cont.len, colsLen, Col.len, List.length_cons, List.length_nil, List.length_replicate, List.length_append]; done) | (simp only [mulSz_eq, Cont.len, colsLen, Col.len, List.length_cons, List.length_nil, List.length_replicate, List.length_append]; omega) | (simp [mulSz, Cont.len, bne]; done) | (simp [mulSz, Cont.len, bne]; omega)))); conv => whnf)
        | (refine tst_in ?_ ?_; (focus (intro h_; exfalso; first | omega | ((try simp only [decide_eq_true_eq, decide_eq_false_iff_not] at h_); omega) | (simp [mulSz, Cont.len, bne] at h_; done) | (simp [mulSz, Cont.len, bne] at h_; omega))); intro _; conv => whnf)
        | (refine tst_in ?_ ?_; rotate_left; (focus (intro h_; exfalso; first | omega | ((try simp only [decide_eq_true_eq, decide_eq_false_iff_not] at h_); omega) | (simp [mulSz, Cont.len, bne] at h_; done) | (simp [mulSz, Cont.len, bne] at h_; omega))); intro _; conv => whnf)
        | (refine ⟨0, (show _ = _ by omega), ?_⟩; conv => whnf))
      by_cases hLong : A' = A + 1
      · by_cases hD : j + 1 = d
        · have hx := hden hD
          conv => whnf
          repeat (first
            | (refine And.intro ?_ ?_; (focus (first | omega | decide | exact Int.natCast_nonneg _ | ((repeat' refine And.intro ?_ ?_) <;> first | omega | exact Int.natCast_nonneg _ | (simp only [i64max]; omega) | (simp only [u8max]; omega) | (simp only [i64max, u8max, u16max, u32max, u64max]; omega) | (simp only [mulSz_eq, Cont.len, colsLen, Col.len, List.length_cons, List.length_nil, List.length_replicate, List.length_append]; done) | (simp only [mulSz_eq, Cont.len, colsLen, Col.len, List.length_cons, List.length_nil, List.length_replicate, List.length_append]; omega) | (simp [mulSz, Cont.len, bne]; done) | (simp [mulSz, Cont.len, bne]; omega)))); conv => whnf)
            | (refine tst_in ?_ ?_; (focus (intro h_; exfalso; first | omega | ((try simp only [decide_eq_true_eq, decide_eq_false_iff_not] at h_); omega) | (simp [mulSz, Cont.len, bne] at h_; done) | (simp [mulSz, Cont.len, bne] at h_; omega))); intro _; conv => whnf)
            | (refine tst_in ?_ ?_; rotate_left; (focus (intro h_; exfalso; first | omega | ((try simp only [decide_eq_true_eq, decide_eq_false_iff_not] at h_); omega) | (simp [mulSz, Cont.len, bne] at h_; done) | (simp [mulSz, Cont.len, bne] at h_; omega))); intro _; conv => whnf)
            | (refine ⟨0, (show _ = _ by omega), ?_⟩; conv => whnf))
          rw [hPc]
          conv => whnf
          repeat (first
            | (refine And.intro ?_ ?_; (focus (first | omega | decide | exact Int.natCast_nonneg _ | ((repeat' refine And.intro ?_ ?_) <;> first | omega | exact Int.natCast_nonneg _ | (simp only [i64max]; omega) | (simp only [u8max]; omega) | (simp only [i64max, u8max, u16max, u32max, u64max]; omega) | (simp only [mulSz_eq, Cont.len, colsLen, Col.len, List.length_cons, List.length_nil, List.length_replicate, List.length_append]; done) | (simp only [mulSz_eq, Cont.len, colsLen, Col.len, List.length_cons, List.length_nil, List.length_replicate, List.length_append]; omega) | (simp [mulSz, Cont.len, bne]; done) | (simp [mulSz, Cont.len, bne]; omega)))); conv => whnf)
            | (refine tst_in ?_ ?_; (focus (intro h_; exfalso; first | omega | ((try simp only [decide_eq_true_eq, decide_eq_false_iff_not] at h_); omega) | (simp [mulSz, Cont.len, bne] at h_; done) | (simp [mulSz, Cont.len, bne] at h_; omega))); intro _; conv => whnf)
            | (refine tst_in ?_ ?_; rotate_left; (focus (intro h_; exfalso; first | omega | ((try simp only [decide_eq_true_eq, decide_eq_false_iff_not] at h_); omega) | (simp [mulSz, Cont.len, bne] at h_; done) | (simp [mulSz, Cont.len, bne] at h_; omega))); intro _; conv => whnf)
            | (refine ⟨0, (show _ = _ by omega), ?_⟩; conv => whnf))
          refine ⟨[0], j + 1, ?_, (by show j + 1 ≤ M; omega), (by show M - (j + 1) < M - j; omega)⟩
          show stLe _ _ (s8 f (d + v) d M s (j + 1) (f + (j + 1) * (d + v) / d) (lg (d + v) d (j + 1))) _
          rw [hAt', hA']
          conv => whnf
          repeat' (first | exact True.intro | rfl | refine And.intro ?_ ?_)
          all_goals (conv => whnf)
          repeat' (first | exact True.intro | rfl | refine And.intro ?_ ?_)
          all_goals (try (first | omega | exact True.intro | rfl | assumption | (change LE.le (α := Nat) _ _; first | omega | (simp only []; omega)) | (simp only []; done) | (simp only []; omega) | (simp; done) | (simp; omega)))
        · skip
          conv => whnf
          repeat (first
            | (refine And.intro ?_ ?_; (focus (first | omega | decide | exact Int.natCast_nonneg _ | ((repeat' refine And.intro ?_ ?_) <;> first | omega | exact Int.natCast_nonneg _ | (simp only [i64max]; omega) | (simp only [u8max]; omega) | (simp only [i64max, u8max, u16max, u32max, u64max]; omega) | (simp only [mulSz_eq, Cont.len, colsLen, Col.len, List.length_cons, List.length_nil, List.length_replicate, List.length_append]; done) | (simp only [mulSz_eq, Cont.len, colsLen, Col.len, List.length_cons, List.length_nil, List.length_replicate, List.length_append]; omega) | (simp [mulSz, Cont.len, bne]; done) | (simp [mulSz, Cont.len, bne]; omega)))); conv => whnf)
            | (refine tst_in ?_ ?_; (focus (intro h_; exfalso; first | omega | ((try simp only [decide_eq_true_eq, decide_eq_false_iff_not] at h_); omega) | (simp [mulSz, Cont.len, bne] at h_; done) | (simp [mulSz, Cont.len, bne] at h_; omega))); intro _; conv => whnf)
            | (refine tst_in ?_ ?_; rotate_left; (focus (intro h_; exfalso; first | omega | ((try simp only [decide_eq_true_eq, decide_eq_false_iff_not] at h_); omega) | (simp [mulSz, Cont.len, bne] at h_; done) | (simp [mulSz, Cont.len, bne] at h_; omega))); intro _; conv => whnf)
            | (refine ⟨0, (show _ = _ by omega), ?_⟩; conv => whnf))
          rw [hPc]
          conv => whnf
          repeat (first
            | (refine And.intro ?_ ?_; (focus (first | omega | decide | exact Int.natCast_nonneg _ | ((repeat' refine And.intro ?_ ?_) <;> first | omega | exact Int.natCast_nonneg _ | (simp only [i64max]; omega) | (simp only [u8max]; omega) | (simp only [i64max, u8max, u16max, u32max, u64max]; omega) | (simp only [mulSz_eq, Cont.len, colsLen, Col.len, List.length_cons, List.length_nil, List.length_replicate, List.length_append]; done) | (simp only [mulSz_eq, Cont.len, colsLen, Col.len, List.length_cons, List.length_nil, List.length_replicate, List.length_append]; omega) | (simp [mulSz, Cont.len, bne]; done) | (simp [mulSz, Cont.len, bne]; omega)))); conv => whnf)
            | (refine tst_in ?_ ?_; (focus (intro h_; exfalso; first | omega | ((try simp only [decide_eq_true_eq, decide_eq_false_iff_not] at h_); omega) | (simp [mulSz, Cont.len, bne] at h_; done) | (simp [mulSz, Cont.len, bne] at h_; omega))); intro _; conv => whnf)
            | (refine tst_in ?_ ?_; rotate_left; (focus (intro h_; exfalso; first | omega | ((try simp only [decide_eq_true_eq, decide_eq_false_iff_not] at h_); omega) | (simp [mulSz, Cont.len, bne] at h_; done) | (simp [mulSz, Cont.len, bne] at h_; omega))); intro _; conv => whnf)
            | (refine ⟨0, (show _ = _ by omega), ?_⟩; conv => whnf))
          refine ⟨[0], j + 1, ?_, (by show j + 1 ≤ M; omega), (by show M - (j + 1) < M - j; omega)⟩
          show stLe _ _ (s8 f (d + v) d M s (j + 1) (f + (j + 1) * (d + v) / d) (lg (d + v) d (j + 1))) _
          rw [hAt', hA']
          conv => whnf
          repeat' (first | exact True.intro | rfl | refine And.intro ?_ ?_)
          all_goals (conv => whnf)
          repeat' (first | exact True.intro | rfl | refine And.intro ?_ ?_)
          all_goals (try (first | omega | exact True.intro | rfl | assumption | (change LE.le (α := Nat) _ _; first | omega | (simp only []; omega)) | (simp only []; done) | (simp only []; omega) | (simp; done) | (simp; omega)))
      · by_cases hD : j + 1 = d
        · have hx := hden hD
          conv => whnf
          repeat (first
            | (refine And.intro ?_ ?_; (focus (first | omega | decide | exact Int.natCast_nonneg _ | ((repeat' refine And.intro ?_ ?_) <;> first | omega | exact Int.natCast_nonneg _ | (simp only [i64max]; omega) | (simp only [u8max]; omega) | (simp only [i64max, u8max, u16max, u32max, u64max]; omega) | (simp only [mulSz_eq, Cont.len, colsLen, Col.len, List.length_cons, List.length_nil, List.length_replicate, List.length_append]; done) | (simp only [mulSz_eq, Cont.len, colsLen, Col.len, List.length_cons, List.length_nil, List.length_replicate, List.length_append]; omega) | (simp [mulSz, Cont.len, bne]; done) | (simp [mulSz, Cont.len, bne]; omega)))); conv => whnf)
            | (refine tst_in ?_ ?_; (focus (intro h_; exfalso; first | omega | ((try simp only [decide_eq_true_eq, decide_eq_false_iff_not] at h_); omega) | (simp [mulSz, Cont.len, bne] at h_; done) | (simp [mulSz, Cont.len, bne] at h_; omega))); intro _; conv => whnf)
            | (refine tst_in ?_ ?_; rotate_left; (focus (intro h_; exfalso; first | omega | ((try simp only [decide_eq_true_eq, decide_eq_false_iff_not] at h_); omega) | (simp [mulSz, Cont.len, bne] at h_; done) | (simp [mulSz, Cont.len, bne] at h_; omega))); intro _; conv => whnf)
            | (refine ⟨0, (show _ = _ by omega), ?_⟩; conv => whnf))
          rw [hPc]
          conv => whnf
          repeat (first
            | (refine And.intro ?_ ?_; (focus (first | omega | decide | exact Int.natCast_nonneg _ | ((repeat' refine And.intro ?_ ?_) <;> first | omega | exact Int.natCast_nonneg _ | (simp only [i64max]; omega) | (simp only [u8max]; omega) | (simp only [i64max, u8max, u16max, u32max, u64max]; omega) | (simp only [mulSz_eq, Cont.len, colsLen, Col.len, List.length_cons, List.length_nil, List.length_replicate, List.length_append]; done) | (simp only [mulSz_eq, Cont.len, colsLen, Col.len, List.length_cons, List.length_nil, List.length_replicate, List.length_append]; omega) | (simp [mulSz, Cont.len, bne]; done) | (simp [mulSz, Cont.len, bne]; omega)))); conv => whnf)
            | (refine tst_in ?_ ?_; (focus (intro h_; exfalso; first | omega | ((try simp only [decide_eq_true_eq, decide_eq_false_iff_not] at h_); omega) | (simp [mulSz, Cont.len, bne] at h_; done) | (simp [mulSz, Cont.len, bne] at h_; omega))); intro _; conv => whnf)
            | (refine tst_in ?_ ?_; rotate_left; (focus (intro h_; exfalso; first | omega | ((try simp only [decide_eq_true_eq, decide_eq_false_iff_not] at h_); omega) | (simp [mulSz, Cont.len, bne] at h_; done) | (simp [mulSz, Cont.len, bne] at h_; omega))); intro _; conv => whnf)
            | (refine ⟨0, (show _ = _ by omega), ?_⟩; conv => whnf))
          refine ⟨[0], j + 1, ?_, (by show j + 1 ≤ M; omega), (by show M - (j + 1) < M - j; omega)⟩
          show stLe _ _ (s8 f (d + v) d M s (j + 1) (f + (j + 1) * (d + v) / d) (lg (d + v) d (j + 1))) _
          rw [hAt', hA']
          conv => whnf
          repeat' (first | exact True.intro | rfl | refine And.intro ?_ ?_)
          all_goals (conv => whnf)
          repeat' (first | exact True.intro | rfl | refine And.intro ?_ ?_)
          all_goals (try (first | omega | exact True.intro | rfl | assumption | (change LE.le (α := Nat) _ _; first | omega | (simp only []; omega)) | (simp only []; done) | (simp only []; omega) | (simp; done) | (simp; omega)))
        · skip
          conv => whnf
          repeat (first
            | (refine And.intro ?_ ?_; (focus (first | omega | decide | exact Int.natCast_nonneg _ | ((repeat' refine And.intro ?_ ?_) <;> first | omega | exact Int.natCast_nonneg _ | (simp only [i64max]; omega) | (simp only [u8max]; omega) | (simp only [i64max, u8max, u16max, u32max, u64max]; omega) | (simp only [mulSz_eq, Cont.len, colsLen, Col.len, List.length_cons, List.length_nil, List.length_replicate, List.length_append]; done) | (simp only [mulSz_eq, Cont.len, colsLen, Col.len, List.length_cons, List.length_nil, List.length_replicate, List.length_append]; omega) | (simp [mulSz, Cont.len, bne]; done) | (simp [mulSz, Cont.len, bne]; omega)))); conv => whnf)
            | (refine tst_in ?_ ?_; (focus (intro h_; exfalso; first | omega | ((try simp only [decide_eq_true_eq, decide_eq_false_iff_not] at h_); omega) | (simp [mulSz, Cont.len, bne] at h_; done) | (simp [mulSz, Cont.len, bne] at h_; omega))); intro _; conv => whnf)
            | (refine tst_in ?_ ?_; rotate_left; (focus (intro h_; exfalso; first | omega | ((try simp only [decide_eq_true_eq, decide_eq_false_iff_not] at h_); omega) | (simp [mulSz, Cont.len, bne] at h_; done) | (simp [mulSz, Cont.len, bne] at h_; omega))); intro _; conv => whnf)
            | (refine ⟨0, (show _ = _ by omega), ?_⟩; conv => whnf))
          rw [hPc]
          conv => whnf
          repeat (first
            | (refine And.intro ?_ ?_; (focus (first | omega | decide | exact Int.natCast_nonneg _ | ((repeat' refine And.intro ?_ ?_) <;> first | omega | exact Int.natCast_nonneg _ | (simp only [i64max]; omega) | (simp only [u8max]; omega) | (simp only [i64max, u8max, u16max, u32max, u64max]; omega) | (simp only [mulSz_eq, Cont.len, colsLen, Col.len, List.length_cons, List.length_nil, List.length_replicate, List.length_append]; done) | (simp only [mulSz_eq, Cont.len, colsLen, Col.len, List.length_cons, List.length_nil, List.length_replicate, List.length_append]; omega) | (simp [mulSz, Cont.len, bne]; done) | (simp [mulSz, Cont.len, bne]; omega)))); conv => whnf)
            | (refine tst_in ?_ ?_; (focus (intro h_; exfalso; first | omega | ((try simp only [decide_eq_true_eq, decide_eq_false_iff_not] at h_); omega) | (simp [mulSz, Cont.len, bne] at h_; done) | (simp [mulSz, Cont.len, bne] at h_; omega))); intro _; conv => whnf)
            | (refine tst_in ?_ ?_; rotate_left; (focus (intro h_; exfalso; first | omega | ((try simp only [decide_eq_true_eq, decide_eq_false_iff_not] at h_); omega) | (simp [mulSz, Cont.len, bne] at h_; done) | (simp [mulSz, Cont.len, bne] at h_; omega))); intro _; conv => whnf)
            | (refine ⟨0, (show _ = _ by omega), ?_⟩; conv => whnf))
          refine ⟨[0], j + 1, ?_, (by show j + 1 ≤ M; omega), (by show M - (j + 1) < M - j; omega)⟩
          show stLe _ _ (s8 f (d + v) d M s (j + 1) (f + (j + 1) * (d + v) / d) (lg (d + v) d (j + 1))) _
          rw [hAt', hA']
          conv => whnf
          repeat' (first | exact True.intro | rfl | refine And.intro ?_ ?_)
          all_goals (conv => whnf)
          repeat' (first | exact True.intro | rfl | refine And.intro ?_ ?_)
          all_goals (try (first | omega | exact True.intro | rfl | assumption | (change LE.le (α := Nat) _ _; first | omega | (simp only []; omega)) | (simp only []; done) | (simp only []; omega) | (simp; done) | (simp; omega)))
    · skip
      have hge : j = M := by simp at hge; omega
      conv => whnf
      repeat (first
        | (refine And.intro ?_ ?_; (focus (first | omega | decide | exact Int.natCast_nonneg _ | ((repeat' refine And.intro ?_ ?_) <;> first | omega | exact Int.natCast_nonneg _ | (simp only [i64max]; omega) | (simp only [u8max]; omega) | (simp only [i64max, u8max, u16max, u32max, u64max]; omega) | (simp only [mulSz_eq, Cont.len, colsLen, Col.len, List.length_cons, List.length_nil, List.length_replicate, List.length_append]; done) | (simp only [mulSz_eq, Cont.len, colsLen, Col.len, List.length_cons, List.length_nil, List.length_replicate, List.length_append]; omega) | (simp [mulSz, Cont.len, bne]; done) | (simp [mulSz, Cont.len, bne]; omega)))); conv => whnf)
        | (refine tst_in ?_ ?_; (focus (intro h_; exfalso; first | omega | ((try simp only [decide_eq_true_eq, decide_eq_false_iff_not] at h_); omega) | (simp [mulSz, Cont.len, bne] at h_; done) | (simp [mulSz, Cont.len, bne] at h_; omega))); intro _; conv => whnf)
        | (refine tst_in ?_ ?_; rotate_left; (focus (intro h_; exfalso; first | omega | ((try simp only [decide_eq_true_eq, decide_eq_false_iff_not] at h_); omega) | (simp [mulSz, Cont.len, bne] at h_; done) | (simp [mulSz, Cont.len, bne] at h_; omega))); intro _; conv => whnf)
        | (refine ⟨0, (show _ = _ by omega), ?_⟩; conv => whnf))
      rw [hcm]
      generalize (d + v) % d = Rm at *
      by_cases h0 : Rm = 0
      · have hA0 := hz h0
        conv => whnf
        repeat (first
          | (refine And.intro ?_ ?_; (focus (first | omega | decide | exact Int.natCast_nonneg _ | ((repeat' refine And.intro ?_ ?_) <;> first | omega | exact Int.natCast_nonneg _ | (simp only [i64max]; omega) | (simp only [u8max]; omega) | (simp only [i64max, u8max, u16max, u32max, u64max]; omega) | (simp only [mulSz_eq, Cont.len, colsLen, Col.len, List.length_cons, List.length_nil, List.length_replicate, List.length_append]; done) | (simp only [mulSz_eq, Cont.len, colsLen, Col.len, List.length_cons, List.length_nil, List.length_replicate, List.length_append]; omega) | (simp [mulSz, Cont.len, bne]; done) | (simp [mulSz, Cont.len, bne]; omega)))); conv => whnf)
          | (refine tst_in ?_ ?_; (focus (intro h_; exfalso; first | omega | ((try simp only [decide_eq_true_eq, decide_eq_false_iff_not] at h_); omega) | (simp [mulSz, Cont.len, bne] at h_; done) | (simp [mulSz, Cont.len, bne] at h_; omega))); intro _; conv => whnf)
          | (refine tst_in ?_ ?_; rotate_left; (focus (intro h_; exfalso; first | omega | ((try simp only [decide_eq_true_eq, decide_eq_false_iff_not] at h_); omega) | (simp [mulSz, Cont.len, bne] at h_; done) | (simp [mulSz, Cont.len, bne] at h_; omega))); intro _; conv => whnf)
          | (refine ⟨0, (show _ = _ by omega), ?_⟩; conv => whnf))
        refine ⟨_, [], awake_f, ?_⟩
        conv => whnf
        refine ⟨?_, ?_, ?_⟩
        · conv => whnf
          repeat' (first | exact True.intro | rfl | refine And.intro ?_ ?_ | omega)
          all_goals (conv => whnf)
          all_goals (try (first | rfl | omega | (simp; done)))
        · conv => whnf
          repeat' (first | exact True.intro | rfl | refine And.intro ?_ ?_ | omega)
          all_goals (conv => whnf)
          all_goals (try (first | rfl | omega | (simp; done)))
        conv => whnf
        refine ⟨?_, True.intro⟩
        intro _ _
        conv => whnf
        conv => whnf
        repeat (first
          | (refine And.intro ?_ ?_; (focus (first | omega | decide | exact Int.natCast_nonneg _ | ((repeat' refine And.intro ?_ ?_) <;> first | omega | exact Int.natCast_nonneg _ | (simp only [i64max]; omega) | (simp only [u8max]; omega) | (simp only [i64max, u8max, u16max, u32max, u64max]; omega) | (simp only [mulSz_eq, Cont.len, colsLen, Col.len, List.length_cons, List.length_nil, List.length_replicate, List.length_append]; done) | (simp only [mulSz_eq, Cont.len, colsLen, Col.len, List.length_cons, List.length_nil, List.length_replicate, List.length_append]; omega) | (simp [mulSz, Cont.len, bne]; done) | (simp [mulSz, Cont.len, bne]; omega)))); conv => whnf)
          | (refine tst_in ?_ ?_; (focus (intro h_; exfalso; first | omega | ((try simp only [decide_eq_true_eq, decide_eq_false_iff_not] at h_); omega) | (simp [mulSz, Cont.len, bne] at h_; done) | (simp [mulSz, Cont.len, bne] at h_; omega))); intro _; conv => whnf)
          | (refine tst_in ?_ ?_; rotate_left; (focus (intro h_; exfalso; first | omega | ((try simp only [decide_eq_true_eq, decide_eq_false_iff_not] at h_); omega) | (simp [mulSz, Cont.len, bne] at h_; done) | (simp [mulSz, Cont.len, bne] at h_; omega))); intro _; conv => whnf)
          | (refine ⟨0, (show _ = _ by omega), ?_⟩; conv => whnf))
        refine .inl ⟨(), [], ?_⟩
        conv => whnf
        repeat' (first | exact True.intro | rfl | refine And.intro ?_ ?_)
        all_goals (conv => whnf)
        repeat' (first | exact True.intro | rfl | refine And.intro ?_ ?_)
        all_goals (try (first | omega | exact True.intro | rfl | assumption | (change LE.le (α := Nat) _ _; first | omega | (simp only []; omega)) | (simp only []; done) | (simp only []; omega) | (simp; done) | (simp; omega)))
      · skip
        conv => whnf
        repeat (first
          | (refine And.intro ?_ ?_; (focus (first | omega | decide | exact Int.natCast_nonneg _ | ((repeat' refine And.intro ?_ ?_) <;> first | omega | exact Int.natCast_nonneg _ | (simp only [i64max]; omega) | (simp only [u8max]; omega) | (simp only [i64max, u8max, u16max, u32max, u64max]; omega) | (simp only [mulSz_eq, Cont.len, colsLen, Col.len, List.length_cons, List.length_nil, List.length_replicate, List.length_append]; done) | (simp only [mulSz_eq, Cont.len, colsLen, Col.len, List.length_cons, List.length_nil, List.length_replicate, List.length_append]; omega) | (simp [mulSz, Cont.len, bne]; done) | (simp [mulSz, Cont.len, bne]; omega)))); conv => whnf)
          | (refine tst_in ?_ ?_; (focus (intro h_; exfalso; first | omega | ((try simp only [decide_eq_true_eq, decide_eq_false_iff_not] at h_); omega) | (simp [mulSz, Cont.len, bne] at h_; done) | (simp [mulSz, Cont.len, bne] at h_; omega))); intro _; conv => whnf)
          | (refine tst_in ?_ ?_; rotate_left; (focus (intro h_; exfalso; first | omega | ((try simp only [decide_eq_true_eq, decide_eq_false_iff_not] at h_); omega) | (simp [mulSz, Cont.len, bne] at h_; done) | (simp [mulSz, Cont.len, bne] at h_; omega))); intro _; conv => whnf)
          | (refine ⟨0, (show _ = _ by omega), ?_⟩; conv => whnf))
        refine ⟨_, [], awake_f, ?_⟩
        conv => whnf
        refine ⟨?_, ?_, ?_⟩
        · conv => whnf
          repeat' (first | exact True.intro | rfl | refine And.intro ?_ ?_ | omega)
          all_goals (conv => whnf)
          all_goals (try (first | rfl | omega | (simp; done)))
        · conv => whnf
          repeat' (first | exact True.intro | rfl | refine And.intro ?_ ?_ | omega)
          all_goals (conv => whnf)
          all_goals (try (first | rfl | omega | (simp; done)))
        conv => whnf
        refine ⟨?_, True.intro⟩
        intro _ _
        conv => whnf
        conv => whnf
        repeat (first
          | (refine And.intro ?_ ?_; (focus (first | omega | decide | exact Int.natCast_nonneg _ | ((repeat' refine And.intro ?_ ?_) <;> first | omega | exact Int.natCast_nonneg _ | (simp only [i64max]; omega) | (simp only [u8max]; omega) | (simp only [i64max, u8max, u16max, u32max, u64max]; omega) | (simp only [mulSz_eq, Cont.len, colsLen, Col.len, List.length_cons, List.length_nil, List.length_replicate, List.length_append]; done) | (simp only [mulSz_eq, Cont.len, colsLen, Col.len, List.length_cons, List.length_nil, List.length_replicate, List.length_append]; omega) | (simp [mulSz, Cont.len, bne]; done) | (simp [mulSz, Cont.len, bne]; omega)))); conv => whnf)
          | (refine tst_in ?_ ?_; (focus (intro h_; exfalso; first | omega | ((try simp only [decide_eq_true_eq, decide_eq_false_iff_not] at h_); omega) | (simp [mulSz, Cont.len, bne] at h_; done) | (simp [mulSz, Cont.len, bne] at h_; omega))); intro _; conv => whnf)
          | (refine tst_in ?_ ?_; rotate_left; (focus (intro h_; exfalso; first | omega | ((try simp only [decide_eq_true_eq, decide_eq_false_iff_not] at h_); omega) | (simp [mulSz, Cont.len, bne] at h_; done) | (simp [mulSz, Cont.len, bne] at h_; omega))); intro _; conv => whnf)
          | (refine ⟨0, (show _ = _ by omega), ?_⟩; conv => whnf))
        refine .inl ⟨(), [], ?_⟩
        conv => whnf
        repeat' (first | exact True.intro | rfl | refine And.intro ?_ ?_)
        all_goals (conv => whnf)
        repeat' (first | exact True.intro | rfl | refine And.intro ?_ ?_)
        all_goals (try (first | omega | exact True.intro | rfl | assumption | (change LE.le (α := Nat) _ _; first | omega | (simp only []; omega)) | (simp only []; done) | (simp only []; omega) | (simp; done) | (simp; omega)))
theorem ti_f (f v e n : Int) (hf : (Lit.int .u8 f).wf = true) (hv : (Lit.int .u8 v).wf = true) (he : (Lit.int .u8 e).wf = true) (hn : (Lit.int .u16 n).wf = true) : Fits Try.prog 3 (tiSpec f v e n) := by
  have g : ∀ {k : IntKind} {x : Int} {m : Nat}, (Lit.int k x).wf = true → k.min = 0 → k.max = m → ∃ y : Nat, x = y ∧ y ≤ m := fun {k x m} h h0 h1 => by
    simp only [Lit.wf, Bool.and_eq_true, decide_eq_true_eq, h0, h1] at h
    exact ⟨x.toNat, by omega, by omega⟩
  obtain ⟨f', rfl, h1⟩ := g (m := 255) hf rfl rfl
  obtain ⟨v', rfl, h2⟩ := g (m := 255) hv rfl rfl
  obtain ⟨e', rfl, h3⟩ := g (m := 255) he rfl rfl
  obtain ⟨n', rfl, h4⟩ := g (m := 65535) hn rfl rfl
  exact ti_R f' v' e' n' (e' % 40 + 1) (n' % 300) _ h1 h2 h3 h4 (by omega) (by omega) rfl
end Go.Proofs.Ytgppoinpjlkefaa

namespace Go.Proofs.Ytgppoinpjlkefaa
open Go Go.Fw
namespace tempoInstants
open Go.ChangeShapes Go.WideShapes Go.ChangeAt Go.RowKit
theorem own : ownKnob Try.prog.godebug = none := by kernel_rfl
theorem laid : laidOutB Try.prog = true := by kernel_rfl

set_option maxRecDepth 100000 in
theorem lifted (os : Os) (started : os.Started) (H : Type) (enc : TypeId × Value → H) :
    ReturnsInHanded {} Try.checked os 3 .any (Rows.tempoInstantsSpec.pre6 enc Try.prog Try.f3 Rows.tempoInstantsRow.domain false) (Rows.tempoInstantsSpec.post enc Try.prog Try.f3 false true false false) := by
  refine returnsInHanded_of_change_sized (C := Try.checked) own started (by kernel_rfl) Try.func3
    (ChangeSpec.witness6 (enc := enc) (C := Try.checked) false ⟨#[], #[.agg #[.int .u8 0, .int .u8 0, .int .u8 0, .int .u16 0]], []⟩ 8 (by kernel_rfl) (by kernel_rfl) (by kernel_rfl) (by kernel_rfl)) ?_
  intro W base args ds gs before hval0 hW _ hsz0 _
  have hsz : (DataW.weightsEach Try.prog (Try.f3.params.toList ++ Rows.tempoInstantsSpec.plain.varTypes Try.prog) (ds ++ gs)).all (· ≤ reachBytes) = true := hsz0
  clear hsz0
  have hval : ∀ (j : Nat) t v, Try.f3.params[j]? = some t → args[j]? = some v → Value.okWide Try.prog W .any base t v := hval0
  have hW' := hW
  obtain ⟨p, q, hA0, hV, rfl, hfz, hnd⟩ := hW
  have hA : DataW.TrodAll enc Try.prog W 0 (fun _ => true) true Try.f3.params.toList args.toList ds p := hA0
  rw [Try.params3] at hA hval hsz
  obtain ⟨v0, vs0, d0, ds0, p0, q0, hargs, rfl, rfl, h0, r0⟩ := trodAll_cons hA
  obtain ⟨rfl, rfl, rfl⟩ := trodAll_nil r0
  obtain rfl : args = #[v0] := by cases args; simp_all
  obtain ⟨rfl, rfl⟩ := trodVars_none hV
  obtain ⟨c0c0, t0_0, e0_0, l0_0, c0c1, t0_1, e0_1, l0_1, c0c2, t0_2, e0_2, l0_2, c0c3, t0_3, e0_3, l0_3, e0_4⟩ : LeafsAre W [.int .u8, .int .u8, .int .u8, .int .u16] v0.cells.toList := arg_open 12 (by kernel_rfl) h0 (fine_of (j := 0) hsz rfl rfl)
  subst e0_4
  subst e0_3
  subst e0_2
  subst e0_1
  obtain rfl := agg_of e0_0 (by simp)
  obtain ⟨x0_0, rfl, w0_0⟩ := l0_0
  obtain ⟨x0_1, rfl, w0_1⟩ := l0_1
  obtain ⟨x0_2, rfl, w0_2⟩ := l0_2
  obtain ⟨x0_3, rfl, w0_3⟩ := l0_3
  clear hA0 hval0
  have walk := (ti_f x0_0 x0_1 x0_2 x0_3 w0_0 w0_1 w0_2 w0_3).calls W [] [.agg #[.int .u8 x0_0, .int .u8 x0_1, .int .u8 x0_2, .int .u16 x0_3]] (heap_args rfl fun i s hs => by
      simp [tiSpec] at hs) (by simp only [tiSpec, Dens]; exact ⟨_, _, rfl, ⟨[.int .u8 x0_0, .int .u8 x0_1, .int .u8 x0_2, .int .u16 x0_3], rfl, ⟨_, _, rfl, by simp [Den], ⟨_, _, rfl, by simp [Den], ⟨_, _, rfl, by simp [Den], ⟨_, _, rfl, by simp [Den], rfl⟩⟩⟩⟩⟩, rfl⟩) (x := .bool true) (v := .bool true) rfl (by
      intro o ho y hy
      simp [tiSpec] at ho
      subst ho; rfl)
  refine walk.mono fun e W' ⟨he, hg⟩ => ?_
  subst he
  exact ⟨_, rfl, law_done laid rfl rfl Try.underlying4 (by kernel_rfl) hW' rfl hg⟩

theorem over : Rows.tempoInstantsRow.holds Try.pinned (OpenSpec.ofChange Rows.tempoInstantsSpec) :=
  OpenClaim.holds_of_wide 3 Try.f3 rfl rfl rfl rfl rfl rfl rfl ⟨rfl, rfl, rfl, rfl, rfl⟩ rfl rfl rfl rfl rfl (by kernel_rfl) Try.func3 (by kernel_rfl)
    (of_decide_eq_true (by kernel_rfl)) (by unfold Func.isWrapper; first | (rw [if_pos (by decide +kernel)]; kernel_rfl) | (rw [if_neg (by decide +kernel)]; exact ⟨rfl, rfl⟩))
    (fun os started H enc _ => lifted os started H enc)

theorem proved : Rows.TempoInstantsSaid := over
end tempoInstants
end Go.Proofs.Ytgppoinpjlkefaa
