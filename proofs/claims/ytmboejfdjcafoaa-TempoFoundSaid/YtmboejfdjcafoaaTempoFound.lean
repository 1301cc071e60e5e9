/-
  TempoFound holds of all arguments: slips are found, and what is slid there and back is the row. No condition.
-/
import Derived.Test.YtmboejfdjcafoaaRows
import Derived.Test.YtmboejfdjcafoaaFv
import Derived.Test.YtmboejfdjcafoaaFl
import Derived.Test.YtmboejfdjcafoaaTwTempoFound
import Derived.Test.YtmboejfdjcafoaaFa
import Derived.WalkKit
import Derived.ProofKit
import Derived.OpenShut
import Derived.SizedLaws
import Derived.ChangeMaps5
set_option linter.unusedSimpArgs false
set_option linter.unusedVariables false
set_option linter.unusedVariables false
set_option linter.unusedSimpArgs false
namespace Go.Proofs.Ytmboejfdjcafoaa
open Go Go.Fw
def tyL : List (Nat × TyI) := [
  (1, ⟨.func, 1, 8, .nilFunc⟩),
  (2, ⟨.int .i64, 1, 8, .int .i64 0⟩),
  (3, ⟨.int .i64, 1, 8, .int .i64 0⟩),
  (4, ⟨.bool, 1, 1, .bool false⟩),
  (5, ⟨.int .u8, 1, 1, .int .u8 0⟩),
  (9, ⟨.str, 1, 16, .string (ByteArray.mk #[])⟩),
  (12, ⟨.int .u64, 1, 8, .int .u64 0⟩),
  (21, ⟨.int .i32, 1, 4, .int .i32 0⟩),
  (22, ⟨.int .u16, 1, 2, .int .u16 0⟩),
  (23, ⟨.struct [(0, 5), (1, 5), (2, 5), (3, 22)], 4, 6, .agg #[.int .u8 0, .int .u8 0, .int .u8 0, .int .u16 0]⟩),
  (24, ⟨.struct [(0, 5), (1, 5), (2, 5), (3, 22)], 4, 6, .agg #[.int .u8 0, .int .u8 0, .int .u8 0, .int .u16 0]⟩),
  (25, ⟨.slice 29, 1, 24, .slice none 0 0⟩),
  (26, ⟨.cpx .f64, 1, 16, .complex .f64 0 0⟩),
  (27, ⟨.float .f64, 1, 8, .float .f64 0⟩),
  (28, ⟨.struct [(0, 26), (1, 4)], 2, 24, .agg #[.complex .f64 0 0, .bool false]⟩),
  (29, ⟨.struct [(0, 26), (1, 4)], 2, 24, .agg #[.complex .f64 0 0, .bool false]⟩),
  (30, ⟨.int .i64, 1, 8, .int .i64 0⟩),
  (32, ⟨.func, 1, 8, .nilFunc⟩),
  (34, ⟨.func, 1, 8, .nilFunc⟩),
  (35, ⟨.func, 1, 8, .nilFunc⟩),
  (36, ⟨.func, 1, 8, .nilFunc⟩),
  (37, ⟨.func, 1, 8, .nilFunc⟩),
  (38, ⟨.func, 1, 8, .nilFunc⟩),
  (39, ⟨.func, 1, 8, .nilFunc⟩),
  (40, ⟨.slice 3, 1, 24, .slice none 0 0⟩),
  (42, ⟨.func, 1, 8, .nilFunc⟩),
  (43, ⟨.struct [(0, 3), (1, 3), (2, 3)], 3, 24, .agg #[.int .i64 0, .int .i64 0, .int .i64 0]⟩),
  (44, ⟨.struct [(0, 3), (1, 3), (2, 3)], 3, 24, .agg #[.int .i64 0, .int .i64 0, .int .i64 0]⟩),
  (45, ⟨.func, 1, 8, .nilFunc⟩),
  (51, ⟨.func, 1, 8, .nilFunc⟩),
  (52, ⟨.int .u32, 1, 4, .int .u32 0⟩),
  (55, ⟨.func, 1, 8, .nilFunc⟩),
  (56, ⟨.ptr 5, 1, 8, .pointer none⟩)]
theorem tokL : TOk Try.prog tyL := tokl_of ⟨⟨by kernel_rfl, by kernel_rfl⟩, ⟨by kernel_rfl, by kernel_rfl⟩, ⟨by kernel_rfl, by kernel_rfl⟩, ⟨by kernel_rfl, by kernel_rfl⟩, ⟨by kernel_rfl, by kernel_rfl⟩, ⟨by kernel_rfl, by kernel_rfl⟩, ⟨by kernel_rfl, by kernel_rfl⟩, ⟨by kernel_rfl, by kernel_rfl⟩, ⟨by kernel_rfl, by kernel_rfl⟩, ⟨by kernel_rfl, by kernel_rfl⟩, ⟨by kernel_rfl, by kernel_rfl⟩, ⟨by kernel_rfl, by kernel_rfl⟩, ⟨by kernel_rfl, by kernel_rfl⟩, ⟨by kernel_rfl, by kernel_rfl⟩, ⟨by kernel_rfl, by kernel_rfl⟩, ⟨by kernel_rfl, by kernel_rfl⟩, ⟨by kernel_rfl, by kernel_rfl⟩, ⟨by kernel_rfl, by kernel_rfl⟩, ⟨by kernel_rfl, by kernel_rfl⟩, ⟨by kernel_rfl, by kernel_rfl⟩, ⟨by kernel_rfl, by kernel_rfl⟩, ⟨by kernel_rfl, by kernel_rfl⟩, ⟨by kernel_rfl, by kernel_rfl⟩, ⟨by kernel_rfl, by kernel_rfl⟩, ⟨by kernel_rfl, by kernel_rfl⟩, ⟨by kernel_rfl, by kernel_rfl⟩, ⟨by kernel_rfl, by kernel_rfl⟩, ⟨by kernel_rfl, by kernel_rfl⟩, ⟨by kernel_rfl, by kernel_rfl⟩, ⟨by kernel_rfl, by kernel_rfl⟩, ⟨by kernel_rfl, by kernel_rfl⟩, ⟨by kernel_rfl, by kernel_rfl⟩, ⟨by kernel_rfl, by kernel_rfl⟩, True.intro⟩
theorem mixedL : Try.prog.follows .mixedOrders = true := by kernel_rfl
theorem i64max : IntKind.i64.max = 9223372036854775807 := rfl
theorem u8max : IntKind.u8.max = 255 := rfl
theorem u16max : IntKind.u16.max = 65535 := rfl
theorem u32max : IntKind.u32.max = 4294967295 := rfl
theorem u64max : IntKind.u64.max = 18446744073709551615 := rfl
def numOut (D : List Seg) (x : AV) : FOut := ⟨Unit, fun _ => True, fun _ => x, fun _ => D⟩
def qf : Nat → Bool := fun f => match f with | 7 => true | _ => false
def cfgs (k : Nat) : Cfg := { T := tyL, sgn := fun _ => false, wr := fun _ => false, k := k, q := qf }
def rowS (o : Bool) (A : List (Nat × Nat)) (B : List Bool) : Seg := .seg o (.cols [.cpxs .f64 A, .bools B])
noncomputable def c7 : Code := (Try.f7.body).getD .skip
set_option maxHeartbeats 0 in
set_option maxRecDepth 100000 in
theorem isCount_y (n : Nat) (h : n ≤ 65536) : QFits Try.prog 7 ⟨[.int .i64 n], [], .bool true⟩ := by
  refine qfits_of_body (C := cfgs 0) (c := c7) (ts := [2]) tokL mixedL (fun _ => none) (fun _ => none)
    Try.func7 (by kernel_rfl) (by kernel_rfl) (by kernel_rfl) (by kernel_rfl) (by kernel_rfl) rfl rfl ?_
  conv => whnf
  repeat (first
    | (refine And.intro ?_ ?_; (focus (first | omega | decide | exact Int.natCast_nonneg _ | ((repeat' refine And.intro ?_ ?_) <;> first | omega | exact Int.natCast_nonneg _ | (simp only [i64max]; omega) | (simp only [u8max]; omega) | (simp only [i64max, u8max, u16max, u32max, u64max]; omega) | (simp only [mulSz_eq, Cont.len, colsLen, Col.len, List.length_cons, List.length_nil, List.length_replicate, List.length_append]; done) | (simp only [mulSz_eq, Cont.len, colsLen, Col.len, List.length_cons, List.length_nil, List.length_replicate, List.length_append]; omega) | (simp [mulSz, Cont.len, bne]; done) | (simp [mulSz, Cont.len, bne]; omega)))); conv => whnf)
    | (refine tst_in ?_ ?_; (focus (intro h_; exfalso; first | omega | ((try simp only [decide_eq_true_eq, decide_eq_false_iff_not] at h_); omega) | (simp [mulSz, Cont.len, bne] at h_; done) | (simp [mulSz, Cont.len, bne] at h_; omega))); intro _; conv => whnf)
    | (refine tst_in ?_ ?_; rotate_left; (focus (intro h_; exfalso; first | omega | ((try simp only [decide_eq_true_eq, decide_eq_false_iff_not] at h_); omega) | (simp [mulSz, Cont.len, bne] at h_; done) | (simp [mulSz, Cont.len, bne] at h_; omega))); intro _; conv => whnf)
    | (refine ⟨0, (show _ = _ by omega), ?_⟩; conv => whnf))
  have : decide ((n : Int) ≤ 65536) = true := decide_eq_true (by omega)
  rw [dLe_eq]; exact this.symm
noncomputable def c4 : Code := (Try.f4.body).getD .skip
def slF {α : Type} (z : α) (F : Nat → α) (at_ by_ i : Nat) : α := if i < at_ then F i else if i < at_ + by_ then z else F (i - by_)
def A4 (F : Nat → Nat × Nat) (at_ N : Nat) : List (Nat × Nat) := tb (fun i => if i < at_ then F i else (0, 0)) N
def B4 (G : Nat → Bool) (at_ N k : Nat) : List Bool := tb (fun i => if i < at_ then G i else decide (i < at_ + k)) N
def st4 (F : Nat → Nat × Nat) (G : Nat → Bool) (tA : List (Nat × Nat)) (tB : List Bool) (n r at_ by_ k : Nat) : St :=
  ⟨slotsAt 89 [(0, .slice 0 0 n (n + r)), (1, .int .i64 at_), (2, .int .i64 by_), (8, .slice 1 0 (n + by_) (n + by_)), (68, .int .i64 by_), (69, .int .i64 k)], [rowS false (tb F n ++ tA) (tb G n ++ tB), rowS true (A4 F at_ (n + by_)) (B4 G at_ (n + by_) k)]⟩
def inv4 (F : Nat → Nat × Nat) (G : Nat → Bool) (tA : List (Nat × Nat)) (tB : List Bool) (n r at_ by_ : Nat) : LInv := ⟨Nat, fun k => st4 F G tA tB n r at_ by_ k, fun k => k ≤ by_, fun k => by_ - k⟩
def slOut (F : Nat → Nat × Nat) (G : Nat → Bool) (N : Nat) : FOut := ⟨Unit, fun _ => True, fun _ => .tup [.slice 1 0 N N, .int .i64 0], fun _ => [.dead, rowS true (tb F N) (tb G N)]⟩
set_option maxHeartbeats 0 in
set_option maxRecDepth 100000 in
theorem Slide_f (F : Nat → Nat × Nat) (G : Nat → Bool) (tA : List (Nat × Nat)) (tB : List Bool) (n r at_ by_ : Nat) (hA : tA.length = r) (hB : tB.length = r) (hat : at_ ≤ n) (hby : by_ ≤ 1024) (hN : n + by_ ≤ 65536) :
    Fits Try.prog 4 ⟨[.slice 0 0 n (n + r), .int .i64 at_, .int .i64 by_], [rowS false (tb F n ++ tA) (tb G n ++ tB)], [slOut (slF (0, 0) F at_ by_) (slF true G at_ by_) (n + by_)]⟩ := by
  have IC := isCount_y n (by omega)
  refine fits_of_body (C := cfgs 1) (c := c4) (ts := [6, 7]) tokL mixedL (fun | 11 => some (inv4 F G tA tB n r at_ by_) | _ => none) (fun _ => none)
    Try.func4 (by kernel_rfl) (by kernel_rfl) (by kernel_rfl) (by kernel_rfl) rfl ?_
  conv => whnf
  repeat (first
    | (refine And.intro ?_ ?_; (focus (first | omega | decide | exact Int.natCast_nonneg _ | ((repeat' refine And.intro ?_ ?_) <;> first | omega | exact Int.natCast_nonneg _ | (simp only [i64max]; omega) | (simp only [u8max]; omega) | (simp only [i64max, u8max, u16max, u32max, u64max]; omega) | (simp only [mulSz_eq, Cont.len, colsLen, Col.len, List.length_cons, List.length_nil, List.length_replicate, List.length_append]; done) | (simp only [mulSz_eq, Cont.len, colsLen, Col.len, List.length_cons, List.length_nil, List.length_replicate, List.length_append]; omega) | (simp [mulSz, Cont.len, bne]; done) | (simp [mulSz, Cont.len, bne]; omega)))); conv => whnf)
    | (refine tst_in ?_ ?_; (focus (intro h_; exfalso; first | omega | ((try simp only [decide_eq_true_eq, decide_eq_false_iff_not] at h_); omega) | (simp [mulSz, Cont.len, bne] at h_; done) | (simp [mulSz, Cont.len, bne] at h_; omega))); intro _; conv => whnf)
    | (refine tst_in ?_ ?_; rotate_left; (focus (intro h_; exfalso; first | omega | ((try simp only [decide_eq_true_eq, decide_eq_false_iff_not] at h_); omega) | (simp [mulSz, Cont.len, bne] at h_; done) | (simp [mulSz, Cont.len, bne] at h_; omega))); intro _; conv => whnf)
    | (refine ⟨0, (show _ = _ by omega), ?_⟩; conv => whnf))
  refine ⟨_, [], IC, ?_⟩
  conv => whnf
  refine ⟨?_, ?_, ?_⟩
  · conv => whnf
    repeat' (first | exact True.intro | rfl | refine And.intro ?_ ?_ | omega)
    all_goals (conv => whnf)
    all_goals (try (first | rfl | omega | (simp; done)))
  · conv => whnf
    repeat' (first | exact True.intro | rfl | refine And.intro ?_ ?_ | omega)
    all_goals (conv => whnf)
    all_goals (try (first | rfl | omega | (simp; done)))
  conv => whnf
  conv => whnf
  repeat (first
    | (refine And.intro ?_ ?_; (focus (first | omega | decide | exact Int.natCast_nonneg _ | ((repeat' refine And.intro ?_ ?_) <;> first | omega | exact Int.natCast_nonneg _ | (simp only [i64max]; omega) | (simp only [u8max]; omega) | (simp only [i64max, u8max, u16max, u32max, u64max]; omega) | (simp only [mulSz_eq, Cont.len, colsLen, Col.len, List.length_cons, List.length_nil, List.length_replicate, List.length_append, tab_len, hA, hB]; done) | (simp only [mulSz_eq, Cont.len, colsLen, Col.len, List.length_cons, List.length_nil, List.length_replicate, List.length_append, tab_len, hA, hB]; omega) | (simp [mulSz, Cont.len, bne, tab_len, hA, hB]; done) | (simp [mulSz, Cont.len, bne, tab_len, hA, hB]; omega)))); conv => whnf)
    | (refine tst_in ?_ ?_; (focus (intro h_; exfalso; first | omega | ((try simp only [decide_eq_true_eq, decide_eq_false_iff_not] at h_); omega) | (simp [mulSz, Cont.len, bne, tab_len, hA, hB] at h_; done) | (simp [mulSz, Cont.len, bne, tab_len, hA, hB] at h_; omega))); intro _; conv => whnf)
    | (refine tst_in ?_ ?_; rotate_left; (focus (intro h_; exfalso; first | omega | ((try simp only [decide_eq_true_eq, decide_eq_false_iff_not] at h_); omega) | (simp [mulSz, Cont.len, bne, tab_len, hA, hB] at h_; done) | (simp [mulSz, Cont.len, bne, tab_len, hA, hB] at h_; omega))); intro _; conv => whnf)
    | (refine ⟨0, (show _ = _ by omega), ?_⟩; conv => whnf))
  have e1 : (↑at_ : Int).toNat = at_ := by omega
  have e2 : (↑n + ↑by_ : Int).toNat = n + by_ := by omega
  rw [e1, e2, Nat.min_eq_left (by omega)]
  refine ⟨⟨[0, 1], (0 : Nat), ?_, Nat.zero_le _⟩, ?_⟩
  · show stLe _ _ (st4 F G tA tB n r at_ by_ 0) _
    conv => whnf
    repeat' (first | exact True.intro | rfl | refine And.intro ?_ ?_)
    all_goals (conv => whnf)
    repeat' (first | exact True.intro | rfl | refine And.intro ?_ ?_)
    all_goals (try omega)
    · unfold A4
      refine row_ext ((0, 0)) ?_ ?_
      · simp only [List.length_append, List.length_take, List.length_drop, List.length_set, List.length_replicate, tab_len, List.length_map, List.length_range, List.length_cons, List.length_nil]
        try omega
      · intro i_ hi_
        simp only [List.length_append, List.length_take, List.length_drop, List.length_set, List.length_replicate, tab_len, List.length_map, List.length_range, List.length_cons, List.length_nil] at hi_
        simp only [g_app, g_take, g_drop, g_set, g_rep, g_tab, g_one, g_nil, List.length_append, List.length_take, List.length_drop, List.length_set, List.length_replicate, tab_len, List.length_map, List.length_range, List.length_cons, List.length_nil]
        repeat' split
        all_goals (try (first | rfl | omega | (congr 1; omega) | (simp; omega) | (rw [decide_eq_decide]; omega) | (symm; simp; omega)))
    · unfold B4
      refine row_ext (false) ?_ ?_
      · simp only [List.length_append, List.length_take, List.length_drop, List.length_set, List.length_replicate, tab_len, List.length_map, List.length_range, List.length_cons, List.length_nil]
        try omega
      · intro i_ hi_
        simp only [List.length_append, List.length_take, List.length_drop, List.length_set, List.length_replicate, tab_len, List.length_map, List.length_range, List.length_cons, List.length_nil] at hi_
        simp only [g_app, g_take, g_drop, g_set, g_rep, g_tab, g_one, g_nil, List.length_append, List.length_take, List.length_drop, List.length_set, List.length_replicate, tab_len, List.length_map, List.length_range, List.length_cons, List.length_nil]
        repeat' split
        all_goals (try (first | rfl | omega | (congr 1; omega) | (simp; omega) | (rw [decide_eq_decide]; omega) | (symm; simp; omega)))
  · intro (k : Nat) (hk : k ≤ by_)
    show forceSt (st4 F G tA tB n r at_ by_ k) _
    conv => whnf
    refine tst_in (fun hlt => ?_) (fun hge => ?_)
    · skip
      have hlt : k < by_ := by simp at hlt; omega
      conv => whnf
      repeat (first
        | (refine And.intro ?_ ?_; (focus (first | omega | decide | exact Int.natCast_nonneg _ | ((repeat' refine And.intro ?_ ?_) <;> first | omega | exact Int.natCast_nonneg _ | (simp only [i64max]; omega) | (simp only [u8max]; omega) | (simp only [i64max, u8max, u16max, u32max, u64max]; omega) | (simp only [mulSz_eq, Cont.len, colsLen, Col.len, List.length_cons, List.length_nil, List.length_replicate, List.length_append, A4, B4, tab_len]; done) | (simp only [mulSz_eq, Cont.len, colsLen, Col.len, List.length_cons, List.length_nil, List.length_replicate, List.length_append, A4, B4, tab_len]; omega) | (simp [mulSz, Cont.len, bne, A4, B4, tab_len]; done) | (simp [mulSz, Cont.len, bne, A4, B4, tab_len]; omega)))); conv => whnf)
        | (refine tst_in ?_ ?_; (focus (intro h_; exfalso; first | omega | ((try simp only [decide_eq_true_eq, decide_eq_false_iff_not] at h_); omega) | (simp [mulSz, Cont.len, bne, A4, B4, tab_len] at h_; done) | (simp [mulSz, Cont.len, bne, A4, B4, tab_len] at h_; omega))); intro _; conv => whnf)
        | (refine tst_in ?_ ?_; rotate_left; (focus (intro h_; exfalso; first | omega | ((try simp only [decide_eq_true_eq, decide_eq_false_iff_not] at h_); omega) | (simp [mulSz, Cont.len, bne, A4, B4, tab_len] at h_; done) | (simp [mulSz, Cont.len, bne, A4, B4, tab_len] at h_; omega))); intro _; conv => whnf)
        | (refine ⟨(at_+k), (show _ = _ by omega), ?_⟩; conv => whnf)
        | (refine ⟨(at_+k), 0, (show _ = _ by omega), ?_⟩; conv => whnf)
        | (refine ⟨(at_+k), 1, (show _ = _ by omega), ?_⟩; conv => whnf)
        | (refine ⟨(at_+k), 2, (show _ = _ by omega), ?_⟩; conv => whnf)
        | (refine ⟨0, (show _ = _ by omega), ?_⟩; conv => whnf))
      refine ⟨[0, 1], k + 1, ?_, (by show k + 1 ≤ by_; omega), (by show by_ - (k + 1) < by_ - k; omega)⟩
      show stLe _ _ (st4 F G tA tB n r at_ by_ (k + 1)) _
      conv => whnf
      repeat' (first | exact True.intro | rfl | refine And.intro ?_ ?_)
      all_goals (conv => whnf)
      repeat' (first | exact True.intro | rfl | refine And.intro ?_ ?_)
      all_goals (try omega)
      unfold B4
      refine row_ext (false) ?_ ?_
      · simp only [List.length_append, List.length_take, List.length_drop, List.length_set, List.length_replicate, tab_len, List.length_map, List.length_range, List.length_cons, List.length_nil]
        try omega
      · intro i_ hi_
        simp only [List.length_append, List.length_take, List.length_drop, List.length_set, List.length_replicate, tab_len, List.length_map, List.length_range, List.length_cons, List.length_nil] at hi_
        simp only [g_app, g_take, g_drop, g_set, g_rep, g_tab, g_one, g_nil, List.length_append, List.length_take, List.length_drop, List.length_set, List.length_replicate, tab_len, List.length_map, List.length_range, List.length_cons, List.length_nil]
        repeat' split
        all_goals (try (first | rfl | omega | (congr 1; omega) | (simp; omega) | (rw [decide_eq_decide]; omega) | (symm; simp; omega)))
    · skip
      have hge : k = by_ := by simp at hge; omega
      subst hge
      conv => whnf
      repeat (first
        | (refine And.intro ?_ ?_; (focus (first | omega | decide | exact Int.natCast_nonneg _ | ((repeat' refine And.intro ?_ ?_) <;> first | omega | exact Int.natCast_nonneg _ | (simp only [i64max]; omega) | (simp only [u8max]; omega) | (simp only [i64max, u8max, u16max, u32max, u64max]; omega) | (simp only [mulSz_eq, Cont.len, colsLen, Col.len, List.length_cons, List.length_nil, List.length_replicate, List.length_append, A4, B4, tab_len]; done) | (simp only [mulSz_eq, Cont.len, colsLen, Col.len, List.length_cons, List.length_nil, List.length_replicate, List.length_append, A4, B4, tab_len]; omega) | (simp [mulSz, Cont.len, bne, A4, B4, tab_len]; done) | (simp [mulSz, Cont.len, bne, A4, B4, tab_len]; omega)))); conv => whnf)
        | (refine tst_in ?_ ?_; (focus (intro h_; exfalso; first | omega | ((try simp only [decide_eq_true_eq, decide_eq_false_iff_not] at h_); omega) | (simp [mulSz, Cont.len, bne, A4, B4, tab_len] at h_; done) | (simp [mulSz, Cont.len, bne, A4, B4, tab_len] at h_; omega))); intro _; conv => whnf)
        | (refine tst_in ?_ ?_; rotate_left; (focus (intro h_; exfalso; first | omega | ((try simp only [decide_eq_true_eq, decide_eq_false_iff_not] at h_); omega) | (simp [mulSz, Cont.len, bne, A4, B4, tab_len] at h_; done) | (simp [mulSz, Cont.len, bne, A4, B4, tab_len] at h_; omega))); intro _; conv => whnf)
        | (refine ⟨(at_+k), (show _ = _ by omega), ?_⟩; conv => whnf)
        | (refine ⟨(at_+k), 0, (show _ = _ by omega), ?_⟩; conv => whnf)
        | (refine ⟨(at_+k), 1, (show _ = _ by omega), ?_⟩; conv => whnf)
        | (refine ⟨(at_+k), 2, (show _ = _ by omega), ?_⟩; conv => whnf)
        | (refine ⟨(at_), (show _ = _ by omega), ?_⟩; conv => whnf)
        | (refine ⟨(at_), 0, (show _ = _ by omega), ?_⟩; conv => whnf)
        | (refine ⟨(at_), 1, (show _ = _ by omega), ?_⟩; conv => whnf)
        | (refine ⟨(at_), 2, (show _ = _ by omega), ?_⟩; conv => whnf)
        | (refine ⟨0, (show _ = _ by omega), ?_⟩; conv => whnf))
      have e3 : (↑at_ + ↑k : Int).toNat = at_ + k := by omega
      rw [e1, e3]
      refine .inl ⟨(), [0, 1], ?_⟩
      conv => whnf
      repeat' (first | exact True.intro | rfl | refine And.intro ?_ ?_)
      all_goals (conv => whnf)
      repeat' (first | exact True.intro | rfl | refine And.intro ?_ ?_)
      all_goals (try omega)
      · unfold A4 slF
        refine row_ext ((0, 0)) ?_ ?_
        · simp only [List.length_append, List.length_take, List.length_drop, List.length_set, List.length_replicate, tab_len, List.length_map, List.length_range, List.length_cons, List.length_nil]
          try omega
        · intro i_ hi_
          simp only [List.length_append, List.length_take, List.length_drop, List.length_set, List.length_replicate, tab_len, List.length_map, List.length_range, List.length_cons, List.length_nil] at hi_
          simp only [g_app, g_take, g_drop, g_set, g_rep, g_tab, g_one, g_nil, List.length_append, List.length_take, List.length_drop, List.length_set, List.length_replicate, tab_len, List.length_map, List.length_range, List.length_cons, List.length_nil]
          repeat' split
          all_goals (try (first | rfl | omega | (congr 1; omega) | (simp; omega) | (rw [decide_eq_decide]; omega) | (symm; simp; omega)))
      · unfold B4 slF
        refine row_ext (false) ?_ ?_
        · simp only [List.length_append, List.length_take, List.length_drop, List.length_set, List.length_replicate, tab_len, List.length_map, List.length_range, List.length_cons, List.length_nil]
          try omega
        · intro i_ hi_
          simp only [List.length_append, List.length_take, List.length_drop, List.length_set, List.length_replicate, tab_len, List.length_map, List.length_range, List.length_cons, List.length_nil] at hi_
          simp only [g_app, g_take, g_drop, g_set, g_rep, g_tab, g_one, g_nil, List.length_append, List.length_take, List.length_drop, List.length_set, List.length_replicate, tab_len, List.length_map, List.length_range, List.length_cons, List.length_nil]
          repeat' split
          all_goals (try (first | rfl | omega | (congr 1; omega) | (simp; omega) | (rw [decide_eq_decide]; omega) | (symm; simp; omega)))
end Go.Proofs.Ytmboejfdjcafoaa

set_option linter.unusedVariables false
set_option linter.unusedSimpArgs false
namespace Go.Proofs.Ytmboejfdjcafoaa
open Go Go.Fw
def dropF {α : Type} (F : Nat → α) (at_ b i : Nat) : α := if i < at_ then F i else F (i + b)
theorem cop0 {α : Type} (z : α) (F : Nat → α) (t : List α) (n at_ N : Nat) (h : at_ ≤ n) (h' : at_ ≤ N) :
    List.take 0 (List.replicate N z) ++ List.take at_ (List.drop 0 (tb F n ++ t)) ++ List.drop (0 + (List.take at_ (List.drop 0 (tb F n ++ t))).length) (List.replicate N z) = tb (fun i => if i < at_ then F i else z) N := by
  refine row_ext (z) ?_ ?_
  · simp only [List.length_append, List.length_take, List.length_drop, List.length_set, List.length_replicate, tab_len, List.length_map, List.length_range, List.length_cons, List.length_nil]
    try omega
  · intro i_ hi_
    simp only [List.length_append, List.length_take, List.length_drop, List.length_set, List.length_replicate, tab_len, List.length_map, List.length_range, List.length_cons, List.length_nil] at hi_
    simp only [g_app, g_take, g_drop, g_set, g_rep, g_tab, g_one, g_nil, List.length_append, List.length_take, List.length_drop, List.length_set, List.length_replicate, tab_len, List.length_map, List.length_range, List.length_cons, List.length_nil]
    repeat' split
    all_goals (try (first | rfl | omega | (congr 1; omega) | (simp; omega) | (rw [decide_eq_decide]; omega) | (symm; simp; omega)))
set_option maxHeartbeats 0 in
set_option maxRecDepth 100000 in
theorem Slide_n (F : Nat → Nat × Nat) (G : Nat → Bool) (tA : List (Nat × Nat)) (tB : List Bool) (n r at_ b : Nat) (hA : tA.length = r) (hB : tB.length = r) (hb : 0 < b) (hat : at_ + b ≤ n) (hby : b ≤ 1024) (hN : n ≤ 65536) :
    Fits Try.prog 4 ⟨[.slice 0 0 n (n + r), .int .i64 at_, .int .i64 (-(b : Int))], [rowS false (tb F n ++ tA) (tb G n ++ tB)], [slOut (dropF F at_ b) (dropF G at_ b) (n - b)]⟩ := by
  have IC := isCount_y n (by omega)
  refine fits_of_body (C := cfgs 1) (c := c4) (ts := [6, 7]) tokL mixedL (fun _ => none) (fun _ => none)
    Try.func4 (by kernel_rfl) (by kernel_rfl) (by kernel_rfl) (by kernel_rfl) rfl ?_
  conv => whnf
  repeat (first
    | (refine And.intro ?_ ?_; (focus (first | omega | decide | exact Int.natCast_nonneg _ | ((repeat' refine And.intro ?_ ?_) <;> first | omega | exact Int.natCast_nonneg _ | (simp only [i64max]; omega) | (simp only [u8max]; omega) | (simp only [i64max, u8max, u16max, u32max, u64max]; omega) | (simp only [mulSz_eq, Cont.len, colsLen, Col.len, List.length_cons, List.length_nil, List.length_replicate, List.length_append]; done) | (simp only [mulSz_eq, Cont.len, colsLen, Col.len, List.length_cons, List.length_nil, List.length_replicate, List.length_append]; omega) | (simp [mulSz, Cont.len, bne]; done) | (simp [mulSz, Cont.len, bne]; omega)))); conv => whnf)
    | (refine tst_in ?_ ?_; (focus (intro h_; exfalso; first | omega | ((try simp only [decide_eq_true_eq, decide_eq_false_iff_not] at h_); omega) | (simp [mulSz, Cont.len, bne] at h_; done) | (simp [mulSz, Cont.len, bne] at h_; omega))); intro _; conv => whnf)
    | (refine tst_in ?_ ?_; rotate_left; (focus (intro h_; exfalso; first | omega | ((try simp only [decide_eq_true_eq, decide_eq_false_iff_not] at h_); omega) | (simp [mulSz, Cont.len, bne] at h_; done) | (simp [mulSz, Cont.len, bne] at h_; omega))); intro _; conv => whnf)
    | (refine ⟨0, (show _ = _ by omega), ?_⟩; conv => whnf))
  refine ⟨_, [], IC, ?_⟩
  conv => whnf
  refine ⟨?_, ?_, ?_⟩
  · conv => whnf
    repeat' (first | exact True.intro | rfl | refine And.intro ?_ ?_ | omega)
    all_goals (conv => whnf)
    all_goals (try (first | rfl | omega | (simp; done)))
  · conv => whnf
    repeat' (first | exact True.intro | rfl | refine And.intro ?_ ?_ | omega)
    all_goals (conv => whnf)
    all_goals (try (first | rfl | omega | (simp; done)))
  conv => whnf
  conv => whnf
  repeat (first
    | (refine And.intro ?_ ?_; (focus (first | omega | decide | exact Int.natCast_nonneg _ | ((repeat' refine And.intro ?_ ?_) <;> first | omega | exact Int.natCast_nonneg _ | (simp only [i64max]; omega) | (simp only [u8max]; omega) | (simp only [i64max, u8max, u16max, u32max, u64max]; omega) | (simp only [mulSz_eq, Cont.len, colsLen, Col.len, List.length_cons, List.length_nil, List.length_replicate, List.length_append, tab_len, hA, hB]; done) | (simp only [mulSz_eq, Cont.len, colsLen, Col.len, List.length_cons, List.length_nil, List.length_replicate, List.length_append, tab_len, hA, hB]; omega) | (simp [mulSz, Cont.len, bne, tab_len, hA, hB]; done) | (simp [mulSz, Cont.len, bne, tab_len, hA, hB]; omega)))); conv => whnf)
    | (refine tst_in ?_ ?_; (focus (intro h_; exfalso; first | omega | ((try simp only [decide_eq_true_eq, decide_eq_false_iff_not] at h_); omega) | (simp [mulSz, Cont.len, bne, tab_len, hA, hB] at h_; done) | (simp [mulSz, Cont.len, bne, tab_len, hA, hB] at h_; omega))); intro _; conv => whnf)
    | (refine tst_in ?_ ?_; rotate_left; (focus (intro h_; exfalso; first | omega | ((try simp only [decide_eq_true_eq, decide_eq_false_iff_not] at h_); omega) | (simp [mulSz, Cont.len, bne, tab_len, hA, hB] at h_; done) | (simp [mulSz, Cont.len, bne, tab_len, hA, hB] at h_; omega))); intro _; conv => whnf)
    | (refine ⟨(at_), (show _ = _ by omega), ?_⟩; conv => whnf)
    | (refine ⟨(at_), 0, (show _ = _ by omega), ?_⟩; conv => whnf)
    | (refine ⟨(at_), 1, (show _ = _ by omega), ?_⟩; conv => whnf)
    | (refine ⟨(at_), 2, (show _ = _ by omega), ?_⟩; conv => whnf)
    | (refine ⟨(at_+b), (show _ = _ by omega), ?_⟩; conv => whnf)
    | (refine ⟨(at_+b), 0, (show _ = _ by omega), ?_⟩; conv => whnf)
    | (refine ⟨(at_+b), 1, (show _ = _ by omega), ?_⟩; conv => whnf)
    | (refine ⟨(at_+b), 2, (show _ = _ by omega), ?_⟩; conv => whnf)
    | (refine ⟨0, (show _ = _ by omega), ?_⟩; conv => whnf))
  have e1 : (↑at_ : Int).toNat = at_ := by omega
  have e2 : (↑n + -↑b : Int).toNat = n - b := by omega
  have e3 : (↑at_ - -↑b : Int).toNat = at_ + b := by omega
  rw [e1, e2, e3, Nat.min_eq_left (show at_ ≤ n - b by omega), Nat.min_eq_left (show n - (at_ + b) ≤ n - b - at_ by omega), cop0 (0, 0) F tA n at_ (n - b) (by omega) (by omega), cop0 false G tB n at_ (n - b) (by omega) (by omega)]
  conv => whnf
  repeat (first
    | (refine And.intro ?_ ?_; (focus (first | omega | decide | exact Int.natCast_nonneg _ | ((repeat' refine And.intro ?_ ?_) <;> first | omega | exact Int.natCast_nonneg _ | (simp only [i64max]; omega) | (simp only [u8max]; omega) | (simp only [i64max, u8max, u16max, u32max, u64max]; omega) | (simp only [mulSz_eq, Cont.len, colsLen, Col.len, List.length_cons, List.length_nil, List.length_replicate, List.length_append, tab_len, hA, hB]; done) | (simp only [mulSz_eq, Cont.len, colsLen, Col.len, List.length_cons, List.length_nil, List.length_replicate, List.length_append, tab_len, hA, hB]; omega) | (simp [mulSz, Cont.len, bne, tab_len, hA, hB]; done) | (simp [mulSz, Cont.len, bne, tab_len, hA, hB]; omega)))); conv => whnf)
    | (refine tst_in ?_ ?_; (focus (intro h_; exfalso; first | omega | ((try simp only [decide_eq_true_eq, decide_eq_false_iff_not] at h_); omega) | (simp [mulSz, Cont.len, bne, tab_len, hA, hB] at h_; done) | (simp [mulSz, Cont.len, bne, tab_len, hA, hB] at h_; omega))); intro _; conv => whnf)
    | (refine tst_in ?_ ?_; rotate_left; (focus (intro h_; exfalso; first | omega | ((try simp only [decide_eq_true_eq, decide_eq_false_iff_not] at h_); omega) | (simp [mulSz, Cont.len, bne, tab_len, hA, hB] at h_; done) | (simp [mulSz, Cont.len, bne, tab_len, hA, hB] at h_; omega))); intro _; conv => whnf)
    | (refine ⟨(at_), (show _ = _ by omega), ?_⟩; conv => whnf)
    | (refine ⟨(at_), 0, (show _ = _ by omega), ?_⟩; conv => whnf)
    | (refine ⟨(at_), 1, (show _ = _ by omega), ?_⟩; conv => whnf)
    | (refine ⟨(at_), 2, (show _ = _ by omega), ?_⟩; conv => whnf)
    | (refine ⟨(at_+b), (show _ = _ by omega), ?_⟩; conv => whnf)
    | (refine ⟨(at_+b), 0, (show _ = _ by omega), ?_⟩; conv => whnf)
    | (refine ⟨(at_+b), 1, (show _ = _ by omega), ?_⟩; conv => whnf)
    | (refine ⟨(at_+b), 2, (show _ = _ by omega), ?_⟩; conv => whnf)
    | (refine ⟨0, (show _ = _ by omega), ?_⟩; conv => whnf))
  refine .inl ⟨(), [0, 1], ?_⟩
  conv => whnf
  repeat' (first | exact True.intro | rfl | refine And.intro ?_ ?_)
  all_goals (conv => whnf)
  repeat' (first | exact True.intro | rfl | refine And.intro ?_ ?_)
  all_goals (try omega)
  · unfold dropF
    refine row_ext ((0, 0)) ?_ ?_
    · simp only [List.length_append, List.length_take, List.length_drop, List.length_set, List.length_replicate, tab_len, List.length_map, List.length_range, List.length_cons, List.length_nil]
      try omega
    · intro i_ hi_
      simp only [List.length_append, List.length_take, List.length_drop, List.length_set, List.length_replicate, tab_len, List.length_map, List.length_range, List.length_cons, List.length_nil] at hi_
      simp only [g_app, g_take, g_drop, g_set, g_rep, g_tab, g_one, g_nil, List.length_append, List.length_take, List.length_drop, List.length_set, List.length_replicate, tab_len, List.length_map, List.length_range, List.length_cons, List.length_nil]
      repeat' split
      all_goals (try (first | rfl | omega | (congr 1; omega) | (simp; omega) | (rw [decide_eq_decide]; omega) | (symm; simp; omega)))
  · unfold dropF
    refine row_ext (false) ?_ ?_
    · simp only [List.length_append, List.length_take, List.length_drop, List.length_set, List.length_replicate, tab_len, List.length_map, List.length_range, List.length_cons, List.length_nil]
      try omega
    · intro i_ hi_
      simp only [List.length_append, List.length_take, List.length_drop, List.length_set, List.length_replicate, tab_len, List.length_map, List.length_range, List.length_cons, List.length_nil] at hi_
      simp only [g_app, g_take, g_drop, g_set, g_rep, g_tab, g_one, g_nil, List.length_append, List.length_take, List.length_drop, List.length_set, List.length_replicate, tab_len, List.length_map, List.length_range, List.length_cons, List.length_nil]
      repeat' split
      all_goals (try (first | rfl | omega | (congr 1; omega) | (simp; omega) | (rw [decide_eq_decide]; omega) | (symm; simp; omega)))
noncomputable def c8 : Code := (Try.f8.body).getD .skip
noncomputable def c10 : Code := (Try.f10.body).getD .skip
end Go.Proofs.Ytmboejfdjcafoaa

set_option linter.unusedVariables false
set_option linter.unusedSimpArgs false
namespace Go.Proofs.Ytmboejfdjcafoaa
open Go Go.Fw
def plan10 : PlanN := .op 1 (.op 5 (.op 6 (.rd 0 (.rd 2 (.rd 3 (.rd 4 (.rd 7 (.rd 8 (.rd 9 (.alt 10 (.chk [9, 8, 7, 4, 3, 2, 0] (.op 11 (.chk [9, 8, 7, 4, 3, 2, 0] (.op 12 (.chk [9, 8, 7, 4] (.op 13 .done)))))) (.alt 11 (.chk [9, 8, 7, 4, 3, 2, 0] (.op 10 (.chk [9, 8, 7, 4, 3, 2, 0] (.op 12 (.chk [9, 8, 7, 4] (.op 13 .done)))))) .fin)))))))))))
def cfg10 : Cfg := { T := tyL, sgn := fun _ => false, wr := fun _ => false, k := 4, q := qf, plan := fun | 5 => some (.nn plan10) | _ => none }
def slc (k n c : Nat) : Seg := .seg false (.avs [.slice k 0 n c])
def hp10 (A A' : List (Nat × Nat)) (B B' : List Bool) (na ca nb cb : Nat) : List Seg := [slc 2 na ca, slc 3 nb cb, rowS false A B, rowS false A' B']
/-- How many places agree so far. -/
def agc (s d : Int) (i : Nat) : Int := if s = d then (i : Int) - max 0 (-s) else 0
def st10 (A A' : List (Nat × Nat)) (B B' : List Bool) (na ca nb cb : Nat) (s d : Int) (i : Nat) : St :=
  ⟨slotsAt 54 [(0, .int .i64 s), (1, .ptr 0 0), (2, .ptr 1 0), (5, .int .i64 (agc s d i)), (6, .int .i64 i)], hp10 A A' B B' na ca nb cb⟩
def inv10 (A A' : List (Nat × Nat)) (B B' : List Bool) (na ca nb cb : Nat) (s d : Int) : LInv :=
  ⟨Nat, fun i => st10 A A' B B' na ca nb cb s d i, fun i => max 0 (-s) ≤ i ∧ (i : Int) ≤ max (max 0 (-s)) (min na (nb - s)), fun i => na - i⟩
def eqV (x y : Nat × Nat) : Bool := D.order x.1 y.1 == some .eq && D.order x.2 y.2 == some .eq
set_option maxHeartbeats 0 in
set_option maxRecDepth 100000 in
theorem agree_f (A A' : List (Nat × Nat)) (B B' : List Bool) (na ca nb cb : Nat) (s d : Int) (hA : na ≤ A.length) (hB : na ≤ B.length) (hA' : nb ≤ A'.length) (hB' : nb ≤ B'.length) (hca : na ≤ ca) (hcb : nb ≤ cb)
    (hs : -1024 ≤ s ∧ s ≤ 1024) (hna : na ≤ 4096) (hnb : nb ≤ 4096) (hE : ∀ i j, i < na → j < nb → (!(B.getD i false) && (!(B'.getD j false) && eqV (A.getD i (0, 0)) (A'.getD j (0, 0)))) = decide ((j : Int) = i + d)) :
    Fits Try.prog 10 ⟨[.int .i64 s, .ptr 0 0, .ptr 1 0], hp10 A A' B B' na ca nb cb, [numOut [.dead, .dead, .dead, .dead] (.int .i64 (if s = d then max (max 0 (-s)) (min na (nb - s)) - max 0 (-s) else 0))]⟩ := by
  refine fits_of_body (C := cfg10) (c := c10) (ts := [4]) tokL mixedL (fun | 3 => some (inv10 A A' B B' na ca nb cb s d) | _ => none) (fun _ => none)
    Try.func10 (by kernel_rfl) (by kernel_rfl) (by kernel_rfl) (by kernel_rfl) rfl ?_
  conv => whnf
  repeat (first
    | (refine And.intro ?_ ?_; (focus (first | omega | decide | exact Int.natCast_nonneg _ | ((repeat' refine And.intro ?_ ?_) <;> first | omega | exact Int.natCast_nonneg _ | (simp only [i64max]; omega) | (simp only [u8max]; omega) | (simp only [i64max, u8max, u16max, u32max, u64max]; omega) | (simp only [mulSz_eq, Cont.len, colsLen, Col.len, List.length_cons, List.length_nil, List.length_replicate, List.length_append]; done) | (simp only [mulSz_eq, Cont.len, colsLen, Col.len, List.length_cons, List.length_nil, List.length_replicate, List.length_append]; omega) | (simp [mulSz, Cont.len, bne]; done) | (simp [mulSz, Cont.len, bne]; omega)))); conv => whnf)
    | (refine tst_in ?_ ?_; (focus (intro h_; exfalso; first | omega | ((try simp only [decide_eq_true_eq, decide_eq_false_iff_not] at h_); omega) | (simp [mulSz, Cont.len, bne] at h_; done) | (simp [mulSz, Cont.len, bne] at h_; omega))); intro _; conv => whnf)
    | (refine tst_in ?_ ?_; rotate_left; (focus (intro h_; exfalso; first | omega | ((try simp only [decide_eq_true_eq, decide_eq_false_iff_not] at h_); omega) | (simp [mulSz, Cont.len, bne] at h_; done) | (simp [mulSz, Cont.len, bne] at h_; omega))); intro _; conv => whnf)
    | (refine ⟨0, (show _ = _ by omega), ?_⟩; conv => whnf))
  refine ⟨⟨[0, 1, 2, 3], (max 0 (-s)).toNat, ?_, ?_⟩, ?_⟩
  · show stLe _ _ (st10 A A' B B' na ca nb cb s d _) _
    conv => whnf
    repeat' (first | exact True.intro | rfl | refine And.intro ?_ ?_)
    all_goals (conv => whnf)
    repeat' (first | exact True.intro | rfl | refine And.intro ?_ ?_)
    all_goals (try omega)
    all_goals (show agc s d (max 0 (-s)).toNat = 0; unfold agc; split <;> omega)
  · show _ ∧ _
    omega
  · intro (i : Nat) ⟨(hi : max 0 (-s) ≤ i), (hi2 : (i : Int) ≤ max (max 0 (-s)) (min na (nb - s)))⟩
    show forceSt (st10 A A' B B' na ca nb cb s d i) _
    conv => whnf
    refine tst_in (fun h1 => ?_) (fun h1' => ?_)
    · skip
      have h1 : i < na := by simp at h1; omega
      conv => whnf
      repeat (first
        | (refine And.intro ?_ ?_; (focus (first | omega | decide | exact Int.natCast_nonneg _ | ((repeat' refine And.intro ?_ ?_) <;> first | omega | exact Int.natCast_nonneg _ | (simp only [i64max]; omega) | (simp only [u8max]; omega) | (simp only [i64max, u8max, u16max, u32max, u64max]; omega) | (simp only [mulSz_eq, Cont.len, colsLen, Col.len, List.length_cons, List.length_nil, List.length_replicate, List.length_append]; done) | (simp only [mulSz_eq, Cont.len, colsLen, Col.len, List.length_cons, List.length_nil, List.length_replicate, List.length_append]; omega) | (simp [mulSz, Cont.len, bne]; done) | (simp [mulSz, Cont.len, bne]; omega)))); conv => whnf)
        | (refine tst_in ?_ ?_; (focus (intro h_; exfalso; first | omega | ((try simp only [decide_eq_true_eq, decide_eq_false_iff_not] at h_); omega) | (simp [mulSz, Cont.len, bne] at h_; done) | (simp [mulSz, Cont.len, bne] at h_; omega))); intro _; conv => whnf)
        | (refine tst_in ?_ ?_; rotate_left; (focus (intro h_; exfalso; first | omega | ((try simp only [decide_eq_true_eq, decide_eq_false_iff_not] at h_); omega) | (simp [mulSz, Cont.len, bne] at h_; done) | (simp [mulSz, Cont.len, bne] at h_; omega))); intro _; conv => whnf)
        | (refine ⟨0, (show _ = _ by omega), ?_⟩; conv => whnf))
      refine tst_in (fun h2 => ?_) (fun h2' => ?_)
      · skip
        have h2 : (i : Int) + s < nb := by simp at h2; omega
        obtain ⟨j, hj⟩ : ∃ j : Nat, (j : Int) = i + s := ⟨((i : Int) + s).toNat, by omega⟩
        have hjn : j < nb := by omega
        have hE := hE i j h1 hjn
        have ej : ((i : Int) + s).toNat = j := by omega
        have ei : ((i : Int)).toNat = i := by omega
        conv => whnf
        repeat (first
          | (refine And.intro ?_ ?_; (focus (first | omega | decide | exact Int.natCast_nonneg _ | ((repeat' refine And.intro ?_ ?_) <;> first | omega | exact Int.natCast_nonneg _ | (simp only [i64max]; omega) | (simp only [u8max]; omega) | (simp only [i64max, u8max, u16max, u32max, u64max]; omega) | (simp only [mulSz_eq, Cont.len, colsLen, Col.len, List.length_cons, List.length_nil, List.length_replicate, List.length_append]; done) | (simp only [mulSz_eq, Cont.len, colsLen, Col.len, List.length_cons, List.length_nil, List.length_replicate, List.length_append]; omega) | (simp [mulSz, Cont.len, bne]; done) | (simp [mulSz, Cont.len, bne]; omega)))); conv => whnf)
          | (refine tst_in ?_ ?_; (focus (intro h_; exfalso; first | omega | ((try simp only [decide_eq_true_eq, decide_eq_false_iff_not] at h_); omega) | (simp [mulSz, Cont.len, bne] at h_; done) | (simp [mulSz, Cont.len, bne] at h_; omega))); intro _; conv => whnf)
          | (refine tst_in ?_ ?_; rotate_left; (focus (intro h_; exfalso; first | omega | ((try simp only [decide_eq_true_eq, decide_eq_false_iff_not] at h_); omega) | (simp [mulSz, Cont.len, bne] at h_; done) | (simp [mulSz, Cont.len, bne] at h_; omega))); intro _; conv => whnf)
          | (refine ⟨(i), (show _ = _ by omega), ?_⟩; conv => whnf)
          | (refine ⟨(i), 0, (show _ = _ by omega), ?_⟩; conv => whnf)
          | (refine ⟨(i), 1, (show _ = _ by omega), ?_⟩; conv => whnf)
          | (refine ⟨(i), 2, (show _ = _ by omega), ?_⟩; conv => whnf)
          | (refine ⟨(j), (show _ = _ by omega), ?_⟩; conv => whnf)
          | (refine ⟨(j), 0, (show _ = _ by omega), ?_⟩; conv => whnf)
          | (refine ⟨(j), 1, (show _ = _ by omega), ?_⟩; conv => whnf)
          | (refine ⟨(j), 2, (show _ = _ by omega), ?_⟩; conv => whnf)
          | (refine ⟨0, (show _ = _ by omega), ?_⟩; conv => whnf))
        refine ⟨?_, ⟨?_, True.intro⟩⟩
        · conv => whnf
          repeat (first
            | (refine And.intro ?_ ?_; (focus (first | omega | decide | exact Int.natCast_nonneg _ | ((repeat' refine And.intro ?_ ?_) <;> first | omega | exact Int.natCast_nonneg _ | (simp only [i64max]; omega) | (simp only [u8max]; omega) | (simp only [i64max, u8max, u16max, u32max, u64max]; omega) | (simp only [mulSz_eq, Cont.len, colsLen, Col.len, List.length_cons, List.length_nil, List.length_replicate, List.length_append]; done) | (simp only [mulSz_eq, Cont.len, colsLen, Col.len, List.length_cons, List.length_nil, List.length_replicate, List.length_append]; omega) | (simp [mulSz, Cont.len, bne]; done) | (simp [mulSz, Cont.len, bne]; omega)))); conv => whnf)
            | (refine tst_in ?_ ?_; (focus (intro h_; exfalso; first | omega | ((try simp only [decide_eq_true_eq, decide_eq_false_iff_not] at h_); omega) | (simp [mulSz, Cont.len, bne] at h_; done) | (simp [mulSz, Cont.len, bne] at h_; omega))); intro _; conv => whnf)
            | (refine tst_in ?_ ?_; rotate_left; (focus (intro h_; exfalso; first | omega | ((try simp only [decide_eq_true_eq, decide_eq_false_iff_not] at h_); omega) | (simp [mulSz, Cont.len, bne] at h_; done) | (simp [mulSz, Cont.len, bne] at h_; omega))); intro _; conv => whnf)
            | (refine ⟨(i), (show _ = _ by omega), ?_⟩; conv => whnf)
            | (refine ⟨(i), 0, (show _ = _ by omega), ?_⟩; conv => whnf)
            | (refine ⟨(i), 1, (show _ = _ by omega), ?_⟩; conv => whnf)
            | (refine ⟨(i), 2, (show _ = _ by omega), ?_⟩; conv => whnf)
            | (refine ⟨(j), (show _ = _ by omega), ?_⟩; conv => whnf)
            | (refine ⟨(j), 0, (show _ = _ by omega), ?_⟩; conv => whnf)
            | (refine ⟨(j), 1, (show _ = _ by omega), ?_⟩; conv => whnf)
            | (refine ⟨(j), 2, (show _ = _ by omega), ?_⟩; conv => whnf)
            | (refine ⟨0, (show _ = _ by omega), ?_⟩; conv => whnf))
          refine tst_in (fun g1 => ?_) (fun g1' => ?_)
          · skip
            rw [g1] at hE
            conv => whnf
            repeat (first
              | (refine And.intro ?_ ?_; (focus (first | omega | decide | exact Int.natCast_nonneg _ | ((repeat' refine And.intro ?_ ?_) <;> first | omega | exact Int.natCast_nonneg _ | (simp only [i64max]; omega) | (simp only [u8max]; omega) | (simp only [i64max, u8max, u16max, u32max, u64max]; omega) | (simp only [mulSz_eq, Cont.len, colsLen, Col.len, List.length_cons, List.length_nil, List.length_replicate, List.length_append]; done) | (simp only [mulSz_eq, Cont.len, colsLen, Col.len, List.length_cons, List.length_nil, List.length_replicate, List.length_append]; omega) | (simp [mulSz, Cont.len, bne]; done) | (simp [mulSz, Cont.len, bne]; omega)))); conv => whnf)
              | (refine tst_in ?_ ?_; (focus (intro h_; exfalso; first | omega | ((try simp only [decide_eq_true_eq, decide_eq_false_iff_not] at h_); omega) | (simp [mulSz, Cont.len, bne] at h_; done) | (simp [mulSz, Cont.len, bne] at h_; omega))); intro _; conv => whnf)
              | (refine tst_in ?_ ?_; rotate_left; (focus (intro h_; exfalso; first | omega | ((try simp only [decide_eq_true_eq, decide_eq_false_iff_not] at h_); omega) | (simp [mulSz, Cont.len, bne] at h_; done) | (simp [mulSz, Cont.len, bne] at h_; omega))); intro _; conv => whnf)
              | (refine ⟨0, (show _ = _ by omega), ?_⟩; conv => whnf))
            refine tst_in (fun g2 => ?_) (fun g2' => ?_)
            · skip
              rw [g2] at hE
              conv => whnf
              repeat (first
                | (refine And.intro ?_ ?_; (focus (first | omega | decide | exact Int.natCast_nonneg _ | ((repeat' refine And.intro ?_ ?_) <;> first | omega | exact Int.natCast_nonneg _ | (simp only [i64max]; omega) | (simp only [u8max]; omega) | (simp only [i64max, u8max, u16max, u32max, u64max]; omega) | (simp only [mulSz_eq, Cont.len, colsLen, Col.len, List.length_cons, List.length_nil, List.length_replicate, List.length_append]; done) | (simp only [mulSz_eq, Cont.len, colsLen, Col.len, List.length_cons, List.length_nil, List.length_replicate, List.length_append]; omega) | (simp [mulSz, Cont.len, bne]; done) | (simp [mulSz, Cont.len, bne]; omega)))); conv => whnf)
                | (refine tst_in ?_ ?_; (focus (intro h_; exfalso; first | omega | ((try simp only [decide_eq_true_eq, decide_eq_false_iff_not] at h_); omega) | (simp [mulSz, Cont.len, bne] at h_; done) | (simp [mulSz, Cont.len, bne] at h_; omega))); intro _; conv => whnf)
                | (refine tst_in ?_ ?_; rotate_left; (focus (intro h_; exfalso; first | omega | ((try simp only [decide_eq_true_eq, decide_eq_false_iff_not] at h_); omega) | (simp [mulSz, Cont.len, bne] at h_; done) | (simp [mulSz, Cont.len, bne] at h_; omega))); intro _; conv => whnf)
                | (refine ⟨0, (show _ = _ by omega), ?_⟩; conv => whnf))
              refine tst_in (fun g3 => ?_) (fun g3' => ?_)
              · skip
                have g3 : eqV (A.getD i (0, 0)) (A'.getD j (0, 0)) = true := g3
                rw [g3] at hE
                have hE : (j : Int) = i + d := of_decide_eq_true hE.symm
                have hc : agc s d i + 1 ≤ 5000 ∧ 0 ≤ agc s d i := by unfold agc; split <;> omega
                conv => whnf
                repeat (first
                  | (refine And.intro ?_ ?_; (focus (first | omega | decide | exact Int.natCast_nonneg _ | ((repeat' refine And.intro ?_ ?_) <;> first | omega | exact Int.natCast_nonneg _ | (simp only [i64max]; omega) | (simp only [u8max]; omega) | (simp only [i64max, u8max, u16max, u32max, u64max]; omega) | (simp only [mulSz_eq, Cont.len, colsLen, Col.len, List.length_cons, List.length_nil, List.length_replicate, List.length_append]; done) | (simp only [mulSz_eq, Cont.len, colsLen, Col.len, List.length_cons, List.length_nil, List.length_replicate, List.length_append]; omega) | (simp [mulSz, Cont.len, bne]; done) | (simp [mulSz, Cont.len, bne]; omega)))); conv => whnf)
                  | (refine tst_in ?_ ?_; (focus (intro h_; exfalso; first | omega | ((try simp only [decide_eq_true_eq, decide_eq_false_iff_not] at h_); omega) | (simp [mulSz, Cont.len, bne] at h_; done) | (simp [mulSz, Cont.len, bne] at h_; omega))); intro _; conv => whnf)
                  | (refine tst_in ?_ ?_; rotate_left; (focus (intro h_; exfalso; first | omega | ((try simp only [decide_eq_true_eq, decide_eq_false_iff_not] at h_); omega) | (simp [mulSz, Cont.len, bne] at h_; done) | (simp [mulSz, Cont.len, bne] at h_; omega))); intro _; conv => whnf)
                  | (refine ⟨0, (show _ = _ by omega), ?_⟩; conv => whnf))
                refine ⟨[0, 1, 2, 3], i + 1, ?_, (by show _ ∧ _; omega), (by show na - (i + 1) < na - i; omega)⟩
                show stLe _ _ (st10 A A' B B' na ca nb cb s d (i + 1)) _
                conv => whnf
                repeat' (first | exact True.intro | rfl | refine And.intro ?_ ?_)
                all_goals (conv => whnf)
                repeat' (first | exact True.intro | rfl | refine And.intro ?_ ?_)
                all_goals (try omega)
                all_goals (show agc s d (i + 1) = agc s d i + 1; unfold agc; split <;> omega)
              · skip
                have g3 : eqV (A.getD i (0, 0)) (A'.getD j (0, 0)) = false := g3'
                rw [g3] at hE
                have hE : ¬ (j : Int) = i + d := of_decide_eq_false hE.symm
                conv => whnf
                repeat (first
                  | (refine And.intro ?_ ?_; (focus (first | omega | decide | exact Int.natCast_nonneg _ | ((repeat' refine And.intro ?_ ?_) <;> first | omega | exact Int.natCast_nonneg _ | (simp only [i64max]; omega) | (simp only [u8max]; omega) | (simp only [i64max, u8max, u16max, u32max, u64max]; omega) | (simp only [mulSz_eq, Cont.len, colsLen, Col.len, List.length_cons, List.length_nil, List.length_replicate, List.length_append]; done) | (simp only [mulSz_eq, Cont.len, colsLen, Col.len, List.length_cons, List.length_nil, List.length_replicate, List.length_append]; omega) | (simp [mulSz, Cont.len, bne]; done) | (simp [mulSz, Cont.len, bne]; omega)))); conv => whnf)
                  | (refine tst_in ?_ ?_; (focus (intro h_; exfalso; first | omega | ((try simp only [decide_eq_true_eq, decide_eq_false_iff_not] at h_); omega) | (simp [mulSz, Cont.len, bne] at h_; done) | (simp [mulSz, Cont.len, bne] at h_; omega))); intro _; conv => whnf)
                  | (refine tst_in ?_ ?_; rotate_left; (focus (intro h_; exfalso; first | omega | ((try simp only [decide_eq_true_eq, decide_eq_false_iff_not] at h_); omega) | (simp [mulSz, Cont.len, bne] at h_; done) | (simp [mulSz, Cont.len, bne] at h_; omega))); intro _; conv => whnf)
                  | (refine ⟨0, (show _ = _ by omega), ?_⟩; conv => whnf))
                refine ⟨[0, 1, 2, 3], i + 1, ?_, (by show _ ∧ _; omega), (by show na - (i + 1) < na - i; omega)⟩
                show stLe _ _ (st10 A A' B B' na ca nb cb s d (i + 1)) _
                conv => whnf
                repeat' (first | exact True.intro | rfl | refine And.intro ?_ ?_)
                all_goals (conv => whnf)
                repeat' (first | exact True.intro | rfl | refine And.intro ?_ ?_)
                all_goals (try omega)
                all_goals (show agc s d (i + 1) = agc s d i; unfold agc; split <;> omega)
            · skip
              rw [g2'] at hE
              have hE : ¬ (j : Int) = i + d := of_decide_eq_false hE.symm
              conv => whnf
              repeat (first
                | (refine And.intro ?_ ?_; (focus (first | omega | decide | exact Int.natCast_nonneg _ | ((repeat' refine And.intro ?_ ?_) <;> first | omega | exact Int.natCast_nonneg _ | (simp only [i64max]; omega) | (simp only [u8max]; omega) | (simp only [i64max, u8max, u16max, u32max, u64max]; omega) | (simp only [mulSz_eq, Cont.len, colsLen, Col.len, List.length_cons, List.length_nil, List.length_replicate, List.length_append]; done) | (simp only [mulSz_eq, Cont.len, colsLen, Col.len, List.length_cons, List.length_nil, List.length_replicate, List.length_append]; omega) | (simp [mulSz, Cont.len, bne]; done) | (simp [mulSz, Cont.len, bne]; omega)))); conv => whnf)
                | (refine tst_in ?_ ?_; (focus (intro h_; exfalso; first | omega | ((try simp only [decide_eq_true_eq, decide_eq_false_iff_not] at h_); omega) | (simp [mulSz, Cont.len, bne] at h_; done) | (simp [mulSz, Cont.len, bne] at h_; omega))); intro _; conv => whnf)
                | (refine tst_in ?_ ?_; rotate_left; (focus (intro h_; exfalso; first | omega | ((try simp only [decide_eq_true_eq, decide_eq_false_iff_not] at h_); omega) | (simp [mulSz, Cont.len, bne] at h_; done) | (simp [mulSz, Cont.len, bne] at h_; omega))); intro _; conv => whnf)
                | (refine ⟨0, (show _ = _ by omega), ?_⟩; conv => whnf))
              refine ⟨[0, 1, 2, 3], i + 1, ?_, (by show _ ∧ _; omega), (by show na - (i + 1) < na - i; omega)⟩
              show stLe _ _ (st10 A A' B B' na ca nb cb s d (i + 1)) _
              conv => whnf
              repeat' (first | exact True.intro | rfl | refine And.intro ?_ ?_)
              all_goals (conv => whnf)
              repeat' (first | exact True.intro | rfl | refine And.intro ?_ ?_)
              all_goals (try omega)
              all_goals (show agc s d (i + 1) = agc s d i; unfold agc; split <;> omega)
          · skip
            rw [g1'] at hE
            have hE : ¬ (j : Int) = i + d := of_decide_eq_false hE.symm
            conv => whnf
            repeat (first
              | (refine And.intro ?_ ?_; (focus (first | omega | decide | exact Int.natCast_nonneg _ | ((repeat' refine And.intro ?_ ?_) <;> first | omega | exact Int.natCast_nonneg _ | (simp only [i64max]; omega) | (simp only [u8max]; omega) | (simp only [i64max, u8max, u16max, u32max, u64max]; omega) | (simp only [mulSz_eq, Cont.len, colsLen, Col.len, List.length_cons, List.length_nil, List.length_replicate, List.length_append]; done) | (simp only [mulSz_eq, Cont.len, colsLen, Col.len, List.length_cons, List.length_nil, List.length_replicate, List.length_append]; omega) | (simp [mulSz, Cont.len, bne]; done) | (simp [mulSz, Cont.len, bne]; omega)))); conv => whnf)
              | (refine tst_in ?_ ?_; (focus (intro h_; exfalso; first | omega | ((try simp only [decide_eq_true_eq, decide_eq_false_iff_not] at h_); omega) | (simp [mulSz, Cont.len, bne] at h_; done) | (simp [mulSz, Cont.len, bne] at h_; omega))); intro _; conv => whnf)
              | (refine tst_in ?_ ?_; rotate_left; (focus (intro h_; exfalso; first | omega | ((try simp only [decide_eq_true_eq, decide_eq_false_iff_not] at h_); omega) | (simp [mulSz, Cont.len, bne] at h_; done) | (simp [mulSz, Cont.len, bne] at h_; omega))); intro _; conv => whnf)
              | (refine ⟨0, (show _ = _ by omega), ?_⟩; conv => whnf))
            refine ⟨[0, 1, 2, 3], i + 1, ?_, (by show _ ∧ _; omega), (by show na - (i + 1) < na - i; omega)⟩
            show stLe _ _ (st10 A A' B B' na ca nb cb s d (i + 1)) _
            conv => whnf
            repeat' (first | exact True.intro | rfl | refine And.intro ?_ ?_)
            all_goals (conv => whnf)
            repeat' (first | exact True.intro | rfl | refine And.intro ?_ ?_)
            all_goals (try omega)
            all_goals (show agc s d (i + 1) = agc s d i; unfold agc; split <;> omega)
        · conv => whnf
          repeat (first
            | (refine And.intro ?_ ?_; (focus (first | omega | decide | exact Int.natCast_nonneg _ | ((repeat' refine And.intro ?_ ?_) <;> first | omega | exact Int.natCast_nonneg _ | (simp only [i64max]; omega) | (simp only [u8max]; omega) | (simp only [i64max, u8max, u16max, u32max, u64max]; omega) | (simp only [mulSz_eq, Cont.len, colsLen, Col.len, List.length_cons, List.length_nil, List.length_replicate, List.length_append]; done) | (simp only [mulSz_eq, Cont.len, colsLen, Col.len, List.length_cons, List.length_nil, List.length_replicate, List.length_append]; omega) | (simp [mulSz, Cont.len, bne]; done) | (simp [mulSz, Cont.len, bne]; omega)))); conv => whnf)
            | (refine tst_in ?_ ?_; (focus (intro h_; exfalso; first | omega | ((try simp only [decide_eq_true_eq, decide_eq_false_iff_not] at h_); omega) | (simp [mulSz, Cont.len, bne] at h_; done) | (simp [mulSz, Cont.len, bne] at h_; omega))); intro _; conv => whnf)
            | (refine tst_in ?_ ?_; rotate_left; (focus (intro h_; exfalso; first | omega | ((try simp only [decide_eq_true_eq, decide_eq_false_iff_not] at h_); omega) | (simp [mulSz, Cont.len, bne] at h_; done) | (simp [mulSz, Cont.len, bne] at h_; omega))); intro _; conv => whnf)
            | (refine ⟨(i), (show _ = _ by omega), ?_⟩; conv => whnf)
            | (refine ⟨(i), 0, (show _ = _ by omega), ?_⟩; conv => whnf)
            | (refine ⟨(i), 1, (show _ = _ by omega), ?_⟩; conv => whnf)
            | (refine ⟨(i), 2, (show _ = _ by omega), ?_⟩; conv => whnf)
            | (refine ⟨(j), (show _ = _ by omega), ?_⟩; conv => whnf)
            | (refine ⟨(j), 0, (show _ = _ by omega), ?_⟩; conv => whnf)
            | (refine ⟨(j), 1, (show _ = _ by omega), ?_⟩; conv => whnf)
            | (refine ⟨(j), 2, (show _ = _ by omega), ?_⟩; conv => whnf)
            | (refine ⟨0, (show _ = _ by omega), ?_⟩; conv => whnf))
          refine tst_in (fun g1 => ?_) (fun g1' => ?_)
          · skip
            rw [g1] at hE
            conv => whnf
            repeat (first
              | (refine And.intro ?_ ?_; (focus (first | omega | decide | exact Int.natCast_nonneg _ | ((repeat' refine And.intro ?_ ?_) <;> first | omega | exact Int.natCast_nonneg _ | (simp only [i64max]; omega) | (simp only [u8max]; omega) | (simp only [i64max, u8max, u16max, u32max, u64max]; omega) | (simp only [mulSz_eq, Cont.len, colsLen, Col.len, List.length_cons, List.length_nil, List.length_replicate, List.length_append]; done) | (simp only [mulSz_eq, Cont.len, colsLen, Col.len, List.length_cons, List.length_nil, List.length_replicate, List.length_append]; omega) | (simp [mulSz, Cont.len, bne]; done) | (simp [mulSz, Cont.len, bne]; omega)))); conv => whnf)
              | (refine tst_in ?_ ?_; (focus (intro h_; exfalso; first | omega | ((try simp only [decide_eq_true_eq, decide_eq_false_iff_not] at h_); omega) | (simp [mulSz, Cont.len, bne] at h_; done) | (simp [mulSz, Cont.len, bne] at h_; omega))); intro _; conv => whnf)
              | (refine tst_in ?_ ?_; rotate_left; (focus (intro h_; exfalso; first | omega | ((try simp only [decide_eq_true_eq, decide_eq_false_iff_not] at h_); omega) | (simp [mulSz, Cont.len, bne] at h_; done) | (simp [mulSz, Cont.len, bne] at h_; omega))); intro _; conv => whnf)
              | (refine ⟨0, (show _ = _ by omega), ?_⟩; conv => whnf))
            refine tst_in (fun g2 => ?_) (fun g2' => ?_)
            · skip
              rw [g2] at hE
              conv => whnf
              repeat (first
                | (refine And.intro ?_ ?_; (focus (first | omega | decide | exact Int.natCast_nonneg _ | ((repeat' refine And.intro ?_ ?_) <;> first | omega | exact Int.natCast_nonneg _ | (simp only [i64max]; omega) | (simp only [u8max]; omega) | (simp only [i64max, u8max, u16max, u32max, u64max]; omega) | (simp only [mulSz_eq, Cont.len, colsLen, Col.len, List.length_cons, List.length_nil, List.length_replicate, List.length_append]; done) | (simp only [mulSz_eq, Cont.len, colsLen, Col.len, List.length_cons, List.length_nil, List.length_replicate, List.length_append]; omega) | (simp [mulSz, Cont.len, bne]; done) | (simp [mulSz, Cont.len, bne]; omega)))); conv => whnf)
                | (refine tst_in ?_ ?_; (focus (intro h_; exfalso; first | omega | ((try simp only [decide_eq_true_eq, decide_eq_false_iff_not] at h_); omega) | (simp [mulSz, Cont.len, bne] at h_; done) | (simp [mulSz, Cont.len, bne] at h_; omega))); intro _; conv => whnf)
                | (refine tst_in ?_ ?_; rotate_left; (focus (intro h_; exfalso; first | omega | ((try simp only [decide_eq_true_eq, decide_eq_false_iff_not] at h_); omega) | (simp [mulSz, Cont.len, bne] at h_; done) | (simp [mulSz, Cont.len, bne] at h_; omega))); intro _; conv => whnf)
                | (refine ⟨0, (show _ = _ by omega), ?_⟩; conv => whnf))
              refine tst_in (fun g3 => ?_) (fun g3' => ?_)
              · skip
                have g3 : eqV (A.getD i (0, 0)) (A'.getD j (0, 0)) = true := g3
                rw [g3] at hE
                have hE : (j : Int) = i + d := of_decide_eq_true hE.symm
                have hc : agc s d i + 1 ≤ 5000 ∧ 0 ≤ agc s d i := by unfold agc; split <;> omega
                conv => whnf
                repeat (first
                  | (refine And.intro ?_ ?_; (focus (first | omega | decide | exact Int.natCast_nonneg _ | ((repeat' refine And.intro ?_ ?_) <;> first | omega | exact Int.natCast_nonneg _ | (simp only [i64max]; omega) | (simp only [u8max]; omega) | (simp only [i64max, u8max, u16max, u32max, u64max]; omega) | (simp only [mulSz_eq, Cont.len, colsLen, Col.len, List.length_cons, List.length_nil, List.length_replicate, List.length_append]; done) | (simp only [mulSz_eq, Cont.len, colsLen, Col.len, List.length_cons, List.length_nil, List.length_replicate, List.length_append]; omega) | (simp [mulSz, Cont.len, bne]; done) | (simp [mulSz, Cont.len, bne]; omega)))); conv => whnf)
                  | (refine tst_in ?_ ?_; (focus (intro h_; exfalso; first | omega | ((try simp only [decide_eq_true_eq, decide_eq_false_iff_not] at h_); omega) | (simp [mulSz, Cont.len, bne] at h_; done) | (simp [mulSz, Cont.len, bne] at h_; omega))); intro _; conv => whnf)
                  | (refine tst_in ?_ ?_; rotate_left; (focus (intro h_; exfalso; first | omega | ((try simp only [decide_eq_true_eq, decide_eq_false_iff_not] at h_); omega) | (simp [mulSz, Cont.len, bne] at h_; done) | (simp [mulSz, Cont.len, bne] at h_; omega))); intro _; conv => whnf)
                  | (refine ⟨0, (show _ = _ by omega), ?_⟩; conv => whnf))
                refine ⟨[0, 1, 2, 3], i + 1, ?_, (by show _ ∧ _; omega), (by show na - (i + 1) < na - i; omega)⟩
                show stLe _ _ (st10 A A' B B' na ca nb cb s d (i + 1)) _
                conv => whnf
                repeat' (first | exact True.intro | rfl | refine And.intro ?_ ?_)
                all_goals (conv => whnf)
                repeat' (first | exact True.intro | rfl | refine And.intro ?_ ?_)
                all_goals (try omega)
                all_goals (show agc s d (i + 1) = agc s d i + 1; unfold agc; split <;> omega)
              · skip
                have g3 : eqV (A.getD i (0, 0)) (A'.getD j (0, 0)) = false := g3'
                rw [g3] at hE
                have hE : ¬ (j : Int) = i + d := of_decide_eq_false hE.symm
                conv => whnf
                repeat (first
                  | (refine And.intro ?_ ?_; (focus (first | omega | decide | exact Int.natCast_nonneg _ | ((repeat' refine And.intro ?_ ?_) <;> first | omega | exact Int.natCast_nonneg _ | (simp only [i64max]; omega) | (simp only [u8max]; omega) | (simp only [i64max, u8max, u16max, u32max, u64max]; omega) | (simp only [mulSz_eq, Cont.len, colsLen, Col.len, List.length_cons, List.length_nil, List.length_replicate, List.length_append]; done) | (simp only [mulSz_eq, Cont.len, colsLen, Col.len, List.length_cons, List.length_nil, List.length_replicate, List.length_append]; omega) | (simp [mulSz, Cont.len, bne]; done) | (simp [mulSz, Cont.len, bne]; omega)))); conv => whnf)
                  | (refine tst_in ?_ ?_; (focus (intro h_; exfalso; first | omega | ((try simp only [decide_eq_true_eq, decide_eq_false_iff_not] at h_); omega) | (simp [mulSz, Cont.len, bne] at h_; done) | (simp [mulSz, Cont.len, bne] at h_; omega))); intro _; conv => whnf)
                  | (refine tst_in ?_ ?_; rotate_left; (focus (intro h_; exfalso; first | omega | ((try simp only [decide_eq_true_eq, decide_eq_false_iff_not] at h_); omega) | (simp [mulSz, Cont.len, bne] at h_; done) | (simp [mulSz, Cont.len, bne] at h_; omega))); intro _; conv => whnf)
                  | (refine ⟨0, (show _ = _ by omega), ?_⟩; conv => whnf))
                refine ⟨[0, 1, 2, 3], i + 1, ?_, (by show _ ∧ _; omega), (by show na - (i + 1) < na - i; omega)⟩
                show stLe _ _ (st10 A A' B B' na ca nb cb s d (i + 1)) _
                conv => whnf
                repeat' (first | exact True.intro | rfl | refine And.intro ?_ ?_)
                all_goals (conv => whnf)
                repeat' (first | exact True.intro | rfl | refine And.intro ?_ ?_)
                all_goals (try omega)
                all_goals (show agc s d (i + 1) = agc s d i; unfold agc; split <;> omega)
            · skip
              rw [g2'] at hE
              have hE : ¬ (j : Int) = i + d := of_decide_eq_false hE.symm
              conv => whnf
              repeat (first
                | (refine And.intro ?_ ?_; (focus (first | omega | decide | exact Int.natCast_nonneg _ | ((repeat' refine And.intro ?_ ?_) <;> first | omega | exact Int.natCast_nonneg _ | (simp only [i64max]; omega) | (simp only [u8max]; omega) | (simp only [i64max, u8max, u16max, u32max, u64max]; omega) | (simp only [mulSz_eq, Cont.len, colsLen, Col.len, List.length_cons, List.length_nil, List.length_replicate, List.length_append]; done) | (simp only [mulSz_eq, Cont.len, colsLen, Col.len, List.length_cons, List.length_nil, List.length_replicate, List.length_append]; omega) | (simp [mulSz, Cont.len, bne]; done) | (simp [mulSz, Cont.len, bne]; omega)))); conv => whnf)
                | (refine tst_in ?_ ?_; (focus (intro h_; exfalso; first | omega | ((try simp only [decide_eq_true_eq, decide_eq_false_iff_not] at h_); omega) | (simp [mulSz, Cont.len, bne] at h_; done) | (simp [mulSz, Cont.len, bne] at h_; omega))); intro _; conv => whnf)
                | (refine tst_in ?_ ?_; rotate_left; (focus (intro h_; exfalso; first | omega | ((try simp only [decide_eq_true_eq, decide_eq_false_iff_not] at h_); omega) | (simp [mulSz, Cont.len, bne] at h_; done) | (simp [mulSz, Cont.len, bne] at h_; omega))); intro _; conv => whnf)
                | (refine ⟨0, (show _ = _ by omega), ?_⟩; conv => whnf))
              refine ⟨[0, 1, 2, 3], i + 1, ?_, (by show _ ∧ _; omega), (by show na - (i + 1) < na - i; omega)⟩
              show stLe _ _ (st10 A A' B B' na ca nb cb s d (i + 1)) _
              conv => whnf
              repeat' (first | exact True.intro | rfl | refine And.intro ?_ ?_)
              all_goals (conv => whnf)
              repeat' (first | exact True.intro | rfl | refine And.intro ?_ ?_)
              all_goals (try omega)
              all_goals (show agc s d (i + 1) = agc s d i; unfold agc; split <;> omega)
          · skip
            rw [g1'] at hE
            have hE : ¬ (j : Int) = i + d := of_decide_eq_false hE.symm
            conv => whnf
            repeat (first
              | (refine And.intro ?_ ?_; (focus (first | omega | decide | exact Int.natCast_nonneg _ | ((repeat' refine And.intro ?_ ?_) <;> first | omega | exact Int.natCast_nonneg _ | (simp only [i64max]; omega) | (simp only [u8max]; omega) | (simp only [i64max, u8max, u16max, u32max, u64max]; omega) | (simp only [mulSz_eq, Cont.len, colsLen, Col.len, List.length_cons, List.length_nil, List.length_replicate, List.length_append]; done) | (simp only [mulSz_eq, Cont.len, colsLen, Col.len, List.length_cons, List.length_nil, List.length_replicate, List.length_append]; omega) | (simp [mulSz, Cont.len, bne]; done) | (simp [mulSz, Cont.len, bne]; omega)))); conv => whnf)
              | (refine tst_in ?_ ?_; (focus (intro h_; exfalso; first | omega | ((try simp only [decide_eq_true_eq, decide_eq_false_iff_not] at h_); omega) | (simp [mulSz, Cont.len, bne] at h_; done) | (simp [mulSz, Cont.len, bne] at h_; omega))); intro _; conv => whnf)
              | (refine tst_in ?_ ?_; rotate_left; (focus (intro h_; exfalso; first | omega | ((try simp only [decide_eq_true_eq, decide_eq_false_iff_not] at h_); omega) | (simp [mulSz, Cont.len, bne] at h_; done) | (simp [mulSz, Cont.len, bne] at h_; omega))); intro _; conv => whnf)
              | (refine ⟨0, (show _ = _ by omega), ?_⟩; conv => whnf))
            refine ⟨[0, 1, 2, 3], i + 1, ?_, (by show _ ∧ _; omega), (by show na - (i + 1) < na - i; omega)⟩
            show stLe _ _ (st10 A A' B B' na ca nb cb s d (i + 1)) _
            conv => whnf
            repeat' (first | exact True.intro | rfl | refine And.intro ?_ ?_)
            all_goals (conv => whnf)
            repeat' (first | exact True.intro | rfl | refine And.intro ?_ ?_)
            all_goals (try omega)
            all_goals (show agc s d (i + 1) = agc s d i; unfold agc; split <;> omega)
      · skip
        have h2 : ¬ (i : Int) + s < nb := by simp at h2'; omega
        conv => whnf
        repeat (first
          | (refine And.intro ?_ ?_; (focus (first | omega | decide | exact Int.natCast_nonneg _ | ((repeat' refine And.intro ?_ ?_) <;> first | omega | exact Int.natCast_nonneg _ | (simp only [i64max]; omega) | (simp only [u8max]; omega) | (simp only [i64max, u8max, u16max, u32max, u64max]; omega) | (simp only [mulSz_eq, Cont.len, colsLen, Col.len, List.length_cons, List.length_nil, List.length_replicate, List.length_append]; done) | (simp only [mulSz_eq, Cont.len, colsLen, Col.len, List.length_cons, List.length_nil, List.length_replicate, List.length_append]; omega) | (simp [mulSz, Cont.len, bne]; done) | (simp [mulSz, Cont.len, bne]; omega)))); conv => whnf)
          | (refine tst_in ?_ ?_; (focus (intro h_; exfalso; first | omega | ((try simp only [decide_eq_true_eq, decide_eq_false_iff_not] at h_); omega) | (simp [mulSz, Cont.len, bne] at h_; done) | (simp [mulSz, Cont.len, bne] at h_; omega))); intro _; conv => whnf)
          | (refine tst_in ?_ ?_; rotate_left; (focus (intro h_; exfalso; first | omega | ((try simp only [decide_eq_true_eq, decide_eq_false_iff_not] at h_); omega) | (simp [mulSz, Cont.len, bne] at h_; done) | (simp [mulSz, Cont.len, bne] at h_; omega))); intro _; conv => whnf)
          | (refine ⟨0, (show _ = _ by omega), ?_⟩; conv => whnf))
        refine .inl ⟨(), [0, 1, 2, 3], ?_⟩
        conv => whnf
        repeat' (first | exact True.intro | rfl | refine And.intro ?_ ?_)
        all_goals (conv => whnf)
        repeat' (first | exact True.intro | rfl | refine And.intro ?_ ?_)
        all_goals (try omega)
        all_goals (show (if s = d then _ else _) = agc s d i; unfold agc; split <;> omega)
    · skip
      have h1 : ¬ i < na := by simp at h1'; omega
      conv => whnf
      repeat (first
        | (refine And.intro ?_ ?_; (focus (first | omega | decide | exact Int.natCast_nonneg _ | ((repeat' refine And.intro ?_ ?_) <;> first | omega | exact Int.natCast_nonneg _ | (simp only [i64max]; omega) | (simp only [u8max]; omega) | (simp only [i64max, u8max, u16max, u32max, u64max]; omega) | (simp only [mulSz_eq, Cont.len, colsLen, Col.len, List.length_cons, List.length_nil, List.length_replicate, List.length_append]; done) | (simp only [mulSz_eq, Cont.len, colsLen, Col.len, List.length_cons, List.length_nil, List.length_replicate, List.length_append]; omega) | (simp [mulSz, Cont.len, bne]; done) | (simp [mulSz, Cont.len, bne]; omega)))); conv => whnf)
        | (refine tst_in ?_ ?_; (focus (intro h_; exfalso; first | omega | ((try simp only [decide_eq_true_eq, decide_eq_false_iff_not] at h_); omega) | (simp [mulSz, Cont.len, bne] at h_; done) | (simp [mulSz, Cont.len, bne] at h_; omega))); intro _; conv => whnf)
        | (refine tst_in ?_ ?_; rotate_left; (focus (intro h_; exfalso; first | omega | ((try simp only [decide_eq_true_eq, decide_eq_false_iff_not] at h_); omega) | (simp [mulSz, Cont.len, bne] at h_; done) | (simp [mulSz, Cont.len, bne] at h_; omega))); intro _; conv => whnf)
        | (refine ⟨0, (show _ = _ by omega), ?_⟩; conv => whnf))
      refine .inl ⟨(), [0, 1, 2, 3], ?_⟩
      conv => whnf
      repeat' (first | exact True.intro | rfl | refine And.intro ?_ ?_)
      all_goals (conv => whnf)
      repeat' (first | exact True.intro | rfl | refine And.intro ?_ ?_)
      all_goals (try omega)
      all_goals (show (if s = d then _ else _) = agc s d i; unfold agc; split <;> omega)
end Go.Proofs.Ytmboejfdjcafoaa

set_option linter.unusedVariables false
set_option linter.unusedSimpArgs false
namespace Go.Proofs.Ytmboejfdjcafoaa
open Go Go.Fw
noncomputable def c5 : Code := (Try.f5.body).getD .skip
def natAt (st : St) (t : Nat) : Nat := match slot st.sl t with | .int _ n => n.toNat | _ => 0
def fnOut (na ca nb cb : Nat) : FOut := ⟨Unit, fun _ => True, fun _ => .fn 10 [.ptr 2 0, .ptr 3 0], fun _ => [.dead, .dead, .seg true (.avs [.slice 0 0 na ca]), .seg true (.avs [.slice 1 0 nb cb])]⟩
set_option maxHeartbeats 0 in
set_option maxRecDepth 100000 in
theorem agreement_f (A A' : List (Nat × Nat)) (B B' : List Bool) (na ca nb cb : Nat) :
    Fits Try.prog 8 ⟨[.slice 0 0 na ca, .slice 1 0 nb cb], [rowS false A B, rowS false A' B'], [fnOut na ca nb cb]⟩ := by
  refine fits_of_body (C := cfgs 2) (c := c8) (ts := [4]) tokL mixedL (fun _ => none) (fun _ => none)
    Try.func8 (by kernel_rfl) (by kernel_rfl) (by kernel_rfl) (by kernel_rfl) rfl ?_
  conv => whnf
  repeat (first
    | (refine And.intro ?_ ?_; (focus (first | omega | decide | exact Int.natCast_nonneg _ | ((repeat' refine And.intro ?_ ?_) <;> first | omega | exact Int.natCast_nonneg _ | (simp only [i64max]; omega) | (simp only [u8max]; omega) | (simp only [i64max, u8max, u16max, u32max, u64max]; omega) | (simp only [mulSz_eq, Cont.len, colsLen, Col.len, List.length_cons, List.length_nil, List.length_replicate, List.length_append]; done) | (simp only [mulSz_eq, Cont.len, colsLen, Col.len, List.length_cons, List.length_nil, List.length_replicate, List.length_append]; omega) | (simp [mulSz, Cont.len, bne]; done) | (simp [mulSz, Cont.len, bne]; omega)))); conv => whnf)
    | (refine tst_in ?_ ?_; (focus (intro h_; exfalso; first | omega | ((try simp only [decide_eq_true_eq, decide_eq_false_iff_not] at h_); omega) | (simp [mulSz, Cont.len, bne] at h_; done) | (simp [mulSz, Cont.len, bne] at h_; omega))); intro _; conv => whnf)
    | (refine tst_in ?_ ?_; rotate_left; (focus (intro h_; exfalso; first | omega | ((try simp only [decide_eq_true_eq, decide_eq_false_iff_not] at h_); omega) | (simp [mulSz, Cont.len, bne] at h_; done) | (simp [mulSz, Cont.len, bne] at h_; omega))); intro _; conv => whnf)
    | (refine ⟨0, (show _ = _ by omega), ?_⟩; conv => whnf))
  refine .inl ⟨(), [0, 1, 2, 3], ?_⟩
  conv => whnf
  repeat' (first | exact True.intro | rfl | refine And.intro ?_ ?_)
  all_goals (conv => whnf)
  repeat' (first | exact True.intro | rfl | refine And.intro ?_ ?_)
  all_goals (try omega)
/-- Told, once it has been looked at. -/
def told (x : Int) (p : Prop) [Decidable p] : Int := if p then x else 0
def hp5 (A A' : List (Nat × Nat)) (B B' : List Bool) (na ca nb cb : Nat) : List Seg := [rowS false A B, rowS false A' B', .seg true (.avs [.slice 0 0 na ca]), .seg true (.avs [.slice 1 0 nb cb])]
def seen (d : Int) (sz t : Nat) : Prop := d.natAbs < sz ∨ (1 ≤ t ∧ d = sz) ∨ (2 ≤ t ∧ d = 0 - (sz : Int))
instance (d : Int) (sz t : Nat) : Decidable (seen d sz t) := by unfold seen; infer_instance
def st5 (A A' : List (Nat × Nat)) (B B' : List Bool) (na ca nb cb : Nat) (d K : Int) (most sz : Nat) : St :=
  ⟨slotsAt 60 [(0, .slice 0 0 na ca), (1, .slice 1 0 nb cb), (2, .int .i64 most), (6, .int .i64 (told d (seen d sz 0))), (7, .int .i64 (told K (seen d sz 0))), (9, .fn 10 [.ptr 2 0, .ptr 3 0]), (10, .int .i64 sz)], hp5 A A' B B' na ca nb cb⟩
def inv5 (A A' : List (Nat × Nat)) (B B' : List Bool) (na ca nb cb : Nat) (d K : Int) (most : Nat) : LInv :=
  ⟨Nat, fun sz => st5 A A' B B' na ca nb cb d K most sz, fun sz => 1 ≤ sz ∧ sz ≤ most + 1, fun sz => most + 1 - sz⟩
def st5b (A A' : List (Nat × Nat)) (B B' : List Bool) (na ca nb cb : Nat) (d K : Int) (most sz t : Nat) : St :=
  ⟨slotsAt 60 [(0, .slice 0 0 na ca), (1, .slice 1 0 nb cb), (2, .int .i64 most), (6, .int .i64 (told d (seen d sz t))), (7, .int .i64 (told K (seen d sz t))), (9, .fn 10 [.ptr 2 0, .ptr 3 0]), (10, .int .i64 sz),
    (43, .slice 4 0 2 2), (44, .int .i64 2), (45, .int .i64 t)], hp5 A A' B B' na ca nb cb ++ [.seg true (.ints .i64 [(sz : Int), 0 - (sz : Int)])]⟩
def inv5b (A A' : List (Nat × Nat)) (B B' : List Bool) (na ca nb cb : Nat) (d K : Int) (most : Nat) (s0 : St) : LInv :=
  ⟨Nat, fun t => st5b A A' B B' na ca nb cb d K most (natAt s0 10) t, fun t => t ≤ 2, fun t => 2 - t⟩
def cfg5 (A A' : List (Nat × Nat)) (B B' : List Bool) (na ca nb cb : Nat) (d K : Int) (most : Nat) : Cfg :=
  { T := tyL, sgn := fun _ => false, wr := fun _ => false, k := 2, q := qf, dep := fun | 9 => some (inv5b A A' B B' na ca nb cb d K most) | _ => none }
def slipOut (d K : Int) (most : Nat) : FOut := ⟨Unit, fun _ => True, fun _ => .tup [.int .i64 (told d (seen d (most + 1) 0)), .int .i64 (told K (seen d (most + 1) 0)), .int .i64 0], fun _ => [.dead, .dead]⟩
theorem told_pos {x : Int} {p : Prop} [Decidable p] (h : p) : told x p = x := if_pos h
theorem told_neg {x : Int} {p : Prop} [Decidable p] (h : ¬ p) : told x p = 0 := if_neg h
theorem told_same {x : Int} {p q : Prop} [Decidable p] [Decidable q] (h : p ↔ q) : told x p = told x q := by
  unfold told; by_cases hp : p
  · rw [if_pos hp, if_pos (h.1 hp)]
  · rw [if_neg hp, if_neg (fun hq => hp (h.2 hq))]
set_option maxHeartbeats 0 in
set_option maxRecDepth 100000 in
theorem Slip_f (A A' : List (Nat × Nat)) (B B' : List Bool) (na ca nb cb : Nat) (d K : Int) (most : Nat) (hA : na ≤ A.length) (hB : na ≤ B.length) (hA' : nb ≤ A'.length) (hB' : nb ≤ B'.length) (hca : na ≤ ca) (hcb : nb ≤ cb)
    (hna : na ≤ 4096) (hnb : nb ≤ 4096) (hm : most ≤ 1024) (hd : -1024 ≤ d ∧ d ≤ 1024) (hE : ∀ i j, i < na → j < nb → (!(B.getD i false) && (!(B'.getD j false) && eqV (A.getD i (0, 0)) (A'.getD j (0, 0)))) = decide ((j : Int) = i + d))
    (hK : K = max (max 0 (-d)) (min na (nb - d)) - max 0 (-d)) (hK0 : 0 < K) :
    Fits Try.prog 5 ⟨[.slice 0 0 na ca, .slice 1 0 nb cb, .int .i64 most], [rowS false A B, rowS false A' B'], [slipOut d K most]⟩ := by
  have AM := agreement_f A A' B B' na ca nb cb
  have AG : ∀ s : Int, -1024 ≤ s ∧ s ≤ 1024 → Fits Try.prog 10 ⟨[.int .i64 s, .ptr 0 0, .ptr 1 0], hp10 A A' B B' na ca nb cb, [numOut [.dead, .dead, .dead, .dead] (.int .i64 (told K (s = d)))]⟩ := fun s hs => by
    have := agree_f A A' B B' na ca nb cb s d hA hB hA' hB' hca hcb hs hna hnb hE
    by_cases h : s = d
    · rw [if_pos h] at this
      rw [told_pos h, hK, ← h]; exact this
    · rw [if_neg h] at this
      rw [told_neg h]; exact this
  have hKb : K ≤ 5000 := by omega
  refine fits_of_body (C := cfg5 A A' B B' na ca nb cb d K most) (c := c5) (ts := [6, 7, 8]) tokL mixedL (fun | 6 => some (inv5 A A' B B' na ca nb cb d K most) | _ => none) (fun _ => none)
    Try.func5 (by kernel_rfl) (by kernel_rfl) (by kernel_rfl) (by kernel_rfl) rfl ?_
  conv => whnf
  repeat (first
    | (refine And.intro ?_ ?_; (focus (first | omega | decide | exact Int.natCast_nonneg _ | ((repeat' refine And.intro ?_ ?_) <;> first | omega | exact Int.natCast_nonneg _ | (simp only [i64max]; omega) | (simp only [u8max]; omega) | (simp only [i64max, u8max, u16max, u32max, u64max]; omega) | (simp only [mulSz_eq, Cont.len, colsLen, Col.len, List.length_cons, List.length_nil, List.length_replicate, List.length_append]; done) | (simp only [mulSz_eq, Cont.len, colsLen, Col.len, List.length_cons, List.length_nil, List.length_replicate, List.length_append]; omega) | (simp [mulSz, Cont.len, bne]; done) | (simp [mulSz, Cont.len, bne]; omega)))); conv => whnf)
    | (refine tst_in ?_ ?_; (focus (intro h_; exfalso; first | omega | ((try simp only [decide_eq_true_eq, decide_eq_false_iff_not] at h_); omega) | (simp [mulSz, Cont.len, bne] at h_; done) | (simp [mulSz, Cont.len, bne] at h_; omega))); intro _; conv => whnf)
    | (refine tst_in ?_ ?_; rotate_left; (focus (intro h_; exfalso; first | omega | ((try simp only [decide_eq_true_eq, decide_eq_false_iff_not] at h_); omega) | (simp [mulSz, Cont.len, bne] at h_; done) | (simp [mulSz, Cont.len, bne] at h_; omega))); intro _; conv => whnf)
    | (refine ⟨0, (show _ = _ by omega), ?_⟩; conv => whnf))
  refine ⟨_, [0, 1], AM, ?_⟩
  conv => whnf
  refine ⟨?_, ?_, ?_⟩
  · conv => whnf
    repeat' (first | exact True.intro | rfl | refine And.intro ?_ ?_ | omega)
    all_goals (conv => whnf)
    all_goals (try (first | rfl | omega | (simp; done)))
  · conv => whnf
    repeat' (first | exact True.intro | rfl | refine And.intro ?_ ?_ | omega)
    all_goals (conv => whnf)
    all_goals (try (first | rfl | omega | (simp; done)))
  conv => whnf
  refine ⟨?_, True.intro⟩
  intro _ _
  conv => whnf
  conv => whnf
  repeat (first
    | (refine And.intro ?_ ?_; (focus (first | omega | decide | exact Int.natCast_nonneg _ | ((repeat' refine And.intro ?_ ?_) <;> first | omega | exact Int.natCast_nonneg _ | (simp only [i64max]; omega) | (simp only [u8max]; omega) | (simp only [i64max, u8max, u16max, u32max, u64max]; omega) | (simp only [mulSz_eq, Cont.len, colsLen, Col.len, List.length_cons, List.length_nil, List.length_replicate, List.length_append]; done) | (simp only [mulSz_eq, Cont.len, colsLen, Col.len, List.length_cons, List.length_nil, List.length_replicate, List.length_append]; omega) | (simp [mulSz, Cont.len, bne]; done) | (simp [mulSz, Cont.len, bne]; omega)))); conv => whnf)
    | (refine tst_in ?_ ?_; (focus (intro h_; exfalso; first | omega | ((try simp only [decide_eq_true_eq, decide_eq_false_iff_not] at h_); omega) | (simp [mulSz, Cont.len, bne] at h_; done) | (simp [mulSz, Cont.len, bne] at h_; omega))); intro _; conv => whnf)
    | (refine tst_in ?_ ?_; rotate_left; (focus (intro h_; exfalso; first | omega | ((try simp only [decide_eq_true_eq, decide_eq_false_iff_not] at h_); omega) | (simp [mulSz, Cont.len, bne] at h_; done) | (simp [mulSz, Cont.len, bne] at h_; omega))); intro _; conv => whnf)
    | (refine ⟨0, (show _ = _ by omega), ?_⟩; conv => whnf))
  refine ⟨_, [2, 3, 0, 1], (AG 0 (by omega)), ?_⟩
  conv => whnf
  refine ⟨?_, ?_, ?_⟩
  · conv => whnf
    repeat' (first | exact True.intro | rfl | refine And.intro ?_ ?_ | omega)
    all_goals (conv => whnf)
    all_goals (try (first | rfl | omega | (simp; done)))
  · conv => whnf
    repeat' (first | exact True.intro | rfl | refine And.intro ?_ ?_ | omega)
    all_goals (conv => whnf)
    all_goals (try (first | rfl | omega | (simp; done)))
  conv => whnf
  refine ⟨?_, True.intro⟩
  intro _ _
  conv => whnf
  conv => whnf
  repeat (first
    | (refine And.intro ?_ ?_; (focus (first | omega | decide | exact Int.natCast_nonneg _ | ((repeat' refine And.intro ?_ ?_) <;> first | omega | exact Int.natCast_nonneg _ | (simp only [i64max]; omega) | (simp only [u8max]; omega) | (simp only [i64max, u8max, u16max, u32max, u64max]; omega) | (simp only [mulSz_eq, Cont.len, colsLen, Col.len, List.length_cons, List.length_nil, List.length_replicate, List.length_append]; done) | (simp only [mulSz_eq, Cont.len, colsLen, Col.len, List.length_cons, List.length_nil, List.length_replicate, List.length_append]; omega) | (simp [mulSz, Cont.len, bne]; done) | (simp [mulSz, Cont.len, bne]; omega)))); conv => whnf)
    | (refine tst_in ?_ ?_; (focus (intro h_; exfalso; first | omega | ((try simp only [decide_eq_true_eq, decide_eq_false_iff_not] at h_); omega) | (simp [mulSz, Cont.len, bne] at h_; done) | (simp [mulSz, Cont.len, bne] at h_; omega))); intro _; conv => whnf)
    | (refine tst_in ?_ ?_; rotate_left; (focus (intro h_; exfalso; first | omega | ((try simp only [decide_eq_true_eq, decide_eq_false_iff_not] at h_); omega) | (simp [mulSz, Cont.len, bne] at h_; done) | (simp [mulSz, Cont.len, bne] at h_; omega))); intro _; conv => whnf)
    | (refine ⟨0, (show _ = _ by omega), ?_⟩; conv => whnf))
  refine ⟨⟨[0, 1, 2, 3], (1 : Nat), ?_, (by show 1 ≤ 1 ∧ 1 ≤ most + 1; omega)⟩, ?_⟩
  · show stLe _ _ (st5 A A' B B' na ca nb cb d K most 1) _
    conv => whnf
    repeat' (first | exact True.intro | rfl | refine And.intro ?_ ?_)
    all_goals (conv => whnf)
    repeat' (first | exact True.intro | rfl | refine And.intro ?_ ?_)
    all_goals (try omega)
    · show told d (seen d 1 0) = 0
      by_cases h : seen d 1 0
      · rw [told_pos h]; unfold seen at h; omega
      · rw [told_neg h]
    · exact told_same (by unfold seen; omega)
  · intro (sz : Nat) ⟨(hsz : 1 ≤ sz), (hsz2 : sz ≤ most + 1)⟩
    show forceSt (st5 A A' B B' na ca nb cb d K most sz) _
    conv => whnf
    refine tst_in (fun h1 => ?_) (fun h1' => ?_)
    · skip
      have h1 : sz ≤ most := by simp at h1; omega
      conv => whnf
      repeat (first
        | (refine And.intro ?_ ?_; (focus (first | omega | decide | exact Int.natCast_nonneg _ | ((repeat' refine And.intro ?_ ?_) <;> first | omega | exact Int.natCast_nonneg _ | (simp only [i64max]; omega) | (simp only [u8max]; omega) | (simp only [i64max, u8max, u16max, u32max, u64max]; omega) | (simp only [mulSz_eq, Cont.len, colsLen, Col.len, List.length_cons, List.length_nil, List.length_replicate, List.length_append]; done) | (simp only [mulSz_eq, Cont.len, colsLen, Col.len, List.length_cons, List.length_nil, List.length_replicate, List.length_append]; omega) | (simp [mulSz, Cont.len, bne]; done) | (simp [mulSz, Cont.len, bne]; omega)))); conv => whnf)
        | (refine tst_in ?_ ?_; (focus (intro h_; exfalso; first | omega | ((try simp only [decide_eq_true_eq, decide_eq_false_iff_not] at h_); omega) | (simp [mulSz, Cont.len, bne] at h_; done) | (simp [mulSz, Cont.len, bne] at h_; omega))); intro _; conv => whnf)
        | (refine tst_in ?_ ?_; rotate_left; (focus (intro h_; exfalso; first | omega | ((try simp only [decide_eq_true_eq, decide_eq_false_iff_not] at h_); omega) | (simp [mulSz, Cont.len, bne] at h_; done) | (simp [mulSz, Cont.len, bne] at h_; omega))); intro _; conv => whnf)
        | (refine ⟨0, (show _ = _ by omega), ?_⟩; conv => whnf))
      refine ⟨⟨[0, 1, 2, 3, 4], (0 : Nat), ?_, Nat.zero_le _⟩, ?_⟩
      · show stLe _ _ (st5b A A' B B' na ca nb cb d K most sz 0) _
        conv => whnf
        repeat' (first | exact True.intro | rfl | refine And.intro ?_ ?_)
        all_goals (conv => whnf)
        repeat' (first | exact True.intro | rfl | refine And.intro ?_ ?_)
        all_goals (try omega)
      · intro (t : Nat) (ht : t ≤ 2)
        show forceSt (st5b A A' B B' na ca nb cb d K most sz t) _
        conv => whnf
        refine tst_in (fun h2 => ?_) (fun h2' => ?_)
        · skip
          have h2 : t < 2 := by simp at h2; omega
          obtain ⟨s, hs, hsd⟩ : ∃ s : Int, [(sz : Int), 0 - (sz : Int)].getD (0 + (t : Int).toNat) 0 = s ∧ (t = 0 ∧ s = sz ∨ t = 1 ∧ s = 0 - (sz : Int)) := by
            rcases (show t = 0 ∨ t = 1 by omega) with h | h <;> subst h
            · exact ⟨_, rfl, .inl ⟨rfl, rfl⟩⟩
            · exact ⟨_, rfl, .inr ⟨rfl, rfl⟩⟩
          conv => whnf
          repeat (first
            | (refine And.intro ?_ ?_; (focus (first | omega | decide | exact Int.natCast_nonneg _ | ((repeat' refine And.intro ?_ ?_) <;> first | omega | exact Int.natCast_nonneg _ | (simp only [i64max]; omega) | (simp only [u8max]; omega) | (simp only [i64max, u8max, u16max, u32max, u64max]; omega) | (simp only [mulSz_eq, Cont.len, colsLen, Col.len, List.length_cons, List.length_nil, List.length_replicate, List.length_append]; done) | (simp only [mulSz_eq, Cont.len, colsLen, Col.len, List.length_cons, List.length_nil, List.length_replicate, List.length_append]; omega) | (simp [mulSz, Cont.len, bne]; done) | (simp [mulSz, Cont.len, bne]; omega)))); conv => whnf)
            | (refine tst_in ?_ ?_; (focus (intro h_; exfalso; first | omega | ((try simp only [decide_eq_true_eq, decide_eq_false_iff_not] at h_); omega) | (simp [mulSz, Cont.len, bne] at h_; done) | (simp [mulSz, Cont.len, bne] at h_; omega))); intro _; conv => whnf)
            | (refine tst_in ?_ ?_; rotate_left; (focus (intro h_; exfalso; first | omega | ((try simp only [decide_eq_true_eq, decide_eq_false_iff_not] at h_); omega) | (simp [mulSz, Cont.len, bne] at h_; done) | (simp [mulSz, Cont.len, bne] at h_; omega))); intro _; conv => whnf)
            | (refine ⟨0, (show _ = _ by omega), ?_⟩; conv => whnf))
          rw [hs]
          conv => whnf
          repeat (first
            | (refine And.intro ?_ ?_; (focus (first | omega | decide | exact Int.natCast_nonneg _ | ((repeat' refine And.intro ?_ ?_) <;> first | omega | exact Int.natCast_nonneg _ | (simp only [i64max]; omega) | (simp only [u8max]; omega) | (simp only [i64max, u8max, u16max, u32max, u64max]; omega) | (simp only [mulSz_eq, Cont.len, colsLen, Col.len, List.length_cons, List.length_nil, List.length_replicate, List.length_append]; done) | (simp only [mulSz_eq, Cont.len, colsLen, Col.len, List.length_cons, List.length_nil, List.length_replicate, List.length_append]; omega) | (simp [mulSz, Cont.len, bne]; done) | (simp [mulSz, Cont.len, bne]; omega)))); conv => whnf)
            | (refine tst_in ?_ ?_; (focus (intro h_; exfalso; first | omega | ((try simp only [decide_eq_true_eq, decide_eq_false_iff_not] at h_); omega) | (simp [mulSz, Cont.len, bne] at h_; done) | (simp [mulSz, Cont.len, bne] at h_; omega))); intro _; conv => whnf)
            | (refine tst_in ?_ ?_; rotate_left; (focus (intro h_; exfalso; first | omega | ((try simp only [decide_eq_true_eq, decide_eq_false_iff_not] at h_); omega) | (simp [mulSz, Cont.len, bne] at h_; done) | (simp [mulSz, Cont.len, bne] at h_; omega))); intro _; conv => whnf)
            | (refine ⟨0, (show _ = _ by omega), ?_⟩; conv => whnf))
          refine ⟨_, [2, 3, 0, 1], (AG s (by omega)), ?_⟩
          conv => whnf
          refine ⟨?_, ?_, ?_⟩
          · conv => whnf
            repeat' (first | exact True.intro | rfl | refine And.intro ?_ ?_ | omega)
            all_goals (conv => whnf)
            all_goals (try (first | rfl | omega | (simp; done)))
          · conv => whnf
            repeat' (first | exact True.intro | rfl | refine And.intro ?_ ?_ | omega)
            all_goals (conv => whnf)
            all_goals (try (first | rfl | omega | (simp; done)))
          conv => whnf
          refine ⟨?_, True.intro⟩
          intro _ _
          conv => whnf
          conv => whnf
          repeat (first
            | (refine And.intro ?_ ?_; (focus (first | omega | decide | exact Int.natCast_nonneg _ | ((repeat' refine And.intro ?_ ?_) <;> first | omega | exact Int.natCast_nonneg _ | (simp only [i64max]; omega) | (simp only [u8max]; omega) | (simp only [i64max, u8max, u16max, u32max, u64max]; omega) | (simp only [mulSz_eq, Cont.len, colsLen, Col.len, List.length_cons, List.length_nil, List.length_replicate, List.length_append]; done) | (simp only [mulSz_eq, Cont.len, colsLen, Col.len, List.length_cons, List.length_nil, List.length_replicate, List.length_append]; omega) | (simp [mulSz, Cont.len, bne]; done) | (simp [mulSz, Cont.len, bne]; omega)))); conv => whnf)
            | (refine tst_in ?_ ?_; (focus (intro h_; exfalso; first | omega | ((try simp only [decide_eq_true_eq, decide_eq_false_iff_not] at h_); omega) | (simp [mulSz, Cont.len, bne] at h_; done) | (simp [mulSz, Cont.len, bne] at h_; omega))); intro _; conv => whnf)
            | (refine tst_in ?_ ?_; rotate_left; (focus (intro h_; exfalso; first | omega | ((try simp only [decide_eq_true_eq, decide_eq_false_iff_not] at h_); omega) | (simp [mulSz, Cont.len, bne] at h_; done) | (simp [mulSz, Cont.len, bne] at h_; omega))); intro _; conv => whnf)
            | (refine ⟨0, (show _ = _ by omega), ?_⟩; conv => whnf))
          refine tst_in (fun h3 => ?_) (fun h3' => ?_)
          · skip
            have h3 : told K (seen d sz t) < told K (s = d) := of_decide_eq_true (by rw [dLt_eq] at h3; exact h3)
            have hsd2 : s = d := by
              apply Decidable.byContradiction
              intro h
              rw [told_neg h] at h3
              unfold told at h3; split at h3 <;> omega
            have hse : seen d sz (t + 1) := by unfold seen; omega
            conv => whnf
            repeat (first
              | (refine And.intro ?_ ?_; (focus (first | omega | decide | exact Int.natCast_nonneg _ | ((repeat' refine And.intro ?_ ?_) <;> first | omega | exact Int.natCast_nonneg _ | (simp only [i64max]; omega) | (simp only [u8max]; omega) | (simp only [i64max, u8max, u16max, u32max, u64max]; omega) | (simp only [mulSz_eq, Cont.len, colsLen, Col.len, List.length_cons, List.length_nil, List.length_replicate, List.length_append]; done) | (simp only [mulSz_eq, Cont.len, colsLen, Col.len, List.length_cons, List.length_nil, List.length_replicate, List.length_append]; omega) | (simp [mulSz, Cont.len, bne]; done) | (simp [mulSz, Cont.len, bne]; omega)))); conv => whnf)
              | (refine tst_in ?_ ?_; (focus (intro h_; exfalso; first | omega | ((try simp only [decide_eq_true_eq, decide_eq_false_iff_not] at h_); omega) | (simp [mulSz, Cont.len, bne] at h_; done) | (simp [mulSz, Cont.len, bne] at h_; omega))); intro _; conv => whnf)
              | (refine tst_in ?_ ?_; rotate_left; (focus (intro h_; exfalso; first | omega | ((try simp only [decide_eq_true_eq, decide_eq_false_iff_not] at h_); omega) | (simp [mulSz, Cont.len, bne] at h_; done) | (simp [mulSz, Cont.len, bne] at h_; omega))); intro _; conv => whnf)
              | (refine ⟨0, (show _ = _ by omega), ?_⟩; conv => whnf))
            refine ⟨[0, 1, 2, 3, 4], t + 1, ?_, (by show t + 1 ≤ 2; omega), (by show 2 - (t + 1) < 2 - t; omega)⟩
            show stLe _ _ (st5b A A' B B' na ca nb cb d K most sz (t + 1)) _
            conv => whnf
            repeat' (first | exact True.intro | rfl | refine And.intro ?_ ?_)
            all_goals (conv => whnf)
            repeat' (first | exact True.intro | rfl | refine And.intro ?_ ?_)
            all_goals (try omega)
            · show told d (seen d sz (t + 1)) = s
              rw [told_pos hse, hsd2]
            · show told K (seen d sz (t + 1)) = told K (s = d)
              rw [told_pos hse, told_pos hsd2]
          · skip
            have h3 : ¬ told K (seen d sz t) < told K (s = d) := of_decide_eq_false (by rw [dLt_eq] at h3'; exact h3')
            have hse : seen d sz (t + 1) ↔ seen d sz t := by
              by_cases h : s = d
              · rw [told_pos h] at h3
                have : seen d sz t := by
                  apply Decidable.byContradiction
                  intro hn
                  rw [told_neg hn] at h3; omega
                exact ⟨fun _ => this, fun _ => by unfold seen; omega⟩
              · unfold seen; omega
            conv => whnf
            repeat (first
              | (refine And.intro ?_ ?_; (focus (first | omega | decide | exact Int.natCast_nonneg _ | ((repeat' refine And.intro ?_ ?_) <;> first | omega | exact Int.natCast_nonneg _ | (simp only [i64max]; omega) | (simp only [u8max]; omega) | (simp only [i64max, u8max, u16max, u32max, u64max]; omega) | (simp only [mulSz_eq, Cont.len, colsLen, Col.len, List.length_cons, List.length_nil, List.length_replicate, List.length_append]; done) | (simp only [mulSz_eq, Cont.len, colsLen, Col.len, List.length_cons, List.length_nil, List.length_replicate, List.length_append]; omega) | (simp [mulSz, Cont.len, bne]; done) | (simp [mulSz, Cont.len, bne]; omega)))); conv => whnf)
              | (refine tst_in ?_ ?_; (focus (intro h_; exfalso; first | omega | ((try simp only [decide_eq_true_eq, decide_eq_false_iff_not] at h_); omega) | (simp [mulSz, Cont.len, bne] at h_; done) | (simp [mulSz, Cont.len, bne] at h_; omega))); intro _; conv => whnf)
              | (refine tst_in ?_ ?_; rotate_left; (focus (intro h_; exfalso; first | omega | ((try simp only [decide_eq_true_eq, decide_eq_false_iff_not] at h_); omega) | (simp [mulSz, Cont.len, bne] at h_; done) | (simp [mulSz, Cont.len, bne] at h_; omega))); intro _; conv => whnf)
              | (refine ⟨0, (show _ = _ by omega), ?_⟩; conv => whnf))
            refine ⟨[0, 1, 2, 3, 4], t + 1, ?_, (by show t + 1 ≤ 2; omega), (by show 2 - (t + 1) < 2 - t; omega)⟩
            show stLe _ _ (st5b A A' B B' na ca nb cb d K most sz (t + 1)) _
            conv => whnf
            repeat' (first | exact True.intro | rfl | refine And.intro ?_ ?_)
            all_goals (conv => whnf)
            repeat' (first | exact True.intro | rfl | refine And.intro ?_ ?_)
            all_goals (try omega)
            · exact told_same hse
            · exact told_same hse
        · skip
          have h2 : t = 2 := by simp at h2'; omega
          subst h2
          conv => whnf
          repeat (first
            | (refine And.intro ?_ ?_; (focus (first | omega | decide | exact Int.natCast_nonneg _ | ((repeat' refine And.intro ?_ ?_) <;> first | omega | exact Int.natCast_nonneg _ | (simp only [i64max]; omega) | (simp only [u8max]; omega) | (simp only [i64max, u8max, u16max, u32max, u64max]; omega) | (simp only [mulSz_eq, Cont.len, colsLen, Col.len, List.length_cons, List.length_nil, List.length_replicate, List.length_append]; done) | (simp only [mulSz_eq, Cont.len, colsLen, Col.len, List.length_cons, List.length_nil, List.length_replicate, List.length_append]; omega) | (simp [mulSz, Cont.len, bne]; done) | (simp [mulSz, Cont.len, bne]; omega)))); conv => whnf)
            | (refine tst_in ?_ ?_; (focus (intro h_; exfalso; first | omega | ((try simp only [decide_eq_true_eq, decide_eq_false_iff_not] at h_); omega) | (simp [mulSz, Cont.len, bne] at h_; done) | (simp [mulSz, Cont.len, bne] at h_; omega))); intro _; conv => whnf)
            | (refine tst_in ?_ ?_; rotate_left; (focus (intro h_; exfalso; first | omega | ((try simp only [decide_eq_true_eq, decide_eq_false_iff_not] at h_); omega) | (simp [mulSz, Cont.len, bne] at h_; done) | (simp [mulSz, Cont.len, bne] at h_; omega))); intro _; conv => whnf)
            | (refine ⟨0, (show _ = _ by omega), ?_⟩; conv => whnf))
          refine ⟨[0, 1, 2, 3], sz + 1, ?_, (by show 1 ≤ sz + 1 ∧ sz + 1 ≤ most + 1; omega), (by show most + 1 - (sz + 1) < most + 1 - sz; omega)⟩
          show stLe _ _ (st5 A A' B B' na ca nb cb d K most (sz + 1)) _
          conv => whnf
          repeat' (first | exact True.intro | rfl | refine And.intro ?_ ?_)
          all_goals (conv => whnf)
          repeat' (first | exact True.intro | rfl | refine And.intro ?_ ?_)
          all_goals (try omega)
          · exact told_same (by unfold seen; omega)
          · exact told_same (by unfold seen; omega)
    · skip
      have h1 : sz = most + 1 := by simp at h1'; omega
      subst h1
      conv => whnf
      repeat (first
        | (refine And.intro ?_ ?_; (focus (first | omega | decide | exact Int.natCast_nonneg _ | ((repeat' refine And.intro ?_ ?_) <;> first | omega | exact Int.natCast_nonneg _ | (simp only [i64max]; omega) | (simp only [u8max]; omega) | (simp only [i64max, u8max, u16max, u32max, u64max]; omega) | (simp only [mulSz_eq, Cont.len, colsLen, Col.len, List.length_cons, List.length_nil, List.length_replicate, List.length_append]; done) | (simp only [mulSz_eq, Cont.len, colsLen, Col.len, List.length_cons, List.length_nil, List.length_replicate, List.length_append]; omega) | (simp [mulSz, Cont.len, bne]; done) | (simp [mulSz, Cont.len, bne]; omega)))); conv => whnf)
        | (refine tst_in ?_ ?_; (focus (intro h_; exfalso; first | omega | ((try simp only [decide_eq_true_eq, decide_eq_false_iff_not] at h_); omega) | (simp [mulSz, Cont.len, bne] at h_; done) | (simp [mulSz, Cont.len, bne] at h_; omega))); intro _; conv => whnf)
        | (refine tst_in ?_ ?_; rotate_left; (focus (intro h_; exfalso; first | omega | ((try simp only [decide_eq_true_eq, decide_eq_false_iff_not] at h_); omega) | (simp [mulSz, Cont.len, bne] at h_; done) | (simp [mulSz, Cont.len, bne] at h_; omega))); intro _; conv => whnf)
        | (refine ⟨0, (show _ = _ by omega), ?_⟩; conv => whnf))
      refine .inl ⟨(), [0, 1], ?_⟩
      conv => whnf
      repeat' (first | exact True.intro | rfl | refine And.intro ?_ ?_)
      all_goals (conv => whnf)
      repeat' (first | exact True.intro | rfl | refine And.intro ?_ ?_)
      all_goals (try omega)
end Go.Proofs.Ytmboejfdjcafoaa

set_option linter.unusedVariables false
set_option linter.unusedSimpArgs false
namespace Go.Proofs.Ytmboejfdjcafoaa
open Go Go.Fw
/-- The row's numbers, by their bits. -/
def rF (i : Nat) : Nat × Nat := (floatOfInt .f64 i, 4607182418800017408)
def rG (_ : Nat) : Bool := false
theorem rF_eq {i j : Nat} (hi : i ≤ 1000) (hj : j ≤ 1000) : eqV (rF i) (rF j) = decide (i = j) := by
  have k1 := V_ofInt (i : Int) (by omega) (by omega)
  have k2 := V_ofInt (j : Int) (by omega) (by omega)
  unfold eqV rF
  show (D.order (floatOfInt .f64 i) (floatOfInt .f64 j) == some .eq && D.order 4607182418800017408 4607182418800017408 == some .eq) = _
  rw [V_eqb k1 k2, V_eqb V_one V_one]
  simp
  omega
theorem slF0 {α : Type} (z : α) (F : Nat → α) (b i : Nat) : slF z F 0 b i = if i < b then z else F (i - b) := by
  unfold slF
  rw [if_neg (by omega), Nat.zero_add]
theorem slip_1 (tA : List (Nat × Nat)) (tB : List Bool) (N r b far : Nat) (hA : tA.length = r) (hB : tB.length = r) (hN : 1 ≤ N ∧ N ≤ 100) (hb : b ≤ 89) (hf : far ≤ 199) :
    Fits Try.prog 5 ⟨[.slice 0 0 N (N + r), .slice 1 0 (N + b) (N + b), .int .i64 far], [rowS false (tb rF N ++ tA) (tb rG N ++ tB), rowS false (tb (slF (0, 0) rF 0 b) (N + b)) (tb (slF true rG 0 b) (N + b))], [slipOut b N far]⟩ := by
  refine Slip_f _ _ _ _ N (N + r) (N + b) (N + b) b N far (by simp [tab_len]) (by simp [tab_len]) (by simp [tab_len]) (by simp [tab_len]) (by omega) (by omega) (by omega) (by omega) (by omega) (by omega) ?_ (by omega) (by omega)
  intro i j hi hj
  rw [tab_app _ _ _ hi, tab_app _ _ _ hi, tab_get _ _ hj, tab_get _ _ hj]
  rw [slF0, slF0]
  by_cases h : j < b
  · rw [if_pos h, if_pos h]; simp; omega
  · rw [if_neg h, if_neg h, rF_eq (by omega) (by omega)]
    simp [rG]; omega
theorem slip_2 (tA : List (Nat × Nat)) (tB : List Bool) (N r b far : Nat) (hA : tA.length = r) (hB : tB.length = r) (hN : 1 ≤ N ∧ N ≤ 100) (hb : b ≤ 89) (hf : far ≤ 199) :
    Fits Try.prog 5 ⟨[.slice 0 0 (N + b) (N + b), .slice 1 0 N (N + r), .int .i64 far], [rowS false (tb (slF (0, 0) rF 0 b) (N + b)) (tb (slF true rG 0 b) (N + b)), rowS false (tb rF N ++ tA) (tb rG N ++ tB)], [slipOut (-(b : Int)) N far]⟩ := by
  refine Slip_f _ _ _ _ (N + b) (N + b) N (N + r) (-(b : Int)) N far (by simp [tab_len]) (by simp [tab_len]) (by simp [tab_len]) (by simp [tab_len]) (by omega) (by omega) (by omega) (by omega) (by omega) (by omega) ?_ (by omega) (by omega)
  intro i j hi hj
  rw [tab_app _ _ _ hj, tab_app _ _ _ hj, tab_get _ _ hi, tab_get _ _ hi]
  rw [slF0, slF0]
  by_cases h : i < b
  · rw [if_pos h, if_pos h]; simp; omega
  · rw [if_neg h, if_neg h, rF_eq (by omega) (by omega)]
    simp [rG]; omega
theorem slide_1 (tA : List (Nat × Nat)) (tB : List Bool) (N r p b : Nat) (hA : tA.length = r) (hB : tB.length = r) (hN : 1 ≤ N ∧ N ≤ 100) (hb : b ≤ 89) (hp : p ≤ N) :
    Fits Try.prog 4 ⟨[.slice 0 0 N (N + r), .int .i64 p, .int .i64 b], [rowS false (tb rF N ++ tA) (tb rG N ++ tB)], [slOut (slF (0, 0) rF p b) (slF true rG p b) (N + b)]⟩ :=
  Slide_f rF rG tA tB N r p b hA hB hp (by omega) (by omega)
theorem slide_2 (N p b : Nat) (hN : 1 ≤ N ∧ N ≤ 100) (hb : b ≤ 89) (hp : p ≤ N) :
    Fits Try.prog 4 ⟨[.slice 0 0 (N + b) (N + b), .int .i64 p, .int .i64 (0 - (b : Int))], [rowS false (tb (slF (0, 0) rF p b) (N + b)) (tb (slF true rG p b) (N + b))], [slOut rF rG N]⟩ := by
  by_cases h : b = 0
  · subst h
    have := Slide_f (slF (0, 0) rF p 0) (slF true rG p 0) [] [] N 0 p 0 rfl rfl hp (by omega) (by omega)
    rw [List.append_nil, List.append_nil] at this
    have e1 : tb (slF (0, 0) (slF (0, 0) rF p 0) p 0) (N + 0) = tb rF N := tab_congr fun i _ => by unfold slF; (repeat' split) <;> first | rfl | omega
    have e2 : tb (slF true (slF true rG p 0) p 0) (N + 0) = tb rG N := tab_congr fun i _ => by unfold slF; (repeat' split) <;> first | rfl | omega
    unfold slOut at *
    rw [e1, e2] at this
    exact this
  · have := Slide_n (slF (0, 0) rF p b) (slF true rG p b) [] [] (N + b) 0 p b rfl rfl (by omega) (by omega) (by omega) (by omega)
    rw [List.append_nil, List.append_nil] at this
    have e1 : tb (dropF (slF (0, 0) rF p b) p b) (N + b - b) = tb rF N := by
      rw [Nat.add_sub_cancel]
      exact tab_congr fun i _ => by unfold dropF slF; (repeat' split) <;> first | rfl | omega | (congr 1; omega)
    have e2 : tb (dropF (slF true rG p b) p b) (N + b - b) = tb rG N := by
      rw [Nat.add_sub_cancel]
      exact tab_congr fun i _ => by unfold dropF slF; (repeat' split) <;> first | rfl | omega | (congr 1; omega)
    unfold slOut at *
    rw [e1, e2, Nat.add_sub_cancel] at this
    rw [Int.zero_sub]
    exact this
end Go.Proofs.Ytmboejfdjcafoaa

set_option linter.unusedVariables false
set_option linter.unusedSimpArgs false
namespace Go.Proofs.Ytmboejfdjcafoaa
open Go Go.Fw
noncomputable def c3 : Code := (Try.f3.body).getD .skip
@[reducible] def foundA (n s p m : Int) : AV := .agg [.int .u8 n, .int .u8 s, .int .u8 p, .int .u16 m]
def lawSpec (n s p m : Int) : FSpec := ⟨[foundA n s p m], [], [⟨Unit, fun _ => True, fun _ => .bool true, fun _ => []⟩]⟩
def bx (n s p m : Int) : Seg := .seg true (.avs [.int .u8 n, .int .u8 s, .int .u8 p, .int .u16 m])
def st3 (n s p m : Int) (i r : Nat) (tA : List (Nat × Nat)) (tB : List Bool) : St :=
  ⟨slotsAt 226 [(1, .ptr 0 0), (3, .slice 1 0 i (i + r)), (4, .int .i64 i)], [bx n s p m, rowS true (tb rF i ++ tA) (tb rG i ++ tB)]⟩
def inv3 (n s p m : Int) (N : Nat) : LInv :=
  ⟨Nat × Nat × List (Nat × Nat) × List Bool, fun t => st3 n s p m t.1 t.2.1 t.2.2.1 t.2.2.2, fun t => t.1 ≤ N ∧ t.2.2.1.length = t.2.1 ∧ t.2.2.2.length = t.2.1, fun t => N - t.1⟩
def st21 (i r b P : Nat) (tA : List (Nat × Nat)) (tB : List Bool) (j : Nat) : St :=
  ⟨slotsAt 226 [(3, .slice 0 0 i (i + r)), (5, .int .i64 b), (15, .int .i64 P), (16, .slice 1 0 (i + b) (i + b)), (18, .slice 2 0 i i), (20, .int .i64 j)],
    [rowS true (tb rF i ++ tA) (tb rG i ++ tB), rowS true (tb (slF (0, 0) rF P b) (i + b)) (tb (slF true rG P b) (i + b)), rowS true (tb rF i) (tb rG i)]⟩
def st26 (i b P : Nat) (k : Nat) : St :=
  ⟨slotsAt 226 [(5, .int .i64 b), (15, .int .i64 P), (16, .slice 0 0 (i + b) (i + b)), (21, .int .i64 k)],
    [rowS true (tb (slF (0, 0) rF P b) (i + b)) (tb (slF true rG P b) (i + b))]⟩
def inv21 (N : Nat) : LInv :=
  ⟨Nat × Nat × Nat × List (Nat × Nat) × List Bool × Nat, fun t => st21 N t.1 t.2.1 t.2.2.1 t.2.2.2.1 t.2.2.2.2.1 t.2.2.2.2.2, fun t => t.2.2.2.2.2 ≤ N ∧ t.2.2.2.1.length = t.1 ∧ t.2.2.2.2.1.length = t.1 ∧ t.2.2.1 ≤ N ∧ t.2.1 ≤ 89, fun t => N - t.2.2.2.2.2⟩
def inv26 (N : Nat) : LInv :=
  ⟨Nat × Nat × Nat, fun t => st26 N t.1 t.2.1 t.2.2, fun t => t.2.2 ≤ t.1 ∧ t.2.1 ≤ N ∧ t.1 ≤ 89, fun t => t.1 - t.2.2⟩
theorem push_tb {α : Type} (F : Nat → α) (t t1 : List α) (i : Nat) (x : α) (hx : x = F i) : List.take i (List.drop 0 (tb F i ++ t)) ++ [x] ++ t1 = tb F (i + 1) ++ t1 := by
  rw [List.drop_zero, List.take_left' (tab_len F i), hx, tab_snoc]
set_option maxHeartbeats 0 in
set_option maxRecDepth 100000 in
theorem law_f (n s p m : Int) (wn : (Lit.int .u8 n).wf = true) (ws : (Lit.int .u8 s).wf = true) (wp : (Lit.int .u8 p).wf = true) (wm : (Lit.int .u16 m).wf = true) :
    Fits Try.prog 3 (lawSpec n s p m) := by
  have bn := bounds_u8 wn
  have bs := bounds_u8 ws
  have bp := bounds_u8 wp
  have bm := bounds_u16 wm
  obtain ⟨N, hN⟩ : ∃ N : Nat, (N : Int) = n % 100 + 1 := ⟨(n % 100 + 1).toNat, by omega⟩
  obtain ⟨b, hb⟩ : ∃ b : Nat, (b : Int) = s % 90 := ⟨(s % 90).toNat, by omega⟩
  obtain ⟨far, hf⟩ : ∃ f : Nat, (f : Int) = m % 200 := ⟨(m % 200).toNat, by omega⟩
  have e0 : ∀ x : Int, 0 ≤ x ∧ x ≤ 65535 → IntKind.i64.wrap x = x := fun x hx => wrap_i64 (by omega)
  have en := e0 n (by omega)
  have es := e0 s (by omega)
  have ep := e0 p (by omega)
  have em := e0 m (by omega)
  refine fits_of_body (C := cfgs 0) (c := c3) (ts := [2]) tokL mixedL (fun | 3 => some (inv3 n s p m N) | 21 => some (inv21 N) | 26 => some (inv26 N) | _ => none) (fun _ => none)
    Try.func3 (by kernel_rfl) (by kernel_rfl) (by kernel_rfl) (by kernel_rfl) rfl ?_
  conv => whnf
  repeat (first
    | (refine And.intro ?_ ?_; (focus (first | omega | decide | exact Int.natCast_nonneg _ | ((repeat' refine And.intro ?_ ?_) <;> first | omega | exact Int.natCast_nonneg _ | (simp only [i64max]; omega) | (simp only [u8max]; omega) | (simp only [i64max, u8max, u16max, u32max, u64max]; omega) | (simp only [mulSz_eq, Cont.len, colsLen, Col.len, List.length_cons, List.length_nil, List.length_replicate, List.length_append]; done) | (simp only [mulSz_eq, Cont.len, colsLen, Col.len, List.length_cons, List.length_nil, List.length_replicate, List.length_append]; omega) | (simp [mulSz, Cont.len, bne]; done) | (simp [mulSz, Cont.len, bne]; omega)))); conv => whnf)
    | (refine tst_in ?_ ?_; (focus (intro h_; exfalso; first | omega | ((try simp only [decide_eq_true_eq, decide_eq_false_iff_not] at h_); omega) | (simp [mulSz, Cont.len, bne] at h_; done) | (simp [mulSz, Cont.len, bne] at h_; omega))); intro _; conv => whnf)
    | (refine tst_in ?_ ?_; rotate_left; (focus (intro h_; exfalso; first | omega | ((try simp only [decide_eq_true_eq, decide_eq_false_iff_not] at h_); omega) | (simp [mulSz, Cont.len, bne] at h_; done) | (simp [mulSz, Cont.len, bne] at h_; omega))); intro _; conv => whnf)
    | (refine ⟨0, (show _ = _ by omega), ?_⟩; conv => whnf))
  refine ⟨⟨[0, 9], (0, 0, [], []), ?_, ⟨Nat.zero_le _, rfl, rfl⟩⟩, ?_⟩
  · show stLe _ _ (st3 n s p m 0 0 [] []) _
    conv => whnf
    repeat' (first | exact True.intro | rfl | refine And.intro ?_ ?_)
    all_goals (conv => whnf)
    repeat' (first | exact True.intro | rfl | refine And.intro ?_ ?_)
    all_goals (try omega)
  · intro ⟨i, r, tA, tB⟩ ⟨(hi : i ≤ N), (hA : tA.length = r), (hB : tB.length = r)⟩
    show forceSt (st3 n s p m i r tA tB) _
    conv => whnf
    rw [en]
    conv => whnf
    repeat (first
      | (refine And.intro ?_ ?_; (focus (first | omega | decide | exact Int.natCast_nonneg _ | ((repeat' refine And.intro ?_ ?_) <;> first | omega | exact Int.natCast_nonneg _ | (simp only [i64max]; omega) | (simp only [u8max]; omega) | (simp only [i64max, u8max, u16max, u32max, u64max]; omega) | (simp only [mulSz_eq, Cont.len, colsLen, Col.len, List.length_cons, List.length_nil, List.length_replicate, List.length_append]; done) | (simp only [mulSz_eq, Cont.len, colsLen, Col.len, List.length_cons, List.length_nil, List.length_replicate, List.length_append]; omega) | (simp [mulSz, Cont.len, bne]; done) | (simp [mulSz, Cont.len, bne]; omega)))); conv => whnf)
      | (refine tst_in ?_ ?_; (focus (intro h_; exfalso; first | omega | ((try simp only [decide_eq_true_eq, decide_eq_false_iff_not] at h_); omega) | (simp [mulSz, Cont.len, bne] at h_; done) | (simp [mulSz, Cont.len, bne] at h_; omega))); intro _; conv => whnf)
      | (refine tst_in ?_ ?_; rotate_left; (focus (intro h_; exfalso; first | omega | ((try simp only [decide_eq_true_eq, decide_eq_false_iff_not] at h_); omega) | (simp [mulSz, Cont.len, bne] at h_; done) | (simp [mulSz, Cont.len, bne] at h_; omega))); intro _; conv => whnf)
      | (refine ⟨0, (show _ = _ by omega), ?_⟩; conv => whnf))
    refine tst_in (fun h1 => ?_) (fun h1' => ?_)
    · skip
      have h1 : i < N := by simp at h1; omega
      conv => whnf
      repeat (first
        | (refine And.intro ?_ ?_; (focus (first | omega | decide | exact Int.natCast_nonneg _ | ((repeat' refine And.intro ?_ ?_) <;> first | omega | exact Int.natCast_nonneg _ | (simp only [i64max]; omega) | (simp only [u8max]; omega) | (simp only [i64max, u8max, u16max, u32max, u64max]; omega) | (simp only [mulSz_eq, Cont.len, colsLen, Col.len, List.length_cons, List.length_nil, List.length_replicate, List.length_append, tab_len, hA, hB, List.length_take, List.length_drop]; done) | (simp only [mulSz_eq, Cont.len, colsLen, Col.len, List.length_cons, List.length_nil, List.length_replicate, List.length_append, tab_len, hA, hB, List.length_take, List.length_drop]; omega) | (simp [mulSz, Cont.len, bne, tab_len, hA, hB, List.length_take, List.length_drop]; done) | (simp [mulSz, Cont.len, bne, tab_len, hA, hB, List.length_take, List.length_drop]; omega)))); conv => whnf)
        | (refine tst_in ?_ ?_; (focus (intro h_; exfalso; first | omega | ((try simp only [decide_eq_true_eq, decide_eq_false_iff_not] at h_); omega) | (simp [mulSz, Cont.len, bne, tab_len, hA, hB, List.length_take, List.length_drop] at h_; done) | (simp [mulSz, Cont.len, bne, tab_len, hA, hB, List.length_take, List.length_drop] at h_; omega))); intro _; conv => whnf)
        | (refine tst_in ?_ ?_; rotate_left; (focus (intro h_; exfalso; first | omega | ((try simp only [decide_eq_true_eq, decide_eq_false_iff_not] at h_); omega) | (simp [mulSz, Cont.len, bne, tab_len, hA, hB, List.length_take, List.length_drop] at h_; done) | (simp [mulSz, Cont.len, bne, tab_len, hA, hB, List.length_take, List.length_drop] at h_; omega))); intro _; conv => whnf)
        | (refine ⟨0, (show _ = _ by omega), ?_⟩; conv => whnf))
      intro r' t1 h1' t2 h2'
      conv => whnf
      repeat (first
        | (refine And.intro ?_ ?_; (focus (first | omega | decide | exact Int.natCast_nonneg _ | ((repeat' refine And.intro ?_ ?_) <;> first | omega | exact Int.natCast_nonneg _ | (simp only [i64max]; omega) | (simp only [u8max]; omega) | (simp only [i64max, u8max, u16max, u32max, u64max]; omega) | (simp only [mulSz_eq, Cont.len, colsLen, Col.len, List.length_cons, List.length_nil, List.length_replicate, List.length_append]; done) | (simp only [mulSz_eq, Cont.len, colsLen, Col.len, List.length_cons, List.length_nil, List.length_replicate, List.length_append]; omega) | (simp [mulSz, Cont.len, bne]; done) | (simp [mulSz, Cont.len, bne]; omega)))); conv => whnf)
        | (refine tst_in ?_ ?_; (focus (intro h_; exfalso; first | omega | ((try simp only [decide_eq_true_eq, decide_eq_false_iff_not] at h_); omega) | (simp [mulSz, Cont.len, bne] at h_; done) | (simp [mulSz, Cont.len, bne] at h_; omega))); intro _; conv => whnf)
        | (refine tst_in ?_ ?_; rotate_left; (focus (intro h_; exfalso; first | omega | ((try simp only [decide_eq_true_eq, decide_eq_false_iff_not] at h_); omega) | (simp [mulSz, Cont.len, bne] at h_; done) | (simp [mulSz, Cont.len, bne] at h_; omega))); intro _; conv => whnf)
        | (refine ⟨0, (show _ = _ by omega), ?_⟩; conv => whnf))
      refine ⟨[0, 3], (i + 1, r', t1, t2), ?_, ⟨(by show i + 1 ≤ N; omega), h1', h2'⟩, (by show N - (i + 1) < N - i; omega)⟩
      show stLe _ _ (st3 n s p m (i + 1) r' t1 t2) _
      conv => whnf
      repeat' (first | exact True.intro | rfl | refine And.intro ?_ ?_)
      all_goals (conv => whnf)
      repeat' (first | exact True.intro | rfl | refine And.intro ?_ ?_)
      all_goals (try omega)
      · exact (push_tb rF tA t1 i _ rfl).symm
      · exact (push_tb rG tB t2 i _ rfl).symm
    · skip
      have h1 : i = N := by simp at h1'; omega
      subst h1
      have hNN : 1 ≤ i ∧ i ≤ 100 := by omega
      have hb89 : b ≤ 89 := by omega
      have hf199 : far ≤ 199 := by omega
      conv => whnf
      repeat (first
        | (refine And.intro ?_ ?_; (focus (first | omega | decide | exact Int.natCast_nonneg _ | ((repeat' refine And.intro ?_ ?_) <;> first | omega | exact Int.natCast_nonneg _ | (simp only [i64max]; omega) | (simp only [u8max]; omega) | (simp only [i64max, u8max, u16max, u32max, u64max]; omega) | (simp only [mulSz_eq, Cont.len, colsLen, Col.len, List.length_cons, List.length_nil, List.length_replicate, List.length_append]; done) | (simp only [mulSz_eq, Cont.len, colsLen, Col.len, List.length_cons, List.length_nil, List.length_replicate, List.length_append]; omega) | (simp [mulSz, Cont.len, bne]; done) | (simp [mulSz, Cont.len, bne]; omega)))); conv => whnf)
        | (refine tst_in ?_ ?_; (focus (intro h_; exfalso; first | omega | ((try simp only [decide_eq_true_eq, decide_eq_false_iff_not] at h_); omega) | (simp [mulSz, Cont.len, bne] at h_; done) | (simp [mulSz, Cont.len, bne] at h_; omega))); intro _; conv => whnf)
        | (refine tst_in ?_ ?_; rotate_left; (focus (intro h_; exfalso; first | omega | ((try simp only [decide_eq_true_eq, decide_eq_false_iff_not] at h_); omega) | (simp [mulSz, Cont.len, bne] at h_; done) | (simp [mulSz, Cont.len, bne] at h_; omega))); intro _; conv => whnf)
        | (refine ⟨0, (show _ = _ by omega), ?_⟩; conv => whnf))
      rw [es, ← hb, em, ← hf]
      refine ⟨_, [1], (slide_1 tA tB i r 0 b hA hB hNN hb89 (Nat.zero_le _)), ?_⟩
      conv => whnf
      refine ⟨?_, ?_, ?_⟩
      · conv => whnf
        repeat' (first | exact True.intro | rfl | refine And.intro ?_ ?_ | omega)
        all_goals (conv => whnf)
        all_goals (try (first | rfl | omega | (simp; done)))
      · conv => whnf
        repeat' (first | exact True.intro | rfl | refine And.intro ?_ ?_ | omega)
        all_goals (conv => whnf)
        all_goals (try (first | rfl | omega | (simp; done)))
      conv => whnf
      refine ⟨?_, True.intro⟩
      intro _ _
      conv => whnf
      conv => whnf
      repeat (first
        | (refine And.intro ?_ ?_; (focus (first | omega | decide | exact Int.natCast_nonneg _ | ((repeat' refine And.intro ?_ ?_) <;> first | omega | exact Int.natCast_nonneg _ | (simp only [i64max]; omega) | (simp only [u8max]; omega) | (simp only [i64max, u8max, u16max, u32max, u64max]; omega) | (simp only [mulSz_eq, Cont.len, colsLen, Col.len, List.length_cons, List.length_nil, List.length_replicate, List.length_append]; done) | (simp only [mulSz_eq, Cont.len, colsLen, Col.len, List.length_cons, List.length_nil, List.length_replicate, List.length_append]; omega) | (simp [mulSz, Cont.len, bne]; done) | (simp [mulSz, Cont.len, bne]; omega)))); conv => whnf)
        | (refine tst_in ?_ ?_; (focus (intro h_; exfalso; first | omega | ((try simp only [decide_eq_true_eq, decide_eq_false_iff_not] at h_); omega) | (simp [mulSz, Cont.len, bne] at h_; done) | (simp [mulSz, Cont.len, bne] at h_; omega))); intro _; conv => whnf)
        | (refine tst_in ?_ ?_; rotate_left; (focus (intro h_; exfalso; first | omega | ((try simp only [decide_eq_true_eq, decide_eq_false_iff_not] at h_); omega) | (simp [mulSz, Cont.len, bne] at h_; done) | (simp [mulSz, Cont.len, bne] at h_; omega))); intro _; conv => whnf)
        | (refine ⟨0, (show _ = _ by omega), ?_⟩; conv => whnf))
      refine ⟨_, [1, 2], (slip_1 tA tB i r b far hA hB hNN hb89 hf199), ?_⟩
      conv => whnf
      refine ⟨?_, ?_, ?_⟩
      · conv => whnf
        repeat' (first | exact True.intro | rfl | refine And.intro ?_ ?_ | omega)
        all_goals (conv => whnf)
        all_goals (try (first | rfl | omega | (simp; done)))
      · conv => whnf
        repeat' (first | exact True.intro | rfl | refine And.intro ?_ ?_ | omega)
        all_goals (conv => whnf)
        all_goals (try (first | rfl | omega | (simp; done)))
      conv => whnf
      refine ⟨?_, True.intro⟩
      intro _ _
      conv => whnf
      conv => whnf
      repeat (first
        | (refine And.intro ?_ ?_; (focus (first | omega | decide | exact Int.natCast_nonneg _ | ((repeat' refine And.intro ?_ ?_) <;> first | omega | exact Int.natCast_nonneg _ | (simp only [i64max]; omega) | (simp only [u8max]; omega) | (simp only [i64max, u8max, u16max, u32max, u64max]; omega) | (simp only [mulSz_eq, Cont.len, colsLen, Col.len, List.length_cons, List.length_nil, List.length_replicate, List.length_append]; done) | (simp only [mulSz_eq, Cont.len, colsLen, Col.len, List.length_cons, List.length_nil, List.length_replicate, List.length_append]; omega) | (simp [mulSz, Cont.len, bne]; done) | (simp [mulSz, Cont.len, bne]; omega)))); conv => whnf)
        | (refine tst_in ?_ ?_; (focus (intro h_; exfalso; first | omega | ((try simp only [decide_eq_true_eq, decide_eq_false_iff_not] at h_); omega) | (simp [mulSz, Cont.len, bne] at h_; done) | (simp [mulSz, Cont.len, bne] at h_; omega))); intro _; conv => whnf)
        | (refine tst_in ?_ ?_; rotate_left; (focus (intro h_; exfalso; first | omega | ((try simp only [decide_eq_true_eq, decide_eq_false_iff_not] at h_); omega) | (simp [mulSz, Cont.len, bne] at h_; done) | (simp [mulSz, Cont.len, bne] at h_; omega))); intro _; conv => whnf)
        | (refine ⟨0, (show _ = _ by omega), ?_⟩; conv => whnf))
      refine ⟨_, [2, 1], (slip_2 tA tB i r b far hA hB hNN hb89 hf199), ?_⟩
      conv => whnf
      refine ⟨?_, ?_, ?_⟩
      · conv => whnf
        repeat' (first | exact True.intro | rfl | refine And.intro ?_ ?_ | omega)
        all_goals (conv => whnf)
        all_goals (try (first | rfl | omega | (simp; done)))
      · conv => whnf
        repeat' (first | exact True.intro | rfl | refine And.intro ?_ ?_ | omega)
        all_goals (conv => whnf)
        all_goals (try (first | rfl | omega | (simp; done)))
      conv => whnf
      refine ⟨?_, True.intro⟩
      intro _ _
      conv => whnf
      obtain ⟨v1, hv1⟩ : ∃ v, told (b : Int) (seen b (far + 1) 0) = v := ⟨_, rfl⟩
      obtain ⟨v2, hv2⟩ : ∃ v, told (i : Int) (seen b (far + 1) 0) = v := ⟨_, rfl⟩
      obtain ⟨v3, hv3⟩ : ∃ v, told (-(b : Int)) (seen (-(b : Int)) (far + 1) 0) = v := ⟨_, rfl⟩
      obtain ⟨v4, hv4⟩ : ∃ v, told (i : Int) (seen (-(b : Int)) (far + 1) 0) = v := ⟨_, rfl⟩
      have hv : (b ≤ far ∧ v1 = b ∧ v2 = i ∧ v3 = -(b : Int) ∧ v4 = i) ∨ (far < b ∧ v1 = 0 ∧ v2 = 0 ∧ v3 = 0 ∧ v4 = 0) := by
        by_cases h : b ≤ far
        · rw [told_pos (by unfold seen; omega)] at hv1 hv2 hv3 hv4; omega
        · rw [told_neg (by unfold seen; omega)] at hv1 hv2 hv3 hv4; omega
      rw [hv1, hv2, hv3, hv4]
      clear hv1 hv2 hv3 hv4
      obtain ⟨P, hP⟩ : ∃ P : Nat, (P : Int) = p % ((i : Int) + 1) := ⟨(p % ((i : Int) + 1)).toNat, by
        have := Int.emod_nonneg p (show (i : Int) + 1 ≠ 0 by omega); omega⟩
      have hPi : P ≤ i := by have := Int.emod_lt_of_pos p (show (0 : Int) < (i : Int) + 1 by omega); omega
      rcases hv with ⟨hv, rfl, rfl, rfl, rfl⟩ | ⟨hv, rfl, rfl, rfl, rfl⟩
      · conv => whnf
        repeat (first
          | (refine And.intro ?_ ?_; (focus (first | omega | decide | exact Int.natCast_nonneg _ | ((repeat' refine And.intro ?_ ?_) <;> first | omega | exact Int.natCast_nonneg _ | (simp only [i64max]; omega) | (simp only [u8max]; omega) | (simp only [i64max, u8max, u16max, u32max, u64max]; omega) | (simp only [mulSz_eq, Cont.len, colsLen, Col.len, List.length_cons, List.length_nil, List.length_replicate, List.length_append]; done) | (simp only [mulSz_eq, Cont.len, colsLen, Col.len, List.length_cons, List.length_nil, List.length_replicate, List.length_append]; omega) | (simp [mulSz, Cont.len, bne]; done) | (simp [mulSz, Cont.len, bne]; omega)))); conv => whnf)
          | (refine tst_in ?_ ?_; (focus (intro h_; exfalso; first | omega | ((try simp only [decide_eq_true_eq, decide_eq_false_iff_not] at h_); omega) | (simp [mulSz, Cont.len, bne] at h_; done) | (simp [mulSz, Cont.len, bne] at h_; omega))); intro _; conv => whnf)
          | (refine tst_in ?_ ?_; rotate_left; (focus (intro h_; exfalso; first | omega | ((try simp only [decide_eq_true_eq, decide_eq_false_iff_not] at h_); omega) | (simp [mulSz, Cont.len, bne] at h_; done) | (simp [mulSz, Cont.len, bne] at h_; omega))); intro _; conv => whnf)
          | (refine ⟨0, (show _ = _ by omega), ?_⟩; conv => whnf))
        rw [ep, ← hP]
        conv => whnf
        repeat (first
          | (refine And.intro ?_ ?_; (focus (first | omega | decide | exact Int.natCast_nonneg _ | ((repeat' refine And.intro ?_ ?_) <;> first | omega | exact Int.natCast_nonneg _ | (simp only [i64max]; omega) | (simp only [u8max]; omega) | (simp only [i64max, u8max, u16max, u32max, u64max]; omega) | (simp only [mulSz_eq, Cont.len, colsLen, Col.len, List.length_cons, List.length_nil, List.length_replicate, List.length_append]; done) | (simp only [mulSz_eq, Cont.len, colsLen, Col.len, List.length_cons, List.length_nil, List.length_replicate, List.length_append]; omega) | (simp [mulSz, Cont.len, bne]; done) | (simp [mulSz, Cont.len, bne]; omega)))); conv => whnf)
          | (refine tst_in ?_ ?_; (focus (intro h_; exfalso; first | omega | ((try simp only [decide_eq_true_eq, decide_eq_false_iff_not] at h_); omega) | (simp [mulSz, Cont.len, bne] at h_; done) | (simp [mulSz, Cont.len, bne] at h_; omega))); intro _; conv => whnf)
          | (refine tst_in ?_ ?_; rotate_left; (focus (intro h_; exfalso; first | omega | ((try simp only [decide_eq_true_eq, decide_eq_false_iff_not] at h_); omega) | (simp [mulSz, Cont.len, bne] at h_; done) | (simp [mulSz, Cont.len, bne] at h_; omega))); intro _; conv => whnf)
          | (refine ⟨0, (show _ = _ by omega), ?_⟩; conv => whnf))
        refine ⟨_, [1], (slide_1 tA tB i r P b hA hB hNN hb89 hPi), ?_⟩
        conv => whnf
        refine ⟨?_, ?_, ?_⟩
        · conv => whnf
          repeat' (first | exact True.intro | rfl | refine And.intro ?_ ?_ | omega)
          all_goals (conv => whnf)
          all_goals (try (first | rfl | omega | (simp; done)))
        · conv => whnf
          repeat' (first | exact True.intro | rfl | refine And.intro ?_ ?_ | omega)
          all_goals (conv => whnf)
          all_goals (try (first | rfl | omega | (simp; done)))
        conv => whnf
        refine ⟨?_, True.intro⟩
        intro _ _
        conv => whnf
        conv => whnf
        repeat (first
          | (refine And.intro ?_ ?_; (focus (first | omega | decide | exact Int.natCast_nonneg _ | ((repeat' refine And.intro ?_ ?_) <;> first | omega | exact Int.natCast_nonneg _ | (simp only [i64max]; omega) | (simp only [u8max]; omega) | (simp only [i64max, u8max, u16max, u32max, u64max]; omega) | (simp only [mulSz_eq, Cont.len, colsLen, Col.len, List.length_cons, List.length_nil, List.length_replicate, List.length_append]; done) | (simp only [mulSz_eq, Cont.len, colsLen, Col.len, List.length_cons, List.length_nil, List.length_replicate, List.length_append]; omega) | (simp [mulSz, Cont.len, bne]; done) | (simp [mulSz, Cont.len, bne]; omega)))); conv => whnf)
          | (refine tst_in ?_ ?_; (focus (intro h_; exfalso; first | omega | ((try simp only [decide_eq_true_eq, decide_eq_false_iff_not] at h_); omega) | (simp [mulSz, Cont.len, bne] at h_; done) | (simp [mulSz, Cont.len, bne] at h_; omega))); intro _; conv => whnf)
          | (refine tst_in ?_ ?_; rotate_left; (focus (intro h_; exfalso; first | omega | ((try simp only [decide_eq_true_eq, decide_eq_false_iff_not] at h_); omega) | (simp [mulSz, Cont.len, bne] at h_; done) | (simp [mulSz, Cont.len, bne] at h_; omega))); intro _; conv => whnf)
          | (refine ⟨0, (show _ = _ by omega), ?_⟩; conv => whnf))
        refine ⟨_, [3], (slide_2 i P b hNN hb89 hPi), ?_⟩
        conv => whnf
        refine ⟨?_, ?_, ?_⟩
        · conv => whnf
          repeat' (first | exact True.intro | rfl | refine And.intro ?_ ?_ | omega)
          all_goals (conv => whnf)
          all_goals (try (first | rfl | omega | (simp; done)))
        · conv => whnf
          repeat' (first | exact True.intro | rfl | refine And.intro ?_ ?_ | omega)
          all_goals (conv => whnf)
          all_goals (try (first | rfl | omega | (simp; done)))
        conv => whnf
        refine ⟨?_, True.intro⟩
        intro _ _
        conv => whnf
        conv => whnf
        repeat (first
          | (refine And.intro ?_ ?_; (focus (first | omega | decide | exact Int.natCast_nonneg _ | ((repeat' refine And.intro ?_ ?_) <;> first | omega | exact Int.natCast_nonneg _ | (simp only [i64max]; omega) | (simp only [u8max]; omega) | (simp only [i64max, u8max, u16max, u32max, u64max]; omega) | (simp only [mulSz_eq, Cont.len, colsLen, Col.len, List.length_cons, List.length_nil, List.length_replicate, List.length_append]; done) | (simp only [mulSz_eq, Cont.len, colsLen, Col.len, List.length_cons, List.length_nil, List.length_replicate, List.length_append]; omega) | (simp [mulSz, Cont.len, bne]; done) | (simp [mulSz, Cont.len, bne]; omega)))); conv => whnf)
          | (refine tst_in ?_ ?_; (focus (intro h_; exfalso; first | omega | ((try simp only [decide_eq_true_eq, decide_eq_false_iff_not] at h_); omega) | (simp [mulSz, Cont.len, bne] at h_; done) | (simp [mulSz, Cont.len, bne] at h_; omega))); intro _; conv => whnf)
          | (refine tst_in ?_ ?_; rotate_left; (focus (intro h_; exfalso; first | omega | ((try simp only [decide_eq_true_eq, decide_eq_false_iff_not] at h_); omega) | (simp [mulSz, Cont.len, bne] at h_; done) | (simp [mulSz, Cont.len, bne] at h_; omega))); intro _; conv => whnf)
          | (refine ⟨0, (show _ = _ by omega), ?_⟩; conv => whnf))
        refine ⟨⟨[1, 3, 4], (r, b, P, tA, tB, 0), ?_, ⟨Nat.zero_le _, hA, hB, hPi, hb89⟩⟩, ?_⟩
        · show stLe _ _ (st21 i r b P tA tB 0) _
          conv => whnf
          repeat' (first | exact True.intro | rfl | refine And.intro ?_ ?_)
          all_goals (conv => whnf)
          repeat' (first | exact True.intro | rfl | refine And.intro ?_ ?_)
          all_goals (try omega)
        · intro ⟨r, b, P, tA, tB, j⟩ ⟨(hj : j ≤ i), (hA : tA.length = r), (hB : tB.length = r), (hPi : P ≤ i), (hb89 : b ≤ 89)⟩
          show forceSt (st21 i r b P tA tB j) _
          conv => whnf
          refine tst_in (fun h2 => ?_) (fun h2' => ?_)
          · skip
            have h2 : j < i := by simp at h2; omega
            have q1 : (!(eqV ((tb rF i).getD j (0, 0)) ((tb rF i ++ tA).getD j (0, 0)))) = false := by
              rw [tab_get _ _ h2, tab_app _ _ _ h2, rF_eq (by omega) (by omega)]; simp
            have q2 : (tb rG i).getD j false = false := by rw [tab_get _ _ h2]; rfl
            conv => whnf
            repeat (first
              | (refine And.intro ?_ ?_; (focus (first | omega | decide | exact Int.natCast_nonneg _ | ((repeat' refine And.intro ?_ ?_) <;> first | omega | exact Int.natCast_nonneg _ | (simp only [i64max]; omega) | (simp only [u8max]; omega) | (simp only [i64max, u8max, u16max, u32max, u64max]; omega) | (simp only [mulSz_eq, Cont.len, colsLen, Col.len, List.length_cons, List.length_nil, List.length_replicate, List.length_append, tab_len, hA, hB]; done) | (simp only [mulSz_eq, Cont.len, colsLen, Col.len, List.length_cons, List.length_nil, List.length_replicate, List.length_append, tab_len, hA, hB]; omega) | (simp [mulSz, Cont.len, bne, tab_len, hA, hB]; done) | (simp [mulSz, Cont.len, bne, tab_len, hA, hB]; omega)))); conv => whnf)
              | (refine tst_in ?_ ?_; (focus (intro h_; exfalso; first | omega | ((try simp only [decide_eq_true_eq, decide_eq_false_iff_not] at h_); omega) | (simp [mulSz, Cont.len, bne, tab_len, hA, hB] at h_; done) | (simp [mulSz, Cont.len, bne, tab_len, hA, hB] at h_; omega))); intro _; conv => whnf)
              | (refine tst_in ?_ ?_; rotate_left; (focus (intro h_; exfalso; first | omega | ((try simp only [decide_eq_true_eq, decide_eq_false_iff_not] at h_); omega) | (simp [mulSz, Cont.len, bne, tab_len, hA, hB] at h_; done) | (simp [mulSz, Cont.len, bne, tab_len, hA, hB] at h_; omega))); intro _; conv => whnf)
              | (refine ⟨(j), (show _ = _ by omega), ?_⟩; conv => whnf)
              | (refine ⟨(j), 0, (show _ = _ by omega), ?_⟩; conv => whnf)
              | (refine ⟨(j), 1, (show _ = _ by omega), ?_⟩; conv => whnf)
              | (refine ⟨(j), 2, (show _ = _ by omega), ?_⟩; conv => whnf)
              | (refine ⟨0, (show _ = _ by omega), ?_⟩; conv => whnf))
            refine tst_in (fun h_ => absurd (h_.symm.trans q1) (by decide)) (fun _ => ?_)
            conv => whnf
            repeat (first
              | (refine And.intro ?_ ?_; (focus (first | omega | decide | exact Int.natCast_nonneg _ | ((repeat' refine And.intro ?_ ?_) <;> first | omega | exact Int.natCast_nonneg _ | (simp only [i64max]; omega) | (simp only [u8max]; omega) | (simp only [i64max, u8max, u16max, u32max, u64max]; omega) | (simp only [mulSz_eq, Cont.len, colsLen, Col.len, List.length_cons, List.length_nil, List.length_replicate, List.length_append, tab_len, hA, hB]; done) | (simp only [mulSz_eq, Cont.len, colsLen, Col.len, List.length_cons, List.length_nil, List.length_replicate, List.length_append, tab_len, hA, hB]; omega) | (simp [mulSz, Cont.len, bne, tab_len, hA, hB]; done) | (simp [mulSz, Cont.len, bne, tab_len, hA, hB]; omega)))); conv => whnf)
              | (refine tst_in ?_ ?_; (focus (intro h_; exfalso; first | omega | ((try simp only [decide_eq_true_eq, decide_eq_false_iff_not] at h_); omega) | (simp [mulSz, Cont.len, bne, tab_len, hA, hB] at h_; done) | (simp [mulSz, Cont.len, bne, tab_len, hA, hB] at h_; omega))); intro _; conv => whnf)
              | (refine tst_in ?_ ?_; rotate_left; (focus (intro h_; exfalso; first | omega | ((try simp only [decide_eq_true_eq, decide_eq_false_iff_not] at h_); omega) | (simp [mulSz, Cont.len, bne, tab_len, hA, hB] at h_; done) | (simp [mulSz, Cont.len, bne, tab_len, hA, hB] at h_; omega))); intro _; conv => whnf)
              | (refine ⟨(j), (show _ = _ by omega), ?_⟩; conv => whnf)
              | (refine ⟨(j), 0, (show _ = _ by omega), ?_⟩; conv => whnf)
              | (refine ⟨(j), 1, (show _ = _ by omega), ?_⟩; conv => whnf)
              | (refine ⟨(j), 2, (show _ = _ by omega), ?_⟩; conv => whnf)
              | (refine ⟨0, (show _ = _ by omega), ?_⟩; conv => whnf))
            refine tst_in (fun h_ => absurd (h_.symm.trans q2) (by decide)) (fun _ => ?_)
            conv => whnf
            repeat (first
              | (refine And.intro ?_ ?_; (focus (first | omega | decide | exact Int.natCast_nonneg _ | ((repeat' refine And.intro ?_ ?_) <;> first | omega | exact Int.natCast_nonneg _ | (simp only [i64max]; omega) | (simp only [u8max]; omega) | (simp only [i64max, u8max, u16max, u32max, u64max]; omega) | (simp only [mulSz_eq, Cont.len, colsLen, Col.len, List.length_cons, List.length_nil, List.length_replicate, List.length_append]; done) | (simp only [mulSz_eq, Cont.len, colsLen, Col.len, List.length_cons, List.length_nil, List.length_replicate, List.length_append]; omega) | (simp [mulSz, Cont.len, bne]; done) | (simp [mulSz, Cont.len, bne]; omega)))); conv => whnf)
              | (refine tst_in ?_ ?_; (focus (intro h_; exfalso; first | omega | ((try simp only [decide_eq_true_eq, decide_eq_false_iff_not] at h_); omega) | (simp [mulSz, Cont.len, bne] at h_; done) | (simp [mulSz, Cont.len, bne] at h_; omega))); intro _; conv => whnf)
              | (refine tst_in ?_ ?_; rotate_left; (focus (intro h_; exfalso; first | omega | ((try simp only [decide_eq_true_eq, decide_eq_false_iff_not] at h_); omega) | (simp [mulSz, Cont.len, bne] at h_; done) | (simp [mulSz, Cont.len, bne] at h_; omega))); intro _; conv => whnf)
              | (refine ⟨0, (show _ = _ by omega), ?_⟩; conv => whnf))
            refine ⟨[0, 1, 2], (r, b, P, tA, tB, j + 1), ?_, ⟨(by show j + 1 ≤ i; omega), hA, hB, hPi, hb89⟩, (by show i - (j + 1) < i - j; omega)⟩
            show stLe _ _ (st21 i r b P tA tB (j + 1)) _
            conv => whnf
            repeat' (first | exact True.intro | rfl | refine And.intro ?_ ?_)
            all_goals (conv => whnf)
            repeat' (first | exact True.intro | rfl | refine And.intro ?_ ?_)
            all_goals (try omega)
          · skip
            conv => whnf
            repeat (first
              | (refine And.intro ?_ ?_; (focus (first | omega | decide | exact Int.natCast_nonneg _ | ((repeat' refine And.intro ?_ ?_) <;> first | omega | exact Int.natCast_nonneg _ | (simp only [i64max]; omega) | (simp only [u8max]; omega) | (simp only [i64max, u8max, u16max, u32max, u64max]; omega) | (simp only [mulSz_eq, Cont.len, colsLen, Col.len, List.length_cons, List.length_nil, List.length_replicate, List.length_append]; done) | (simp only [mulSz_eq, Cont.len, colsLen, Col.len, List.length_cons, List.length_nil, List.length_replicate, List.length_append]; omega) | (simp [mulSz, Cont.len, bne]; done) | (simp [mulSz, Cont.len, bne]; omega)))); conv => whnf)
              | (refine tst_in ?_ ?_; (focus (intro h_; exfalso; first | omega | ((try simp only [decide_eq_true_eq, decide_eq_false_iff_not] at h_); omega) | (simp [mulSz, Cont.len, bne] at h_; done) | (simp [mulSz, Cont.len, bne] at h_; omega))); intro _; conv => whnf)
              | (refine tst_in ?_ ?_; rotate_left; (focus (intro h_; exfalso; first | omega | ((try simp only [decide_eq_true_eq, decide_eq_false_iff_not] at h_); omega) | (simp [mulSz, Cont.len, bne] at h_; done) | (simp [mulSz, Cont.len, bne] at h_; omega))); intro _; conv => whnf)
              | (refine ⟨0, (show _ = _ by omega), ?_⟩; conv => whnf))
            refine ⟨⟨[1], (b, P, 0), ?_, ⟨Nat.zero_le _, hPi, hb89⟩⟩, ?_⟩
            · show stLe _ _ (st26 i b P 0) _
              conv => whnf
              repeat' (first | exact True.intro | rfl | refine And.intro ?_ ?_)
              all_goals (conv => whnf)
              repeat' (first | exact True.intro | rfl | refine And.intro ?_ ?_)
              all_goals (try omega)
            · skip
              intro ⟨b, P, k⟩ ⟨(hk : k ≤ b), (hPi : P ≤ i), (hb89 : b ≤ 89)⟩
              show forceSt (st26 i b P k) _
              conv => whnf
              refine tst_in (fun h3 => ?_) (fun h3' => ?_)
              · skip
                have h3 : k < b := by simp at h3; omega
                have q1 : (!(tb (slF true rG P b) (i + b)).getD (P + k) false) = false := by
                  rw [tab_get _ _ (by omega)]; unfold slF; rw [if_neg (by omega), if_pos (by omega)]; rfl
                have q2 : (!(eqV ((tb (slF (0, 0) rF P b) (i + b)).getD (P + k) (0, 0)) (0, 0))) = false := by
                  rw [tab_get _ _ (by omega)]; unfold slF; rw [if_neg (by omega), if_pos (by omega)]; decide
                conv => whnf
                repeat (first
                  | (refine And.intro ?_ ?_; (focus (first | omega | decide | exact Int.natCast_nonneg _ | ((repeat' refine And.intro ?_ ?_) <;> first | omega | exact Int.natCast_nonneg _ | (simp only [i64max]; omega) | (simp only [u8max]; omega) | (simp only [i64max, u8max, u16max, u32max, u64max]; omega) | (simp only [mulSz_eq, Cont.len, colsLen, Col.len, List.length_cons, List.length_nil, List.length_replicate, List.length_append, tab_len]; done) | (simp only [mulSz_eq, Cont.len, colsLen, Col.len, List.length_cons, List.length_nil, List.length_replicate, List.length_append, tab_len]; omega) | (simp [mulSz, Cont.len, bne, tab_len]; done) | (simp [mulSz, Cont.len, bne, tab_len]; omega)))); conv => whnf)
                  | (refine tst_in ?_ ?_; (focus (intro h_; exfalso; first | omega | ((try simp only [decide_eq_true_eq, decide_eq_false_iff_not] at h_); omega) | (simp [mulSz, Cont.len, bne, tab_len] at h_; done) | (simp [mulSz, Cont.len, bne, tab_len] at h_; omega))); intro _; conv => whnf)
                  | (refine tst_in ?_ ?_; rotate_left; (focus (intro h_; exfalso; first | omega | ((try simp only [decide_eq_true_eq, decide_eq_false_iff_not] at h_); omega) | (simp [mulSz, Cont.len, bne, tab_len] at h_; done) | (simp [mulSz, Cont.len, bne, tab_len] at h_; omega))); intro _; conv => whnf)
                  | (refine ⟨(P+k), (show _ = _ by omega), ?_⟩; conv => whnf)
                  | (refine ⟨(P+k), 0, (show _ = _ by omega), ?_⟩; conv => whnf)
                  | (refine ⟨(P+k), 1, (show _ = _ by omega), ?_⟩; conv => whnf)
                  | (refine ⟨(P+k), 2, (show _ = _ by omega), ?_⟩; conv => whnf)
                  | (refine ⟨0, (show _ = _ by omega), ?_⟩; conv => whnf))
                refine tst_in (fun h_ => absurd (h_.symm.trans q1) (by decide)) (fun _ => ?_)
                conv => whnf
                repeat (first
                  | (refine And.intro ?_ ?_; (focus (first | omega | decide | exact Int.natCast_nonneg _ | ((repeat' refine And.intro ?_ ?_) <;> first | omega | exact Int.natCast_nonneg _ | (simp only [i64max]; omega) | (simp only [u8max]; omega) | (simp only [i64max, u8max, u16max, u32max, u64max]; omega) | (simp only [mulSz_eq, Cont.len, colsLen, Col.len, List.length_cons, List.length_nil, List.length_replicate, List.length_append, tab_len]; done) | (simp only [mulSz_eq, Cont.len, colsLen, Col.len, List.length_cons, List.length_nil, List.length_replicate, List.length_append, tab_len]; omega) | (simp [mulSz, Cont.len, bne, tab_len]; done) | (simp [mulSz, Cont.len, bne, tab_len]; omega)))); conv => whnf)
                  | (refine tst_in ?_ ?_; (focus (intro h_; exfalso; first | omega | ((try simp only [decide_eq_true_eq, decide_eq_false_iff_not] at h_); omega) | (simp [mulSz, Cont.len, bne, tab_len] at h_; done) | (simp [mulSz, Cont.len, bne, tab_len] at h_; omega))); intro _; conv => whnf)
                  | (refine tst_in ?_ ?_; rotate_left; (focus (intro h_; exfalso; first | omega | ((try simp only [decide_eq_true_eq, decide_eq_false_iff_not] at h_); omega) | (simp [mulSz, Cont.len, bne, tab_len] at h_; done) | (simp [mulSz, Cont.len, bne, tab_len] at h_; omega))); intro _; conv => whnf)
                  | (refine ⟨(P+k), (show _ = _ by omega), ?_⟩; conv => whnf)
                  | (refine ⟨(P+k), 0, (show _ = _ by omega), ?_⟩; conv => whnf)
                  | (refine ⟨(P+k), 1, (show _ = _ by omega), ?_⟩; conv => whnf)
                  | (refine ⟨(P+k), 2, (show _ = _ by omega), ?_⟩; conv => whnf)
                  | (refine ⟨0, (show _ = _ by omega), ?_⟩; conv => whnf))
                refine tst_in (fun h_ => absurd (h_.symm.trans q2) (by decide)) (fun _ => ?_)
                conv => whnf
                repeat (first
                  | (refine And.intro ?_ ?_; (focus (first | omega | decide | exact Int.natCast_nonneg _ | ((repeat' refine And.intro ?_ ?_) <;> first | omega | exact Int.natCast_nonneg _ | (simp only [i64max]; omega) | (simp only [u8max]; omega) | (simp only [i64max, u8max, u16max, u32max, u64max]; omega) | (simp only [mulSz_eq, Cont.len, colsLen, Col.len, List.length_cons, List.length_nil, List.length_replicate, List.length_append]; done) | (simp only [mulSz_eq, Cont.len, colsLen, Col.len, List.length_cons, List.length_nil, List.length_replicate, List.length_append]; omega) | (simp [mulSz, Cont.len, bne]; done) | (simp [mulSz, Cont.len, bne]; omega)))); conv => whnf)
                  | (refine tst_in ?_ ?_; (focus (intro h_; exfalso; first | omega | ((try simp only [decide_eq_true_eq, decide_eq_false_iff_not] at h_); omega) | (simp [mulSz, Cont.len, bne] at h_; done) | (simp [mulSz, Cont.len, bne] at h_; omega))); intro _; conv => whnf)
                  | (refine tst_in ?_ ?_; rotate_left; (focus (intro h_; exfalso; first | omega | ((try simp only [decide_eq_true_eq, decide_eq_false_iff_not] at h_); omega) | (simp [mulSz, Cont.len, bne] at h_; done) | (simp [mulSz, Cont.len, bne] at h_; omega))); intro _; conv => whnf)
                  | (refine ⟨0, (show _ = _ by omega), ?_⟩; conv => whnf))
                refine ⟨[0], (b, P, k + 1), ?_, ⟨(by show k + 1 ≤ b; omega), hPi, hb89⟩, (by show b - (k + 1) < b - k; omega)⟩
                show stLe _ _ (st26 i b P (k + 1)) _
                conv => whnf
                repeat' (first | exact True.intro | rfl | refine And.intro ?_ ?_)
                all_goals (conv => whnf)
                repeat' (first | exact True.intro | rfl | refine And.intro ?_ ?_)
                all_goals (try omega)
              · skip
                conv => whnf
                repeat (first
                  | (refine And.intro ?_ ?_; (focus (first | omega | decide | exact Int.natCast_nonneg _ | ((repeat' refine And.intro ?_ ?_) <;> first | omega | exact Int.natCast_nonneg _ | (simp only [i64max]; omega) | (simp only [u8max]; omega) | (simp only [i64max, u8max, u16max, u32max, u64max]; omega) | (simp only [mulSz_eq, Cont.len, colsLen, Col.len, List.length_cons, List.length_nil, List.length_replicate, List.length_append]; done) | (simp only [mulSz_eq, Cont.len, colsLen, Col.len, List.length_cons, List.length_nil, List.length_replicate, List.length_append]; omega) | (simp [mulSz, Cont.len, bne]; done) | (simp [mulSz, Cont.len, bne]; omega)))); conv => whnf)
                  | (refine tst_in ?_ ?_; (focus (intro h_; exfalso; first | omega | ((try simp only [decide_eq_true_eq, decide_eq_false_iff_not] at h_); omega) | (simp [mulSz, Cont.len, bne] at h_; done) | (simp [mulSz, Cont.len, bne] at h_; omega))); intro _; conv => whnf)
                  | (refine tst_in ?_ ?_; rotate_left; (focus (intro h_; exfalso; first | omega | ((try simp only [decide_eq_true_eq, decide_eq_false_iff_not] at h_); omega) | (simp [mulSz, Cont.len, bne] at h_; done) | (simp [mulSz, Cont.len, bne] at h_; omega))); intro _; conv => whnf)
                  | (refine ⟨0, (show _ = _ by omega), ?_⟩; conv => whnf))
                refine ⟨_, [], awake_f, ?_⟩
                conv => whnf
                refine ⟨?_, ?_, ?_⟩
                · conv => whnf
                  repeat' (first | exact True.intro | rfl | refine And.intro ?_ ?_ | omega)
                  all_goals (conv => whnf)
                  all_goals (try (first | rfl | omega | (simp; done)))
                · conv => whnf
                  repeat' (first | exact True.intro | rfl | refine And.intro ?_ ?_ | omega)
                  all_goals (conv => whnf)
                  all_goals (try (first | rfl | omega | (simp; done)))
                conv => whnf
                refine ⟨?_, True.intro⟩
                intro _ _
                conv => whnf
                conv => whnf
                repeat (first
                  | (refine And.intro ?_ ?_; (focus (first | omega | decide | exact Int.natCast_nonneg _ | ((repeat' refine And.intro ?_ ?_) <;> first | omega | exact Int.natCast_nonneg _ | (simp only [i64max]; omega) | (simp only [u8max]; omega) | (simp only [i64max, u8max, u16max, u32max, u64max]; omega) | (simp only [mulSz_eq, Cont.len, colsLen, Col.len, List.length_cons, List.length_nil, List.length_replicate, List.length_append]; done) | (simp only [mulSz_eq, Cont.len, colsLen, Col.len, List.length_cons, List.length_nil, List.length_replicate, List.length_append]; omega) | (simp [mulSz, Cont.len, bne]; done) | (simp [mulSz, Cont.len, bne]; omega)))); conv => whnf)
                  | (refine tst_in ?_ ?_; (focus (intro h_; exfalso; first | omega | ((try simp only [decide_eq_true_eq, decide_eq_false_iff_not] at h_); omega) | (simp [mulSz, Cont.len, bne] at h_; done) | (simp [mulSz, Cont.len, bne] at h_; omega))); intro _; conv => whnf)
                  | (refine tst_in ?_ ?_; rotate_left; (focus (intro h_; exfalso; first | omega | ((try simp only [decide_eq_true_eq, decide_eq_false_iff_not] at h_); omega) | (simp [mulSz, Cont.len, bne] at h_; done) | (simp [mulSz, Cont.len, bne] at h_; omega))); intro _; conv => whnf)
                  | (refine ⟨0, (show _ = _ by omega), ?_⟩; conv => whnf))
                refine .inl ⟨(), [], ?_⟩
                conv => whnf
                repeat' (first | exact True.intro | rfl | refine And.intro ?_ ?_)
                all_goals (conv => whnf)
                repeat' (first | exact True.intro | rfl | refine And.intro ?_ ?_)
                all_goals (try omega)
      · conv => whnf
        repeat (first
          | (refine And.intro ?_ ?_; (focus (first | omega | decide | exact Int.natCast_nonneg _ | ((repeat' refine And.intro ?_ ?_) <;> first | omega | exact Int.natCast_nonneg _ | (simp only [i64max]; omega) | (simp only [u8max]; omega) | (simp only [i64max, u8max, u16max, u32max, u64max]; omega) | (simp only [mulSz_eq, Cont.len, colsLen, Col.len, List.length_cons, List.length_nil, List.length_replicate, List.length_append]; done) | (simp only [mulSz_eq, Cont.len, colsLen, Col.len, List.length_cons, List.length_nil, List.length_replicate, List.length_append]; omega) | (simp [mulSz, Cont.len, bne]; done) | (simp [mulSz, Cont.len, bne]; omega)))); conv => whnf)
          | (refine tst_in ?_ ?_; (focus (intro h_; exfalso; first | omega | ((try simp only [decide_eq_true_eq, decide_eq_false_iff_not] at h_); omega) | (simp [mulSz, Cont.len, bne] at h_; done) | (simp [mulSz, Cont.len, bne] at h_; omega))); intro _; conv => whnf)
          | (refine tst_in ?_ ?_; rotate_left; (focus (intro h_; exfalso; first | omega | ((try simp only [decide_eq_true_eq, decide_eq_false_iff_not] at h_); omega) | (simp [mulSz, Cont.len, bne] at h_; done) | (simp [mulSz, Cont.len, bne] at h_; omega))); intro _; conv => whnf)
          | (refine ⟨0, (show _ = _ by omega), ?_⟩; conv => whnf))
        rw [ep, ← hP]
        conv => whnf
        repeat (first
          | (refine And.intro ?_ ?_; (focus (first | omega | decide | exact Int.natCast_nonneg _ | ((repeat' refine And.intro ?_ ?_) <;> first | omega | exact Int.natCast_nonneg _ | (simp only [i64max]; omega) | (simp only [u8max]; omega) | (simp only [i64max, u8max, u16max, u32max, u64max]; omega) | (simp only [mulSz_eq, Cont.len, colsLen, Col.len, List.length_cons, List.length_nil, List.length_replicate, List.length_append]; done) | (simp only [mulSz_eq, Cont.len, colsLen, Col.len, List.length_cons, List.length_nil, List.length_replicate, List.length_append]; omega) | (simp [mulSz, Cont.len, bne]; done) | (simp [mulSz, Cont.len, bne]; omega)))); conv => whnf)
          | (refine tst_in ?_ ?_; (focus (intro h_; exfalso; first | omega | ((try simp only [decide_eq_true_eq, decide_eq_false_iff_not] at h_); omega) | (simp [mulSz, Cont.len, bne] at h_; done) | (simp [mulSz, Cont.len, bne] at h_; omega))); intro _; conv => whnf)
          | (refine tst_in ?_ ?_; rotate_left; (focus (intro h_; exfalso; first | omega | ((try simp only [decide_eq_true_eq, decide_eq_false_iff_not] at h_); omega) | (simp [mulSz, Cont.len, bne] at h_; done) | (simp [mulSz, Cont.len, bne] at h_; omega))); intro _; conv => whnf)
          | (refine ⟨0, (show _ = _ by omega), ?_⟩; conv => whnf))
        refine ⟨_, [1], (slide_1 tA tB i r P b hA hB hNN hb89 hPi), ?_⟩
        conv => whnf
        refine ⟨?_, ?_, ?_⟩
        · conv => whnf
          repeat' (first | exact True.intro | rfl | refine And.intro ?_ ?_ | omega)
          all_goals (conv => whnf)
          all_goals (try (first | rfl | omega | (simp; done)))
        · conv => whnf
          repeat' (first | exact True.intro | rfl | refine And.intro ?_ ?_ | omega)
          all_goals (conv => whnf)
          all_goals (try (first | rfl | omega | (simp; done)))
        conv => whnf
        refine ⟨?_, True.intro⟩
        intro _ _
        conv => whnf
        conv => whnf
        repeat (first
          | (refine And.intro ?_ ?_; (focus (first | omega | decide | exact Int.natCast_nonneg _ | ((repeat' refine And.intro ?_ ?_) <;> first | omega | exact Int.natCast_nonneg _ | (simp only [i64max]; omega) | (simp only [u8max]; omega) | (simp only [i64max, u8max, u16max, u32max, u64max]; omega) | (simp only [mulSz_eq, Cont.len, colsLen, Col.len, List.length_cons, List.length_nil, List.length_replicate, List.length_append]; done) | (simp only [mulSz_eq, Cont.len, colsLen, Col.len, List.length_cons, List.length_nil, List.length_replicate, List.length_append]; omega) | (simp [mulSz, Cont.len, bne]; done) | (simp [mulSz, Cont.len, bne]; omega)))); conv => whnf)
          | (refine tst_in ?_ ?_; (focus (intro h_; exfalso; first | omega | ((try simp only [decide_eq_true_eq, decide_eq_false_iff_not] at h_); omega) | (simp [mulSz, Cont.len, bne] at h_; done) | (simp [mulSz, Cont.len, bne] at h_; omega))); intro _; conv => whnf)
          | (refine tst_in ?_ ?_; rotate_left; (focus (intro h_; exfalso; first | omega | ((try simp only [decide_eq_true_eq, decide_eq_false_iff_not] at h_); omega) | (simp [mulSz, Cont.len, bne] at h_; done) | (simp [mulSz, Cont.len, bne] at h_; omega))); intro _; conv => whnf)
          | (refine ⟨0, (show _ = _ by omega), ?_⟩; conv => whnf))
        refine ⟨_, [3], (slide_2 i P b hNN hb89 hPi), ?_⟩
        conv => whnf
        refine ⟨?_, ?_, ?_⟩
        · conv => whnf
          repeat' (first | exact True.intro | rfl | refine And.intro ?_ ?_ | omega)
          all_goals (conv => whnf)
          all_goals (try (first | rfl | omega | (simp; done)))
        · conv => whnf
          repeat' (first | exact True.intro | rfl | refine And.intro ?_ ?_ | omega)
          all_goals (conv => whnf)
          all_goals (try (first | rfl | omega | (simp; done)))
        conv => whnf
        refine ⟨?_, True.intro⟩
        intro _ _
        conv => whnf
        conv => whnf
        repeat (first
          | (refine And.intro ?_ ?_; (focus (first | omega | decide | exact Int.natCast_nonneg _ | ((repeat' refine And.intro ?_ ?_) <;> first | omega | exact Int.natCast_nonneg _ | (simp only [i64max]; omega) | (simp only [u8max]; omega) | (simp only [i64max, u8max, u16max, u32max, u64max]; omega) | (simp only [mulSz_eq, Cont.len, colsLen, Col.len, List.length_cons, List.length_nil, List.length_replicate, List.length_append]; done) | (simp only [mulSz_eq, Cont.len, colsLen, Col.len, List.length_cons, List.length_nil, List.length_replicate, List.length_append]; omega) | (simp [mulSz, Cont.len, bne]; done) | (simp [mulSz, Cont.len, bne]; omega)))); conv => whnf)
          | (refine tst_in ?_ ?_; (focus (intro h_; exfalso; first | omega | ((try simp only [decide_eq_true_eq, decide_eq_false_iff_not] at h_); omega) | (simp [mulSz, Cont.len, bne] at h_; done) | (simp [mulSz, Cont.len, bne] at h_; omega))); intro _; conv => whnf)
          | (refine tst_in ?_ ?_; rotate_left; (focus (intro h_; exfalso; first | omega | ((try simp only [decide_eq_true_eq, decide_eq_false_iff_not] at h_); omega) | (simp [mulSz, Cont.len, bne] at h_; done) | (simp [mulSz, Cont.len, bne] at h_; omega))); intro _; conv => whnf)
          | (refine ⟨0, (show _ = _ by omega), ?_⟩; conv => whnf))
        refine ⟨⟨[1, 3, 4], (r, b, P, tA, tB, 0), ?_, ⟨Nat.zero_le _, hA, hB, hPi, hb89⟩⟩, ?_⟩
        · show stLe _ _ (st21 i r b P tA tB 0) _
          conv => whnf
          repeat' (first | exact True.intro | rfl | refine And.intro ?_ ?_)
          all_goals (conv => whnf)
          repeat' (first | exact True.intro | rfl | refine And.intro ?_ ?_)
          all_goals (try omega)
        · intro ⟨r, b, P, tA, tB, j⟩ ⟨(hj : j ≤ i), (hA : tA.length = r), (hB : tB.length = r), (hPi : P ≤ i), (hb89 : b ≤ 89)⟩
          show forceSt (st21 i r b P tA tB j) _
          conv => whnf
          refine tst_in (fun h2 => ?_) (fun h2' => ?_)
          · skip
            have h2 : j < i := by simp at h2; omega
            have q1 : (!(eqV ((tb rF i).getD j (0, 0)) ((tb rF i ++ tA).getD j (0, 0)))) = false := by
              rw [tab_get _ _ h2, tab_app _ _ _ h2, rF_eq (by omega) (by omega)]; simp
            have q2 : (tb rG i).getD j false = false := by rw [tab_get _ _ h2]; rfl
            conv => whnf
            repeat (first
              | (refine And.intro ?_ ?_; (focus (first | omega | decide | exact Int.natCast_nonneg _ | ((repeat' refine And.intro ?_ ?_) <;> first | omega | exact Int.natCast_nonneg _ | (simp only [i64max]; omega) | (simp only [u8max]; omega) | (simp only [i64max, u8max, u16max, u32max, u64max]; omega) | (simp only [mulSz_eq, Cont.len, colsLen, Col.len, List.length_cons, List.length_nil, List.length_replicate, List.length_append, tab_len, hA, hB]; done) | (simp only [mulSz_eq, Cont.len, colsLen, Col.len, List.length_cons, List.length_nil, List.length_replicate, List.length_append, tab_len, hA, hB]; omega) | (simp [mulSz, Cont.len, bne, tab_len, hA, hB]; done) | (simp [mulSz, Cont.len, bne, tab_len, hA, hB]; omega)))); conv => whnf)
              | (refine tst_in ?_ ?_; (focus (intro h_; exfalso; first | omega | ((try simp only [decide_eq_true_eq, decide_eq_false_iff_not] at h_); omega) | (simp [mulSz, Cont.len, bne, tab_len, hA, hB] at h_; done) | (simp [mulSz, Cont.len, bne, tab_len, hA, hB] at h_; omega))); intro _; conv => whnf)
              | (refine tst_in ?_ ?_; rotate_left; (focus (intro h_; exfalso; first | omega | ((try simp only [decide_eq_true_eq, decide_eq_false_iff_not] at h_); omega) | (simp [mulSz, Cont.len, bne, tab_len, hA, hB] at h_; done) | (simp [mulSz, Cont.len, bne, tab_len, hA, hB] at h_; omega))); intro _; conv => whnf)
              | (refine ⟨(j), (show _ = _ by omega), ?_⟩; conv => whnf)
              | (refine ⟨(j), 0, (show _ = _ by omega), ?_⟩; conv => whnf)
              | (refine ⟨(j), 1, (show _ = _ by omega), ?_⟩; conv => whnf)
              | (refine ⟨(j), 2, (show _ = _ by omega), ?_⟩; conv => whnf)
              | (refine ⟨0, (show _ = _ by omega), ?_⟩; conv => whnf))
            refine tst_in (fun h_ => absurd (h_.symm.trans q1) (by decide)) (fun _ => ?_)
            conv => whnf
            repeat (first
              | (refine And.intro ?_ ?_; (focus (first | omega | decide | exact Int.natCast_nonneg _ | ((repeat' refine And.intro ?_ ?_) <;> first | omega | exact Int.natCast_nonneg _ | (simp only [i64max]; omega) | (simp only [u8max]; omega) | (simp only [i64max, u8max, u16max, u32max, u64max]; omega) | (simp only [mulSz_eq, Cont.len, colsLen, Col.len, List.length_cons, List.length_nil, List.length_replicate, List.length_append, tab_len, hA, hB]; done) | (simp only [mulSz_eq, Cont.len, colsLen, Col.len, List.length_cons, List.length_nil, List.length_replicate, List.length_append, tab_len, hA, hB]; omega) | (simp [mulSz, Cont.len, bne, tab_len, hA, hB]; done) | (simp [mulSz, Cont.len, bne, tab_len, hA, hB]; omega)))); conv => whnf)
              | (refine tst_in ?_ ?_; (focus (intro h_; exfalso; first | omega | ((try simp only [decide_eq_true_eq, decide_eq_false_iff_not] at h_); omega) | (simp [mulSz, Cont.len, bne, tab_len, hA, hB] at h_; done) | (simp [mulSz, Cont.len, bne, tab_len, hA, hB] at h_; omega))); intro _; conv => whnf)
              | (refine tst_in ?_ ?_; rotate_left; (focus (intro h_; exfalso; first | omega | ((try simp only [decide_eq_true_eq, decide_eq_false_iff_not] at h_); omega) | (simp [mulSz, Cont.len, bne, tab_len, hA, hB] at h_; done) | (simp [mulSz, Cont.len, bne, tab_len, hA, hB] at h_; omega))); intro _; conv => whnf)
              | (refine ⟨(j), (show _ = _ by omega), ?_⟩; conv => whnf)
              | (refine ⟨(j), 0, (show _ = _ by omega), ?_⟩; conv => whnf)
              | (refine ⟨(j), 1, (show _ = _ by omega), ?_⟩; conv => whnf)
              | (refine ⟨(j), 2, (show _ = _ by omega), ?_⟩; conv => whnf)
              | (refine ⟨0, (show _ = _ by omega), ?_⟩; conv => whnf))
            refine tst_in (fun h_ => absurd (h_.symm.trans q2) (by decide)) (fun _ => ?_)
            conv => whnf
            repeat (first
              | (refine And.intro ?_ ?_; (focus (first | omega | decide | exact Int.natCast_nonneg _ | ((repeat' refine And.intro ?_ ?_) <;> first | omega | exact Int.natCast_nonneg _ | (simp only [i64max]; omega) | (simp only [u8max]; omega) | (simp only [i64max, u8max, u16max, u32max, u64max]; omega) | (simp only [mulSz_eq, Cont.len, colsLen, Col.len, List.length_cons, List.length_nil, List.length_replicate, List.length_append]; done) | (simp only [mulSz_eq, Cont.len, colsLen, Col.len, List.length_cons, List.length_nil, List.length_replicate, List.length_append]; omega) | (simp [mulSz, Cont.len, bne]; done) | (simp [mulSz, Cont.len, bne]; omega)))); conv => whnf)
              | (refine tst_in ?_ ?_; (focus (intro h_; exfalso; first | omega | ((try simp only [decide_eq_true_eq, decide_eq_false_iff_not] at h_); omega) | (simp [mulSz, Cont.len, bne] at h_; done) | (simp [mulSz, Cont.len, bne] at h_; omega))); intro _; conv => whnf)
              | (refine tst_in ?_ ?_; rotate_left; (focus (intro h_; exfalso; first | omega | ((try simp only [decide_eq_true_eq, decide_eq_false_iff_not] at h_); omega) | (simp [mulSz, Cont.len, bne] at h_; done) | (simp [mulSz, Cont.len, bne] at h_; omega))); intro _; conv => whnf)
              | (refine ⟨0, (show _ = _ by omega), ?_⟩; conv => whnf))
            refine ⟨[0, 1, 2], (r, b, P, tA, tB, j + 1), ?_, ⟨(by show j + 1 ≤ i; omega), hA, hB, hPi, hb89⟩, (by show i - (j + 1) < i - j; omega)⟩
            show stLe _ _ (st21 i r b P tA tB (j + 1)) _
            conv => whnf
            repeat' (first | exact True.intro | rfl | refine And.intro ?_ ?_)
            all_goals (conv => whnf)
            repeat' (first | exact True.intro | rfl | refine And.intro ?_ ?_)
            all_goals (try omega)
          · skip
            conv => whnf
            repeat (first
              | (refine And.intro ?_ ?_; (focus (first | omega | decide | exact Int.natCast_nonneg _ | ((repeat' refine And.intro ?_ ?_) <;> first | omega | exact Int.natCast_nonneg _ | (simp only [i64max]; omega) | (simp only [u8max]; omega) | (simp only [i64max, u8max, u16max, u32max, u64max]; omega) | (simp only [mulSz_eq, Cont.len, colsLen, Col.len, List.length_cons, List.length_nil, List.length_replicate, List.length_append]; done) | (simp only [mulSz_eq, Cont.len, colsLen, Col.len, List.length_cons, List.length_nil, List.length_replicate, List.length_append]; omega) | (simp [mulSz, Cont.len, bne]; done) | (simp [mulSz, Cont.len, bne]; omega)))); conv => whnf)
              | (refine tst_in ?_ ?_; (focus (intro h_; exfalso; first | omega | ((try simp only [decide_eq_true_eq, decide_eq_false_iff_not] at h_); omega) | (simp [mulSz, Cont.len, bne] at h_; done) | (simp [mulSz, Cont.len, bne] at h_; omega))); intro _; conv => whnf)
              | (refine tst_in ?_ ?_; rotate_left; (focus (intro h_; exfalso; first | omega | ((try simp only [decide_eq_true_eq, decide_eq_false_iff_not] at h_); omega) | (simp [mulSz, Cont.len, bne] at h_; done) | (simp [mulSz, Cont.len, bne] at h_; omega))); intro _; conv => whnf)
              | (refine ⟨0, (show _ = _ by omega), ?_⟩; conv => whnf))
            refine ⟨⟨[1], (b, P, 0), ?_, ⟨Nat.zero_le _, hPi, hb89⟩⟩, ?_⟩
            · show stLe _ _ (st26 i b P 0) _
              conv => whnf
              repeat' (first | exact True.intro | rfl | refine And.intro ?_ ?_)
              all_goals (conv => whnf)
              repeat' (first | exact True.intro | rfl | refine And.intro ?_ ?_)
              all_goals (try omega)
            · skip
              intro ⟨b, P, k⟩ ⟨(hk : k ≤ b), (hPi : P ≤ i), (hb89 : b ≤ 89)⟩
              show forceSt (st26 i b P k) _
              conv => whnf
              refine tst_in (fun h3 => ?_) (fun h3' => ?_)
              · skip
                have h3 : k < b := by simp at h3; omega
                have q1 : (!(tb (slF true rG P b) (i + b)).getD (P + k) false) = false := by
                  rw [tab_get _ _ (by omega)]; unfold slF; rw [if_neg (by omega), if_pos (by omega)]; rfl
                have q2 : (!(eqV ((tb (slF (0, 0) rF P b) (i + b)).getD (P + k) (0, 0)) (0, 0))) = false := by
                  rw [tab_get _ _ (by omega)]; unfold slF; rw [if_neg (by omega), if_pos (by omega)]; decide
                conv => whnf
                repeat (first
                  | (refine And.intro ?_ ?_; (focus (first | omega | decide | exact Int.natCast_nonneg _ | ((repeat' refine And.intro ?_ ?_) <;> first | omega | exact Int.natCast_nonneg _ | (simp only [i64max]; omega) | (simp only [u8max]; omega) | (simp only [i64max, u8max, u16max, u32max, u64max]; omega) | (simp only [mulSz_eq, Cont.len, colsLen, Col.len, List.length_cons, List.length_nil, List.length_replicate, List.length_append, tab_len]; done) | (simp only [mulSz_eq, Cont.len, colsLen, Col.len, List.length_cons, List.length_nil, List.length_replicate, List.length_append, tab_len]; omega) | (simp [mulSz, Cont.len, bne, tab_len]; done) | (simp [mulSz, Cont.len, bne, tab_len]; omega)))); conv => whnf)
                  | (refine tst_in ?_ ?_; (focus (intro h_; exfalso; first | omega | ((try simp only [decide_eq_true_eq, decide_eq_false_iff_not] at h_); omega) | (simp [mulSz, Cont.len, bne, tab_len] at h_; done) | (simp [mulSz, Cont.len, bne, tab_len] at h_; omega))); intro _; conv => whnf)
                  | (refine tst_in ?_ ?_; rotate_left; (focus (intro h_; exfalso; first | omega | ((try simp only [decide_eq_true_eq, decide_eq_false_iff_not] at h_); omega) | (simp [mulSz, Cont.len, bne, tab_len] at h_; done) | (simp [mulSz, Cont.len, bne, tab_len] at h_; omega))); intro _; conv => whnf)
                  | (refine ⟨(P+k), (show _ = _ by omega), ?_⟩; conv => whnf)
                  | (refine ⟨(P+k), 0, (show _ = _ by omega), ?_⟩; conv => whnf)
                  | (refine ⟨(P+k), 1, (show _ = _ by omega), ?_⟩; conv => whnf)
                  | (refine ⟨(P+k), 2, (show _ = _ by omega), ?_⟩; conv => whnf)
                  | (refine ⟨0, (show _ = _ by omega), ?_⟩; conv => whnf))
                refine tst_in (fun h_ => absurd (h_.symm.trans q1) (by decide)) (fun _ => ?_)
                conv => whnf
                repeat (first
                  | (refine And.intro ?_ ?_; (focus (first | omega | decide | exact Int.natCast_nonneg _ | ((repeat' refine And.intro ?_ ?_) <;> first | omega | exact Int.natCast_nonneg _ | (simp only [i64max]; omega) | (simp only [u8max]; omega) | (simp only [i64max, u8max, u16max, u32max, u64max]; omega) | (simp only [mulSz_eq, Cont.len, colsLen, Col.len, List.length_cons, List.length_nil, List.length_replicate, List.length_append, tab_len]; done) | (simp only [mulSz_eq, Cont.len, colsLen, Col.len, List.length_cons, List.length_nil, List.length_replicate, List.length_append, tab_len]; omega) | (simp [mulSz, Cont.len, bne, tab_len]; done) | (simp [mulSz, Cont.len, bne, tab_len]; omega)))); conv => whnf)
                  | (refine tst_in ?_ ?_; (focus (intro h_; exfalso; first | omega | ((try simp only [decide_eq_true_eq, decide_eq_false_iff_not] at h_); omega) | (simp [mulSz, Cont.len, bne, tab_len] at h_; done) | (simp [mulSz, Cont.len, bne, tab_len] at h_; omega))); intro _; conv => whnf)
                  | (refine tst_in ?_ ?_; rotate_left; (focus (intro h_; exfalso; first | omega | ((try simp only [decide_eq_true_eq, decide_eq_false_iff_not] at h_); omega) | (simp [mulSz, Cont.len, bne, tab_len] at h_; done) | (simp [mulSz, Cont.len, bne, tab_len] at h_; omega))); intro _; conv => whnf)
                  | (refine ⟨(P+k), (show _ = _ by omega), ?_⟩; conv => whnf)
                  | (refine ⟨(P+k), 0, (show _ = _ by omega), ?_⟩; conv => whnf)
                  | (refine ⟨(P+k), 1, (show _ = _ by omega), ?_⟩; conv => whnf)
                  | (refine ⟨(P+k), 2, (show _ = _ by omega), ?_⟩; conv => whnf)
                  | (refine ⟨0, (show _ = _ by omega), ?_⟩; conv => whnf))
                refine tst_in (fun h_ => absurd (h_.symm.trans q2) (by decide)) (fun _ => ?_)
                conv => whnf
                repeat (first
                  | (refine And.intro ?_ ?_; (focus (first | omega | decide | exact Int.natCast_nonneg _ | ((repeat' refine And.intro ?_ ?_) <;> first | omega | exact Int.natCast_nonneg _ | (simp only [i64max]; omega) | (simp only [u8max]; omega) | (simp only [i64max, u8max, u16max, u32max, u64max]; omega) | (simp only [mulSz_eq, Cont.len, colsLen, Col.len, List.length_cons, List.length_nil, List.length_replicate, List.length_append]; done) | (simp only [mulSz_eq, Cont.len, colsLen, Col.len, List.length_cons, List.length_nil, List.length_replicate, List.length_append]; omega) | (simp [mulSz, Cont.len, bne]; done) | (simp [mulSz, Cont.len, bne]; omega)))); conv => whnf)
                  | (refine tst_in ?_ ?_; (focus (intro h_; exfalso; first | omega | ((try simp only [decide_eq_true_eq, decide_eq_false_iff_not] at h_); omega) | (simp [mulSz, Cont.len, bne] at h_; done) | (simp [mulSz, Cont.len, bne] at h_; omega))); intro _; conv => whnf)
                  | (refine tst_in ?_ ?_; rotate_left; (focus (intro h_; exfalso; first | omega | ((try simp only [decide_eq_true_eq, decide_eq_false_iff_not] at h_); omega) | (simp [mulSz, Cont.len, bne] at h_; done) | (simp [mulSz, Cont.len, bne] at h_; omega))); intro _; conv => whnf)
                  | (refine ⟨0, (show _ = _ by omega), ?_⟩; conv => whnf))
                refine ⟨[0], (b, P, k + 1), ?_, ⟨(by show k + 1 ≤ b; omega), hPi, hb89⟩, (by show b - (k + 1) < b - k; omega)⟩
                show stLe _ _ (st26 i b P (k + 1)) _
                conv => whnf
                repeat' (first | exact True.intro | rfl | refine And.intro ?_ ?_)
                all_goals (conv => whnf)
                repeat' (first | exact True.intro | rfl | refine And.intro ?_ ?_)
                all_goals (try omega)
              · skip
                conv => whnf
                repeat (first
                  | (refine And.intro ?_ ?_; (focus (first | omega | decide | exact Int.natCast_nonneg _ | ((repeat' refine And.intro ?_ ?_) <;> first | omega | exact Int.natCast_nonneg _ | (simp only [i64max]; omega) | (simp only [u8max]; omega) | (simp only [i64max, u8max, u16max, u32max, u64max]; omega) | (simp only [mulSz_eq, Cont.len, colsLen, Col.len, List.length_cons, List.length_nil, List.length_replicate, List.length_append]; done) | (simp only [mulSz_eq, Cont.len, colsLen, Col.len, List.length_cons, List.length_nil, List.length_replicate, List.length_append]; omega) | (simp [mulSz, Cont.len, bne]; done) | (simp [mulSz, Cont.len, bne]; omega)))); conv => whnf)
                  | (refine tst_in ?_ ?_; (focus (intro h_; exfalso; first | omega | ((try simp only [decide_eq_true_eq, decide_eq_false_iff_not] at h_); omega) | (simp [mulSz, Cont.len, bne] at h_; done) | (simp [mulSz, Cont.len, bne] at h_; omega))); intro _; conv => whnf)
                  | (refine tst_in ?_ ?_; rotate_left; (focus (intro h_; exfalso; first | omega | ((try simp only [decide_eq_true_eq, decide_eq_false_iff_not] at h_); omega) | (simp [mulSz, Cont.len, bne] at h_; done) | (simp [mulSz, Cont.len, bne] at h_; omega))); intro _; conv => whnf)
                  | (refine ⟨0, (show _ = _ by omega), ?_⟩; conv => whnf))
                refine ⟨_, [], awake_f, ?_⟩
                conv => whnf
                refine ⟨?_, ?_, ?_⟩
                · conv => whnf
                  repeat' (first | exact True.intro | rfl | refine And.intro ?_ ?_ | omega)
                  all_goals (conv => whnf)
                  all_goals (try (first | rfl | omega | (simp; done)))
                · conv => whnf
                  repeat' (first | exact True.intro | rfl | refine And.intro ?_ ?_ | omega)
                  all_goals (conv => whnf)
                  all_goals (try (first | rfl | omega | (simp; done)))
                conv => whnf
                refine ⟨?_, True.intro⟩
                intro _ _
                conv => whnf
                conv => whnf
                repeat (first
                  | (refine And.intro ?_ ?_; (focus (first | omega | decide | exact Int.natCast_nonneg _ | ((repeat' refine And.intro ?_ ?_) <;> first | omega | exact Int.natCast_nonneg _ | (simp only [i64max]; omega) | (simp only [u8max]; omega) | (simp only [i64max, u8max, u16max, u32max, u64max]; omega) | (simp only [mulSz_eq, Cont.len, colsLen, Col.len, List.length_cons, List.length_nil, List.length_replicate, List.length_append]; done) | (simp only [mulSz_eq, Cont.len, colsLen, Col.len, List.length_cons, List.length_nil, List.length_replicate, List.length_append]; omega) | (simp [mulSz, Cont.len, bne]; done) | (simp [mulSz, Cont.len, bne]; omega)))); conv => whnf)
                  | (refine tst_in ?_ ?_; (focus (intro h_; exfalso; first | omega | ((try simp only [decide_eq_true_eq, decide_eq_false_iff_not] at h_); omega) | (simp [mulSz, Cont.len, bne] at h_; done) | (simp [mulSz, Cont.len, bne] at h_; omega))); intro _; conv => whnf)
                  | (refine tst_in ?_ ?_; rotate_left; (focus (intro h_; exfalso; first | omega | ((try simp only [decide_eq_true_eq, decide_eq_false_iff_not] at h_); omega) | (simp [mulSz, Cont.len, bne] at h_; done) | (simp [mulSz, Cont.len, bne] at h_; omega))); intro _; conv => whnf)
                  | (refine ⟨0, (show _ = _ by omega), ?_⟩; conv => whnf))
                refine .inl ⟨(), [], ?_⟩
                conv => whnf
                repeat' (first | exact True.intro | rfl | refine And.intro ?_ ?_)
                all_goals (conv => whnf)
                repeat' (first | exact True.intro | rfl | refine And.intro ?_ ?_)
                all_goals (try omega)
end Go.Proofs.Ytmboejfdjcafoaa

namespace Go.Proofs.Ytmboejfdjcafoaa
open Go Go.Fw
namespace tempoFound
open Go.ChangeShapes Go.WideShapes Go.ChangeAt Go.RowKit
theorem own : ownKnob Try.prog.godebug = none := by kernel_rfl
theorem laid : laidOutB Try.prog = true := by kernel_rfl

set_option maxRecDepth 100000 in
theorem lifted (os : Os) (started : os.Started) (H : Type) (enc : TypeId × Value → H) :
    ReturnsInHanded {} Try.checked os 3 .any (Rows.tempoFoundSpec.pre6 enc Try.prog Try.f3 Rows.tempoFoundRow.domain false) (Rows.tempoFoundSpec.post enc Try.prog Try.f3 false true false false) := by
  refine returnsInHanded_of_change_sized (C := Try.checked) own started (by kernel_rfl) Try.func3
    (ChangeSpec.witness6 (enc := enc) (C := Try.checked) false ⟨#[], #[.agg #[.int .u8 0, .int .u8 0, .int .u8 0, .int .u16 0]], []⟩ 8 (by kernel_rfl) (by kernel_rfl) (by kernel_rfl) (by kernel_rfl)) ?_
  intro W base args ds gs before hval0 hW _ hsz0 _
  have hsz : (DataW.weightsEach Try.prog (Try.f3.params.toList ++ Rows.tempoFoundSpec.plain.varTypes Try.prog) (ds ++ gs)).all (· ≤ reachBytes) = true := hsz0
  clear hsz0
  have hval : ∀ (j : Nat) t v, Try.f3.params[j]? = some t → args[j]? = some v → Value.okWide Try.prog W .any base t v := hval0
  have hW' := hW
  obtain ⟨p, q, hA0, hV, rfl, hfz, hnd⟩ := hW
  have hA : DataW.TrodAll enc Try.prog W 0 (fun _ => true) true Try.f3.params.toList args.toList ds p := hA0
  rw [Try.params3] at hA hval hsz
  obtain ⟨v0, vs0, d0, ds0, p0, q0, hargs, rfl, rfl, h0, r0⟩ := trodAll_cons hA
  obtain ⟨rfl, rfl, rfl⟩ := trodAll_nil r0
  obtain rfl : args = #[v0] := by cases args; simp_all
  obtain ⟨rfl, rfl⟩ := trodVars_none hV
  obtain ⟨c0c0, t0_0, e0_0, l0_0, c0c1, t0_1, e0_1, l0_1, c0c2, t0_2, e0_2, l0_2, c0c3, t0_3, e0_3, l0_3, e0_4⟩ : LeafsAre W [.int .u8, .int .u8, .int .u8, .int .u16] v0.cells.toList := arg_open 12 (by kernel_rfl) h0 (fine_of (j := 0) hsz rfl rfl)
  subst e0_4
  subst e0_3
  subst e0_2
  subst e0_1
  obtain rfl := agg_of e0_0 (by simp)
  obtain ⟨x0_0, rfl, w0_0⟩ := l0_0
  obtain ⟨x0_1, rfl, w0_1⟩ := l0_1
  obtain ⟨x0_2, rfl, w0_2⟩ := l0_2
  obtain ⟨x0_3, rfl, w0_3⟩ := l0_3
  clear hA0 hval0
  have walk := (law_f x0_0 x0_1 x0_2 x0_3 w0_0 w0_1 w0_2 w0_3).calls W [] [.agg #[.int .u8 x0_0, .int .u8 x0_1, .int .u8 x0_2, .int .u16 x0_3]] (heap_args rfl fun i s hs => by
      simp [lawSpec, foundA] at hs) (by simp only [lawSpec, foundA, Dens]; exact ⟨_, _, rfl, ⟨[.int .u8 x0_0, .int .u8 x0_1, .int .u8 x0_2, .int .u16 x0_3], rfl, ⟨_, _, rfl, by simp [Den], ⟨_, _, rfl, by simp [Den], ⟨_, _, rfl, by simp [Den], ⟨_, _, rfl, by simp [Den], rfl⟩⟩⟩⟩⟩, rfl⟩) (x := .bool true) (v := .bool true) rfl (by
      intro o ho y hy
      simp [lawSpec, foundA] at ho
      subst ho; rfl)
  refine walk.mono fun e W' ⟨he, hg⟩ => ?_
  subst he
  exact ⟨_, rfl, law_done laid rfl rfl Try.underlying4 (by kernel_rfl) hW' rfl hg⟩

theorem over : Rows.tempoFoundRow.holds Try.pinned (OpenSpec.ofChange Rows.tempoFoundSpec) :=
  OpenClaim.holds_of_wide 3 Try.f3 rfl rfl rfl rfl rfl rfl rfl ⟨rfl, rfl, rfl, rfl, rfl⟩ rfl rfl rfl rfl rfl (by kernel_rfl) Try.func3 (by kernel_rfl)
    (of_decide_eq_true (by kernel_rfl)) (by unfold Func.isWrapper; first | (rw [if_pos (by decide +kernel)]; kernel_rfl) | (rw [if_neg (by decide +kernel)]; exact ⟨rfl, rfl⟩))
    (fun os started H enc _ => lifted os started H enc)

theorem proved : Rows.TempoFoundSaid := over
end tempoFound
end Go.Proofs.Ytmboejfdjcafoaa
