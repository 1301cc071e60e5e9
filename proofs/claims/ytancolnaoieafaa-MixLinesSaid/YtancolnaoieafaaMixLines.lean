/-
  MixLines, whole: the line of any row, the row of any line, or the refusals, for any floats. No condition.
-/
import Derived.Test.YtancolnaoieafaaRows
import Derived.Test.YtancolnaoieafaaFv
import Derived.Test.YtancolnaoieafaaFa
import Derived.WalkKit
import Derived.ProofKit
import Derived.OpenShut
import Derived.SizedLaws
import Derived.ChangeMaps5
set_option linter.unusedSimpArgs false
set_option linter.unusedVariables false
set_option linter.unusedVariables false
set_option linter.unusedSimpArgs false
namespace Go.Proofs.Ytancolnaoieafaa
open Go Go.Fw
def tyL : List (Nat × TyI) := [
  (1, ⟨.func, 1, 8, .nilFunc⟩),
  (2, ⟨.int .i64, 1, 8, .int .i64 0⟩),
  (3, ⟨.int .i64, 1, 8, .int .i64 0⟩),
  (4, ⟨.bool, 1, 1, .bool false⟩),
  (5, ⟨.int .u8, 1, 1, .int .u8 0⟩),
  (9, ⟨.str, 1, 16, .string (ByteArray.mk #[])⟩),
  (12, ⟨.int .u64, 1, 8, .int .u64 0⟩),
  (21, ⟨.int .i32, 1, 4, .int .i32 0⟩),
  (22, ⟨.slice 37, 1, 24, .slice none 0 0⟩),
  (23, ⟨.slice 31, 1, 24, .slice none 0 0⟩),
  (24, ⟨.func, 1, 8, .nilFunc⟩),
  (25, ⟨.int .i64, 1, 8, .int .i64 0⟩),
  (27, ⟨.func, 1, 8, .nilFunc⟩),
  (28, ⟨.func, 1, 8, .nilFunc⟩),
  (29, ⟨.func, 1, 8, .nilFunc⟩),
  (30, ⟨.func, 1, 8, .nilFunc⟩),
  (31, ⟨.cpx .f64, 1, 16, .complex .f64 0 0⟩),
  (32, ⟨.float .f64, 1, 8, .float .f64 0⟩),
  (33, ⟨.func, 1, 8, .nilFunc⟩),
  (34, ⟨.func, 1, 8, .nilFunc⟩),
  (35, ⟨.slice 32, 1, 24, .slice none 0 0⟩),
  (36, ⟨.func, 1, 8, .nilFunc⟩),
  (37, ⟨.int .u64, 1, 8, .int .u64 0⟩),
  (39, ⟨.func, 1, 8, .nilFunc⟩),
  (40, ⟨.func, 1, 8, .nilFunc⟩),
  (41, ⟨.func, 1, 8, .nilFunc⟩),
  (42, ⟨.func, 1, 8, .nilFunc⟩),
  (43, ⟨.func, 1, 8, .nilFunc⟩),
  (44, ⟨.slice 22, 1, 24, .slice none 0 0⟩),
  (45, ⟨.func, 1, 8, .nilFunc⟩),
  (46, ⟨.slice 23, 1, 24, .slice none 0 0⟩),
  (47, ⟨.func, 1, 8, .nilFunc⟩),
  (48, ⟨.func, 1, 8, .nilFunc⟩),
  (49, ⟨.func, 1, 8, .nilFunc⟩),
  (50, ⟨.func, 1, 8, .nilFunc⟩),
  (51, ⟨.func, 1, 8, .nilFunc⟩),
  (52, ⟨.slice 58, 1, 24, .slice none 0 0⟩),
  (53, ⟨.func, 1, 8, .nilFunc⟩),
  (54, ⟨.func, 1, 8, .nilFunc⟩),
  (55, ⟨.func, 1, 8, .nilFunc⟩),
  (56, ⟨.func, 1, 8, .nilFunc⟩),
  (57, ⟨.func, 1, 8, .nilFunc⟩),
  (58, ⟨.int .u16, 1, 2, .int .u16 0⟩),
  (59, ⟨.array 4 56, 4, 32, .agg #[.nilFunc, .nilFunc, .nilFunc, .nilFunc]⟩),
  (60, ⟨.func, 1, 8, .nilFunc⟩),
  (61, ⟨.func, 1, 8, .nilFunc⟩),
  (67, ⟨.func, 1, 8, .nilFunc⟩),
  (68, ⟨.int .u32, 1, 4, .int .u32 0⟩),
  (71, ⟨.func, 1, 8, .nilFunc⟩),
  (72, ⟨.ptr 5, 1, 8, .pointer none⟩)]
theorem tokL : TOk Try.prog tyL := tokl_of ⟨⟨by kernel_rfl, by kernel_rfl⟩, ⟨by kernel_rfl, by kernel_rfl⟩, ⟨by kernel_rfl, by kernel_rfl⟩, ⟨by kernel_rfl, by kernel_rfl⟩, ⟨by kernel_rfl, by kernel_rfl⟩, ⟨by kernel_rfl, by kernel_rfl⟩, ⟨by kernel_rfl, by kernel_rfl⟩, ⟨by kernel_rfl, by kernel_rfl⟩, ⟨by kernel_rfl, by kernel_rfl⟩, ⟨by kernel_rfl, by kernel_rfl⟩, ⟨by kernel_rfl, by kernel_rfl⟩, ⟨by kernel_rfl, by kernel_rfl⟩, ⟨by kernel_rfl, by kernel_rfl⟩, ⟨by kernel_rfl, by kernel_rfl⟩, ⟨by kernel_rfl, by kernel_rfl⟩, ⟨by kernel_rfl, by kernel_rfl⟩, ⟨by kernel_rfl, by kernel_rfl⟩, ⟨by kernel_rfl, by kernel_rfl⟩, ⟨by kernel_rfl, by kernel_rfl⟩, ⟨by kernel_rfl, by kernel_rfl⟩, ⟨by kernel_rfl, by kernel_rfl⟩, ⟨by kernel_rfl, by kernel_rfl⟩, ⟨by kernel_rfl, by kernel_rfl⟩, ⟨by kernel_rfl, by kernel_rfl⟩, ⟨by kernel_rfl, by kernel_rfl⟩, ⟨by kernel_rfl, by kernel_rfl⟩, ⟨by kernel_rfl, by kernel_rfl⟩, ⟨by kernel_rfl, by kernel_rfl⟩, ⟨by kernel_rfl, by kernel_rfl⟩, ⟨by kernel_rfl, by kernel_rfl⟩, ⟨by kernel_rfl, by kernel_rfl⟩, ⟨by kernel_rfl, by kernel_rfl⟩, ⟨by kernel_rfl, by kernel_rfl⟩, ⟨by kernel_rfl, by kernel_rfl⟩, ⟨by kernel_rfl, by kernel_rfl⟩, ⟨by kernel_rfl, by kernel_rfl⟩, ⟨by kernel_rfl, by kernel_rfl⟩, ⟨by kernel_rfl, by kernel_rfl⟩, ⟨by kernel_rfl, by kernel_rfl⟩, ⟨by kernel_rfl, by kernel_rfl⟩, ⟨by kernel_rfl, by kernel_rfl⟩, ⟨by kernel_rfl, by kernel_rfl⟩, ⟨by kernel_rfl, by kernel_rfl⟩, ⟨by kernel_rfl, by kernel_rfl⟩, ⟨by kernel_rfl, by kernel_rfl⟩, ⟨by kernel_rfl, by kernel_rfl⟩, ⟨by kernel_rfl, by kernel_rfl⟩, ⟨by kernel_rfl, by kernel_rfl⟩, ⟨by kernel_rfl, by kernel_rfl⟩, ⟨by kernel_rfl, by kernel_rfl⟩, True.intro⟩
theorem mixedL : Try.prog.follows .mixedOrders = true := by kernel_rfl
theorem i64max : IntKind.i64.max = 9223372036854775807 := rfl
theorem u8max : IntKind.u8.max = 255 := rfl
theorem u16max : IntKind.u16.max = 65535 := rfl
theorem u32max : IntKind.u32.max = 4294967295 := rfl
theorem u64max : IntKind.u64.max = 18446744073709551615 := rfl
def qf : Nat → Bool := fun f => match f with | 2000019 => true | 2000025 => true | 16 => true | 22 => true | 31 => true | 36 => true | 35 => true | 33 => true | 39 => true | _ => false
def numOut (D : List Seg) (x : AV) : FOut := ⟨Unit, fun _ => True, fun _ => x, fun _ => D⟩
def cfgs (k : Nat) : Cfg := { T := tyL, sgn := fun _ => false, wr := fun _ => false, k := k, q := qf }
def ng (x : Nat) : Nat := Op.negFloat .f64 x
theorem ng_ng (x : Nat) : ng (ng x) = x := by unfold ng Op.negFloat; rw [Nat.xor_assoc, Nat.xor_self, Nat.xor_zero]
theorem fb_x (n : Int) : Go.Fw.XRun Try.prog 19 [.int .u64 n] (.flt .f64 n.toNat) := by
  refine ⟨.float .f64 n.toNat, fun ρ => by simp only [Den], fun ρ vs h w => ?_⟩
  simp only [Dens, Den] at h
  obtain ⟨v, r, rfl, rfl, rfl⟩ := h
  kernel_rfl
theorem bf_x (n : Nat) : Go.Fw.XRun Try.prog 25 [.flt .f64 n] (.int .u64 n) := by
  refine ⟨.int .u64 n, fun ρ => by simp only [Den], fun ρ vs h w => ?_⟩
  simp only [Dens, Den] at h
  obtain ⟨v, r, rfl, rfl, rfl⟩ := h
  kernel_rfl
end Go.Proofs.Ytancolnaoieafaa

set_option linter.unusedVariables false
set_option linter.unusedSimpArgs false
namespace Go.Proofs.Ytancolnaoieafaa
open Go Go.Fw
def trn (q : Nat) (p : Nat × Nat) : Nat × Nat := match q with | 0 => p | 1 => (ng p.2, p.1) | 2 => (ng p.1, ng p.2) | _ => (p.2, ng p.1)
theorem trn_s (p : Nat × Nat) (j : Nat) (h : j < 3) : trn (j + 1) p = (ng (trn j p).2, (trn j p).1) := by
  obtain rfl | rfl | rfl : j = 0 ∨ j = 1 ∨ j = 2 := by omega
  · rfl
  · rfl
  · simp [trn, ng_ng]
theorem tm4 (n : Int) : -3 ≤ n.tmod 4 ∧ n.tmod 4 ≤ 3 ∧ (n.tmod 4 + 4).tmod 4 = n % 4 := by
  have h : n.tmod 4 = if 0 ≤ n then n % 4 else - ((-n) % 4) := by
    split
    · rw [Int.tmod_eq_emod_of_nonneg (by assumption)]
    · rw [← Int.neg_neg n, Int.neg_tmod, Int.tmod_eq_emod_of_nonneg (by omega)]; simp
  have hb : -3 ≤ n.tmod 4 ∧ n.tmod 4 ≤ 3 := by rw [h]; split <;> omega
  refine ⟨hb.1, hb.2, ?_⟩
  rw [Int.tmod_eq_emod_of_nonneg (by omega), h]
  split <;> omega
noncomputable def c33 : Code := (Try.f33.body).getD .skip
def st33 (p : Nat × Nat) (q j : Nat) : St := ⟨slotsAt 21 [(0, .cpx .f64 (trn j p).1 (trn j p).2), (5, .int .i64 ((q - j : Nat) : Int))], []⟩
def inv33 (p : Nat × Nat) (q : Nat) : LInv := ⟨Nat, fun j => st33 p q j, fun j => j ≤ q, fun j => q - j⟩
def cfg33 : Cfg := { T := tyL, sgn := fun | 1 => true | _ => false, wr := fun _ => false, k := 0, q := qf }
set_option maxHeartbeats 0 in
set_option maxRecDepth 100000 in
theorem rTurn_q (p : Nat × Nat) (n : Int) (q : Nat) (hq : n % 4 = (q : Int)) : QFits Try.prog 33 ⟨[.cpx .f64 p.1 p.2, .int .i64 n], [], .cpx .f64 (trn q p).1 (trn q p).2⟩ := by
  obtain ⟨t1, t2, t3⟩ := tm4 n
  have hq3 : q ≤ 3 := by omega
  refine qfits_of_body (C := cfg33) (c := c33) (ts := [4]) tokL mixedL (fun | 2 => some (inv33 p q) | _ => none) (fun _ => none)
    Try.func33 (by kernel_rfl) (by kernel_rfl) (by kernel_rfl) (by kernel_rfl) (by kernel_rfl) rfl rfl ?_
  conv => whnf
  repeat (first
    | (refine And.intro ?_ ?_; (focus (first | omega | decide | exact Int.natCast_nonneg _ | ((repeat' refine And.intro ?_ ?_) <;> first | omega | exact Int.natCast_nonneg _ | (simp only [i64max, u8max, u16max, u32max, u64max]; omega) | (simp only [mulSz_eq, Cont.len, colsLen, Col.len, List.length_cons, List.length_nil, List.length_replicate, List.length_append]; first | done | omega) | (simp [mulSz, Cont.len, bne]; first | done | omega)))); conv => whnf)
    | (refine tst_in ?_ ?_; (focus (intro h_; exfalso; first | omega | ((try simp only [decide_eq_true_eq, decide_eq_false_iff_not] at h_); omega) | (simp [mulSz, Cont.len, bne] at h_; first | done | omega))); intro _; conv => whnf)
    | (refine tst_in ?_ ?_; rotate_left; (focus (intro h_; exfalso; first | omega | ((try simp only [decide_eq_true_eq, decide_eq_false_iff_not] at h_); omega) | (simp [mulSz, Cont.len, bne] at h_; first | done | omega))); intro _; conv => whnf)
    | (refine ⟨0, (show _ = _ by omega), ?_⟩; conv => whnf))
  rw [t3, hq]
  conv => whnf
  repeat (first
    | (refine And.intro ?_ ?_; (focus (first | omega | decide | exact Int.natCast_nonneg _ | ((repeat' refine And.intro ?_ ?_) <;> first | omega | exact Int.natCast_nonneg _ | (simp only [i64max, u8max, u16max, u32max, u64max]; omega) | (simp only [mulSz_eq, Cont.len, colsLen, Col.len, List.length_cons, List.length_nil, List.length_replicate, List.length_append]; first | done | omega) | (simp [mulSz, Cont.len, bne]; first | done | omega)))); conv => whnf)
    | (refine tst_in ?_ ?_; (focus (intro h_; exfalso; first | omega | ((try simp only [decide_eq_true_eq, decide_eq_false_iff_not] at h_); omega) | (simp [mulSz, Cont.len, bne] at h_; first | done | omega))); intro _; conv => whnf)
    | (refine tst_in ?_ ?_; rotate_left; (focus (intro h_; exfalso; first | omega | ((try simp only [decide_eq_true_eq, decide_eq_false_iff_not] at h_); omega) | (simp [mulSz, Cont.len, bne] at h_; first | done | omega))); intro _; conv => whnf)
    | (refine ⟨0, (show _ = _ by omega), ?_⟩; conv => whnf))
  refine ⟨⟨[], (0 : Nat), ?_, Nat.zero_le _⟩, ?_⟩
  · show stLe _ _ (st33 p q 0) _
    conv => whnf
    repeat' (first | exact True.intro | rfl | refine And.intro ?_ ?_)
    all_goals (conv => whnf)
    repeat' (first | exact True.intro | rfl | refine And.intro ?_ ?_)
    all_goals (try (first | omega | exact True.intro | rfl | assumption | (change LE.le (α := Nat) _ _; first | omega | (simp only [trn]; omega)) | (simp only [trn]; first | done | omega) | (simp [trn]; first | done | omega)))
  · intro (j : Nat) (hj : j ≤ q)
    show forceSt (st33 p q j) _
    conv => whnf
    refine tst_in (fun h1 => ?_) (fun h1' => ?_)
    · skip
      have h1 : j < q := by simp at h1; omega
      conv => whnf
      repeat (first
        | (refine And.intro ?_ ?_; (focus (first | omega | decide | exact Int.natCast_nonneg _ | ((repeat' refine And.intro ?_ ?_) <;> first | omega | exact Int.natCast_nonneg _ | (simp only [i64max, u8max, u16max, u32max, u64max]; omega) | (simp only [mulSz_eq, Cont.len, colsLen, Col.len, List.length_cons, List.length_nil, List.length_replicate, List.length_append]; first | done | omega) | (simp [mulSz, Cont.len, bne]; first | done | omega)))); conv => whnf)
        | (refine tst_in ?_ ?_; (focus (intro h_; exfalso; first | omega | ((try simp only [decide_eq_true_eq, decide_eq_false_iff_not] at h_); omega) | (simp [mulSz, Cont.len, bne] at h_; first | done | omega))); intro _; conv => whnf)
        | (refine tst_in ?_ ?_; rotate_left; (focus (intro h_; exfalso; first | omega | ((try simp only [decide_eq_true_eq, decide_eq_false_iff_not] at h_); omega) | (simp [mulSz, Cont.len, bne] at h_; first | done | omega))); intro _; conv => whnf)
        | (refine ⟨0, (show _ = _ by omega), ?_⟩; conv => whnf))
      refine ⟨[], j + 1, ?_, (by show j + 1 ≤ q; omega), (by show q - (j + 1) < q - j; omega)⟩
      show stLe _ _ (st33 p q (j + 1)) _
      rw [show st33 p q (j + 1) = ⟨slotsAt 21 [(0, .cpx .f64 (ng (trn j p).2) (trn j p).1), (5, .int .i64 ((q - (j + 1) : Nat) : Int))], []⟩ by unfold st33; rw [trn_s p j (by omega)]]
      conv => whnf
      repeat' (first | exact True.intro | rfl | refine And.intro ?_ ?_)
      all_goals (conv => whnf)
      repeat' (first | exact True.intro | rfl | refine And.intro ?_ ?_)
      all_goals (try omega)
    · skip
      have h1 : j = q := by simp at h1'; omega
      subst h1
      conv => whnf
      repeat (first
        | (refine And.intro ?_ ?_; (focus (first | omega | decide | exact Int.natCast_nonneg _ | ((repeat' refine And.intro ?_ ?_) <;> first | omega | exact Int.natCast_nonneg _ | (simp only [i64max, u8max, u16max, u32max, u64max]; omega) | (simp only [mulSz_eq, Cont.len, colsLen, Col.len, List.length_cons, List.length_nil, List.length_replicate, List.length_append]; first | done | omega) | (simp [mulSz, Cont.len, bne]; first | done | omega)))); conv => whnf)
        | (refine tst_in ?_ ?_; (focus (intro h_; exfalso; first | omega | ((try simp only [decide_eq_true_eq, decide_eq_false_iff_not] at h_); omega) | (simp [mulSz, Cont.len, bne] at h_; first | done | omega))); intro _; conv => whnf)
        | (refine tst_in ?_ ?_; rotate_left; (focus (intro h_; exfalso; first | omega | ((try simp only [decide_eq_true_eq, decide_eq_false_iff_not] at h_); omega) | (simp [mulSz, Cont.len, bne] at h_; first | done | omega))); intro _; conv => whnf)
        | (refine ⟨0, (show _ = _ by omega), ?_⟩; conv => whnf))
end Go.Proofs.Ytancolnaoieafaa

set_option linter.unusedVariables false
set_option linter.unusedSimpArgs false
namespace Go.Proofs.Ytancolnaoieafaa
open Go Go.Fw
theorem and3 (n : Int) : rawBits .and .i64 n 3 = n % 4 := by
  show IntKind.i64.wrap ((BitVec.ofInt 64 n &&& BitVec.ofInt 64 3).toNat : Int) = n % 4
  have e : (BitVec.ofInt 64 n &&& BitVec.ofInt 64 3).toNat = (n % 4).toNat := by
    rw [BitVec.toNat_and, BitVec.toNat_ofInt, BitVec.toNat_ofInt]
    rw [show ((3 : Int) % ((2 ^ 64 : Nat) : Int)).toNat = 2 ^ 2 - 1 by decide, Nat.and_two_pow_sub_one_eq_mod]
    show (n % 18446744073709551616).toNat % 4 = _
    omega
  rw [e]
  unfold IntKind.wrap
  have : 0 ≤ n % 4 ∧ n % 4 < 4 := by omega
  simp [IntKind.bits, IntKind.signed]
  omega
noncomputable def c39 : Code := (Try.f39.body).getD .skip
attribute [local irreducible] rawBits
set_option maxHeartbeats 0 in
set_option maxRecDepth 100000 in
theorem Turn_q (p : Nat × Nat) (n : Int) (q : Nat) (hq : n % 4 = (q : Int)) : QFits Try.prog 39 ⟨[.cpx .f64 p.1 p.2, .int .i64 n], [], .cpx .f64 (trn q p).1 (trn q p).2⟩ := by
  refine qfits_of_body (C := { T := tyL, sgn := fun _ => true, wr := fun _ => false, k := 0, q := qf }) (c := c39) (ts := [4]) tokL mixedL (fun _ => none) (fun _ => none)
    Try.func39 (by kernel_rfl) (by kernel_rfl) (by kernel_rfl) (by kernel_rfl) (by kernel_rfl) rfl rfl ?_
  conv => whnf
  have ha := and3 n
  generalize rawBits .and .i64 n 3 = t at *
  rw [hq] at ha
  subst ha
  obtain rfl | rfl | rfl | rfl : q = 0 ∨ q = 1 ∨ q = 2 ∨ q = 3 := by omega
  all_goals (
    conv => whnf
    repeat (first
      | (refine And.intro ?_ ?_; (focus (first | omega | decide | exact Int.natCast_nonneg _ | ((repeat' refine And.intro ?_ ?_) <;> first | omega | exact Int.natCast_nonneg _ | (simp only [i64max, u8max, u16max, u32max, u64max]; omega) | (simp only [mulSz_eq, Cont.len, colsLen, Col.len, List.length_cons, List.length_nil, List.length_replicate, List.length_append]; first | done | omega) | (simp [mulSz, Cont.len, bne]; first | done | omega)))); conv => whnf)
      | (refine tst_in ?_ ?_; (focus (intro h_; exfalso; first | omega | ((try simp only [decide_eq_true_eq, decide_eq_false_iff_not] at h_); omega) | (simp [mulSz, Cont.len, bne] at h_; first | done | omega))); intro _; conv => whnf)
      | (refine tst_in ?_ ?_; rotate_left; (focus (intro h_; exfalso; first | omega | ((try simp only [decide_eq_true_eq, decide_eq_false_iff_not] at h_); omega) | (simp [mulSz, Cont.len, bne] at h_; first | done | omega))); intro _; conv => whnf)
      | (refine ⟨0, (show _ = _ by omega), ?_⟩; conv => whnf))
    exact ⟨rfl, rfl⟩
  )
noncomputable def c36 : Code := (Try.f36.body).getD .skip
set_option maxHeartbeats 0 in
set_option maxRecDepth 100000 in
theorem Float_q (x y : Nat) (h : y = x) : QFits Try.prog 36 ⟨[.flt .f64 x, .flt .f64 y], [], .bool true⟩ := by
  subst h
  refine qfits_of_body (C := cfgs 0) (c := c36) (ts := [4]) tokL mixedL (fun _ => none) (fun _ => none)
    Try.func36 (by kernel_rfl) (by kernel_rfl) (by kernel_rfl) (by kernel_rfl) (by kernel_rfl) rfl rfl ?_
  conv => whnf
  generalize hb : (FloatKind.f64.format.order y y == some Ordering.eq) = b at *
  have hn : (FloatKind.f64.format.order y y != some Ordering.eq) = !b := by rw [← hb]; rfl
  cases b
  · skip
    conv => whnf
    repeat (first
      | (refine And.intro ?_ ?_; (focus (first | omega | decide | exact Int.natCast_nonneg _ | ((repeat' refine And.intro ?_ ?_) <;> first | omega | exact Int.natCast_nonneg _ | (simp only [i64max, u8max, u16max, u32max, u64max]; omega) | (simp only [mulSz_eq, Cont.len, colsLen, Col.len, List.length_cons, List.length_nil, List.length_replicate, List.length_append]; first | done | omega) | (simp [mulSz, Cont.len, bne]; first | done | omega)))); conv => whnf)
      | (refine tst_in ?_ ?_; (focus (intro h_; exfalso; first | omega | ((try simp only [decide_eq_true_eq, decide_eq_false_iff_not] at h_); omega) | (simp [mulSz, Cont.len, bne] at h_; first | done | omega))); intro _; conv => whnf)
      | (refine tst_in ?_ ?_; rotate_left; (focus (intro h_; exfalso; first | omega | ((try simp only [decide_eq_true_eq, decide_eq_false_iff_not] at h_); omega) | (simp [mulSz, Cont.len, bne] at h_; first | done | omega))); intro _; conv => whnf)
      | (refine ⟨0, (show _ = _ by omega), ?_⟩; conv => whnf))
    rw [hn]
    conv => whnf
    repeat (first
      | (refine And.intro ?_ ?_; (focus (first | omega | decide | exact Int.natCast_nonneg _ | ((repeat' refine And.intro ?_ ?_) <;> first | omega | exact Int.natCast_nonneg _ | (simp only [i64max, u8max, u16max, u32max, u64max]; omega) | (simp only [mulSz_eq, Cont.len, colsLen, Col.len, List.length_cons, List.length_nil, List.length_replicate, List.length_append]; first | done | omega) | (simp [mulSz, Cont.len, bne]; first | done | omega)))); conv => whnf)
      | (refine tst_in ?_ ?_; (focus (intro h_; exfalso; first | omega | ((try simp only [decide_eq_true_eq, decide_eq_false_iff_not] at h_); omega) | (simp [mulSz, Cont.len, bne] at h_; first | done | omega))); intro _; conv => whnf)
      | (refine tst_in ?_ ?_; rotate_left; (focus (intro h_; exfalso; first | omega | ((try simp only [decide_eq_true_eq, decide_eq_false_iff_not] at h_); omega) | (simp [mulSz, Cont.len, bne] at h_; first | done | omega))); intro _; conv => whnf)
      | (refine ⟨0, (show _ = _ by omega), ?_⟩; conv => whnf))
    rw [hn]
    conv => whnf
    repeat (first
      | (refine And.intro ?_ ?_; (focus (first | omega | decide | exact Int.natCast_nonneg _ | ((repeat' refine And.intro ?_ ?_) <;> first | omega | exact Int.natCast_nonneg _ | (simp only [i64max, u8max, u16max, u32max, u64max]; omega) | (simp only [mulSz_eq, Cont.len, colsLen, Col.len, List.length_cons, List.length_nil, List.length_replicate, List.length_append]; first | done | omega) | (simp [mulSz, Cont.len, bne]; first | done | omega)))); conv => whnf)
      | (refine tst_in ?_ ?_; (focus (intro h_; exfalso; first | omega | ((try simp only [decide_eq_true_eq, decide_eq_false_iff_not] at h_); omega) | (simp [mulSz, Cont.len, bne] at h_; first | done | omega))); intro _; conv => whnf)
      | (refine tst_in ?_ ?_; rotate_left; (focus (intro h_; exfalso; first | omega | ((try simp only [decide_eq_true_eq, decide_eq_false_iff_not] at h_); omega) | (simp [mulSz, Cont.len, bne] at h_; first | done | omega))); intro _; conv => whnf)
      | (refine ⟨0, (show _ = _ by omega), ?_⟩; conv => whnf))
    exact rfl
  · skip
    conv => whnf
    repeat (first
      | (refine And.intro ?_ ?_; (focus (first | omega | decide | exact Int.natCast_nonneg _ | ((repeat' refine And.intro ?_ ?_) <;> first | omega | exact Int.natCast_nonneg _ | (simp only [i64max, u8max, u16max, u32max, u64max]; omega) | (simp only [mulSz_eq, Cont.len, colsLen, Col.len, List.length_cons, List.length_nil, List.length_replicate, List.length_append]; first | done | omega) | (simp [mulSz, Cont.len, bne]; first | done | omega)))); conv => whnf)
      | (refine tst_in ?_ ?_; (focus (intro h_; exfalso; first | omega | ((try simp only [decide_eq_true_eq, decide_eq_false_iff_not] at h_); omega) | (simp [mulSz, Cont.len, bne] at h_; first | done | omega))); intro _; conv => whnf)
      | (refine tst_in ?_ ?_; rotate_left; (focus (intro h_; exfalso; first | omega | ((try simp only [decide_eq_true_eq, decide_eq_false_iff_not] at h_); omega) | (simp [mulSz, Cont.len, bne] at h_; first | done | omega))); intro _; conv => whnf)
      | (refine ⟨0, (show _ = _ by omega), ?_⟩; conv => whnf))
noncomputable def c31 : Code := (Try.f31.body).getD .skip
def cxS (o : Bool) (A : List (Nat × Nat)) : Seg := .seg o (.cpxs .f64 A)
def st31 (A A' : List (Nat × Nat)) (n ca cb i : Nat) : St := ⟨slotsAt 43 [(0, .slice 0 0 n ca), (1, .slice 1 0 n cb), (5, .int .i64 i)], [cxS false A, cxS false A']⟩
def inv31 (A A' : List (Nat × Nat)) (n ca cb : Nat) : LInv := ⟨Nat, fun i => st31 A A' n ca cb i, fun i => i ≤ n, fun i => n - i⟩
set_option maxHeartbeats 0 in
set_option maxRecDepth 100000 in
theorem Same_q (A A' : List (Nat × Nat)) (n ca cb : Nat) (hA : n ≤ A.length) (hA' : n ≤ A'.length) (hca : n ≤ ca) (hcb : n ≤ cb) (hn : n ≤ 17592186043904)
    (hE : ∀ i, i < n → A'.getD i (0, 0) = A.getD i (0, 0)) :
    QFits Try.prog 31 ⟨[.slice 0 0 n ca, .slice 1 0 n cb], [cxS false A, cxS false A'], .bool true⟩ := by
  refine qfits_of_body (C := cfgs 2) (c := c31) (ts := [4]) tokL mixedL (fun | 4 => some (inv31 A A' n ca cb) | _ => none) (fun _ => none)
    Try.func31 (by kernel_rfl) (by kernel_rfl) (by kernel_rfl) (by kernel_rfl) (by kernel_rfl) rfl rfl ?_
  conv => whnf
  repeat (first
    | (refine And.intro ?_ ?_; (focus (first | omega | decide | exact Int.natCast_nonneg _ | ((repeat' refine And.intro ?_ ?_) <;> first | omega | exact Int.natCast_nonneg _ | (simp only [i64max, u8max, u16max, u32max, u64max]; omega) | (simp only [mulSz_eq, Cont.len, colsLen, Col.len, List.length_cons, List.length_nil, List.length_replicate, List.length_append]; first | done | omega) | (simp [mulSz, Cont.len, bne]; first | done | omega)))); conv => whnf)
    | (refine tst_in ?_ ?_; (focus (intro h_; exfalso; first | omega | ((try simp only [decide_eq_true_eq, decide_eq_false_iff_not] at h_); omega) | (simp [mulSz, Cont.len, bne] at h_; first | done | omega))); intro _; conv => whnf)
    | (refine tst_in ?_ ?_; rotate_left; (focus (intro h_; exfalso; first | omega | ((try simp only [decide_eq_true_eq, decide_eq_false_iff_not] at h_); omega) | (simp [mulSz, Cont.len, bne] at h_; first | done | omega))); intro _; conv => whnf)
    | (refine ⟨0, (show _ = _ by omega), ?_⟩; conv => whnf))
  refine ⟨⟨[0, 1], (0 : Nat), ?_, Nat.zero_le _⟩, ?_⟩
  · show stLe _ _ (st31 A A' n ca cb 0) _
    conv => whnf
    repeat' (first | exact True.intro | rfl | refine And.intro ?_ ?_)
    all_goals (conv => whnf)
    repeat' (first | exact True.intro | rfl | refine And.intro ?_ ?_)
    all_goals (try omega)
  · intro (i : Nat) (hi : i ≤ n)
    show forceSt (st31 A A' n ca cb i) _
    conv => whnf
    refine tst_in (fun hlt => ?_) (fun hge => ?_)
    · skip
      have hlt : i < n := by simp at hlt; omega
      have e1 := hE i hlt
      have F1 := Float_q (A.getD i (0, 0)).1 (A'.getD i (0, 0)).1 (by rw [e1])
      have F2 := Float_q (A.getD i (0, 0)).2 (A'.getD i (0, 0)).2 (by rw [e1])
      conv => whnf
      repeat (first
        | (refine And.intro ?_ ?_; (focus (first | omega | decide | exact Int.natCast_nonneg _ | ((repeat' refine And.intro ?_ ?_) <;> first | omega | exact Int.natCast_nonneg _ | (simp only [i64max, u8max, u16max, u32max, u64max]; omega) | (simp only [mulSz_eq, Cont.len, colsLen, Col.len, List.length_cons, List.length_nil, List.length_replicate, List.length_append]; first | done | omega) | (simp [mulSz, Cont.len, bne]; first | done | omega)))); conv => whnf)
        | (refine tst_in ?_ ?_; (focus (intro h_; exfalso; first | omega | ((try simp only [decide_eq_true_eq, decide_eq_false_iff_not] at h_); omega) | (simp [mulSz, Cont.len, bne] at h_; first | done | omega))); intro _; conv => whnf)
        | (refine tst_in ?_ ?_; rotate_left; (focus (intro h_; exfalso; first | omega | ((try simp only [decide_eq_true_eq, decide_eq_false_iff_not] at h_); omega) | (simp [mulSz, Cont.len, bne] at h_; first | done | omega))); intro _; conv => whnf)
        | (refine ⟨0, (show _ = _ by omega), ?_⟩; conv => whnf))
      refine ⟨_, [], F1, ?_⟩
      conv => whnf
      iterate 2
       refine And.intro ?_ ?_
       focus
        conv => whnf
        repeat' (first | exact True.intro | rfl | refine And.intro ?_ ?_ | omega)
        all_goals (conv => whnf)
        all_goals (try (first | rfl | omega | (simp; done)))
      conv => whnf
      conv => whnf
      repeat (first
        | (refine And.intro ?_ ?_; (focus (first | omega | decide | exact Int.natCast_nonneg _ | ((repeat' refine And.intro ?_ ?_) <;> first | omega | exact Int.natCast_nonneg _ | (simp only [i64max, u8max, u16max, u32max, u64max]; omega) | (simp only [mulSz_eq, Cont.len, colsLen, Col.len, List.length_cons, List.length_nil, List.length_replicate, List.length_append]; first | done | omega) | (simp [mulSz, Cont.len, bne]; first | done | omega)))); conv => whnf)
        | (refine tst_in ?_ ?_; (focus (intro h_; exfalso; first | omega | ((try simp only [decide_eq_true_eq, decide_eq_false_iff_not] at h_); omega) | (simp [mulSz, Cont.len, bne] at h_; first | done | omega))); intro _; conv => whnf)
        | (refine tst_in ?_ ?_; rotate_left; (focus (intro h_; exfalso; first | omega | ((try simp only [decide_eq_true_eq, decide_eq_false_iff_not] at h_); omega) | (simp [mulSz, Cont.len, bne] at h_; first | done | omega))); intro _; conv => whnf)
        | (refine ⟨0, (show _ = _ by omega), ?_⟩; conv => whnf))
      refine ⟨_, [], F2, ?_⟩
      conv => whnf
      iterate 2
       refine And.intro ?_ ?_
       focus
        conv => whnf
        repeat' (first | exact True.intro | rfl | refine And.intro ?_ ?_ | omega)
        all_goals (conv => whnf)
        all_goals (try (first | rfl | omega | (simp; done)))
      conv => whnf
      conv => whnf
      repeat (first
        | (refine And.intro ?_ ?_; (focus (first | omega | decide | exact Int.natCast_nonneg _ | ((repeat' refine And.intro ?_ ?_) <;> first | omega | exact Int.natCast_nonneg _ | (simp only [i64max, u8max, u16max, u32max, u64max]; omega) | (simp only [mulSz_eq, Cont.len, colsLen, Col.len, List.length_cons, List.length_nil, List.length_replicate, List.length_append]; first | done | omega) | (simp [mulSz, Cont.len, bne]; first | done | omega)))); conv => whnf)
        | (refine tst_in ?_ ?_; (focus (intro h_; exfalso; first | omega | ((try simp only [decide_eq_true_eq, decide_eq_false_iff_not] at h_); omega) | (simp [mulSz, Cont.len, bne] at h_; first | done | omega))); intro _; conv => whnf)
        | (refine tst_in ?_ ?_; rotate_left; (focus (intro h_; exfalso; first | omega | ((try simp only [decide_eq_true_eq, decide_eq_false_iff_not] at h_); omega) | (simp [mulSz, Cont.len, bne] at h_; first | done | omega))); intro _; conv => whnf)
        | (refine ⟨0, (show _ = _ by omega), ?_⟩; conv => whnf))
      refine ⟨[0, 1], i + 1, ?_, (by show i + 1 ≤ n; omega), (by show n - (i + 1) < n - i; omega)⟩
      show stLe _ _ (st31 A A' n ca cb (i + 1)) _
      conv => whnf
      repeat' (first | exact True.intro | rfl | refine And.intro ?_ ?_)
      all_goals (conv => whnf)
      repeat' (first | exact True.intro | rfl | refine And.intro ?_ ?_)
      all_goals (try omega)
    · skip
      have hge : i = n := by simp at hge; omega
      subst hge
      conv => whnf
      repeat (first
        | (refine And.intro ?_ ?_; (focus (first | omega | decide | exact Int.natCast_nonneg _ | ((repeat' refine And.intro ?_ ?_) <;> first | omega | exact Int.natCast_nonneg _ | (simp only [i64max, u8max, u16max, u32max, u64max]; omega) | (simp only [mulSz_eq, Cont.len, colsLen, Col.len, List.length_cons, List.length_nil, List.length_replicate, List.length_append]; first | done | omega) | (simp [mulSz, Cont.len, bne]; first | done | omega)))); conv => whnf)
        | (refine tst_in ?_ ?_; (focus (intro h_; exfalso; first | omega | ((try simp only [decide_eq_true_eq, decide_eq_false_iff_not] at h_); omega) | (simp [mulSz, Cont.len, bne] at h_; first | done | omega))); intro _; conv => whnf)
        | (refine tst_in ?_ ?_; rotate_left; (focus (intro h_; exfalso; first | omega | ((try simp only [decide_eq_true_eq, decide_eq_false_iff_not] at h_); omega) | (simp [mulSz, Cont.len, bne] at h_; first | done | omega))); intro _; conv => whnf)
        | (refine ⟨0, (show _ = _ by omega), ?_⟩; conv => whnf))
      try rfl
end Go.Proofs.Ytancolnaoieafaa

set_option linter.unusedVariables false
set_option linter.unusedSimpArgs false
namespace Go.Proofs.Ytancolnaoieafaa
open Go Go.Fw
theorem push_tb {α : Type} (F : Nat → α) (t t1 : List α) (i : Nat) (x : α) (hx : x = F i) : List.take i (List.drop 0 (tb F i ++ t)) ++ [x] ++ t1 = tb F (i + 1) ++ t1 := by
  rw [List.drop_zero, List.take_left' (tab_len F i), hx, tab_snoc]
theorem mark_tb {α : Type} (F : Nat → α) (t t1 : List α) (i : Nat) (x : α) : List.take i (List.drop 0 (tb F i ++ t)) ++ List.take 1 (List.drop 0 [x]) ++ t1 = tb F i ++ x :: t1 := by
  rw [List.drop_zero, List.take_left' (tab_len F i)]; simp
def u8S (l : List Int) : Seg := .seg false (.ints .u64 l)
def zF (l : List Int) (i : Nat) : Nat × Nat := ((l.getD (2 * i) 0).toNat, (l.getD (2 * i + 1) 0).toNat)
def mk : Nat × Nat := (4651892959631900672, 0)
abbrev YT := List (Nat × Nat)
/-- A row of n numbers in new memory (name k), room behind; a failure is the row of none. -/
def rOut (D : List Seg) (k : Nat) (x : AV → AV) (F : Nat → Nat × Nat) (n : Nat) : FOut :=
  ⟨YT, fun _ => True, fun y => x (.slice k 0 n (n + y.length)), fun y => D ++ [cxS true (tb F n ++ y)]⟩
def lin (n : Nat) : PlanL := .lin (List.range n) .done
noncomputable def c8 : Code := (Try.f8.body).getD .skip
def st8 (l : List Int) (nl ca j : Nat) (t : List (Nat × Nat)) : St :=
  ⟨slotsAt 35 [(0, .slice 0 0 nl ca), (3, .slice 1 0 j (j + t.length)), (4, .int .i64 ((2 * j : Nat) : Int))], [u8S l, cxS true (tb (zF l) j ++ t)]⟩
def inv8 (l : List Int) (nl ca : Nat) : LInv := ⟨Nat × YT, fun y => st8 l nl ca y.1 y.2, fun y => 2 * y.1 ≤ nl, fun y => nl - 2 * y.1⟩
set_option maxHeartbeats 0 in
set_option maxRecDepth 100000 in
theorem numbers_f (l : List Int) (nl ca n : Nat) (hl : nl ≤ l.length) (hca : nl ≤ ca) (hn : nl ≤ 17592186043904) (h2 : n = nl / 2) :
    Fits Try.prog 8 ⟨[.slice 0 0 nl ca], [u8S l], [⟨YT, fun _ => True, fun y => .slice 1 0 n (n + 1 + y.length), fun y => [.dead, cxS true (tb (zF l) n ++ mk :: y)]⟩]⟩ := by
  refine fits_of_body (C := { cfgs 1 with plan := fun | 5 => some (.lin [0, 1, 2, 3, 4, 5, 6, 7, 8, 9, 10, 11, 12, 13, 14, 15] .done) | _ => none }) (c := c8) (ts := [2]) tokL mixedL (fun | 3 => some (inv8 l nl ca) | _ => none) (fun _ => none)
    Try.func8 (by kernel_rfl) (by kernel_rfl) (by kernel_rfl) (by kernel_rfl) rfl ?_
  conv => whnf
  repeat (first
    | (refine And.intro ?_ ?_; (focus (first | omega | decide | exact Int.natCast_nonneg _ | ((repeat' refine And.intro ?_ ?_) <;> first | omega | exact Int.natCast_nonneg _ | (simp only [i64max, u8max, u16max, u32max, u64max]; omega) | (simp only [mulSz_eq, Cont.len, colsLen, Col.len, List.length_cons, List.length_nil, List.length_replicate, List.length_append]; first | done | omega) | (simp [mulSz, Cont.len, bne]; first | done | omega)))); conv => whnf)
    | (refine tst_in ?_ ?_; (focus (intro h_; exfalso; first | omega | ((try simp only [decide_eq_true_eq, decide_eq_false_iff_not] at h_); omega) | (simp [mulSz, Cont.len, bne] at h_; first | done | omega))); intro _; conv => whnf)
    | (refine tst_in ?_ ?_; rotate_left; (focus (intro h_; exfalso; first | omega | ((try simp only [decide_eq_true_eq, decide_eq_false_iff_not] at h_); omega) | (simp [mulSz, Cont.len, bne] at h_; first | done | omega))); intro _; conv => whnf)
    | (refine ⟨0, (show _ = _ by omega), ?_⟩; conv => whnf))
  refine ⟨⟨[0, 9], (0, []), ?_, Nat.zero_le _⟩, ?_⟩
  · show stLe _ _ (st8 l nl ca 0 []) _
    conv => whnf
    repeat' (first | exact True.intro | rfl | refine And.intro ?_ ?_)
    all_goals (conv => whnf)
    repeat' (first | exact True.intro | rfl | refine And.intro ?_ ?_)
    all_goals (try omega)
  · intro ⟨j, t⟩ (hj : 2 * j ≤ nl)
    show forceSt (st8 l nl ca j t) _
    conv => whnf
    repeat (first
      | (refine And.intro ?_ ?_; (focus (first | omega | decide | exact Int.natCast_nonneg _ | ((repeat' refine And.intro ?_ ?_) <;> first | omega | exact Int.natCast_nonneg _ | (simp only [i64max, u8max, u16max, u32max, u64max]; omega) | (simp only [mulSz_eq, Cont.len, colsLen, Col.len, List.length_cons, List.length_nil, List.length_replicate, List.length_append]; first | done | omega) | (simp [mulSz, Cont.len, bne]; first | done | omega)))); conv => whnf)
      | (refine tst_in ?_ ?_; (focus (intro h_; exfalso; first | omega | ((try simp only [decide_eq_true_eq, decide_eq_false_iff_not] at h_); omega) | (simp [mulSz, Cont.len, bne] at h_; first | done | omega))); intro _; conv => whnf)
      | (refine tst_in ?_ ?_; rotate_left; (focus (intro h_; exfalso; first | omega | ((try simp only [decide_eq_true_eq, decide_eq_false_iff_not] at h_); omega) | (simp [mulSz, Cont.len, bne] at h_; first | done | omega))); intro _; conv => whnf)
      | (refine ⟨0, (show _ = _ by omega), ?_⟩; conv => whnf))
    refine tst_in (fun h1 => ?_) (fun h1' => ?_)
    · skip
      have h1 : 2 * j + 1 < nl := by simp at h1; omega
      have ez : ((l.getD (0 + ((2 * j : Nat) : Int).toNat) 0).toNat, (l.getD (0 + (((2 * j : Nat) : Int) + 1).toNat) 0).toNat) = zF l j := by
        unfold zF; rw [show 0 + ((2 * j : Nat) : Int).toNat = 2 * j by omega, show 0 + (((2 * j : Nat) : Int) + 1).toNat = 2 * j + 1 by omega]
      conv => whnf
      repeat (first
        | (refine And.intro ?_ ?_; (focus (first | omega | decide | exact Int.natCast_nonneg _ | ((repeat' refine And.intro ?_ ?_) <;> first | omega | exact Int.natCast_nonneg _ | (simp only [i64max, u8max, u16max, u32max, u64max]; omega) | (simp only [mulSz_eq, Cont.len, colsLen, Col.len, List.length_cons, List.length_nil, List.length_replicate, List.length_append]; first | done | omega) | (simp [mulSz, Cont.len, bne]; first | done | omega)))); conv => whnf)
        | (refine tst_in ?_ ?_; (focus (intro h_; exfalso; first | omega | ((try simp only [decide_eq_true_eq, decide_eq_false_iff_not] at h_); omega) | (simp [mulSz, Cont.len, bne] at h_; first | done | omega))); intro _; conv => whnf)
        | (refine tst_in ?_ ?_; rotate_left; (focus (intro h_; exfalso; first | omega | ((try simp only [decide_eq_true_eq, decide_eq_false_iff_not] at h_); omega) | (simp [mulSz, Cont.len, bne] at h_; first | done | omega))); intro _; conv => whnf)
        | (refine ⟨0, (show _ = _ by omega), ?_⟩; conv => whnf))
      refine ⟨_, _, fb_x _, rfl, ?_⟩
      conv => whnf
      conv => whnf
      repeat (first
        | (refine And.intro ?_ ?_; (focus (first | omega | decide | exact Int.natCast_nonneg _ | ((repeat' refine And.intro ?_ ?_) <;> first | omega | exact Int.natCast_nonneg _ | (simp only [i64max, u8max, u16max, u32max, u64max]; omega) | (simp only [mulSz_eq, Cont.len, colsLen, Col.len, List.length_cons, List.length_nil, List.length_replicate, List.length_append]; first | done | omega) | (simp [mulSz, Cont.len, bne]; first | done | omega)))); conv => whnf)
        | (refine tst_in ?_ ?_; (focus (intro h_; exfalso; first | omega | ((try simp only [decide_eq_true_eq, decide_eq_false_iff_not] at h_); omega) | (simp [mulSz, Cont.len, bne] at h_; first | done | omega))); intro _; conv => whnf)
        | (refine tst_in ?_ ?_; rotate_left; (focus (intro h_; exfalso; first | omega | ((try simp only [decide_eq_true_eq, decide_eq_false_iff_not] at h_); omega) | (simp [mulSz, Cont.len, bne] at h_; first | done | omega))); intro _; conv => whnf)
        | (refine ⟨0, (show _ = _ by omega), ?_⟩; conv => whnf))
      refine ⟨_, _, fb_x _, rfl, ?_⟩
      conv => whnf
      conv => whnf
      repeat (first
        | (refine And.intro ?_ ?_; (focus (first | omega | decide | exact Int.natCast_nonneg _ | ((repeat' refine And.intro ?_ ?_) <;> first | omega | exact Int.natCast_nonneg _ | (simp only [i64max, u8max, u16max, u32max, u64max]; omega) | (simp only [mulSz_eq, Cont.len, colsLen, Col.len, List.length_cons, List.length_nil, List.length_replicate, List.length_append, tab_len, List.length_take, List.length_drop]; first | done | omega) | (simp [mulSz, Cont.len, bne, tab_len, List.length_take, List.length_drop]; first | done | omega)))); conv => whnf)
        | (refine tst_in ?_ ?_; (focus (intro h_; exfalso; first | omega | ((try simp only [decide_eq_true_eq, decide_eq_false_iff_not] at h_); omega) | (simp [mulSz, Cont.len, bne, tab_len, List.length_take, List.length_drop] at h_; first | done | omega))); intro _; conv => whnf)
        | (refine tst_in ?_ ?_; rotate_left; (focus (intro h_; exfalso; first | omega | ((try simp only [decide_eq_true_eq, decide_eq_false_iff_not] at h_); omega) | (simp [mulSz, Cont.len, bne, tab_len, List.length_take, List.length_drop] at h_; first | done | omega))); intro _; conv => whnf)
        | (refine ⟨0, (show _ = _ by omega), ?_⟩; conv => whnf))
      intro t1
      conv => whnf
      repeat (first
        | (refine And.intro ?_ ?_; (focus (first | omega | decide | exact Int.natCast_nonneg _ | ((repeat' refine And.intro ?_ ?_) <;> first | omega | exact Int.natCast_nonneg _ | (simp only [i64max, u8max, u16max, u32max, u64max]; omega) | (simp only [mulSz_eq, Cont.len, colsLen, Col.len, List.length_cons, List.length_nil, List.length_replicate, List.length_append]; first | done | omega) | (simp [mulSz, Cont.len, bne]; first | done | omega)))); conv => whnf)
        | (refine tst_in ?_ ?_; (focus (intro h_; exfalso; first | omega | ((try simp only [decide_eq_true_eq, decide_eq_false_iff_not] at h_); omega) | (simp [mulSz, Cont.len, bne] at h_; first | done | omega))); intro _; conv => whnf)
        | (refine tst_in ?_ ?_; rotate_left; (focus (intro h_; exfalso; first | omega | ((try simp only [decide_eq_true_eq, decide_eq_false_iff_not] at h_); omega) | (simp [mulSz, Cont.len, bne] at h_; first | done | omega))); intro _; conv => whnf)
        | (refine ⟨0, (show _ = _ by omega), ?_⟩; conv => whnf))
      refine ⟨[0, 3], (j + 1, t1), ?_, (by show 2 * (j + 1) ≤ nl; omega), (by show nl - 2 * (j + 1) < nl - 2 * j; omega)⟩
      show stLe _ _ (st8 l nl ca (j + 1) t1) _
      conv => whnf
      repeat' (first | exact True.intro | rfl | refine And.intro ?_ ?_)
      all_goals (conv => whnf)
      repeat' (first | exact True.intro | rfl | refine And.intro ?_ ?_)
      all_goals (try omega)
      exact (push_tb (zF l) t t1 j _ ez).symm
    · skip
      have h1 : ¬ 2 * j + 1 < nl := by simp at h1'; omega
      have h3 : j = n := by omega
      subst h3
      conv => whnf
      repeat (first
        | (refine And.intro ?_ ?_; (focus (first | omega | decide | exact Int.natCast_nonneg _ | ((repeat' refine And.intro ?_ ?_) <;> first | omega | exact Int.natCast_nonneg _ | (simp only [i64max, u8max, u16max, u32max, u64max]; omega) | (simp only [mulSz_eq, Cont.len, colsLen, Col.len, List.length_cons, List.length_nil, List.length_replicate, List.length_append, tab_len, List.length_take, List.length_drop]; first | done | omega) | (simp [mulSz, Cont.len, bne, tab_len, List.length_take, List.length_drop]; first | done | omega)))); conv => whnf)
        | (refine tst_in ?_ ?_; (focus (intro h_; exfalso; first | omega | ((try simp only [decide_eq_true_eq, decide_eq_false_iff_not] at h_); omega) | (simp [mulSz, Cont.len, bne, tab_len, List.length_take, List.length_drop] at h_; first | done | omega))); intro _; conv => whnf)
        | (refine tst_in ?_ ?_; rotate_left; (focus (intro h_; exfalso; first | omega | ((try simp only [decide_eq_true_eq, decide_eq_false_iff_not] at h_); omega) | (simp [mulSz, Cont.len, bne, tab_len, List.length_take, List.length_drop] at h_; first | done | omega))); intro _; conv => whnf)
        | (refine ⟨0, (show _ = _ by omega), ?_⟩; conv => whnf))
      intro t1
      conv => whnf
      repeat (first
        | (refine And.intro ?_ ?_; (focus (first | omega | decide | exact Int.natCast_nonneg _ | ((repeat' refine And.intro ?_ ?_) <;> first | omega | exact Int.natCast_nonneg _ | (simp only [i64max, u8max, u16max, u32max, u64max]; omega) | (simp only [mulSz_eq, Cont.len, colsLen, Col.len, List.length_cons, List.length_nil, List.length_replicate, List.length_append]; first | done | omega) | (simp [mulSz, Cont.len, bne]; first | done | omega)))); conv => whnf)
        | (refine tst_in ?_ ?_; (focus (intro h_; exfalso; first | omega | ((try simp only [decide_eq_true_eq, decide_eq_false_iff_not] at h_); omega) | (simp [mulSz, Cont.len, bne] at h_; first | done | omega))); intro _; conv => whnf)
        | (refine tst_in ?_ ?_; rotate_left; (focus (intro h_; exfalso; first | omega | ((try simp only [decide_eq_true_eq, decide_eq_false_iff_not] at h_); omega) | (simp [mulSz, Cont.len, bne] at h_; first | done | omega))); intro _; conv => whnf)
        | (refine ⟨0, (show _ = _ by omega), ?_⟩; conv => whnf))
      refine .inl ⟨t1, [0, 3], ?_⟩
      conv => whnf
      repeat' (first | exact True.intro | rfl | refine And.intro ?_ ?_)
      all_goals (conv => whnf)
      repeat' (first | exact True.intro | rfl | refine And.intro ?_ ?_)
      all_goals (try omega)
      exact (mark_tb (zF l) t t1 j _).symm
end Go.Proofs.Ytancolnaoieafaa

set_option linter.unusedVariables false
set_option linter.unusedSimpArgs false
namespace Go.Proofs.Ytancolnaoieafaa
open Go Go.Fw
noncomputable def c16 : Code := (Try.f16.body).getD .skip
def st16 (A : List (Nat × Nat)) (l : List Int) (n ca nl cl i : Nat) : St := ⟨slotsAt 56 [(0, .slice 0 0 n ca), (1, .slice 1 0 nl cl), (5, .int .i64 n), (6, .int .i64 i)], [cxS false A, u8S l]⟩
def inv16 (A : List (Nat × Nat)) (l : List Int) (n ca nl cl : Nat) : LInv := ⟨Nat, fun i => st16 A l n ca nl cl i, fun i => i ≤ n, fun i => n - i⟩
theorem mk_eq : (FloatKind.f64.format.order 4651892959631900672 4651892959631900672 == some Ordering.eq) = true ∧ (FloatKind.f64.format.order 0 0 == some Ordering.eq) = true := ⟨by decide, by decide⟩
set_option maxHeartbeats 0 in
set_option maxRecDepth 100000 in
theorem kept_q (A : List (Nat × Nat)) (l : List Int) (n ca nl cl : Nat) (hA : n + 1 ≤ A.length) (hca : n + 1 ≤ ca) (hl : nl ≤ l.length) (hcl : nl ≤ cl) (hn : nl ≤ 17592186043904) (h2 : n = nl / 2) (hp : ∀ i, 0 ≤ l.getD i 0)
    (hE : ∀ i, i < n → A.getD i (0, 0) = zF l i) (hM : A.getD n (0, 0) = mk) :
    QFits Try.prog 16 ⟨[.slice 0 0 n ca, .slice 1 0 nl cl], [cxS false A, u8S l], .bool true⟩ := by
  refine qfits_of_body (C := cfgs 2) (c := c16) (ts := [4]) tokL mixedL (fun | 5 => some (inv16 A l n ca nl cl) | _ => none) (fun _ => none)
    Try.func16 (by kernel_rfl) (by kernel_rfl) (by kernel_rfl) (by kernel_rfl) (by kernel_rfl) rfl rfl ?_
  conv => whnf
  repeat (first
    | (refine And.intro ?_ ?_; (focus (first | omega | decide | exact Int.natCast_nonneg _ | ((repeat' refine And.intro ?_ ?_) <;> first | omega | exact Int.natCast_nonneg _ | (simp only [i64max, u8max, u16max, u32max, u64max]; omega) | (simp only [mulSz_eq, Cont.len, colsLen, Col.len, List.length_cons, List.length_nil, List.length_replicate, List.length_append]; first | done | omega) | (simp [mulSz, Cont.len, bne]; first | done | omega)))); conv => whnf)
    | (refine tst_in ?_ ?_; (focus (intro h_; exfalso; first | omega | ((try simp only [decide_eq_true_eq, decide_eq_false_iff_not] at h_); omega) | (simp [mulSz, Cont.len, bne] at h_; first | done | omega))); intro _; conv => whnf)
    | (refine tst_in ?_ ?_; rotate_left; (focus (intro h_; exfalso; first | omega | ((try simp only [decide_eq_true_eq, decide_eq_false_iff_not] at h_); omega) | (simp [mulSz, Cont.len, bne] at h_; first | done | omega))); intro _; conv => whnf)
    | (refine ⟨0, (show _ = _ by omega), ?_⟩; conv => whnf))
  rw [show 0 + ((n : Int)).toNat = n by omega, hM]
  unfold mk
  dsimp only
  rw [mk_eq.1, mk_eq.2]
  conv => whnf
  repeat (first
    | (refine And.intro ?_ ?_; (focus (first | omega | decide | exact Int.natCast_nonneg _ | ((repeat' refine And.intro ?_ ?_) <;> first | omega | exact Int.natCast_nonneg _ | (simp only [i64max, u8max, u16max, u32max, u64max]; omega) | (simp only [mulSz_eq, Cont.len, colsLen, Col.len, List.length_cons, List.length_nil, List.length_replicate, List.length_append]; first | done | omega) | (simp [mulSz, Cont.len, bne]; first | done | omega)))); conv => whnf)
    | (refine tst_in ?_ ?_; (focus (intro h_; exfalso; first | omega | ((try simp only [decide_eq_true_eq, decide_eq_false_iff_not] at h_); omega) | (simp [mulSz, Cont.len, bne] at h_; first | done | omega))); intro _; conv => whnf)
    | (refine tst_in ?_ ?_; rotate_left; (focus (intro h_; exfalso; first | omega | ((try simp only [decide_eq_true_eq, decide_eq_false_iff_not] at h_); omega) | (simp [mulSz, Cont.len, bne] at h_; first | done | omega))); intro _; conv => whnf)
    | (refine ⟨0, (show _ = _ by omega), ?_⟩; conv => whnf))
  refine ⟨⟨[0, 1], (0 : Nat), ?_, Nat.zero_le _⟩, ?_⟩
  · show stLe _ _ (st16 A l n ca nl cl 0) _
    conv => whnf
    repeat' (first | exact True.intro | rfl | refine And.intro ?_ ?_)
    all_goals (conv => whnf)
    repeat' (first | exact True.intro | rfl | refine And.intro ?_ ?_)
    all_goals (try omega)
  · intro (i : Nat) (hi : i ≤ n)
    show forceSt (st16 A l n ca nl cl i) _
    conv => whnf
    refine tst_in (fun hlt => ?_) (fun hge => ?_)
    · skip
      have hlt : i < n := by simp at hlt; omega
      have e1 := hE i hlt
      have z1 : (((zF l i).1 : Nat) : Int) = l.getD (2 * i) 0 := Int.toNat_of_nonneg (hp _)
      have z2 : (((zF l i).2 : Nat) : Int) = l.getD (2 * i + 1) 0 := Int.toNat_of_nonneg (hp _)
      conv => whnf
      repeat (first
        | (refine And.intro ?_ ?_; (focus (first | omega | decide | exact Int.natCast_nonneg _ | ((repeat' refine And.intro ?_ ?_) <;> first | omega | exact Int.natCast_nonneg _ | (simp only [i64max, u8max, u16max, u32max, u64max]; omega) | (simp only [mulSz_eq, Cont.len, colsLen, Col.len, List.length_cons, List.length_nil, List.length_replicate, List.length_append]; first | done | omega) | (simp [mulSz, Cont.len, bne]; first | done | omega)))); conv => whnf)
        | (refine tst_in ?_ ?_; (focus (intro h_; exfalso; first | omega | ((try simp only [decide_eq_true_eq, decide_eq_false_iff_not] at h_); omega) | (simp [mulSz, Cont.len, bne] at h_; first | done | omega))); intro _; conv => whnf)
        | (refine tst_in ?_ ?_; rotate_left; (focus (intro h_; exfalso; first | omega | ((try simp only [decide_eq_true_eq, decide_eq_false_iff_not] at h_); omega) | (simp [mulSz, Cont.len, bne] at h_; first | done | omega))); intro _; conv => whnf)
        | (refine ⟨0, (show _ = _ by omega), ?_⟩; conv => whnf))
      refine ⟨_, _, bf_x _, rfl, ?_⟩
      conv => whnf
      conv => whnf
      repeat (first
        | (refine And.intro ?_ ?_; (focus (first | omega | decide | exact Int.natCast_nonneg _ | ((repeat' refine And.intro ?_ ?_) <;> first | omega | exact Int.natCast_nonneg _ | (simp only [i64max, u8max, u16max, u32max, u64max]; omega) | (simp only [mulSz_eq, Cont.len, colsLen, Col.len, List.length_cons, List.length_nil, List.length_replicate, List.length_append]; first | done | omega) | (simp [mulSz, Cont.len, bne]; first | done | omega)))); conv => whnf)
        | (refine tst_in ?_ ?_; (focus (intro h_; exfalso; first | omega | ((try simp only [decide_eq_true_eq, decide_eq_false_iff_not] at h_); omega) | (simp [mulSz, Cont.len, bne] at h_; first | done | omega))); intro _; conv => whnf)
        | (refine tst_in ?_ ?_; rotate_left; (focus (intro h_; exfalso; first | omega | ((try simp only [decide_eq_true_eq, decide_eq_false_iff_not] at h_); omega) | (simp [mulSz, Cont.len, bne] at h_; first | done | omega))); intro _; conv => whnf)
        | (refine ⟨0, (show _ = _ by omega), ?_⟩; conv => whnf))
      rw [show 0 + ((i : Int)).toNat = i by omega, show 0 + (2 * (i : Int)).toNat = 2 * i by omega, e1, z1]
      refine tst_in (fun h_ => False.elim (by simp at h_ <;> omega)) (fun _ => ?_)
      conv => whnf
      conv => whnf
      repeat (first
        | (refine And.intro ?_ ?_; (focus (first | omega | decide | exact Int.natCast_nonneg _ | ((repeat' refine And.intro ?_ ?_) <;> first | omega | exact Int.natCast_nonneg _ | (simp only [i64max, u8max, u16max, u32max, u64max]; omega) | (simp only [mulSz_eq, Cont.len, colsLen, Col.len, List.length_cons, List.length_nil, List.length_replicate, List.length_append]; first | done | omega) | (simp [mulSz, Cont.len, bne]; first | done | omega)))); conv => whnf)
        | (refine tst_in ?_ ?_; (focus (intro h_; exfalso; first | omega | ((try simp only [decide_eq_true_eq, decide_eq_false_iff_not] at h_); omega) | (simp [mulSz, Cont.len, bne] at h_; first | done | omega))); intro _; conv => whnf)
        | (refine tst_in ?_ ?_; rotate_left; (focus (intro h_; exfalso; first | omega | ((try simp only [decide_eq_true_eq, decide_eq_false_iff_not] at h_); omega) | (simp [mulSz, Cont.len, bne] at h_; first | done | omega))); intro _; conv => whnf)
        | (refine ⟨0, (show _ = _ by omega), ?_⟩; conv => whnf))
      refine ⟨_, _, bf_x _, rfl, ?_⟩
      conv => whnf
      conv => whnf
      repeat (first
        | (refine And.intro ?_ ?_; (focus (first | omega | decide | exact Int.natCast_nonneg _ | ((repeat' refine And.intro ?_ ?_) <;> first | omega | exact Int.natCast_nonneg _ | (simp only [i64max, u8max, u16max, u32max, u64max]; omega) | (simp only [mulSz_eq, Cont.len, colsLen, Col.len, List.length_cons, List.length_nil, List.length_replicate, List.length_append]; first | done | omega) | (simp [mulSz, Cont.len, bne]; first | done | omega)))); conv => whnf)
        | (refine tst_in ?_ ?_; (focus (intro h_; exfalso; first | omega | ((try simp only [decide_eq_true_eq, decide_eq_false_iff_not] at h_); omega) | (simp [mulSz, Cont.len, bne] at h_; first | done | omega))); intro _; conv => whnf)
        | (refine tst_in ?_ ?_; rotate_left; (focus (intro h_; exfalso; first | omega | ((try simp only [decide_eq_true_eq, decide_eq_false_iff_not] at h_); omega) | (simp [mulSz, Cont.len, bne] at h_; first | done | omega))); intro _; conv => whnf)
        | (refine ⟨0, (show _ = _ by omega), ?_⟩; conv => whnf))
      rw [show 0 + ((i : Int)).toNat = i by omega, show 0 + (2 * (i : Int) + 1).toNat = 2 * i + 1 by omega, e1, z2]
      refine tst_in (fun h_ => False.elim (by simp at h_ <;> omega)) (fun _ => ?_)
      conv => whnf
      conv => whnf
      repeat (first
        | (refine And.intro ?_ ?_; (focus (first | omega | decide | exact Int.natCast_nonneg _ | ((repeat' refine And.intro ?_ ?_) <;> first | omega | exact Int.natCast_nonneg _ | (simp only [i64max, u8max, u16max, u32max, u64max]; omega) | (simp only [mulSz_eq, Cont.len, colsLen, Col.len, List.length_cons, List.length_nil, List.length_replicate, List.length_append]; first | done | omega) | (simp [mulSz, Cont.len, bne]; first | done | omega)))); conv => whnf)
        | (refine tst_in ?_ ?_; (focus (intro h_; exfalso; first | omega | ((try simp only [decide_eq_true_eq, decide_eq_false_iff_not] at h_); omega) | (simp [mulSz, Cont.len, bne] at h_; first | done | omega))); intro _; conv => whnf)
        | (refine tst_in ?_ ?_; rotate_left; (focus (intro h_; exfalso; first | omega | ((try simp only [decide_eq_true_eq, decide_eq_false_iff_not] at h_); omega) | (simp [mulSz, Cont.len, bne] at h_; first | done | omega))); intro _; conv => whnf)
        | (refine ⟨0, (show _ = _ by omega), ?_⟩; conv => whnf))
      refine ⟨[0, 1], i + 1, ?_, (by show i + 1 ≤ n; omega), (by show n - (i + 1) < n - i; omega)⟩
      show stLe _ _ (st16 A l n ca nl cl (i + 1)) _
      conv => whnf
      repeat' (first | exact True.intro | rfl | refine And.intro ?_ ?_)
      all_goals (conv => whnf)
      repeat' (first | exact True.intro | rfl | refine And.intro ?_ ?_)
      all_goals (try omega)
    · skip
      have hge : i = n := by simp at hge; omega
      subst hge
      conv => whnf
      repeat (first
        | (refine And.intro ?_ ?_; (focus (first | omega | decide | exact Int.natCast_nonneg _ | ((repeat' refine And.intro ?_ ?_) <;> first | omega | exact Int.natCast_nonneg _ | (simp only [i64max, u8max, u16max, u32max, u64max]; omega) | (simp only [mulSz_eq, Cont.len, colsLen, Col.len, List.length_cons, List.length_nil, List.length_replicate, List.length_append]; first | done | omega) | (simp [mulSz, Cont.len, bne]; first | done | omega)))); conv => whnf)
        | (refine tst_in ?_ ?_; (focus (intro h_; exfalso; first | omega | ((try simp only [decide_eq_true_eq, decide_eq_false_iff_not] at h_); omega) | (simp [mulSz, Cont.len, bne] at h_; first | done | omega))); intro _; conv => whnf)
        | (refine tst_in ?_ ?_; rotate_left; (focus (intro h_; exfalso; first | omega | ((try simp only [decide_eq_true_eq, decide_eq_false_iff_not] at h_); omega) | (simp [mulSz, Cont.len, bne] at h_; first | done | omega))); intro _; conv => whnf)
        | (refine ⟨0, (show _ = _ by omega), ?_⟩; conv => whnf))
end Go.Proofs.Ytancolnaoieafaa

set_option linter.unusedVariables false
set_option linter.unusedSimpArgs false
namespace Go.Proofs.Ytancolnaoieafaa
open Go Go.Fw
def resE (e : Int) : AV → AV := fun s => .tup [s, .int .i64 e]
def Lim (n m : Nat) (e : Int) : Prop := (n ≤ 65536 ∧ m = n ∧ e = 0) ∨ (65536 < n ∧ m = 0 ∧ e = 1)
/-- A row moved up by q quarters a step. -/
def upF (q : Nat) (Z : Nat → Nat × Nat) (i : Nat) : Nat × Nat := trn (i * q % 4) (Z i)
def gF (A : List (Nat × Nat)) (i : Nat) : Nat × Nat := A.getD i (0, 0)
end Go.Proofs.Ytancolnaoieafaa

set_option linter.unusedVariables false
set_option linter.unusedSimpArgs false
namespace Go.Proofs.Ytancolnaoieafaa
open Go Go.Fw
noncomputable def c38 : Code := (Try.f38.body).getD .skip
set_option maxHeartbeats 0 in
set_option maxRecDepth 100000 in
theorem clo_f (p : Nat × Nat) (q : Nat) (hq : q ≤ 3) :
    Fits Try.prog 38 ⟨[.cpx .f64 p.1 p.2, .ptr 0 0], [.seg false (.ints .i64 [(q : Int)])], [numOut [.dead] (.cpx .f64 (trn q p).1 (trn q p).2)]⟩ := by
  have TQ := Turn_q p (q : Int) q (by omega)
  refine fits_of_body (C := cfgs 1) (c := c38) (ts := [3]) tokL mixedL (fun _ => none) (fun _ => none)
    Try.func38 (by kernel_rfl) (by kernel_rfl) (by kernel_rfl) (by kernel_rfl) rfl ?_
  conv => whnf
  repeat (first
    | (refine And.intro ?_ ?_; (focus (first | omega | decide | exact Int.natCast_nonneg _ | ((repeat' refine And.intro ?_ ?_) <;> first | omega | exact Int.natCast_nonneg _ | (simp only [i64max, u8max, u16max, u32max, u64max]; omega) | (simp only [mulSz_eq, Cont.len, colsLen, Col.len, List.length_cons, List.length_nil, List.length_replicate, List.length_append]; first | done | omega) | (simp [mulSz, Cont.len, bne]; first | done | omega)))); conv => whnf)
    | (refine tst_in ?_ ?_; (focus (intro h_; exfalso; first | omega | ((try simp only [decide_eq_true_eq, decide_eq_false_iff_not] at h_); omega) | (simp [mulSz, Cont.len, bne] at h_; first | done | omega))); intro _; conv => whnf)
    | (refine tst_in ?_ ?_; rotate_left; (focus (intro h_; exfalso; first | omega | ((try simp only [decide_eq_true_eq, decide_eq_false_iff_not] at h_); omega) | (simp [mulSz, Cont.len, bne] at h_; first | done | omega))); intro _; conv => whnf)
    | (refine ⟨0, (show _ = _ by omega), ?_⟩; conv => whnf))
  refine ⟨_, [], TQ, ?_⟩
  conv => whnf
  iterate 2
   refine And.intro ?_ ?_
   focus
    conv => whnf
    repeat' (first | exact True.intro | rfl | refine And.intro ?_ ?_ | omega)
    all_goals (conv => whnf)
    all_goals (try (first | rfl | omega | (simp; done)))
  conv => whnf
  conv => whnf
  repeat (first
    | (refine And.intro ?_ ?_; (focus (first | omega | decide | exact Int.natCast_nonneg _ | ((repeat' refine And.intro ?_ ?_) <;> first | omega | exact Int.natCast_nonneg _ | (simp only [i64max, u8max, u16max, u32max, u64max]; omega) | (simp only [mulSz_eq, Cont.len, colsLen, Col.len, List.length_cons, List.length_nil, List.length_replicate, List.length_append]; first | done | omega) | (simp [mulSz, Cont.len, bne]; first | done | omega)))); conv => whnf)
    | (refine tst_in ?_ ?_; (focus (intro h_; exfalso; first | omega | ((try simp only [decide_eq_true_eq, decide_eq_false_iff_not] at h_); omega) | (simp [mulSz, Cont.len, bne] at h_; first | done | omega))); intro _; conv => whnf)
    | (refine tst_in ?_ ?_; rotate_left; (focus (intro h_; exfalso; first | omega | ((try simp only [decide_eq_true_eq, decide_eq_false_iff_not] at h_); omega) | (simp [mulSz, Cont.len, bne] at h_; first | done | omega))); intro _; conv => whnf)
    | (refine ⟨0, (show _ = _ by omega), ?_⟩; conv => whnf))
  refine .inl ⟨(), [0], ?_⟩
  conv => whnf
  repeat' (first | exact True.intro | rfl | refine And.intro ?_ ?_)
  all_goals (conv => whnf)
  repeat' (first | exact True.intro | rfl | refine And.intro ?_ ?_)
  all_goals (try (first | omega | exact True.intro | rfl | assumption | (change LE.le (α := Nat) _ _; omega) | (simp; first | done | omega)))
def fnR : Nat → List AV
  | 0 => [.nilf, .nilf, .nilf, .nilf]
  | 1 => [.fn 38 [.ptr 2 0], .nilf, .nilf, .nilf]
  | 2 => [.fn 38 [.ptr 2 0], .fn 38 [.ptr 3 0], .nilf, .nilf]
  | 3 => [.fn 38 [.ptr 2 0], .fn 38 [.ptr 3 0], .fn 38 [.ptr 4 0], .nilf]
  | _ => [.fn 38 [.ptr 2 0], .fn 38 [.ptr 3 0], .fn 38 [.ptr 4 0], .fn 38 [.ptr 5 0]]
def oneS (j : Int) : Seg := .seg true (.ints .i64 [j])
def cellR : Nat → List Seg
  | 0 => []
  | 1 => [oneS 0]
  | 2 => [oneS 0, oneS 1]
  | 3 => [oneS 0, oneS 1, oneS 2]
  | _ => [oneS 0, oneS 1, oneS 2, oneS 3]
def st37 (j : Nat) : St := ⟨[.ptr 0 0, .ptr 1 0, .any, .int .i64 j, .any, .any, .any, .any, .any, .any, .any], .seg true (.avs [.nilf, .nilf, .nilf, .nilf]) :: .seg true (.avs (fnR j)) :: cellR j⟩
noncomputable def c37 : Code := (Try.f37.body).getD .skip
set_option maxHeartbeats 0 in
set_option maxRecDepth 100000 in
theorem turning_f : Fits Try.prog 37 ⟨[], [], [⟨Unit, fun _ => True, fun _ => .agg [.fn 38 [.ptr 0 0], .fn 38 [.ptr 1 0], .fn 38 [.ptr 2 0], .fn 38 [.ptr 3 0]], fun _ => [oneS 0, oneS 1, oneS 2, oneS 3]⟩]⟩ := by
  refine fits_of_cell (C := cfgs 0) (c := c37) (t := 0) (ty := 59) tokL mixedL (fun | 3 => some ⟨Nat, st37, fun j => j ≤ 4, fun j => 4 - j⟩ | _ => none) (fun _ => none)
    Try.func37 (by kernel_rfl) (by kernel_rfl) (by kernel_rfl) (by kernel_rfl) rfl ?_
  conv => whnf
  repeat (first
    | (refine And.intro ?_ ?_; (focus (first | omega | decide | exact Int.natCast_nonneg _ | ((repeat' refine And.intro ?_ ?_) <;> first | omega | exact Int.natCast_nonneg _ | (simp only [i64max, u8max, u16max, u32max, u64max]; omega) | (simp only [mulSz_eq, Cont.len, colsLen, Col.len, List.length_cons, List.length_nil, List.length_replicate, List.length_append]; first | done | omega) | (simp [mulSz, Cont.len, bne]; first | done | omega)))); conv => whnf)
    | (refine tst_in ?_ ?_; (focus (intro h_; exfalso; first | omega | ((try simp only [decide_eq_true_eq, decide_eq_false_iff_not] at h_); omega) | (simp [mulSz, Cont.len, bne] at h_; first | done | omega))); intro _; conv => whnf)
    | (refine tst_in ?_ ?_; rotate_left; (focus (intro h_; exfalso; first | omega | ((try simp only [decide_eq_true_eq, decide_eq_false_iff_not] at h_); omega) | (simp [mulSz, Cont.len, bne] at h_; first | done | omega))); intro _; conv => whnf)
    | (refine ⟨0, (show _ = _ by omega), ?_⟩; conv => whnf))
  refine ⟨⟨[0, 1], (0 : Nat), ?_, Nat.zero_le _⟩, ?_⟩
  · show stLe _ _ (st37 0) _
    conv => whnf
    repeat' (first | exact True.intro | rfl | refine And.intro ?_ ?_)
    all_goals (conv => whnf)
    repeat' (first | exact True.intro | rfl | refine And.intro ?_ ?_)
    all_goals (try omega)
  · intro (j : Nat) (hj : j ≤ 4)
    obtain rfl | rfl | rfl | rfl | rfl : j = 0 ∨ j = 1 ∨ j = 2 ∨ j = 3 ∨ j = 4 := by omega
    · show forceSt (st37 0) _
      conv => whnf
      repeat (first
        | (refine And.intro ?_ ?_; (focus (first | omega | decide | exact Int.natCast_nonneg _ | ((repeat' refine And.intro ?_ ?_) <;> first | omega | exact Int.natCast_nonneg _ | (simp only [i64max, u8max, u16max, u32max, u64max]; omega) | (simp only [mulSz_eq, Cont.len, colsLen, Col.len, List.length_cons, List.length_nil, List.length_replicate, List.length_append]; first | done | omega) | (simp [mulSz, Cont.len, bne]; first | done | omega)))); conv => whnf)
        | (refine tst_in ?_ ?_; (focus (intro h_; exfalso; first | omega | ((try simp only [decide_eq_true_eq, decide_eq_false_iff_not] at h_); omega) | (simp [mulSz, Cont.len, bne] at h_; first | done | omega))); intro _; conv => whnf)
        | (refine tst_in ?_ ?_; rotate_left; (focus (intro h_; exfalso; first | omega | ((try simp only [decide_eq_true_eq, decide_eq_false_iff_not] at h_); omega) | (simp [mulSz, Cont.len, bne] at h_; first | done | omega))); intro _; conv => whnf)
        | (refine ⟨0, (show _ = _ by omega), ?_⟩; conv => whnf))
      refine ⟨[0, 1, 2], (1 : Nat), ?_, by decide, by decide⟩
      show stLe _ _ (st37 1) _
      conv => whnf
      repeat' (first | exact True.intro | rfl | refine And.intro ?_ ?_)
      all_goals (conv => whnf)
      repeat' (first | exact True.intro | rfl | refine And.intro ?_ ?_)
      all_goals (try omega)
    · show forceSt (st37 1) _
      conv => whnf
      repeat (first
        | (refine And.intro ?_ ?_; (focus (first | omega | decide | exact Int.natCast_nonneg _ | ((repeat' refine And.intro ?_ ?_) <;> first | omega | exact Int.natCast_nonneg _ | (simp only [i64max, u8max, u16max, u32max, u64max]; omega) | (simp only [mulSz_eq, Cont.len, colsLen, Col.len, List.length_cons, List.length_nil, List.length_replicate, List.length_append]; first | done | omega) | (simp [mulSz, Cont.len, bne]; first | done | omega)))); conv => whnf)
        | (refine tst_in ?_ ?_; (focus (intro h_; exfalso; first | omega | ((try simp only [decide_eq_true_eq, decide_eq_false_iff_not] at h_); omega) | (simp [mulSz, Cont.len, bne] at h_; first | done | omega))); intro _; conv => whnf)
        | (refine tst_in ?_ ?_; rotate_left; (focus (intro h_; exfalso; first | omega | ((try simp only [decide_eq_true_eq, decide_eq_false_iff_not] at h_); omega) | (simp [mulSz, Cont.len, bne] at h_; first | done | omega))); intro _; conv => whnf)
        | (refine ⟨0, (show _ = _ by omega), ?_⟩; conv => whnf))
      refine ⟨[0, 1, 2, 3], (2 : Nat), ?_, by decide, by decide⟩
      show stLe _ _ (st37 2) _
      conv => whnf
      repeat' (first | exact True.intro | rfl | refine And.intro ?_ ?_)
      all_goals (conv => whnf)
      repeat' (first | exact True.intro | rfl | refine And.intro ?_ ?_)
      all_goals (try omega)
    · show forceSt (st37 2) _
      conv => whnf
      repeat (first
        | (refine And.intro ?_ ?_; (focus (first | omega | decide | exact Int.natCast_nonneg _ | ((repeat' refine And.intro ?_ ?_) <;> first | omega | exact Int.natCast_nonneg _ | (simp only [i64max, u8max, u16max, u32max, u64max]; omega) | (simp only [mulSz_eq, Cont.len, colsLen, Col.len, List.length_cons, List.length_nil, List.length_replicate, List.length_append]; first | done | omega) | (simp [mulSz, Cont.len, bne]; first | done | omega)))); conv => whnf)
        | (refine tst_in ?_ ?_; (focus (intro h_; exfalso; first | omega | ((try simp only [decide_eq_true_eq, decide_eq_false_iff_not] at h_); omega) | (simp [mulSz, Cont.len, bne] at h_; first | done | omega))); intro _; conv => whnf)
        | (refine tst_in ?_ ?_; rotate_left; (focus (intro h_; exfalso; first | omega | ((try simp only [decide_eq_true_eq, decide_eq_false_iff_not] at h_); omega) | (simp [mulSz, Cont.len, bne] at h_; first | done | omega))); intro _; conv => whnf)
        | (refine ⟨0, (show _ = _ by omega), ?_⟩; conv => whnf))
      refine ⟨[0, 1, 2, 3, 4], (3 : Nat), ?_, by decide, by decide⟩
      show stLe _ _ (st37 3) _
      conv => whnf
      repeat' (first | exact True.intro | rfl | refine And.intro ?_ ?_)
      all_goals (conv => whnf)
      repeat' (first | exact True.intro | rfl | refine And.intro ?_ ?_)
      all_goals (try omega)
    · show forceSt (st37 3) _
      conv => whnf
      repeat (first
        | (refine And.intro ?_ ?_; (focus (first | omega | decide | exact Int.natCast_nonneg _ | ((repeat' refine And.intro ?_ ?_) <;> first | omega | exact Int.natCast_nonneg _ | (simp only [i64max, u8max, u16max, u32max, u64max]; omega) | (simp only [mulSz_eq, Cont.len, colsLen, Col.len, List.length_cons, List.length_nil, List.length_replicate, List.length_append]; first | done | omega) | (simp [mulSz, Cont.len, bne]; first | done | omega)))); conv => whnf)
        | (refine tst_in ?_ ?_; (focus (intro h_; exfalso; first | omega | ((try simp only [decide_eq_true_eq, decide_eq_false_iff_not] at h_); omega) | (simp [mulSz, Cont.len, bne] at h_; first | done | omega))); intro _; conv => whnf)
        | (refine tst_in ?_ ?_; rotate_left; (focus (intro h_; exfalso; first | omega | ((try simp only [decide_eq_true_eq, decide_eq_false_iff_not] at h_); omega) | (simp [mulSz, Cont.len, bne] at h_; first | done | omega))); intro _; conv => whnf)
        | (refine ⟨0, (show _ = _ by omega), ?_⟩; conv => whnf))
      refine ⟨[0, 1, 2, 3, 4, 5], (4 : Nat), ?_, by decide, by decide⟩
      show stLe _ _ (st37 4) _
      conv => whnf
      repeat' (first | exact True.intro | rfl | refine And.intro ?_ ?_)
      all_goals (conv => whnf)
      repeat' (first | exact True.intro | rfl | refine And.intro ?_ ?_)
      all_goals (try omega)
    · show forceSt (st37 4) _
      conv => whnf
      repeat (first
        | (refine And.intro ?_ ?_; (focus (first | omega | decide | exact Int.natCast_nonneg _ | ((repeat' refine And.intro ?_ ?_) <;> first | omega | exact Int.natCast_nonneg _ | (simp only [i64max, u8max, u16max, u32max, u64max]; omega) | (simp only [mulSz_eq, Cont.len, colsLen, Col.len, List.length_cons, List.length_nil, List.length_replicate, List.length_append]; first | done | omega) | (simp [mulSz, Cont.len, bne]; first | done | omega)))); conv => whnf)
        | (refine tst_in ?_ ?_; (focus (intro h_; exfalso; first | omega | ((try simp only [decide_eq_true_eq, decide_eq_false_iff_not] at h_); omega) | (simp [mulSz, Cont.len, bne] at h_; first | done | omega))); intro _; conv => whnf)
        | (refine tst_in ?_ ?_; rotate_left; (focus (intro h_; exfalso; first | omega | ((try simp only [decide_eq_true_eq, decide_eq_false_iff_not] at h_); omega) | (simp [mulSz, Cont.len, bne] at h_; first | done | omega))); intro _; conv => whnf)
        | (refine ⟨0, (show _ = _ by omega), ?_⟩; conv => whnf))
      refine .inl ⟨(), [2, 3, 4, 5], ?_⟩
      conv => whnf
      repeat' (first | exact True.intro | rfl | refine And.intro ?_ ?_)
      all_goals (conv => whnf)
      repeat' (first | exact True.intro | rfl | refine And.intro ?_ ?_)
      all_goals (try omega)
end Go.Proofs.Ytancolnaoieafaa

set_option linter.unusedVariables false
set_option linter.unusedSimpArgs false
namespace Go.Proofs.Ytancolnaoieafaa
open Go Go.Fw
theorem set_tb {α : Type} (F : Nat → α) (z x : α) (i n : Nat) (hi : i < n) (hx : x = F i) : (tb F i ++ List.replicate (n - i) z).set (0 + i) x = tb F (i + 1) ++ List.replicate (n - (i + 1)) z := by
  subst hx
  refine row_ext (z) ?_ ?_
  · simp only [List.length_append, List.length_take, List.length_drop, List.length_set, List.length_replicate, tab_len, List.length_map, List.length_range, List.length_cons, List.length_nil]
    try omega
  · intro i_ hi_
    simp only [List.length_append, List.length_take, List.length_drop, List.length_set, List.length_replicate, tab_len, List.length_map, List.length_range, List.length_cons, List.length_nil] at hi_
    simp only [g_app, g_take, g_drop, g_set, g_rep, g_tab, g_one, g_nil, List.length_append, List.length_take, List.length_drop, List.length_set, List.length_replicate, tab_len, List.length_map, List.length_range, List.length_cons, List.length_nil]
    repeat' split
    all_goals (try (first | rfl | omega | (congr 1; omega) | (simp; omega) | (rw [decide_eq_decide]; omega) | (symm; simp; omega)))
  all_goals (have : i_ = i := by omega)
  all_goals (subst this; rfl)
noncomputable def c34 : Code := (Try.f34.body).getD .skip
def arrS : Seg := .seg true (.avs [.fn 38 [.ptr 1 0], .fn 38 [.ptr 2 0], .fn 38 [.ptr 3 0], .fn 38 [.ptr 4 0]])
def st34 (A : List (Nat × Nat)) (n ca : Nat) (qq : Int) (q i : Nat) : St := ⟨slotsAt 37 [(0, .slice 0 0 n ca), (1, .int .i64 qq), (6, .ptr 5 0), (7, .slice 6 0 n n), (17, .slice 0 0 n ca), (18, .int .i64 n), (19, .int .i64 i)],
  [cxS false A, oneS 0, oneS 1, oneS 2, oneS 3, arrS, cxS true (tb (upF q (gF A)) i ++ List.replicate (n - i) (0, 0))]⟩
def inv34 (A : List (Nat × Nat)) (n ca : Nat) (qq : Int) (q : Nat) : LInv := ⟨Nat, fun i => st34 A n ca qq q i, fun i => i ≤ n, fun i => n - i⟩
theorem mulq (i q : Nat) (qq : Int) (hq : qq % 4 = (q : Int)) : IntKind.i64.wrap ((i : Int) * qq) % 4 = ((i * q % 4 : Nat) : Int) := by
  have hw : IntKind.i64.wrap ((i : Int) * qq) % 4 = ((i : Int) * qq) % 4 := by
    generalize (i : Int) * qq = x
    unfold IntKind.wrap
    simp [IntKind.bits, IntKind.signed]
    split <;> omega
  have e : qq = 4 * (qq / 4) + q := by omega
  rw [hw, Int.natCast_emod, Int.natCast_mul]
  conv => lhs; rw [e, Int.mul_add, ← Int.mul_assoc, Int.mul_comm (i : Int) 4, Int.mul_assoc, Int.mul_add_emod_self_left]
  rfl
attribute [local irreducible] rawBits
set_option maxHeartbeats 0 in
set_option maxRecDepth 100000 in
theorem moved_f (A : List (Nat × Nat)) (n ca m : Nat) (e : Int) (qq : Int) (q : Nat) (hA : n ≤ A.length) (hca : n ≤ ca) (hn : n ≤ 17592186043904) (hq : qq % 4 = (q : Int)) (hm : Lim n m e) :
    Fits Try.prog 34 ⟨[.slice 0 0 n ca, .int .i64 qq], [cxS false A], [rOut [.dead] 1 (resE e) (upF q (gF A)) m]⟩ := by
  refine fits_of_body (C := { cfgs 1 with sgn := fun | 8 => true | _ => false, wr := fun | 8 => true | _ => false }) (c := c34) (ts := [4, 5]) tokL mixedL (fun | 6 => some (inv34 A n ca qq q) | _ => none) (fun _ => none)
    Try.func34 (by kernel_rfl) (by kernel_rfl) (by kernel_rfl) (by kernel_rfl) rfl ?_
  have TF := turning_f
  obtain ⟨hn, rfl, rfl⟩ | ⟨hn, rfl, rfl⟩ := hm
  · skip
    conv => whnf
    repeat (first
      | (refine And.intro ?_ ?_; (focus (first | omega | decide | exact Int.natCast_nonneg _ | ((repeat' refine And.intro ?_ ?_) <;> first | omega | exact Int.natCast_nonneg _ | (simp only [i64max, u8max, u16max, u32max, u64max]; omega) | (simp only [mulSz_eq, Cont.len, colsLen, Col.len, List.length_cons, List.length_nil, List.length_replicate, List.length_append]; first | done | omega) | (simp [mulSz, Cont.len, bne]; first | done | omega)))); conv => whnf)
      | (refine tst_in ?_ ?_; (focus (intro h_; exfalso; first | omega | ((try simp only [decide_eq_true_eq, decide_eq_false_iff_not] at h_); omega) | (simp [mulSz, Cont.len, bne] at h_; first | done | omega))); intro _; conv => whnf)
      | (refine tst_in ?_ ?_; rotate_left; (focus (intro h_; exfalso; first | omega | ((try simp only [decide_eq_true_eq, decide_eq_false_iff_not] at h_); omega) | (simp [mulSz, Cont.len, bne] at h_; first | done | omega))); intro _; conv => whnf)
      | (refine ⟨0, (show _ = _ by omega), ?_⟩; conv => whnf))
    refine ⟨_, [], TF, ?_⟩
    conv => whnf
    iterate 2
     refine And.intro ?_ ?_
     focus
      conv => whnf
      repeat' (first | exact True.intro | rfl | refine And.intro ?_ ?_ | omega)
      all_goals (conv => whnf)
      all_goals (try (first | rfl | omega | (simp; done)))
    conv => whnf
    refine ⟨?_, True.intro⟩
    intro _ _
    conv => whnf
    conv => whnf
    repeat (first
      | (refine And.intro ?_ ?_; (focus (first | omega | decide | exact Int.natCast_nonneg _ | ((repeat' refine And.intro ?_ ?_) <;> first | omega | exact Int.natCast_nonneg _ | (simp only [i64max, u8max, u16max, u32max, u64max]; omega) | (simp only [mulSz_eq, Cont.len, colsLen, Col.len, List.length_cons, List.length_nil, List.length_replicate, List.length_append]; first | done | omega) | (simp [mulSz, Cont.len, bne]; first | done | omega)))); conv => whnf)
      | (refine tst_in ?_ ?_; (focus (intro h_; exfalso; first | omega | ((try simp only [decide_eq_true_eq, decide_eq_false_iff_not] at h_); omega) | (simp [mulSz, Cont.len, bne] at h_; first | done | omega))); intro _; conv => whnf)
      | (refine tst_in ?_ ?_; rotate_left; (focus (intro h_; exfalso; first | omega | ((try simp only [decide_eq_true_eq, decide_eq_false_iff_not] at h_); omega) | (simp [mulSz, Cont.len, bne] at h_; first | done | omega))); intro _; conv => whnf)
      | (refine ⟨0, (show _ = _ by omega), ?_⟩; conv => whnf))
    refine ⟨⟨[0, 1, 2, 3, 4, 5, 6], (0 : Nat), ?_, Nat.zero_le _⟩, ?_⟩
    · show stLe _ _ (st34 A m ca qq q 0) _
      conv => whnf
      repeat' (first | exact True.intro | rfl | refine And.intro ?_ ?_)
      all_goals (conv => whnf)
      repeat' (first | exact True.intro | rfl | refine And.intro ?_ ?_)
      all_goals (try omega)
    · intro (i : Nat) (hi : i ≤ m)
      show forceSt (st34 A m ca qq q i) _
      conv => whnf
      refine tst_in (fun h1 => ?_) (fun h1' => ?_)
      · skip
        have h1 : i < m := by simp at h1; omega
        conv => whnf
        conv => whnf
        repeat (first
          | (refine And.intro ?_ ?_; (focus (first | omega | decide | exact Int.natCast_nonneg _ | ((repeat' refine And.intro ?_ ?_) <;> first | omega | exact Int.natCast_nonneg _ | (simp only [i64max, u8max, u16max, u32max, u64max]; omega) | (simp only [mulSz_eq, Cont.len, colsLen, Col.len, List.length_cons, List.length_nil, List.length_replicate, List.length_append]; first | done | omega) | (simp [mulSz, Cont.len, bne]; first | done | omega)))); conv => whnf)
          | (refine tst_in ?_ ?_; (focus (intro h_; exfalso; first | omega | ((try simp only [decide_eq_true_eq, decide_eq_false_iff_not] at h_); omega) | (simp [mulSz, Cont.len, bne] at h_; first | done | omega))); intro _; conv => whnf)
          | (refine tst_in ?_ ?_; rotate_left; (focus (intro h_; exfalso; first | omega | ((try simp only [decide_eq_true_eq, decide_eq_false_iff_not] at h_); omega) | (simp [mulSz, Cont.len, bne] at h_; first | done | omega))); intro _; conv => whnf)
          | (refine ⟨0, (show _ = _ by omega), ?_⟩; conv => whnf))
        have ha := and3 (IntKind.i64.wrap ((i : Int) * qq))
        rw [mulq i q qq hq] at ha
        generalize rawBits .and .i64 (IntKind.i64.wrap ((i : Int) * qq)) 3 = t at *
        subst ha
        have hlt : i * q % 4 < 4 := Nat.mod_lt _ (by decide)
        have hu : trn (i * q % 4) (A.getD i (0, 0)) = upF q (gF A) i := rfl
        generalize i * q % 4 = k at *
        obtain rfl | rfl | rfl | rfl : k = 0 ∨ k = 1 ∨ k = 2 ∨ k = 3 := by omega
        · have CL := clo_f (A.getD i (0, 0)) 0 (by decide)
          conv => whnf
          repeat (first
            | (refine And.intro ?_ ?_; (focus (first | omega | decide | exact Int.natCast_nonneg _ | ((repeat' refine And.intro ?_ ?_) <;> first | omega | exact Int.natCast_nonneg _ | (simp only [i64max, u8max, u16max, u32max, u64max]; omega) | (simp only [mulSz_eq, Cont.len, colsLen, Col.len, List.length_cons, List.length_nil, List.length_replicate, List.length_append]; first | done | omega) | (simp [mulSz, Cont.len, bne]; first | done | omega)))); conv => whnf)
            | (refine tst_in ?_ ?_; (focus (intro h_; exfalso; first | omega | ((try simp only [decide_eq_true_eq, decide_eq_false_iff_not] at h_); omega) | (simp [mulSz, Cont.len, bne] at h_; first | done | omega))); intro _; conv => whnf)
            | (refine tst_in ?_ ?_; rotate_left; (focus (intro h_; exfalso; first | omega | ((try simp only [decide_eq_true_eq, decide_eq_false_iff_not] at h_); omega) | (simp [mulSz, Cont.len, bne] at h_; first | done | omega))); intro _; conv => whnf)
            | (refine ⟨0, (show _ = _ by omega), ?_⟩; conv => whnf))
          refine ⟨_, [1], CL, ?_⟩
          conv => whnf
          iterate 2
           refine And.intro ?_ ?_
           focus
            conv => whnf
            repeat' (first | exact True.intro | rfl | refine And.intro ?_ ?_ | omega)
            all_goals (conv => whnf)
            all_goals (try (first | rfl | omega | (simp; done)))
          conv => whnf
          refine ⟨?_, True.intro⟩
          intro _ _
          conv => whnf
          conv => whnf
          repeat (first
            | (refine And.intro ?_ ?_; (focus (first | omega | decide | exact Int.natCast_nonneg _ | ((repeat' refine And.intro ?_ ?_) <;> first | omega | exact Int.natCast_nonneg _ | (simp only [i64max, u8max, u16max, u32max, u64max]; omega) | (simp only [mulSz_eq, Cont.len, colsLen, Col.len, List.length_cons, List.length_nil, List.length_replicate, List.length_append, tab_len, List.length_append, List.length_replicate]; first | done | omega) | (simp [mulSz, Cont.len, bne, tab_len, List.length_append, List.length_replicate]; first | done | omega)))); conv => whnf)
            | (refine tst_in ?_ ?_; (focus (intro h_; exfalso; first | omega | ((try simp only [decide_eq_true_eq, decide_eq_false_iff_not] at h_); omega) | (simp [mulSz, Cont.len, bne, tab_len, List.length_append, List.length_replicate] at h_; first | done | omega))); intro _; conv => whnf)
            | (refine tst_in ?_ ?_; rotate_left; (focus (intro h_; exfalso; first | omega | ((try simp only [decide_eq_true_eq, decide_eq_false_iff_not] at h_); omega) | (simp [mulSz, Cont.len, bne, tab_len, List.length_append, List.length_replicate] at h_; first | done | omega))); intro _; conv => whnf)
            | (refine ⟨0, (show _ = _ by omega), ?_⟩; conv => whnf))
          refine ⟨[0, 1, 2, 3, 4, 5, 6], i + 1, ?_, (by show i + 1 ≤ m; omega), (by show m - (i + 1) < m - i; omega)⟩
          show stLe _ _ (st34 A m ca qq q (i + 1)) _
          conv => whnf
          repeat' (first | exact True.intro | rfl | refine And.intro ?_ ?_)
          all_goals (conv => whnf)
          repeat' (first | exact True.intro | rfl | refine And.intro ?_ ?_)
          all_goals (try omega)
          exact (set_tb (upF q (gF A)) (0, 0) _ i m h1 hu).symm
        · have CL := clo_f (A.getD i (0, 0)) 1 (by decide)
          conv => whnf
          repeat (first
            | (refine And.intro ?_ ?_; (focus (first | omega | decide | exact Int.natCast_nonneg _ | ((repeat' refine And.intro ?_ ?_) <;> first | omega | exact Int.natCast_nonneg _ | (simp only [i64max, u8max, u16max, u32max, u64max]; omega) | (simp only [mulSz_eq, Cont.len, colsLen, Col.len, List.length_cons, List.length_nil, List.length_replicate, List.length_append]; first | done | omega) | (simp [mulSz, Cont.len, bne]; first | done | omega)))); conv => whnf)
            | (refine tst_in ?_ ?_; (focus (intro h_; exfalso; first | omega | ((try simp only [decide_eq_true_eq, decide_eq_false_iff_not] at h_); omega) | (simp [mulSz, Cont.len, bne] at h_; first | done | omega))); intro _; conv => whnf)
            | (refine tst_in ?_ ?_; rotate_left; (focus (intro h_; exfalso; first | omega | ((try simp only [decide_eq_true_eq, decide_eq_false_iff_not] at h_); omega) | (simp [mulSz, Cont.len, bne] at h_; first | done | omega))); intro _; conv => whnf)
            | (refine ⟨0, (show _ = _ by omega), ?_⟩; conv => whnf))
          refine ⟨_, [2], CL, ?_⟩
          conv => whnf
          iterate 2
           refine And.intro ?_ ?_
           focus
            conv => whnf
            repeat' (first | exact True.intro | rfl | refine And.intro ?_ ?_ | omega)
            all_goals (conv => whnf)
            all_goals (try (first | rfl | omega | (simp; done)))
          conv => whnf
          refine ⟨?_, True.intro⟩
          intro _ _
          conv => whnf
          conv => whnf
          repeat (first
            | (refine And.intro ?_ ?_; (focus (first | omega | decide | exact Int.natCast_nonneg _ | ((repeat' refine And.intro ?_ ?_) <;> first | omega | exact Int.natCast_nonneg _ | (simp only [i64max, u8max, u16max, u32max, u64max]; omega) | (simp only [mulSz_eq, Cont.len, colsLen, Col.len, List.length_cons, List.length_nil, List.length_replicate, List.length_append, tab_len, List.length_append, List.length_replicate]; first | done | omega) | (simp [mulSz, Cont.len, bne, tab_len, List.length_append, List.length_replicate]; first | done | omega)))); conv => whnf)
            | (refine tst_in ?_ ?_; (focus (intro h_; exfalso; first | omega | ((try simp only [decide_eq_true_eq, decide_eq_false_iff_not] at h_); omega) | (simp [mulSz, Cont.len, bne, tab_len, List.length_append, List.length_replicate] at h_; first | done | omega))); intro _; conv => whnf)
            | (refine tst_in ?_ ?_; rotate_left; (focus (intro h_; exfalso; first | omega | ((try simp only [decide_eq_true_eq, decide_eq_false_iff_not] at h_); omega) | (simp [mulSz, Cont.len, bne, tab_len, List.length_append, List.length_replicate] at h_; first | done | omega))); intro _; conv => whnf)
            | (refine ⟨0, (show _ = _ by omega), ?_⟩; conv => whnf))
          refine ⟨[0, 1, 2, 3, 4, 5, 6], i + 1, ?_, (by show i + 1 ≤ m; omega), (by show m - (i + 1) < m - i; omega)⟩
          show stLe _ _ (st34 A m ca qq q (i + 1)) _
          conv => whnf
          repeat' (first | exact True.intro | rfl | refine And.intro ?_ ?_)
          all_goals (conv => whnf)
          repeat' (first | exact True.intro | rfl | refine And.intro ?_ ?_)
          all_goals (try omega)
          exact (set_tb (upF q (gF A)) (0, 0) _ i m h1 hu).symm
        · have CL := clo_f (A.getD i (0, 0)) 2 (by decide)
          conv => whnf
          repeat (first
            | (refine And.intro ?_ ?_; (focus (first | omega | decide | exact Int.natCast_nonneg _ | ((repeat' refine And.intro ?_ ?_) <;> first | omega | exact Int.natCast_nonneg _ | (simp only [i64max, u8max, u16max, u32max, u64max]; omega) | (simp only [mulSz_eq, Cont.len, colsLen, Col.len, List.length_cons, List.length_nil, List.length_replicate, List.length_append]; first | done | omega) | (simp [mulSz, Cont.len, bne]; first | done | omega)))); conv => whnf)
            | (refine tst_in ?_ ?_; (focus (intro h_; exfalso; first | omega | ((try simp only [decide_eq_true_eq, decide_eq_false_iff_not] at h_); omega) | (simp [mulSz, Cont.len, bne] at h_; first | done | omega))); intro _; conv => whnf)
            | (refine tst_in ?_ ?_; rotate_left; (focus (intro h_; exfalso; first | omega | ((try simp only [decide_eq_true_eq, decide_eq_false_iff_not] at h_); omega) | (simp [mulSz, Cont.len, bne] at h_; first | done | omega))); intro _; conv => whnf)
            | (refine ⟨0, (show _ = _ by omega), ?_⟩; conv => whnf))
          refine ⟨_, [3], CL, ?_⟩
          conv => whnf
          iterate 2
           refine And.intro ?_ ?_
           focus
            conv => whnf
            repeat' (first | exact True.intro | rfl | refine And.intro ?_ ?_ | omega)
            all_goals (conv => whnf)
            all_goals (try (first | rfl | omega | (simp; done)))
          conv => whnf
          refine ⟨?_, True.intro⟩
          intro _ _
          conv => whnf
          conv => whnf
          repeat (first
            | (refine And.intro ?_ ?_; (focus (first | omega | decide | exact Int.natCast_nonneg _ | ((repeat' refine And.intro ?_ ?_) <;> first | omega | exact Int.natCast_nonneg _ | (simp only [i64max, u8max, u16max, u32max, u64max]; omega) | (simp only [mulSz_eq, Cont.len, colsLen, Col.len, List.length_cons, List.length_nil, List.length_replicate, List.length_append, tab_len, List.length_append, List.length_replicate]; first | done | omega) | (simp [mulSz, Cont.len, bne, tab_len, List.length_append, List.length_replicate]; first | done | omega)))); conv => whnf)
            | (refine tst_in ?_ ?_; (focus (intro h_; exfalso; first | omega | ((try simp only [decide_eq_true_eq, decide_eq_false_iff_not] at h_); omega) | (simp [mulSz, Cont.len, bne, tab_len, List.length_append, List.length_replicate] at h_; first | done | omega))); intro _; conv => whnf)
            | (refine tst_in ?_ ?_; rotate_left; (focus (intro h_; exfalso; first | omega | ((try simp only [decide_eq_true_eq, decide_eq_false_iff_not] at h_); omega) | (simp [mulSz, Cont.len, bne, tab_len, List.length_append, List.length_replicate] at h_; first | done | omega))); intro _; conv => whnf)
            | (refine ⟨0, (show _ = _ by omega), ?_⟩; conv => whnf))
          refine ⟨[0, 1, 2, 3, 4, 5, 6], i + 1, ?_, (by show i + 1 ≤ m; omega), (by show m - (i + 1) < m - i; omega)⟩
          show stLe _ _ (st34 A m ca qq q (i + 1)) _
          conv => whnf
          repeat' (first | exact True.intro | rfl | refine And.intro ?_ ?_)
          all_goals (conv => whnf)
          repeat' (first | exact True.intro | rfl | refine And.intro ?_ ?_)
          all_goals (try omega)
          exact (set_tb (upF q (gF A)) (0, 0) _ i m h1 hu).symm
        · have CL := clo_f (A.getD i (0, 0)) 3 (by decide)
          conv => whnf
          repeat (first
            | (refine And.intro ?_ ?_; (focus (first | omega | decide | exact Int.natCast_nonneg _ | ((repeat' refine And.intro ?_ ?_) <;> first | omega | exact Int.natCast_nonneg _ | (simp only [i64max, u8max, u16max, u32max, u64max]; omega) | (simp only [mulSz_eq, Cont.len, colsLen, Col.len, List.length_cons, List.length_nil, List.length_replicate, List.length_append]; first | done | omega) | (simp [mulSz, Cont.len, bne]; first | done | omega)))); conv => whnf)
            | (refine tst_in ?_ ?_; (focus (intro h_; exfalso; first | omega | ((try simp only [decide_eq_true_eq, decide_eq_false_iff_not] at h_); omega) | (simp [mulSz, Cont.len, bne] at h_; first | done | omega))); intro _; conv => whnf)
            | (refine tst_in ?_ ?_; rotate_left; (focus (intro h_; exfalso; first | omega | ((try simp only [decide_eq_true_eq, decide_eq_false_iff_not] at h_); omega) | (simp [mulSz, Cont.len, bne] at h_; first | done | omega))); intro _; conv => whnf)
            | (refine ⟨0, (show _ = _ by omega), ?_⟩; conv => whnf))
          refine ⟨_, [4], CL, ?_⟩
          conv => whnf
          iterate 2
           refine And.intro ?_ ?_
           focus
            conv => whnf
            repeat' (first | exact True.intro | rfl | refine And.intro ?_ ?_ | omega)
            all_goals (conv => whnf)
            all_goals (try (first | rfl | omega | (simp; done)))
          conv => whnf
          refine ⟨?_, True.intro⟩
          intro _ _
          conv => whnf
          conv => whnf
          repeat (first
            | (refine And.intro ?_ ?_; (focus (first | omega | decide | exact Int.natCast_nonneg _ | ((repeat' refine And.intro ?_ ?_) <;> first | omega | exact Int.natCast_nonneg _ | (simp only [i64max, u8max, u16max, u32max, u64max]; omega) | (simp only [mulSz_eq, Cont.len, colsLen, Col.len, List.length_cons, List.length_nil, List.length_replicate, List.length_append, tab_len, List.length_append, List.length_replicate]; first | done | omega) | (simp [mulSz, Cont.len, bne, tab_len, List.length_append, List.length_replicate]; first | done | omega)))); conv => whnf)
            | (refine tst_in ?_ ?_; (focus (intro h_; exfalso; first | omega | ((try simp only [decide_eq_true_eq, decide_eq_false_iff_not] at h_); omega) | (simp [mulSz, Cont.len, bne, tab_len, List.length_append, List.length_replicate] at h_; first | done | omega))); intro _; conv => whnf)
            | (refine tst_in ?_ ?_; rotate_left; (focus (intro h_; exfalso; first | omega | ((try simp only [decide_eq_true_eq, decide_eq_false_iff_not] at h_); omega) | (simp [mulSz, Cont.len, bne, tab_len, List.length_append, List.length_replicate] at h_; first | done | omega))); intro _; conv => whnf)
            | (refine ⟨0, (show _ = _ by omega), ?_⟩; conv => whnf))
          refine ⟨[0, 1, 2, 3, 4, 5, 6], i + 1, ?_, (by show i + 1 ≤ m; omega), (by show m - (i + 1) < m - i; omega)⟩
          show stLe _ _ (st34 A m ca qq q (i + 1)) _
          conv => whnf
          repeat' (first | exact True.intro | rfl | refine And.intro ?_ ?_)
          all_goals (conv => whnf)
          repeat' (first | exact True.intro | rfl | refine And.intro ?_ ?_)
          all_goals (try omega)
          exact (set_tb (upF q (gF A)) (0, 0) _ i m h1 hu).symm
      · skip
        have h1 : i = m := by simp at h1'; omega
        subst h1
        conv => whnf
        repeat (first
          | (refine And.intro ?_ ?_; (focus (first | omega | decide | exact Int.natCast_nonneg _ | ((repeat' refine And.intro ?_ ?_) <;> first | omega | exact Int.natCast_nonneg _ | (simp only [i64max, u8max, u16max, u32max, u64max]; omega) | (simp only [mulSz_eq, Cont.len, colsLen, Col.len, List.length_cons, List.length_nil, List.length_replicate, List.length_append]; first | done | omega) | (simp [mulSz, Cont.len, bne]; first | done | omega)))); conv => whnf)
          | (refine tst_in ?_ ?_; (focus (intro h_; exfalso; first | omega | ((try simp only [decide_eq_true_eq, decide_eq_false_iff_not] at h_); omega) | (simp [mulSz, Cont.len, bne] at h_; first | done | omega))); intro _; conv => whnf)
          | (refine tst_in ?_ ?_; rotate_left; (focus (intro h_; exfalso; first | omega | ((try simp only [decide_eq_true_eq, decide_eq_false_iff_not] at h_); omega) | (simp [mulSz, Cont.len, bne] at h_; first | done | omega))); intro _; conv => whnf)
          | (refine ⟨0, (show _ = _ by omega), ?_⟩; conv => whnf))
        refine .inl ⟨[], [0, 6], ?_⟩
        conv => whnf
        repeat' (first | exact True.intro | rfl | refine And.intro ?_ ?_)
        all_goals (conv => whnf)
        repeat' (first | exact True.intro | rfl | refine And.intro ?_ ?_)
        all_goals (try omega)
        rw [Nat.sub_self]; rfl
  · skip
    conv => whnf
    repeat (first
      | (refine And.intro ?_ ?_; (focus (first | omega | decide | exact Int.natCast_nonneg _ | ((repeat' refine And.intro ?_ ?_) <;> first | omega | exact Int.natCast_nonneg _ | (simp only [i64max, u8max, u16max, u32max, u64max]; omega) | (simp only [mulSz_eq, Cont.len, colsLen, Col.len, List.length_cons, List.length_nil, List.length_replicate, List.length_append]; first | done | omega) | (simp [mulSz, Cont.len, bne]; first | done | omega)))); conv => whnf)
      | (refine tst_in ?_ ?_; (focus (intro h_; exfalso; first | omega | ((try simp only [decide_eq_true_eq, decide_eq_false_iff_not] at h_); omega) | (simp [mulSz, Cont.len, bne] at h_; first | done | omega))); intro _; conv => whnf)
      | (refine tst_in ?_ ?_; rotate_left; (focus (intro h_; exfalso; first | omega | ((try simp only [decide_eq_true_eq, decide_eq_false_iff_not] at h_); omega) | (simp [mulSz, Cont.len, bne] at h_; first | done | omega))); intro _; conv => whnf)
      | (refine ⟨0, (show _ = _ by omega), ?_⟩; conv => whnf))
    refine .inl ⟨[], [0, 9], ?_⟩
    conv => whnf
    repeat' (first | exact True.intro | rfl | refine And.intro ?_ ?_)
    all_goals (conv => whnf)
    repeat' (first | exact True.intro | rfl | refine And.intro ?_ ?_)
    all_goals (try omega)
end Go.Proofs.Ytancolnaoieafaa

set_option linter.unusedVariables false
set_option linter.unusedSimpArgs false
namespace Go.Proofs.Ytancolnaoieafaa
open Go Go.Fw
end Go.Proofs.Ytancolnaoieafaa

set_option linter.unusedVariables false
set_option linter.unusedSimpArgs false
namespace Go.Proofs.Ytancolnaoieafaa
open Go Go.Fw
noncomputable def c15 : Code := (Try.f15.body).getD .skip
def st15 (B C : List (Nat × Nat)) (m cb cc i : Nat) (X : YT) : St := ⟨slotsAt 46 [(0, .slice 0 0 m X.length), (1, .slice 1 0 m cb), (2, .slice 2 0 m cc), (7, .int .i64 i)], [cxS true X, cxS false B, cxS false C]⟩
def inv15 (B C : List (Nat × Nat)) (m cb cc : Nat) : LInv := ⟨Nat × YT, fun y => st15 B C m cb cc y.1 y.2, fun y => y.1 ≤ m ∧ m ≤ y.2.length, fun y => m - y.1⟩
def st15a (B C : List (Nat × Nat)) (m cb cc : Nat) (X : YT) : St := ⟨slotsAt 46 [(0, .slice 0 0 m X.length), (1, .slice 1 0 m cb), (2, .slice 2 0 m cc), (8, .int .i64 0)], [cxS true X, cxS false B, cxS false C]⟩
def st15b (B C : List (Nat × Nat)) (m cb cc k : Nat) (X : YT) : St := ⟨slotsAt 46 [(0, .slice 3 0 (m + k) X.length), (1, .slice 1 0 m cb), (2, .slice 2 0 m cc), (8, .int .i64 k)], [.dead, cxS false B, cxS false C, cxS true X]⟩
def st15c (B C : List (Nat × Nat)) (m cb cc : Nat) (X : YT) : Nat → St
  | 0 => st15a B C m cb cc X
  | k + 1 => st15b B C m cb cc (k + 1) X
def inv15b (B C : List (Nat × Nat)) (m cb cc : Nat) : LInv := ⟨Nat × YT, fun y => st15c B C m cb cc y.2 y.1, fun y => y.1 ≤ 20 ∧ m + y.1 ≤ y.2.length, fun y => 20 - y.1⟩
theorem six_len (n : Nat) (Y t1 : YT) (h : n ≤ Y.length) : (List.take n (List.drop 0 Y) ++ List.take 1 (List.drop 0 [((4618441417868443648, 0) : Nat × Nat)]) ++ t1).length = n + 1 + t1.length := by
  rw [List.length_append, List.length_append, List.length_take, List.length_take]; simp; omega
set_option maxHeartbeats 0 in
set_option maxRecDepth 100000 in
theorem fresh_f (A B C : List (Nat × Nat)) (m ca cb cc : Nat) (hm : m ≤ 65536) (hA : A.length = ca) (hca : m ≤ ca) (hB : m ≤ B.length) (hC : m ≤ C.length) (hcb : m ≤ cb) (hcc : m ≤ cc)
    (e1 : ∀ i, i < m → C.getD i (0, 0) = A.getD i (0, 0)) (e2 : ∀ i, i < m → C.getD i (0, 0) = B.getD i (0, 0)) :
    Fits Try.prog 15 ⟨[.slice 0 0 m ca, .slice 1 0 m cb, .slice 2 0 m cc], [cxS true A, cxS false B, cxS false C], [numOut [.dead, .dead, .dead] (.bool true)]⟩ := by
  have S1 := Same_q A C m ca cc (by omega) hC hca hcc (by omega) e1
  have S2 := Same_q B C m cb cc hB hC hcb hcc (by omega) e2
  subst hA
  refine fits_of_body (C := cfgs 3) (c := c15) (ts := [6]) tokL mixedL (fun | 4 => some (inv15 B C m cb cc) | 8 => some (inv15b B C m cb cc) | _ => none) (fun _ => none)
    Try.func15 (by kernel_rfl) (by kernel_rfl) (by kernel_rfl) (by kernel_rfl) rfl ?_
  conv => whnf
  repeat (first
    | (refine And.intro ?_ ?_; (focus (first | omega | decide | exact Int.natCast_nonneg _ | ((repeat' refine And.intro ?_ ?_) <;> first | omega | exact Int.natCast_nonneg _ | (simp only [i64max, u8max, u16max, u32max, u64max]; omega) | (simp only [mulSz_eq, Cont.len, colsLen, Col.len, List.length_cons, List.length_nil, List.length_replicate, List.length_append]; first | done | omega) | (simp [mulSz, Cont.len, bne]; first | done | omega)))); conv => whnf)
    | (refine tst_in ?_ ?_; (focus (intro h_; exfalso; first | omega | ((try simp only [decide_eq_true_eq, decide_eq_false_iff_not] at h_); omega) | (simp [mulSz, Cont.len, bne] at h_; first | done | omega))); intro _; conv => whnf)
    | (refine tst_in ?_ ?_; rotate_left; (focus (intro h_; exfalso; first | omega | ((try simp only [decide_eq_true_eq, decide_eq_false_iff_not] at h_); omega) | (simp [mulSz, Cont.len, bne] at h_; first | done | omega))); intro _; conv => whnf)
    | (refine ⟨0, (show _ = _ by omega), ?_⟩; conv => whnf))
  refine ⟨_, [0, 2], S1, ?_⟩
  conv => whnf
  iterate 2
   refine And.intro ?_ ?_
   focus
    conv => whnf
    repeat' (first | exact True.intro | rfl | refine And.intro ?_ ?_)
    all_goals (conv => whnf)
    repeat' (first | exact True.intro | rfl | refine And.intro ?_ ?_)
    all_goals (try (first | rfl | omega | (simp; first | done | omega)))
  conv => whnf
  conv => whnf
  repeat (first
    | (refine And.intro ?_ ?_; (focus (first | omega | decide | exact Int.natCast_nonneg _ | ((repeat' refine And.intro ?_ ?_) <;> first | omega | exact Int.natCast_nonneg _ | (simp only [i64max, u8max, u16max, u32max, u64max]; omega) | (simp only [mulSz_eq, Cont.len, colsLen, Col.len, List.length_cons, List.length_nil, List.length_replicate, List.length_append]; first | done | omega) | (simp [mulSz, Cont.len, bne]; first | done | omega)))); conv => whnf)
    | (refine tst_in ?_ ?_; (focus (intro h_; exfalso; first | omega | ((try simp only [decide_eq_true_eq, decide_eq_false_iff_not] at h_); omega) | (simp [mulSz, Cont.len, bne] at h_; first | done | omega))); intro _; conv => whnf)
    | (refine tst_in ?_ ?_; rotate_left; (focus (intro h_; exfalso; first | omega | ((try simp only [decide_eq_true_eq, decide_eq_false_iff_not] at h_); omega) | (simp [mulSz, Cont.len, bne] at h_; first | done | omega))); intro _; conv => whnf)
    | (refine ⟨0, (show _ = _ by omega), ?_⟩; conv => whnf))
  refine ⟨_, [1, 2], S2, ?_⟩
  conv => whnf
  iterate 2
   refine And.intro ?_ ?_
   focus
    conv => whnf
    repeat' (first | exact True.intro | rfl | refine And.intro ?_ ?_)
    all_goals (conv => whnf)
    repeat' (first | exact True.intro | rfl | refine And.intro ?_ ?_)
    all_goals (try (first | rfl | omega | (simp; first | done | omega)))
  conv => whnf
  conv => whnf
  repeat (first
    | (refine And.intro ?_ ?_; (focus (first | omega | decide | exact Int.natCast_nonneg _ | ((repeat' refine And.intro ?_ ?_) <;> first | omega | exact Int.natCast_nonneg _ | (simp only [i64max, u8max, u16max, u32max, u64max]; omega) | (simp only [mulSz_eq, Cont.len, colsLen, Col.len, List.length_cons, List.length_nil, List.length_replicate, List.length_append]; first | done | omega) | (simp [mulSz, Cont.len, bne]; first | done | omega)))); conv => whnf)
    | (refine tst_in ?_ ?_; (focus (intro h_; exfalso; first | omega | ((try simp only [decide_eq_true_eq, decide_eq_false_iff_not] at h_); omega) | (simp [mulSz, Cont.len, bne] at h_; first | done | omega))); intro _; conv => whnf)
    | (refine tst_in ?_ ?_; rotate_left; (focus (intro h_; exfalso; first | omega | ((try simp only [decide_eq_true_eq, decide_eq_false_iff_not] at h_); omega) | (simp [mulSz, Cont.len, bne] at h_; first | done | omega))); intro _; conv => whnf)
    | (refine ⟨0, (show _ = _ by omega), ?_⟩; conv => whnf))
  refine ⟨⟨[0, 1, 2], (0, A), ?_, ⟨Nat.zero_le _, hca⟩⟩, ?_⟩
  · show stLe _ _ (st15 B C m cb cc 0 A) _
    conv => whnf
    repeat' (first | exact True.intro | rfl | refine And.intro ?_ ?_)
    all_goals (conv => whnf)
    repeat' (first | exact True.intro | rfl | refine And.intro ?_ ?_)
    all_goals (try omega)
  · intro ⟨i, X⟩ ⟨(hi : i ≤ m), (hX : m ≤ X.length)⟩
    show forceSt (st15 B C m cb cc i X) _
    conv => whnf
    refine tst_in (fun h1 => ?_) (fun h1' => ?_)
    · skip
      have h1 : i < m := by simp at h1; omega
      conv => whnf
      repeat (first
        | (refine And.intro ?_ ?_; (focus (first | omega | decide | exact Int.natCast_nonneg _ | ((repeat' refine And.intro ?_ ?_) <;> first | omega | exact Int.natCast_nonneg _ | (simp only [i64max, u8max, u16max, u32max, u64max]; omega) | (simp only [mulSz_eq, Cont.len, colsLen, Col.len, List.length_cons, List.length_nil, List.length_replicate, List.length_append]; first | done | omega) | (simp [mulSz, Cont.len, bne]; first | done | omega)))); conv => whnf)
        | (refine tst_in ?_ ?_; (focus (intro h_; exfalso; first | omega | ((try simp only [decide_eq_true_eq, decide_eq_false_iff_not] at h_); omega) | (simp [mulSz, Cont.len, bne] at h_; first | done | omega))); intro _; conv => whnf)
        | (refine tst_in ?_ ?_; rotate_left; (focus (intro h_; exfalso; first | omega | ((try simp only [decide_eq_true_eq, decide_eq_false_iff_not] at h_); omega) | (simp [mulSz, Cont.len, bne] at h_; first | done | omega))); intro _; conv => whnf)
        | (refine ⟨0, (show _ = _ by omega), ?_⟩; conv => whnf))
      refine ⟨[0, 1, 2], (i + 1, X.set (0 + (i : Int).toNat) (4617315517961601024, 0)), ?_, ⟨(by show i + 1 ≤ m; omega), (by show m ≤ (X.set _ _).length; rw [List.length_set]; exact hX)⟩, (by show m - (i + 1) < m - i; omega)⟩
      show stLe _ _ (st15 B C m cb cc (i + 1) (X.set (0 + (i : Int).toNat) (4617315517961601024, 0))) _
      conv => whnf
      repeat' (first | exact True.intro | rfl | refine And.intro ?_ ?_)
      all_goals (conv => whnf)
      repeat' (first | exact True.intro | rfl | refine And.intro ?_ ?_)
      all_goals (try omega)
      all_goals (try rw [List.length_set])
    · skip
      have h1 : i = m := by simp at h1'; omega
      subst h1
      conv => whnf
      repeat (first
        | (refine And.intro ?_ ?_; (focus (first | omega | decide | exact Int.natCast_nonneg _ | ((repeat' refine And.intro ?_ ?_) <;> first | omega | exact Int.natCast_nonneg _ | (simp only [i64max, u8max, u16max, u32max, u64max]; omega) | (simp only [mulSz_eq, Cont.len, colsLen, Col.len, List.length_cons, List.length_nil, List.length_replicate, List.length_append]; first | done | omega) | (simp [mulSz, Cont.len, bne]; first | done | omega)))); conv => whnf)
        | (refine tst_in ?_ ?_; (focus (intro h_; exfalso; first | omega | ((try simp only [decide_eq_true_eq, decide_eq_false_iff_not] at h_); omega) | (simp [mulSz, Cont.len, bne] at h_; first | done | omega))); intro _; conv => whnf)
        | (refine tst_in ?_ ?_; rotate_left; (focus (intro h_; exfalso; first | omega | ((try simp only [decide_eq_true_eq, decide_eq_false_iff_not] at h_); omega) | (simp [mulSz, Cont.len, bne] at h_; first | done | omega))); intro _; conv => whnf)
        | (refine ⟨0, (show _ = _ by omega), ?_⟩; conv => whnf))
      refine ⟨⟨[0, 1, 2], (0, X), ?_, ⟨Nat.zero_le _, hX⟩⟩, ?_⟩
      · show stLe _ _ (st15a B C i cb cc X) _
        conv => whnf
        repeat' (first | exact True.intro | rfl | refine And.intro ?_ ?_)
        all_goals (conv => whnf)
        repeat' (first | exact True.intro | rfl | refine And.intro ?_ ?_)
        all_goals (try omega)
      · intro ⟨k, Y⟩ ⟨(hk : k ≤ 20), (hY : i + k ≤ Y.length)⟩
        obtain rfl | ⟨k, rfl⟩ : k = 0 ∨ ∃ k', k = k' + 1 := by
          cases k with
          | zero => exact .inl rfl
          | succ k => exact .inr ⟨k, rfl⟩
        · skip
          show forceSt (st15a B C i cb cc Y) _
          have hY : i ≤ List.length Y := hY
          conv => whnf
          repeat (first
            | (refine And.intro ?_ ?_; (focus (first | omega | decide | exact Int.natCast_nonneg _ | ((repeat' refine And.intro ?_ ?_) <;> first | omega | exact Int.natCast_nonneg _ | (simp only [i64max, u8max, u16max, u32max, u64max]; omega) | (simp only [mulSz_eq, Cont.len, colsLen, Col.len, List.length_cons, List.length_nil, List.length_replicate, List.length_append]; first | done | omega) | (simp [mulSz, Cont.len, bne]; first | done | omega)))); conv => whnf)
            | (refine tst_in ?_ ?_; (focus (intro h_; exfalso; first | omega | ((try simp only [decide_eq_true_eq, decide_eq_false_iff_not] at h_); omega) | (simp [mulSz, Cont.len, bne] at h_; first | done | omega))); intro _; conv => whnf)
            | (refine tst_in ?_ ?_; rotate_left; (focus (intro h_; exfalso; first | omega | ((try simp only [decide_eq_true_eq, decide_eq_false_iff_not] at h_); omega) | (simp [mulSz, Cont.len, bne] at h_; first | done | omega))); intro _; conv => whnf)
            | (refine ⟨0, (show _ = _ by omega), ?_⟩; conv => whnf))
          intro t1
          conv => whnf
          repeat (first
            | (refine And.intro ?_ ?_; (focus (first | omega | decide | exact Int.natCast_nonneg _ | ((repeat' refine And.intro ?_ ?_) <;> first | omega | exact Int.natCast_nonneg _ | (simp only [i64max, u8max, u16max, u32max, u64max]; omega) | (simp only [mulSz_eq, Cont.len, colsLen, Col.len, List.length_cons, List.length_nil, List.length_replicate, List.length_append]; first | done | omega) | (simp [mulSz, Cont.len, bne]; first | done | omega)))); conv => whnf)
            | (refine tst_in ?_ ?_; (focus (intro h_; exfalso; first | omega | ((try simp only [decide_eq_true_eq, decide_eq_false_iff_not] at h_); omega) | (simp [mulSz, Cont.len, bne] at h_; first | done | omega))); intro _; conv => whnf)
            | (refine tst_in ?_ ?_; rotate_left; (focus (intro h_; exfalso; first | omega | ((try simp only [decide_eq_true_eq, decide_eq_false_iff_not] at h_); omega) | (simp [mulSz, Cont.len, bne] at h_; first | done | omega))); intro _; conv => whnf)
            | (refine ⟨0, (show _ = _ by omega), ?_⟩; conv => whnf))
          have hl := six_len i Y t1 hY
          refine ⟨[0, 1, 2, 4], (1, List.take i (List.drop 0 Y) ++ List.take 1 (List.drop 0 [(4618441417868443648, 0)]) ++ t1), ?_, ⟨(by show 1 ≤ 20; omega), (by show i + 1 ≤ List.length _; rw [hl]; omega)⟩, (by show 20 - 1 < 20 - 0; omega)⟩
          show stLe _ _ (st15b B C i cb cc (0 + 1) (List.take i (List.drop 0 Y) ++ List.take 1 (List.drop 0 [(4618441417868443648, 0)]) ++ t1)) _
          conv => whnf
          repeat' (first | exact True.intro | rfl | refine And.intro ?_ ?_)
          all_goals (conv => whnf)
          repeat' (first | exact True.intro | rfl | refine And.intro ?_ ?_)
          all_goals (try omega)
          all_goals (first | exact hl | exact hl.symm | rfl | skip)
        · skip
          show forceSt (st15b B C i cb cc (k + 1) Y) _
          conv => whnf
          refine tst_in (fun h2 => ?_) (fun h2' => ?_)
          · skip
            have h2 : k + 1 < 20 := by simp at h2; omega
            conv => whnf
            repeat (first
              | (refine And.intro ?_ ?_; (focus (first | omega | decide | exact Int.natCast_nonneg _ | ((repeat' refine And.intro ?_ ?_) <;> first | omega | exact Int.natCast_nonneg _ | (simp only [i64max, u8max, u16max, u32max, u64max]; omega) | (simp only [mulSz_eq, Cont.len, colsLen, Col.len, List.length_cons, List.length_nil, List.length_replicate, List.length_append]; first | done | omega) | (simp [mulSz, Cont.len, bne]; first | done | omega)))); conv => whnf)
              | (refine tst_in ?_ ?_; (focus (intro h_; exfalso; first | omega | ((try simp only [decide_eq_true_eq, decide_eq_false_iff_not] at h_); omega) | (simp [mulSz, Cont.len, bne] at h_; first | done | omega))); intro _; conv => whnf)
              | (refine tst_in ?_ ?_; rotate_left; (focus (intro h_; exfalso; first | omega | ((try simp only [decide_eq_true_eq, decide_eq_false_iff_not] at h_); omega) | (simp [mulSz, Cont.len, bne] at h_; first | done | omega))); intro _; conv => whnf)
              | (refine ⟨0, (show _ = _ by omega), ?_⟩; conv => whnf))
            intro t1
            conv => whnf
            repeat (first
              | (refine And.intro ?_ ?_; (focus (first | omega | decide | exact Int.natCast_nonneg _ | ((repeat' refine And.intro ?_ ?_) <;> first | omega | exact Int.natCast_nonneg _ | (simp only [i64max, u8max, u16max, u32max, u64max]; omega) | (simp only [mulSz_eq, Cont.len, colsLen, Col.len, List.length_cons, List.length_nil, List.length_replicate, List.length_append]; first | done | omega) | (simp [mulSz, Cont.len, bne]; first | done | omega)))); conv => whnf)
              | (refine tst_in ?_ ?_; (focus (intro h_; exfalso; first | omega | ((try simp only [decide_eq_true_eq, decide_eq_false_iff_not] at h_); omega) | (simp [mulSz, Cont.len, bne] at h_; first | done | omega))); intro _; conv => whnf)
              | (refine tst_in ?_ ?_; rotate_left; (focus (intro h_; exfalso; first | omega | ((try simp only [decide_eq_true_eq, decide_eq_false_iff_not] at h_); omega) | (simp [mulSz, Cont.len, bne] at h_; first | done | omega))); intro _; conv => whnf)
              | (refine ⟨0, (show _ = _ by omega), ?_⟩; conv => whnf))
            have hl := six_len (i + (k + 1)) Y t1 hY
            refine ⟨[0, 1, 2, 5], (k + 1 + 1, List.take (i + (k + 1)) (List.drop 0 Y) ++ List.take 1 (List.drop 0 [(4618441417868443648, 0)]) ++ t1), ?_, ⟨(by show k + 1 + 1 ≤ 20; omega), (by show i + (k + 1 + 1) ≤ List.length _; rw [hl]; omega)⟩, (by show 20 - (k + 1 + 1) < 20 - (k + 1); omega)⟩
            show stLe _ _ (st15b B C i cb cc (k + 1 + 1) (List.take (i + (k + 1)) (List.drop 0 Y) ++ List.take 1 (List.drop 0 [(4618441417868443648, 0)]) ++ t1)) _
            conv => whnf
            repeat' (first | exact True.intro | rfl | refine And.intro ?_ ?_)
            all_goals (conv => whnf)
            repeat' (first | exact True.intro | rfl | refine And.intro ?_ ?_)
            all_goals (try omega)
            all_goals (first | exact hl | exact hl.symm | rfl | skip)
          · skip
            have h2 : k = 19 := by simp at h2'; omega
            subst h2
            conv => whnf
            repeat (first
              | (refine And.intro ?_ ?_; (focus (first | omega | decide | exact Int.natCast_nonneg _ | ((repeat' refine And.intro ?_ ?_) <;> first | omega | exact Int.natCast_nonneg _ | (simp only [i64max, u8max, u16max, u32max, u64max]; omega) | (simp only [mulSz_eq, Cont.len, colsLen, Col.len, List.length_cons, List.length_nil, List.length_replicate, List.length_append]; first | done | omega) | (simp [mulSz, Cont.len, bne]; first | done | omega)))); conv => whnf)
              | (refine tst_in ?_ ?_; (focus (intro h_; exfalso; first | omega | ((try simp only [decide_eq_true_eq, decide_eq_false_iff_not] at h_); omega) | (simp [mulSz, Cont.len, bne] at h_; first | done | omega))); intro _; conv => whnf)
              | (refine tst_in ?_ ?_; rotate_left; (focus (intro h_; exfalso; first | omega | ((try simp only [decide_eq_true_eq, decide_eq_false_iff_not] at h_); omega) | (simp [mulSz, Cont.len, bne] at h_; first | done | omega))); intro _; conv => whnf)
              | (refine ⟨0, (show _ = _ by omega), ?_⟩; conv => whnf))
            refine ⟨_, [1, 2], S2, ?_⟩
            conv => whnf
            iterate 2
             refine And.intro ?_ ?_
             focus
              conv => whnf
              repeat' (first | exact True.intro | rfl | refine And.intro ?_ ?_)
              all_goals (conv => whnf)
              repeat' (first | exact True.intro | rfl | refine And.intro ?_ ?_)
              all_goals (try (first | rfl | omega | (simp; first | done | omega)))
            conv => whnf
            conv => whnf
            repeat (first
              | (refine And.intro ?_ ?_; (focus (first | omega | decide | exact Int.natCast_nonneg _ | ((repeat' refine And.intro ?_ ?_) <;> first | omega | exact Int.natCast_nonneg _ | (simp only [i64max, u8max, u16max, u32max, u64max]; omega) | (simp only [mulSz_eq, Cont.len, colsLen, Col.len, List.length_cons, List.length_nil, List.length_replicate, List.length_append]; first | done | omega) | (simp [mulSz, Cont.len, bne]; first | done | omega)))); conv => whnf)
              | (refine tst_in ?_ ?_; (focus (intro h_; exfalso; first | omega | ((try simp only [decide_eq_true_eq, decide_eq_false_iff_not] at h_); omega) | (simp [mulSz, Cont.len, bne] at h_; first | done | omega))); intro _; conv => whnf)
              | (refine tst_in ?_ ?_; rotate_left; (focus (intro h_; exfalso; first | omega | ((try simp only [decide_eq_true_eq, decide_eq_false_iff_not] at h_); omega) | (simp [mulSz, Cont.len, bne] at h_; first | done | omega))); intro _; conv => whnf)
              | (refine ⟨0, (show _ = _ by omega), ?_⟩; conv => whnf))
            refine .inl ⟨(), [0, 1, 2], ?_⟩
            conv => whnf
            repeat' (first | exact True.intro | rfl | refine And.intro ?_ ?_)
            all_goals (conv => whnf)
            repeat' (first | exact True.intro | rfl | refine And.intro ?_ ?_)
            all_goals (try omega)
            exact (decide_eq_true (by omega)).symm
/-- The two rows that are told twice. -/
theorem fr (F : Nat → Nat × Nat) (m : Nat) (hm : m ≤ 65536) (y0 y1 y2 : YT) :
    Fits Try.prog 15 ⟨[.slice 0 0 m (m + y1.length), .slice 1 0 m (m + y2.length), .slice 2 0 m (m + y0.length)], [cxS true (tb F m ++ y1), cxS false (tb F m ++ y2), cxS false (tb F m ++ y0)], [numOut [.dead, .dead, .dead] (.bool true)]⟩ :=
  fresh_f _ _ _ m _ _ _ hm (by rw [List.length_append, tab_len]) (by omega) (by rw [List.length_append, tab_len]; omega) (by rw [List.length_append, tab_len]; omega) (by omega) (by omega)
    (fun i hi => by rw [tab_app _ _ _ hi, tab_app _ _ _ hi]) (fun i hi => by rw [tab_app _ _ _ hi, tab_app _ _ _ hi])
end Go.Proofs.Ytancolnaoieafaa

set_option linter.unusedVariables false
set_option linter.unusedSimpArgs false
namespace Go.Proofs.Ytancolnaoieafaa
open Go Go.Fw
abbrev FT := List Nat
def fS (o : Bool) (A : List Nat) : Seg := .seg o (.flts .f64 A)
def fOut (D : List Seg) (k : Nat) (x : AV → AV) (F : Nat → Nat) (n : Nat) : FOut :=
  ⟨FT, fun _ => True, fun y => x (.slice k 0 n (n + y.length)), fun y => D ++ [fS true (tb F n ++ y)]⟩
noncomputable def c22 : Code := (Try.f22.body).getD .skip
def st22 (A A' : List Nat) (n ca cb i : Nat) : St := ⟨slotsAt 27 [(0, .slice 0 0 n ca), (1, .slice 1 0 n cb), (5, .int .i64 i)], [fS false A, fS false A']⟩
def inv22 (A A' : List Nat) (n ca cb : Nat) : LInv := ⟨Nat, fun i => st22 A A' n ca cb i, fun i => i ≤ n, fun i => n - i⟩
set_option maxHeartbeats 0 in
set_option maxRecDepth 100000 in
theorem Floats_q (A A' : List Nat) (n ca cb : Nat) (hA : n ≤ A.length) (hA' : n ≤ A'.length) (hca : n ≤ ca) (hcb : n ≤ cb) (hn : n ≤ 17592186043904)
    (hE : ∀ i, i < n → A'.getD i 0 = A.getD i 0) :
    QFits Try.prog 22 ⟨[.slice 0 0 n ca, .slice 1 0 n cb], [fS false A, fS false A'], .bool true⟩ := by
  refine qfits_of_body (C := cfgs 2) (c := c22) (ts := [4]) tokL mixedL (fun | 4 => some (inv22 A A' n ca cb) | _ => none) (fun _ => none)
    Try.func22 (by kernel_rfl) (by kernel_rfl) (by kernel_rfl) (by kernel_rfl) (by kernel_rfl) rfl rfl ?_
  conv => whnf
  repeat (first
    | (refine And.intro ?_ ?_; (focus (first | omega | decide | exact Int.natCast_nonneg _ | ((repeat' refine And.intro ?_ ?_) <;> first | omega | exact Int.natCast_nonneg _ | (simp only [i64max, u8max, u16max, u32max, u64max]; omega) | (simp only [mulSz_eq, Cont.len, colsLen, Col.len, List.length_cons, List.length_nil, List.length_replicate, List.length_append]; first | done | omega) | (simp [mulSz, Cont.len, bne]; first | done | omega)))); conv => whnf)
    | (refine tst_in ?_ ?_; (focus (intro h_; exfalso; first | omega | ((try simp only [decide_eq_true_eq, decide_eq_false_iff_not] at h_); omega) | (simp [mulSz, Cont.len, bne] at h_; first | done | omega))); intro _; conv => whnf)
    | (refine tst_in ?_ ?_; rotate_left; (focus (intro h_; exfalso; first | omega | ((try simp only [decide_eq_true_eq, decide_eq_false_iff_not] at h_); omega) | (simp [mulSz, Cont.len, bne] at h_; first | done | omega))); intro _; conv => whnf)
    | (refine ⟨0, (show _ = _ by omega), ?_⟩; conv => whnf))
  refine ⟨⟨[0, 1], (0 : Nat), ?_, Nat.zero_le _⟩, ?_⟩
  · show stLe _ _ (st22 A A' n ca cb 0) _
    conv => whnf
    repeat' (first | exact True.intro | rfl | refine And.intro ?_ ?_)
    all_goals (conv => whnf)
    repeat' (first | exact True.intro | rfl | refine And.intro ?_ ?_)
    all_goals (try omega)
  · intro (i : Nat) (hi : i ≤ n)
    show forceSt (st22 A A' n ca cb i) _
    conv => whnf
    refine tst_in (fun hlt => ?_) (fun hge => ?_)
    · skip
      have hlt : i < n := by simp at hlt; omega
      have F1 := Float_q (A.getD i 0) (A'.getD i 0) (hE i hlt)
      conv => whnf
      repeat (first
        | (refine And.intro ?_ ?_; (focus (first | omega | decide | exact Int.natCast_nonneg _ | ((repeat' refine And.intro ?_ ?_) <;> first | omega | exact Int.natCast_nonneg _ | (simp only [i64max, u8max, u16max, u32max, u64max]; omega) | (simp only [mulSz_eq, Cont.len, colsLen, Col.len, List.length_cons, List.length_nil, List.length_replicate, List.length_append]; first | done | omega) | (simp [mulSz, Cont.len, bne]; first | done | omega)))); conv => whnf)
        | (refine tst_in ?_ ?_; (focus (intro h_; exfalso; first | omega | ((try simp only [decide_eq_true_eq, decide_eq_false_iff_not] at h_); omega) | (simp [mulSz, Cont.len, bne] at h_; first | done | omega))); intro _; conv => whnf)
        | (refine tst_in ?_ ?_; rotate_left; (focus (intro h_; exfalso; first | omega | ((try simp only [decide_eq_true_eq, decide_eq_false_iff_not] at h_); omega) | (simp [mulSz, Cont.len, bne] at h_; first | done | omega))); intro _; conv => whnf)
        | (refine ⟨0, (show _ = _ by omega), ?_⟩; conv => whnf))
      refine ⟨_, [], F1, ?_⟩
      conv => whnf
      iterate 2
       refine And.intro ?_ ?_
       focus
        conv => whnf
        repeat' (first | exact True.intro | rfl | refine And.intro ?_ ?_ | omega)
        all_goals (conv => whnf)
        all_goals (try (first | rfl | omega | (simp; done)))
      conv => whnf
      conv => whnf
      repeat (first
        | (refine And.intro ?_ ?_; (focus (first | omega | decide | exact Int.natCast_nonneg _ | ((repeat' refine And.intro ?_ ?_) <;> first | omega | exact Int.natCast_nonneg _ | (simp only [i64max, u8max, u16max, u32max, u64max]; omega) | (simp only [mulSz_eq, Cont.len, colsLen, Col.len, List.length_cons, List.length_nil, List.length_replicate, List.length_append]; first | done | omega) | (simp [mulSz, Cont.len, bne]; first | done | omega)))); conv => whnf)
        | (refine tst_in ?_ ?_; (focus (intro h_; exfalso; first | omega | ((try simp only [decide_eq_true_eq, decide_eq_false_iff_not] at h_); omega) | (simp [mulSz, Cont.len, bne] at h_; first | done | omega))); intro _; conv => whnf)
        | (refine tst_in ?_ ?_; rotate_left; (focus (intro h_; exfalso; first | omega | ((try simp only [decide_eq_true_eq, decide_eq_false_iff_not] at h_); omega) | (simp [mulSz, Cont.len, bne] at h_; first | done | omega))); intro _; conv => whnf)
        | (refine ⟨0, (show _ = _ by omega), ?_⟩; conv => whnf))
      refine ⟨[0, 1], i + 1, ?_, (by show i + 1 ≤ n; omega), (by show n - (i + 1) < n - i; omega)⟩
      show stLe _ _ (st22 A A' n ca cb (i + 1)) _
      conv => whnf
      repeat' (first | exact True.intro | rfl | refine And.intro ?_ ?_)
      all_goals (conv => whnf)
      repeat' (first | exact True.intro | rfl | refine And.intro ?_ ?_)
      all_goals (try omega)
    · skip
      have hge : i = n := by simp at hge; omega
      subst hge
      conv => whnf
      repeat (first
        | (refine And.intro ?_ ?_; (focus (first | omega | decide | exact Int.natCast_nonneg _ | ((repeat' refine And.intro ?_ ?_) <;> first | omega | exact Int.natCast_nonneg _ | (simp only [i64max, u8max, u16max, u32max, u64max]; omega) | (simp only [mulSz_eq, Cont.len, colsLen, Col.len, List.length_cons, List.length_nil, List.length_replicate, List.length_append]; first | done | omega) | (simp [mulSz, Cont.len, bne]; first | done | omega)))); conv => whnf)
        | (refine tst_in ?_ ?_; (focus (intro h_; exfalso; first | omega | ((try simp only [decide_eq_true_eq, decide_eq_false_iff_not] at h_); omega) | (simp [mulSz, Cont.len, bne] at h_; first | done | omega))); intro _; conv => whnf)
        | (refine tst_in ?_ ?_; rotate_left; (focus (intro h_; exfalso; first | omega | ((try simp only [decide_eq_true_eq, decide_eq_false_iff_not] at h_); omega) | (simp [mulSz, Cont.len, bne] at h_; first | done | omega))); intro _; conv => whnf)
        | (refine ⟨0, (show _ = _ by omega), ?_⟩; conv => whnf))
def LimL (n m : Nat) (e : Int) : Prop := (n ≤ 32768 ∧ m = 2 * n ∧ e = 0) ∨ (32768 < n ∧ m = 0 ∧ e = 1)
def lnF (Z : Nat → Nat × Nat) (k : Nat) : Nat := if k % 2 = 0 then (upF 1 Z (k / 2)).1 else (upF 1 Z (k / 2)).2
theorem push2_tb (Z : Nat → Nat × Nat) (t t1 : FT) (i : Nat) (a b : Nat) (ha : a = (upF 1 Z i).1) (hb : b = (upF 1 Z i).2) :
    List.take (2 * i) (List.drop 0 (tb (lnF Z) (2 * i) ++ t)) ++ List.take 2 (List.drop 0 [a, b]) ++ t1 = tb (lnF Z) (2 * (i + 1)) ++ t1 := by
  have e1 : lnF Z (2 * i) = a := by unfold lnF; rw [if_pos (by omega), show 2 * i / 2 = i by omega, ha]
  have e2 : lnF Z (2 * i + 1) = b := by unfold lnF; rw [if_neg (by omega), show (2 * i + 1) / 2 = i by omega, hb]
  rw [List.drop_zero, List.take_left' (tab_len _ _), show 2 * (i + 1) = 2 * i + 1 + 1 by omega, ← tab_snoc, ← tab_snoc, e1, e2, List.drop_zero]
  simp
noncomputable def c20 : Code := (Try.f20.body).getD .skip
def st20 (A : List (Nat × Nat)) (n ca i : Nat) (t : FT) : St := ⟨slotsAt 30 [(0, .slice 0 0 n ca), (4, .slice 1 0 (2 * i) (2 * i + t.length)), (5, .int .i64 i)], [cxS false A, fS true (tb (lnF (gF A)) (2 * i) ++ t)]⟩
def inv20 (A : List (Nat × Nat)) (n ca : Nat) : LInv := ⟨Nat × FT, fun y => st20 A n ca y.1 y.2, fun y => y.1 ≤ n, fun y => n - y.1⟩
set_option maxHeartbeats 0 in
set_option maxRecDepth 100000 in
theorem rLine_f (A : List (Nat × Nat)) (n ca m : Nat) (e : Int) (hA : n ≤ A.length) (hca : n ≤ ca) (hn : n ≤ 17592186043904) (hm : LimL n m e) :
    Fits Try.prog 20 ⟨[.slice 0 0 n ca], [cxS false A], [fOut [.dead] 1 (resE e) (lnF (gF A)) m]⟩ := by
  refine fits_of_body (C := cfgs 1) (c := c20) (ts := [2, 3]) tokL mixedL (fun | 5 => some (inv20 A n ca) | _ => none) (fun _ => none)
    Try.func20 (by kernel_rfl) (by kernel_rfl) (by kernel_rfl) (by kernel_rfl) rfl ?_
  obtain ⟨hn, rfl, rfl⟩ | ⟨hn, rfl, rfl⟩ := hm
  · skip
    conv => whnf
    repeat (first
      | (refine And.intro ?_ ?_; (focus (first | omega | decide | exact Int.natCast_nonneg _ | ((repeat' refine And.intro ?_ ?_) <;> first | omega | exact Int.natCast_nonneg _ | (simp only [i64max, u8max, u16max, u32max, u64max]; omega) | (simp only [mulSz_eq, Cont.len, colsLen, Col.len, List.length_cons, List.length_nil, List.length_replicate, List.length_append]; first | done | omega) | (simp [mulSz, Cont.len, bne]; first | done | omega)))); conv => whnf)
      | (refine tst_in ?_ ?_; (focus (intro h_; exfalso; first | omega | ((try simp only [decide_eq_true_eq, decide_eq_false_iff_not] at h_); omega) | (simp [mulSz, Cont.len, bne] at h_; first | done | omega))); intro _; conv => whnf)
      | (refine tst_in ?_ ?_; rotate_left; (focus (intro h_; exfalso; first | omega | ((try simp only [decide_eq_true_eq, decide_eq_false_iff_not] at h_); omega) | (simp [mulSz, Cont.len, bne] at h_; first | done | omega))); intro _; conv => whnf)
      | (refine ⟨0, (show _ = _ by omega), ?_⟩; conv => whnf))
    refine ⟨⟨[0, 9], (0, []), ?_, Nat.zero_le _⟩, ?_⟩
    · show stLe _ _ (st20 A n ca 0 []) _
      conv => whnf
      repeat' (first | exact True.intro | rfl | refine And.intro ?_ ?_)
      all_goals (conv => whnf)
      repeat' (first | exact True.intro | rfl | refine And.intro ?_ ?_)
      all_goals (try omega)
    · intro ⟨i, t⟩ (hi : i ≤ n)
      show forceSt (st20 A n ca i t) _
      conv => whnf
      refine tst_in (fun h1 => ?_) (fun h1' => ?_)
      · skip
        have h1 : i < n := by simp at h1; omega
        have TQ := rTurn_q (A.getD i (0, 0)) (i : Int) (i * 1 % 4) (by omega)
        conv => whnf
        repeat (first
          | (refine And.intro ?_ ?_; (focus (first | omega | decide | exact Int.natCast_nonneg _ | ((repeat' refine And.intro ?_ ?_) <;> first | omega | exact Int.natCast_nonneg _ | (simp only [i64max, u8max, u16max, u32max, u64max]; omega) | (simp only [mulSz_eq, Cont.len, colsLen, Col.len, List.length_cons, List.length_nil, List.length_replicate, List.length_append]; first | done | omega) | (simp [mulSz, Cont.len, bne]; first | done | omega)))); conv => whnf)
          | (refine tst_in ?_ ?_; (focus (intro h_; exfalso; first | omega | ((try simp only [decide_eq_true_eq, decide_eq_false_iff_not] at h_); omega) | (simp [mulSz, Cont.len, bne] at h_; first | done | omega))); intro _; conv => whnf)
          | (refine tst_in ?_ ?_; rotate_left; (focus (intro h_; exfalso; first | omega | ((try simp only [decide_eq_true_eq, decide_eq_false_iff_not] at h_); omega) | (simp [mulSz, Cont.len, bne] at h_; first | done | omega))); intro _; conv => whnf)
          | (refine ⟨0, (show _ = _ by omega), ?_⟩; conv => whnf))
        refine ⟨_, [], TQ, ?_⟩
        conv => whnf
        iterate 2
         refine And.intro ?_ ?_
         focus
          conv => whnf
          repeat' (first | exact True.intro | rfl | refine And.intro ?_ ?_ | omega)
          all_goals (conv => whnf)
          all_goals (try (first | rfl | omega | (simp; done)))
        conv => whnf
        conv => whnf
        repeat (first
          | (refine And.intro ?_ ?_; (focus (first | omega | decide | exact Int.natCast_nonneg _ | ((repeat' refine And.intro ?_ ?_) <;> first | omega | exact Int.natCast_nonneg _ | (simp only [i64max, u8max, u16max, u32max, u64max]; omega) | (simp only [mulSz_eq, Cont.len, colsLen, Col.len, List.length_cons, List.length_nil, List.length_replicate, List.length_append, tab_len, List.length_take, List.length_drop]; first | done | omega) | (simp [mulSz, Cont.len, bne, tab_len, List.length_take, List.length_drop]; first | done | omega)))); conv => whnf)
          | (refine tst_in ?_ ?_; (focus (intro h_; exfalso; first | omega | ((try simp only [decide_eq_true_eq, decide_eq_false_iff_not] at h_); omega) | (simp [mulSz, Cont.len, bne, tab_len, List.length_take, List.length_drop] at h_; first | done | omega))); intro _; conv => whnf)
          | (refine tst_in ?_ ?_; rotate_left; (focus (intro h_; exfalso; first | omega | ((try simp only [decide_eq_true_eq, decide_eq_false_iff_not] at h_); omega) | (simp [mulSz, Cont.len, bne, tab_len, List.length_take, List.length_drop] at h_; first | done | omega))); intro _; conv => whnf)
          | (refine ⟨0, (show _ = _ by omega), ?_⟩; conv => whnf))
        intro t1
        conv => whnf
        repeat (first
          | (refine And.intro ?_ ?_; (focus (first | omega | decide | exact Int.natCast_nonneg _ | ((repeat' refine And.intro ?_ ?_) <;> first | omega | exact Int.natCast_nonneg _ | (simp only [i64max, u8max, u16max, u32max, u64max]; omega) | (simp only [mulSz_eq, Cont.len, colsLen, Col.len, List.length_cons, List.length_nil, List.length_replicate, List.length_append]; first | done | omega) | (simp [mulSz, Cont.len, bne]; first | done | omega)))); conv => whnf)
          | (refine tst_in ?_ ?_; (focus (intro h_; exfalso; first | omega | ((try simp only [decide_eq_true_eq, decide_eq_false_iff_not] at h_); omega) | (simp [mulSz, Cont.len, bne] at h_; first | done | omega))); intro _; conv => whnf)
          | (refine tst_in ?_ ?_; rotate_left; (focus (intro h_; exfalso; first | omega | ((try simp only [decide_eq_true_eq, decide_eq_false_iff_not] at h_); omega) | (simp [mulSz, Cont.len, bne] at h_; first | done | omega))); intro _; conv => whnf)
          | (refine ⟨0, (show _ = _ by omega), ?_⟩; conv => whnf))
        refine ⟨[0, 3], (i + 1, t1), ?_, (by show i + 1 ≤ n; omega), (by show n - (i + 1) < n - i; omega)⟩
        show stLe _ _ (st20 A n ca (i + 1) t1) _
        conv => whnf
        repeat' (first | exact True.intro | rfl | refine And.intro ?_ ?_)
        all_goals (conv => whnf)
        repeat' (first | exact True.intro | rfl | refine And.intro ?_ ?_)
        all_goals (try omega)
        exact (push2_tb (gF A) t t1 i _ _ rfl rfl).symm
      · skip
        have h1 : i = n := by simp at h1'; omega
        subst h1
        conv => whnf
        repeat (first
          | (refine And.intro ?_ ?_; (focus (first | omega | decide | exact Int.natCast_nonneg _ | ((repeat' refine And.intro ?_ ?_) <;> first | omega | exact Int.natCast_nonneg _ | (simp only [i64max, u8max, u16max, u32max, u64max]; omega) | (simp only [mulSz_eq, Cont.len, colsLen, Col.len, List.length_cons, List.length_nil, List.length_replicate, List.length_append]; first | done | omega) | (simp [mulSz, Cont.len, bne]; first | done | omega)))); conv => whnf)
          | (refine tst_in ?_ ?_; (focus (intro h_; exfalso; first | omega | ((try simp only [decide_eq_true_eq, decide_eq_false_iff_not] at h_); omega) | (simp [mulSz, Cont.len, bne] at h_; first | done | omega))); intro _; conv => whnf)
          | (refine tst_in ?_ ?_; rotate_left; (focus (intro h_; exfalso; first | omega | ((try simp only [decide_eq_true_eq, decide_eq_false_iff_not] at h_); omega) | (simp [mulSz, Cont.len, bne] at h_; first | done | omega))); intro _; conv => whnf)
          | (refine ⟨0, (show _ = _ by omega), ?_⟩; conv => whnf))
        refine .inl ⟨t, [0, 1], ?_⟩
        conv => whnf
        repeat' (first | exact True.intro | rfl | refine And.intro ?_ ?_)
        all_goals (conv => whnf)
        repeat' (first | exact True.intro | rfl | refine And.intro ?_ ?_)
        all_goals (try omega)
  · skip
    conv => whnf
    repeat (first
      | (refine And.intro ?_ ?_; (focus (first | omega | decide | exact Int.natCast_nonneg _ | ((repeat' refine And.intro ?_ ?_) <;> first | omega | exact Int.natCast_nonneg _ | (simp only [i64max, u8max, u16max, u32max, u64max]; omega) | (simp only [mulSz_eq, Cont.len, colsLen, Col.len, List.length_cons, List.length_nil, List.length_replicate, List.length_append]; first | done | omega) | (simp [mulSz, Cont.len, bne]; first | done | omega)))); conv => whnf)
      | (refine tst_in ?_ ?_; (focus (intro h_; exfalso; first | omega | ((try simp only [decide_eq_true_eq, decide_eq_false_iff_not] at h_); omega) | (simp [mulSz, Cont.len, bne] at h_; first | done | omega))); intro _; conv => whnf)
      | (refine tst_in ?_ ?_; rotate_left; (focus (intro h_; exfalso; first | omega | ((try simp only [decide_eq_true_eq, decide_eq_false_iff_not] at h_); omega) | (simp [mulSz, Cont.len, bne] at h_; first | done | omega))); intro _; conv => whnf)
      | (refine ⟨0, (show _ = _ by omega), ?_⟩; conv => whnf))
    refine .inl ⟨[], [0, 9], ?_⟩
    conv => whnf
    repeat' (first | exact True.intro | rfl | refine And.intro ?_ ?_)
    all_goals (conv => whnf)
    repeat' (first | exact True.intro | rfl | refine And.intro ?_ ?_)
    all_goals (try omega)
noncomputable def c21 : Code := (Try.f21.body).getD .skip
def st21 (A B : List (Nat × Nat)) (n ca cb i : Nat) (t : FT) : St := ⟨slotsAt 39 [(0, .slice 0 0 n ca), (6, .slice 2 0 (2 * i) (2 * i + t.length)), (24, .slice 1 0 n cb), (25, .int .i64 n), (26, .int .i64 i)], [cxS false A, cxS true B, fS true (tb (lnF (gF A)) (2 * i) ++ t)]⟩
def inv21 (A : List (Nat × Nat)) (n ca : Nat) : LInv := ⟨Nat × YT × FT, fun y => st21 A (tb (upF 1 (gF A)) n ++ y.2.1) n ca (n + y.2.1.length) y.1 y.2.2, fun y => y.1 ≤ n, fun y => n - y.1⟩
set_option maxHeartbeats 0 in
set_option maxRecDepth 100000 in
theorem Line_f (A : List (Nat × Nat)) (n ca m : Nat) (e : Int) (hA : n ≤ A.length) (hca : n ≤ ca) (hn : n ≤ 17592186043904) (hm : LimL n m e) :
    Fits Try.prog 21 ⟨[.slice 0 0 n ca], [cxS false A], [fOut [.dead] 1 (resE e) (lnF (gF A)) m]⟩ := by
  refine fits_of_body (C := cfgs 1) (c := c21) (ts := [2, 3]) tokL mixedL (fun | 8 => some (inv21 A n ca) | _ => none) (fun _ => none)
    Try.func21 (by kernel_rfl) (by kernel_rfl) (by kernel_rfl) (by kernel_rfl) rfl ?_
  obtain ⟨hn, rfl, rfl⟩ | ⟨hn, rfl, rfl⟩ := hm
  · skip
    have MV := moved_f A n ca n 0 1 1 hA hca (by omega) rfl (.inl ⟨by omega, rfl, rfl⟩)
    conv => whnf
    repeat (first
      | (refine And.intro ?_ ?_; (focus (first | omega | decide | exact Int.natCast_nonneg _ | ((repeat' refine And.intro ?_ ?_) <;> first | omega | exact Int.natCast_nonneg _ | (simp only [i64max, u8max, u16max, u32max, u64max]; omega) | (simp only [mulSz_eq, Cont.len, colsLen, Col.len, List.length_cons, List.length_nil, List.length_replicate, List.length_append]; first | done | omega) | (simp [mulSz, Cont.len, bne]; first | done | omega)))); conv => whnf)
      | (refine tst_in ?_ ?_; (focus (intro h_; exfalso; first | omega | ((try simp only [decide_eq_true_eq, decide_eq_false_iff_not] at h_); omega) | (simp [mulSz, Cont.len, bne] at h_; first | done | omega))); intro _; conv => whnf)
      | (refine tst_in ?_ ?_; rotate_left; (focus (intro h_; exfalso; first | omega | ((try simp only [decide_eq_true_eq, decide_eq_false_iff_not] at h_); omega) | (simp [mulSz, Cont.len, bne] at h_; first | done | omega))); intro _; conv => whnf)
      | (refine ⟨0, (show _ = _ by omega), ?_⟩; conv => whnf))
    refine ⟨_, [0], MV, ?_⟩
    conv => whnf
    iterate 2
     refine And.intro ?_ ?_
     focus
      conv => whnf
      repeat' (first | exact True.intro | rfl | refine And.intro ?_ ?_ | omega)
      all_goals (conv => whnf)
      all_goals (try (first | rfl | omega | (simp; done)))
    conv => whnf
    refine ⟨?_, True.intro⟩
    intro (y1) _
    conv => whnf
    conv => whnf
    repeat (first
      | (refine And.intro ?_ ?_; (focus (first | omega | decide | exact Int.natCast_nonneg _ | ((repeat' refine And.intro ?_ ?_) <;> first | omega | exact Int.natCast_nonneg _ | (simp only [i64max, u8max, u16max, u32max, u64max]; omega) | (simp only [mulSz_eq, Cont.len, colsLen, Col.len, List.length_cons, List.length_nil, List.length_replicate, List.length_append]; first | done | omega) | (simp [mulSz, Cont.len, bne]; first | done | omega)))); conv => whnf)
      | (refine tst_in ?_ ?_; (focus (intro h_; exfalso; first | omega | ((try simp only [decide_eq_true_eq, decide_eq_false_iff_not] at h_); omega) | (simp [mulSz, Cont.len, bne] at h_; first | done | omega))); intro _; conv => whnf)
      | (refine tst_in ?_ ?_; rotate_left; (focus (intro h_; exfalso; first | omega | ((try simp only [decide_eq_true_eq, decide_eq_false_iff_not] at h_); omega) | (simp [mulSz, Cont.len, bne] at h_; first | done | omega))); intro _; conv => whnf)
      | (refine ⟨0, (show _ = _ by omega), ?_⟩; conv => whnf))
    refine ⟨⟨[0, 1, 2], (0, y1, List.replicate (2 * n) 0), ?_, Nat.zero_le _⟩, ?_⟩
    · show stLe _ _ (st21 A (List.append (tb (upF 1 (gF A)) n) y1) n ca (n + List.length (α := Nat × Nat) y1) 0 (List.replicate (2 * n) 0)) _
      conv => whnf
      repeat' (first | exact True.intro | rfl | refine And.intro ?_ ?_)
      all_goals (conv => whnf)
      repeat' (first | exact True.intro | rfl | refine And.intro ?_ ?_)
      all_goals (try omega)
      all_goals (first | omega | (simp; done) | (simp; omega))
    · intro ⟨i, y1, t⟩ (hi : i ≤ n)
      show forceSt (st21 A (tb (upF 1 (gF A)) n ++ y1) n ca (n + y1.length) i t) _
      conv => whnf
      refine tst_in (fun h1 => ?_) (fun h1' => ?_)
      · skip
        have h1 : i < n := by simp at h1; omega
        conv => whnf
        repeat (first
          | (refine And.intro ?_ ?_; (focus (first | omega | decide | exact Int.natCast_nonneg _ | ((repeat' refine And.intro ?_ ?_) <;> first | omega | exact Int.natCast_nonneg _ | (simp only [i64max, u8max, u16max, u32max, u64max]; omega) | (simp only [mulSz_eq, Cont.len, colsLen, Col.len, List.length_cons, List.length_nil, List.length_replicate, List.length_append, tab_len, List.length_take, List.length_drop, List.length_append]; first | done | omega) | (simp [mulSz, Cont.len, bne, tab_len, List.length_take, List.length_drop, List.length_append]; first | done | omega)))); conv => whnf)
          | (refine tst_in ?_ ?_; (focus (intro h_; exfalso; first | omega | ((try simp only [decide_eq_true_eq, decide_eq_false_iff_not] at h_); omega) | (simp [mulSz, Cont.len, bne, tab_len, List.length_take, List.length_drop, List.length_append] at h_; first | done | omega))); intro _; conv => whnf)
          | (refine tst_in ?_ ?_; rotate_left; (focus (intro h_; exfalso; first | omega | ((try simp only [decide_eq_true_eq, decide_eq_false_iff_not] at h_); omega) | (simp [mulSz, Cont.len, bne, tab_len, List.length_take, List.length_drop, List.length_append] at h_; first | done | omega))); intro _; conv => whnf)
          | (refine ⟨0, (show _ = _ by omega), ?_⟩; conv => whnf))
        intro t1
        conv => whnf
        repeat (first
          | (refine And.intro ?_ ?_; (focus (first | omega | decide | exact Int.natCast_nonneg _ | ((repeat' refine And.intro ?_ ?_) <;> first | omega | exact Int.natCast_nonneg _ | (simp only [i64max, u8max, u16max, u32max, u64max]; omega) | (simp only [mulSz_eq, Cont.len, colsLen, Col.len, List.length_cons, List.length_nil, List.length_replicate, List.length_append]; first | done | omega) | (simp [mulSz, Cont.len, bne]; first | done | omega)))); conv => whnf)
          | (refine tst_in ?_ ?_; (focus (intro h_; exfalso; first | omega | ((try simp only [decide_eq_true_eq, decide_eq_false_iff_not] at h_); omega) | (simp [mulSz, Cont.len, bne] at h_; first | done | omega))); intro _; conv => whnf)
          | (refine tst_in ?_ ?_; rotate_left; (focus (intro h_; exfalso; first | omega | ((try simp only [decide_eq_true_eq, decide_eq_false_iff_not] at h_); omega) | (simp [mulSz, Cont.len, bne] at h_; first | done | omega))); intro _; conv => whnf)
          | (refine ⟨0, (show _ = _ by omega), ?_⟩; conv => whnf))
        refine ⟨[0, 1, 4], (i + 1, y1, t1), ?_, (by show i + 1 ≤ n; omega), (by show n - (i + 1) < n - i; omega)⟩
        show stLe _ _ (st21 A (tb (upF 1 (gF A)) n ++ y1) n ca (n + y1.length) (i + 1) t1) _
        conv => whnf
        repeat' (first | exact True.intro | rfl | refine And.intro ?_ ?_)
        all_goals (conv => whnf)
        repeat' (first | exact True.intro | rfl | refine And.intro ?_ ?_)
        all_goals (try omega)
        exact (push2_tb (gF A) t t1 i _ _ (by rw [show 0 + (i : Int).toNat = i by omega, tab_app _ _ _ h1]) (by rw [show 0 + (i : Int).toNat = i by omega, tab_app _ _ _ h1])).symm
      · skip
        have h1 : i = n := by simp at h1'; omega
        subst h1
        conv => whnf
        repeat (first
          | (refine And.intro ?_ ?_; (focus (first | omega | decide | exact Int.natCast_nonneg _ | ((repeat' refine And.intro ?_ ?_) <;> first | omega | exact Int.natCast_nonneg _ | (simp only [i64max, u8max, u16max, u32max, u64max]; omega) | (simp only [mulSz_eq, Cont.len, colsLen, Col.len, List.length_cons, List.length_nil, List.length_replicate, List.length_append]; first | done | omega) | (simp [mulSz, Cont.len, bne]; first | done | omega)))); conv => whnf)
          | (refine tst_in ?_ ?_; (focus (intro h_; exfalso; first | omega | ((try simp only [decide_eq_true_eq, decide_eq_false_iff_not] at h_); omega) | (simp [mulSz, Cont.len, bne] at h_; first | done | omega))); intro _; conv => whnf)
          | (refine tst_in ?_ ?_; rotate_left; (focus (intro h_; exfalso; first | omega | ((try simp only [decide_eq_true_eq, decide_eq_false_iff_not] at h_); omega) | (simp [mulSz, Cont.len, bne] at h_; first | done | omega))); intro _; conv => whnf)
          | (refine ⟨0, (show _ = _ by omega), ?_⟩; conv => whnf))
        refine .inl ⟨t, [0, 2], ?_⟩
        conv => whnf
        repeat' (first | exact True.intro | rfl | refine And.intro ?_ ?_)
        all_goals (conv => whnf)
        repeat' (first | exact True.intro | rfl | refine And.intro ?_ ?_)
        all_goals (try omega)
  · skip
    conv => whnf
    repeat (first
      | (refine And.intro ?_ ?_; (focus (first | omega | decide | exact Int.natCast_nonneg _ | ((repeat' refine And.intro ?_ ?_) <;> first | omega | exact Int.natCast_nonneg _ | (simp only [i64max, u8max, u16max, u32max, u64max]; omega) | (simp only [mulSz_eq, Cont.len, colsLen, Col.len, List.length_cons, List.length_nil, List.length_replicate, List.length_append]; first | done | omega) | (simp [mulSz, Cont.len, bne]; first | done | omega)))); conv => whnf)
      | (refine tst_in ?_ ?_; (focus (intro h_; exfalso; first | omega | ((try simp only [decide_eq_true_eq, decide_eq_false_iff_not] at h_); omega) | (simp [mulSz, Cont.len, bne] at h_; first | done | omega))); intro _; conv => whnf)
      | (refine tst_in ?_ ?_; rotate_left; (focus (intro h_; exfalso; first | omega | ((try simp only [decide_eq_true_eq, decide_eq_false_iff_not] at h_); omega) | (simp [mulSz, Cont.len, bne] at h_; first | done | omega))); intro _; conv => whnf)
      | (refine ⟨0, (show _ = _ by omega), ?_⟩; conv => whnf))
    refine .inl ⟨[], [0, 9], ?_⟩
    conv => whnf
    repeat' (first | exact True.intro | rfl | refine And.intro ?_ ?_)
    all_goals (conv => whnf)
    repeat' (first | exact True.intro | rfl | refine And.intro ?_ ?_)
    all_goals (try omega)
end Go.Proofs.Ytancolnaoieafaa

set_option linter.unusedVariables false
set_option linter.unusedSimpArgs false
namespace Go.Proofs.Ytancolnaoieafaa
open Go Go.Fw
def LimU (n m : Nat) (e : Int) : Prop := (n ≤ 65536 ∧ n = 2 * m ∧ e = 0) ∨ (65536 < n ∧ m = 0 ∧ e = 1) ∨ (n ≤ 65536 ∧ n % 2 = 1 ∧ m = 0 ∧ e = 1)
def prF (R : List Nat) (i : Nat) : Nat × Nat := (R.getD (2 * i) 0, R.getD (2 * i + 1) 0)
noncomputable def c23 : Code := (Try.f23.body).getD .skip
def st23 (R : List Nat) (n ca i : Nat) (t : YT) : St := ⟨slotsAt 41 [(0, .slice 0 0 n ca), (4, .slice 1 0 i (i + t.length)), (5, .int .i64 ((2 * i : Nat) : Int))], [fS false R, cxS true (tb (upF 3 (prF R)) i ++ t)]⟩
def inv23 (R : List Nat) (n ca : Nat) : LInv := ⟨Nat × YT, fun y => st23 R n ca y.1 y.2, fun y => 2 * y.1 ≤ n, fun y => n - 2 * y.1⟩
set_option maxHeartbeats 0 in
set_option maxRecDepth 100000 in
theorem rUnline_f (R : List Nat) (n ca m : Nat) (e : Int) (hR : n ≤ R.length) (hca : n ≤ ca) (hn : n ≤ 17592186043904) (hm : LimU n m e) :
    Fits Try.prog 23 ⟨[.slice 0 0 n ca], [fS false R], [rOut [.dead] 1 (resE e) (upF 3 (prF R)) m]⟩ := by
  refine fits_of_body (C := { cfgs 1 with plan := fun | 7 => some (.lin [0, 1, 2, 3, 4, 5, 6, 7, 8, 9, 10, 11, 12, 13, 14, 15, 16, 17, 18] .done) | _ => none }) (c := c23) (ts := [2, 3]) tokL mixedL (fun | 5 => some (inv23 R n ca) | _ => none) (fun _ => none)
    Try.func23 (by kernel_rfl) (by kernel_rfl) (by kernel_rfl) (by kernel_rfl) rfl ?_
  obtain ⟨hn, rfl, rfl⟩ | ⟨hn, rfl, rfl⟩ | ⟨hn, h2, rfl, rfl⟩ := hm
  · skip
    conv => whnf
    repeat (first
      | (refine And.intro ?_ ?_; (focus (first | omega | decide | exact Int.natCast_nonneg _ | ((repeat' refine And.intro ?_ ?_) <;> first | omega | exact Int.natCast_nonneg _ | (simp only [i64max, u8max, u16max, u32max, u64max]; omega) | (simp only [mulSz_eq, Cont.len, colsLen, Col.len, List.length_cons, List.length_nil, List.length_replicate, List.length_append]; first | done | omega) | (simp [mulSz, Cont.len, bne]; first | done | omega)))); conv => whnf)
      | (refine tst_in ?_ ?_; (focus (intro h_; exfalso; first | omega | ((try simp only [decide_eq_true_eq, decide_eq_false_iff_not] at h_); omega) | (simp [mulSz, Cont.len, bne] at h_; first | done | omega))); intro _; conv => whnf)
      | (refine tst_in ?_ ?_; rotate_left; (focus (intro h_; exfalso; first | omega | ((try simp only [decide_eq_true_eq, decide_eq_false_iff_not] at h_); omega) | (simp [mulSz, Cont.len, bne] at h_; first | done | omega))); intro _; conv => whnf)
      | (refine ⟨0, (show _ = _ by omega), ?_⟩; conv => whnf))
    refine ⟨⟨[0, 9], (0, []), ?_, Nat.zero_le _⟩, ?_⟩
    · show stLe _ _ (st23 R (2 * m) ca 0 []) _
      conv => whnf
      repeat' (first | exact True.intro | rfl | refine And.intro ?_ ?_)
      all_goals (conv => whnf)
      repeat' (first | exact True.intro | rfl | refine And.intro ?_ ?_)
      all_goals (try omega)
    · intro ⟨i, t⟩ (hi : 2 * i ≤ 2 * m)
      show forceSt (st23 R (2 * m) ca i t) _
      conv => whnf
      repeat (first
        | (refine And.intro ?_ ?_; (focus (first | omega | decide | exact Int.natCast_nonneg _ | ((repeat' refine And.intro ?_ ?_) <;> first | omega | exact Int.natCast_nonneg _ | (simp only [i64max, u8max, u16max, u32max, u64max]; omega) | (simp only [mulSz_eq, Cont.len, colsLen, Col.len, List.length_cons, List.length_nil, List.length_replicate, List.length_append]; first | done | omega) | (simp [mulSz, Cont.len, bne]; first | done | omega)))); conv => whnf)
        | (refine tst_in ?_ ?_; (focus (intro h_; exfalso; first | omega | ((try simp only [decide_eq_true_eq, decide_eq_false_iff_not] at h_); omega) | (simp [mulSz, Cont.len, bne] at h_; first | done | omega))); intro _; conv => whnf)
        | (refine tst_in ?_ ?_; rotate_left; (focus (intro h_; exfalso; first | omega | ((try simp only [decide_eq_true_eq, decide_eq_false_iff_not] at h_); omega) | (simp [mulSz, Cont.len, bne] at h_; first | done | omega))); intro _; conv => whnf)
        | (refine ⟨0, (show _ = _ by omega), ?_⟩; conv => whnf))
      refine tst_in (fun h1 => ?_) (fun h1' => ?_)
      · skip
        have h1 : i < m := by simp at h1; omega
        have hd : ((2 * i : Nat) : Int) / 2 % 4 = ((i % 4 : Nat) : Int) := by omega
        have TQ := rTurn_q (R.getD (0 + ((2 * i : Nat) : Int).toNat) 0, R.getD (0 + (((2 * i : Nat) : Int) + 1).toNat) 0) (0 - ((2 * i : Nat) : Int) / 2 % 4) (i * 3 % 4) (by omega)
        conv => whnf
        repeat (first
          | (refine And.intro ?_ ?_; (focus (first | omega | decide | exact Int.natCast_nonneg _ | ((repeat' refine And.intro ?_ ?_) <;> first | omega | exact Int.natCast_nonneg _ | (simp only [i64max, u8max, u16max, u32max, u64max]; omega) | (simp only [mulSz_eq, Cont.len, colsLen, Col.len, List.length_cons, List.length_nil, List.length_replicate, List.length_append]; first | done | omega) | (simp [mulSz, Cont.len, bne]; first | done | omega)))); conv => whnf)
          | (refine tst_in ?_ ?_; (focus (intro h_; exfalso; first | omega | ((try simp only [decide_eq_true_eq, decide_eq_false_iff_not] at h_); omega) | (simp [mulSz, Cont.len, bne] at h_; first | done | omega))); intro _; conv => whnf)
          | (refine tst_in ?_ ?_; rotate_left; (focus (intro h_; exfalso; first | omega | ((try simp only [decide_eq_true_eq, decide_eq_false_iff_not] at h_); omega) | (simp [mulSz, Cont.len, bne] at h_; first | done | omega))); intro _; conv => whnf)
          | (refine ⟨0, (show _ = _ by omega), ?_⟩; conv => whnf))
        refine ⟨_, [], TQ, ?_⟩
        conv => whnf
        iterate 2
         refine And.intro ?_ ?_
         focus
          conv => whnf
          repeat' (first | exact True.intro | rfl | refine And.intro ?_ ?_ | omega)
          all_goals (conv => whnf)
          all_goals (try (first | rfl | omega | (simp; done)))
        conv => whnf
        conv => whnf
        repeat (first
          | (refine And.intro ?_ ?_; (focus (first | omega | decide | exact Int.natCast_nonneg _ | ((repeat' refine And.intro ?_ ?_) <;> first | omega | exact Int.natCast_nonneg _ | (simp only [i64max, u8max, u16max, u32max, u64max]; omega) | (simp only [mulSz_eq, Cont.len, colsLen, Col.len, List.length_cons, List.length_nil, List.length_replicate, List.length_append, tab_len, List.length_take, List.length_drop]; first | done | omega) | (simp [mulSz, Cont.len, bne, tab_len, List.length_take, List.length_drop]; first | done | omega)))); conv => whnf)
          | (refine tst_in ?_ ?_; (focus (intro h_; exfalso; first | omega | ((try simp only [decide_eq_true_eq, decide_eq_false_iff_not] at h_); omega) | (simp [mulSz, Cont.len, bne, tab_len, List.length_take, List.length_drop] at h_; first | done | omega))); intro _; conv => whnf)
          | (refine tst_in ?_ ?_; rotate_left; (focus (intro h_; exfalso; first | omega | ((try simp only [decide_eq_true_eq, decide_eq_false_iff_not] at h_); omega) | (simp [mulSz, Cont.len, bne, tab_len, List.length_take, List.length_drop] at h_; first | done | omega))); intro _; conv => whnf)
          | (refine ⟨0, (show _ = _ by omega), ?_⟩; conv => whnf))
        intro t1
        conv => whnf
        repeat (first
          | (refine And.intro ?_ ?_; (focus (first | omega | decide | exact Int.natCast_nonneg _ | ((repeat' refine And.intro ?_ ?_) <;> first | omega | exact Int.natCast_nonneg _ | (simp only [i64max, u8max, u16max, u32max, u64max]; omega) | (simp only [mulSz_eq, Cont.len, colsLen, Col.len, List.length_cons, List.length_nil, List.length_replicate, List.length_append]; first | done | omega) | (simp [mulSz, Cont.len, bne]; first | done | omega)))); conv => whnf)
          | (refine tst_in ?_ ?_; (focus (intro h_; exfalso; first | omega | ((try simp only [decide_eq_true_eq, decide_eq_false_iff_not] at h_); omega) | (simp [mulSz, Cont.len, bne] at h_; first | done | omega))); intro _; conv => whnf)
          | (refine tst_in ?_ ?_; rotate_left; (focus (intro h_; exfalso; first | omega | ((try simp only [decide_eq_true_eq, decide_eq_false_iff_not] at h_); omega) | (simp [mulSz, Cont.len, bne] at h_; first | done | omega))); intro _; conv => whnf)
          | (refine ⟨0, (show _ = _ by omega), ?_⟩; conv => whnf))
        refine ⟨[0, 3], (i + 1, t1), ?_, (by show 2 * (i + 1) ≤ 2 * m; omega), (by show 2 * m - 2 * (i + 1) < 2 * m - 2 * i; omega)⟩
        show stLe _ _ (st23 R (2 * m) ca (i + 1) t1) _
        conv => whnf
        repeat' (first | exact True.intro | rfl | refine And.intro ?_ ?_)
        all_goals (conv => whnf)
        repeat' (first | exact True.intro | rfl | refine And.intro ?_ ?_)
        all_goals (try omega)
        exact (push_tb (upF 3 (prF R)) t t1 i _ (by unfold upF prF; rw [show 0 + ((2 * i : Nat) : Int).toNat = 2 * i by omega, show 0 + (((2 * i : Nat) : Int) + 1).toNat = 2 * i + 1 by omega])).symm
      · skip
        have h1 : i = m := by simp at h1'; omega
        subst h1
        conv => whnf
        repeat (first
          | (refine And.intro ?_ ?_; (focus (first | omega | decide | exact Int.natCast_nonneg _ | ((repeat' refine And.intro ?_ ?_) <;> first | omega | exact Int.natCast_nonneg _ | (simp only [i64max, u8max, u16max, u32max, u64max]; omega) | (simp only [mulSz_eq, Cont.len, colsLen, Col.len, List.length_cons, List.length_nil, List.length_replicate, List.length_append]; first | done | omega) | (simp [mulSz, Cont.len, bne]; first | done | omega)))); conv => whnf)
          | (refine tst_in ?_ ?_; (focus (intro h_; exfalso; first | omega | ((try simp only [decide_eq_true_eq, decide_eq_false_iff_not] at h_); omega) | (simp [mulSz, Cont.len, bne] at h_; first | done | omega))); intro _; conv => whnf)
          | (refine tst_in ?_ ?_; rotate_left; (focus (intro h_; exfalso; first | omega | ((try simp only [decide_eq_true_eq, decide_eq_false_iff_not] at h_); omega) | (simp [mulSz, Cont.len, bne] at h_; first | done | omega))); intro _; conv => whnf)
          | (refine ⟨0, (show _ = _ by omega), ?_⟩; conv => whnf))
        refine .inl ⟨t, [0, 1], ?_⟩
        conv => whnf
        repeat' (first | exact True.intro | rfl | refine And.intro ?_ ?_)
        all_goals (conv => whnf)
        repeat' (first | exact True.intro | rfl | refine And.intro ?_ ?_)
        all_goals (try omega)
  · skip
    conv => whnf
    repeat (first
      | (refine And.intro ?_ ?_; (focus (first | omega | decide | exact Int.natCast_nonneg _ | ((repeat' refine And.intro ?_ ?_) <;> first | omega | exact Int.natCast_nonneg _ | (simp only [i64max, u8max, u16max, u32max, u64max]; omega) | (simp only [mulSz_eq, Cont.len, colsLen, Col.len, List.length_cons, List.length_nil, List.length_replicate, List.length_append]; first | done | omega) | (simp [mulSz, Cont.len, bne]; first | done | omega)))); conv => whnf)
      | (refine tst_in ?_ ?_; (focus (intro h_; exfalso; first | omega | ((try simp only [decide_eq_true_eq, decide_eq_false_iff_not] at h_); omega) | (simp [mulSz, Cont.len, bne] at h_; first | done | omega))); intro _; conv => whnf)
      | (refine tst_in ?_ ?_; rotate_left; (focus (intro h_; exfalso; first | omega | ((try simp only [decide_eq_true_eq, decide_eq_false_iff_not] at h_); omega) | (simp [mulSz, Cont.len, bne] at h_; first | done | omega))); intro _; conv => whnf)
      | (refine ⟨0, (show _ = _ by omega), ?_⟩; conv => whnf))
    refine .inl ⟨[], [0, 9], ?_⟩
    conv => whnf
    repeat' (first | exact True.intro | rfl | refine And.intro ?_ ?_)
    all_goals (conv => whnf)
    repeat' (first | exact True.intro | rfl | refine And.intro ?_ ?_)
    all_goals (try omega)
  · skip
    conv => whnf
    repeat (first
      | (refine And.intro ?_ ?_; (focus (first | omega | decide | exact Int.natCast_nonneg _ | ((repeat' refine And.intro ?_ ?_) <;> first | omega | exact Int.natCast_nonneg _ | (simp only [i64max, u8max, u16max, u32max, u64max]; omega) | (simp only [mulSz_eq, Cont.len, colsLen, Col.len, List.length_cons, List.length_nil, List.length_replicate, List.length_append]; first | done | omega) | (simp [mulSz, Cont.len, bne]; first | done | omega)))); conv => whnf)
      | (refine tst_in ?_ ?_; (focus (intro h_; exfalso; first | omega | ((try simp only [decide_eq_true_eq, decide_eq_false_iff_not] at h_); omega) | (simp [mulSz, Cont.len, bne] at h_; first | done | omega))); intro _; conv => whnf)
      | (refine tst_in ?_ ?_; rotate_left; (focus (intro h_; exfalso; first | omega | ((try simp only [decide_eq_true_eq, decide_eq_false_iff_not] at h_); omega) | (simp [mulSz, Cont.len, bne] at h_; first | done | omega))); intro _; conv => whnf)
      | (refine ⟨0, (show _ = _ by omega), ?_⟩; conv => whnf))
    refine .inl ⟨[], [0, 9], ?_⟩
    conv => whnf
    repeat' (first | exact True.intro | rfl | refine And.intro ?_ ?_)
    all_goals (conv => whnf)
    repeat' (first | exact True.intro | rfl | refine And.intro ?_ ?_)
    all_goals (try omega)
noncomputable def c24 : Code := (Try.f24.body).getD .skip
def st24 (R : List Nat) (n ca m i : Nat) : St := ⟨slotsAt 44 [(0, .slice 0 0 n ca), (4, .slice 1 0 m m), (20, .int .i64 m), (21, .int .i64 i)], [fS false R, cxS true (tb (prF R) i ++ List.replicate (m - i) (0, 0))]⟩
def inv24 (R : List Nat) (n ca m : Nat) : LInv := ⟨Nat, fun i => st24 R n ca m i, fun i => i ≤ m, fun i => m - i⟩
set_option maxHeartbeats 0 in
set_option maxRecDepth 100000 in
theorem Unline_f (R : List Nat) (n ca m : Nat) (e : Int) (hR : n ≤ R.length) (hca : n ≤ ca) (hn : n ≤ 17592186043904) (hm : LimU n m e) :
    Fits Try.prog 24 ⟨[.slice 0 0 n ca], [fS false R], [rOut [.dead] 1 (resE e) (upF 3 (prF R)) m]⟩ := by
  refine fits_of_body (C := { cfgs 1 with plan := fun | 7 => some (.lin [0, 1, 2, 3, 4, 5, 6, 7, 8, 9, 10, 11, 12, 13, 14, 15] .done) | _ => none }) (c := c24) (ts := [2, 3]) tokL mixedL (fun | 5 => some (inv24 R n ca m) | _ => none) (fun _ => none)
    Try.func24 (by kernel_rfl) (by kernel_rfl) (by kernel_rfl) (by kernel_rfl) rfl ?_
  obtain ⟨hn, rfl, rfl⟩ | ⟨hn, rfl, rfl⟩ | ⟨hn, h2, rfl, rfl⟩ := hm
  · skip
    have hd : ((2 * m : Nat) : Int) / 2 = (m : Int) := by omega
    conv => whnf
    repeat (first
      | (refine And.intro ?_ ?_; (focus (first | omega | decide | exact Int.natCast_nonneg _ | ((repeat' refine And.intro ?_ ?_) <;> first | omega | exact Int.natCast_nonneg _ | (simp only [i64max, u8max, u16max, u32max, u64max]; omega) | (simp only [mulSz_eq, Cont.len, colsLen, Col.len, List.length_cons, List.length_nil, List.length_replicate, List.length_append]; first | done | omega) | (simp [mulSz, Cont.len, bne]; first | done | omega)))); conv => whnf)
      | (refine tst_in ?_ ?_; (focus (intro h_; exfalso; first | omega | ((try simp only [decide_eq_true_eq, decide_eq_false_iff_not] at h_); omega) | (simp [mulSz, Cont.len, bne] at h_; first | done | omega))); intro _; conv => whnf)
      | (refine tst_in ?_ ?_; rotate_left; (focus (intro h_; exfalso; first | omega | ((try simp only [decide_eq_true_eq, decide_eq_false_iff_not] at h_); omega) | (simp [mulSz, Cont.len, bne] at h_; first | done | omega))); intro _; conv => whnf)
      | (refine ⟨0, (show _ = _ by omega), ?_⟩; conv => whnf))
    refine ⟨⟨[0, 1], (0 : Nat), ?_, Nat.zero_le _⟩, ?_⟩
    · show stLe _ _ (st24 R (2 * m) ca m 0) _
      conv => whnf
      repeat' (first | exact True.intro | rfl | refine And.intro ?_ ?_)
      all_goals (conv => whnf)
      repeat' (first | exact True.intro | rfl | refine And.intro ?_ ?_)
      all_goals (try omega)
      all_goals (first | omega | (simp; omega) | (rw [hd]; rfl) | skip)
    · intro (i : Nat) (hi : i ≤ m)
      show forceSt (st24 R (2 * m) ca m i) _
      conv => whnf
      refine tst_in (fun h1 => ?_) (fun h1' => ?_)
      · skip
        have h1 : i < m := by simp at h1; omega
        conv => whnf
        repeat (first
          | (refine And.intro ?_ ?_; (focus (first | omega | decide | exact Int.natCast_nonneg _ | ((repeat' refine And.intro ?_ ?_) <;> first | omega | exact Int.natCast_nonneg _ | (simp only [i64max, u8max, u16max, u32max, u64max]; omega) | (simp only [mulSz_eq, Cont.len, colsLen, Col.len, List.length_cons, List.length_nil, List.length_replicate, List.length_append, tab_len, List.length_append, List.length_replicate]; first | done | omega) | (simp [mulSz, Cont.len, bne, tab_len, List.length_append, List.length_replicate]; first | done | omega)))); conv => whnf)
          | (refine tst_in ?_ ?_; (focus (intro h_; exfalso; first | omega | ((try simp only [decide_eq_true_eq, decide_eq_false_iff_not] at h_); omega) | (simp [mulSz, Cont.len, bne, tab_len, List.length_append, List.length_replicate] at h_; first | done | omega))); intro _; conv => whnf)
          | (refine tst_in ?_ ?_; rotate_left; (focus (intro h_; exfalso; first | omega | ((try simp only [decide_eq_true_eq, decide_eq_false_iff_not] at h_); omega) | (simp [mulSz, Cont.len, bne, tab_len, List.length_append, List.length_replicate] at h_; first | done | omega))); intro _; conv => whnf)
          | (refine ⟨0, (show _ = _ by omega), ?_⟩; conv => whnf))
        refine ⟨[0, 1], i + 1, ?_, (by show i + 1 ≤ m; omega), (by show m - (i + 1) < m - i; omega)⟩
        show stLe _ _ (st24 R (2 * m) ca m (i + 1)) _
        conv => whnf
        repeat' (first | exact True.intro | rfl | refine And.intro ?_ ?_)
        all_goals (conv => whnf)
        repeat' (first | exact True.intro | rfl | refine And.intro ?_ ?_)
        all_goals (try omega)
        refine (set_tb (prF R) (0, 0) _ i m h1 ?_).symm
        unfold prF
        rw [show 0 + (2 * (i : Int)).toNat = 2 * i by omega, show 0 + (2 * (i : Int) + 1).toNat = 2 * i + 1 by omega]
      · skip
        have h1 : i = m := by simp at h1'; omega
        subst h1
        have MV := moved_f (tb (prF R) i ++ List.replicate (i - i) (0, 0)) i i i 0 (-1) 3 (by rw [List.length_append, tab_len]; omega) (by omega) (by omega) rfl (.inl ⟨by omega, rfl, rfl⟩)
        conv => whnf
        repeat (first
          | (refine And.intro ?_ ?_; (focus (first | omega | decide | exact Int.natCast_nonneg _ | ((repeat' refine And.intro ?_ ?_) <;> first | omega | exact Int.natCast_nonneg _ | (simp only [i64max, u8max, u16max, u32max, u64max]; omega) | (simp only [mulSz_eq, Cont.len, colsLen, Col.len, List.length_cons, List.length_nil, List.length_replicate, List.length_append]; first | done | omega) | (simp [mulSz, Cont.len, bne]; first | done | omega)))); conv => whnf)
          | (refine tst_in ?_ ?_; (focus (intro h_; exfalso; first | omega | ((try simp only [decide_eq_true_eq, decide_eq_false_iff_not] at h_); omega) | (simp [mulSz, Cont.len, bne] at h_; first | done | omega))); intro _; conv => whnf)
          | (refine tst_in ?_ ?_; rotate_left; (focus (intro h_; exfalso; first | omega | ((try simp only [decide_eq_true_eq, decide_eq_false_iff_not] at h_); omega) | (simp [mulSz, Cont.len, bne] at h_; first | done | omega))); intro _; conv => whnf)
          | (refine ⟨0, (show _ = _ by omega), ?_⟩; conv => whnf))
        refine ⟨_, [1], MV, ?_⟩
        conv => whnf
        iterate 2
         refine And.intro ?_ ?_
         focus
          conv => whnf
          repeat' (first | exact True.intro | rfl | refine And.intro ?_ ?_ | omega)
          all_goals (conv => whnf)
          all_goals (try (first | rfl | omega | (simp; done)))
        conv => whnf
        refine ⟨?_, True.intro⟩
        intro (y) _
        conv => whnf
        conv => whnf
        repeat (first
          | (refine And.intro ?_ ?_; (focus (first | omega | decide | exact Int.natCast_nonneg _ | ((repeat' refine And.intro ?_ ?_) <;> first | omega | exact Int.natCast_nonneg _ | (simp only [i64max, u8max, u16max, u32max, u64max]; omega) | (simp only [mulSz_eq, Cont.len, colsLen, Col.len, List.length_cons, List.length_nil, List.length_replicate, List.length_append]; first | done | omega) | (simp [mulSz, Cont.len, bne]; first | done | omega)))); conv => whnf)
          | (refine tst_in ?_ ?_; (focus (intro h_; exfalso; first | omega | ((try simp only [decide_eq_true_eq, decide_eq_false_iff_not] at h_); omega) | (simp [mulSz, Cont.len, bne] at h_; first | done | omega))); intro _; conv => whnf)
          | (refine tst_in ?_ ?_; rotate_left; (focus (intro h_; exfalso; first | omega | ((try simp only [decide_eq_true_eq, decide_eq_false_iff_not] at h_); omega) | (simp [mulSz, Cont.len, bne] at h_; first | done | omega))); intro _; conv => whnf)
          | (refine ⟨0, (show _ = _ by omega), ?_⟩; conv => whnf))
        refine .inl ⟨y, [0, 2], ?_⟩
        conv => whnf
        repeat' (first | exact True.intro | rfl | refine And.intro ?_ ?_)
        all_goals (conv => whnf)
        repeat' (first | exact True.intro | rfl | refine And.intro ?_ ?_)
        all_goals (try omega)
        have ec : tb (upF 3 (gF (tb (prF R) i ++ List.replicate (i - i) (0, 0)))) i = tb (upF 3 (prF R)) i := tab_congr fun j hj => by unfold upF gF; rw [tab_app _ _ _ hj]
        exact congrArg (fun l : YT => List.append l y) ec.symm
  · skip
    conv => whnf
    repeat (first
      | (refine And.intro ?_ ?_; (focus (first | omega | decide | exact Int.natCast_nonneg _ | ((repeat' refine And.intro ?_ ?_) <;> first | omega | exact Int.natCast_nonneg _ | (simp only [i64max, u8max, u16max, u32max, u64max]; omega) | (simp only [mulSz_eq, Cont.len, colsLen, Col.len, List.length_cons, List.length_nil, List.length_replicate, List.length_append]; first | done | omega) | (simp [mulSz, Cont.len, bne]; first | done | omega)))); conv => whnf)
      | (refine tst_in ?_ ?_; (focus (intro h_; exfalso; first | omega | ((try simp only [decide_eq_true_eq, decide_eq_false_iff_not] at h_); omega) | (simp [mulSz, Cont.len, bne] at h_; first | done | omega))); intro _; conv => whnf)
      | (refine tst_in ?_ ?_; rotate_left; (focus (intro h_; exfalso; first | omega | ((try simp only [decide_eq_true_eq, decide_eq_false_iff_not] at h_); omega) | (simp [mulSz, Cont.len, bne] at h_; first | done | omega))); intro _; conv => whnf)
      | (refine ⟨0, (show _ = _ by omega), ?_⟩; conv => whnf))
    refine .inl ⟨[], [0, 9], ?_⟩
    conv => whnf
    repeat' (first | exact True.intro | rfl | refine And.intro ?_ ?_)
    all_goals (conv => whnf)
    repeat' (first | exact True.intro | rfl | refine And.intro ?_ ?_)
    all_goals (try omega)
  · skip
    conv => whnf
    repeat (first
      | (refine And.intro ?_ ?_; (focus (first | omega | decide | exact Int.natCast_nonneg _ | ((repeat' refine And.intro ?_ ?_) <;> first | omega | exact Int.natCast_nonneg _ | (simp only [i64max, u8max, u16max, u32max, u64max]; omega) | (simp only [mulSz_eq, Cont.len, colsLen, Col.len, List.length_cons, List.length_nil, List.length_replicate, List.length_append]; first | done | omega) | (simp [mulSz, Cont.len, bne]; first | done | omega)))); conv => whnf)
      | (refine tst_in ?_ ?_; (focus (intro h_; exfalso; first | omega | ((try simp only [decide_eq_true_eq, decide_eq_false_iff_not] at h_); omega) | (simp [mulSz, Cont.len, bne] at h_; first | done | omega))); intro _; conv => whnf)
      | (refine tst_in ?_ ?_; rotate_left; (focus (intro h_; exfalso; first | omega | ((try simp only [decide_eq_true_eq, decide_eq_false_iff_not] at h_); omega) | (simp [mulSz, Cont.len, bne] at h_; first | done | omega))); intro _; conv => whnf)
      | (refine ⟨0, (show _ = _ by omega), ?_⟩; conv => whnf))
    refine .inl ⟨[], [0, 9], ?_⟩
    conv => whnf
    repeat' (first | exact True.intro | rfl | refine And.intro ?_ ?_)
    all_goals (conv => whnf)
    repeat' (first | exact True.intro | rfl | refine And.intro ?_ ?_)
    all_goals (try omega)
end Go.Proofs.Ytancolnaoieafaa

set_option linter.unusedVariables false
set_option linter.unusedSimpArgs false
namespace Go.Proofs.Ytancolnaoieafaa
open Go Go.Fw
noncomputable def c4 : Code := (Try.f4.body).getD .skip
def ff (r : List Int) (i : Nat) : Nat := (r.getD i 0).toNat
def fmk : Nat := 4651892959631900672
def st4 (l r : List Int) (nl cl nr cr N : Nat) (y : YT) (j : Nat) (t : FT) : St :=
  ⟨slotsAt 164 [(0, .slice 0 0 nl cl), (1, .slice 1 0 nr cr), (5, .slice 2 0 N (N + 1 + y.length)), (6, .slice 3 0 j (j + t.length)), (7, .int .i64 j)], [u8S l, u8S r, cxS true (tb (zF l) N ++ mk :: y), fS true (tb (ff r) j ++ t)]⟩
def inv4 (l r : List Int) (nl cl nr cr N : Nat) : LInv := ⟨Nat × YT × FT, fun x => st4 l r nl cl nr cr N x.2.1 x.1 x.2.2, fun x => x.1 ≤ nr, fun x => nr - x.1⟩
structure T4 where
  y : YT
  t : FT
  u : FT
  ta : FT
  tc : FT
  X : FT
  i : Nat
def st4b (s : Nat) (l r : List Int) (nl cl nr cr N : Nat) (m : Nat) (e : Int) (b : Nat) (y : YT) (t u ta tc X : FT) (i : Nat) : St :=
  ⟨slotsAt 164 [(0, .slice 0 0 nl cl), (1, .slice 1 0 nr cr), (6, .slice 3 0 nr (nr + t.length)), (8, .slice 4 0 nr (nr + 1 + u.length)), (9, .slice 5 0 m (m + ta.length)),
      (11, .slice 6 0 b X.length), (13, .slice 7 0 m (m + tc.length)), (s, .int .i64 i)],
    [u8S l, u8S r, .dead, fS true (tb (ff r) nr ++ t), fS true (tb (ff r) nr ++ fmk :: u), fS true (tb (lnF (gF (tb (zF l) N ++ mk :: y))) m ++ ta), fS true X, fS true (tb (lnF (gF (tb (zF l) N ++ mk :: y))) m ++ tc)]⟩
def inv4b (l r : List Int) (nl cl nr cr N m : Nat) (e : Int) : LInv := ⟨T4, fun x => st4b 15 l r nl cl nr cr N m e m x.y x.t x.u x.ta x.tc x.X x.i, fun x => x.i ≤ m ∧ m ≤ x.X.length, fun x => m - x.i⟩
def inv4c (l r : List Int) (nl cl nr cr N m : Nat) (e : Int) : LInv := ⟨T4, fun x => st4b 16 l r nl cl nr cr N m e (m + x.i) x.y x.t x.u x.ta x.tc x.X x.i, fun x => x.i ≤ 20 ∧ m + x.i ≤ x.X.length, fun x => 20 - x.i⟩
def st4d (r : List Int) (nr cr : Nat) (u : FT) (i : Nat) : St :=
  ⟨slotsAt 164 [(1, .slice 1 0 nr cr), (8, .slice 2 0 nr (nr + 1 + u.length)), (23, .int .i64 i)], [.dead, u8S r, fS true (tb (ff r) nr ++ fmk :: u)]⟩
def inv4d (r : List Int) (nr cr : Nat) : LInv := ⟨FT × Nat, fun x => st4d r nr cr x.1 x.2, fun x => x.2 ≤ nr, fun x => nr - x.2⟩
theorem six_lenF (n : Nat) (Y t1 : FT) (h : n ≤ Y.length) : (List.take n (List.drop 0 Y) ++ List.take 1 (List.drop 0 [(4618441417868443648 : Nat)]) ++ t1).length = n + 1 + t1.length := by
  rw [List.length_append, List.length_append, List.length_take, List.length_take]; simp; omega
theorem ap_len (F : Nat → Nat) (m : Nat) (y : FT) : (List.append (tb F m) y).length = m + y.length := by show (tb F m ++ y).length = _; rw [List.length_append, tab_len]
theorem rOut_c (D : List Seg) (k : Nat) (x : AV → AV) {F G : Nat → Nat × Nat} {n : Nat} (h : tb F n = tb G n) : rOut D k x F n = rOut D k x G n := by unfold rOut; rw [h]
theorem in_tb (F : Nat → Nat) (t t1 u : FT) (n x : Nat) : tb F n ++ x :: u = List.take (0 + n) (List.drop 0 (List.take 0 (List.drop 0 []) ++ List.take n (List.drop 0 (tb F n ++ t)) ++ t1)) ++ List.take 1 (List.drop 0 [x]) ++ u := by
  have e : List.take n (tb F n ++ t) = tb F n := List.take_left' (tab_len F n)
  simp only [List.drop_zero, List.take_zero, List.nil_append, Nat.zero_add, e]
  rw [List.take_left' (tab_len F n)]; simp
set_option maxHeartbeats 0 in
set_option maxRecDepth 100000 in
theorem lines_f (l r : List Int) (nl cl nr cr : Nat) (hl : nl ≤ l.length) (hcl : nl ≤ cl) (hn : nl ≤ 17592186043904) (hp : ∀ i, 0 ≤ l.getD i 0)
    (hr : nr ≤ r.length) (hcr : nr ≤ cr) (hnr : nr ≤ 17592186043904) (hpr : ∀ i, 0 ≤ r.getD i 0) :
    Fits Try.prog 4 ⟨[.slice 0 0 nl cl, .slice 1 0 nr cr], [u8S l, u8S r], [numOut [.dead, .dead] (.bool true)]⟩ := by
  obtain ⟨N, hN⟩ : ∃ N, N = nl / 2 := ⟨_, rfl⟩
  obtain ⟨m, e, hm⟩ : ∃ m e, LimL N m e := by
    by_cases h : N ≤ 32768
    · exact ⟨2 * N, 0, .inl ⟨h, rfl, rfl⟩⟩
    · exact ⟨0, 1, .inr ⟨by omega, rfl, rfl⟩⟩
  obtain ⟨k, f, hk⟩ : ∃ k f, LimU nr k f := by
    by_cases h : nr ≤ 65536
    · by_cases h2 : nr % 2 = 0
      · exact ⟨nr / 2, 0, .inl ⟨h, by omega, rfl⟩⟩
      · exact ⟨0, 1, .inr (.inr ⟨h, by omega, rfl, rfl⟩)⟩
    · exact ⟨0, 1, .inr (.inl ⟨by omega, rfl, rfl⟩)⟩
  have hm5 : m ≤ 65536 := by rcases hm with h | h <;> omega
  have hk5 : k ≤ 65536 := by rcases hk with h | h | h <;> omega
  have NU := numbers_f l nl cl N hl hcl hn hN
  refine fits_of_body (C := cfgs 2) (c := c4) (ts := [4]) tokL mixedL (fun | 4 => some (inv4 l r nl cl nr cr N) | 14 => some (inv4b l r nl cl nr cr N m e) | 18 => some (inv4c l r nl cl nr cr N m e) | 27 => some (inv4d r nr cr) | _ => none) (fun _ => none)
    Try.func4 (by kernel_rfl) (by kernel_rfl) (by kernel_rfl) (by kernel_rfl) rfl ?_
  conv => whnf
  repeat (first
    | (refine And.intro ?_ ?_; (focus (first | omega | decide | exact Int.natCast_nonneg _ | ((repeat' refine And.intro ?_ ?_) <;> first | omega | exact Int.natCast_nonneg _ | (simp only [i64max, u8max, u16max, u32max, u64max]; omega) | (simp only [mulSz_eq, Cont.len, colsLen, Col.len, List.length_cons, List.length_nil, List.length_replicate, List.length_append]; first | done | omega) | (simp [mulSz, Cont.len, bne]; first | done | omega)))); conv => whnf)
    | (refine tst_in ?_ ?_; (focus (intro h_; exfalso; first | omega | ((try simp only [decide_eq_true_eq, decide_eq_false_iff_not] at h_); omega) | (simp [mulSz, Cont.len, bne] at h_; first | done | omega))); intro _; conv => whnf)
    | (refine tst_in ?_ ?_; rotate_left; (focus (intro h_; exfalso; first | omega | ((try simp only [decide_eq_true_eq, decide_eq_false_iff_not] at h_); omega) | (simp [mulSz, Cont.len, bne] at h_; first | done | omega))); intro _; conv => whnf)
    | (refine ⟨0, (show _ = _ by omega), ?_⟩; conv => whnf))
  refine ⟨_, [0], NU, ?_⟩
  conv => whnf
  iterate 2
   refine And.intro ?_ ?_
   focus
    conv => whnf
    repeat' (first | exact True.intro | rfl | refine And.intro ?_ ?_ | omega)
    all_goals (conv => whnf)
    all_goals (try (first | rfl | omega | (simp; done)))
  conv => whnf
  refine ⟨?_, True.intro⟩
  intro (y) _
  conv => whnf
  conv => whnf
  repeat (first
    | (refine And.intro ?_ ?_; (focus (first | omega | decide | exact Int.natCast_nonneg _ | ((repeat' refine And.intro ?_ ?_) <;> first | omega | exact Int.natCast_nonneg _ | (simp only [i64max, u8max, u16max, u32max, u64max]; omega) | (simp only [mulSz_eq, Cont.len, colsLen, Col.len, List.length_cons, List.length_nil, List.length_replicate, List.length_append]; first | done | omega) | (simp [mulSz, Cont.len, bne]; first | done | omega)))); conv => whnf)
    | (refine tst_in ?_ ?_; (focus (intro h_; exfalso; first | omega | ((try simp only [decide_eq_true_eq, decide_eq_false_iff_not] at h_); omega) | (simp [mulSz, Cont.len, bne] at h_; first | done | omega))); intro _; conv => whnf)
    | (refine tst_in ?_ ?_; rotate_left; (focus (intro h_; exfalso; first | omega | ((try simp only [decide_eq_true_eq, decide_eq_false_iff_not] at h_); omega) | (simp [mulSz, Cont.len, bne] at h_; first | done | omega))); intro _; conv => whnf)
    | (refine ⟨0, (show _ = _ by omega), ?_⟩; conv => whnf))
  refine ⟨⟨[0, 1, 2, 9], (0, y, []), ?_, Nat.zero_le _⟩, ?_⟩
  · show stLe _ _ (st4 l r nl cl nr cr N y 0 []) _
    conv => whnf
    repeat' (first | exact True.intro | rfl | refine And.intro ?_ ?_)
    all_goals (conv => whnf)
    repeat' (first | exact True.intro | rfl | refine And.intro ?_ ?_)
    all_goals (try omega)
  · intro ⟨j, y, t⟩ (hj : j ≤ nr)
    show forceSt (st4 l r nl cl nr cr N y j t) _
    conv => whnf
    refine tst_in (fun h1 => ?_) (fun h1' => ?_)
    · skip
      have h1 : j < nr := by simp at h1; omega
      conv => whnf
      repeat (first
        | (refine And.intro ?_ ?_; (focus (first | omega | decide | exact Int.natCast_nonneg _ | ((repeat' refine And.intro ?_ ?_) <;> first | omega | exact Int.natCast_nonneg _ | (simp only [i64max, u8max, u16max, u32max, u64max]; omega) | (simp only [mulSz_eq, Cont.len, colsLen, Col.len, List.length_cons, List.length_nil, List.length_replicate, List.length_append]; first | done | omega) | (simp [mulSz, Cont.len, bne]; first | done | omega)))); conv => whnf)
        | (refine tst_in ?_ ?_; (focus (intro h_; exfalso; first | omega | ((try simp only [decide_eq_true_eq, decide_eq_false_iff_not] at h_); omega) | (simp [mulSz, Cont.len, bne] at h_; first | done | omega))); intro _; conv => whnf)
        | (refine tst_in ?_ ?_; rotate_left; (focus (intro h_; exfalso; first | omega | ((try simp only [decide_eq_true_eq, decide_eq_false_iff_not] at h_); omega) | (simp [mulSz, Cont.len, bne] at h_; first | done | omega))); intro _; conv => whnf)
        | (refine ⟨0, (show _ = _ by omega), ?_⟩; conv => whnf))
      refine ⟨_, _, fb_x _, rfl, ?_⟩
      conv => whnf
      conv => whnf
      repeat (first
        | (refine And.intro ?_ ?_; (focus (first | omega | decide | exact Int.natCast_nonneg _ | ((repeat' refine And.intro ?_ ?_) <;> first | omega | exact Int.natCast_nonneg _ | (simp only [i64max, u8max, u16max, u32max, u64max]; omega) | (simp only [mulSz_eq, Cont.len, colsLen, Col.len, List.length_cons, List.length_nil, List.length_replicate, List.length_append, tab_len, List.length_take, List.length_drop, List.length_append]; first | done | omega) | (simp [mulSz, Cont.len, bne, tab_len, List.length_take, List.length_drop, List.length_append]; first | done | omega)))); conv => whnf)
        | (refine tst_in ?_ ?_; (focus (intro h_; exfalso; first | omega | ((try simp only [decide_eq_true_eq, decide_eq_false_iff_not] at h_); omega) | (simp [mulSz, Cont.len, bne, tab_len, List.length_take, List.length_drop, List.length_append] at h_; first | done | omega))); intro _; conv => whnf)
        | (refine tst_in ?_ ?_; rotate_left; (focus (intro h_; exfalso; first | omega | ((try simp only [decide_eq_true_eq, decide_eq_false_iff_not] at h_); omega) | (simp [mulSz, Cont.len, bne, tab_len, List.length_take, List.length_drop, List.length_append] at h_; first | done | omega))); intro _; conv => whnf)
        | (refine ⟨0, (show _ = _ by omega), ?_⟩; conv => whnf))
      intro t1
      conv => whnf
      repeat (first
        | (refine And.intro ?_ ?_; (focus (first | omega | decide | exact Int.natCast_nonneg _ | ((repeat' refine And.intro ?_ ?_) <;> first | omega | exact Int.natCast_nonneg _ | (simp only [i64max, u8max, u16max, u32max, u64max]; omega) | (simp only [mulSz_eq, Cont.len, colsLen, Col.len, List.length_cons, List.length_nil, List.length_replicate, List.length_append]; first | done | omega) | (simp [mulSz, Cont.len, bne]; first | done | omega)))); conv => whnf)
        | (refine tst_in ?_ ?_; (focus (intro h_; exfalso; first | omega | ((try simp only [decide_eq_true_eq, decide_eq_false_iff_not] at h_); omega) | (simp [mulSz, Cont.len, bne] at h_; first | done | omega))); intro _; conv => whnf)
        | (refine tst_in ?_ ?_; rotate_left; (focus (intro h_; exfalso; first | omega | ((try simp only [decide_eq_true_eq, decide_eq_false_iff_not] at h_); omega) | (simp [mulSz, Cont.len, bne] at h_; first | done | omega))); intro _; conv => whnf)
        | (refine ⟨0, (show _ = _ by omega), ?_⟩; conv => whnf))
      refine ⟨[0, 1, 2, 5], (j + 1, y, t1), ?_, (by show j + 1 ≤ nr; omega), (by show nr - (j + 1) < nr - j; omega)⟩
      show stLe _ _ (st4 l r nl cl nr cr N y (j + 1) t1) _
      conv => whnf
      repeat' (first | exact True.intro | rfl | refine And.intro ?_ ?_)
      all_goals (conv => whnf)
      repeat' (first | exact True.intro | rfl | refine And.intro ?_ ?_)
      all_goals (try omega)
      exact (push_tb (ff r) t t1 j _ (by unfold ff; rw [show 0 + (j : Int).toNat = j by omega])).symm
    · skip
      have h1 : nr = j := by simp at h1'; omega
      subst h1
      have hA : N ≤ (tb (zF l) N ++ mk :: y).length := by rw [List.length_append, tab_len]; omega
      have hA1 : N + 1 ≤ (tb (zF l) N ++ mk :: y).length := by rw [List.length_append, tab_len, List.length_cons]; omega
      have L0 := rLine_f (tb (zF l) N ++ mk :: y) N (N + 1 + y.length) m e hA (by omega) (by omega) hm
      have L1 := Line_f (tb (zF l) N ++ mk :: y) N (N + 1 + y.length) m e hA (by omega) (by omega) hm
      have KE := kept_q (tb (zF l) N ++ mk :: y) l N (N + 1 + y.length) nl cl hA1 (by omega) hl hcl hn hN hp (fun i hi => tab_app _ _ _ hi) (by rw [g_app, tab_len, if_neg (by omega), Nat.sub_self]; rfl)
      conv => whnf
      repeat (first
        | (refine And.intro ?_ ?_; (focus (first | omega | decide | exact Int.natCast_nonneg _ | ((repeat' refine And.intro ?_ ?_) <;> first | omega | exact Int.natCast_nonneg _ | (simp only [i64max, u8max, u16max, u32max, u64max]; omega) | (simp only [mulSz_eq, Cont.len, colsLen, Col.len, List.length_cons, List.length_nil, List.length_replicate, List.length_append, tab_len, List.length_take, List.length_drop, List.length_append]; first | done | omega) | (simp [mulSz, Cont.len, bne, tab_len, List.length_take, List.length_drop, List.length_append]; first | done | omega)))); conv => whnf)
        | (refine tst_in ?_ ?_; (focus (intro h_; exfalso; first | omega | ((try simp only [decide_eq_true_eq, decide_eq_false_iff_not] at h_); omega) | (simp [mulSz, Cont.len, bne, tab_len, List.length_take, List.length_drop, List.length_append] at h_; first | done | omega))); intro _; conv => whnf)
        | (refine tst_in ?_ ?_; rotate_left; (focus (intro h_; exfalso; first | omega | ((try simp only [decide_eq_true_eq, decide_eq_false_iff_not] at h_); omega) | (simp [mulSz, Cont.len, bne, tab_len, List.length_take, List.length_drop, List.length_append] at h_; first | done | omega))); intro _; conv => whnf)
        | (refine ⟨0, (show _ = _ by omega), ?_⟩; conv => whnf))
      intro t1
      conv => whnf
      repeat (first
        | (refine And.intro ?_ ?_; (focus (first | omega | decide | exact Int.natCast_nonneg _ | ((repeat' refine And.intro ?_ ?_) <;> first | omega | exact Int.natCast_nonneg _ | (simp only [i64max, u8max, u16max, u32max, u64max]; omega) | (simp only [mulSz_eq, Cont.len, colsLen, Col.len, List.length_cons, List.length_nil, List.length_replicate, List.length_append, tab_len, List.length_take, List.length_drop, List.length_append]; first | done | omega) | (simp [mulSz, Cont.len, bne, tab_len, List.length_take, List.length_drop, List.length_append]; first | done | omega)))); conv => whnf)
        | (refine tst_in ?_ ?_; (focus (intro h_; exfalso; first | omega | ((try simp only [decide_eq_true_eq, decide_eq_false_iff_not] at h_); omega) | (simp [mulSz, Cont.len, bne, tab_len, List.length_take, List.length_drop, List.length_append] at h_; first | done | omega))); intro _; conv => whnf)
        | (refine tst_in ?_ ?_; rotate_left; (focus (intro h_; exfalso; first | omega | ((try simp only [decide_eq_true_eq, decide_eq_false_iff_not] at h_); omega) | (simp [mulSz, Cont.len, bne, tab_len, List.length_take, List.length_drop, List.length_append] at h_; first | done | omega))); intro _; conv => whnf)
        | (refine ⟨0, (show _ = _ by omega), ?_⟩; conv => whnf))
      intro t2
      conv => whnf
      repeat (first
        | (refine And.intro ?_ ?_; (focus (first | omega | decide | exact Int.natCast_nonneg _ | ((repeat' refine And.intro ?_ ?_) <;> first | omega | exact Int.natCast_nonneg _ | (simp only [i64max, u8max, u16max, u32max, u64max]; omega) | (simp only [mulSz_eq, Cont.len, colsLen, Col.len, List.length_cons, List.length_nil, List.length_replicate, List.length_append]; first | done | omega) | (simp [mulSz, Cont.len, bne]; first | done | omega)))); conv => whnf)
        | (refine tst_in ?_ ?_; (focus (intro h_; exfalso; first | omega | ((try simp only [decide_eq_true_eq, decide_eq_false_iff_not] at h_); omega) | (simp [mulSz, Cont.len, bne] at h_; first | done | omega))); intro _; conv => whnf)
        | (refine tst_in ?_ ?_; rotate_left; (focus (intro h_; exfalso; first | omega | ((try simp only [decide_eq_true_eq, decide_eq_false_iff_not] at h_); omega) | (simp [mulSz, Cont.len, bne] at h_; first | done | omega))); intro _; conv => whnf)
        | (refine ⟨0, (show _ = _ by omega), ?_⟩; conv => whnf))
      refine ⟨_, [2], L0, ?_⟩
      conv => whnf
      iterate 2
       refine And.intro ?_ ?_
       focus
        conv => whnf
        repeat' (first | exact True.intro | rfl | refine And.intro ?_ ?_ | omega)
        all_goals (conv => whnf)
        all_goals (try (first | rfl | omega | (simp; done)))
      conv => whnf
      refine ⟨?_, True.intro⟩
      intro (ya) _
      conv => whnf
      conv => whnf
      repeat (first
        | (refine And.intro ?_ ?_; (focus (first | omega | decide | exact Int.natCast_nonneg _ | ((repeat' refine And.intro ?_ ?_) <;> first | omega | exact Int.natCast_nonneg _ | (simp only [i64max, u8max, u16max, u32max, u64max]; omega) | (simp only [mulSz_eq, Cont.len, colsLen, Col.len, List.length_cons, List.length_nil, List.length_replicate, List.length_append]; first | done | omega) | (simp [mulSz, Cont.len, bne]; first | done | omega)))); conv => whnf)
        | (refine tst_in ?_ ?_; (focus (intro h_; exfalso; first | omega | ((try simp only [decide_eq_true_eq, decide_eq_false_iff_not] at h_); omega) | (simp [mulSz, Cont.len, bne] at h_; first | done | omega))); intro _; conv => whnf)
        | (refine tst_in ?_ ?_; rotate_left; (focus (intro h_; exfalso; first | omega | ((try simp only [decide_eq_true_eq, decide_eq_false_iff_not] at h_); omega) | (simp [mulSz, Cont.len, bne] at h_; first | done | omega))); intro _; conv => whnf)
        | (refine ⟨0, (show _ = _ by omega), ?_⟩; conv => whnf))
      refine ⟨_, [2], L1, ?_⟩
      conv => whnf
      iterate 2
       refine And.intro ?_ ?_
       focus
        conv => whnf
        repeat' (first | exact True.intro | rfl | refine And.intro ?_ ?_ | omega)
        all_goals (conv => whnf)
        all_goals (try (first | rfl | omega | (simp; done)))
      conv => whnf
      refine ⟨?_, True.intro⟩
      intro (yb) _
      conv => whnf
      conv => whnf
      repeat (first
        | (refine And.intro ?_ ?_; (focus (first | omega | decide | exact Int.natCast_nonneg _ | ((repeat' refine And.intro ?_ ?_) <;> first | omega | exact Int.natCast_nonneg _ | (simp only [i64max, u8max, u16max, u32max, u64max]; omega) | (simp only [mulSz_eq, Cont.len, colsLen, Col.len, List.length_cons, List.length_nil, List.length_replicate, List.length_append]; first | done | omega) | (simp [mulSz, Cont.len, bne]; first | done | omega)))); conv => whnf)
        | (refine tst_in ?_ ?_; (focus (intro h_; exfalso; first | omega | ((try simp only [decide_eq_true_eq, decide_eq_false_iff_not] at h_); omega) | (simp [mulSz, Cont.len, bne] at h_; first | done | omega))); intro _; conv => whnf)
        | (refine tst_in ?_ ?_; rotate_left; (focus (intro h_; exfalso; first | omega | ((try simp only [decide_eq_true_eq, decide_eq_false_iff_not] at h_); omega) | (simp [mulSz, Cont.len, bne] at h_; first | done | omega))); intro _; conv => whnf)
        | (refine ⟨0, (show _ = _ by omega), ?_⟩; conv => whnf))
      refine ⟨_, [2], L1, ?_⟩
      conv => whnf
      iterate 2
       refine And.intro ?_ ?_
       focus
        conv => whnf
        repeat' (first | exact True.intro | rfl | refine And.intro ?_ ?_ | omega)
        all_goals (conv => whnf)
        all_goals (try (first | rfl | omega | (simp; done)))
      conv => whnf
      refine ⟨?_, True.intro⟩
      intro (yc) _
      conv => whnf
      have FQ : ∀ y1 y2 : FT, QFits Try.prog 22 ⟨[.slice 0 0 m (m + y1.length), .slice 1 0 m (m + y2.length)], [fS false (tb (lnF (gF (tb (zF l) N ++ mk :: y))) m ++ y1), fS false (tb (lnF (gF (tb (zF l) N ++ mk :: y))) m ++ y2)], .bool true⟩ := fun y1 y2 =>
        Floats_q _ _ m _ _ (by rw [List.length_append, tab_len]; omega) (by rw [List.length_append, tab_len]; omega) (by omega) (by omega) (by omega) (fun i hi => by rw [tab_app _ _ _ hi, tab_app _ _ _ hi])
      have Q1 := FQ yb ya
      have Q2 := FQ yc ya
      conv => whnf
      repeat (first
        | (refine And.intro ?_ ?_; (focus (first | omega | decide | exact Int.natCast_nonneg _ | ((repeat' refine And.intro ?_ ?_) <;> first | omega | exact Int.natCast_nonneg _ | (simp only [i64max, u8max, u16max, u32max, u64max]; omega) | (simp only [mulSz_eq, Cont.len, colsLen, Col.len, List.length_cons, List.length_nil, List.length_replicate, List.length_append]; first | done | omega) | (simp [mulSz, Cont.len, bne]; first | done | omega)))); conv => whnf)
        | (refine tst_in ?_ ?_; (focus (intro h_; exfalso; first | omega | ((try simp only [decide_eq_true_eq, decide_eq_false_iff_not] at h_); omega) | (simp [mulSz, Cont.len, bne] at h_; first | done | omega))); intro _; conv => whnf)
        | (refine tst_in ?_ ?_; rotate_left; (focus (intro h_; exfalso; first | omega | ((try simp only [decide_eq_true_eq, decide_eq_false_iff_not] at h_); omega) | (simp [mulSz, Cont.len, bne] at h_; first | done | omega))); intro _; conv => whnf)
        | (refine ⟨0, (show _ = _ by omega), ?_⟩; conv => whnf))
      refine ⟨_, [9, 8], Q1, ?_⟩
      conv => whnf
      iterate 2
       refine And.intro ?_ ?_
       focus
        conv => whnf
        repeat' (first | exact True.intro | rfl | refine And.intro ?_ ?_)
        all_goals (conv => whnf)
        repeat' (first | exact True.intro | rfl | refine And.intro ?_ ?_)
        all_goals (try (first | rfl | omega | (simp; first | done | omega)))
      conv => whnf
      conv => whnf
      repeat (first
        | (refine And.intro ?_ ?_; (focus (first | omega | decide | exact Int.natCast_nonneg _ | ((repeat' refine And.intro ?_ ?_) <;> first | omega | exact Int.natCast_nonneg _ | (simp only [i64max, u8max, u16max, u32max, u64max]; omega) | (simp only [mulSz_eq, Cont.len, colsLen, Col.len, List.length_cons, List.length_nil, List.length_replicate, List.length_append]; first | done | omega) | (simp [mulSz, Cont.len, bne]; first | done | omega)))); conv => whnf)
        | (refine tst_in ?_ ?_; (focus (intro h_; exfalso; first | omega | ((try simp only [decide_eq_true_eq, decide_eq_false_iff_not] at h_); omega) | (simp [mulSz, Cont.len, bne] at h_; first | done | omega))); intro _; conv => whnf)
        | (refine tst_in ?_ ?_; rotate_left; (focus (intro h_; exfalso; first | omega | ((try simp only [decide_eq_true_eq, decide_eq_false_iff_not] at h_); omega) | (simp [mulSz, Cont.len, bne] at h_; first | done | omega))); intro _; conv => whnf)
        | (refine ⟨0, (show _ = _ by omega), ?_⟩; conv => whnf))
      refine ⟨_, [10, 8], Q2, ?_⟩
      conv => whnf
      iterate 2
       refine And.intro ?_ ?_
       focus
        conv => whnf
        repeat' (first | exact True.intro | rfl | refine And.intro ?_ ?_)
        all_goals (conv => whnf)
        repeat' (first | exact True.intro | rfl | refine And.intro ?_ ?_)
        all_goals (try (first | rfl | omega | (simp; first | done | omega)))
      conv => whnf
      conv => whnf
      repeat (first
        | (refine And.intro ?_ ?_; (focus (first | omega | decide | exact Int.natCast_nonneg _ | ((repeat' refine And.intro ?_ ?_) <;> first | omega | exact Int.natCast_nonneg _ | (simp only [i64max, u8max, u16max, u32max, u64max]; omega) | (simp only [mulSz_eq, Cont.len, colsLen, Col.len, List.length_cons, List.length_nil, List.length_replicate, List.length_append]; first | done | omega) | (simp [mulSz, Cont.len, bne]; first | done | omega)))); conv => whnf)
        | (refine tst_in ?_ ?_; (focus (intro h_; exfalso; first | omega | ((try simp only [decide_eq_true_eq, decide_eq_false_iff_not] at h_); omega) | (simp [mulSz, Cont.len, bne] at h_; first | done | omega))); intro _; conv => whnf)
        | (refine tst_in ?_ ?_; rotate_left; (focus (intro h_; exfalso; first | omega | ((try simp only [decide_eq_true_eq, decide_eq_false_iff_not] at h_); omega) | (simp [mulSz, Cont.len, bne] at h_; first | done | omega))); intro _; conv => whnf)
        | (refine ⟨0, (show _ = _ by omega), ?_⟩; conv => whnf))
      refine ⟨_, [2, 0], KE, ?_⟩
      conv => whnf
      iterate 2
       refine And.intro ?_ ?_
       focus
        conv => whnf
        repeat' (first | exact True.intro | rfl | refine And.intro ?_ ?_)
        all_goals (conv => whnf)
        repeat' (first | exact True.intro | rfl | refine And.intro ?_ ?_)
        all_goals (try (first | rfl | omega | (simp; first | done | omega)))
      conv => whnf
      conv => whnf
      repeat (first
        | (refine And.intro ?_ ?_; (focus (first | omega | decide | exact Int.natCast_nonneg _ | ((repeat' refine And.intro ?_ ?_) <;> first | omega | exact Int.natCast_nonneg _ | (simp only [i64max, u8max, u16max, u32max, u64max]; omega) | (simp only [mulSz_eq, Cont.len, colsLen, Col.len, List.length_cons, List.length_nil, List.length_replicate, List.length_append]; first | done | omega) | (simp [mulSz, Cont.len, bne]; first | done | omega)))); conv => whnf)
        | (refine tst_in ?_ ?_; (focus (intro h_; exfalso; first | omega | ((try simp only [decide_eq_true_eq, decide_eq_false_iff_not] at h_); omega) | (simp [mulSz, Cont.len, bne] at h_; first | done | omega))); intro _; conv => whnf)
        | (refine tst_in ?_ ?_; rotate_left; (focus (intro h_; exfalso; first | omega | ((try simp only [decide_eq_true_eq, decide_eq_false_iff_not] at h_); omega) | (simp [mulSz, Cont.len, bne] at h_; first | done | omega))); intro _; conv => whnf)
        | (refine ⟨0, (show _ = _ by omega), ?_⟩; conv => whnf))
      refine ⟨⟨[0, 1, 2, 3, 7, 8, 9, 10], ⟨y, t, t2, ya, yc, List.append (tb (lnF (gF (tb (zF l) N ++ mk :: y))) m) yb, 0⟩, ?_, ⟨Nat.zero_le _, ?_⟩⟩, ?_⟩
      · show stLe _ _ (st4b 15 l r nl cl nr cr N m e m y t t2 ya yc (List.append (tb (lnF (gF (tb (zF l) N ++ mk :: y))) m) yb) 0) _
        conv => whnf
        repeat' (first | exact True.intro | rfl | refine And.intro ?_ ?_)
        all_goals (conv => whnf)
        repeat' (first | exact True.intro | rfl | refine And.intro ?_ ?_)
        all_goals (try omega)
        · show (List.append (tb (lnF (gF (tb (zF l) N ++ mk :: y))) m) yb).length = _
          exact ap_len _ _ _
        · exact in_tb (ff r) t t1 t2 nr fmk
      · have hle := Nat.le_trans (Nat.le_add_right m _) (Nat.le_of_eq (ap_len (lnF (gF (tb (zF l) N ++ mk :: y))) m yb).symm)
        exact hle
      · intro ⟨y, t, u, ta, tc, X, i⟩ ⟨(hi : i ≤ m), (hX : m ≤ X.length)⟩
        show forceSt (st4b 15 l r nl cl nr cr N m e m y t u ta tc X i) _
        conv => whnf
        refine tst_in (fun h2 => ?_) (fun h2' => ?_)
        · skip
          have h2 : i < m := by simp at h2; omega
          have hs : ∀ v : Nat, m ≤ (X.set (0 + (i : Int).toNat) v).length := fun v => by rw [List.length_set]; exact hX
          conv => whnf
          repeat (first
            | (refine And.intro ?_ ?_; (focus (first | omega | decide | exact Int.natCast_nonneg _ | ((repeat' refine And.intro ?_ ?_) <;> first | omega | exact Int.natCast_nonneg _ | (simp only [i64max, u8max, u16max, u32max, u64max]; omega) | (simp only [mulSz_eq, Cont.len, colsLen, Col.len, List.length_cons, List.length_nil, List.length_replicate, List.length_append]; first | done | omega) | (simp [mulSz, Cont.len, bne]; first | done | omega)))); conv => whnf)
            | (refine tst_in ?_ ?_; (focus (intro h_; exfalso; first | omega | ((try simp only [decide_eq_true_eq, decide_eq_false_iff_not] at h_); omega) | (simp [mulSz, Cont.len, bne] at h_; first | done | omega))); intro _; conv => whnf)
            | (refine tst_in ?_ ?_; rotate_left; (focus (intro h_; exfalso; first | omega | ((try simp only [decide_eq_true_eq, decide_eq_false_iff_not] at h_); omega) | (simp [mulSz, Cont.len, bne] at h_; first | done | omega))); intro _; conv => whnf)
            | (refine ⟨0, (show _ = _ by omega), ?_⟩; conv => whnf))
          refine ⟨[0, 1, 2, 3, 4, 5, 6, 7], ⟨y, t, u, ta, tc, X.set (0 + (i : Int).toNat) 4617315517961601024, i + 1⟩, ?_, ⟨(by show i + 1 ≤ m; omega), hs _⟩, (by show m - (i + 1) < m - i; omega)⟩
          show stLe _ _ (st4b 15 l r nl cl nr cr N m e m y t u ta tc (X.set (0 + (i : Int).toNat) 4617315517961601024) (i + 1)) _
          conv => whnf
          repeat' (first | exact True.intro | rfl | refine And.intro ?_ ?_)
          all_goals (conv => whnf)
          repeat' (first | exact True.intro | rfl | refine And.intro ?_ ?_)
          all_goals (try omega)
          all_goals (exact List.length_set)
        · skip
          have h2 : i = m := by simp at h2'; omega
          subst h2
          conv => whnf
          repeat (first
            | (refine And.intro ?_ ?_; (focus (first | omega | decide | exact Int.natCast_nonneg _ | ((repeat' refine And.intro ?_ ?_) <;> first | omega | exact Int.natCast_nonneg _ | (simp only [i64max, u8max, u16max, u32max, u64max]; omega) | (simp only [mulSz_eq, Cont.len, colsLen, Col.len, List.length_cons, List.length_nil, List.length_replicate, List.length_append]; first | done | omega) | (simp [mulSz, Cont.len, bne]; first | done | omega)))); conv => whnf)
            | (refine tst_in ?_ ?_; (focus (intro h_; exfalso; first | omega | ((try simp only [decide_eq_true_eq, decide_eq_false_iff_not] at h_); omega) | (simp [mulSz, Cont.len, bne] at h_; first | done | omega))); intro _; conv => whnf)
            | (refine tst_in ?_ ?_; rotate_left; (focus (intro h_; exfalso; first | omega | ((try simp only [decide_eq_true_eq, decide_eq_false_iff_not] at h_); omega) | (simp [mulSz, Cont.len, bne] at h_; first | done | omega))); intro _; conv => whnf)
            | (refine ⟨0, (show _ = _ by omega), ?_⟩; conv => whnf))
          refine ⟨⟨[0, 1, 2, 3, 4, 5, 6, 7], ⟨y, t, u, ta, tc, X, 0⟩, ?_, ⟨Nat.zero_le _, hX⟩⟩, ?_⟩
          · show stLe _ _ (st4b 16 l r nl cl nr cr N i e (i + 0) y t u ta tc X 0) _
            conv => whnf
            repeat' (first | exact True.intro | rfl | refine And.intro ?_ ?_)
            all_goals (conv => whnf)
            repeat' (first | exact True.intro | rfl | refine And.intro ?_ ?_)
            all_goals (try omega)
          · intro ⟨y, t, u, ta, tc, Y, k2⟩ ⟨(hk2 : k2 ≤ 20), (hY : i + k2 ≤ Y.length)⟩
            show forceSt (st4b 16 l r nl cl nr cr N i e (i + k2) y t u ta tc Y k2) _
            conv => whnf
            refine tst_in (fun h3 => ?_) (fun h3' => ?_)
            · skip
              have h3 : k2 < 20 := by simp at h3; omega
              conv => whnf
              repeat (first
                | (refine And.intro ?_ ?_; (focus (first | omega | decide | exact Int.natCast_nonneg _ | ((repeat' refine And.intro ?_ ?_) <;> first | omega | exact Int.natCast_nonneg _ | (simp only [i64max, u8max, u16max, u32max, u64max]; omega) | (simp only [mulSz_eq, Cont.len, colsLen, Col.len, List.length_cons, List.length_nil, List.length_replicate, List.length_append]; first | done | omega) | (simp [mulSz, Cont.len, bne]; first | done | omega)))); conv => whnf)
                | (refine tst_in ?_ ?_; (focus (intro h_; exfalso; first | omega | ((try simp only [decide_eq_true_eq, decide_eq_false_iff_not] at h_); omega) | (simp [mulSz, Cont.len, bne] at h_; first | done | omega))); intro _; conv => whnf)
                | (refine tst_in ?_ ?_; rotate_left; (focus (intro h_; exfalso; first | omega | ((try simp only [decide_eq_true_eq, decide_eq_false_iff_not] at h_); omega) | (simp [mulSz, Cont.len, bne] at h_; first | done | omega))); intro _; conv => whnf)
                | (refine ⟨0, (show _ = _ by omega), ?_⟩; conv => whnf))
              intro t1
              conv => whnf
              repeat (first
                | (refine And.intro ?_ ?_; (focus (first | omega | decide | exact Int.natCast_nonneg _ | ((repeat' refine And.intro ?_ ?_) <;> first | omega | exact Int.natCast_nonneg _ | (simp only [i64max, u8max, u16max, u32max, u64max]; omega) | (simp only [mulSz_eq, Cont.len, colsLen, Col.len, List.length_cons, List.length_nil, List.length_replicate, List.length_append]; first | done | omega) | (simp [mulSz, Cont.len, bne]; first | done | omega)))); conv => whnf)
                | (refine tst_in ?_ ?_; (focus (intro h_; exfalso; first | omega | ((try simp only [decide_eq_true_eq, decide_eq_false_iff_not] at h_); omega) | (simp [mulSz, Cont.len, bne] at h_; first | done | omega))); intro _; conv => whnf)
                | (refine tst_in ?_ ?_; rotate_left; (focus (intro h_; exfalso; first | omega | ((try simp only [decide_eq_true_eq, decide_eq_false_iff_not] at h_); omega) | (simp [mulSz, Cont.len, bne] at h_; first | done | omega))); intro _; conv => whnf)
                | (refine ⟨0, (show _ = _ by omega), ?_⟩; conv => whnf))
              have hl := six_lenF (i + k2) Y t1 hY
              have hl' : i + (k2 + 1) ≤ (List.take (i + k2) (List.drop 0 Y) ++ List.take 1 (List.drop 0 [4618441417868443648]) ++ t1).length := by rw [hl]; omega
              refine ⟨[0, 1, 2, 3, 4, 5, 9, 7], ⟨y, t, u, ta, tc, List.take (i + k2) (List.drop 0 Y) ++ List.take 1 (List.drop 0 [4618441417868443648]) ++ t1, k2 + 1⟩, ?_, ⟨(by show k2 + 1 ≤ 20; omega), hl'⟩, (by show 20 - (k2 + 1) < 20 - k2; omega)⟩
              show stLe _ _ (st4b 16 l r nl cl nr cr N i e (i + (k2 + 1)) y t u ta tc (List.take (i + k2) (List.drop 0 Y) ++ List.take 1 (List.drop 0 [4618441417868443648]) ++ t1) (k2 + 1)) _
              conv => whnf
              repeat' (first | exact True.intro | rfl | refine And.intro ?_ ?_)
              all_goals (conv => whnf)
              repeat' (first | exact True.intro | rfl | refine And.intro ?_ ?_)
              all_goals (try omega)
              all_goals (first | exact hl | exact hl.symm | rfl | skip)
            · skip
              have h3 : k2 = 20 := by simp at h3'; omega
              subst h3
              have U0 := rUnline_f (tb (ff r) nr ++ t) nr (nr + t.length) k f (by rw [List.length_append, tab_len]; omega) (by omega) (by omega) hk
              have ec : tb (upF 3 (prF (tb (ff r) nr ++ fmk :: u))) k = tb (upF 3 (prF (tb (ff r) nr ++ t))) k := tab_congr fun i hi => by
                have h2 : 2 * i + 1 < nr := by rcases hk with h | h | h <;> omega
                unfold upF prF
                rw [tab_app _ _ _ h2, tab_app _ _ _ h2, tab_app _ _ _ (show 2 * i < nr by omega), tab_app _ _ _ (show 2 * i < nr by omega)]
              have U1 := Unline_f (tb (ff r) nr ++ fmk :: u) nr (nr + 1 + u.length) k f (by rw [List.length_append, tab_len]; omega) (by omega) (by omega) hk
              rw [rOut_c _ _ _ ec] at U1
              have FR := fun y0 y1 y2 => fr (upF 3 (prF (tb (ff r) nr ++ t))) k hk5 y0 y1 y2
              have Q3 : QFits Try.prog 22 ⟨[.slice 0 0 i (i + tc.length), .slice 1 0 i (i + ta.length)], [fS false (tb (lnF (gF (tb (zF l) N ++ mk :: y))) i ++ tc), fS false (tb (lnF (gF (tb (zF l) N ++ mk :: y))) i ++ ta)], .bool true⟩ :=
                Floats_q _ _ i _ _ (by rw [List.length_append, tab_len]; omega) (by rw [List.length_append, tab_len]; omega) (by omega) (by omega) (by omega) (fun i hi => by rw [tab_app _ _ _ hi, tab_app _ _ _ hi])
              conv => whnf
              repeat (first
                | (refine And.intro ?_ ?_; (focus (first | omega | decide | exact Int.natCast_nonneg _ | ((repeat' refine And.intro ?_ ?_) <;> first | omega | exact Int.natCast_nonneg _ | (simp only [i64max, u8max, u16max, u32max, u64max]; omega) | (simp only [mulSz_eq, Cont.len, colsLen, Col.len, List.length_cons, List.length_nil, List.length_replicate, List.length_append]; first | done | omega) | (simp [mulSz, Cont.len, bne]; first | done | omega)))); conv => whnf)
                | (refine tst_in ?_ ?_; (focus (intro h_; exfalso; first | omega | ((try simp only [decide_eq_true_eq, decide_eq_false_iff_not] at h_); omega) | (simp [mulSz, Cont.len, bne] at h_; first | done | omega))); intro _; conv => whnf)
                | (refine tst_in ?_ ?_; rotate_left; (focus (intro h_; exfalso; first | omega | ((try simp only [decide_eq_true_eq, decide_eq_false_iff_not] at h_); omega) | (simp [mulSz, Cont.len, bne] at h_; first | done | omega))); intro _; conv => whnf)
                | (refine ⟨0, (show _ = _ by omega), ?_⟩; conv => whnf))
              refine ⟨_, [3], U0, ?_⟩
              conv => whnf
              iterate 2
               refine And.intro ?_ ?_
               focus
                conv => whnf
                repeat' (first | exact True.intro | rfl | refine And.intro ?_ ?_ | omega)
                all_goals (conv => whnf)
                all_goals (try (first | rfl | omega | (simp; done)))
              conv => whnf
              refine ⟨?_, True.intro⟩
              intro (y0) _
              conv => whnf
              conv => whnf
              repeat (first
                | (refine And.intro ?_ ?_; (focus (first | omega | decide | exact Int.natCast_nonneg _ | ((repeat' refine And.intro ?_ ?_) <;> first | omega | exact Int.natCast_nonneg _ | (simp only [i64max, u8max, u16max, u32max, u64max]; omega) | (simp only [mulSz_eq, Cont.len, colsLen, Col.len, List.length_cons, List.length_nil, List.length_replicate, List.length_append]; first | done | omega) | (simp [mulSz, Cont.len, bne]; first | done | omega)))); conv => whnf)
                | (refine tst_in ?_ ?_; (focus (intro h_; exfalso; first | omega | ((try simp only [decide_eq_true_eq, decide_eq_false_iff_not] at h_); omega) | (simp [mulSz, Cont.len, bne] at h_; first | done | omega))); intro _; conv => whnf)
                | (refine tst_in ?_ ?_; rotate_left; (focus (intro h_; exfalso; first | omega | ((try simp only [decide_eq_true_eq, decide_eq_false_iff_not] at h_); omega) | (simp [mulSz, Cont.len, bne] at h_; first | done | omega))); intro _; conv => whnf)
                | (refine ⟨0, (show _ = _ by omega), ?_⟩; conv => whnf))
              refine ⟨_, [4], U1, ?_⟩
              conv => whnf
              iterate 2
               refine And.intro ?_ ?_
               focus
                conv => whnf
                repeat' (first | exact True.intro | rfl | refine And.intro ?_ ?_ | omega)
                all_goals (conv => whnf)
                all_goals (try (first | rfl | omega | (simp; done)))
              conv => whnf
              refine ⟨?_, True.intro⟩
              intro (y1) _
              conv => whnf
              conv => whnf
              repeat (first
                | (refine And.intro ?_ ?_; (focus (first | omega | decide | exact Int.natCast_nonneg _ | ((repeat' refine And.intro ?_ ?_) <;> first | omega | exact Int.natCast_nonneg _ | (simp only [i64max, u8max, u16max, u32max, u64max]; omega) | (simp only [mulSz_eq, Cont.len, colsLen, Col.len, List.length_cons, List.length_nil, List.length_replicate, List.length_append]; first | done | omega) | (simp [mulSz, Cont.len, bne]; first | done | omega)))); conv => whnf)
                | (refine tst_in ?_ ?_; (focus (intro h_; exfalso; first | omega | ((try simp only [decide_eq_true_eq, decide_eq_false_iff_not] at h_); omega) | (simp [mulSz, Cont.len, bne] at h_; first | done | omega))); intro _; conv => whnf)
                | (refine tst_in ?_ ?_; rotate_left; (focus (intro h_; exfalso; first | omega | ((try simp only [decide_eq_true_eq, decide_eq_false_iff_not] at h_); omega) | (simp [mulSz, Cont.len, bne] at h_; first | done | omega))); intro _; conv => whnf)
                | (refine ⟨0, (show _ = _ by omega), ?_⟩; conv => whnf))
              refine ⟨_, [4], U1, ?_⟩
              conv => whnf
              iterate 2
               refine And.intro ?_ ?_
               focus
                conv => whnf
                repeat' (first | exact True.intro | rfl | refine And.intro ?_ ?_ | omega)
                all_goals (conv => whnf)
                all_goals (try (first | rfl | omega | (simp; done)))
              conv => whnf
              refine ⟨?_, True.intro⟩
              intro (y2) _
              conv => whnf
              have FR := FR y0 y1 y2
              conv => whnf
              repeat (first
                | (refine And.intro ?_ ?_; (focus (first | omega | decide | exact Int.natCast_nonneg _ | ((repeat' refine And.intro ?_ ?_) <;> first | omega | exact Int.natCast_nonneg _ | (simp only [i64max, u8max, u16max, u32max, u64max]; omega) | (simp only [mulSz_eq, Cont.len, colsLen, Col.len, List.length_cons, List.length_nil, List.length_replicate, List.length_append]; first | done | omega) | (simp [mulSz, Cont.len, bne]; first | done | omega)))); conv => whnf)
                | (refine tst_in ?_ ?_; (focus (intro h_; exfalso; first | omega | ((try simp only [decide_eq_true_eq, decide_eq_false_iff_not] at h_); omega) | (simp [mulSz, Cont.len, bne] at h_; first | done | omega))); intro _; conv => whnf)
                | (refine tst_in ?_ ?_; rotate_left; (focus (intro h_; exfalso; first | omega | ((try simp only [decide_eq_true_eq, decide_eq_false_iff_not] at h_); omega) | (simp [mulSz, Cont.len, bne] at h_; first | done | omega))); intro _; conv => whnf)
                | (refine ⟨0, (show _ = _ by omega), ?_⟩; conv => whnf))
              refine ⟨_, [9, 10, 8], FR, ?_⟩
              conv => whnf
              iterate 2
               refine And.intro ?_ ?_
               focus
                conv => whnf
                repeat' (first | exact True.intro | rfl | refine And.intro ?_ ?_ | omega)
                all_goals (conv => whnf)
                all_goals (try (first | rfl | omega | (simp; done)))
              conv => whnf
              refine ⟨?_, True.intro⟩
              intro _ _
              conv => whnf
              conv => whnf
              repeat (first
                | (refine And.intro ?_ ?_; (focus (first | omega | decide | exact Int.natCast_nonneg _ | ((repeat' refine And.intro ?_ ?_) <;> first | omega | exact Int.natCast_nonneg _ | (simp only [i64max, u8max, u16max, u32max, u64max]; omega) | (simp only [mulSz_eq, Cont.len, colsLen, Col.len, List.length_cons, List.length_nil, List.length_replicate, List.length_append]; first | done | omega) | (simp [mulSz, Cont.len, bne]; first | done | omega)))); conv => whnf)
                | (refine tst_in ?_ ?_; (focus (intro h_; exfalso; first | omega | ((try simp only [decide_eq_true_eq, decide_eq_false_iff_not] at h_); omega) | (simp [mulSz, Cont.len, bne] at h_; first | done | omega))); intro _; conv => whnf)
                | (refine tst_in ?_ ?_; rotate_left; (focus (intro h_; exfalso; first | omega | ((try simp only [decide_eq_true_eq, decide_eq_false_iff_not] at h_); omega) | (simp [mulSz, Cont.len, bne] at h_; first | done | omega))); intro _; conv => whnf)
                | (refine ⟨0, (show _ = _ by omega), ?_⟩; conv => whnf))
              refine ⟨_, [7, 5], Q3, ?_⟩
              conv => whnf
              iterate 2
               refine And.intro ?_ ?_
               focus
                conv => whnf
                repeat' (first | exact True.intro | rfl | refine And.intro ?_ ?_)
                all_goals (conv => whnf)
                repeat' (first | exact True.intro | rfl | refine And.intro ?_ ?_)
                all_goals (try (first | rfl | omega | (simp; first | done | omega)))
              conv => whnf
              conv => whnf
              repeat (first
                | (refine And.intro ?_ ?_; (focus (first | omega | decide | exact Int.natCast_nonneg _ | ((repeat' refine And.intro ?_ ?_) <;> first | omega | exact Int.natCast_nonneg _ | (simp only [i64max, u8max, u16max, u32max, u64max]; omega) | (simp only [mulSz_eq, Cont.len, colsLen, Col.len, List.length_cons, List.length_nil, List.length_replicate, List.length_append, tab_len, List.length_append, List.length_cons]; first | done | omega) | (simp [mulSz, Cont.len, bne, tab_len, List.length_append, List.length_cons]; first | done | omega)))); conv => whnf)
                | (refine tst_in ?_ ?_; (focus (intro h_; exfalso; first | omega | ((try simp only [decide_eq_true_eq, decide_eq_false_iff_not] at h_); omega) | (simp [mulSz, Cont.len, bne, tab_len, List.length_append, List.length_cons] at h_; first | done | omega))); intro _; conv => whnf)
                | (refine tst_in ?_ ?_; rotate_left; (focus (intro h_; exfalso; first | omega | ((try simp only [decide_eq_true_eq, decide_eq_false_iff_not] at h_); omega) | (simp [mulSz, Cont.len, bne, tab_len, List.length_append, List.length_cons] at h_; first | done | omega))); intro _; conv => whnf)
                | (refine ⟨0, (show _ = _ by omega), ?_⟩; conv => whnf))
              rw [show 0 + ((nr : Int)).toNat = nr by omega, g_app, tab_len, if_neg (by omega), Nat.sub_self, show (fmk :: u).getD 0 0 = 4651892959631900672 from rfl]
              have hne : (FloatKind.f64.format.order 4651892959631900672 4651892959631900672 != some Ordering.eq) = false := by decide
              try rw [hne]
              conv => whnf
              repeat (first
                | (refine And.intro ?_ ?_; (focus (first | omega | decide | exact Int.natCast_nonneg _ | ((repeat' refine And.intro ?_ ?_) <;> first | omega | exact Int.natCast_nonneg _ | (simp only [i64max, u8max, u16max, u32max, u64max]; omega) | (simp only [mulSz_eq, Cont.len, colsLen, Col.len, List.length_cons, List.length_nil, List.length_replicate, List.length_append]; first | done | omega) | (simp [mulSz, Cont.len, bne]; first | done | omega)))); conv => whnf)
                | (refine tst_in ?_ ?_; (focus (intro h_; exfalso; first | omega | ((try simp only [decide_eq_true_eq, decide_eq_false_iff_not] at h_); omega) | (simp [mulSz, Cont.len, bne] at h_; first | done | omega))); intro _; conv => whnf)
                | (refine tst_in ?_ ?_; rotate_left; (focus (intro h_; exfalso; first | omega | ((try simp only [decide_eq_true_eq, decide_eq_false_iff_not] at h_); omega) | (simp [mulSz, Cont.len, bne] at h_; first | done | omega))); intro _; conv => whnf)
                | (refine ⟨0, (show _ = _ by omega), ?_⟩; conv => whnf))
              refine ⟨⟨[0, 1, 4], (u, 0), ?_, Nat.zero_le _⟩, ?_⟩
              · show stLe _ _ (st4d r nr cr u 0) _
                conv => whnf
                repeat' (first | exact True.intro | rfl | refine And.intro ?_ ?_)
                all_goals (conv => whnf)
                repeat' (first | exact True.intro | rfl | refine And.intro ?_ ?_)
                all_goals (try omega)
              · intro ⟨u, j⟩ (hj : j ≤ nr)
                show forceSt (st4d r nr cr u j) _
                conv => whnf
                refine tst_in (fun h4 => ?_) (fun h4' => ?_)
                · skip
                  have h4 : j < nr := by simp at h4; omega
                  have z1 : ((ff r j : Nat) : Int) = r.getD j 0 := Int.toNat_of_nonneg (hpr _)
                  conv => whnf
                  repeat (first
                    | (refine And.intro ?_ ?_; (focus (first | omega | decide | exact Int.natCast_nonneg _ | ((repeat' refine And.intro ?_ ?_) <;> first | omega | exact Int.natCast_nonneg _ | (simp only [i64max, u8max, u16max, u32max, u64max]; omega) | (simp only [mulSz_eq, Cont.len, colsLen, Col.len, List.length_cons, List.length_nil, List.length_replicate, List.length_append, tab_len, List.length_append, List.length_cons]; first | done | omega) | (simp [mulSz, Cont.len, bne, tab_len, List.length_append, List.length_cons]; first | done | omega)))); conv => whnf)
                    | (refine tst_in ?_ ?_; (focus (intro h_; exfalso; first | omega | ((try simp only [decide_eq_true_eq, decide_eq_false_iff_not] at h_); omega) | (simp [mulSz, Cont.len, bne, tab_len, List.length_append, List.length_cons] at h_; first | done | omega))); intro _; conv => whnf)
                    | (refine tst_in ?_ ?_; rotate_left; (focus (intro h_; exfalso; first | omega | ((try simp only [decide_eq_true_eq, decide_eq_false_iff_not] at h_); omega) | (simp [mulSz, Cont.len, bne, tab_len, List.length_append, List.length_cons] at h_; first | done | omega))); intro _; conv => whnf)
                    | (refine ⟨0, (show _ = _ by omega), ?_⟩; conv => whnf))
                  refine ⟨_, _, bf_x _, rfl, ?_⟩
                  conv => whnf
                  conv => whnf
                  repeat (first
                    | (refine And.intro ?_ ?_; (focus (first | omega | decide | exact Int.natCast_nonneg _ | ((repeat' refine And.intro ?_ ?_) <;> first | omega | exact Int.natCast_nonneg _ | (simp only [i64max, u8max, u16max, u32max, u64max]; omega) | (simp only [mulSz_eq, Cont.len, colsLen, Col.len, List.length_cons, List.length_nil, List.length_replicate, List.length_append]; first | done | omega) | (simp [mulSz, Cont.len, bne]; first | done | omega)))); conv => whnf)
                    | (refine tst_in ?_ ?_; (focus (intro h_; exfalso; first | omega | ((try simp only [decide_eq_true_eq, decide_eq_false_iff_not] at h_); omega) | (simp [mulSz, Cont.len, bne] at h_; first | done | omega))); intro _; conv => whnf)
                    | (refine tst_in ?_ ?_; rotate_left; (focus (intro h_; exfalso; first | omega | ((try simp only [decide_eq_true_eq, decide_eq_false_iff_not] at h_); omega) | (simp [mulSz, Cont.len, bne] at h_; first | done | omega))); intro _; conv => whnf)
                    | (refine ⟨0, (show _ = _ by omega), ?_⟩; conv => whnf))
                  rw [show 0 + (j : Int).toNat = j by omega, tab_app _ _ _ h4, z1]
                  refine tst_in (fun h_ => False.elim (by simp at h_ <;> omega)) (fun _ => ?_)
                  conv => whnf
                  conv => whnf
                  repeat (first
                    | (refine And.intro ?_ ?_; (focus (first | omega | decide | exact Int.natCast_nonneg _ | ((repeat' refine And.intro ?_ ?_) <;> first | omega | exact Int.natCast_nonneg _ | (simp only [i64max, u8max, u16max, u32max, u64max]; omega) | (simp only [mulSz_eq, Cont.len, colsLen, Col.len, List.length_cons, List.length_nil, List.length_replicate, List.length_append]; first | done | omega) | (simp [mulSz, Cont.len, bne]; first | done | omega)))); conv => whnf)
                    | (refine tst_in ?_ ?_; (focus (intro h_; exfalso; first | omega | ((try simp only [decide_eq_true_eq, decide_eq_false_iff_not] at h_); omega) | (simp [mulSz, Cont.len, bne] at h_; first | done | omega))); intro _; conv => whnf)
                    | (refine tst_in ?_ ?_; rotate_left; (focus (intro h_; exfalso; first | omega | ((try simp only [decide_eq_true_eq, decide_eq_false_iff_not] at h_); omega) | (simp [mulSz, Cont.len, bne] at h_; first | done | omega))); intro _; conv => whnf)
                    | (refine ⟨0, (show _ = _ by omega), ?_⟩; conv => whnf))
                  refine ⟨[0, 1, 2], (u, j + 1), ?_, (by show j + 1 ≤ nr; omega), (by show nr - (j + 1) < nr - j; omega)⟩
                  show stLe _ _ (st4d r nr cr u (j + 1)) _
                  conv => whnf
                  repeat' (first | exact True.intro | rfl | refine And.intro ?_ ?_)
                  all_goals (conv => whnf)
                  repeat' (first | exact True.intro | rfl | refine And.intro ?_ ?_)
                  all_goals (try omega)
                · skip
                  have h4 : j = nr := by simp at h4'; omega
                  subst h4
                  conv => whnf
                  repeat (first
                    | (refine And.intro ?_ ?_; (focus (first | omega | decide | exact Int.natCast_nonneg _ | ((repeat' refine And.intro ?_ ?_) <;> first | omega | exact Int.natCast_nonneg _ | (simp only [i64max, u8max, u16max, u32max, u64max]; omega) | (simp only [mulSz_eq, Cont.len, colsLen, Col.len, List.length_cons, List.length_nil, List.length_replicate, List.length_append]; first | done | omega) | (simp [mulSz, Cont.len, bne]; first | done | omega)))); conv => whnf)
                    | (refine tst_in ?_ ?_; (focus (intro h_; exfalso; first | omega | ((try simp only [decide_eq_true_eq, decide_eq_false_iff_not] at h_); omega) | (simp [mulSz, Cont.len, bne] at h_; first | done | omega))); intro _; conv => whnf)
                    | (refine tst_in ?_ ?_; rotate_left; (focus (intro h_; exfalso; first | omega | ((try simp only [decide_eq_true_eq, decide_eq_false_iff_not] at h_); omega) | (simp [mulSz, Cont.len, bne] at h_; first | done | omega))); intro _; conv => whnf)
                    | (refine ⟨0, (show _ = _ by omega), ?_⟩; conv => whnf))
                  refine .inl ⟨(), [0, 1], ?_⟩
                  conv => whnf
                  repeat' (first | exact True.intro | rfl | refine And.intro ?_ ?_)
                  all_goals (conv => whnf)
                  repeat' (first | exact True.intro | rfl | refine And.intro ?_ ?_)
                  all_goals (try omega)
end Go.Proofs.Ytancolnaoieafaa

set_option linter.unusedVariables false
set_option linter.unusedSimpArgs false
namespace Go.Proofs.Ytancolnaoieafaa
open Go Go.Fw
def lawSpec (n0 c0 : Nat) (g : Nat → Int) (n1 c1 : Nat) (h : Nat → Int) : FSpec :=
  ⟨[.slice 0 0 n0 c0, .slice 1 0 n1 c1], [.seg false (.ints .u64 ((List.range c0).map g)), .seg false (.ints .u64 ((List.range c1).map h))], [⟨Unit, fun _ => True, fun _ => .bool true, fun _ => [.dead, .dead]⟩]⟩
theorem wf_pos (g : Nat → Int) (c : Nat) (hw : ∀ i, i < c → (Lit.int .u64 (g i)).wf = true) (i : Nat) : 0 ≤ ((List.range c).map g).getD i 0 := by
  by_cases h : i < c
  · have := hw i h
    simp [Lit.wf, IntKind.min, IntKind.signed] at this
    rw [List.getD_eq_getElem?_getD, List.getElem?_map, List.getElem?_range h]
    simp
    omega
  · rw [List.getD_eq_getElem?_getD, List.getElem?_eq_none (by simp; omega)]; simp
theorem law_l (n0 c0 : Nat) (g : Nat → Int) (n1 c1 : Nat) (h : Nat → Int) (hn : n0 ≤ c0) (hb : c0 * 8 ≤ reachBytes) (hw : ∀ i, i < c0 → (Lit.int .u64 (g i)).wf = true)
    (hn1 : n1 ≤ c1) (hb1 : c1 * 8 ≤ reachBytes) (hw1 : ∀ i, i < c1 → (Lit.int .u64 (h i)).wf = true) : Fits Try.prog 4 (lawSpec n0 c0 g n1 c1 h) :=
  lines_f _ _ n0 c0 n1 c1 (by simp; exact hn) hn (by unfold reachBytes at hb; omega) (wf_pos g c0 hw) (by simp; exact hn1) hn1 (by unfold reachBytes at hb1; omega) (wf_pos h c1 hw1)
end Go.Proofs.Ytancolnaoieafaa

namespace Go.Proofs.Ytancolnaoieafaa
open Go Go.Fw
namespace mixLines
open Go.ChangeShapes Go.WideShapes Go.ChangeAt Go.RowKit
theorem own : ownKnob Try.prog.godebug = none := by kernel_rfl
theorem laid : laidOutB Try.prog = true := by kernel_rfl

set_option maxRecDepth 100000 in
theorem lifted (os : Os) (started : os.Started) (H : Type) (enc : TypeId × Value → H) :
    ReturnsInHanded {} Try.checked os 4 .any (Rows.mixLinesSpec.pre6 enc Try.prog Try.f4 Rows.mixLinesRow.domain false) (Rows.mixLinesSpec.post enc Try.prog Try.f4 false true false false) := by
  refine returnsInHanded_of_change_sized (C := Try.checked) own started (by kernel_rfl) Try.func4
    (ChangeSpec.witness6 (enc := enc) (C := Try.checked) false ⟨#[], #[.slice none 0 0, .slice none 0 0], []⟩ 8 (by kernel_rfl) (by kernel_rfl) (by kernel_rfl) (by kernel_rfl)) ?_
  intro W base args ds gs before hval0 hW _ hsz0 _
  have hsz : (DataW.weightsEach Try.prog (Try.f4.params.toList ++ Rows.mixLinesSpec.plain.varTypes Try.prog) (ds ++ gs)).all (· ≤ reachBytes) = true := hsz0
  clear hsz0
  have hval : ∀ (j : Nat) t v, Try.f4.params[j]? = some t → args[j]? = some v → Value.okWide Try.prog W .any base t v := hval0
  have hW' := hW
  obtain ⟨p, q, hA0, hV, rfl, hfz, hnd⟩ := hW
  have hA : DataW.TrodAll enc Try.prog W 0 (fun _ => true) true Try.f4.params.toList args.toList ds p := hA0
  rw [Try.params4] at hA hval hsz
  obtain ⟨v0, vs0, d0, ds0, p0, q0, hargs, rfl, rfl, h0, r0⟩ := trodAll_cons hA
  obtain ⟨v1, vs1, d1, ds1, p1, q1, rfl, rfl, rfl, h1, r1⟩ := trodAll_cons r0
  obtain ⟨rfl, rfl, rfl⟩ := trodAll_nil r1
  obtain rfl : args = #[v0, v1] := by cases args; simp_all
  obtain ⟨rfl, rfl⟩ := trodVars_none hV
  obtain ⟨a0, la0, z0, hv0⟩ := okWide_slice Try.underlying22 (hval 0 22 v0 rfl rfl)
  obtain ⟨c0c0, t0_0, e0_0, l0_0, e0_1⟩ : LeafsAre W [.row 8 [.int .u64]] v0.cells.toList := arg_open 12 (by kernel_rfl) h0 (fine_of (j := 0) hsz rfl rfl)
  subst e0_1
  obtain rfl : v0 = c0c0 := by subst hv0; simpa [Value.cells] using e0_0
  obtain ⟨n0_0, c0_0, g0_0, pl0_0, hn0_0, hb0_0, hw0_0, hc0_0⟩ := row_nums l0_0
  obtain ⟨a1, la1, z1, hv1⟩ := okWide_slice Try.underlying22 (hval 1 22 v1 rfl rfl)
  obtain ⟨c1c0, t1_0, e1_0, l1_0, e1_1⟩ : LeafsAre W [.row 8 [.int .u64]] v1.cells.toList := arg_open 12 (by kernel_rfl) h1 (fine_of (j := 1) hsz rfl rfl)
  subst e1_1
  obtain rfl : v1 = c1c0 := by subst hv1; simpa [Value.cells] using e1_0
  obtain ⟨n1_0, c1_0, g1_0, pl1_0, hn1_0, hb1_0, hw1_0, hc1_0⟩ := row_nums l1_0
  clear hA0 hval0
  obtain ⟨dd0_0, cc0_0⟩ := hc0_0 [pl0_0, pl1_0] 0 (by simp) rfl
  obtain ⟨dd1_0, cc1_0⟩ := hc1_0 [pl0_0, pl1_0] 1 (by simp) rfl
  have walk := (law_l n0_0 c0_0 g0_0 n1_0 c1_0 g1_0 hn0_0 hb0_0 hw0_0 hn1_0 hb1_0 hw1_0).calls W [pl0_0, pl1_0] [v0, v1] (heap_args rfl fun i s hs => by
      match i, hs with
      | 0, hs => simp only [lawSpec, List.getElem?_cons_zero, Option.some.injEq] at hs; subst hs; exact ⟨_, rfl, cc0_0⟩
      | 1, hs => simp only [lawSpec, List.getElem?_cons_succ, List.getElem?_cons_zero, Option.some.injEq] at hs; subst hs; exact ⟨_, rfl, cc1_0⟩
      | i + 2, hs => simp [lawSpec] at hs) (by simp only [lawSpec, Dens]; exact ⟨_, _, rfl, dd0_0, ⟨_, _, rfl, dd1_0, rfl⟩⟩) (x := .bool true) (v := .bool true) rfl (by
      intro o ho y hy
      simp [lawSpec] at ho
      subst ho; rfl)
  refine walk.mono fun e W' ⟨he, hg⟩ => ?_
  subst he
  exact ⟨_, rfl, law_done laid rfl rfl Try.underlying4 (by kernel_rfl) hW' rfl hg⟩

theorem over : Rows.mixLinesRow.holds Try.pinned (OpenSpec.ofChange Rows.mixLinesSpec) :=
  OpenClaim.holds_of_wide 4 Try.f4 rfl rfl rfl rfl rfl rfl rfl ⟨rfl, rfl, rfl, rfl, rfl⟩ rfl rfl rfl rfl rfl (by kernel_rfl) Try.func4 (by kernel_rfl)
    (of_decide_eq_true (by kernel_rfl)) (by unfold Func.isWrapper; first | (rw [if_pos (by decide +kernel)]; kernel_rfl) | (rw [if_neg (by decide +kernel)]; exact ⟨rfl, rfl⟩))
    (fun os started H enc _ => lifted os started H enc)

theorem proved : Rows.MixLinesSaid := over
end mixLines
end Go.Proofs.Ytancolnaoieafaa
