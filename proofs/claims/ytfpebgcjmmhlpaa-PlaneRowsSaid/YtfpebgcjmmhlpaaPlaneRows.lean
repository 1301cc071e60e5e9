/-
  For any two rows of numbers: sums and filters are the document, no number included; what is handed in stays, answers are new; and so over the same rows with other numbers in them.
-/
import Derived.Test.YtfpebgcjmmhlpaaRows
import Derived.Test.YtfpebgcjmmhlpaaFl
import Derived.Test.YtfpebgcjmmhlpaaFv
import Derived.Test.YtfpebgcjmmhlpaaTwPlaneRows
import Derived.Test.YtfpebgcjmmhlpaaFa
import Derived.WalkKit
import Derived.ProofKit
import Derived.OpenShut
import Derived.SizedLaws
import Derived.ChangeMaps5
import Derived.Laws.Cover2
set_option linter.unusedSimpArgs false
set_option linter.unusedVariables false
namespace Go.Fw
open Go Ieee
/-- No number. -/
def Nn (r : Nat) : Prop := ∃ s f, FloatKind.f64.format.read r = .nan s f
/-- What an operation of two floats gives, no number included. -/
def Fo (op : BinOp) (a b r : Nat) : Prop := floatBits op .f64 a b = some r ∨ (floatBits op .f64 a b = none ∧ Nn r)
/-- The same float, or none either way. -/
def Al (a b : Nat) : Prop := a = b ∨ (Nn a ∧ Nn b)
theorem Al.refl (a : Nat) : Al a a := .inl rfl
theorem nan_fo {op : BinOp} {a b : Nat} {Q : Nat → Prop} (h : ∀ r, Fo op a b r → Q r) : (∃ r, floatBits op .f64 a b = some r ∧ Q r) ∨ (floatBits op .f64 a b = none ∧ ∀ r s f, FloatKind.f64.format.read r = .nan s f → r < 18446744073709551616 → Q r) := by
  cases e : floatBits op .f64 a b with
  | none => exact .inr ⟨rfl, fun r s f n _ => h r (.inr ⟨e, s, f, n⟩)⟩
  | some r => exact .inl ⟨r, rfl, h r (.inl e)⟩
theorem Nn.left {op : BinOp} {a b : Nat} (h : Nn a) (ho : op = .add ∨ op = .sub ∨ op = .mul ∨ op = .quo) : floatBits op .f64 a b = none := by
  obtain ⟨s, f, h⟩ := h
  rcases ho with rfl | rfl | rfl | rfl
  · show Format.add _ a b = none
    unfold Format.add; rw [h]; cases FloatKind.f64.format.read b <;> rfl
  · show Format.sub _ a b = none
    unfold Format.sub; rw [h]; cases FloatKind.f64.format.read b <;> rfl
  · show Format.mul _ a b = none
    unfold Format.mul; rw [h]; cases FloatKind.f64.format.read b <;> rfl
  · show Format.div _ a b = none
    unfold Format.div; rw [h]; cases FloatKind.f64.format.read b <;> rfl
theorem Nn.right {op : BinOp} {a b : Nat} (h : Nn b) (ho : op = .add ∨ op = .sub ∨ op = .mul ∨ op = .quo) : floatBits op .f64 a b = none := by
  obtain ⟨s, f, h⟩ := h
  rcases ho with rfl | rfl | rfl | rfl
  · show Format.add _ a b = none
    unfold Format.add; rw [h]; cases FloatKind.f64.format.read a <;> rfl
  · show Format.sub _ a b = none
    unfold Format.sub; rw [h]; cases FloatKind.f64.format.read a <;> rfl
  · show Format.mul _ a b = none
    unfold Format.mul; rw [h]; cases FloatKind.f64.format.read a <;> rfl
  · show Format.div _ a b = none
    unfold Format.div; rw [h]; cases FloatKind.f64.format.read a <;> rfl
theorem Fo.al {op : BinOp} {a b r a' b' r' : Nat} (h : Fo op a b r) (h' : Fo op a' b' r') (ha : Al a a') (hb : Al b b') (ho : op = .add ∨ op = .sub ∨ op = .mul ∨ op = .quo) : Al r r' := by
  have key : floatBits op .f64 a b = none → floatBits op .f64 a' b' = none → Al r r' := by
    intro k1 k2
    rcases h with h | ⟨_, h⟩
    · rw [k1] at h; cases h
    · rcases h' with h' | ⟨_, h'⟩
      · rw [k2] at h'; cases h'
      · exact .inr ⟨h, h'⟩
  rcases ha with rfl | ⟨n1, n2⟩
  · rcases hb with rfl | ⟨n1, n2⟩
    · rcases h with h | ⟨k, h⟩
      · rcases h' with h' | ⟨k', _⟩
        · rw [h] at h'; cases h'; exact .inl rfl
        · rw [h] at k'; cases k'
      · rcases h' with h' | ⟨_, h'⟩
        · rw [k] at h'; cases h'
        · exact .inr ⟨h, h'⟩
    · exact key (n1.right ho) (n2.right ho)
  · exact key (n1.left ho) (n2.left ho)
theorem Nn.ne {r c : Nat} (h : Nn r) : (FloatKind.f64.format.order r c == some .eq) = false := by
  obtain ⟨s, f, h⟩ := h
  unfold Format.order
  rw [h]
  cases FloatKind.f64.format.read c <;> rfl
end Go.Fw

set_option linter.unusedVariables false
set_option linter.unusedSimpArgs false
namespace Go.Proofs.Ytfpebgcjmmhlpaa
open Go Go.Fw
def tyL : List (Nat × TyI) := [
  (1, ⟨.func, 1, 8, .nilFunc⟩),
  (2, ⟨.int .i64, 1, 8, .int .i64 0⟩),
  (3, ⟨.int .i64, 1, 8, .int .i64 0⟩),
  (4, ⟨.bool, 1, 1, .bool false⟩),
  (5, ⟨.int .u8, 1, 1, .int .u8 0⟩),
  (9, ⟨.str, 1, 16, .string (ByteArray.mk #[])⟩),
  (12, ⟨.int .u64, 1, 8, .int .u64 0⟩),
  (21, ⟨.int .i32, 1, 4, .int .i32 0⟩),
  (22, ⟨.float .f64, 1, 8, .float .f64 0⟩),
  (23, ⟨.array 2 22, 2, 16, .agg #[.float .f64 0, .float .f64 0]⟩),
  (24, ⟨.cpx .f64, 1, 16, .complex .f64 0 0⟩),
  (25, ⟨.func, 1, 8, .nilFunc⟩),
  (26, ⟨.func, 1, 8, .nilFunc⟩),
  (27, ⟨.func, 1, 8, .nilFunc⟩),
  (28, ⟨.func, 1, 8, .nilFunc⟩),
  (29, ⟨.func, 1, 8, .nilFunc⟩),
  (30, ⟨.func, 1, 8, .nilFunc⟩),
  (31, ⟨.func, 1, 8, .nilFunc⟩),
  (32, ⟨.func, 1, 8, .nilFunc⟩),
  (33, ⟨.func, 1, 8, .nilFunc⟩),
  (34, ⟨.func, 1, 8, .nilFunc⟩),
  (35, ⟨.slice 23, 1, 24, .slice none 0 0⟩),
  (36, ⟨.slice 24, 1, 24, .slice none 0 0⟩),
  (37, ⟨.func, 1, 8, .nilFunc⟩),
  (38, ⟨.func, 1, 8, .nilFunc⟩),
  (39, ⟨.func, 1, 8, .nilFunc⟩),
  (40, ⟨.func, 1, 8, .nilFunc⟩),
  (41, ⟨.int .u32, 1, 4, .int .u32 0⟩),
  (42, ⟨.int .i64, 1, 8, .int .i64 0⟩),
  (44, ⟨.struct [(0, 2), (1, 2)], 2, 16, .agg #[.int .i64 0, .int .i64 0]⟩),
  (45, ⟨.struct [(0, 2), (1, 2)], 2, 16, .agg #[.int .i64 0, .int .i64 0]⟩),
  (46, ⟨.func, 1, 8, .nilFunc⟩),
  (48, ⟨.func, 1, 8, .nilFunc⟩),
  (49, ⟨.func, 1, 8, .nilFunc⟩),
  (50, ⟨.func, 1, 8, .nilFunc⟩),
  (51, ⟨.func, 1, 8, .nilFunc⟩),
  (52, ⟨.func, 1, 8, .nilFunc⟩),
  (53, ⟨.func, 1, 8, .nilFunc⟩),
  (54, ⟨.func, 1, 8, .nilFunc⟩),
  (55, ⟨.int .u64, 1, 8, .int .u64 0⟩),
  (56, ⟨.func, 1, 8, .nilFunc⟩),
  (57, ⟨.func, 1, 8, .nilFunc⟩),
  (63, ⟨.func, 1, 8, .nilFunc⟩),
  (66, ⟨.func, 1, 8, .nilFunc⟩),
  (67, ⟨.ptr 5, 1, 8, .pointer none⟩),
  (72, ⟨.func, 1, 8, .nilFunc⟩)]
theorem tokL : TOk Try.prog tyL := tokl_of ⟨⟨by kernel_rfl, by kernel_rfl⟩, ⟨by kernel_rfl, by kernel_rfl⟩, ⟨by kernel_rfl, by kernel_rfl⟩, ⟨by kernel_rfl, by kernel_rfl⟩, ⟨by kernel_rfl, by kernel_rfl⟩, ⟨by kernel_rfl, by kernel_rfl⟩, ⟨by kernel_rfl, by kernel_rfl⟩, ⟨by kernel_rfl, by kernel_rfl⟩, ⟨by kernel_rfl, by kernel_rfl⟩, ⟨by kernel_rfl, by kernel_rfl⟩, ⟨by kernel_rfl, by kernel_rfl⟩, ⟨by kernel_rfl, by kernel_rfl⟩, ⟨by kernel_rfl, by kernel_rfl⟩, ⟨by kernel_rfl, by kernel_rfl⟩, ⟨by kernel_rfl, by kernel_rfl⟩, ⟨by kernel_rfl, by kernel_rfl⟩, ⟨by kernel_rfl, by kernel_rfl⟩, ⟨by kernel_rfl, by kernel_rfl⟩, ⟨by kernel_rfl, by kernel_rfl⟩, ⟨by kernel_rfl, by kernel_rfl⟩, ⟨by kernel_rfl, by kernel_rfl⟩, ⟨by kernel_rfl, by kernel_rfl⟩, ⟨by kernel_rfl, by kernel_rfl⟩, ⟨by kernel_rfl, by kernel_rfl⟩, ⟨by kernel_rfl, by kernel_rfl⟩, ⟨by kernel_rfl, by kernel_rfl⟩, ⟨by kernel_rfl, by kernel_rfl⟩, ⟨by kernel_rfl, by kernel_rfl⟩, ⟨by kernel_rfl, by kernel_rfl⟩, ⟨by kernel_rfl, by kernel_rfl⟩, ⟨by kernel_rfl, by kernel_rfl⟩, ⟨by kernel_rfl, by kernel_rfl⟩, ⟨by kernel_rfl, by kernel_rfl⟩, ⟨by kernel_rfl, by kernel_rfl⟩, ⟨by kernel_rfl, by kernel_rfl⟩, ⟨by kernel_rfl, by kernel_rfl⟩, ⟨by kernel_rfl, by kernel_rfl⟩, ⟨by kernel_rfl, by kernel_rfl⟩, ⟨by kernel_rfl, by kernel_rfl⟩, ⟨by kernel_rfl, by kernel_rfl⟩, ⟨by kernel_rfl, by kernel_rfl⟩, ⟨by kernel_rfl, by kernel_rfl⟩, ⟨by kernel_rfl, by kernel_rfl⟩, ⟨by kernel_rfl, by kernel_rfl⟩, ⟨by kernel_rfl, by kernel_rfl⟩, ⟨by kernel_rfl, by kernel_rfl⟩, True.intro⟩
theorem mixedL : Try.prog.follows .mixedOrders = true := by kernel_rfl
theorem i64max : IntKind.i64.max = 9223372036854775807 := rfl
theorem u8max : IntKind.u8.max = 255 := rfl
theorem u16max : IntKind.u16.max = 65535 := rfl
theorem u32max : IntKind.u32.max = 4294967295 := rfl
theorem u64max : IntKind.u64.max = 18446744073709551615 := rfl
def numOut (D : List Seg) (x : AV) : FOut := ⟨Unit, fun _ => True, fun _ => x, fun _ => D⟩
def qf : Nat → Bool := fun f => match f with | 9 => true | 10 => true | 11 => true | 12 => true | 13 => true | 6 => true | 21 => true | 28 => true | 2000035 => true | 3000022 => true | _ => false
def cfgp (k : Nat) : Cfg := { T := tyL, sgn := fun _ => true, wr := fun _ => false, k := k, q := qf }
theorem bits_x (n : Nat) : Go.Fw.XRun Try.prog 35 [.flt .f64 n] (.int .u64 n) := by
  refine ⟨.int .u64 n, fun ρ => by simp only [Den], fun ρ vs h w => ?_⟩
  simp only [Dens, Den] at h
  obtain ⟨v, r, rfl, rfl, rfl⟩ := h
  kernel_rfl
def sgb (n : Nat) : Bool := decide (IntKind.i64.wrap (n : Int) < 0)
set_option maxHeartbeats 0 in
set_option maxRecDepth 100000 in
theorem Signbit_q (n : Nat) : QFits Try.prog 28 ⟨[.flt .f64 n], [], .bool (sgb n)⟩ := by
  have BX := bits_x n
  unfold sgb
  refine qfits_of_body (C := cfgp 0) (c := (Try.f28.body).getD .skip) (ts := [2]) tokL mixedL (fun _ => none) (fun _ => none)
    Try.func28 (by kernel_rfl) (by kernel_rfl) (by kernel_rfl) (by kernel_rfl) (by kernel_rfl) rfl rfl ?_
  conv => whnf
  repeat (first
    | (refine And.intro ?_ ?_; (focus (first | omega | decide | exact EqOk.mk (by kernel_rfl) (by kernel_rfl) (by kernel_rfl) | exact Int.natCast_nonneg _ | ((repeat' refine And.intro ?_ ?_) <;> first | omega | exact Int.natCast_nonneg _ | (simp only [i64max, u8max, u16max, u32max, u64max]; omega) | (simp only [mulSz_eq, Cont.len, colsLen, Col.len, List.length_cons, List.length_nil, List.length_replicate, List.length_append]; first | done | omega) | (simp [mulSz, Cont.len, bne]; first | done | omega)))); conv => whnf)
    | (refine tst_in ?_ ?_; (focus (intro h_; exfalso; first | omega | ((try simp only [decide_eq_true_eq, decide_eq_false_iff_not] at h_); omega) | (simp [mulSz, Cont.len, bne] at h_; first | done | omega))); intro _; conv => whnf)
    | (refine tst_in ?_ ?_; rotate_left; (focus (intro h_; exfalso; first | omega | ((try simp only [decide_eq_true_eq, decide_eq_false_iff_not] at h_); omega) | (simp [mulSz, Cont.len, bne] at h_; first | done | omega))); intro _; conv => whnf)
    | (refine ⟨0, (show _ = _ by omega), ?_⟩; conv => whnf))
  refine ⟨_, _, BX, rfl, ?_⟩
  conv => whnf
  conv => whnf
  repeat (first
    | (refine And.intro ?_ ?_; (focus (first | omega | decide | exact EqOk.mk (by kernel_rfl) (by kernel_rfl) (by kernel_rfl) | exact Int.natCast_nonneg _ | ((repeat' refine And.intro ?_ ?_) <;> first | omega | exact Int.natCast_nonneg _ | (simp only [i64max, u8max, u16max, u32max, u64max]; omega) | (simp only [mulSz_eq, Cont.len, colsLen, Col.len, List.length_cons, List.length_nil, List.length_replicate, List.length_append]; first | done | omega) | (simp [mulSz, Cont.len, bne]; first | done | omega)))); conv => whnf)
    | (refine tst_in ?_ ?_; (focus (intro h_; exfalso; first | omega | ((try simp only [decide_eq_true_eq, decide_eq_false_iff_not] at h_); omega) | (simp [mulSz, Cont.len, bne] at h_; first | done | omega))); intro _; conv => whnf)
    | (refine tst_in ?_ ?_; rotate_left; (focus (intro h_; exfalso; first | omega | ((try simp only [decide_eq_true_eq, decide_eq_false_iff_not] at h_); omega) | (simp [mulSz, Cont.len, bne] at h_; first | done | omega))); intro _; conv => whnf)
    | (refine ⟨0, (show _ = _ by omega), ?_⟩; conv => whnf))
  first | rfl | (rw [dLt_eq])
theorem eq_self (a : Nat) : ((FloatKind.f64.format.order a a == some .eq) = true) ∨ ((FloatKind.f64.format.order a a == some .eq) = false) := by
  cases (FloatKind.f64.format.order a a == some Ordering.eq)
  · exact .inr rfl
  · exact .inl rfl
theorem al_or {a b : Nat} (h : Al a b) : ((FloatKind.f64.format.order a a == some .eq) = false ∧ (FloatKind.f64.format.order b b == some .eq) = false) ∨ (a = b ∧ (FloatKind.f64.format.order a a == some .eq) = true) := by
  rcases h with rfl | ⟨h1, h2⟩
  · rcases eq_self a with h | h
    · exact .inr ⟨rfl, h⟩
    · exact .inl ⟨h, h⟩
  · exact .inl ⟨h1.ne, h2.ne⟩
set_option maxHeartbeats 0 in
set_option maxRecDepth 100000 in
theorem part_q (a b : Nat) (s : Bool) (h : Al a b) : QFits Try.prog 21 ⟨[.flt .f64 a, .flt .f64 b, .bool s], [], .bool true⟩ := by
  refine qfits_of_body (C := cfgp 0) (c := (Try.f21.body).getD .skip) (ts := [6]) tokL mixedL (fun _ => none) (fun _ => none)
    Try.func21 (by kernel_rfl) (by kernel_rfl) (by kernel_rfl) (by kernel_rfl) (by kernel_rfl) rfl rfl ?_
  rcases al_or h with ⟨h1, h2⟩ | ⟨rfl, h1⟩
  · conv => whnf
    repeat (first
      | (refine And.intro ?_ ?_; (focus (first | omega | decide | exact EqOk.mk (by kernel_rfl) (by kernel_rfl) (by kernel_rfl) | exact Int.natCast_nonneg _ | ((repeat' refine And.intro ?_ ?_) <;> first | omega | exact Int.natCast_nonneg _ | (simp only [i64max, u8max, u16max, u32max, u64max]; omega) | (simp only [mulSz_eq, Cont.len, colsLen, Col.len, List.length_cons, List.length_nil, List.length_replicate, List.length_append]; first | done | omega) | (simp [mulSz, Cont.len, bne]; first | done | omega)))); conv => whnf)
      | (refine tst_in ?_ ?_; (focus (intro h_; exfalso; first | omega | ((try simp only [decide_eq_true_eq, decide_eq_false_iff_not] at h_); omega) | (simp [mulSz, Cont.len, bne] at h_; first | done | omega))); intro _; conv => whnf)
      | (refine tst_in ?_ ?_; rotate_left; (focus (intro h_; exfalso; first | omega | ((try simp only [decide_eq_true_eq, decide_eq_false_iff_not] at h_); omega) | (simp [mulSz, Cont.len, bne] at h_; first | done | omega))); intro _; conv => whnf)
      | (refine ⟨0, (show _ = _ by omega), ?_⟩; conv => whnf))
    refine tst_in (fun u => ?_) (fun u => absurd u (by rw [bne, h1]; decide))
    conv => whnf
    repeat (first
      | (refine And.intro ?_ ?_; (focus (first | omega | decide | exact EqOk.mk (by kernel_rfl) (by kernel_rfl) (by kernel_rfl) | exact Int.natCast_nonneg _ | ((repeat' refine And.intro ?_ ?_) <;> first | omega | exact Int.natCast_nonneg _ | (simp only [i64max, u8max, u16max, u32max, u64max]; omega) | (simp only [mulSz_eq, Cont.len, colsLen, Col.len, List.length_cons, List.length_nil, List.length_replicate, List.length_append]; first | done | omega) | (simp [mulSz, Cont.len, bne]; first | done | omega)))); conv => whnf)
      | (refine tst_in ?_ ?_; (focus (intro h_; exfalso; first | omega | ((try simp only [decide_eq_true_eq, decide_eq_false_iff_not] at h_); omega) | (simp [mulSz, Cont.len, bne] at h_; first | done | omega))); intro _; conv => whnf)
      | (refine tst_in ?_ ?_; rotate_left; (focus (intro h_; exfalso; first | omega | ((try simp only [decide_eq_true_eq, decide_eq_false_iff_not] at h_); omega) | (simp [mulSz, Cont.len, bne] at h_; first | done | omega))); intro _; conv => whnf)
      | (refine ⟨0, (show _ = _ by omega), ?_⟩; conv => whnf))
    refine tst_in (fun u => ?_) (fun u => absurd u (by rw [bne, h1]; decide))
    conv => whnf
    repeat (first
      | (refine And.intro ?_ ?_; (focus (first | omega | decide | exact EqOk.mk (by kernel_rfl) (by kernel_rfl) (by kernel_rfl) | exact Int.natCast_nonneg _ | ((repeat' refine And.intro ?_ ?_) <;> first | omega | exact Int.natCast_nonneg _ | (simp only [i64max, u8max, u16max, u32max, u64max]; omega) | (simp only [mulSz_eq, Cont.len, colsLen, Col.len, List.length_cons, List.length_nil, List.length_replicate, List.length_append]; first | done | omega) | (simp [mulSz, Cont.len, bne]; first | done | omega)))); conv => whnf)
      | (refine tst_in ?_ ?_; (focus (intro h_; exfalso; first | omega | ((try simp only [decide_eq_true_eq, decide_eq_false_iff_not] at h_); omega) | (simp [mulSz, Cont.len, bne] at h_; first | done | omega))); intro _; conv => whnf)
      | (refine tst_in ?_ ?_; rotate_left; (focus (intro h_; exfalso; first | omega | ((try simp only [decide_eq_true_eq, decide_eq_false_iff_not] at h_); omega) | (simp [mulSz, Cont.len, bne] at h_; first | done | omega))); intro _; conv => whnf)
      | (refine ⟨0, (show _ = _ by omega), ?_⟩; conv => whnf))
    rw [bne, h2]; rfl
  · have SB := Signbit_q a
    conv => whnf
    repeat (first
      | (refine And.intro ?_ ?_; (focus (first | omega | decide | exact EqOk.mk (by kernel_rfl) (by kernel_rfl) (by kernel_rfl) | exact Int.natCast_nonneg _ | ((repeat' refine And.intro ?_ ?_) <;> first | omega | exact Int.natCast_nonneg _ | (simp only [i64max, u8max, u16max, u32max, u64max]; omega) | (simp only [mulSz_eq, Cont.len, colsLen, Col.len, List.length_cons, List.length_nil, List.length_replicate, List.length_append]; first | done | omega) | (simp [mulSz, Cont.len, bne]; first | done | omega)))); conv => whnf)
      | (refine tst_in ?_ ?_; (focus (intro h_; exfalso; first | omega | ((try simp only [decide_eq_true_eq, decide_eq_false_iff_not] at h_); omega) | (simp [mulSz, Cont.len, bne] at h_; first | done | omega))); intro _; conv => whnf)
      | (refine tst_in ?_ ?_; rotate_left; (focus (intro h_; exfalso; first | omega | ((try simp only [decide_eq_true_eq, decide_eq_false_iff_not] at h_); omega) | (simp [mulSz, Cont.len, bne] at h_; first | done | omega))); intro _; conv => whnf)
      | (refine ⟨0, (show _ = _ by omega), ?_⟩; conv => whnf))
    refine tst_in (fun u => absurd u (by rw [bne, h1]; decide)) (fun u => ?_)
    conv => whnf
    repeat (first
      | (refine And.intro ?_ ?_; (focus (first | omega | decide | exact EqOk.mk (by kernel_rfl) (by kernel_rfl) (by kernel_rfl) | exact Int.natCast_nonneg _ | ((repeat' refine And.intro ?_ ?_) <;> first | omega | exact Int.natCast_nonneg _ | (simp only [i64max, u8max, u16max, u32max, u64max]; omega) | (simp only [mulSz_eq, Cont.len, colsLen, Col.len, List.length_cons, List.length_nil, List.length_replicate, List.length_append]; first | done | omega) | (simp [mulSz, Cont.len, bne]; first | done | omega)))); conv => whnf)
      | (refine tst_in ?_ ?_; (focus (intro h_; exfalso; first | omega | ((try simp only [decide_eq_true_eq, decide_eq_false_iff_not] at h_); omega) | (simp [mulSz, Cont.len, bne] at h_; first | done | omega))); intro _; conv => whnf)
      | (refine tst_in ?_ ?_; rotate_left; (focus (intro h_; exfalso; first | omega | ((try simp only [decide_eq_true_eq, decide_eq_false_iff_not] at h_); omega) | (simp [mulSz, Cont.len, bne] at h_; first | done | omega))); intro _; conv => whnf)
      | (refine ⟨0, (show _ = _ by omega), ?_⟩; conv => whnf))
    refine tst_in (fun u => absurd u (by rw [bne, h1]; decide)) (fun u => ?_)
    conv => whnf
    repeat (first
      | (refine And.intro ?_ ?_; (focus (first | omega | decide | exact EqOk.mk (by kernel_rfl) (by kernel_rfl) (by kernel_rfl) | exact Int.natCast_nonneg _ | ((repeat' refine And.intro ?_ ?_) <;> first | omega | exact Int.natCast_nonneg _ | (simp only [i64max, u8max, u16max, u32max, u64max]; omega) | (simp only [mulSz_eq, Cont.len, colsLen, Col.len, List.length_cons, List.length_nil, List.length_replicate, List.length_append]; first | done | omega) | (simp [mulSz, Cont.len, bne]; first | done | omega)))); conv => whnf)
      | (refine tst_in ?_ ?_; (focus (intro h_; exfalso; first | omega | ((try simp only [decide_eq_true_eq, decide_eq_false_iff_not] at h_); omega) | (simp [mulSz, Cont.len, bne] at h_; first | done | omega))); intro _; conv => whnf)
      | (refine tst_in ?_ ?_; rotate_left; (focus (intro h_; exfalso; first | omega | ((try simp only [decide_eq_true_eq, decide_eq_false_iff_not] at h_); omega) | (simp [mulSz, Cont.len, bne] at h_; first | done | omega))); intro _; conv => whnf)
      | (refine ⟨0, (show _ = _ by omega), ?_⟩; conv => whnf))
    refine tst_in (fun u => ?_) (fun u => absurd (h1.symm.trans u) (by decide))
    cases s
    · conv => whnf
      repeat (first
        | (refine And.intro ?_ ?_; (focus (first | omega | decide | exact EqOk.mk (by kernel_rfl) (by kernel_rfl) (by kernel_rfl) | exact Int.natCast_nonneg _ | ((repeat' refine And.intro ?_ ?_) <;> first | omega | exact Int.natCast_nonneg _ | (simp only [i64max, u8max, u16max, u32max, u64max]; omega) | (simp only [mulSz_eq, Cont.len, colsLen, Col.len, List.length_cons, List.length_nil, List.length_replicate, List.length_append]; first | done | omega) | (simp [mulSz, Cont.len, bne]; first | done | omega)))); conv => whnf)
        | (refine tst_in ?_ ?_; (focus (intro h_; exfalso; first | omega | ((try simp only [decide_eq_true_eq, decide_eq_false_iff_not] at h_); omega) | (simp [mulSz, Cont.len, bne] at h_; first | done | omega))); intro _; conv => whnf)
        | (refine tst_in ?_ ?_; rotate_left; (focus (intro h_; exfalso; first | omega | ((try simp only [decide_eq_true_eq, decide_eq_false_iff_not] at h_); omega) | (simp [mulSz, Cont.len, bne] at h_; first | done | omega))); intro _; conv => whnf)
        | (refine ⟨0, (show _ = _ by omega), ?_⟩; conv => whnf))
    · conv => whnf
      repeat (first
        | (refine And.intro ?_ ?_; (focus (first | omega | decide | exact EqOk.mk (by kernel_rfl) (by kernel_rfl) (by kernel_rfl) | exact Int.natCast_nonneg _ | ((repeat' refine And.intro ?_ ?_) <;> first | omega | exact Int.natCast_nonneg _ | (simp only [i64max, u8max, u16max, u32max, u64max]; omega) | (simp only [mulSz_eq, Cont.len, colsLen, Col.len, List.length_cons, List.length_nil, List.length_replicate, List.length_append]; first | done | omega) | (simp [mulSz, Cont.len, bne]; first | done | omega)))); conv => whnf)
        | (refine tst_in ?_ ?_; (focus (intro h_; exfalso; first | omega | ((try simp only [decide_eq_true_eq, decide_eq_false_iff_not] at h_); omega) | (simp [mulSz, Cont.len, bne] at h_; first | done | omega))); intro _; conv => whnf)
        | (refine tst_in ?_ ?_; rotate_left; (focus (intro h_; exfalso; first | omega | ((try simp only [decide_eq_true_eq, decide_eq_false_iff_not] at h_); omega) | (simp [mulSz, Cont.len, bne] at h_; first | done | omega))); intro _; conv => whnf)
        | (refine ⟨0, (show _ = _ by omega), ?_⟩; conv => whnf))
      refine ⟨_, [], SB, ?_⟩
      conv => whnf
      iterate 2
       refine And.intro ?_ ?_
       focus
        conv => whnf
        repeat' (first | exact True.intro | rfl | refine And.intro ?_ ?_ | omega)
        all_goals (conv => whnf)
        all_goals (try (first | rfl | omega | (simp; done)))
      conv => whnf
      conv => whnf
      repeat (first
        | (refine And.intro ?_ ?_; (focus (first | omega | decide | exact EqOk.mk (by kernel_rfl) (by kernel_rfl) (by kernel_rfl) | exact Int.natCast_nonneg _ | ((repeat' refine And.intro ?_ ?_) <;> first | omega | exact Int.natCast_nonneg _ | (simp only [i64max, u8max, u16max, u32max, u64max]; omega) | (simp only [mulSz_eq, Cont.len, colsLen, Col.len, List.length_cons, List.length_nil, List.length_replicate, List.length_append]; first | done | omega) | (simp [mulSz, Cont.len, bne]; first | done | omega)))); conv => whnf)
        | (refine tst_in ?_ ?_; (focus (intro h_; exfalso; first | omega | ((try simp only [decide_eq_true_eq, decide_eq_false_iff_not] at h_); omega) | (simp [mulSz, Cont.len, bne] at h_; first | done | omega))); intro _; conv => whnf)
        | (refine tst_in ?_ ?_; rotate_left; (focus (intro h_; exfalso; first | omega | ((try simp only [decide_eq_true_eq, decide_eq_false_iff_not] at h_); omega) | (simp [mulSz, Cont.len, bne] at h_; first | done | omega))); intro _; conv => whnf)
        | (refine ⟨0, (show _ = _ by omega), ?_⟩; conv => whnf))
      refine ⟨_, [], SB, ?_⟩
      conv => whnf
      iterate 2
       refine And.intro ?_ ?_
       focus
        conv => whnf
        repeat' (first | exact True.intro | rfl | refine And.intro ?_ ?_ | omega)
        all_goals (conv => whnf)
        all_goals (try (first | rfl | omega | (simp; done)))
      conv => whnf
      conv => whnf
      repeat (first
        | (refine And.intro ?_ ?_; (focus (first | omega | decide | exact EqOk.mk (by kernel_rfl) (by kernel_rfl) (by kernel_rfl) | exact Int.natCast_nonneg _ | ((repeat' refine And.intro ?_ ?_) <;> first | omega | exact Int.natCast_nonneg _ | (simp only [i64max, u8max, u16max, u32max, u64max]; omega) | (simp only [mulSz_eq, Cont.len, colsLen, Col.len, List.length_cons, List.length_nil, List.length_replicate, List.length_append]; first | done | omega) | (simp [mulSz, Cont.len, bne]; first | done | omega)))); conv => whnf)
        | (refine tst_in ?_ ?_; (focus (intro h_; exfalso; first | omega | ((try simp only [decide_eq_true_eq, decide_eq_false_iff_not] at h_); omega) | (simp [mulSz, Cont.len, bne] at h_; first | done | omega))); intro _; conv => whnf)
        | (refine tst_in ?_ ?_; rotate_left; (focus (intro h_; exfalso; first | omega | ((try simp only [decide_eq_true_eq, decide_eq_false_iff_not] at h_); omega) | (simp [mulSz, Cont.len, bne] at h_; first | done | omega))); intro _; conv => whnf)
        | (refine ⟨0, (show _ = _ by omega), ?_⟩; conv => whnf))
      cases sgb a <;> rfl
set_option maxHeartbeats 0 in
set_option maxRecDepth 100000 in
theorem Same_q (a b : Nat × Nat) (s : Bool) (h1 : Al a.1 b.1) (h2 : Al a.2 b.2) : QFits Try.prog 6 ⟨[.cpx .f64 a.1 a.2, .cpx .f64 b.1 b.2, .bool s], [], .bool true⟩ := by
  have P1 := part_q a.1 b.1 s h1
  have P2 := part_q a.2 b.2 s h2
  refine qfits_of_body (C := cfgp 0) (c := (Try.f6.body).getD .skip) (ts := [6]) tokL mixedL (fun _ => none) (fun _ => none)
    Try.func6 (by kernel_rfl) (by kernel_rfl) (by kernel_rfl) (by kernel_rfl) (by kernel_rfl) rfl rfl ?_
  conv => whnf
  repeat (first
    | (refine And.intro ?_ ?_; (focus (first | omega | decide | exact EqOk.mk (by kernel_rfl) (by kernel_rfl) (by kernel_rfl) | exact Int.natCast_nonneg _ | ((repeat' refine And.intro ?_ ?_) <;> first | omega | exact Int.natCast_nonneg _ | (simp only [i64max, u8max, u16max, u32max, u64max]; omega) | (simp only [mulSz_eq, Cont.len, colsLen, Col.len, List.length_cons, List.length_nil, List.length_replicate, List.length_append]; first | done | omega) | (simp [mulSz, Cont.len, bne]; first | done | omega)))); conv => whnf)
    | (refine tst_in ?_ ?_; (focus (intro h_; exfalso; first | omega | ((try simp only [decide_eq_true_eq, decide_eq_false_iff_not] at h_); omega) | (simp [mulSz, Cont.len, bne] at h_; first | done | omega))); intro _; conv => whnf)
    | (refine tst_in ?_ ?_; rotate_left; (focus (intro h_; exfalso; first | omega | ((try simp only [decide_eq_true_eq, decide_eq_false_iff_not] at h_); omega) | (simp [mulSz, Cont.len, bne] at h_; first | done | omega))); intro _; conv => whnf)
    | (refine ⟨0, (show _ = _ by omega), ?_⟩; conv => whnf))
  refine ⟨_, [], P1, ?_⟩
  conv => whnf
  iterate 2
   refine And.intro ?_ ?_
   focus
    conv => whnf
    repeat' (first | exact True.intro | rfl | refine And.intro ?_ ?_ | omega)
    all_goals (conv => whnf)
    all_goals (try (first | rfl | omega | (simp; done)))
  conv => whnf
  conv => whnf
  repeat (first
    | (refine And.intro ?_ ?_; (focus (first | omega | decide | exact EqOk.mk (by kernel_rfl) (by kernel_rfl) (by kernel_rfl) | exact Int.natCast_nonneg _ | ((repeat' refine And.intro ?_ ?_) <;> first | omega | exact Int.natCast_nonneg _ | (simp only [i64max, u8max, u16max, u32max, u64max]; omega) | (simp only [mulSz_eq, Cont.len, colsLen, Col.len, List.length_cons, List.length_nil, List.length_replicate, List.length_append]; first | done | omega) | (simp [mulSz, Cont.len, bne]; first | done | omega)))); conv => whnf)
    | (refine tst_in ?_ ?_; (focus (intro h_; exfalso; first | omega | ((try simp only [decide_eq_true_eq, decide_eq_false_iff_not] at h_); omega) | (simp [mulSz, Cont.len, bne] at h_; first | done | omega))); intro _; conv => whnf)
    | (refine tst_in ?_ ?_; rotate_left; (focus (intro h_; exfalso; first | omega | ((try simp only [decide_eq_true_eq, decide_eq_false_iff_not] at h_); omega) | (simp [mulSz, Cont.len, bne] at h_; first | done | omega))); intro _; conv => whnf)
    | (refine ⟨0, (show _ = _ by omega), ?_⟩; conv => whnf))
  refine ⟨_, [], P2, ?_⟩
  conv => whnf
  iterate 2
   refine And.intro ?_ ?_
   focus
    conv => whnf
    repeat' (first | exact True.intro | rfl | refine And.intro ?_ ?_ | omega)
    all_goals (conv => whnf)
    all_goals (try (first | rfl | omega | (simp; done)))
  conv => whnf
end Go.Proofs.Ytfpebgcjmmhlpaa

set_option linter.unusedVariables false
set_option linter.unusedSimpArgs false
namespace Go.Proofs.Ytfpebgcjmmhlpaa
open Go Go.Fw
def MuR (a b r : Nat × Nat) : Prop := ∃ x y u v, Fo .mul a.1 b.1 x ∧ Fo .mul a.2 b.2 y ∧ Fo .mul a.1 b.2 u ∧ Fo .mul a.2 b.1 v ∧ Fo .sub x y r.1 ∧ Fo .add u v r.2
def Al2 (a b : Nat × Nat) : Prop := Al a.1 b.1 ∧ Al a.2 b.2
theorem MuR.al {a b r a' b' r' : Nat × Nat} (h : MuR a b r) (h' : MuR a' b' r') (ha : Al2 a a') (hb : Al2 b b') : Al2 r r' := by
  obtain ⟨x, y, u, v, h1, h2, h3, h4, h5, h6⟩ := h
  obtain ⟨x', y', u', v', g1, g2, g3, g4, g5, g6⟩ := h'
  exact ⟨h5.al g5 (h1.al g1 ha.1 hb.1 (by simp)) (h2.al g2 ha.2 hb.2 (by simp)) (by simp), h6.al g6 (h3.al g3 ha.1 hb.2 (by simp)) (h4.al g4 ha.2 hb.1 (by simp)) (by simp)⟩
def NoR (a : Nat × Nat) (r : Nat) : Prop := ∃ x y, Fo .mul a.1 a.1 x ∧ Fo .mul a.2 a.2 y ∧ Fo .add x y r
theorem NoR.al {a a' : Nat × Nat} {r r' : Nat} (h : NoR a r) (h' : NoR a' r') (ha : Al2 a a') : Al r r' := by
  obtain ⟨x, y, h1, h2, h3⟩ := h
  obtain ⟨x', y', g1, g2, g3⟩ := h'
  exact h3.al g3 (h1.al g1 ha.1 ha.1 (by simp)) (h2.al g2 ha.2 ha.2 (by simp)) (by simp)
def ApR (a b : Nat × Nat) (r : Nat) : Prop := ∃ z : Nat × Nat, Fo .sub a.1 b.1 z.1 ∧ Fo .sub a.2 b.2 z.2 ∧ NoR z r
theorem ApR.al {a b a' b' : Nat × Nat} {r r' : Nat} (h : ApR a b r) (h' : ApR a' b' r') (ha : Al2 a a') (hb : Al2 b b') : Al r r' := by
  obtain ⟨z, h1, h2, h3⟩ := h
  obtain ⟨z', g1, g2, g3⟩ := h'
  exact h3.al g3 ⟨h1.al g1 ha.1 hb.1 (by simp), h2.al g2 ha.2 hb.2 (by simp)⟩
def mulOut (a b : Nat × Nat) : FOut := ⟨Nat × Nat, fun r => MuR a b r, fun r => .cpx .f64 r.1 r.2, fun _ => []⟩
set_option maxHeartbeats 0 in
set_option maxRecDepth 100000 in
theorem Mul_f (a b : Nat × Nat) : Fits Try.prog 7 ⟨[.cpx .f64 a.1 a.2, .cpx .f64 b.1 b.2], [], [mulOut a b]⟩ := by
  unfold mulOut
  obtain ⟨a1, a2⟩ := a
  obtain ⟨b1, b2⟩ := b
  refine fits_of_body (C := cfgp 0) (c := (Try.f7.body).getD .skip) (ts := [4]) tokL mixedL (fun _ => none) (fun _ => none)
    Try.func7 (by kernel_rfl) (by kernel_rfl) (by kernel_rfl) (by kernel_rfl) rfl ?_
  conv => whnf
  repeat (first
    | (refine And.intro ?_ ?_; (focus (first | omega | decide | exact EqOk.mk (by kernel_rfl) (by kernel_rfl) (by kernel_rfl) | exact Int.natCast_nonneg _ | ((repeat' refine And.intro ?_ ?_) <;> first | omega | exact Int.natCast_nonneg _ | (simp only [i64max, u8max, u16max, u32max, u64max]; omega) | (simp only [mulSz_eq, Cont.len, colsLen, Col.len, List.length_cons, List.length_nil, List.length_replicate, List.length_append]; first | done | omega) | (simp [mulSz, Cont.len, bne]; first | done | omega)))); conv => whnf)
    | (refine tst_in ?_ ?_; (focus (intro h_; exfalso; first | omega | ((try simp only [decide_eq_true_eq, decide_eq_false_iff_not] at h_); omega) | (simp [mulSz, Cont.len, bne] at h_; first | done | omega))); intro _; conv => whnf)
    | (refine tst_in ?_ ?_; rotate_left; (focus (intro h_; exfalso; first | omega | ((try simp only [decide_eq_true_eq, decide_eq_false_iff_not] at h_); omega) | (simp [mulSz, Cont.len, bne] at h_; first | done | omega))); intro _; conv => whnf)
    | (refine ⟨0, (show _ = _ by omega), ?_⟩; conv => whnf))
  refine nan_fo (fun x h1 => ?_)
  conv => whnf
  repeat (first
    | (refine And.intro ?_ ?_; (focus (first | omega | decide | exact EqOk.mk (by kernel_rfl) (by kernel_rfl) (by kernel_rfl) | exact Int.natCast_nonneg _ | ((repeat' refine And.intro ?_ ?_) <;> first | omega | exact Int.natCast_nonneg _ | (simp only [i64max, u8max, u16max, u32max, u64max]; omega) | (simp only [mulSz_eq, Cont.len, colsLen, Col.len, List.length_cons, List.length_nil, List.length_replicate, List.length_append]; first | done | omega) | (simp [mulSz, Cont.len, bne]; first | done | omega)))); conv => whnf)
    | (refine tst_in ?_ ?_; (focus (intro h_; exfalso; first | omega | ((try simp only [decide_eq_true_eq, decide_eq_false_iff_not] at h_); omega) | (simp [mulSz, Cont.len, bne] at h_; first | done | omega))); intro _; conv => whnf)
    | (refine tst_in ?_ ?_; rotate_left; (focus (intro h_; exfalso; first | omega | ((try simp only [decide_eq_true_eq, decide_eq_false_iff_not] at h_); omega) | (simp [mulSz, Cont.len, bne] at h_; first | done | omega))); intro _; conv => whnf)
    | (refine ⟨0, (show _ = _ by omega), ?_⟩; conv => whnf))
  refine nan_fo (fun y h2 => ?_)
  conv => whnf
  repeat (first
    | (refine And.intro ?_ ?_; (focus (first | omega | decide | exact EqOk.mk (by kernel_rfl) (by kernel_rfl) (by kernel_rfl) | exact Int.natCast_nonneg _ | ((repeat' refine And.intro ?_ ?_) <;> first | omega | exact Int.natCast_nonneg _ | (simp only [i64max, u8max, u16max, u32max, u64max]; omega) | (simp only [mulSz_eq, Cont.len, colsLen, Col.len, List.length_cons, List.length_nil, List.length_replicate, List.length_append]; first | done | omega) | (simp [mulSz, Cont.len, bne]; first | done | omega)))); conv => whnf)
    | (refine tst_in ?_ ?_; (focus (intro h_; exfalso; first | omega | ((try simp only [decide_eq_true_eq, decide_eq_false_iff_not] at h_); omega) | (simp [mulSz, Cont.len, bne] at h_; first | done | omega))); intro _; conv => whnf)
    | (refine tst_in ?_ ?_; rotate_left; (focus (intro h_; exfalso; first | omega | ((try simp only [decide_eq_true_eq, decide_eq_false_iff_not] at h_); omega) | (simp [mulSz, Cont.len, bne] at h_; first | done | omega))); intro _; conv => whnf)
    | (refine ⟨0, (show _ = _ by omega), ?_⟩; conv => whnf))
  refine nan_fo (fun u h3 => ?_)
  conv => whnf
  repeat (first
    | (refine And.intro ?_ ?_; (focus (first | omega | decide | exact EqOk.mk (by kernel_rfl) (by kernel_rfl) (by kernel_rfl) | exact Int.natCast_nonneg _ | ((repeat' refine And.intro ?_ ?_) <;> first | omega | exact Int.natCast_nonneg _ | (simp only [i64max, u8max, u16max, u32max, u64max]; omega) | (simp only [mulSz_eq, Cont.len, colsLen, Col.len, List.length_cons, List.length_nil, List.length_replicate, List.length_append]; first | done | omega) | (simp [mulSz, Cont.len, bne]; first | done | omega)))); conv => whnf)
    | (refine tst_in ?_ ?_; (focus (intro h_; exfalso; first | omega | ((try simp only [decide_eq_true_eq, decide_eq_false_iff_not] at h_); omega) | (simp [mulSz, Cont.len, bne] at h_; first | done | omega))); intro _; conv => whnf)
    | (refine tst_in ?_ ?_; rotate_left; (focus (intro h_; exfalso; first | omega | ((try simp only [decide_eq_true_eq, decide_eq_false_iff_not] at h_); omega) | (simp [mulSz, Cont.len, bne] at h_; first | done | omega))); intro _; conv => whnf)
    | (refine ⟨0, (show _ = _ by omega), ?_⟩; conv => whnf))
  refine nan_fo (fun v h4 => ?_)
  conv => whnf
  repeat (first
    | (refine And.intro ?_ ?_; (focus (first | omega | decide | exact EqOk.mk (by kernel_rfl) (by kernel_rfl) (by kernel_rfl) | exact Int.natCast_nonneg _ | ((repeat' refine And.intro ?_ ?_) <;> first | omega | exact Int.natCast_nonneg _ | (simp only [i64max, u8max, u16max, u32max, u64max]; omega) | (simp only [mulSz_eq, Cont.len, colsLen, Col.len, List.length_cons, List.length_nil, List.length_replicate, List.length_append]; first | done | omega) | (simp [mulSz, Cont.len, bne]; first | done | omega)))); conv => whnf)
    | (refine tst_in ?_ ?_; (focus (intro h_; exfalso; first | omega | ((try simp only [decide_eq_true_eq, decide_eq_false_iff_not] at h_); omega) | (simp [mulSz, Cont.len, bne] at h_; first | done | omega))); intro _; conv => whnf)
    | (refine tst_in ?_ ?_; rotate_left; (focus (intro h_; exfalso; first | omega | ((try simp only [decide_eq_true_eq, decide_eq_false_iff_not] at h_); omega) | (simp [mulSz, Cont.len, bne] at h_; first | done | omega))); intro _; conv => whnf)
    | (refine ⟨0, (show _ = _ by omega), ?_⟩; conv => whnf))
  refine nan_fo (fun r1 h5 => ?_)
  conv => whnf
  repeat (first
    | (refine And.intro ?_ ?_; (focus (first | omega | decide | exact EqOk.mk (by kernel_rfl) (by kernel_rfl) (by kernel_rfl) | exact Int.natCast_nonneg _ | ((repeat' refine And.intro ?_ ?_) <;> first | omega | exact Int.natCast_nonneg _ | (simp only [i64max, u8max, u16max, u32max, u64max]; omega) | (simp only [mulSz_eq, Cont.len, colsLen, Col.len, List.length_cons, List.length_nil, List.length_replicate, List.length_append]; first | done | omega) | (simp [mulSz, Cont.len, bne]; first | done | omega)))); conv => whnf)
    | (refine tst_in ?_ ?_; (focus (intro h_; exfalso; first | omega | ((try simp only [decide_eq_true_eq, decide_eq_false_iff_not] at h_); omega) | (simp [mulSz, Cont.len, bne] at h_; first | done | omega))); intro _; conv => whnf)
    | (refine tst_in ?_ ?_; rotate_left; (focus (intro h_; exfalso; first | omega | ((try simp only [decide_eq_true_eq, decide_eq_false_iff_not] at h_); omega) | (simp [mulSz, Cont.len, bne] at h_; first | done | omega))); intro _; conv => whnf)
    | (refine ⟨0, (show _ = _ by omega), ?_⟩; conv => whnf))
  refine nan_fo (fun r2 h6 => ?_)
  conv => whnf
  repeat (first
    | (refine And.intro ?_ ?_; (focus (first | omega | decide | exact EqOk.mk (by kernel_rfl) (by kernel_rfl) (by kernel_rfl) | exact Int.natCast_nonneg _ | ((repeat' refine And.intro ?_ ?_) <;> first | omega | exact Int.natCast_nonneg _ | (simp only [i64max, u8max, u16max, u32max, u64max]; omega) | (simp only [mulSz_eq, Cont.len, colsLen, Col.len, List.length_cons, List.length_nil, List.length_replicate, List.length_append]; first | done | omega) | (simp [mulSz, Cont.len, bne]; first | done | omega)))); conv => whnf)
    | (refine tst_in ?_ ?_; (focus (intro h_; exfalso; first | omega | ((try simp only [decide_eq_true_eq, decide_eq_false_iff_not] at h_); omega) | (simp [mulSz, Cont.len, bne] at h_; first | done | omega))); intro _; conv => whnf)
    | (refine tst_in ?_ ?_; rotate_left; (focus (intro h_; exfalso; first | omega | ((try simp only [decide_eq_true_eq, decide_eq_false_iff_not] at h_); omega) | (simp [mulSz, Cont.len, bne] at h_; first | done | omega))); intro _; conv => whnf)
    | (refine ⟨0, (show _ = _ by omega), ?_⟩; conv => whnf))
  refine .inl ⟨(r1, r2), [], ?_⟩
  conv => whnf
  repeat' (first | exact True.intro | rfl | refine And.intro ?_ ?_)
  all_goals (conv => whnf)
  repeat' (first | exact True.intro | rfl | refine And.intro ?_ ?_)
  all_goals (try omega)
  exact ⟨x, y, u, v, h1, h2, h3, h4, h5, h6⟩
set_option maxHeartbeats 0 in
set_option maxRecDepth 100000 in
theorem rMul_f (a b : Nat × Nat) : Fits Try.prog 8 ⟨[.cpx .f64 a.1 a.2, .cpx .f64 b.1 b.2], [], [mulOut a b]⟩ := by
  unfold mulOut
  obtain ⟨a1, a2⟩ := a
  obtain ⟨b1, b2⟩ := b
  refine fits_of_body (C := cfgp 0) (c := (Try.f8.body).getD .skip) (ts := [4]) tokL mixedL (fun _ => none) (fun _ => none)
    Try.func8 (by kernel_rfl) (by kernel_rfl) (by kernel_rfl) (by kernel_rfl) rfl ?_
  conv => whnf
  repeat (first
    | (refine And.intro ?_ ?_; (focus (first | omega | decide | exact EqOk.mk (by kernel_rfl) (by kernel_rfl) (by kernel_rfl) | exact Int.natCast_nonneg _ | ((repeat' refine And.intro ?_ ?_) <;> first | omega | exact Int.natCast_nonneg _ | (simp only [i64max, u8max, u16max, u32max, u64max]; omega) | (simp only [mulSz_eq, Cont.len, colsLen, Col.len, List.length_cons, List.length_nil, List.length_replicate, List.length_append]; first | done | omega) | (simp [mulSz, Cont.len, bne]; first | done | omega)))); conv => whnf)
    | (refine tst_in ?_ ?_; (focus (intro h_; exfalso; first | omega | ((try simp only [decide_eq_true_eq, decide_eq_false_iff_not] at h_); omega) | (simp [mulSz, Cont.len, bne] at h_; first | done | omega))); intro _; conv => whnf)
    | (refine tst_in ?_ ?_; rotate_left; (focus (intro h_; exfalso; first | omega | ((try simp only [decide_eq_true_eq, decide_eq_false_iff_not] at h_); omega) | (simp [mulSz, Cont.len, bne] at h_; first | done | omega))); intro _; conv => whnf)
    | (refine ⟨0, (show _ = _ by omega), ?_⟩; conv => whnf))
  refine nan_fo (fun x h1 => ?_)
  conv => whnf
  repeat (first
    | (refine And.intro ?_ ?_; (focus (first | omega | decide | exact EqOk.mk (by kernel_rfl) (by kernel_rfl) (by kernel_rfl) | exact Int.natCast_nonneg _ | ((repeat' refine And.intro ?_ ?_) <;> first | omega | exact Int.natCast_nonneg _ | (simp only [i64max, u8max, u16max, u32max, u64max]; omega) | (simp only [mulSz_eq, Cont.len, colsLen, Col.len, List.length_cons, List.length_nil, List.length_replicate, List.length_append]; first | done | omega) | (simp [mulSz, Cont.len, bne]; first | done | omega)))); conv => whnf)
    | (refine tst_in ?_ ?_; (focus (intro h_; exfalso; first | omega | ((try simp only [decide_eq_true_eq, decide_eq_false_iff_not] at h_); omega) | (simp [mulSz, Cont.len, bne] at h_; first | done | omega))); intro _; conv => whnf)
    | (refine tst_in ?_ ?_; rotate_left; (focus (intro h_; exfalso; first | omega | ((try simp only [decide_eq_true_eq, decide_eq_false_iff_not] at h_); omega) | (simp [mulSz, Cont.len, bne] at h_; first | done | omega))); intro _; conv => whnf)
    | (refine ⟨0, (show _ = _ by omega), ?_⟩; conv => whnf))
  refine nan_fo (fun y h2 => ?_)
  conv => whnf
  repeat (first
    | (refine And.intro ?_ ?_; (focus (first | omega | decide | exact EqOk.mk (by kernel_rfl) (by kernel_rfl) (by kernel_rfl) | exact Int.natCast_nonneg _ | ((repeat' refine And.intro ?_ ?_) <;> first | omega | exact Int.natCast_nonneg _ | (simp only [i64max, u8max, u16max, u32max, u64max]; omega) | (simp only [mulSz_eq, Cont.len, colsLen, Col.len, List.length_cons, List.length_nil, List.length_replicate, List.length_append]; first | done | omega) | (simp [mulSz, Cont.len, bne]; first | done | omega)))); conv => whnf)
    | (refine tst_in ?_ ?_; (focus (intro h_; exfalso; first | omega | ((try simp only [decide_eq_true_eq, decide_eq_false_iff_not] at h_); omega) | (simp [mulSz, Cont.len, bne] at h_; first | done | omega))); intro _; conv => whnf)
    | (refine tst_in ?_ ?_; rotate_left; (focus (intro h_; exfalso; first | omega | ((try simp only [decide_eq_true_eq, decide_eq_false_iff_not] at h_); omega) | (simp [mulSz, Cont.len, bne] at h_; first | done | omega))); intro _; conv => whnf)
    | (refine ⟨0, (show _ = _ by omega), ?_⟩; conv => whnf))
  refine nan_fo (fun u h3 => ?_)
  conv => whnf
  repeat (first
    | (refine And.intro ?_ ?_; (focus (first | omega | decide | exact EqOk.mk (by kernel_rfl) (by kernel_rfl) (by kernel_rfl) | exact Int.natCast_nonneg _ | ((repeat' refine And.intro ?_ ?_) <;> first | omega | exact Int.natCast_nonneg _ | (simp only [i64max, u8max, u16max, u32max, u64max]; omega) | (simp only [mulSz_eq, Cont.len, colsLen, Col.len, List.length_cons, List.length_nil, List.length_replicate, List.length_append]; first | done | omega) | (simp [mulSz, Cont.len, bne]; first | done | omega)))); conv => whnf)
    | (refine tst_in ?_ ?_; (focus (intro h_; exfalso; first | omega | ((try simp only [decide_eq_true_eq, decide_eq_false_iff_not] at h_); omega) | (simp [mulSz, Cont.len, bne] at h_; first | done | omega))); intro _; conv => whnf)
    | (refine tst_in ?_ ?_; rotate_left; (focus (intro h_; exfalso; first | omega | ((try simp only [decide_eq_true_eq, decide_eq_false_iff_not] at h_); omega) | (simp [mulSz, Cont.len, bne] at h_; first | done | omega))); intro _; conv => whnf)
    | (refine ⟨0, (show _ = _ by omega), ?_⟩; conv => whnf))
  refine nan_fo (fun v h4 => ?_)
  conv => whnf
  repeat (first
    | (refine And.intro ?_ ?_; (focus (first | omega | decide | exact EqOk.mk (by kernel_rfl) (by kernel_rfl) (by kernel_rfl) | exact Int.natCast_nonneg _ | ((repeat' refine And.intro ?_ ?_) <;> first | omega | exact Int.natCast_nonneg _ | (simp only [i64max, u8max, u16max, u32max, u64max]; omega) | (simp only [mulSz_eq, Cont.len, colsLen, Col.len, List.length_cons, List.length_nil, List.length_replicate, List.length_append]; first | done | omega) | (simp [mulSz, Cont.len, bne]; first | done | omega)))); conv => whnf)
    | (refine tst_in ?_ ?_; (focus (intro h_; exfalso; first | omega | ((try simp only [decide_eq_true_eq, decide_eq_false_iff_not] at h_); omega) | (simp [mulSz, Cont.len, bne] at h_; first | done | omega))); intro _; conv => whnf)
    | (refine tst_in ?_ ?_; rotate_left; (focus (intro h_; exfalso; first | omega | ((try simp only [decide_eq_true_eq, decide_eq_false_iff_not] at h_); omega) | (simp [mulSz, Cont.len, bne] at h_; first | done | omega))); intro _; conv => whnf)
    | (refine ⟨0, (show _ = _ by omega), ?_⟩; conv => whnf))
  refine nan_fo (fun r1 h5 => ?_)
  conv => whnf
  repeat (first
    | (refine And.intro ?_ ?_; (focus (first | omega | decide | exact EqOk.mk (by kernel_rfl) (by kernel_rfl) (by kernel_rfl) | exact Int.natCast_nonneg _ | ((repeat' refine And.intro ?_ ?_) <;> first | omega | exact Int.natCast_nonneg _ | (simp only [i64max, u8max, u16max, u32max, u64max]; omega) | (simp only [mulSz_eq, Cont.len, colsLen, Col.len, List.length_cons, List.length_nil, List.length_replicate, List.length_append]; first | done | omega) | (simp [mulSz, Cont.len, bne]; first | done | omega)))); conv => whnf)
    | (refine tst_in ?_ ?_; (focus (intro h_; exfalso; first | omega | ((try simp only [decide_eq_true_eq, decide_eq_false_iff_not] at h_); omega) | (simp [mulSz, Cont.len, bne] at h_; first | done | omega))); intro _; conv => whnf)
    | (refine tst_in ?_ ?_; rotate_left; (focus (intro h_; exfalso; first | omega | ((try simp only [decide_eq_true_eq, decide_eq_false_iff_not] at h_); omega) | (simp [mulSz, Cont.len, bne] at h_; first | done | omega))); intro _; conv => whnf)
    | (refine ⟨0, (show _ = _ by omega), ?_⟩; conv => whnf))
  refine nan_fo (fun r2 h6 => ?_)
  conv => whnf
  repeat (first
    | (refine And.intro ?_ ?_; (focus (first | omega | decide | exact EqOk.mk (by kernel_rfl) (by kernel_rfl) (by kernel_rfl) | exact Int.natCast_nonneg _ | ((repeat' refine And.intro ?_ ?_) <;> first | omega | exact Int.natCast_nonneg _ | (simp only [i64max, u8max, u16max, u32max, u64max]; omega) | (simp only [mulSz_eq, Cont.len, colsLen, Col.len, List.length_cons, List.length_nil, List.length_replicate, List.length_append]; first | done | omega) | (simp [mulSz, Cont.len, bne]; first | done | omega)))); conv => whnf)
    | (refine tst_in ?_ ?_; (focus (intro h_; exfalso; first | omega | ((try simp only [decide_eq_true_eq, decide_eq_false_iff_not] at h_); omega) | (simp [mulSz, Cont.len, bne] at h_; first | done | omega))); intro _; conv => whnf)
    | (refine tst_in ?_ ?_; rotate_left; (focus (intro h_; exfalso; first | omega | ((try simp only [decide_eq_true_eq, decide_eq_false_iff_not] at h_); omega) | (simp [mulSz, Cont.len, bne] at h_; first | done | omega))); intro _; conv => whnf)
    | (refine ⟨0, (show _ = _ by omega), ?_⟩; conv => whnf))
  refine .inl ⟨(r1, r2), [], ?_⟩
  conv => whnf
  repeat' (first | exact True.intro | rfl | refine And.intro ?_ ?_)
  all_goals (conv => whnf)
  repeat' (first | exact True.intro | rfl | refine And.intro ?_ ?_)
  all_goals (try omega)
  exact ⟨x, y, u, v, h1, h2, h3, h4, h5, h6⟩
set_option maxHeartbeats 0 in
set_option maxRecDepth 100000 in
theorem number_f (a b : Nat) : Fits Try.prog 5 ⟨[.agg [.flt .f64 a, .flt .f64 b]], [], [numOut [] (.cpx .f64 a b)]⟩ := by
  refine fits_of_body (C := cfgp 0) (c := (Try.f5.body).getD .skip) (ts := [2]) tokL mixedL (fun _ => none) (fun _ => none)
    Try.func5 (by kernel_rfl) (by kernel_rfl) (by kernel_rfl) (by kernel_rfl) rfl ?_
  conv => whnf
  repeat (first
    | (refine And.intro ?_ ?_; (focus (first | omega | decide | exact EqOk.mk (by kernel_rfl) (by kernel_rfl) (by kernel_rfl) | exact Int.natCast_nonneg _ | ((repeat' refine And.intro ?_ ?_) <;> first | omega | exact Int.natCast_nonneg _ | (simp only [i64max, u8max, u16max, u32max, u64max]; omega) | (simp only [mulSz_eq, Cont.len, colsLen, Col.len, List.length_cons, List.length_nil, List.length_replicate, List.length_append]; first | done | omega) | (simp [mulSz, Cont.len, bne]; first | done | omega)))); conv => whnf)
    | (refine tst_in ?_ ?_; (focus (intro h_; exfalso; first | omega | ((try simp only [decide_eq_true_eq, decide_eq_false_iff_not] at h_); omega) | (simp [mulSz, Cont.len, bne] at h_; first | done | omega))); intro _; conv => whnf)
    | (refine tst_in ?_ ?_; rotate_left; (focus (intro h_; exfalso; first | omega | ((try simp only [decide_eq_true_eq, decide_eq_false_iff_not] at h_); omega) | (simp [mulSz, Cont.len, bne] at h_; first | done | omega))); intro _; conv => whnf)
    | (refine ⟨0, (show _ = _ by omega), ?_⟩; conv => whnf))
  refine .inl ⟨(), [], ?_⟩
  conv => whnf
  repeat' (first | exact True.intro | rfl | refine And.intro ?_ ?_)
  all_goals (conv => whnf)
  repeat' (first | exact True.intro | rfl | refine And.intro ?_ ?_)
  all_goals (try omega)
end Go.Proofs.Ytfpebgcjmmhlpaa

set_option linter.unusedVariables false
set_option linter.unusedSimpArgs false
namespace Go.Proofs.Ytfpebgcjmmhlpaa
open Go Go.Fw
/-! A long region in the text's order: the check by masks. -/
theorem one_of_nodup {k : Nat} : ∀ {l : List Nat}, l.Nodup → (∀ x, x ∈ l ↔ x = k) → l = [k]
  | [], _, h => absurd ((h k).2 rfl) (by simp)
  | a :: t, hn, h => by
    have ha : a = k := (h a).1 (by simp)
    subst ha
    have ht : t = [] := by
      cases t with
      | nil => rfl
      | cons b r =>
        have hb : b = a := (h b).1 (by simp)
        subst hb
        simp at hn
    rw [ht]
def ancM (A : List Nat) : List Edge → Nat
  | [] => 0
  | e :: r => match Region.binds .any e with
    | true => Nat.lor (Nat.lor (Nat.shiftLeft 1 e.on) (A.getD e.on 0)) (ancM A r)
    | false => ancM A r
def buildM : List Oper → List Nat → List Nat
  | [], A => A
  | o :: r, A => buildM r (A ++ [ancM A o.after.toList])
theorem bit_one {k n : Nat} (h : Nat.testBit (Nat.shiftLeft 1 n) k = true) : k = n := by
  have h' : Nat.testBit (1 <<< n) k = true := h
  rw [Nat.testBit_shiftLeft] at h'
  simp at h'
  obtain ⟨h1, h2⟩ := h'
  have := Nat.testBit_one_eq_true_iff_self_eq_zero.1 h2
  omega
theorem ancM_sound {ops : Array Oper} {A : List Nat} {f : Nat} (hA : ∀ i k, Nat.testBit (A.getD i 0) k = true → waitsT ops f i k = true) : ∀ {l : List Edge} {k : Nat}, Nat.testBit (ancM A l) k = true →
    l.any (fun e => Region.binds .any e && (e.on == k || waitsT ops f e.on k)) = true
  | [], k, h => by simp [ancM] at h
  | e :: r, k, h => by
    unfold ancM at h
    rw [List.any_cons]
    cases hb : Region.binds .any e
    · rw [hb] at h
      rw [ancM_sound hA h]; simp
    · rw [hb] at h
      have h' : Nat.testBit (((1 <<< e.on) ||| A.getD e.on 0) ||| ancM A r) k = true := h
      rw [Nat.testBit_or, Nat.testBit_or, Bool.or_eq_true, Bool.or_eq_true] at h'
      rcases h' with (h1 | h1) | h1
      · have := bit_one h1
        rw [this]; simp
      · rw [hA _ _ h1]; simp
      · rw [ancM_sound hA h1]; simp
theorem waitsT_mono {ops : Array Oper} : ∀ {f j k : Nat}, waitsT ops f j k = true → waitsT ops (f + 1) j k = true
  | 0, j, k, h => by simp [waitsT] at h
  | f + 1, j, k, h => by
    unfold waitsT at h ⊢
    cases ho : ops[j]? with
    | none => rw [ho] at h; cases h
    | some o =>
      rw [ho] at h
      simp only [Array.any_eq_true, Bool.and_eq_true, Bool.or_eq_true] at h ⊢
      obtain ⟨i, hi, hb, hw⟩ := h
      exact ⟨i, hi, hb, hw.imp id waitsT_mono⟩
theorem buildM_sound {ops : Array Oper} : ∀ (r pre : List Oper) (A : List Nat), ops.toList = pre ++ r → A.length = pre.length → (∀ i k, Nat.testBit (A.getD i 0) k = true → waitsT ops pre.length i k = true) →
    ∀ i k, Nat.testBit ((buildM r A).getD i 0) k = true → waitsT ops ops.size i k = true
  | [], pre, A, e, hl, hA, i, k, h => by
    have hs : ops.size = pre.length := by rw [← Array.length_toList, e]; simp
    rw [hs]; exact hA i k h
  | o :: r, pre, A, e, hl, hA, i, k, h => by
    refine buildM_sound r (pre ++ [o]) (A ++ [ancM A o.after.toList]) (by rw [e]; simp) (by simp [hl]) ?_ i k h
    intro i k hk
    rw [List.length_append]
    show waitsT ops (pre.length + 1) i k = true
    by_cases h1 : i < A.length
    · rw [List.getD_eq_getElem?_getD, List.getElem?_append_left h1, ← List.getD_eq_getElem?_getD] at hk
      exact waitsT_mono (hA i k hk)
    · by_cases h2 : i = A.length
      · subst h2
        rw [List.getD_eq_getElem?_getD, List.getElem?_append_right (Nat.le_refl _)] at hk
        simp at hk
        have := ancM_sound hA hk
        unfold waitsT
        have ho : ops[A.length]? = some o := by
          rw [← Array.getElem?_toList, e, hl, List.getElem?_append_right (Nat.le_refl _)]; simp
        rw [ho]
        show o.after.any _ = true
        rw [← Array.any_toList]
        exact this
      · rw [List.getD_eq_getElem?_getD, List.getElem?_eq_none (by simp; omega)] at hk
        simp at hk

structure Stg (n k : Nat) (L : Array Bool) : Prop where
  size : L.size = n
  val : ∀ i, i < n → L.getD i true = decide (i < k)
theorem stg_f {n k : Nat} {L : Array Bool} (h : Stg n k L) (hk : k ≤ n) (i : Nat) : L.getD i false = decide (i < k) := by
  by_cases hi : i < n
  · rw [← h.val i hi]
    simp [Array.getD, h.size, hi]
  · rw [decide_eq_false (by omega)]
    simp [Array.getD, h.size, hi]
theorem stg_next {n k : Nat} {L : Array Bool} (h : Stg n k L) (hk : k < n) : Stg n (k + 1) (L.setIfInBounds k true) := by
  refine ⟨by rw [Array.size_setIfInBounds]; exact h.size, fun i hi => ?_⟩
  have hs := h.size
  have hv := h.val i hi
  by_cases e : i = k
  · subst e
    rw [decide_eq_true (by omega)]
    simp [Array.getD, hs, hi]
  · have e2 : (L.setIfInBounds k true).getD i true = L.getD i true := by
      simp only [Array.getD, Array.size_setIfInBounds, hs, hi, dite_true]
      show (L.setIfInBounds k true)[i]'(by rw [Array.size_setIfInBounds]; omega) = L[i]'(by omega)
      rw [Array.getElem_setIfInBounds, if_neg (fun hh => e hh.symm)]
    rw [e2, hv]
    by_cases hk2 : i < k
    · rw [decide_eq_true hk2, decide_eq_true (by omega)]
    · rw [decide_eq_false hk2, decide_eq_false (by omega)]
theorem stg_zero (n : Nat) : Stg n 0 (Array.replicate n false) := ⟨by simp, fun i hi => by simp [Array.getD, hi]⟩
theorem mem_ready {ops : Array Oper} {L : Array Bool} {i : Nat} : i ∈ Region.ready .any ops L ↔ i < ops.size ∧ L.getD i true = false ∧ ∃ o, ops[i]? = some o ∧ ∀ e ∈ o.after.toList, Region.binds .any e = true → L.getD e.on false = true := by
  unfold Region.ready
  rw [List.mem_filter, List.mem_range]
  constructor
  · rintro ⟨h1, h2⟩
    rw [Bool.and_eq_true] at h2
    refine ⟨h1, by simpa using h2.1, ?_⟩
    cases ho : ops[i]? with
    | none => rw [ho] at h2; simp at h2
    | some o =>
      rw [ho] at h2
      refine ⟨o, rfl, fun e he hb => ?_⟩
      have h3 := h2.2
      simp only [Option.map_some, Option.getD_some] at h3
      rw [← Array.all_toList, List.all_eq_true] at h3
      have := h3 e he
      rw [hb] at this
      simpa using this
  · rintro ⟨h1, h2, o, ho, h3⟩
    refine ⟨h1, ?_⟩
    rw [h2, ho]
    simp only [Bool.not_false, Bool.true_and, Option.map_some, Option.getD_some]
    rw [← Array.all_toList, List.all_eq_true]
    intro e he
    cases hb : Region.binds .any e
    · rfl
    · rw [h3 e he hb]; rfl
def backB (k : Nat) (o : Oper) : Bool := o.after.toList.all fun e => !Region.binds .any e || Nat.blt e.on k
def waitB (k : Nat) (o : Oper) : Bool := o.after.toList.any fun e => Region.binds .any e && Nat.ble k e.on
def linkB (ops : Array Oper) (k : Nat) (o oj : Oper) : Bool := (oj.after.any fun e => Region.binds .any e && e.on == k) || Oper.apart ops o oj
def plainO (q : Nat → Bool) (o : Oper) : Bool := !isEff q o && !isQ q o
def lateB (q : Nat → Bool) (k : Nat) : List Oper → List Nat → Bool
  | [], _ => true
  | oj :: r, w :: W => (plainO q oj || Nat.testBit w k) && lateB q k r W
  | oj :: r, [] => plainO q oj && lateB q k r []
def chkL (q : Nat → Bool) (ops : Array Oper) : List Oper → List Nat → Nat → Bool
  | [], _, _ => true
  | o :: r, W, k => backB k o && (match plainO q o with
      | true => r.all (linkB ops k o) && (blindB o || lateB q k r (W.drop 1))
      | false => r.all (waitB k)) && chkL q ops r (W.drop 1) (k + 1)
theorem nth_suf {ops : Array Oper} {pre r : List Oper} (e : ops.toList = pre ++ r) (i : Nat) : ops[pre.length + i]? = r[i]? := by
  rw [← Array.getElem?_toList, e, List.getElem?_append_right (by omega)]; congr 1; omega
theorem lateB_sound {q : Nat → Bool} {k : Nat} : ∀ {r : List Oper} {W : List Nat}, lateB q k r W = true → ∀ i o, r[i]? = some o → plainO q o = true ∨ Nat.testBit (W.getD i 0) k = true
  | [], W, _, i, o, h => by simp at h
  | oj :: r, w :: W, hl, i, o, h => by
    unfold lateB at hl
    rw [Bool.and_eq_true, Bool.or_eq_true] at hl
    cases i with
    | zero => simp at h; subst h; exact hl.1.imp id (by simp)
    | succ i =>
      have := lateB_sound hl.2 i o (by simpa using h)
      simpa using this
  | oj :: r, [], hl, i, o, h => by
    unfold lateB at hl
    rw [Bool.and_eq_true] at hl
    cases i with
    | zero => simp at h; subst h; exact .inl hl.1
    | succ i =>
      have := lateB_sound hl.2 i o (by simpa using h)
      simpa using this
theorem ready_mem {ops : Array Oper} {pre r : List Oper} {o : Oper} {L : Array Bool} (e : ops.toList = pre ++ o :: r) (hs : Stg ops.size pre.length L) (hb : backB pre.length o = true) : pre.length ∈ Region.ready .any ops L := by
  have hn : ops.size = pre.length + (r.length + 1) := by rw [← Array.length_toList, e]; simp
  rw [mem_ready]
  refine ⟨by omega, by rw [hs.val _ (by omega)]; simp, o, by have := nth_suf e 0; simpa using this, fun x hx hbx => ?_⟩
  unfold backB at hb
  rw [List.all_eq_true] at hb
  have h1 := hb x hx
  rw [hbx] at h1
  have h2 : x.on < pre.length := by simpa [Nat.blt_eq] using h1
  rw [stg_f hs (by omega)]; simpa using h2
theorem ready_one {ops : Array Oper} {pre r : List Oper} {o : Oper} {L : Array Bool} (e : ops.toList = pre ++ o :: r) (hs : Stg ops.size pre.length L) (hb : backB pre.length o = true) (hw : r.all (waitB pre.length) = true) : Region.ready .any ops L = [pre.length] := by
  have hn : ops.size = pre.length + (r.length + 1) := by rw [← Array.length_toList, e]; simp
  refine one_of_nodup (by unfold Region.ready; exact List.nodup_range.filter _) fun x => ⟨fun hx => ?_, fun hx => by rw [hx]; exact ready_mem e hs hb⟩
  obtain ⟨h1, h2, ox, hox, h3⟩ := mem_ready.1 hx
  rw [hs.val x h1, decide_eq_false_iff_not] at h2
  apply Decidable.byContradiction
  intro hne
  obtain ⟨i, rfl⟩ : ∃ i, x = pre.length + (i + 1) := ⟨x - pre.length - 1, by omega⟩
  rw [nth_suf e] at hox
  have hox : r[i]? = some ox := by simpa using hox
  rw [List.all_eq_true] at hw
  have hwx := hw ox (List.mem_of_getElem? hox)
  unfold waitB at hwx
  rw [List.any_eq_true] at hwx
  obtain ⟨ed, hed, hbd⟩ := hwx
  rw [Bool.and_eq_true] at hbd
  have h4 := h3 ed hed hbd.1
  rw [stg_f hs (by omega)] at h4
  have h5 : ed.on < pre.length := by simpa using h4
  have h6 : pre.length ≤ ed.on := Nat.le_of_ble_eq_true hbd.2
  omega
theorem free_ok {ops : Array Oper} {pre r : List Oper} {o : Oper} {L : Array Bool} (e : ops.toList = pre ++ o :: r) (hs : Stg ops.size pre.length L) (hl : r.all (linkB ops pre.length o) = true) : Region.free .any ops L pre.length = true := by
  unfold Region.free
  have ho : ops[pre.length]? = some o := by have := nth_suf e 0; simpa using this
  rw [ho]
  show (List.range ops.size).all _ = true
  rw [List.all_eq_true]
  intro j hj
  rw [List.mem_range] at hj
  by_cases h1 : j = pre.length
  · rw [h1]; simp
  · by_cases h2 : j < pre.length
    · rw [hs.val j hj, decide_eq_true h2]; simp
    · obtain ⟨i, rfl⟩ : ∃ i, j = pre.length + (i + 1) := ⟨j - pre.length - 1, by omega⟩
      rw [nth_suf e]
      cases hoj : (o :: r)[i + 1]? with
      | none => simp
      | some oj =>
        have hoj' : r[i]? = some oj := by simpa using hoj
        rw [List.all_eq_true] at hl
        have := hl oj (List.mem_of_getElem? hoj')
        unfold linkB at this
        show (_ || _ || ((oj.after.any fun x => Region.binds .any x && x.on == pre.length) || Oper.apart ops o oj)) = true
        rw [this]; simp
theorem chk_sound {q : Nat → Bool} {ops : Array Oper} {A : List Nat} (hA : ∀ i k, Nat.testBit (A.getD i 0) k = true → waitsT ops ops.size i k = true) : ∀ (r pre : List Oper) (L : Array Bool), ops.toList = pre ++ r → Stg ops.size pre.length L →
    chkL q ops r (A.drop pre.length) pre.length = true → planB q ops (opsThen (List.range' pre.length r.length) .done) false r.length L = true
  | [], pre, L, e, hs, _ => by
    have hn : ops.size = pre.length := by rw [← Array.length_toList, e]; simp
    show (!false && (Region.ready .any ops L).isEmpty) = true
    have : Region.ready .any ops L = [] := by
      rw [List.eq_nil_iff_forall_not_mem]
      intro x hx
      obtain ⟨h1, h2, _⟩ := mem_ready.1 hx
      rw [hs.val x h1, decide_eq_true (by omega)] at h2
      cases h2
    rw [this]; rfl
  | o :: r, pre, L, e, hs, h => by
    have hn : ops.size = pre.length + (r.length + 1) := by rw [← Array.length_toList, e]; simp
    unfold chkL at h
    rw [Bool.and_eq_true, Bool.and_eq_true] at h
    obtain ⟨⟨hb, hp⟩, hr⟩ := h
    rw [List.drop_drop] at hr
    have ho : ops[pre.length]? = some o := by have := nth_suf e 0; simpa using this
    have ih := chk_sound hA r (pre ++ [o]) (L.setIfInBounds pre.length true) (by rw [e]; simp) (by rw [List.length_append]; exact stg_next hs (by omega)) (by rw [List.length_append]; exact hr)
    rw [List.length_append] at ih
    show (!false && takeB q ops L pre.length && planB q ops (opsThen (List.range' (pre.length + 1) r.length) .done) false r.length (L.setIfInBounds pre.length true)) = true
    have ih' : planB q ops (opsThen (List.range' (pre.length + 1) r.length) .done) false r.length (L.setIfInBounds pre.length true) = true := ih
    rw [ih']
    have ht : takeB q ops L pre.length = true := by
      unfold takeB
      rw [ho]
      show (_ || _) = true
      cases hpl : plainO q o
      · rw [hpl] at hp
        rw [ready_one e hs hb hp]; simp
      · rw [hpl] at hp
        have hp : (r.all (linkB ops pre.length o) && (blindB o || lateB q pre.length r ((A.drop pre.length).drop 1))) = true := hp
        rw [Bool.and_eq_true] at hp
        have c1 : (Region.ready .any ops L).contains pre.length = true := by rw [List.contains_iff_mem]; exact ready_mem e hs hb
        have c2 := free_ok e hs hp.1
        have c3 : plainAt q ops pre.length = true := by unfold plainAt; rw [ho]; exact hpl
        have c4 : (blindB o || (List.range ops.size).all fun j => L.getD j true || plainAt q ops j || waitsT ops ops.size j pre.length) = true := by
          rw [Bool.or_eq_true]
          rcases Bool.or_eq_true _ _ ▸ hp.2 with h1 | h1
          · exact .inl h1
          · right
            rw [List.all_eq_true]
            intro j hj
            rw [List.mem_range] at hj
            by_cases h2 : j < pre.length
            · rw [hs.val j hj, decide_eq_true h2]; simp
            · by_cases h3 : j = pre.length
              · rw [h3, c3]; simp
              · obtain ⟨i, rfl⟩ : ∃ i, j = pre.length + (i + 1) := ⟨j - pre.length - 1, by omega⟩
                have hs2 := nth_suf e (i + 1)
                cases hoj : r[i]? with
                | none => rw [List.getElem?_eq_none_iff] at hoj; omega
                | some oj =>
                  have hoj2 : ops[pre.length + (i + 1)]? = some oj := by rw [hs2]; simpa using hoj
                  rcases lateB_sound h1 i oj hoj with h4 | h4
                  · have : plainAt q ops (pre.length + (i + 1)) = true := by unfold plainAt; rw [hoj2]; exact h4
                    rw [this]; simp
                  · rw [List.drop_drop] at h4
                    have h5 : (List.drop (pre.length + 1) A).getD i 0 = A.getD (pre.length + (i + 1)) 0 := by
                      rw [List.getD_eq_getElem?_getD, List.getElem?_drop, ← List.getD_eq_getElem?_getD]; congr 1; omega
                    rw [h5] at h4
                    rw [hA _ _ h4]; simp
        rw [c1, c2, c3, c4]; simp
    rw [ht]; rfl
def lineB (q : Nat → Bool) (ops : Array Oper) : Bool := chkL q ops ops.toList (buildM ops.toList []) 0
theorem line_sound {q : Nat → Bool} {ops : Array Oper} (h : lineB q ops = true) : planB q ops (opsThen (List.range' 0 ops.size) .done) false ops.size (Array.replicate ops.size false) = true := by
  have hA := buildM_sound (ops := ops) ops.toList [] [] rfl rfl (fun i k hk => by simp at hk)
  have := chk_sound (q := q) hA ops.toList [] (Array.replicate ops.size false) rfl (stg_zero _) h
  simpa using this
def codeBL (C : Cfg) : Code → Bool
  | .region id ops draw => (match C.plan id with
    | none => regionB C.q ops draw
    | some (.lin l .done) => draw && Region.noSelect ops && planIn ops.toList (.lin l .done) && (l == List.range' 0 ops.size) && lineB C.q ops
    | some p => planOk C.q ops draw p)
  | .seq a b => codeBL C a && codeBL C b
  | .cond _ x y => codeBL C x && codeBL C y
  | .block _ b => codeBL C b
  | .loop b => codeBL C b
  | .scope b => codeBL C b
  | _ => true
theorem codeBL_ok {C : Cfg} : ∀ {c : Code}, codeBL C c = true → codeB C c = true
  | .region id ops draw, h => by
    unfold codeBL at h
    unfold codeB
    split at h
    · rename_i hp; rw [hp]; exact h
    · rename_i l hp
      rw [hp]
      simp only [Bool.and_eq_true, beq_iff_eq] at h
      obtain ⟨⟨⟨⟨h1, h2⟩, h3⟩, h4⟩, h5⟩ := h
      have h6 := line_sound h5
      rw [← h4] at h6
      show (draw && Region.noSelect ops && planIn ops.toList (.lin l .done) && planB C.q ops (opsThen l .done) false ops.size (Array.replicate ops.size false)) = true
      rw [h1, h2, h3, h6]; rfl
    · rename_i p hn hp
      rw [hp]; exact h
  | .seq a b, h => by
    unfold codeBL at h; unfold codeB
    rw [Bool.and_eq_true] at h ⊢
    exact ⟨codeBL_ok h.1, codeBL_ok h.2⟩
  | .cond _ x y, h => by
    unfold codeBL at h; unfold codeB
    rw [Bool.and_eq_true] at h ⊢
    exact ⟨codeBL_ok h.1, codeBL_ok h.2⟩
  | .block _ b, h => codeBL_ok (c := b) h
  | .loop b, h => codeBL_ok (c := b) h
  | .scope b, h => codeBL_ok (c := b) h
  | .skip .., _ => rfl
  | .rangeFunc .., _ => rfl
  | .exit .., _ => rfl
  | .label .., _ => rfl
  | .goto .., _ => rfl
  | .ret .., _ => rfl
  | .refuse .., _ => rfl
end Go.Proofs.Ytfpebgcjmmhlpaa

set_option linter.unusedVariables false
set_option linter.unusedSimpArgs false
namespace Go.Proofs.Ytfpebgcjmmhlpaa
open Go Go.Fw
def AdR (a b r : Nat × Nat) : Prop := Fo .add a.1 b.1 r.1 ∧ Fo .add a.2 b.2 r.2
theorem AdR.al {a b r a' b' r' : Nat × Nat} (h : AdR a b r) (h' : AdR a' b' r') (ha : Al2 a a') (hb : Al2 b b') : Al2 r r' :=
  ⟨h.1.al h'.1 ha.1 hb.1 (by simp), h.2.al h'.2 ha.2 hb.2 (by simp)⟩
theorem Al2.refl (a : Nat × Nat) : Al2 a a := ⟨.refl _, .refl _⟩
def SumR (F : Nat → Nat × Nat) : Nat → Nat × Nat → Prop
  | 0, r => r = (0, 0)
  | n + 1, r => ∃ s, SumR F n s ∧ AdR s (F n) r
theorem SumR.al {F G : Nat → Nat × Nat} : ∀ {n : Nat} {r r' : Nat × Nat}, (∀ i, i < n → F i = G i) → SumR F n r → SumR G n r' → Al2 r r'
  | 0, r, r', _, h, h' => by cases h; cases h'; exact .refl _
  | n + 1, r, r', hF, ⟨s, h1, h2⟩, ⟨s', g1, g2⟩ => h2.al g2 (SumR.al (fun i hi => hF i (by omega)) h1 g1) (by rw [hF n (by omega)]; exact .refl _)
def FlR (H R : Nat → Nat × Nat) (n : Nat) : Nat → Nat × Nat → Prop
  | 0, r => r = (0, 0)
  | k + 1, r => ∃ s m, FlR H R n k s ∧ MuR (H k) (R (n - k)) m ∧ AdR s m r
theorem FlR.al {H R H' R' : Nat → Nat × Nat} {n : Nat} : ∀ {k : Nat} {r r' : Nat × Nat}, k ≤ n + 1 → (∀ i, i < k → H i = H' i) → (∀ i, i ≤ n → R i = R' i) → FlR H R n k r → FlR H' R' n k r' → Al2 r r'
  | 0, r, r', _, _, _, h, h' => by cases h; cases h'; exact .refl _
  | k + 1, r, r', hk, hH, hR, ⟨s, m, h1, h2, h3⟩, ⟨s', m', g1, g2, g3⟩ =>
    h3.al g3 (FlR.al (by omega) (fun i hi => hH i (by omega)) hR h1 g1) (h2.al g2 (by rw [hH k (by omega)]; exact .refl _) (by rw [hR (n - k) (by omega)]; exact .refl _))
abbrev YT := List (Nat × Nat)
def cxS (o : Bool) (A : List (Nat × Nat)) : Seg := .seg o (.cpxs .f64 A)
def aF (A : YT) (i : Nat) : Nat × Nat := A.getD i (0, 0)
def cpxOut (P : Nat × Nat → Prop) (D : List Seg) : FOut := ⟨Nat × Nat, P, fun r => .cpx .f64 r.1 r.2, fun _ => D⟩
set_option maxHeartbeats 0 in
set_option maxRecDepth 100000 in
theorem plus_f (a b : Nat × Nat) : Fits Try.prog 33 ⟨[.cpx .f64 a.1 a.2, .cpx .f64 b.1 b.2], [], [cpxOut (AdR a b) []]⟩ := by
  unfold cpxOut
  obtain ⟨a1, a2⟩ := a
  obtain ⟨b1, b2⟩ := b
  refine fits_of_body (C := cfgp 0) (c := (Try.f33.body).getD .skip) (ts := [4]) tokL mixedL (fun _ => none) (fun _ => none)
    Try.func33 (by kernel_rfl) (by kernel_rfl) (by kernel_rfl) (by kernel_rfl) rfl ?_
  conv => whnf
  repeat (first
    | (refine And.intro ?_ ?_; (focus (first | omega | decide | exact EqOk.mk (by kernel_rfl) (by kernel_rfl) (by kernel_rfl) | exact Int.natCast_nonneg _ | ((repeat' refine And.intro ?_ ?_) <;> first | omega | exact Int.natCast_nonneg _ | (simp only [i64max, u8max, u16max, u32max, u64max]; omega) | (simp only [mulSz_eq, Cont.len, colsLen, Col.len, List.length_cons, List.length_nil, List.length_replicate, List.length_append]; first | done | omega) | (simp [mulSz, Cont.len, bne]; first | done | omega)))); conv => whnf)
    | (refine tst_in ?_ ?_; (focus (intro h_; exfalso; first | omega | ((try simp only [decide_eq_true_eq, decide_eq_false_iff_not] at h_); omega) | (simp [mulSz, Cont.len, bne] at h_; first | done | omega))); intro _; conv => whnf)
    | (refine tst_in ?_ ?_; rotate_left; (focus (intro h_; exfalso; first | omega | ((try simp only [decide_eq_true_eq, decide_eq_false_iff_not] at h_); omega) | (simp [mulSz, Cont.len, bne] at h_; first | done | omega))); intro _; conv => whnf)
    | (refine ⟨0, (show _ = _ by omega), ?_⟩; conv => whnf))
  refine nan_fo (fun x h1 => ?_)
  conv => whnf
  repeat (first
    | (refine And.intro ?_ ?_; (focus (first | omega | decide | exact EqOk.mk (by kernel_rfl) (by kernel_rfl) (by kernel_rfl) | exact Int.natCast_nonneg _ | ((repeat' refine And.intro ?_ ?_) <;> first | omega | exact Int.natCast_nonneg _ | (simp only [i64max, u8max, u16max, u32max, u64max]; omega) | (simp only [mulSz_eq, Cont.len, colsLen, Col.len, List.length_cons, List.length_nil, List.length_replicate, List.length_append]; first | done | omega) | (simp [mulSz, Cont.len, bne]; first | done | omega)))); conv => whnf)
    | (refine tst_in ?_ ?_; (focus (intro h_; exfalso; first | omega | ((try simp only [decide_eq_true_eq, decide_eq_false_iff_not] at h_); omega) | (simp [mulSz, Cont.len, bne] at h_; first | done | omega))); intro _; conv => whnf)
    | (refine tst_in ?_ ?_; rotate_left; (focus (intro h_; exfalso; first | omega | ((try simp only [decide_eq_true_eq, decide_eq_false_iff_not] at h_); omega) | (simp [mulSz, Cont.len, bne] at h_; first | done | omega))); intro _; conv => whnf)
    | (refine ⟨0, (show _ = _ by omega), ?_⟩; conv => whnf))
  refine nan_fo (fun y h2 => ?_)
  conv => whnf
  repeat (first
    | (refine And.intro ?_ ?_; (focus (first | omega | decide | exact EqOk.mk (by kernel_rfl) (by kernel_rfl) (by kernel_rfl) | exact Int.natCast_nonneg _ | ((repeat' refine And.intro ?_ ?_) <;> first | omega | exact Int.natCast_nonneg _ | (simp only [i64max, u8max, u16max, u32max, u64max]; omega) | (simp only [mulSz_eq, Cont.len, colsLen, Col.len, List.length_cons, List.length_nil, List.length_replicate, List.length_append]; first | done | omega) | (simp [mulSz, Cont.len, bne]; first | done | omega)))); conv => whnf)
    | (refine tst_in ?_ ?_; (focus (intro h_; exfalso; first | omega | ((try simp only [decide_eq_true_eq, decide_eq_false_iff_not] at h_); omega) | (simp [mulSz, Cont.len, bne] at h_; first | done | omega))); intro _; conv => whnf)
    | (refine tst_in ?_ ?_; rotate_left; (focus (intro h_; exfalso; first | omega | ((try simp only [decide_eq_true_eq, decide_eq_false_iff_not] at h_); omega) | (simp [mulSz, Cont.len, bne] at h_; first | done | omega))); intro _; conv => whnf)
    | (refine ⟨0, (show _ = _ by omega), ?_⟩; conv => whnf))
  refine .inl ⟨(x, y), [], ?_⟩
  conv => whnf
  repeat' (first | exact True.intro | rfl | refine And.intro ?_ ?_)
  all_goals (conv => whnf)
  repeat' (first | exact True.intro | rfl | refine And.intro ?_ ?_)
  all_goals (try omega)
  · exact h1
  · exact h2
set_option maxHeartbeats 0 in
set_option maxRecDepth 100000 in
theorem radd_f (a b : Nat × Nat) : Fits Try.prog 34 ⟨[.cpx .f64 a.1 a.2, .cpx .f64 b.1 b.2], [], [cpxOut (AdR a b) []]⟩ := by
  unfold cpxOut
  obtain ⟨a1, a2⟩ := a
  obtain ⟨b1, b2⟩ := b
  refine fits_of_body (C := cfgp 0) (c := (Try.f34.body).getD .skip) (ts := [4]) tokL mixedL (fun _ => none) (fun _ => none)
    Try.func34 (by kernel_rfl) (by kernel_rfl) (by kernel_rfl) (by kernel_rfl) rfl ?_
  conv => whnf
  repeat (first
    | (refine And.intro ?_ ?_; (focus (first | omega | decide | exact EqOk.mk (by kernel_rfl) (by kernel_rfl) (by kernel_rfl) | exact Int.natCast_nonneg _ | ((repeat' refine And.intro ?_ ?_) <;> first | omega | exact Int.natCast_nonneg _ | (simp only [i64max, u8max, u16max, u32max, u64max]; omega) | (simp only [mulSz_eq, Cont.len, colsLen, Col.len, List.length_cons, List.length_nil, List.length_replicate, List.length_append]; first | done | omega) | (simp [mulSz, Cont.len, bne]; first | done | omega)))); conv => whnf)
    | (refine tst_in ?_ ?_; (focus (intro h_; exfalso; first | omega | ((try simp only [decide_eq_true_eq, decide_eq_false_iff_not] at h_); omega) | (simp [mulSz, Cont.len, bne] at h_; first | done | omega))); intro _; conv => whnf)
    | (refine tst_in ?_ ?_; rotate_left; (focus (intro h_; exfalso; first | omega | ((try simp only [decide_eq_true_eq, decide_eq_false_iff_not] at h_); omega) | (simp [mulSz, Cont.len, bne] at h_; first | done | omega))); intro _; conv => whnf)
    | (refine ⟨0, (show _ = _ by omega), ?_⟩; conv => whnf))
  refine nan_fo (fun x h1 => ?_)
  conv => whnf
  repeat (first
    | (refine And.intro ?_ ?_; (focus (first | omega | decide | exact EqOk.mk (by kernel_rfl) (by kernel_rfl) (by kernel_rfl) | exact Int.natCast_nonneg _ | ((repeat' refine And.intro ?_ ?_) <;> first | omega | exact Int.natCast_nonneg _ | (simp only [i64max, u8max, u16max, u32max, u64max]; omega) | (simp only [mulSz_eq, Cont.len, colsLen, Col.len, List.length_cons, List.length_nil, List.length_replicate, List.length_append]; first | done | omega) | (simp [mulSz, Cont.len, bne]; first | done | omega)))); conv => whnf)
    | (refine tst_in ?_ ?_; (focus (intro h_; exfalso; first | omega | ((try simp only [decide_eq_true_eq, decide_eq_false_iff_not] at h_); omega) | (simp [mulSz, Cont.len, bne] at h_; first | done | omega))); intro _; conv => whnf)
    | (refine tst_in ?_ ?_; rotate_left; (focus (intro h_; exfalso; first | omega | ((try simp only [decide_eq_true_eq, decide_eq_false_iff_not] at h_); omega) | (simp [mulSz, Cont.len, bne] at h_; first | done | omega))); intro _; conv => whnf)
    | (refine ⟨0, (show _ = _ by omega), ?_⟩; conv => whnf))
  refine nan_fo (fun y h2 => ?_)
  conv => whnf
  repeat (first
    | (refine And.intro ?_ ?_; (focus (first | omega | decide | exact EqOk.mk (by kernel_rfl) (by kernel_rfl) (by kernel_rfl) | exact Int.natCast_nonneg _ | ((repeat' refine And.intro ?_ ?_) <;> first | omega | exact Int.natCast_nonneg _ | (simp only [i64max, u8max, u16max, u32max, u64max]; omega) | (simp only [mulSz_eq, Cont.len, colsLen, Col.len, List.length_cons, List.length_nil, List.length_replicate, List.length_append]; first | done | omega) | (simp [mulSz, Cont.len, bne]; first | done | omega)))); conv => whnf)
    | (refine tst_in ?_ ?_; (focus (intro h_; exfalso; first | omega | ((try simp only [decide_eq_true_eq, decide_eq_false_iff_not] at h_); omega) | (simp [mulSz, Cont.len, bne] at h_; first | done | omega))); intro _; conv => whnf)
    | (refine tst_in ?_ ?_; rotate_left; (focus (intro h_; exfalso; first | omega | ((try simp only [decide_eq_true_eq, decide_eq_false_iff_not] at h_); omega) | (simp [mulSz, Cont.len, bne] at h_; first | done | omega))); intro _; conv => whnf)
    | (refine ⟨0, (show _ = _ by omega), ?_⟩; conv => whnf))
  refine .inl ⟨(x, y), [], ?_⟩
  conv => whnf
  repeat' (first | exact True.intro | rfl | refine And.intro ?_ ?_)
  all_goals (conv => whnf)
  repeat' (first | exact True.intro | rfl | refine And.intro ?_ ?_)
  all_goals (try omega)
  · exact h1
  · exact h2
structure RS where
  i : Nat
  s : Nat × Nat
def st26 (A : YT) (n ca i : Nat) (s : Nat × Nat) : St := ⟨slotsAt 17 [(3, .cpx .f64 s.1 s.2), (6, .slice 0 0 n ca), (7, .int .i64 n), (8, .int .i64 i)], [cxS false A]⟩
def st27 (A : YT) (n ca i : Nat) (s : Nat × Nat) : St := ⟨slotsAt 18 [(0, .slice 0 0 n ca), (3, .cpx .f64 s.1 s.2), (4, .int .i64 i)], [cxS false A]⟩
def inv26 (A : YT) (n ca : Nat) : LInv := ⟨RS, fun x => st26 A n ca x.i x.s, fun x => x.i ≤ n ∧ SumR (aF A) x.i x.s, fun x => n - x.i⟩
set_option maxHeartbeats 0 in
set_option maxRecDepth 100000 in
theorem Sum_f (A : YT) (n ca : Nat) (hA : n ≤ A.length) (hca : n ≤ ca) (hn : n ≤ 8796093022208) : Fits Try.prog 26 ⟨[.slice 0 0 n ca], [cxS false A], [cpxOut (SumR (aF A) n) [.dead]]⟩ := by
  unfold cpxOut
  refine fits_of_body (C := cfgp 1) (c := (Try.f26.body).getD .skip) (ts := [2]) tokL mixedL (fun | 3 => some (inv26 A n ca) | _ => none) (fun _ => none)
    Try.func26 (by kernel_rfl) (by kernel_rfl) (by kernel_rfl) (by kernel_rfl) rfl ?_
  conv => whnf
  repeat (first
    | (refine And.intro ?_ ?_; (focus (first | omega | decide | exact EqOk.mk (by kernel_rfl) (by kernel_rfl) (by kernel_rfl) | exact Int.natCast_nonneg _ | ((repeat' refine And.intro ?_ ?_) <;> first | omega | exact Int.natCast_nonneg _ | (simp only [i64max, u8max, u16max, u32max, u64max]; omega) | (simp only [mulSz_eq, Cont.len, colsLen, Col.len, List.length_cons, List.length_nil, List.length_replicate, List.length_append]; first | done | omega) | (simp [mulSz, Cont.len, bne]; first | done | omega)))); conv => whnf)
    | (refine tst_in ?_ ?_; (focus (intro h_; exfalso; first | omega | ((try simp only [decide_eq_true_eq, decide_eq_false_iff_not] at h_); omega) | (simp [mulSz, Cont.len, bne] at h_; first | done | omega))); intro _; conv => whnf)
    | (refine tst_in ?_ ?_; rotate_left; (focus (intro h_; exfalso; first | omega | ((try simp only [decide_eq_true_eq, decide_eq_false_iff_not] at h_); omega) | (simp [mulSz, Cont.len, bne] at h_; first | done | omega))); intro _; conv => whnf)
    | (refine ⟨0, (show _ = _ by omega), ?_⟩; conv => whnf))
  refine ⟨⟨[0], ⟨0, (0, 0)⟩, ?_, ⟨Nat.zero_le _, rfl⟩⟩, ?_⟩
  · show stLe _ _ (st26 A n ca 0 (0, 0)) _
    conv => whnf
    repeat' (first | exact True.intro | rfl | refine And.intro ?_ ?_)
    all_goals (conv => whnf)
    repeat' (first | exact True.intro | rfl | refine And.intro ?_ ?_)
    all_goals (try omega)
  · rintro ⟨i, s⟩ ⟨hi, hs⟩
    have hi : i ≤ n := hi
    have hs : SumR (aF A) i s := hs
    show forceSt (st26 A n ca i s) _
    conv => whnf
    refine tst_in (fun hlt => ?_) (fun hge => ?_)
    · skip
      have hlt : i < n := by simp at hlt; omega
      have PF := plus_f s (aF A i)
      unfold cpxOut aF at PF
      conv => whnf
      repeat (first
        | (refine And.intro ?_ ?_; (focus (first | omega | decide | exact EqOk.mk (by kernel_rfl) (by kernel_rfl) (by kernel_rfl) | exact Int.natCast_nonneg _ | ((repeat' refine And.intro ?_ ?_) <;> first | omega | exact Int.natCast_nonneg _ | (simp only [i64max, u8max, u16max, u32max, u64max]; omega) | (simp only [mulSz_eq, Cont.len, colsLen, Col.len, List.length_cons, List.length_nil, List.length_replicate, List.length_append]; first | done | omega) | (simp [mulSz, Cont.len, bne]; first | done | omega)))); conv => whnf)
        | (refine tst_in ?_ ?_; (focus (intro h_; exfalso; first | omega | ((try simp only [decide_eq_true_eq, decide_eq_false_iff_not] at h_); omega) | (simp [mulSz, Cont.len, bne] at h_; first | done | omega))); intro _; conv => whnf)
        | (refine tst_in ?_ ?_; rotate_left; (focus (intro h_; exfalso; first | omega | ((try simp only [decide_eq_true_eq, decide_eq_false_iff_not] at h_); omega) | (simp [mulSz, Cont.len, bne] at h_; first | done | omega))); intro _; conv => whnf)
        | (refine ⟨0, (show _ = _ by omega), ?_⟩; conv => whnf))
      rw [show 0 + ((i : Nat) : Int).toNat = i by omega]
      refine ⟨_, [], PF, ?_⟩
      conv => whnf
      iterate 2
       refine And.intro ?_ ?_
       focus
        conv => whnf
        repeat' (first | exact True.intro | rfl | refine And.intro ?_ ?_ | omega)
        all_goals (conv => whnf)
        all_goals (try (first | rfl | omega | (simp; done)))
      conv => whnf
      refine ⟨?_, True.intro⟩
      intro (r : Nat × Nat) _
      conv => whnf
      rename_i hr
      have hr : AdR s (aF A i) r := hr
      conv => whnf
      repeat (first
        | (refine And.intro ?_ ?_; (focus (first | omega | decide | exact EqOk.mk (by kernel_rfl) (by kernel_rfl) (by kernel_rfl) | exact Int.natCast_nonneg _ | ((repeat' refine And.intro ?_ ?_) <;> first | omega | exact Int.natCast_nonneg _ | (simp only [i64max, u8max, u16max, u32max, u64max]; omega) | (simp only [mulSz_eq, Cont.len, colsLen, Col.len, List.length_cons, List.length_nil, List.length_replicate, List.length_append]; first | done | omega) | (simp [mulSz, Cont.len, bne]; first | done | omega)))); conv => whnf)
        | (refine tst_in ?_ ?_; (focus (intro h_; exfalso; first | omega | ((try simp only [decide_eq_true_eq, decide_eq_false_iff_not] at h_); omega) | (simp [mulSz, Cont.len, bne] at h_; first | done | omega))); intro _; conv => whnf)
        | (refine tst_in ?_ ?_; rotate_left; (focus (intro h_; exfalso; first | omega | ((try simp only [decide_eq_true_eq, decide_eq_false_iff_not] at h_); omega) | (simp [mulSz, Cont.len, bne] at h_; first | done | omega))); intro _; conv => whnf)
        | (refine ⟨0, (show _ = _ by omega), ?_⟩; conv => whnf))
      refine ⟨[0], ⟨i + 1, r⟩, ?_, ⟨(by show i + 1 ≤ n; omega), ⟨s, hs, hr⟩⟩, (by show n - (i + 1) < n - i; omega)⟩
      show stLe _ _ (st26 A n ca (i + 1) r) _
      conv => whnf
      repeat' (first | exact True.intro | rfl | refine And.intro ?_ ?_)
      all_goals (conv => whnf)
      repeat' (first | exact True.intro | rfl | refine And.intro ?_ ?_)
      all_goals (try omega)
    · skip
      have hge : i = n := by simp at hge; omega
      subst hge
      conv => whnf
      repeat (first
        | (refine And.intro ?_ ?_; (focus (first | omega | decide | exact EqOk.mk (by kernel_rfl) (by kernel_rfl) (by kernel_rfl) | exact Int.natCast_nonneg _ | ((repeat' refine And.intro ?_ ?_) <;> first | omega | exact Int.natCast_nonneg _ | (simp only [i64max, u8max, u16max, u32max, u64max]; omega) | (simp only [mulSz_eq, Cont.len, colsLen, Col.len, List.length_cons, List.length_nil, List.length_replicate, List.length_append]; first | done | omega) | (simp [mulSz, Cont.len, bne]; first | done | omega)))); conv => whnf)
        | (refine tst_in ?_ ?_; (focus (intro h_; exfalso; first | omega | ((try simp only [decide_eq_true_eq, decide_eq_false_iff_not] at h_); omega) | (simp [mulSz, Cont.len, bne] at h_; first | done | omega))); intro _; conv => whnf)
        | (refine tst_in ?_ ?_; rotate_left; (focus (intro h_; exfalso; first | omega | ((try simp only [decide_eq_true_eq, decide_eq_false_iff_not] at h_); omega) | (simp [mulSz, Cont.len, bne] at h_; first | done | omega))); intro _; conv => whnf)
        | (refine ⟨0, (show _ = _ by omega), ?_⟩; conv => whnf))
      refine .inl ⟨s, [0], ?_⟩
      conv => whnf
      repeat' (first | exact True.intro | rfl | refine And.intro ?_ ?_)
      all_goals (conv => whnf)
      repeat' (first | exact True.intro | rfl | refine And.intro ?_ ?_)
      all_goals (try omega)
def inv27 (A : YT) (n ca : Nat) : LInv := ⟨RS, fun x => st27 A n ca x.i x.s, fun x => x.i ≤ n ∧ SumR (aF A) x.i x.s, fun x => n - x.i⟩
set_option maxHeartbeats 0 in
set_option maxRecDepth 100000 in
theorem rSum_f (A : YT) (n ca : Nat) (hA : n ≤ A.length) (hca : n ≤ ca) (hn : n ≤ 8796093022208) : Fits Try.prog 27 ⟨[.slice 0 0 n ca], [cxS false A], [cpxOut (SumR (aF A) n) [.dead]]⟩ := by
  unfold cpxOut
  refine fits_of_body (C := cfgp 1) (c := (Try.f27.body).getD .skip) (ts := [2]) tokL mixedL (fun | 3 => some (inv27 A n ca) | _ => none) (fun _ => none)
    Try.func27 (by kernel_rfl) (by kernel_rfl) (by kernel_rfl) (by kernel_rfl) rfl ?_
  conv => whnf
  repeat (first
    | (refine And.intro ?_ ?_; (focus (first | omega | decide | exact EqOk.mk (by kernel_rfl) (by kernel_rfl) (by kernel_rfl) | exact Int.natCast_nonneg _ | ((repeat' refine And.intro ?_ ?_) <;> first | omega | exact Int.natCast_nonneg _ | (simp only [i64max, u8max, u16max, u32max, u64max]; omega) | (simp only [mulSz_eq, Cont.len, colsLen, Col.len, List.length_cons, List.length_nil, List.length_replicate, List.length_append]; first | done | omega) | (simp [mulSz, Cont.len, bne]; first | done | omega)))); conv => whnf)
    | (refine tst_in ?_ ?_; (focus (intro h_; exfalso; first | omega | ((try simp only [decide_eq_true_eq, decide_eq_false_iff_not] at h_); omega) | (simp [mulSz, Cont.len, bne] at h_; first | done | omega))); intro _; conv => whnf)
    | (refine tst_in ?_ ?_; rotate_left; (focus (intro h_; exfalso; first | omega | ((try simp only [decide_eq_true_eq, decide_eq_false_iff_not] at h_); omega) | (simp [mulSz, Cont.len, bne] at h_; first | done | omega))); intro _; conv => whnf)
    | (refine ⟨0, (show _ = _ by omega), ?_⟩; conv => whnf))
  refine ⟨⟨[0], ⟨0, (0, 0)⟩, ?_, ⟨Nat.zero_le _, rfl⟩⟩, ?_⟩
  · show stLe _ _ (st27 A n ca 0 (0, 0)) _
    conv => whnf
    repeat' (first | exact True.intro | rfl | refine And.intro ?_ ?_)
    all_goals (conv => whnf)
    repeat' (first | exact True.intro | rfl | refine And.intro ?_ ?_)
    all_goals (try omega)
  · rintro ⟨i, s⟩ ⟨hi, hs⟩
    have hi : i ≤ n := hi
    have hs : SumR (aF A) i s := hs
    show forceSt (st27 A n ca i s) _
    conv => whnf
    refine tst_in (fun hlt => ?_) (fun hge => ?_)
    · skip
      have hlt : i < n := by simp at hlt; omega
      have PF := radd_f s (aF A i)
      unfold cpxOut aF at PF
      conv => whnf
      repeat (first
        | (refine And.intro ?_ ?_; (focus (first | omega | decide | exact EqOk.mk (by kernel_rfl) (by kernel_rfl) (by kernel_rfl) | exact Int.natCast_nonneg _ | ((repeat' refine And.intro ?_ ?_) <;> first | omega | exact Int.natCast_nonneg _ | (simp only [i64max, u8max, u16max, u32max, u64max]; omega) | (simp only [mulSz_eq, Cont.len, colsLen, Col.len, List.length_cons, List.length_nil, List.length_replicate, List.length_append]; first | done | omega) | (simp [mulSz, Cont.len, bne]; first | done | omega)))); conv => whnf)
        | (refine tst_in ?_ ?_; (focus (intro h_; exfalso; first | omega | ((try simp only [decide_eq_true_eq, decide_eq_false_iff_not] at h_); omega) | (simp [mulSz, Cont.len, bne] at h_; first | done | omega))); intro _; conv => whnf)
        | (refine tst_in ?_ ?_; rotate_left; (focus (intro h_; exfalso; first | omega | ((try simp only [decide_eq_true_eq, decide_eq_false_iff_not] at h_); omega) | (simp [mulSz, Cont.len, bne] at h_; first | done | omega))); intro _; conv => whnf)
        | (refine ⟨0, (show _ = _ by omega), ?_⟩; conv => whnf))
      rw [show 0 + ((i : Nat) : Int).toNat = i by omega]
      refine ⟨_, [], PF, ?_⟩
      conv => whnf
      iterate 2
       refine And.intro ?_ ?_
       focus
        conv => whnf
        repeat' (first | exact True.intro | rfl | refine And.intro ?_ ?_ | omega)
        all_goals (conv => whnf)
        all_goals (try (first | rfl | omega | (simp; done)))
      conv => whnf
      refine ⟨?_, True.intro⟩
      intro (r : Nat × Nat) _
      conv => whnf
      rename_i hr
      have hr : AdR s (aF A i) r := hr
      conv => whnf
      repeat (first
        | (refine And.intro ?_ ?_; (focus (first | omega | decide | exact EqOk.mk (by kernel_rfl) (by kernel_rfl) (by kernel_rfl) | exact Int.natCast_nonneg _ | ((repeat' refine And.intro ?_ ?_) <;> first | omega | exact Int.natCast_nonneg _ | (simp only [i64max, u8max, u16max, u32max, u64max]; omega) | (simp only [mulSz_eq, Cont.len, colsLen, Col.len, List.length_cons, List.length_nil, List.length_replicate, List.length_append]; first | done | omega) | (simp [mulSz, Cont.len, bne]; first | done | omega)))); conv => whnf)
        | (refine tst_in ?_ ?_; (focus (intro h_; exfalso; first | omega | ((try simp only [decide_eq_true_eq, decide_eq_false_iff_not] at h_); omega) | (simp [mulSz, Cont.len, bne] at h_; first | done | omega))); intro _; conv => whnf)
        | (refine tst_in ?_ ?_; rotate_left; (focus (intro h_; exfalso; first | omega | ((try simp only [decide_eq_true_eq, decide_eq_false_iff_not] at h_); omega) | (simp [mulSz, Cont.len, bne] at h_; first | done | omega))); intro _; conv => whnf)
        | (refine ⟨0, (show _ = _ by omega), ?_⟩; conv => whnf))
      refine ⟨[0], ⟨i + 1, r⟩, ?_, ⟨(by show i + 1 ≤ n; omega), ⟨s, hs, hr⟩⟩, (by show n - (i + 1) < n - i; omega)⟩
      show stLe _ _ (st27 A n ca (i + 1) r) _
      conv => whnf
      repeat' (first | exact True.intro | rfl | refine And.intro ?_ ?_)
      all_goals (conv => whnf)
      repeat' (first | exact True.intro | rfl | refine And.intro ?_ ?_)
      all_goals (try omega)
    · skip
      have hge : i = n := by simp at hge; omega
      subst hge
      conv => whnf
      repeat (first
        | (refine And.intro ?_ ?_; (focus (first | omega | decide | exact EqOk.mk (by kernel_rfl) (by kernel_rfl) (by kernel_rfl) | exact Int.natCast_nonneg _ | ((repeat' refine And.intro ?_ ?_) <;> first | omega | exact Int.natCast_nonneg _ | (simp only [i64max, u8max, u16max, u32max, u64max]; omega) | (simp only [mulSz_eq, Cont.len, colsLen, Col.len, List.length_cons, List.length_nil, List.length_replicate, List.length_append]; first | done | omega) | (simp [mulSz, Cont.len, bne]; first | done | omega)))); conv => whnf)
        | (refine tst_in ?_ ?_; (focus (intro h_; exfalso; first | omega | ((try simp only [decide_eq_true_eq, decide_eq_false_iff_not] at h_); omega) | (simp [mulSz, Cont.len, bne] at h_; first | done | omega))); intro _; conv => whnf)
        | (refine tst_in ?_ ?_; rotate_left; (focus (intro h_; exfalso; first | omega | ((try simp only [decide_eq_true_eq, decide_eq_false_iff_not] at h_); omega) | (simp [mulSz, Cont.len, bne] at h_; first | done | omega))); intro _; conv => whnf)
        | (refine ⟨0, (show _ = _ by omega), ?_⟩; conv => whnf))
      refine .inl ⟨s, [0], ?_⟩
      conv => whnf
      repeat' (first | exact True.intro | rfl | refine And.intro ?_ ?_)
      all_goals (conv => whnf)
      repeat' (first | exact True.intro | rfl | refine And.intro ?_ ?_)
      all_goals (try omega)
def qf2 : Nat → Bool := fun f => match f with | 6 => true | 25 => true | _ => false
def cfgr (k : Nat) : Cfg := { T := tyL, sgn := fun _ => false, wr := fun _ => false, k := k, q := qf2 }
def st25 (A B : YT) (n ca cb i : Nat) : St := ⟨slotsAt 27 [(0, .slice 0 0 n ca), (1, .slice 1 0 n cb), (5, .int .i64 i)], [cxS false A, cxS false B]⟩
def inv25 (A B : YT) (n ca cb : Nat) : LInv := ⟨Nat, fun i => st25 A B n ca cb i, fun i => i ≤ n, fun i => n - i⟩
set_option maxHeartbeats 0 in
set_option maxRecDepth 100000 in
theorem SameRow_q (A B : YT) (n ca cb : Nat) (hA : n ≤ A.length) (hB : n ≤ B.length) (hca : n ≤ ca) (hcb : n ≤ cb) (hn : n ≤ 8796093022208) (hE : ∀ i, i < n → Al2 (aF A i) (aF B i)) :
    QFits Try.prog 25 ⟨[.slice 0 0 n ca, .slice 1 0 n cb], [cxS false A, cxS false B], .bool true⟩ := by
  refine qfits_of_body (C := cfgr 2) (c := (Try.f25.body).getD .skip) (ts := [4]) tokL mixedL (fun | 4 => some (inv25 A B n ca cb) | _ => none) (fun _ => none)
    Try.func25 (by kernel_rfl) (by kernel_rfl) (by kernel_rfl) (by kernel_rfl) (by kernel_rfl) rfl rfl ?_
  conv => whnf
  repeat (first
    | (refine And.intro ?_ ?_; (focus (first | omega | decide | exact EqOk.mk (by kernel_rfl) (by kernel_rfl) (by kernel_rfl) | exact Int.natCast_nonneg _ | ((repeat' refine And.intro ?_ ?_) <;> first | omega | exact Int.natCast_nonneg _ | (simp only [i64max, u8max, u16max, u32max, u64max]; omega) | (simp only [mulSz_eq, Cont.len, colsLen, Col.len, List.length_cons, List.length_nil, List.length_replicate, List.length_append]; first | done | omega) | (simp [mulSz, Cont.len, bne]; first | done | omega)))); conv => whnf)
    | (refine tst_in ?_ ?_; (focus (intro h_; exfalso; first | omega | ((try simp only [decide_eq_true_eq, decide_eq_false_iff_not] at h_); omega) | (simp [mulSz, Cont.len, bne] at h_; first | done | omega))); intro _; conv => whnf)
    | (refine tst_in ?_ ?_; rotate_left; (focus (intro h_; exfalso; first | omega | ((try simp only [decide_eq_true_eq, decide_eq_false_iff_not] at h_); omega) | (simp [mulSz, Cont.len, bne] at h_; first | done | omega))); intro _; conv => whnf)
    | (refine ⟨0, (show _ = _ by omega), ?_⟩; conv => whnf))
  refine ⟨⟨[0, 1], (0 : Nat), ?_, Nat.zero_le _⟩, ?_⟩
  · show stLe _ _ (st25 A B n ca cb 0) _
    conv => whnf
    repeat' (first | exact True.intro | rfl | refine And.intro ?_ ?_)
    all_goals (conv => whnf)
    repeat' (first | exact True.intro | rfl | refine And.intro ?_ ?_)
    all_goals (try omega)
  · intro (i : Nat) (hi : i ≤ n)
    show forceSt (st25 A B n ca cb i) _
    conv => whnf
    refine tst_in (fun hlt => ?_) (fun hge => ?_)
    · skip
      have hlt : i < n := by simp at hlt; omega
      have SQ := Same_q (aF A i) (aF B i) false (hE i hlt).1 (hE i hlt).2
      unfold aF at SQ
      conv => whnf
      repeat (first
        | (refine And.intro ?_ ?_; (focus (first | omega | decide | exact EqOk.mk (by kernel_rfl) (by kernel_rfl) (by kernel_rfl) | exact Int.natCast_nonneg _ | ((repeat' refine And.intro ?_ ?_) <;> first | omega | exact Int.natCast_nonneg _ | (simp only [i64max, u8max, u16max, u32max, u64max]; omega) | (simp only [mulSz_eq, Cont.len, colsLen, Col.len, List.length_cons, List.length_nil, List.length_replicate, List.length_append]; first | done | omega) | (simp [mulSz, Cont.len, bne]; first | done | omega)))); conv => whnf)
        | (refine tst_in ?_ ?_; (focus (intro h_; exfalso; first | omega | ((try simp only [decide_eq_true_eq, decide_eq_false_iff_not] at h_); omega) | (simp [mulSz, Cont.len, bne] at h_; first | done | omega))); intro _; conv => whnf)
        | (refine tst_in ?_ ?_; rotate_left; (focus (intro h_; exfalso; first | omega | ((try simp only [decide_eq_true_eq, decide_eq_false_iff_not] at h_); omega) | (simp [mulSz, Cont.len, bne] at h_; first | done | omega))); intro _; conv => whnf)
        | (refine ⟨0, (show _ = _ by omega), ?_⟩; conv => whnf))
      rw [show 0 + ((i : Nat) : Int).toNat = i by omega]
      refine ⟨_, [], SQ, ?_⟩
      conv => whnf
      iterate 2
       refine And.intro ?_ ?_
       focus
        conv => whnf
        repeat' (first | exact True.intro | rfl | refine And.intro ?_ ?_ | omega)
        all_goals (conv => whnf)
        all_goals (try (first | rfl | omega | (simp; done)))
      conv => whnf
      conv => whnf
      repeat (first
        | (refine And.intro ?_ ?_; (focus (first | omega | decide | exact EqOk.mk (by kernel_rfl) (by kernel_rfl) (by kernel_rfl) | exact Int.natCast_nonneg _ | ((repeat' refine And.intro ?_ ?_) <;> first | omega | exact Int.natCast_nonneg _ | (simp only [i64max, u8max, u16max, u32max, u64max]; omega) | (simp only [mulSz_eq, Cont.len, colsLen, Col.len, List.length_cons, List.length_nil, List.length_replicate, List.length_append]; first | done | omega) | (simp [mulSz, Cont.len, bne]; first | done | omega)))); conv => whnf)
        | (refine tst_in ?_ ?_; (focus (intro h_; exfalso; first | omega | ((try simp only [decide_eq_true_eq, decide_eq_false_iff_not] at h_); omega) | (simp [mulSz, Cont.len, bne] at h_; first | done | omega))); intro _; conv => whnf)
        | (refine tst_in ?_ ?_; rotate_left; (focus (intro h_; exfalso; first | omega | ((try simp only [decide_eq_true_eq, decide_eq_false_iff_not] at h_); omega) | (simp [mulSz, Cont.len, bne] at h_; first | done | omega))); intro _; conv => whnf)
        | (refine ⟨0, (show _ = _ by omega), ?_⟩; conv => whnf))
      refine ⟨[0, 1], i + 1, ?_, (by show i + 1 ≤ n; omega), (by show n - (i + 1) < n - i; omega)⟩
      show stLe _ _ (st25 A B n ca cb (i + 1)) _
      conv => whnf
      repeat' (first | exact True.intro | rfl | refine And.intro ?_ ?_)
      all_goals (conv => whnf)
      repeat' (first | exact True.intro | rfl | refine And.intro ?_ ?_)
      all_goals (try omega)
    · skip
      have hge : i = n := by simp at hge; omega
      subst hge
      conv => whnf
      repeat (first
        | (refine And.intro ?_ ?_; (focus (first | omega | decide | exact EqOk.mk (by kernel_rfl) (by kernel_rfl) (by kernel_rfl) | exact Int.natCast_nonneg _ | ((repeat' refine And.intro ?_ ?_) <;> first | omega | exact Int.natCast_nonneg _ | (simp only [i64max, u8max, u16max, u32max, u64max]; omega) | (simp only [mulSz_eq, Cont.len, colsLen, Col.len, List.length_cons, List.length_nil, List.length_replicate, List.length_append]; first | done | omega) | (simp [mulSz, Cont.len, bne]; first | done | omega)))); conv => whnf)
        | (refine tst_in ?_ ?_; (focus (intro h_; exfalso; first | omega | ((try simp only [decide_eq_true_eq, decide_eq_false_iff_not] at h_); omega) | (simp [mulSz, Cont.len, bne] at h_; first | done | omega))); intro _; conv => whnf)
        | (refine tst_in ?_ ?_; rotate_left; (focus (intro h_; exfalso; first | omega | ((try simp only [decide_eq_true_eq, decide_eq_false_iff_not] at h_); omega) | (simp [mulSz, Cont.len, bne] at h_; first | done | omega))); intro _; conv => whnf)
        | (refine ⟨0, (show _ = _ by omega), ?_⟩; conv => whnf))
end Go.Proofs.Ytfpebgcjmmhlpaa

set_option linter.unusedVariables false
set_option linter.unusedSimpArgs false
namespace Go.Proofs.Ytfpebgcjmmhlpaa
open Go Go.Fw
def natAt (st : St) (t : Nat) : Nat := match slot st.sl t with | .int _ n => n.toNat | _ => 0
def plan23 : PlanL := .nn (.op 0 (.op 1 (.op 2 (.op 3 (.op 6 (.op 7 (.op 8 (.op 9 (.op 10 (.op 11 (.op 12 (.op 13 (.op 14 (.op 15 (.rd 4 (.rd 5 (.op 16 (.chk [5, 4] (.op 17 (.op 18 (.op 19 .done)))))))))))))))))))))
def plan24 : PlanL := .lin [0, 1, 2, 3, 4, 5, 6, 7, 8, 9, 10, 11, 12, 13] .done
/-- A part of the answer. -/
def FlA (A B : YT) (nh n : Nat) (O : YT) : Prop := ∀ i, i < n → FlR (aF A) (aF B) i (min (i + 1) nh) (O.getD i (0, 0))
structure RF where
  k : Nat
  O : YT
def st23 (A B : YT) (nh ch N cr : Nat) (n : Nat) (O : YT) : St :=
  ⟨slotsAt 60 [(0, .slice 0 0 nh ch), (1, .slice 1 0 N cr), (6, .slice 2 0 N N), (26, .int .i64 N), (27, .int .i64 n)], [cxS false A, cxS false B, cxS true O]⟩
def inv23 (A B : YT) (nh ch N cr : Nat) : LInv := ⟨RF, fun x => st23 A B nh ch N cr x.k x.O, fun x => x.k ≤ N ∧ x.O.length = N ∧ FlA A B nh x.k x.O ∧ ∀ i, x.k ≤ i → x.O.getD i (0, 0) = (0, 0), fun x => N - x.k⟩
def st23b (A B : YT) (nh ch N cr : Nat) (n k : Nat) (O : YT) : St :=
  ⟨slotsAt 60 [(0, .slice 0 0 nh ch), (1, .slice 1 0 N cr), (6, .slice 2 0 N N), (7, .int .i64 n), (26, .int .i64 N), (27, .int .i64 n), (34, .int .i64 ((min (n + 1) nh : Nat) : Int)), (35, .int .i64 k)], [cxS false A, cxS false B, cxS true O]⟩
def inv23b (A B : YT) (nh ch N cr : Nat) (st : St) : LInv := ⟨RF, fun x => st23b A B nh ch N cr (natAt st 7) x.k x.O, fun x => x.k ≤ min (natAt st 7 + 1) nh ∧ x.O.length = N ∧ FlA A B nh (natAt st 7) x.O ∧ FlR (aF A) (aF B) (natAt st 7) x.k (x.O.getD (natAt st 7) (0, 0)) ∧ ∀ i, natAt st 7 < i → x.O.getD i (0, 0) = (0, 0), fun x => min (natAt st 7 + 1) nh - x.k⟩
def dm (nh n m : Nat) (e : Int) : Prop := (1 ≤ nh ∧ nh ≤ 64 ∧ n ≤ 65536 ∧ n = m ∧ e = 0) ∨ ((nh < 1 ∨ 64 < nh ∨ 65536 < n) ∧ m = 0 ∧ e = 1)
def flOut (A B : YT) (nh m : Nat) (e : Int) : FOut := ⟨YT, fun O => O.length = m ∧ FlA A B nh m O, fun O => .tup [.slice 2 0 m m, .int .i64 e], fun O => [.dead, .dead, cxS true O]⟩
theorem getD_set {O : YT} {n i : Nat} {r : Nat × Nat} (hn : n < O.length) : (O.set n r).getD i (0, 0) = if i = n then r else O.getD i (0, 0) := by
  rw [List.getD_eq_getElem?_getD, List.getD_eq_getElem?_getD, List.getElem?_set]
  by_cases h : n = i
  · subst h; rw [if_pos rfl, if_pos hn, if_pos rfl]; rfl
  · rw [if_neg h, if_neg (fun q => h q.symm)]
theorem rep0 (n i : Nat) : (List.replicate n ((0, 0) : Nat × Nat)).getD i (0, 0) = (0, 0) := by
  rw [List.getD_eq_getElem?_getD, List.getElem?_replicate]
  split <;> rfl
set_option maxHeartbeats 0 in
set_option maxRecDepth 100000 in
theorem Filter_f (A B : YT) (nh ch n cr m : Nat) (e : Int) (hA : nh ≤ A.length) (hch : nh ≤ ch) (hB : n ≤ B.length) (hcr : n ≤ cr) (hn1 : nh ≤ 8796093022208) (hn2 : n ≤ 8796093022208) (hm : dm nh n m e) :
    Fits Try.prog 23 ⟨[.slice 0 0 nh ch, .slice 1 0 n cr], [cxS false A, cxS false B], [flOut A B nh m e]⟩ := by
  refine fits_of_body (C := { cfgr 2 with q := fun _ => false, plan := fun | 10 => some plan23 | _ => none, dep := fun | 8 => some (inv23b A B nh ch n cr) | _ => none }) (c := (Try.f23.body).getD .skip) (ts := [4, 5]) tokL mixedL (fun | 5 => some (inv23 A B nh ch n cr) | _ => none) (fun _ => none)
    Try.func23 (by kernel_rfl) (by kernel_rfl) (by kernel_rfl) (by kernel_rfl) rfl ?_
  rcases hm with ⟨h1, h2, h3, rfl, rfl⟩ | ⟨h, rfl, rfl⟩
  · conv => whnf
    repeat (first
      | (refine And.intro ?_ ?_; (focus (first | omega | decide | exact EqOk.mk (by kernel_rfl) (by kernel_rfl) (by kernel_rfl) | exact Int.natCast_nonneg _ | ((repeat' refine And.intro ?_ ?_) <;> first | omega | exact Int.natCast_nonneg _ | (simp only [i64max, u8max, u16max, u32max, u64max]; omega) | (simp only [mulSz_eq, Cont.len, colsLen, Col.len, List.length_cons, List.length_nil, List.length_replicate, List.length_append]; first | done | omega) | (simp [mulSz, Cont.len, bne]; first | done | omega)))); conv => whnf)
      | (refine tst_in ?_ ?_; (focus (intro h_; exfalso; first | omega | ((try simp only [decide_eq_true_eq, decide_eq_false_iff_not] at h_); omega) | (simp [mulSz, Cont.len, bne] at h_; first | done | omega))); intro _; conv => whnf)
      | (refine tst_in ?_ ?_; rotate_left; (focus (intro h_; exfalso; first | omega | ((try simp only [decide_eq_true_eq, decide_eq_false_iff_not] at h_); omega) | (simp [mulSz, Cont.len, bne] at h_; first | done | omega))); intro _; conv => whnf)
      | (refine ⟨0, (show _ = _ by omega), ?_⟩; conv => whnf))
    rw [show ((n : Nat) : Int).toNat = n by omega]
    refine ⟨⟨[0, 1, 2], ⟨0, List.replicate n (0, 0)⟩, ?_, ⟨Nat.zero_le _, List.length_replicate, fun i hi => absurd hi (Nat.not_lt_zero i), fun i _ => rep0 n i⟩⟩, ?_⟩
    · show stLe _ _ (st23 A B nh ch n cr 0 (List.replicate n (0, 0))) _
      conv => whnf
      repeat' (first | exact True.intro | rfl | refine And.intro ?_ ?_)
      all_goals (conv => whnf)
      repeat' (first | exact True.intro | rfl | refine And.intro ?_ ?_)
      all_goals (try omega)
    · rintro ⟨i, O⟩ ⟨hi, hO, hF, hZ⟩
      have hi : i ≤ n := hi
      have hO : O.length = n := hO
      have hF : FlA A B nh i O := hF
      have hZ : ∀ j, i ≤ j → O.getD j (0, 0) = (0, 0) := hZ
      show forceSt (st23 A B nh ch n cr i O) _
      conv => whnf
      refine tst_in (fun hlt => ?_) (fun hge => ?_)
      · skip
        have hlt : i < n := by simp at hlt; omega
        conv => whnf
        repeat (first
          | (refine And.intro ?_ ?_; (focus (first | omega | decide | exact EqOk.mk (by kernel_rfl) (by kernel_rfl) (by kernel_rfl) | exact Int.natCast_nonneg _ | ((repeat' refine And.intro ?_ ?_) <;> first | omega | exact Int.natCast_nonneg _ | (simp only [i64max, u8max, u16max, u32max, u64max]; omega) | (simp only [mulSz_eq, Cont.len, colsLen, Col.len, List.length_cons, List.length_nil, List.length_replicate, List.length_append]; first | done | omega) | (simp [mulSz, Cont.len, bne]; first | done | omega)))); conv => whnf)
          | (refine tst_in ?_ ?_; (focus (intro h_; exfalso; first | omega | ((try simp only [decide_eq_true_eq, decide_eq_false_iff_not] at h_); omega) | (simp [mulSz, Cont.len, bne] at h_; first | done | omega))); intro _; conv => whnf)
          | (refine tst_in ?_ ?_; rotate_left; (focus (intro h_; exfalso; first | omega | ((try simp only [decide_eq_true_eq, decide_eq_false_iff_not] at h_); omega) | (simp [mulSz, Cont.len, bne] at h_; first | done | omega))); intro _; conv => whnf)
          | (refine ⟨0, (show _ = _ by omega), ?_⟩; conv => whnf))
        refine ⟨⟨[0, 1, 2], ⟨0, O⟩, ?_, ⟨Nat.zero_le _, hO, hF, hZ i (Nat.le_refl i), fun j (hj : i < j) => hZ j (Nat.le_of_lt hj)⟩⟩, ?_⟩
        · show stLe _ _ (st23b A B nh ch n cr i 0 O) _
          conv => whnf
          repeat' (first | exact True.intro | rfl | refine And.intro ?_ ?_)
          all_goals (conv => whnf)
          repeat' (first | exact True.intro | rfl | refine And.intro ?_ ?_)
          all_goals (try omega)
        · clear hO hF hZ
          rintro ⟨k, O⟩ ⟨hk, hO, hF, hL, hZ⟩
          have hk : k ≤ min (i + 1) nh := hk
          have hO : O.length = n := hO
          have hF : FlA A B nh i O := hF
          have hL : FlR (aF A) (aF B) i k (O.getD i (0, 0)) := hL
          have hZ : ∀ j, i < j → O.getD j (0, 0) = (0, 0) := hZ
          have hM1 : min (i + 1) nh ≤ i + 1 := Nat.min_le_left _ _
          have hM2 : min (i + 1) nh ≤ nh := Nat.min_le_right _ _
          show forceSt (st23b A B nh ch n cr i k O) _
          unfold st23b
          generalize hM : min (i + 1) nh = M at *
          conv => whnf
          refine tst_in (fun hkt => ?_) (fun hkg => ?_)
          · skip
            have hkt : k < M := by simp at hkt; omega
            have hk1 : k ≤ i := by omega
            have hk2 : k < nh := by omega
            have MF := Mul_f (aF A k) (aF B (i - k))
            unfold mulOut aF at MF
            conv => whnf
            repeat (first
              | (refine And.intro ?_ ?_; (focus (first | omega | decide | exact EqOk.mk (by kernel_rfl) (by kernel_rfl) (by kernel_rfl) | exact Int.natCast_nonneg _ | ((repeat' refine And.intro ?_ ?_) <;> first | omega | exact Int.natCast_nonneg _ | (simp only [i64max, u8max, u16max, u32max, u64max]; omega) | (simp only [mulSz_eq, Cont.len, colsLen, Col.len, List.length_cons, List.length_nil, List.length_replicate, List.length_append]; first | done | omega) | (simp [mulSz, Cont.len, bne]; first | done | omega)))); conv => whnf)
              | (refine tst_in ?_ ?_; (focus (intro h_; exfalso; first | omega | ((try simp only [decide_eq_true_eq, decide_eq_false_iff_not] at h_); omega) | (simp [mulSz, Cont.len, bne] at h_; first | done | omega))); intro _; conv => whnf)
              | (refine tst_in ?_ ?_; rotate_left; (focus (intro h_; exfalso; first | omega | ((try simp only [decide_eq_true_eq, decide_eq_false_iff_not] at h_); omega) | (simp [mulSz, Cont.len, bne] at h_; first | done | omega))); intro _; conv => whnf)
              | (refine ⟨0, (show _ = _ by omega), ?_⟩; conv => whnf))
            rw [show 0 + ((k : Nat) : Int).toNat = k by omega, show 0 + (((i : Nat) : Int) - ((k : Nat) : Int)).toNat = i - k by omega]
            refine ⟨_, [], MF, ?_⟩
            conv => whnf
            iterate 2
             refine And.intro ?_ ?_
             focus
              conv => whnf
              repeat' (first | exact True.intro | rfl | refine And.intro ?_ ?_ | omega)
              all_goals (conv => whnf)
              all_goals (try (first | rfl | omega | (simp; done)))
            conv => whnf
            refine ⟨?_, True.intro⟩
            intro (m : Nat × Nat) _
            conv => whnf
            rename_i hm
            have hm : MuR (aF A k) (aF B (i - k)) m := hm
            have PF := plus_f (O.getD i (0, 0)) m
            unfold cpxOut at PF
            conv => whnf
            repeat (first
              | (refine And.intro ?_ ?_; (focus (first | omega | decide | exact EqOk.mk (by kernel_rfl) (by kernel_rfl) (by kernel_rfl) | exact Int.natCast_nonneg _ | ((repeat' refine And.intro ?_ ?_) <;> first | omega | exact Int.natCast_nonneg _ | (simp only [i64max, u8max, u16max, u32max, u64max]; omega) | (simp only [mulSz_eq, Cont.len, colsLen, Col.len, List.length_cons, List.length_nil, List.length_replicate, List.length_append]; first | done | omega) | (simp [mulSz, Cont.len, bne]; first | done | omega)))); conv => whnf)
              | (refine tst_in ?_ ?_; (focus (intro h_; exfalso; first | omega | ((try simp only [decide_eq_true_eq, decide_eq_false_iff_not] at h_); omega) | (simp [mulSz, Cont.len, bne] at h_; first | done | omega))); intro _; conv => whnf)
              | (refine tst_in ?_ ?_; rotate_left; (focus (intro h_; exfalso; first | omega | ((try simp only [decide_eq_true_eq, decide_eq_false_iff_not] at h_); omega) | (simp [mulSz, Cont.len, bne] at h_; first | done | omega))); intro _; conv => whnf)
              | (refine ⟨0, (show _ = _ by omega), ?_⟩; conv => whnf))
            rw [show 0 + ((i : Nat) : Int).toNat = i by omega]
            refine ⟨_, [], PF, ?_⟩
            conv => whnf
            iterate 2
             refine And.intro ?_ ?_
             focus
              conv => whnf
              repeat' (first | exact True.intro | rfl | refine And.intro ?_ ?_ | omega)
              all_goals (conv => whnf)
              all_goals (try (first | rfl | omega | (simp; done)))
            conv => whnf
            refine ⟨?_, True.intro⟩
            intro (r : Nat × Nat) _
            conv => whnf
            rename_i hr
            have hr : AdR (O.getD i (0, 0)) m r := hr
            conv => whnf
            repeat (first
              | (refine And.intro ?_ ?_; (focus (first | omega | decide | exact EqOk.mk (by kernel_rfl) (by kernel_rfl) (by kernel_rfl) | exact Int.natCast_nonneg _ | ((repeat' refine And.intro ?_ ?_) <;> first | omega | exact Int.natCast_nonneg _ | (simp only [i64max, u8max, u16max, u32max, u64max]; omega) | (simp only [mulSz_eq, Cont.len, colsLen, Col.len, List.length_cons, List.length_nil, List.length_replicate, List.length_append, hO]; first | done | omega) | (simp [mulSz, Cont.len, bne, hO]; first | done | omega)))); conv => whnf)
              | (refine tst_in ?_ ?_; (focus (intro h_; exfalso; first | omega | ((try simp only [decide_eq_true_eq, decide_eq_false_iff_not] at h_); omega) | (simp [mulSz, Cont.len, bne, hO] at h_; first | done | omega))); intro _; conv => whnf)
              | (refine tst_in ?_ ?_; rotate_left; (focus (intro h_; exfalso; first | omega | ((try simp only [decide_eq_true_eq, decide_eq_false_iff_not] at h_); omega) | (simp [mulSz, Cont.len, bne, hO] at h_; first | done | omega))); intro _; conv => whnf)
              | (refine ⟨0, (show _ = _ by omega), ?_⟩; conv => whnf))
            refine ⟨[0, 1, 2], ⟨k + 1, O.set i r⟩, ?_, ⟨(by show k + 1 ≤ min (i + 1) nh; omega), (by simp [hO]), ?_, ?_, ?_⟩, (by show min (i + 1) nh - (k + 1) < min (i + 1) nh - k; omega)⟩
            · show stLe _ _ (st23b A B nh ch n cr i (k + 1) (O.set i r)) _
              unfold st23b
              rw [hM]
              conv => whnf
              repeat' (first | exact True.intro | rfl | refine And.intro ?_ ?_)
              all_goals (conv => whnf)
              repeat' (first | exact True.intro | rfl | refine And.intro ?_ ?_)
              all_goals (try omega)
              rw [show 0 + ((i : Nat) : Int).toNat = i by omega]
            · intro j (hj : j < i)
              show FlR (aF A) (aF B) j (min (j + 1) nh) ((O.set i r).getD j (0, 0))
              rw [getD_set (show i < O.length by omega), if_neg (show ¬ j = i by omega)]
              exact hF j hj
            · show FlR (aF A) (aF B) i (k + 1) ((O.set i r).getD i (0, 0))
              rw [getD_set (show i < O.length by omega), if_pos rfl]
              exact ⟨_, m, hL, hm, hr⟩
            · intro j (hj : i < j)
              show (O.set i r).getD j (0, 0) = (0, 0)
              rw [getD_set (show i < O.length by omega), if_neg (show ¬ j = i by omega)]
              exact hZ j hj
          · skip
            have hkg : k = M := by simp at hkg; omega
            conv => whnf
            repeat (first
              | (refine And.intro ?_ ?_; (focus (first | omega | decide | exact EqOk.mk (by kernel_rfl) (by kernel_rfl) (by kernel_rfl) | exact Int.natCast_nonneg _ | ((repeat' refine And.intro ?_ ?_) <;> first | omega | exact Int.natCast_nonneg _ | (simp only [i64max, u8max, u16max, u32max, u64max]; omega) | (simp only [mulSz_eq, Cont.len, colsLen, Col.len, List.length_cons, List.length_nil, List.length_replicate, List.length_append]; first | done | omega) | (simp [mulSz, Cont.len, bne]; first | done | omega)))); conv => whnf)
              | (refine tst_in ?_ ?_; (focus (intro h_; exfalso; first | omega | ((try simp only [decide_eq_true_eq, decide_eq_false_iff_not] at h_); omega) | (simp [mulSz, Cont.len, bne] at h_; first | done | omega))); intro _; conv => whnf)
              | (refine tst_in ?_ ?_; rotate_left; (focus (intro h_; exfalso; first | omega | ((try simp only [decide_eq_true_eq, decide_eq_false_iff_not] at h_); omega) | (simp [mulSz, Cont.len, bne] at h_; first | done | omega))); intro _; conv => whnf)
              | (refine ⟨0, (show _ = _ by omega), ?_⟩; conv => whnf))
            refine ⟨[0, 1, 2], ⟨i + 1, O⟩, ?_, ⟨(by show i + 1 ≤ n; omega), hO, ?_, fun j (hj : i + 1 ≤ j) => hZ j (by omega)⟩, (by show n - (i + 1) < n - i; omega)⟩
            · show stLe _ _ (st23 A B nh ch n cr (i + 1) O) _
              conv => whnf
              repeat' (first | exact True.intro | rfl | refine And.intro ?_ ?_)
              all_goals (conv => whnf)
              repeat' (first | exact True.intro | rfl | refine And.intro ?_ ?_)
              all_goals (try omega)
            · intro j (hj : j < i + 1)
              rcases Nat.lt_or_ge j i with q | q
              · exact hF j q
              · rw [show j = i by omega, hM, ← hkg]; exact hL
      · skip
        have hge : i = n := by simp at hge; omega
        subst hge
        conv => whnf
        repeat (first
          | (refine And.intro ?_ ?_; (focus (first | omega | decide | exact EqOk.mk (by kernel_rfl) (by kernel_rfl) (by kernel_rfl) | exact Int.natCast_nonneg _ | ((repeat' refine And.intro ?_ ?_) <;> first | omega | exact Int.natCast_nonneg _ | (simp only [i64max, u8max, u16max, u32max, u64max]; omega) | (simp only [mulSz_eq, Cont.len, colsLen, Col.len, List.length_cons, List.length_nil, List.length_replicate, List.length_append]; first | done | omega) | (simp [mulSz, Cont.len, bne]; first | done | omega)))); conv => whnf)
          | (refine tst_in ?_ ?_; (focus (intro h_; exfalso; first | omega | ((try simp only [decide_eq_true_eq, decide_eq_false_iff_not] at h_); omega) | (simp [mulSz, Cont.len, bne] at h_; first | done | omega))); intro _; conv => whnf)
          | (refine tst_in ?_ ?_; rotate_left; (focus (intro h_; exfalso; first | omega | ((try simp only [decide_eq_true_eq, decide_eq_false_iff_not] at h_); omega) | (simp [mulSz, Cont.len, bne] at h_; first | done | omega))); intro _; conv => whnf)
          | (refine ⟨0, (show _ = _ by omega), ?_⟩; conv => whnf))
        refine .inl ⟨O, [0, 1, 2], ?_⟩
        conv => whnf
        repeat' (first | exact True.intro | rfl | refine And.intro ?_ ?_)
        all_goals (conv => whnf)
        repeat' (first | exact True.intro | rfl | refine And.intro ?_ ?_)
        all_goals (try omega)
        exact hF
  · rcases h with h | h | h
    · conv => whnf
      repeat (first
        | (refine And.intro ?_ ?_; (focus (first | omega | decide | exact EqOk.mk (by kernel_rfl) (by kernel_rfl) (by kernel_rfl) | exact Int.natCast_nonneg _ | ((repeat' refine And.intro ?_ ?_) <;> first | omega | exact Int.natCast_nonneg _ | (simp only [i64max, u8max, u16max, u32max, u64max]; omega) | (simp only [mulSz_eq, Cont.len, colsLen, Col.len, List.length_cons, List.length_nil, List.length_replicate, List.length_append]; first | done | omega) | (simp [mulSz, Cont.len, bne]; first | done | omega)))); conv => whnf)
        | (refine tst_in ?_ ?_; (focus (intro h_; exfalso; first | omega | ((try simp only [decide_eq_true_eq, decide_eq_false_iff_not] at h_); omega) | (simp [mulSz, Cont.len, bne] at h_; first | done | omega))); intro _; conv => whnf)
        | (refine tst_in ?_ ?_; rotate_left; (focus (intro h_; exfalso; first | omega | ((try simp only [decide_eq_true_eq, decide_eq_false_iff_not] at h_); omega) | (simp [mulSz, Cont.len, bne] at h_; first | done | omega))); intro _; conv => whnf)
        | (refine ⟨0, (show _ = _ by omega), ?_⟩; conv => whnf))
      refine .inl ⟨[], [0, 1, 9], ?_⟩
      conv => whnf
      repeat' (first | exact True.intro | rfl | refine And.intro ?_ ?_)
      all_goals (conv => whnf)
      repeat' (first | exact True.intro | rfl | refine And.intro ?_ ?_)
      all_goals (try omega)
    · conv => whnf
      repeat (first
        | (refine And.intro ?_ ?_; (focus (first | omega | decide | exact EqOk.mk (by kernel_rfl) (by kernel_rfl) (by kernel_rfl) | exact Int.natCast_nonneg _ | ((repeat' refine And.intro ?_ ?_) <;> first | omega | exact Int.natCast_nonneg _ | (simp only [i64max, u8max, u16max, u32max, u64max]; omega) | (simp only [mulSz_eq, Cont.len, colsLen, Col.len, List.length_cons, List.length_nil, List.length_replicate, List.length_append]; first | done | omega) | (simp [mulSz, Cont.len, bne]; first | done | omega)))); conv => whnf)
        | (refine tst_in ?_ ?_; (focus (intro h_; exfalso; first | omega | ((try simp only [decide_eq_true_eq, decide_eq_false_iff_not] at h_); omega) | (simp [mulSz, Cont.len, bne] at h_; first | done | omega))); intro _; conv => whnf)
        | (refine tst_in ?_ ?_; rotate_left; (focus (intro h_; exfalso; first | omega | ((try simp only [decide_eq_true_eq, decide_eq_false_iff_not] at h_); omega) | (simp [mulSz, Cont.len, bne] at h_; first | done | omega))); intro _; conv => whnf)
        | (refine ⟨0, (show _ = _ by omega), ?_⟩; conv => whnf))
      refine .inl ⟨[], [0, 1, 9], ?_⟩
      conv => whnf
      repeat' (first | exact True.intro | rfl | refine And.intro ?_ ?_)
      all_goals (conv => whnf)
      repeat' (first | exact True.intro | rfl | refine And.intro ?_ ?_)
      all_goals (try omega)
    · rcases Nat.lt_or_ge nh 1 with g | g
      · conv => whnf
        repeat (first
          | (refine And.intro ?_ ?_; (focus (first | omega | decide | exact EqOk.mk (by kernel_rfl) (by kernel_rfl) (by kernel_rfl) | exact Int.natCast_nonneg _ | ((repeat' refine And.intro ?_ ?_) <;> first | omega | exact Int.natCast_nonneg _ | (simp only [i64max, u8max, u16max, u32max, u64max]; omega) | (simp only [mulSz_eq, Cont.len, colsLen, Col.len, List.length_cons, List.length_nil, List.length_replicate, List.length_append]; first | done | omega) | (simp [mulSz, Cont.len, bne]; first | done | omega)))); conv => whnf)
          | (refine tst_in ?_ ?_; (focus (intro h_; exfalso; first | omega | ((try simp only [decide_eq_true_eq, decide_eq_false_iff_not] at h_); omega) | (simp [mulSz, Cont.len, bne] at h_; first | done | omega))); intro _; conv => whnf)
          | (refine tst_in ?_ ?_; rotate_left; (focus (intro h_; exfalso; first | omega | ((try simp only [decide_eq_true_eq, decide_eq_false_iff_not] at h_); omega) | (simp [mulSz, Cont.len, bne] at h_; first | done | omega))); intro _; conv => whnf)
          | (refine ⟨0, (show _ = _ by omega), ?_⟩; conv => whnf))
        refine .inl ⟨[], [0, 1, 9], ?_⟩
        conv => whnf
        repeat' (first | exact True.intro | rfl | refine And.intro ?_ ?_)
        all_goals (conv => whnf)
        repeat' (first | exact True.intro | rfl | refine And.intro ?_ ?_)
        all_goals (try omega)
      · rcases Nat.lt_or_ge 64 nh with g2 | g2
        · conv => whnf
          repeat (first
            | (refine And.intro ?_ ?_; (focus (first | omega | decide | exact EqOk.mk (by kernel_rfl) (by kernel_rfl) (by kernel_rfl) | exact Int.natCast_nonneg _ | ((repeat' refine And.intro ?_ ?_) <;> first | omega | exact Int.natCast_nonneg _ | (simp only [i64max, u8max, u16max, u32max, u64max]; omega) | (simp only [mulSz_eq, Cont.len, colsLen, Col.len, List.length_cons, List.length_nil, List.length_replicate, List.length_append]; first | done | omega) | (simp [mulSz, Cont.len, bne]; first | done | omega)))); conv => whnf)
            | (refine tst_in ?_ ?_; (focus (intro h_; exfalso; first | omega | ((try simp only [decide_eq_true_eq, decide_eq_false_iff_not] at h_); omega) | (simp [mulSz, Cont.len, bne] at h_; first | done | omega))); intro _; conv => whnf)
            | (refine tst_in ?_ ?_; rotate_left; (focus (intro h_; exfalso; first | omega | ((try simp only [decide_eq_true_eq, decide_eq_false_iff_not] at h_); omega) | (simp [mulSz, Cont.len, bne] at h_; first | done | omega))); intro _; conv => whnf)
            | (refine ⟨0, (show _ = _ by omega), ?_⟩; conv => whnf))
          refine .inl ⟨[], [0, 1, 9], ?_⟩
          conv => whnf
          repeat' (first | exact True.intro | rfl | refine And.intro ?_ ?_)
          all_goals (conv => whnf)
          repeat' (first | exact True.intro | rfl | refine And.intro ?_ ?_)
          all_goals (try omega)
        · conv => whnf
          repeat (first
            | (refine And.intro ?_ ?_; (focus (first | omega | decide | exact EqOk.mk (by kernel_rfl) (by kernel_rfl) (by kernel_rfl) | exact Int.natCast_nonneg _ | ((repeat' refine And.intro ?_ ?_) <;> first | omega | exact Int.natCast_nonneg _ | (simp only [i64max, u8max, u16max, u32max, u64max]; omega) | (simp only [mulSz_eq, Cont.len, colsLen, Col.len, List.length_cons, List.length_nil, List.length_replicate, List.length_append]; first | done | omega) | (simp [mulSz, Cont.len, bne]; first | done | omega)))); conv => whnf)
            | (refine tst_in ?_ ?_; (focus (intro h_; exfalso; first | omega | ((try simp only [decide_eq_true_eq, decide_eq_false_iff_not] at h_); omega) | (simp [mulSz, Cont.len, bne] at h_; first | done | omega))); intro _; conv => whnf)
            | (refine tst_in ?_ ?_; rotate_left; (focus (intro h_; exfalso; first | omega | ((try simp only [decide_eq_true_eq, decide_eq_false_iff_not] at h_); omega) | (simp [mulSz, Cont.len, bne] at h_; first | done | omega))); intro _; conv => whnf)
            | (refine ⟨0, (show _ = _ by omega), ?_⟩; conv => whnf))
          refine .inl ⟨[], [0, 1, 9], ?_⟩
          conv => whnf
          repeat' (first | exact True.intro | rfl | refine And.intro ?_ ?_)
          all_goals (conv => whnf)
          repeat' (first | exact True.intro | rfl | refine And.intro ?_ ?_)
          all_goals (try omega)
end Go.Proofs.Ytfpebgcjmmhlpaa

set_option linter.unusedVariables false
set_option linter.unusedSimpArgs false
namespace Go.Proofs.Ytfpebgcjmmhlpaa
open Go Go.Fw
structure RG where
  i : Nat
  k : Nat
  O : YT
  s : Nat × Nat
def st24 (A B : YT) (nh ch N cr : Nat) (n : Nat) (O : YT) (t : Nat) : St :=
  ⟨slotsAt 58 [(0, .slice 0 0 nh ch), (1, .slice 1 0 N cr), (6, .slice 2 0 n (n + t)), (7, .int .i64 n)], [cxS false A, cxS false B, cxS true O]⟩
def inv24 (A B : YT) (nh ch N cr : Nat) : LInv := ⟨RG, fun x => st24 A B nh ch N cr x.i x.O x.k, fun x => x.i ≤ N ∧ x.O.length = x.i + x.k ∧ FlA A B nh x.i x.O, fun x => N - x.i⟩
def st24b (A B : YT) (nh ch N cr : Nat) (n : Nat) (O : YT) (t : Nat) (k : Nat) (s : Nat × Nat) : St :=
  ⟨slotsAt 58 [(0, .slice 0 0 nh ch), (1, .slice 1 0 N cr), (6, .slice 2 0 n (n + t)), (7, .int .i64 n), (8, .cpx .f64 s.1 s.2), (9, .int .i64 k)], [cxS false A, cxS false B, cxS true O]⟩
def inv24b (A B : YT) (nh ch N cr : Nat) (st : St) : LInv := ⟨RG, fun x => st24b A B nh ch N cr (natAt st 7) x.O x.i x.k x.s, fun x => x.k ≤ min (natAt st 7 + 1) nh ∧ x.O.length = natAt st 7 + x.i ∧ FlA A B nh (natAt st 7) x.O ∧ FlR (aF A) (aF B) (natAt st 7) x.k x.s, fun x => min (natAt st 7 + 1) nh - x.k⟩
def rflOut (A B : YT) (nh m : Nat) (e : Int) : FOut := ⟨Nat × YT, fun y => y.2.length = m + y.1 ∧ FlA A B nh m y.2, fun y => .tup [.slice 2 0 m (m + y.1), .int .i64 e], fun y => [.dead, .dead, cxS true y.2]⟩
theorem push_get {O t : YT} {i j : Nat} {x : Nat × Nat} (h : i ≤ O.length) (hj : j < i + 1) : (List.take i (List.drop 0 O) ++ [x] ++ t).getD j (0, 0) = if j < i then O.getD j (0, 0) else x := by
  rw [List.drop_zero, List.append_assoc]
  by_cases q : j < i
  · rw [if_pos q, List.getD_eq_getElem?_getD, List.getD_eq_getElem?_getD, List.getElem?_append_left (by rw [List.length_take]; omega), List.getElem?_take, if_pos q]
  · rw [if_neg q, List.getD_eq_getElem?_getD, List.getElem?_append_right (by rw [List.length_take]; omega), List.length_take, show j - min i O.length = 0 by omega]; rfl
set_option maxHeartbeats 0 in
set_option maxRecDepth 100000 in
theorem rFilter_f (A B : YT) (nh ch n cr m : Nat) (e : Int) (hA : nh ≤ A.length) (hch : nh ≤ ch) (hB : n ≤ B.length) (hcr : n ≤ cr) (hn1 : nh ≤ 8796093022208) (hn2 : n ≤ 8796093022208) (hm : dm nh n m e) :
    Fits Try.prog 24 ⟨[.slice 0 0 nh ch, .slice 1 0 n cr], [cxS false A, cxS false B], [rflOut A B nh m e]⟩ := by
  refine fits_of_body (C := { cfgr 2 with q := fun _ => false, plan := fun | 11 => some plan24 | _ => none, dep := fun | 9 => some (inv24b A B nh ch n cr) | _ => none }) (c := (Try.f24.body).getD .skip) (ts := [4, 5]) tokL mixedL (fun | 5 => some (inv24 A B nh ch n cr) | _ => none) (fun _ => none)
    Try.func24 (by kernel_rfl) (by kernel_rfl) (by kernel_rfl) (by kernel_rfl) rfl ?_
  rcases hm with ⟨h1, h2, h3, rfl, rfl⟩ | ⟨h, rfl, rfl⟩
  · conv => whnf
    repeat (first
      | (refine And.intro ?_ ?_; (focus (first | omega | decide | exact EqOk.mk (by kernel_rfl) (by kernel_rfl) (by kernel_rfl) | exact Int.natCast_nonneg _ | ((repeat' refine And.intro ?_ ?_) <;> first | omega | exact Int.natCast_nonneg _ | (simp only [i64max, u8max, u16max, u32max, u64max]; omega) | (simp only [mulSz_eq, Cont.len, colsLen, Col.len, List.length_cons, List.length_nil, List.length_replicate, List.length_append]; first | done | omega) | (simp [mulSz, Cont.len, bne]; first | done | omega)))); conv => whnf)
      | (refine tst_in ?_ ?_; (focus (intro h_; exfalso; first | omega | ((try simp only [decide_eq_true_eq, decide_eq_false_iff_not] at h_); omega) | (simp [mulSz, Cont.len, bne] at h_; first | done | omega))); intro _; conv => whnf)
      | (refine tst_in ?_ ?_; rotate_left; (focus (intro h_; exfalso; first | omega | ((try simp only [decide_eq_true_eq, decide_eq_false_iff_not] at h_); omega) | (simp [mulSz, Cont.len, bne] at h_; first | done | omega))); intro _; conv => whnf)
      | (refine ⟨0, (show _ = _ by omega), ?_⟩; conv => whnf))
    refine ⟨⟨[0, 1, 9], ⟨0, 0, [], (0, 0)⟩, ?_, ⟨Nat.zero_le _, rfl, fun i hi => absurd hi (Nat.not_lt_zero i)⟩⟩, ?_⟩
    · show stLe _ _ (st24 A B nh ch n cr 0 [] 0) _
      conv => whnf
      repeat' (first | exact True.intro | rfl | refine And.intro ?_ ?_)
      all_goals (conv => whnf)
      repeat' (first | exact True.intro | rfl | refine And.intro ?_ ?_)
      all_goals (try omega)
    · rintro ⟨i, t, O, s⟩ ⟨hi, hO, hF⟩
      have hi : i ≤ n := hi
      have hO : O.length = i + t := hO
      have hF : FlA A B nh i O := hF
      show forceSt (st24 A B nh ch n cr i O t) _
      conv => whnf
      refine tst_in (fun hlt => ?_) (fun hge => ?_)
      · skip
        have hlt : i < n := by simp at hlt; omega
        conv => whnf
        repeat (first
          | (refine And.intro ?_ ?_; (focus (first | omega | decide | exact EqOk.mk (by kernel_rfl) (by kernel_rfl) (by kernel_rfl) | exact Int.natCast_nonneg _ | ((repeat' refine And.intro ?_ ?_) <;> first | omega | exact Int.natCast_nonneg _ | (simp only [i64max, u8max, u16max, u32max, u64max]; omega) | (simp only [mulSz_eq, Cont.len, colsLen, Col.len, List.length_cons, List.length_nil, List.length_replicate, List.length_append]; first | done | omega) | (simp [mulSz, Cont.len, bne]; first | done | omega)))); conv => whnf)
          | (refine tst_in ?_ ?_; (focus (intro h_; exfalso; first | omega | ((try simp only [decide_eq_true_eq, decide_eq_false_iff_not] at h_); omega) | (simp [mulSz, Cont.len, bne] at h_; first | done | omega))); intro _; conv => whnf)
          | (refine tst_in ?_ ?_; rotate_left; (focus (intro h_; exfalso; first | omega | ((try simp only [decide_eq_true_eq, decide_eq_false_iff_not] at h_); omega) | (simp [mulSz, Cont.len, bne] at h_; first | done | omega))); intro _; conv => whnf)
          | (refine ⟨0, (show _ = _ by omega), ?_⟩; conv => whnf))
        refine ⟨⟨[0, 1, 2], ⟨t, 0, O, (0, 0)⟩, ?_, ⟨Nat.zero_le _, hO, hF, rfl⟩⟩, ?_⟩
        · show stLe _ _ (st24b A B nh ch n cr i O t 0 (0, 0)) _
          conv => whnf
          repeat' (first | exact True.intro | rfl | refine And.intro ?_ ?_)
          all_goals (conv => whnf)
          repeat' (first | exact True.intro | rfl | refine And.intro ?_ ?_)
          all_goals (try omega)
        · clear hO hF
          rintro ⟨t, k, O, s⟩ ⟨hk, hO, hF, hL⟩
          have hk : k ≤ min (i + 1) nh := hk
          have hO : O.length = i + t := hO
          have hF : FlA A B nh i O := hF
          have hL : FlR (aF A) (aF B) i k s := hL
          have hM1 : min (i + 1) nh ≤ i + 1 := Nat.min_le_left _ _
          have hM2 : min (i + 1) nh ≤ nh := Nat.min_le_right _ _
          show forceSt (st24b A B nh ch n cr i O t k s) _
          have body : ∀ _ : k < nh ∧ k ≤ i, k + 1 ≤ min (i + 1) nh := fun q => by rw [Nat.le_min]; omega
          conv => whnf
          refine tst_in (fun ha => ?_) (fun hb => ?_)
          · skip
            have ha : k < nh := by simp at ha; omega
            conv => whnf
            repeat (first
              | (refine And.intro ?_ ?_; (focus (first | omega | decide | exact EqOk.mk (by kernel_rfl) (by kernel_rfl) (by kernel_rfl) | exact Int.natCast_nonneg _ | ((repeat' refine And.intro ?_ ?_) <;> first | omega | exact Int.natCast_nonneg _ | (simp only [i64max, u8max, u16max, u32max, u64max]; omega) | (simp only [mulSz_eq, Cont.len, colsLen, Col.len, List.length_cons, List.length_nil, List.length_replicate, List.length_append]; first | done | omega) | (simp [mulSz, Cont.len, bne]; first | done | omega)))); conv => whnf)
              | (refine tst_in ?_ ?_; (focus (intro h_; exfalso; first | omega | ((try simp only [decide_eq_true_eq, decide_eq_false_iff_not] at h_); omega) | (simp [mulSz, Cont.len, bne] at h_; first | done | omega))); intro _; conv => whnf)
              | (refine tst_in ?_ ?_; rotate_left; (focus (intro h_; exfalso; first | omega | ((try simp only [decide_eq_true_eq, decide_eq_false_iff_not] at h_); omega) | (simp [mulSz, Cont.len, bne] at h_; first | done | omega))); intro _; conv => whnf)
              | (refine ⟨0, (show _ = _ by omega), ?_⟩; conv => whnf))
            refine tst_in (fun hc => ?_) (fun hd => ?_)
            · skip
              have hc : k ≤ i := by simp at hc; omega
              have MF := rMul_f (aF A k) (aF B (i - k))
              unfold mulOut aF at MF
              conv => whnf
              repeat (first
                | (refine And.intro ?_ ?_; (focus (first | omega | decide | exact EqOk.mk (by kernel_rfl) (by kernel_rfl) (by kernel_rfl) | exact Int.natCast_nonneg _ | ((repeat' refine And.intro ?_ ?_) <;> first | omega | exact Int.natCast_nonneg _ | (simp only [i64max, u8max, u16max, u32max, u64max]; omega) | (simp only [mulSz_eq, Cont.len, colsLen, Col.len, List.length_cons, List.length_nil, List.length_replicate, List.length_append]; first | done | omega) | (simp [mulSz, Cont.len, bne]; first | done | omega)))); conv => whnf)
                | (refine tst_in ?_ ?_; (focus (intro h_; exfalso; first | omega | ((try simp only [decide_eq_true_eq, decide_eq_false_iff_not] at h_); omega) | (simp [mulSz, Cont.len, bne] at h_; first | done | omega))); intro _; conv => whnf)
                | (refine tst_in ?_ ?_; rotate_left; (focus (intro h_; exfalso; first | omega | ((try simp only [decide_eq_true_eq, decide_eq_false_iff_not] at h_); omega) | (simp [mulSz, Cont.len, bne] at h_; first | done | omega))); intro _; conv => whnf)
                | (refine ⟨0, (show _ = _ by omega), ?_⟩; conv => whnf))
              rw [show 0 + ((k : Nat) : Int).toNat = k by omega, show 0 + (((i : Nat) : Int) - ((k : Nat) : Int)).toNat = i - k by omega]
              refine ⟨_, [], MF, ?_⟩
              conv => whnf
              iterate 2
               refine And.intro ?_ ?_
               focus
                conv => whnf
                repeat' (first | exact True.intro | rfl | refine And.intro ?_ ?_ | omega)
                all_goals (conv => whnf)
                all_goals (try (first | rfl | omega | (simp; done)))
              conv => whnf
              refine ⟨?_, True.intro⟩
              intro (m : Nat × Nat) _
              conv => whnf
              rename_i hm
              have hm : MuR (aF A k) (aF B (i - k)) m := hm
              have PF := radd_f s m
              unfold cpxOut at PF
              conv => whnf
              repeat (first
                | (refine And.intro ?_ ?_; (focus (first | omega | decide | exact EqOk.mk (by kernel_rfl) (by kernel_rfl) (by kernel_rfl) | exact Int.natCast_nonneg _ | ((repeat' refine And.intro ?_ ?_) <;> first | omega | exact Int.natCast_nonneg _ | (simp only [i64max, u8max, u16max, u32max, u64max]; omega) | (simp only [mulSz_eq, Cont.len, colsLen, Col.len, List.length_cons, List.length_nil, List.length_replicate, List.length_append]; first | done | omega) | (simp [mulSz, Cont.len, bne]; first | done | omega)))); conv => whnf)
                | (refine tst_in ?_ ?_; (focus (intro h_; exfalso; first | omega | ((try simp only [decide_eq_true_eq, decide_eq_false_iff_not] at h_); omega) | (simp [mulSz, Cont.len, bne] at h_; first | done | omega))); intro _; conv => whnf)
                | (refine tst_in ?_ ?_; rotate_left; (focus (intro h_; exfalso; first | omega | ((try simp only [decide_eq_true_eq, decide_eq_false_iff_not] at h_); omega) | (simp [mulSz, Cont.len, bne] at h_; first | done | omega))); intro _; conv => whnf)
                | (refine ⟨0, (show _ = _ by omega), ?_⟩; conv => whnf))
              refine ⟨_, [], PF, ?_⟩
              conv => whnf
              iterate 2
               refine And.intro ?_ ?_
               focus
                conv => whnf
                repeat' (first | exact True.intro | rfl | refine And.intro ?_ ?_ | omega)
                all_goals (conv => whnf)
                all_goals (try (first | rfl | omega | (simp; done)))
              conv => whnf
              refine ⟨?_, True.intro⟩
              intro (r : Nat × Nat) _
              conv => whnf
              rename_i hr
              have hr : AdR s m r := hr
              conv => whnf
              repeat (first
                | (refine And.intro ?_ ?_; (focus (first | omega | decide | exact EqOk.mk (by kernel_rfl) (by kernel_rfl) (by kernel_rfl) | exact Int.natCast_nonneg _ | ((repeat' refine And.intro ?_ ?_) <;> first | omega | exact Int.natCast_nonneg _ | (simp only [i64max, u8max, u16max, u32max, u64max]; omega) | (simp only [mulSz_eq, Cont.len, colsLen, Col.len, List.length_cons, List.length_nil, List.length_replicate, List.length_append]; first | done | omega) | (simp [mulSz, Cont.len, bne]; first | done | omega)))); conv => whnf)
                | (refine tst_in ?_ ?_; (focus (intro h_; exfalso; first | omega | ((try simp only [decide_eq_true_eq, decide_eq_false_iff_not] at h_); omega) | (simp [mulSz, Cont.len, bne] at h_; first | done | omega))); intro _; conv => whnf)
                | (refine tst_in ?_ ?_; rotate_left; (focus (intro h_; exfalso; first | omega | ((try simp only [decide_eq_true_eq, decide_eq_false_iff_not] at h_); omega) | (simp [mulSz, Cont.len, bne] at h_; first | done | omega))); intro _; conv => whnf)
                | (refine ⟨0, (show _ = _ by omega), ?_⟩; conv => whnf))
              have hk1 := body ⟨ha, hc⟩
              refine ⟨[0, 1, 2], ⟨t, k + 1, O, r⟩, ?_, ⟨hk1, hO, hF, ⟨s, m, hL, hm, hr⟩⟩, (by show min (i + 1) nh - (k + 1) < min (i + 1) nh - k; omega)⟩
              show stLe _ _ (st24b A B nh ch n cr i O t (k + 1) r) _
              conv => whnf
              repeat' (first | exact True.intro | rfl | refine And.intro ?_ ?_)
              all_goals (conv => whnf)
              repeat' (first | exact True.intro | rfl | refine And.intro ?_ ?_)
              all_goals (try omega)
            · skip
              have hd : i < k := by simp at hd; omega
              have hkM : k = min (i + 1) nh := by omega
              conv => whnf
              repeat (first
                | (refine And.intro ?_ ?_; (focus (first | omega | decide | exact EqOk.mk (by kernel_rfl) (by kernel_rfl) (by kernel_rfl) | exact Int.natCast_nonneg _ | ((repeat' refine And.intro ?_ ?_) <;> first | omega | exact Int.natCast_nonneg _ | (simp only [i64max, u8max, u16max, u32max, u64max]; omega) | (simp only [mulSz_eq, Cont.len, colsLen, Col.len, List.length_cons, List.length_nil, List.length_replicate, List.length_append, hO, List.length_take, List.length_drop]; first | done | omega) | (simp [mulSz, Cont.len, bne, hO, List.length_take, List.length_drop]; first | done | omega)))); conv => whnf)
                | (refine tst_in ?_ ?_; (focus (intro h_; exfalso; first | omega | ((try simp only [decide_eq_true_eq, decide_eq_false_iff_not] at h_); omega) | (simp [mulSz, Cont.len, bne, hO, List.length_take, List.length_drop] at h_; first | done | omega))); intro _; conv => whnf)
                | (refine tst_in ?_ ?_; rotate_left; (focus (intro h_; exfalso; first | omega | ((try simp only [decide_eq_true_eq, decide_eq_false_iff_not] at h_); omega) | (simp [mulSz, Cont.len, bne, hO, List.length_take, List.length_drop] at h_; first | done | omega))); intro _; conv => whnf)
                | (refine ⟨0, (show _ = _ by omega), ?_⟩; conv => whnf))
              intro t1
              conv => whnf
              repeat (first
                | (refine And.intro ?_ ?_; (focus (first | omega | decide | exact EqOk.mk (by kernel_rfl) (by kernel_rfl) (by kernel_rfl) | exact Int.natCast_nonneg _ | ((repeat' refine And.intro ?_ ?_) <;> first | omega | exact Int.natCast_nonneg _ | (simp only [i64max, u8max, u16max, u32max, u64max]; omega) | (simp only [mulSz_eq, Cont.len, colsLen, Col.len, List.length_cons, List.length_nil, List.length_replicate, List.length_append]; first | done | omega) | (simp [mulSz, Cont.len, bne]; first | done | omega)))); conv => whnf)
                | (refine tst_in ?_ ?_; (focus (intro h_; exfalso; first | omega | ((try simp only [decide_eq_true_eq, decide_eq_false_iff_not] at h_); omega) | (simp [mulSz, Cont.len, bne] at h_; first | done | omega))); intro _; conv => whnf)
                | (refine tst_in ?_ ?_; rotate_left; (focus (intro h_; exfalso; first | omega | ((try simp only [decide_eq_true_eq, decide_eq_false_iff_not] at h_); omega) | (simp [mulSz, Cont.len, bne] at h_; first | done | omega))); intro _; conv => whnf)
                | (refine ⟨0, (show _ = _ by omega), ?_⟩; conv => whnf))
              refine ⟨[0, 1, 4], ⟨i + 1, t1.length, List.take i (List.drop 0 O) ++ [(s.1, s.2)] ++ t1, (0, 0)⟩, ?_, ⟨(by show i + 1 ≤ n; omega), (by simp [hO]; omega), ?_⟩, (by show n - (i + 1) < n - i; omega)⟩
              · show stLe _ _ (st24 A B nh ch n cr (i + 1) _ t1.length) _
                conv => whnf
                repeat' (first | exact True.intro | rfl | refine And.intro ?_ ?_)
                all_goals (conv => whnf)
                repeat' (first | exact True.intro | rfl | refine And.intro ?_ ?_)
                all_goals (try omega)
              · intro j (hj : j < i + 1)
                show FlR (aF A) (aF B) j (min (j + 1) nh) ((List.take i (List.drop 0 O) ++ [(s.1, s.2)] ++ t1).getD j (0, 0))
                rw [push_get (show i ≤ O.length by omega) hj]
                by_cases q : j < i
                · rw [if_pos q]; exact hF j q
                · rw [if_neg q, show j = i by omega, ← hkM]; exact hL
          · skip
            have hb : nh ≤ k := by simp at hb; omega
            have hkM : k = min (i + 1) nh := by omega
            conv => whnf
            repeat (first
              | (refine And.intro ?_ ?_; (focus (first | omega | decide | exact EqOk.mk (by kernel_rfl) (by kernel_rfl) (by kernel_rfl) | exact Int.natCast_nonneg _ | ((repeat' refine And.intro ?_ ?_) <;> first | omega | exact Int.natCast_nonneg _ | (simp only [i64max, u8max, u16max, u32max, u64max]; omega) | (simp only [mulSz_eq, Cont.len, colsLen, Col.len, List.length_cons, List.length_nil, List.length_replicate, List.length_append, hO, List.length_take, List.length_drop]; first | done | omega) | (simp [mulSz, Cont.len, bne, hO, List.length_take, List.length_drop]; first | done | omega)))); conv => whnf)
              | (refine tst_in ?_ ?_; (focus (intro h_; exfalso; first | omega | ((try simp only [decide_eq_true_eq, decide_eq_false_iff_not] at h_); omega) | (simp [mulSz, Cont.len, bne, hO, List.length_take, List.length_drop] at h_; first | done | omega))); intro _; conv => whnf)
              | (refine tst_in ?_ ?_; rotate_left; (focus (intro h_; exfalso; first | omega | ((try simp only [decide_eq_true_eq, decide_eq_false_iff_not] at h_); omega) | (simp [mulSz, Cont.len, bne, hO, List.length_take, List.length_drop] at h_; first | done | omega))); intro _; conv => whnf)
              | (refine ⟨0, (show _ = _ by omega), ?_⟩; conv => whnf))
            intro t1
            conv => whnf
            repeat (first
              | (refine And.intro ?_ ?_; (focus (first | omega | decide | exact EqOk.mk (by kernel_rfl) (by kernel_rfl) (by kernel_rfl) | exact Int.natCast_nonneg _ | ((repeat' refine And.intro ?_ ?_) <;> first | omega | exact Int.natCast_nonneg _ | (simp only [i64max, u8max, u16max, u32max, u64max]; omega) | (simp only [mulSz_eq, Cont.len, colsLen, Col.len, List.length_cons, List.length_nil, List.length_replicate, List.length_append]; first | done | omega) | (simp [mulSz, Cont.len, bne]; first | done | omega)))); conv => whnf)
              | (refine tst_in ?_ ?_; (focus (intro h_; exfalso; first | omega | ((try simp only [decide_eq_true_eq, decide_eq_false_iff_not] at h_); omega) | (simp [mulSz, Cont.len, bne] at h_; first | done | omega))); intro _; conv => whnf)
              | (refine tst_in ?_ ?_; rotate_left; (focus (intro h_; exfalso; first | omega | ((try simp only [decide_eq_true_eq, decide_eq_false_iff_not] at h_); omega) | (simp [mulSz, Cont.len, bne] at h_; first | done | omega))); intro _; conv => whnf)
              | (refine ⟨0, (show _ = _ by omega), ?_⟩; conv => whnf))
            refine ⟨[0, 1, 4], ⟨i + 1, t1.length, List.take i (List.drop 0 O) ++ [(s.1, s.2)] ++ t1, (0, 0)⟩, ?_, ⟨(by show i + 1 ≤ n; omega), (by simp [hO]; omega), ?_⟩, (by show n - (i + 1) < n - i; omega)⟩
            · show stLe _ _ (st24 A B nh ch n cr (i + 1) _ t1.length) _
              conv => whnf
              repeat' (first | exact True.intro | rfl | refine And.intro ?_ ?_)
              all_goals (conv => whnf)
              repeat' (first | exact True.intro | rfl | refine And.intro ?_ ?_)
              all_goals (try omega)
            · intro j (hj : j < i + 1)
              show FlR (aF A) (aF B) j (min (j + 1) nh) ((List.take i (List.drop 0 O) ++ [(s.1, s.2)] ++ t1).getD j (0, 0))
              rw [push_get (show i ≤ O.length by omega) hj]
              by_cases q : j < i
              · rw [if_pos q]; exact hF j q
              · rw [if_neg q, show j = i by omega, ← hkM]; exact hL
      · skip
        have hge : i = n := by simp at hge; omega
        subst hge
        conv => whnf
        repeat (first
          | (refine And.intro ?_ ?_; (focus (first | omega | decide | exact EqOk.mk (by kernel_rfl) (by kernel_rfl) (by kernel_rfl) | exact Int.natCast_nonneg _ | ((repeat' refine And.intro ?_ ?_) <;> first | omega | exact Int.natCast_nonneg _ | (simp only [i64max, u8max, u16max, u32max, u64max]; omega) | (simp only [mulSz_eq, Cont.len, colsLen, Col.len, List.length_cons, List.length_nil, List.length_replicate, List.length_append]; first | done | omega) | (simp [mulSz, Cont.len, bne]; first | done | omega)))); conv => whnf)
          | (refine tst_in ?_ ?_; (focus (intro h_; exfalso; first | omega | ((try simp only [decide_eq_true_eq, decide_eq_false_iff_not] at h_); omega) | (simp [mulSz, Cont.len, bne] at h_; first | done | omega))); intro _; conv => whnf)
          | (refine tst_in ?_ ?_; rotate_left; (focus (intro h_; exfalso; first | omega | ((try simp only [decide_eq_true_eq, decide_eq_false_iff_not] at h_); omega) | (simp [mulSz, Cont.len, bne] at h_; first | done | omega))); intro _; conv => whnf)
          | (refine ⟨0, (show _ = _ by omega), ?_⟩; conv => whnf))
        refine .inl ⟨(t, O), [0, 1, 2], ?_⟩
        conv => whnf
        repeat' (first | exact True.intro | rfl | refine And.intro ?_ ?_)
        all_goals (conv => whnf)
        repeat' (first | exact True.intro | rfl | refine And.intro ?_ ?_)
        all_goals (try omega)
        exact hF
  · rcases h with h | h | h
    · conv => whnf
      repeat (first
        | (refine And.intro ?_ ?_; (focus (first | omega | decide | exact EqOk.mk (by kernel_rfl) (by kernel_rfl) (by kernel_rfl) | exact Int.natCast_nonneg _ | ((repeat' refine And.intro ?_ ?_) <;> first | omega | exact Int.natCast_nonneg _ | (simp only [i64max, u8max, u16max, u32max, u64max]; omega) | (simp only [mulSz_eq, Cont.len, colsLen, Col.len, List.length_cons, List.length_nil, List.length_replicate, List.length_append]; first | done | omega) | (simp [mulSz, Cont.len, bne]; first | done | omega)))); conv => whnf)
        | (refine tst_in ?_ ?_; (focus (intro h_; exfalso; first | omega | ((try simp only [decide_eq_true_eq, decide_eq_false_iff_not] at h_); omega) | (simp [mulSz, Cont.len, bne] at h_; first | done | omega))); intro _; conv => whnf)
        | (refine tst_in ?_ ?_; rotate_left; (focus (intro h_; exfalso; first | omega | ((try simp only [decide_eq_true_eq, decide_eq_false_iff_not] at h_); omega) | (simp [mulSz, Cont.len, bne] at h_; first | done | omega))); intro _; conv => whnf)
        | (refine ⟨0, (show _ = _ by omega), ?_⟩; conv => whnf))
      refine .inl ⟨(0, []), [0, 1, 9], ?_⟩
      conv => whnf
      repeat' (first | exact True.intro | rfl | refine And.intro ?_ ?_)
      all_goals (conv => whnf)
      repeat' (first | exact True.intro | rfl | refine And.intro ?_ ?_)
      all_goals (try omega)
    · conv => whnf
      repeat (first
        | (refine And.intro ?_ ?_; (focus (first | omega | decide | exact EqOk.mk (by kernel_rfl) (by kernel_rfl) (by kernel_rfl) | exact Int.natCast_nonneg _ | ((repeat' refine And.intro ?_ ?_) <;> first | omega | exact Int.natCast_nonneg _ | (simp only [i64max, u8max, u16max, u32max, u64max]; omega) | (simp only [mulSz_eq, Cont.len, colsLen, Col.len, List.length_cons, List.length_nil, List.length_replicate, List.length_append]; first | done | omega) | (simp [mulSz, Cont.len, bne]; first | done | omega)))); conv => whnf)
        | (refine tst_in ?_ ?_; (focus (intro h_; exfalso; first | omega | ((try simp only [decide_eq_true_eq, decide_eq_false_iff_not] at h_); omega) | (simp [mulSz, Cont.len, bne] at h_; first | done | omega))); intro _; conv => whnf)
        | (refine tst_in ?_ ?_; rotate_left; (focus (intro h_; exfalso; first | omega | ((try simp only [decide_eq_true_eq, decide_eq_false_iff_not] at h_); omega) | (simp [mulSz, Cont.len, bne] at h_; first | done | omega))); intro _; conv => whnf)
        | (refine ⟨0, (show _ = _ by omega), ?_⟩; conv => whnf))
      refine .inl ⟨(0, []), [0, 1, 9], ?_⟩
      conv => whnf
      repeat' (first | exact True.intro | rfl | refine And.intro ?_ ?_)
      all_goals (conv => whnf)
      repeat' (first | exact True.intro | rfl | refine And.intro ?_ ?_)
      all_goals (try omega)
    · rcases Nat.lt_or_ge nh 1 with g | g
      · conv => whnf
        repeat (first
          | (refine And.intro ?_ ?_; (focus (first | omega | decide | exact EqOk.mk (by kernel_rfl) (by kernel_rfl) (by kernel_rfl) | exact Int.natCast_nonneg _ | ((repeat' refine And.intro ?_ ?_) <;> first | omega | exact Int.natCast_nonneg _ | (simp only [i64max, u8max, u16max, u32max, u64max]; omega) | (simp only [mulSz_eq, Cont.len, colsLen, Col.len, List.length_cons, List.length_nil, List.length_replicate, List.length_append]; first | done | omega) | (simp [mulSz, Cont.len, bne]; first | done | omega)))); conv => whnf)
          | (refine tst_in ?_ ?_; (focus (intro h_; exfalso; first | omega | ((try simp only [decide_eq_true_eq, decide_eq_false_iff_not] at h_); omega) | (simp [mulSz, Cont.len, bne] at h_; first | done | omega))); intro _; conv => whnf)
          | (refine tst_in ?_ ?_; rotate_left; (focus (intro h_; exfalso; first | omega | ((try simp only [decide_eq_true_eq, decide_eq_false_iff_not] at h_); omega) | (simp [mulSz, Cont.len, bne] at h_; first | done | omega))); intro _; conv => whnf)
          | (refine ⟨0, (show _ = _ by omega), ?_⟩; conv => whnf))
        refine .inl ⟨(0, []), [0, 1, 9], ?_⟩
        conv => whnf
        repeat' (first | exact True.intro | rfl | refine And.intro ?_ ?_)
        all_goals (conv => whnf)
        repeat' (first | exact True.intro | rfl | refine And.intro ?_ ?_)
        all_goals (try omega)
      · rcases Nat.lt_or_ge 64 nh with g2 | g2
        · conv => whnf
          repeat (first
            | (refine And.intro ?_ ?_; (focus (first | omega | decide | exact EqOk.mk (by kernel_rfl) (by kernel_rfl) (by kernel_rfl) | exact Int.natCast_nonneg _ | ((repeat' refine And.intro ?_ ?_) <;> first | omega | exact Int.natCast_nonneg _ | (simp only [i64max, u8max, u16max, u32max, u64max]; omega) | (simp only [mulSz_eq, Cont.len, colsLen, Col.len, List.length_cons, List.length_nil, List.length_replicate, List.length_append]; first | done | omega) | (simp [mulSz, Cont.len, bne]; first | done | omega)))); conv => whnf)
            | (refine tst_in ?_ ?_; (focus (intro h_; exfalso; first | omega | ((try simp only [decide_eq_true_eq, decide_eq_false_iff_not] at h_); omega) | (simp [mulSz, Cont.len, bne] at h_; first | done | omega))); intro _; conv => whnf)
            | (refine tst_in ?_ ?_; rotate_left; (focus (intro h_; exfalso; first | omega | ((try simp only [decide_eq_true_eq, decide_eq_false_iff_not] at h_); omega) | (simp [mulSz, Cont.len, bne] at h_; first | done | omega))); intro _; conv => whnf)
            | (refine ⟨0, (show _ = _ by omega), ?_⟩; conv => whnf))
          refine .inl ⟨(0, []), [0, 1, 9], ?_⟩
          conv => whnf
          repeat' (first | exact True.intro | rfl | refine And.intro ?_ ?_)
          all_goals (conv => whnf)
          repeat' (first | exact True.intro | rfl | refine And.intro ?_ ?_)
          all_goals (try omega)
        · conv => whnf
          repeat (first
            | (refine And.intro ?_ ?_; (focus (first | omega | decide | exact EqOk.mk (by kernel_rfl) (by kernel_rfl) (by kernel_rfl) | exact Int.natCast_nonneg _ | ((repeat' refine And.intro ?_ ?_) <;> first | omega | exact Int.natCast_nonneg _ | (simp only [i64max, u8max, u16max, u32max, u64max]; omega) | (simp only [mulSz_eq, Cont.len, colsLen, Col.len, List.length_cons, List.length_nil, List.length_replicate, List.length_append]; first | done | omega) | (simp [mulSz, Cont.len, bne]; first | done | omega)))); conv => whnf)
            | (refine tst_in ?_ ?_; (focus (intro h_; exfalso; first | omega | ((try simp only [decide_eq_true_eq, decide_eq_false_iff_not] at h_); omega) | (simp [mulSz, Cont.len, bne] at h_; first | done | omega))); intro _; conv => whnf)
            | (refine tst_in ?_ ?_; rotate_left; (focus (intro h_; exfalso; first | omega | ((try simp only [decide_eq_true_eq, decide_eq_false_iff_not] at h_); omega) | (simp [mulSz, Cont.len, bne] at h_; first | done | omega))); intro _; conv => whnf)
            | (refine ⟨0, (show _ = _ by omega), ?_⟩; conv => whnf))
          refine .inl ⟨(0, []), [0, 1, 9], ?_⟩
          conv => whnf
          repeat' (first | exact True.intro | rfl | refine And.intro ?_ ?_)
          all_goals (conv => whnf)
          repeat' (first | exact True.intro | rfl | refine And.intro ?_ ?_)
          all_goals (try omega)
end Go.Proofs.Ytfpebgcjmmhlpaa

set_option linter.unusedVariables false
set_option linter.unusedSimpArgs false
namespace Go.Proofs.Ytfpebgcjmmhlpaa
open Go Go.Fw
structure RR where
  i : Nat
  L : Nat
  u : Nat
  t : Nat
  X : YT
  O2 : YT
  O3 : YT
structure PR (m t : Nat) (O2 O3 : YT) : Prop where
  l2 : O2.length = m + t
  l3 : O3.length = m
  al : ∀ i, i < m → Al2 (aF O3 i) (aF O2 i)
def st7 (G R H W : YT) (m i t : Nat) (X O2 O3 : YT) : St :=
  ⟨slotsAt 71 [(9, .slice 4 0 m m), (11, .slice 5 0 m (m + t)), (13, .slice 6 0 m m), (15, .int .i64 i)], [cxS false G, cxS false R, cxS false H, cxS false W, cxS true X, cxS true O2, cxS true O3]⟩
def inv7 (G R H W : YT) (m : Nat) : LInv := ⟨RR, fun x => st7 G R H W m x.i x.t x.X x.O2 x.O3, fun x => x.i ≤ m ∧ x.X.length = m ∧ PR m x.t x.O2 x.O3, fun x => m - x.i⟩
def st11 (G R H W : YT) (m i L u t : Nat) (X O2 O3 : YT) : St :=
  ⟨slotsAt 71 [(9, .slice 4 0 L (L + u)), (11, .slice 5 0 m (m + t)), (13, .slice 6 0 m m), (16, .int .i64 i)], [cxS false G, cxS false R, cxS false H, cxS false W, cxS true X, cxS true O2, cxS true O3]⟩
def inv11 (G R H W : YT) (m : Nat) : LInv := ⟨RR, fun x => st11 G R H W m x.i x.L x.u x.t x.X x.O2 x.O3, fun x => x.i ≤ 20 ∧ x.X.length = x.L + x.u ∧ x.L = m + x.i ∧ PR m x.t x.O2 x.O3, fun x => 20 - x.i⟩
theorem fl_al {G R H W : YT} {nh n m : Nat} {O1 O2 : YT} (hG : ∀ i, i < nh → aF G i = aF H i) (hR : ∀ i, i < n → aF R i = aF W i) (hm : m ≤ n) (h1 : FlA G R nh m O1) (h2 : FlA H W nh m O2) : ∀ i, i < m → Al2 (aF O1 i) (aF O2 i) :=
  fun i hi => FlR.al (Nat.min_le_left _ _) (fun j hj => hG j (by omega)) (fun j hj => hR j (by omega)) (h1 i hi) (h2 i hi)
set_option maxHeartbeats 0 in
set_option maxRecDepth 100000 in
theorem rows_f (G R H W : YT) (nh n cg cr ch cw : Nat) (hG : nh ≤ G.length) (hR : n ≤ R.length) (hH : nh ≤ H.length) (hW : n ≤ W.length) (hcg : nh ≤ cg) (hcr : n ≤ cr) (hch : nh ≤ ch) (hcw : n ≤ cw)
    (hn1 : nh ≤ 8796093022208) (hn2 : n ≤ 8796093022208) (eG : ∀ i, i < nh → aF G i = aF H i) (eR : ∀ i, i < n → aF R i = aF W i) :
    Fits Try.prog 20 ⟨[.slice 0 0 nh cg, .slice 1 0 n cr, .slice 2 0 nh ch, .slice 3 0 n cw], [cxS false G, cxS false R, cxS false H, cxS false W], [numOut [.dead, .dead, .dead, .dead] (.bool true)]⟩ := by
  obtain ⟨m, e, hm⟩ : ∃ m e, dm nh n m e := by
    by_cases h : 1 ≤ nh ∧ nh ≤ 64 ∧ n ≤ 65536
    · exact ⟨n, 0, .inl ⟨h.1, h.2.1, h.2.2, rfl, rfl⟩⟩
    · exact ⟨0, 1, .inr ⟨by omega, rfl, rfl⟩⟩
  have hmn : m ≤ n ∧ m ≤ 65536 := by rcases hm with h | h <;> omega
  have F1 := Filter_f G R nh cg n cr m e hG hcg hR hcr hn1 hn2 hm
  have F2 := rFilter_f H W nh ch n cw m e hH hch hW hcw hn1 hn2 hm
  have S1 := Sum_f R n cr hR hcr hn2
  have S2 := rSum_f W n cw hW hcw hn2
  unfold flOut at F1
  unfold rflOut at F2
  unfold cpxOut at S1 S2
  refine fits_of_body (C := cfgr 4) (c := (Try.f20.body).getD .skip) (ts := [8]) tokL mixedL (fun | 7 => some (inv7 G R H W m) | 11 => some (inv11 G R H W m) | _ => none) (fun _ => none)
    Try.func20 (by kernel_rfl) (by kernel_rfl) (by kernel_rfl) (by kernel_rfl) rfl ?_
  conv => whnf
  repeat (first
    | (refine And.intro ?_ ?_; (focus (first | omega | decide | exact EqOk.mk (by kernel_rfl) (by kernel_rfl) (by kernel_rfl) | exact Int.natCast_nonneg _ | ((repeat' refine And.intro ?_ ?_) <;> first | omega | exact Int.natCast_nonneg _ | (simp only [i64max, u8max, u16max, u32max, u64max]; omega) | (simp only [mulSz_eq, Cont.len, colsLen, Col.len, List.length_cons, List.length_nil, List.length_replicate, List.length_append]; first | done | omega) | (simp [mulSz, Cont.len, bne]; first | done | omega)))); conv => whnf)
    | (refine tst_in ?_ ?_; (focus (intro h_; exfalso; first | omega | ((try simp only [decide_eq_true_eq, decide_eq_false_iff_not] at h_); omega) | (simp [mulSz, Cont.len, bne] at h_; first | done | omega))); intro _; conv => whnf)
    | (refine tst_in ?_ ?_; rotate_left; (focus (intro h_; exfalso; first | omega | ((try simp only [decide_eq_true_eq, decide_eq_false_iff_not] at h_); omega) | (simp [mulSz, Cont.len, bne] at h_; first | done | omega))); intro _; conv => whnf)
    | (refine ⟨0, (show _ = _ by omega), ?_⟩; conv => whnf))
  refine ⟨_, [0, 1], F1, ?_⟩
  conv => whnf
  iterate 2
   refine And.intro ?_ ?_
   focus
    conv => whnf
    repeat' (first | exact True.intro | rfl | refine And.intro ?_ ?_ | omega)
    all_goals (conv => whnf)
    all_goals (try (first | rfl | omega | (simp; done)))
  conv => whnf
  refine ⟨?_, True.intro⟩
  intro (O1 : YT) _
  conv => whnf
  rename_i h1
  obtain ⟨l1, h1⟩ := h1
  have l1 : O1.length = m := l1
  have h1 : FlA G R nh m O1 := h1
  conv => whnf
  repeat (first
    | (refine And.intro ?_ ?_; (focus (first | omega | decide | exact EqOk.mk (by kernel_rfl) (by kernel_rfl) (by kernel_rfl) | exact Int.natCast_nonneg _ | ((repeat' refine And.intro ?_ ?_) <;> first | omega | exact Int.natCast_nonneg _ | (simp only [i64max, u8max, u16max, u32max, u64max]; omega) | (simp only [mulSz_eq, Cont.len, colsLen, Col.len, List.length_cons, List.length_nil, List.length_replicate, List.length_append]; first | done | omega) | (simp [mulSz, Cont.len, bne]; first | done | omega)))); conv => whnf)
    | (refine tst_in ?_ ?_; (focus (intro h_; exfalso; first | omega | ((try simp only [decide_eq_true_eq, decide_eq_false_iff_not] at h_); omega) | (simp [mulSz, Cont.len, bne] at h_; first | done | omega))); intro _; conv => whnf)
    | (refine tst_in ?_ ?_; rotate_left; (focus (intro h_; exfalso; first | omega | ((try simp only [decide_eq_true_eq, decide_eq_false_iff_not] at h_); omega) | (simp [mulSz, Cont.len, bne] at h_; first | done | omega))); intro _; conv => whnf)
    | (refine ⟨0, (show _ = _ by omega), ?_⟩; conv => whnf))
  refine ⟨_, [2, 3], F2, ?_⟩
  conv => whnf
  iterate 2
   refine And.intro ?_ ?_
   focus
    conv => whnf
    repeat' (first | exact True.intro | rfl | refine And.intro ?_ ?_ | omega)
    all_goals (conv => whnf)
    all_goals (try (first | rfl | omega | (simp; done)))
  conv => whnf
  refine ⟨?_, True.intro⟩
  intro (y2 : Nat × YT) _
  conv => whnf
  obtain ⟨t, O2⟩ := y2
  rename_i h2
  obtain ⟨l2, h2⟩ := h2
  have l2 : O2.length = m + t := l2
  have h2 : FlA H W nh m O2 := h2
  conv => whnf
  repeat (first
    | (refine And.intro ?_ ?_; (focus (first | omega | decide | exact EqOk.mk (by kernel_rfl) (by kernel_rfl) (by kernel_rfl) | exact Int.natCast_nonneg _ | ((repeat' refine And.intro ?_ ?_) <;> first | omega | exact Int.natCast_nonneg _ | (simp only [i64max, u8max, u16max, u32max, u64max]; omega) | (simp only [mulSz_eq, Cont.len, colsLen, Col.len, List.length_cons, List.length_nil, List.length_replicate, List.length_append]; first | done | omega) | (simp [mulSz, Cont.len, bne]; first | done | omega)))); conv => whnf)
    | (refine tst_in ?_ ?_; (focus (intro h_; exfalso; first | omega | ((try simp only [decide_eq_true_eq, decide_eq_false_iff_not] at h_); omega) | (simp [mulSz, Cont.len, bne] at h_; first | done | omega))); intro _; conv => whnf)
    | (refine tst_in ?_ ?_; rotate_left; (focus (intro h_; exfalso; first | omega | ((try simp only [decide_eq_true_eq, decide_eq_false_iff_not] at h_); omega) | (simp [mulSz, Cont.len, bne] at h_; first | done | omega))); intro _; conv => whnf)
    | (refine ⟨0, (show _ = _ by omega), ?_⟩; conv => whnf))
  refine ⟨_, [0, 1], F1, ?_⟩
  conv => whnf
  iterate 2
   refine And.intro ?_ ?_
   focus
    conv => whnf
    repeat' (first | exact True.intro | rfl | refine And.intro ?_ ?_ | omega)
    all_goals (conv => whnf)
    all_goals (try (first | rfl | omega | (simp; done)))
  conv => whnf
  refine ⟨?_, True.intro⟩
  intro (O3 : YT) _
  conv => whnf
  rename_i h3
  obtain ⟨l3, h3⟩ := h3
  have l3 : O3.length = m := l3
  have h3 : FlA G R nh m O3 := h3
  have Q1 := SameRow_q O1 O2 m m (m + t) (by omega) (by omega) (by omega) (by omega) (by omega) (fl_al eG eR hmn.1 h1 h2)
  have P3 : PR m t O2 O3 := ⟨l2, l3, fl_al eG eR hmn.1 h3 h2⟩
  conv => whnf
  repeat (first
    | (refine And.intro ?_ ?_; (focus (first | omega | decide | exact EqOk.mk (by kernel_rfl) (by kernel_rfl) (by kernel_rfl) | exact Int.natCast_nonneg _ | ((repeat' refine And.intro ?_ ?_) <;> first | omega | exact Int.natCast_nonneg _ | (simp only [i64max, u8max, u16max, u32max, u64max]; omega) | (simp only [mulSz_eq, Cont.len, colsLen, Col.len, List.length_cons, List.length_nil, List.length_replicate, List.length_append]; first | done | omega) | (simp [mulSz, Cont.len, bne]; first | done | omega)))); conv => whnf)
    | (refine tst_in ?_ ?_; (focus (intro h_; exfalso; first | omega | ((try simp only [decide_eq_true_eq, decide_eq_false_iff_not] at h_); omega) | (simp [mulSz, Cont.len, bne] at h_; first | done | omega))); intro _; conv => whnf)
    | (refine tst_in ?_ ?_; rotate_left; (focus (intro h_; exfalso; first | omega | ((try simp only [decide_eq_true_eq, decide_eq_false_iff_not] at h_); omega) | (simp [mulSz, Cont.len, bne] at h_; first | done | omega))); intro _; conv => whnf)
    | (refine ⟨0, (show _ = _ by omega), ?_⟩; conv => whnf))
  rw [show (decide (e = e)) = true from decide_eq_true rfl]
  conv => whnf
  repeat (first
    | (refine And.intro ?_ ?_; (focus (first | omega | decide | exact EqOk.mk (by kernel_rfl) (by kernel_rfl) (by kernel_rfl) | exact Int.natCast_nonneg _ | ((repeat' refine And.intro ?_ ?_) <;> first | omega | exact Int.natCast_nonneg _ | (simp only [i64max, u8max, u16max, u32max, u64max]; omega) | (simp only [mulSz_eq, Cont.len, colsLen, Col.len, List.length_cons, List.length_nil, List.length_replicate, List.length_append]; first | done | omega) | (simp [mulSz, Cont.len, bne]; first | done | omega)))); conv => whnf)
    | (refine tst_in ?_ ?_; (focus (intro h_; exfalso; first | omega | ((try simp only [decide_eq_true_eq, decide_eq_false_iff_not] at h_); omega) | (simp [mulSz, Cont.len, bne] at h_; first | done | omega))); intro _; conv => whnf)
    | (refine tst_in ?_ ?_; rotate_left; (focus (intro h_; exfalso; first | omega | ((try simp only [decide_eq_true_eq, decide_eq_false_iff_not] at h_); omega) | (simp [mulSz, Cont.len, bne] at h_; first | done | omega))); intro _; conv => whnf)
    | (refine ⟨0, (show _ = _ by omega), ?_⟩; conv => whnf))
  refine ⟨_, [4, 5], Q1, ?_⟩
  conv => whnf
  iterate 2
   refine And.intro ?_ ?_
   focus
    conv => whnf
    repeat' (first | exact True.intro | rfl | refine And.intro ?_ ?_)
    all_goals (conv => whnf)
    repeat' (first | exact True.intro | rfl | refine And.intro ?_ ?_)
    all_goals (try (first | rfl | omega | (simp; first | done | omega)))
  conv => whnf
  conv => whnf
  repeat (first
    | (refine And.intro ?_ ?_; (focus (first | omega | decide | exact EqOk.mk (by kernel_rfl) (by kernel_rfl) (by kernel_rfl) | exact Int.natCast_nonneg _ | ((repeat' refine And.intro ?_ ?_) <;> first | omega | exact Int.natCast_nonneg _ | (simp only [i64max, u8max, u16max, u32max, u64max]; omega) | (simp only [mulSz_eq, Cont.len, colsLen, Col.len, List.length_cons, List.length_nil, List.length_replicate, List.length_append]; first | done | omega) | (simp [mulSz, Cont.len, bne]; first | done | omega)))); conv => whnf)
    | (refine tst_in ?_ ?_; (focus (intro h_; exfalso; first | omega | ((try simp only [decide_eq_true_eq, decide_eq_false_iff_not] at h_); omega) | (simp [mulSz, Cont.len, bne] at h_; first | done | omega))); intro _; conv => whnf)
    | (refine tst_in ?_ ?_; rotate_left; (focus (intro h_; exfalso; first | omega | ((try simp only [decide_eq_true_eq, decide_eq_false_iff_not] at h_); omega) | (simp [mulSz, Cont.len, bne] at h_; first | done | omega))); intro _; conv => whnf)
    | (refine ⟨0, (show _ = _ by omega), ?_⟩; conv => whnf))
  refine ⟨_, [1], S1, ?_⟩
  conv => whnf
  iterate 2
   refine And.intro ?_ ?_
   focus
    conv => whnf
    repeat' (first | exact True.intro | rfl | refine And.intro ?_ ?_ | omega)
    all_goals (conv => whnf)
    all_goals (try (first | rfl | omega | (simp; done)))
  conv => whnf
  refine ⟨?_, True.intro⟩
  intro (s1 : Nat × Nat) _
  conv => whnf
  rename_i q1
  have q1 : SumR (aF R) n s1 := q1
  conv => whnf
  repeat (first
    | (refine And.intro ?_ ?_; (focus (first | omega | decide | exact EqOk.mk (by kernel_rfl) (by kernel_rfl) (by kernel_rfl) | exact Int.natCast_nonneg _ | ((repeat' refine And.intro ?_ ?_) <;> first | omega | exact Int.natCast_nonneg _ | (simp only [i64max, u8max, u16max, u32max, u64max]; omega) | (simp only [mulSz_eq, Cont.len, colsLen, Col.len, List.length_cons, List.length_nil, List.length_replicate, List.length_append]; first | done | omega) | (simp [mulSz, Cont.len, bne]; first | done | omega)))); conv => whnf)
    | (refine tst_in ?_ ?_; (focus (intro h_; exfalso; first | omega | ((try simp only [decide_eq_true_eq, decide_eq_false_iff_not] at h_); omega) | (simp [mulSz, Cont.len, bne] at h_; first | done | omega))); intro _; conv => whnf)
    | (refine tst_in ?_ ?_; rotate_left; (focus (intro h_; exfalso; first | omega | ((try simp only [decide_eq_true_eq, decide_eq_false_iff_not] at h_); omega) | (simp [mulSz, Cont.len, bne] at h_; first | done | omega))); intro _; conv => whnf)
    | (refine ⟨0, (show _ = _ by omega), ?_⟩; conv => whnf))
  refine ⟨_, [3], S2, ?_⟩
  conv => whnf
  iterate 2
   refine And.intro ?_ ?_
   focus
    conv => whnf
    repeat' (first | exact True.intro | rfl | refine And.intro ?_ ?_ | omega)
    all_goals (conv => whnf)
    all_goals (try (first | rfl | omega | (simp; done)))
  conv => whnf
  refine ⟨?_, True.intro⟩
  intro (s2 : Nat × Nat) _
  conv => whnf
  rename_i q2
  have q2 : SumR (aF W) n s2 := q2
  have SA := SumR.al eR q1 q2
  have Q2 := Same_q s1 s2 false SA.1 SA.2
  conv => whnf
  repeat (first
    | (refine And.intro ?_ ?_; (focus (first | omega | decide | exact EqOk.mk (by kernel_rfl) (by kernel_rfl) (by kernel_rfl) | exact Int.natCast_nonneg _ | ((repeat' refine And.intro ?_ ?_) <;> first | omega | exact Int.natCast_nonneg _ | (simp only [i64max, u8max, u16max, u32max, u64max]; omega) | (simp only [mulSz_eq, Cont.len, colsLen, Col.len, List.length_cons, List.length_nil, List.length_replicate, List.length_append]; first | done | omega) | (simp [mulSz, Cont.len, bne]; first | done | omega)))); conv => whnf)
    | (refine tst_in ?_ ?_; (focus (intro h_; exfalso; first | omega | ((try simp only [decide_eq_true_eq, decide_eq_false_iff_not] at h_); omega) | (simp [mulSz, Cont.len, bne] at h_; first | done | omega))); intro _; conv => whnf)
    | (refine tst_in ?_ ?_; rotate_left; (focus (intro h_; exfalso; first | omega | ((try simp only [decide_eq_true_eq, decide_eq_false_iff_not] at h_); omega) | (simp [mulSz, Cont.len, bne] at h_; first | done | omega))); intro _; conv => whnf)
    | (refine ⟨0, (show _ = _ by omega), ?_⟩; conv => whnf))
  refine ⟨_, [], Q2, ?_⟩
  conv => whnf
  iterate 2
   refine And.intro ?_ ?_
   focus
    conv => whnf
    repeat' (first | exact True.intro | rfl | refine And.intro ?_ ?_ | omega)
    all_goals (conv => whnf)
    all_goals (try (first | rfl | omega | (simp; done)))
  conv => whnf
  conv => whnf
  repeat (first
    | (refine And.intro ?_ ?_; (focus (first | omega | decide | exact EqOk.mk (by kernel_rfl) (by kernel_rfl) (by kernel_rfl) | exact Int.natCast_nonneg _ | ((repeat' refine And.intro ?_ ?_) <;> first | omega | exact Int.natCast_nonneg _ | (simp only [i64max, u8max, u16max, u32max, u64max]; omega) | (simp only [mulSz_eq, Cont.len, colsLen, Col.len, List.length_cons, List.length_nil, List.length_replicate, List.length_append]; first | done | omega) | (simp [mulSz, Cont.len, bne]; first | done | omega)))); conv => whnf)
    | (refine tst_in ?_ ?_; (focus (intro h_; exfalso; first | omega | ((try simp only [decide_eq_true_eq, decide_eq_false_iff_not] at h_); omega) | (simp [mulSz, Cont.len, bne] at h_; first | done | omega))); intro _; conv => whnf)
    | (refine tst_in ?_ ?_; rotate_left; (focus (intro h_; exfalso; first | omega | ((try simp only [decide_eq_true_eq, decide_eq_false_iff_not] at h_); omega) | (simp [mulSz, Cont.len, bne] at h_; first | done | omega))); intro _; conv => whnf)
    | (refine ⟨0, (show _ = _ by omega), ?_⟩; conv => whnf))
  refine ⟨⟨[0, 1, 2, 3, 4, 5, 6], ⟨0, 0, 0, t, O1, O2, O3⟩, ?_, ⟨Nat.zero_le _, l1, P3⟩⟩, ?_⟩
  · show stLe _ _ (st7 G R H W m 0 t O1 O2 O3) _
    conv => whnf
    repeat' (first | exact True.intro | rfl | refine And.intro ?_ ?_)
    all_goals (conv => whnf)
    repeat' (first | exact True.intro | rfl | refine And.intro ?_ ?_)
    all_goals (try omega)
  · clear P3 Q1 Q2 SA
    rintro ⟨i, _, _, t, X, O2, O3⟩ ⟨hi, hX, P⟩
    have hi : i ≤ m := hi
    have hX : X.length = m := hX
    have P : PR m t O2 O3 := P
    show forceSt (st7 G R H W m i t X O2 O3) _
    conv => whnf
    refine tst_in (fun hlt => ?_) (fun hge => ?_)
    · skip
      have hlt : i < m := by simp at hlt; omega
      conv => whnf
      repeat (first
        | (refine And.intro ?_ ?_; (focus (first | omega | decide | exact EqOk.mk (by kernel_rfl) (by kernel_rfl) (by kernel_rfl) | exact Int.natCast_nonneg _ | ((repeat' refine And.intro ?_ ?_) <;> first | omega | exact Int.natCast_nonneg _ | (simp only [i64max, u8max, u16max, u32max, u64max]; omega) | (simp only [mulSz_eq, Cont.len, colsLen, Col.len, List.length_cons, List.length_nil, List.length_replicate, List.length_append, hX]; first | done | omega) | (simp [mulSz, Cont.len, bne, hX]; first | done | omega)))); conv => whnf)
        | (refine tst_in ?_ ?_; (focus (intro h_; exfalso; first | omega | ((try simp only [decide_eq_true_eq, decide_eq_false_iff_not] at h_); omega) | (simp [mulSz, Cont.len, bne, hX] at h_; first | done | omega))); intro _; conv => whnf)
        | (refine tst_in ?_ ?_; rotate_left; (focus (intro h_; exfalso; first | omega | ((try simp only [decide_eq_true_eq, decide_eq_false_iff_not] at h_); omega) | (simp [mulSz, Cont.len, bne, hX] at h_; first | done | omega))); intro _; conv => whnf)
        | (refine ⟨0, (show _ = _ by omega), ?_⟩; conv => whnf))
      refine ⟨[0, 1, 2, 3, 4, 5, 6], ⟨i + 1, 0, 0, t, X.set i (0, 4617315517961601024), O2, O3⟩, ?_, ⟨(by show i + 1 ≤ m; omega), (by simp [hX]), P⟩, (by show m - (i + 1) < m - i; omega)⟩
      show stLe _ _ (st7 G R H W m (i + 1) t (X.set i (0, 4617315517961601024)) O2 O3) _
      conv => whnf
      repeat' (first | exact True.intro | rfl | refine And.intro ?_ ?_)
      all_goals (conv => whnf)
      repeat' (first | exact True.intro | rfl | refine And.intro ?_ ?_)
      all_goals (try omega)
      rw [show 0 + ((i : Nat) : Int).toNat = i by omega]
    · skip
      conv => whnf
      repeat (first
        | (refine And.intro ?_ ?_; (focus (first | omega | decide | exact EqOk.mk (by kernel_rfl) (by kernel_rfl) (by kernel_rfl) | exact Int.natCast_nonneg _ | ((repeat' refine And.intro ?_ ?_) <;> first | omega | exact Int.natCast_nonneg _ | (simp only [i64max, u8max, u16max, u32max, u64max]; omega) | (simp only [mulSz_eq, Cont.len, colsLen, Col.len, List.length_cons, List.length_nil, List.length_replicate, List.length_append]; first | done | omega) | (simp [mulSz, Cont.len, bne]; first | done | omega)))); conv => whnf)
        | (refine tst_in ?_ ?_; (focus (intro h_; exfalso; first | omega | ((try simp only [decide_eq_true_eq, decide_eq_false_iff_not] at h_); omega) | (simp [mulSz, Cont.len, bne] at h_; first | done | omega))); intro _; conv => whnf)
        | (refine tst_in ?_ ?_; rotate_left; (focus (intro h_; exfalso; first | omega | ((try simp only [decide_eq_true_eq, decide_eq_false_iff_not] at h_); omega) | (simp [mulSz, Cont.len, bne] at h_; first | done | omega))); intro _; conv => whnf)
        | (refine ⟨0, (show _ = _ by omega), ?_⟩; conv => whnf))
      refine ⟨⟨[0, 1, 2, 3, 4, 5, 6], ⟨0, m, 0, t, X, O2, O3⟩, ?_, ⟨Nat.zero_le _, hX, rfl, P⟩⟩, ?_⟩
      · show stLe _ _ (st11 G R H W m 0 m 0 t X O2 O3) _
        conv => whnf
        repeat' (first | exact True.intro | rfl | refine And.intro ?_ ?_)
        all_goals (conv => whnf)
        repeat' (first | exact True.intro | rfl | refine And.intro ?_ ?_)
        all_goals (try omega)
      · clear P hX
        rintro ⟨i, L, u, t, X, O2, O3⟩ ⟨hi, hX, hL, P⟩
        have hi : i ≤ 20 := hi
        have hX : X.length = L + u := hX
        have hL : L = m + i := hL
        have P : PR m t O2 O3 := P
        show forceSt (st11 G R H W m i L u t X O2 O3) _
        conv => whnf
        refine tst_in (fun hlt => ?_) (fun hge => ?_)
        · skip
          have hlt : i < 20 := by simp at hlt; omega
          conv => whnf
          repeat (first
            | (refine And.intro ?_ ?_; (focus (first | omega | decide | exact EqOk.mk (by kernel_rfl) (by kernel_rfl) (by kernel_rfl) | exact Int.natCast_nonneg _ | ((repeat' refine And.intro ?_ ?_) <;> first | omega | exact Int.natCast_nonneg _ | (simp only [i64max, u8max, u16max, u32max, u64max]; omega) | (simp only [mulSz_eq, Cont.len, colsLen, Col.len, List.length_cons, List.length_nil, List.length_replicate, List.length_append, hX, List.length_take, List.length_drop]; first | done | omega) | (simp [mulSz, Cont.len, bne, hX, List.length_take, List.length_drop]; first | done | omega)))); conv => whnf)
            | (refine tst_in ?_ ?_; (focus (intro h_; exfalso; first | omega | ((try simp only [decide_eq_true_eq, decide_eq_false_iff_not] at h_); omega) | (simp [mulSz, Cont.len, bne, hX, List.length_take, List.length_drop] at h_; first | done | omega))); intro _; conv => whnf)
            | (refine tst_in ?_ ?_; rotate_left; (focus (intro h_; exfalso; first | omega | ((try simp only [decide_eq_true_eq, decide_eq_false_iff_not] at h_); omega) | (simp [mulSz, Cont.len, bne, hX, List.length_take, List.length_drop] at h_; first | done | omega))); intro _; conv => whnf)
            | (refine ⟨0, (show _ = _ by omega), ?_⟩; conv => whnf))
          intro t1
          conv => whnf
          repeat (first
            | (refine And.intro ?_ ?_; (focus (first | omega | decide | exact EqOk.mk (by kernel_rfl) (by kernel_rfl) (by kernel_rfl) | exact Int.natCast_nonneg _ | ((repeat' refine And.intro ?_ ?_) <;> first | omega | exact Int.natCast_nonneg _ | (simp only [i64max, u8max, u16max, u32max, u64max]; omega) | (simp only [mulSz_eq, Cont.len, colsLen, Col.len, List.length_cons, List.length_nil, List.length_replicate, List.length_append]; first | done | omega) | (simp [mulSz, Cont.len, bne]; first | done | omega)))); conv => whnf)
            | (refine tst_in ?_ ?_; (focus (intro h_; exfalso; first | omega | ((try simp only [decide_eq_true_eq, decide_eq_false_iff_not] at h_); omega) | (simp [mulSz, Cont.len, bne] at h_; first | done | omega))); intro _; conv => whnf)
            | (refine tst_in ?_ ?_; rotate_left; (focus (intro h_; exfalso; first | omega | ((try simp only [decide_eq_true_eq, decide_eq_false_iff_not] at h_); omega) | (simp [mulSz, Cont.len, bne] at h_; first | done | omega))); intro _; conv => whnf)
            | (refine ⟨0, (show _ = _ by omega), ?_⟩; conv => whnf))
          refine ⟨[0, 1, 2, 3, 8, 5, 6], ⟨i + 1, L + 1, t1.length, t, List.take L (List.drop 0 X) ++ [(0, 4618441417868443648)] ++ t1, O2, O3⟩, ?_, ⟨(by show i + 1 ≤ 20; omega), (by simp [hX]; omega), (by show L + 1 = m + (i + 1); omega), P⟩, (by show 20 - (i + 1) < 20 - i; omega)⟩
          show stLe _ _ (st11 G R H W m (i + 1) (L + 1) t1.length t _ O2 O3) _
          conv => whnf
          repeat' (first | exact True.intro | rfl | refine And.intro ?_ ?_)
          all_goals (conv => whnf)
          repeat' (first | exact True.intro | rfl | refine And.intro ?_ ?_)
          all_goals (try omega)
        · skip
          have Q3 := SameRow_q O3 O2 m m (m + t) (by have := P.l3; omega) (by have := P.l2; omega) (by omega) (by omega) (by omega) P.al
          conv => whnf
          repeat (first
            | (refine And.intro ?_ ?_; (focus (first | omega | decide | exact EqOk.mk (by kernel_rfl) (by kernel_rfl) (by kernel_rfl) | exact Int.natCast_nonneg _ | ((repeat' refine And.intro ?_ ?_) <;> first | omega | exact Int.natCast_nonneg _ | (simp only [i64max, u8max, u16max, u32max, u64max]; omega) | (simp only [mulSz_eq, Cont.len, colsLen, Col.len, List.length_cons, List.length_nil, List.length_replicate, List.length_append]; first | done | omega) | (simp [mulSz, Cont.len, bne]; first | done | omega)))); conv => whnf)
            | (refine tst_in ?_ ?_; (focus (intro h_; exfalso; first | omega | ((try simp only [decide_eq_true_eq, decide_eq_false_iff_not] at h_); omega) | (simp [mulSz, Cont.len, bne] at h_; first | done | omega))); intro _; conv => whnf)
            | (refine tst_in ?_ ?_; rotate_left; (focus (intro h_; exfalso; first | omega | ((try simp only [decide_eq_true_eq, decide_eq_false_iff_not] at h_); omega) | (simp [mulSz, Cont.len, bne] at h_; first | done | omega))); intro _; conv => whnf)
            | (refine ⟨0, (show _ = _ by omega), ?_⟩; conv => whnf))
          refine ⟨_, [6, 5], Q3, ?_⟩
          conv => whnf
          iterate 2
           refine And.intro ?_ ?_
           focus
            conv => whnf
            repeat' (first | exact True.intro | rfl | refine And.intro ?_ ?_)
            all_goals (conv => whnf)
            repeat' (first | exact True.intro | rfl | refine And.intro ?_ ?_)
            all_goals (try (first | rfl | omega | (simp; first | done | omega)))
          conv => whnf
          conv => whnf
          repeat (first
            | (refine And.intro ?_ ?_; (focus (first | omega | decide | exact EqOk.mk (by kernel_rfl) (by kernel_rfl) (by kernel_rfl) | exact Int.natCast_nonneg _ | ((repeat' refine And.intro ?_ ?_) <;> first | omega | exact Int.natCast_nonneg _ | (simp only [i64max, u8max, u16max, u32max, u64max]; omega) | (simp only [mulSz_eq, Cont.len, colsLen, Col.len, List.length_cons, List.length_nil, List.length_replicate, List.length_append]; first | done | omega) | (simp [mulSz, Cont.len, bne]; first | done | omega)))); conv => whnf)
            | (refine tst_in ?_ ?_; (focus (intro h_; exfalso; first | omega | ((try simp only [decide_eq_true_eq, decide_eq_false_iff_not] at h_); omega) | (simp [mulSz, Cont.len, bne] at h_; first | done | omega))); intro _; conv => whnf)
            | (refine tst_in ?_ ?_; rotate_left; (focus (intro h_; exfalso; first | omega | ((try simp only [decide_eq_true_eq, decide_eq_false_iff_not] at h_); omega) | (simp [mulSz, Cont.len, bne] at h_; first | done | omega))); intro _; conv => whnf)
            | (refine ⟨0, (show _ = _ by omega), ?_⟩; conv => whnf))
          refine .inl ⟨(), [0, 1, 2, 3], ?_⟩
          conv => whnf
          repeat' (first | exact True.intro | rfl | refine And.intro ?_ ?_)
          all_goals (conv => whnf)
          repeat' (first | exact True.intro | rfl | refine And.intro ?_ ?_)
          all_goals (try omega)
end Go.Proofs.Ytfpebgcjmmhlpaa

set_option linter.unusedVariables false
set_option linter.unusedSimpArgs false
namespace Go.Proofs.Ytfpebgcjmmhlpaa
open Go Go.Fw
def parS (A B : List Nat) : Seg := .seg false (.cols [.flts .f64 A, .flts .f64 B])
def pF (A B : List Nat) (i : Nat) : Nat × Nat := (A.getD i 0, B.getD i 0)
theorem push_tb {α : Type} (F : Nat → α) (t t1 : List α) (i : Nat) (x : α) (hx : x = F i) : List.take i (List.drop 0 (tb F i ++ t)) ++ [x] ++ t1 = tb F (i + 1) ++ t1 := by
  rw [List.drop_zero, List.take_left' (tab_len F i), hx, tab_snoc]
def st19 (A B : List Nat) (n ca i : Nat) (t : YT) : St := ⟨slotsAt 20 [(0, .slice 0 0 n ca), (3, .slice 1 0 i (i + t.length)), (4, .int .i64 i)], [parS A B, cxS true (tb (pF A B) i ++ t)]⟩
def inv19 (A B : List Nat) (n ca : Nat) : LInv := ⟨Nat × YT, fun x => st19 A B n ca x.1 x.2, fun x => x.1 ≤ n, fun x => n - x.1⟩
def manyOut (A B : List Nat) (n : Nat) : FOut := ⟨YT, fun _ => True, fun y => .slice 1 0 n (n + y.length), fun y => [.dead, cxS true (tb (pF A B) n ++ y)]⟩
set_option maxHeartbeats 0 in
set_option maxRecDepth 100000 in
theorem many_f (A B : List Nat) (n ca : Nat) (hA : n ≤ A.length) (hB : n ≤ B.length) (hca : n ≤ ca) (hn : n ≤ 8796093022080) : Fits Try.prog 19 ⟨[.slice 0 0 n ca], [parS A B], [manyOut A B n]⟩ := by
  refine fits_of_body (C := { cfgr 1 with q := fun _ => false }) (c := (Try.f19.body).getD .skip) (ts := [2]) tokL mixedL (fun | 3 => some (inv19 A B n ca) | _ => none) (fun _ => none)
    Try.func19 (by kernel_rfl) (by kernel_rfl) (by kernel_rfl) (by kernel_rfl) rfl ?_
  conv => whnf
  repeat (first
    | (refine And.intro ?_ ?_; (focus (first | omega | decide | exact EqOk.mk (by kernel_rfl) (by kernel_rfl) (by kernel_rfl) | exact Int.natCast_nonneg _ | ((repeat' refine And.intro ?_ ?_) <;> first | omega | exact Int.natCast_nonneg _ | (simp only [i64max, u8max, u16max, u32max, u64max]; omega) | (simp only [mulSz_eq, Cont.len, colsLen, Col.len, List.length_cons, List.length_nil, List.length_replicate, List.length_append]; first | done | omega) | (simp [mulSz, Cont.len, bne]; first | done | omega)))); conv => whnf)
    | (refine tst_in ?_ ?_; (focus (intro h_; exfalso; first | omega | ((try simp only [decide_eq_true_eq, decide_eq_false_iff_not] at h_); omega) | (simp [mulSz, Cont.len, bne] at h_; first | done | omega))); intro _; conv => whnf)
    | (refine tst_in ?_ ?_; rotate_left; (focus (intro h_; exfalso; first | omega | ((try simp only [decide_eq_true_eq, decide_eq_false_iff_not] at h_); omega) | (simp [mulSz, Cont.len, bne] at h_; first | done | omega))); intro _; conv => whnf)
    | (refine ⟨0, (show _ = _ by omega), ?_⟩; conv => whnf))
  refine ⟨⟨[0, 9], (0, []), ?_, Nat.zero_le _⟩, ?_⟩
  · show stLe _ _ (st19 A B n ca 0 []) _
    conv => whnf
    repeat' (first | exact True.intro | rfl | refine And.intro ?_ ?_)
    all_goals (conv => whnf)
    repeat' (first | exact True.intro | rfl | refine And.intro ?_ ?_)
    all_goals (try omega)
  · rintro ⟨i, t⟩ hi
    have hi : i ≤ n := hi
    show forceSt (st19 A B n ca i t) _
    conv => whnf
    refine tst_in (fun hlt => ?_) (fun hge => ?_)
    · skip
      have hlt : i < n := by simp at hlt; omega
      have NF := number_f (A.getD i 0) (B.getD i 0)
      conv => whnf
      repeat (first
        | (refine And.intro ?_ ?_; (focus (first | omega | decide | exact EqOk.mk (by kernel_rfl) (by kernel_rfl) (by kernel_rfl) | exact Int.natCast_nonneg _ | ((repeat' refine And.intro ?_ ?_) <;> first | omega | exact Int.natCast_nonneg _ | (simp only [i64max, u8max, u16max, u32max, u64max]; omega) | (simp only [mulSz_eq, Cont.len, colsLen, Col.len, List.length_cons, List.length_nil, List.length_replicate, List.length_append]; first | done | omega) | (simp [mulSz, Cont.len, bne]; first | done | omega)))); conv => whnf)
        | (refine tst_in ?_ ?_; (focus (intro h_; exfalso; first | omega | ((try simp only [decide_eq_true_eq, decide_eq_false_iff_not] at h_); omega) | (simp [mulSz, Cont.len, bne] at h_; first | done | omega))); intro _; conv => whnf)
        | (refine tst_in ?_ ?_; rotate_left; (focus (intro h_; exfalso; first | omega | ((try simp only [decide_eq_true_eq, decide_eq_false_iff_not] at h_); omega) | (simp [mulSz, Cont.len, bne] at h_; first | done | omega))); intro _; conv => whnf)
        | (refine ⟨(i), (show _ = _ by omega), ?_⟩; conv => whnf)
        | (refine ⟨(i), 0, (show _ = _ by omega), ?_⟩; conv => whnf)
        | (refine ⟨(i), 1, (show _ = _ by omega), ?_⟩; conv => whnf)
        | (refine ⟨(i), 2, (show _ = _ by omega), ?_⟩; conv => whnf)
        | (refine ⟨(i), 3, (show _ = _ by omega), ?_⟩; conv => whnf)
        | (refine ⟨(i), 4, (show _ = _ by omega), ?_⟩; conv => whnf)
        | (refine ⟨(i), 5, (show _ = _ by omega), ?_⟩; conv => whnf)
        | (refine ⟨0, (show _ = _ by omega), ?_⟩; conv => whnf))
      refine ⟨_, [], NF, ?_⟩
      conv => whnf
      iterate 2
       refine And.intro ?_ ?_
       focus
        conv => whnf
        repeat' (first | exact True.intro | rfl | refine And.intro ?_ ?_ | omega)
        all_goals (conv => whnf)
        all_goals (try (first | rfl | omega | (simp; done)))
      conv => whnf
      refine ⟨?_, True.intro⟩
      intro _ _
      conv => whnf
      conv => whnf
      repeat (first
        | (refine And.intro ?_ ?_; (focus (first | omega | decide | exact EqOk.mk (by kernel_rfl) (by kernel_rfl) (by kernel_rfl) | exact Int.natCast_nonneg _ | ((repeat' refine And.intro ?_ ?_) <;> first | omega | exact Int.natCast_nonneg _ | (simp only [i64max, u8max, u16max, u32max, u64max]; omega) | (simp only [mulSz_eq, Cont.len, colsLen, Col.len, List.length_cons, List.length_nil, List.length_replicate, List.length_append, tab_len, List.length_take, List.length_drop]; first | done | omega) | (simp [mulSz, Cont.len, bne, tab_len, List.length_take, List.length_drop]; first | done | omega)))); conv => whnf)
        | (refine tst_in ?_ ?_; (focus (intro h_; exfalso; first | omega | ((try simp only [decide_eq_true_eq, decide_eq_false_iff_not] at h_); omega) | (simp [mulSz, Cont.len, bne, tab_len, List.length_take, List.length_drop] at h_; first | done | omega))); intro _; conv => whnf)
        | (refine tst_in ?_ ?_; rotate_left; (focus (intro h_; exfalso; first | omega | ((try simp only [decide_eq_true_eq, decide_eq_false_iff_not] at h_); omega) | (simp [mulSz, Cont.len, bne, tab_len, List.length_take, List.length_drop] at h_; first | done | omega))); intro _; conv => whnf)
        | (refine ⟨0, (show _ = _ by omega), ?_⟩; conv => whnf))
      intro t1
      conv => whnf
      repeat (first
        | (refine And.intro ?_ ?_; (focus (first | omega | decide | exact EqOk.mk (by kernel_rfl) (by kernel_rfl) (by kernel_rfl) | exact Int.natCast_nonneg _ | ((repeat' refine And.intro ?_ ?_) <;> first | omega | exact Int.natCast_nonneg _ | (simp only [i64max, u8max, u16max, u32max, u64max]; omega) | (simp only [mulSz_eq, Cont.len, colsLen, Col.len, List.length_cons, List.length_nil, List.length_replicate, List.length_append]; first | done | omega) | (simp [mulSz, Cont.len, bne]; first | done | omega)))); conv => whnf)
        | (refine tst_in ?_ ?_; (focus (intro h_; exfalso; first | omega | ((try simp only [decide_eq_true_eq, decide_eq_false_iff_not] at h_); omega) | (simp [mulSz, Cont.len, bne] at h_; first | done | omega))); intro _; conv => whnf)
        | (refine tst_in ?_ ?_; rotate_left; (focus (intro h_; exfalso; first | omega | ((try simp only [decide_eq_true_eq, decide_eq_false_iff_not] at h_); omega) | (simp [mulSz, Cont.len, bne] at h_; first | done | omega))); intro _; conv => whnf)
        | (refine ⟨0, (show _ = _ by omega), ?_⟩; conv => whnf))
      refine ⟨[0, 3], (i + 1, t1), ?_, (by show i + 1 ≤ n; omega), (by show n - (i + 1) < n - i; omega)⟩
      show stLe _ _ (st19 A B n ca (i + 1) t1) _
      conv => whnf
      repeat' (first | exact True.intro | rfl | refine And.intro ?_ ?_)
      all_goals (conv => whnf)
      repeat' (first | exact True.intro | rfl | refine And.intro ?_ ?_)
      all_goals (try omega)
      exact (push_tb (pF A B) t t1 i _ rfl).symm
    · skip
      have hge : i = n := by simp at hge; omega
      subst hge
      conv => whnf
      repeat (first
        | (refine And.intro ?_ ?_; (focus (first | omega | decide | exact EqOk.mk (by kernel_rfl) (by kernel_rfl) (by kernel_rfl) | exact Int.natCast_nonneg _ | ((repeat' refine And.intro ?_ ?_) <;> first | omega | exact Int.natCast_nonneg _ | (simp only [i64max, u8max, u16max, u32max, u64max]; omega) | (simp only [mulSz_eq, Cont.len, colsLen, Col.len, List.length_cons, List.length_nil, List.length_replicate, List.length_append]; first | done | omega) | (simp [mulSz, Cont.len, bne]; first | done | omega)))); conv => whnf)
        | (refine tst_in ?_ ?_; (focus (intro h_; exfalso; first | omega | ((try simp only [decide_eq_true_eq, decide_eq_false_iff_not] at h_); omega) | (simp [mulSz, Cont.len, bne] at h_; first | done | omega))); intro _; conv => whnf)
        | (refine tst_in ?_ ?_; rotate_left; (focus (intro h_; exfalso; first | omega | ((try simp only [decide_eq_true_eq, decide_eq_false_iff_not] at h_); omega) | (simp [mulSz, Cont.len, bne] at h_; first | done | omega))); intro _; conv => whnf)
        | (refine ⟨0, (show _ = _ by omega), ?_⟩; conv => whnf))
      refine .inl ⟨t, [0, 1], ?_⟩
      conv => whnf
      repeat' (first | exact True.intro | rfl | refine And.intro ?_ ?_)
      all_goals (conv => whnf)
      repeat' (first | exact True.intro | rfl | refine And.intro ?_ ?_)
      all_goals (try omega)
end Go.Proofs.Ytfpebgcjmmhlpaa

set_option linter.unusedVariables false
set_option linter.unusedSimpArgs false
namespace Go.Proofs.Ytfpebgcjmmhlpaa
open Go Go.Fw
def c7 : Nat × Nat := (0, 4619567317775286272)
def c9 : Nat × Nat := (0, 4621256167635550208)
theorem eq7 : (FloatKind.f64.format.order (0 : Nat) 0 == some Ordering.eq && FloatKind.f64.format.order 4619567317775286272 4619567317775286272 == some Ordering.eq) = true := by decide +kernel
theorem eq9 : (FloatKind.f64.format.order (0 : Nat) 0 == some Ordering.eq && FloatKind.f64.format.order 4621256167635550208 4621256167635550208 == some Ordering.eq) = true := by decide +kernel
theorem lent_row {α : Type} (F : Nat → α) (x : α) (t t1 t3 : List α) (n : Nat) : tb F n ++ x :: t3 =
    List.take (0 + n) (List.drop 0 (List.take 0 (List.drop 0 []) ++ List.take n (List.drop 0 (tb F n ++ t)) ++ t1)) ++ List.take 1 (List.drop 0 [x]) ++ t3 := by
  show _ = List.take (0 + n) ((([] : List α) ++ List.take n (tb F n ++ t)) ++ t1) ++ [x] ++ t3
  rw [Nat.zero_add, List.nil_append, List.take_left' (tab_len F n), List.take_left' (tab_len F n), List.append_assoc]; rfl
theorem at_n {α : Type} (F : Nat → α) (x z : α) (t : List α) (n : Nat) : (tb F n ++ x :: t).getD n z = x := by
  rw [List.getD_eq_getElem?_getD, List.getElem?_append_right (by rw [tab_len]; exact Nat.le_refl _), tab_len, Nat.sub_self]; rfl
structure R5 where
  y1 : YT
  y2 : YT
  t1 : YT
  t2 : YT
  i : Nat
def tF (F : Nat → Nat × Nat) (j : Nat) : Nat × Nat := ((F j).2, 4607182418800017408)
def mixF (F : Nat → Nat × Nat) (i j : Nat) : Nat × Nat := if j < i then tF F j else F j
def newF (F : Nat → Nat × Nat) (i j : Nat) : Nat × Nat := if j < i then tF F j else (0, 0)
def st5 (A B A' B' : List Nat) (nh n : Nat) (y1 y2 t1 t2 : YT) : St :=
  ⟨slotsAt 119 [(4, .bool false), (5, .slice 2 0 nh (nh + y1.length)), (6, .slice 3 0 n (n + y2.length)), (7, .slice 4 0 (nh + 1) (nh + 1 + t1.length)), (8, .slice 5 0 (n + 1) (n + 1 + t2.length))],
    [parS A B, parS A' B', cxS true (tb (pF A B) nh ++ y1), cxS true (tb (pF A' B') n ++ y2), cxS true (tb (pF A B) nh ++ c7 :: t1), cxS true (tb (pF A' B') n ++ c9 :: t2)]⟩
def cut5 (A B A' B' : List Nat) (nh n : Nat) : LInv := ⟨R5, fun x => st5 A B A' B' nh n x.y1 x.y2 x.t1 x.t2, fun _ => True, fun _ => 0⟩
def st9 (A B A' B' : List Nat) (nh n : Nat) (y1 y2 t1 t2 : YT) (i : Nat) : St :=
  ⟨slotsAt 119 [(5, .slice 2 0 nh (nh + y1.length)), (6, .slice 3 0 n (n + y2.length)), (7, .slice 4 0 (nh + 1) (nh + 1 + t1.length)), (8, .slice 5 0 (n + 1) (n + 1 + t2.length)), (9, .slice 6 0 n n), (10, .int .i64 i)],
    [parS A B, parS A' B', cxS true (tb (pF A B) nh ++ y1), cxS true (tb (pF A' B') n ++ y2), cxS true (tb (pF A B) nh ++ c7 :: t1), cxS true (tb (mixF (pF A' B') i) n ++ c9 :: t2), cxS true (tb (newF (pF A' B') i) n)]⟩
def inv9 (A B A' B' : List Nat) (nh n : Nat) : LInv := ⟨R5, fun x => st9 A B A' B' nh n x.y1 x.y2 x.t1 x.t2 x.i, fun x => x.i ≤ n, fun x => n - x.i⟩
def st16 (A B A' B' : List Nat) (nh n : Nat) (y1 y2 t1 t2 : YT) (i : Nat) : St :=
  ⟨slotsAt 119 [(5, .slice 2 0 nh (nh + y1.length)), (6, .slice 3 0 n (n + y2.length)), (7, .slice 4 0 (nh + 1) (nh + 1 + t1.length)), (8, .slice 5 0 (n + 1) (n + 1 + t2.length)), (9, .slice 6 0 n n), (11, .int .i64 i)],
    [parS A B, parS A' B', cxS true (tb (pF A B) nh ++ y1), cxS true (tb (pF A' B') n ++ y2), cxS true (tb (pF A B) nh ++ c7 :: t1), cxS true (tb (tF (pF A' B')) n ++ c9 :: t2), cxS true (tb (tF (pF A' B')) n)]⟩
def inv16 (A B A' B' : List Nat) (nh n : Nat) : LInv := ⟨R5, fun x => st16 A B A' B' nh n x.y1 x.y2 x.t1 x.t2 x.i, fun x => x.i ≤ nh, fun x => nh - x.i⟩
theorem tb_step {F G : Nat → Nat × Nat} {n i : Nat} {x : Nat × Nat} (hi : i < n) (hx : x = G i) (h : ∀ j, j ≠ i → F j = G j) : (tb F n).set i x = tb G n := by
  apply List.ext_getElem?
  intro j
  rw [List.getElem?_set, tab_len]
  by_cases q : i = j
  · subst q
    rw [if_pos rfl, if_pos hi]
    have : (tb G n)[i]? = some (G i) := by unfold tb; rw [List.getElem?_map, List.getElem?_range hi]; rfl
    rw [this, hx]
  · rw [if_neg q]
    unfold tb
    rw [List.getElem?_map, List.getElem?_map]
    rcases Nat.lt_or_ge j n with h2 | h2
    · rw [List.getElem?_range h2]
      show some (F j) = some (G j)
      rw [h j (fun q2 => q q2.symm)]
    · rw [List.getElem?_eq_none (by simpa using h2)]; rfl
theorem new0 (F : Nat → Nat × Nat) (n : Nat) : tb (newF F 0) n = List.replicate n (0, 0) := by
  apply List.ext_getElem?
  intro j
  unfold tb
  rw [List.getElem?_map, List.getElem?_replicate]
  rcases Nat.lt_or_ge j n with h2 | h2
  · rw [List.getElem?_range h2, if_pos h2]; rfl
  · rw [List.getElem?_eq_none (by simpa using h2), if_neg (by omega)]; rfl
set_option maxHeartbeats 0 in
set_option maxRecDepth 100000 in
theorem law_f (A B A' B' : List Nat) (nh ch n cr : Nat) (hA : nh ≤ A.length) (hB : nh ≤ B.length) (hch : nh ≤ ch) (hA' : n ≤ A'.length) (hB' : n ≤ B'.length) (hcr : n ≤ cr) (hn1 : nh ≤ 8796093022080) (hn2 : n ≤ 8796093022080) :
    Fits Try.prog 4 ⟨[.slice 0 0 nh ch, .slice 1 0 n cr], [parS A B, parS A' B'], [numOut [.dead, .dead] (.bool true)]⟩ := by
  have M1 := many_f A B nh ch hA hB hch hn1
  have M2 := many_f A' B' n cr hA' hB' hcr hn2
  unfold manyOut at M1 M2
  refine fits_of_body (C := { cfgr 2 with plan := fun | 5 => some (.lin [0, 1, 2, 3, 4, 5, 6, 7, 8, 9, 10, 11, 12, 13, 14, 15, 16, 17, 18, 19, 20, 21, 22, 23, 24, 25, 26, 27] .done) | _ => none }) (c := (Try.f4.body).getD .skip) (ts := [4]) tokL mixedL (fun | 9 => some (inv9 A B A' B' nh n) | 16 => some (inv16 A B A' B' nh n) | _ => none) (fun | 5 => some (cut5 A B A' B' nh n) | _ => none)
    Try.func4 (by kernel_rfl) (by kernel_rfl) (by kernel_rfl) (codeBL_ok (by kernel_rfl)) rfl ?_
  conv => whnf
  repeat (first
    | (refine And.intro ?_ ?_; (focus (first | omega | decide | exact EqOk.mk (by kernel_rfl) (by kernel_rfl) (by kernel_rfl) | exact Int.natCast_nonneg _ | ((repeat' refine And.intro ?_ ?_) <;> first | omega | exact Int.natCast_nonneg _ | (simp only [i64max, u8max, u16max, u32max, u64max]; omega) | (simp only [mulSz_eq, Cont.len, colsLen, Col.len, List.length_cons, List.length_nil, List.length_replicate, List.length_append]; first | done | omega) | (simp [mulSz, Cont.len, bne]; first | done | omega)))); conv => whnf)
    | (refine tst_in ?_ ?_; (focus (intro h_; exfalso; first | omega | ((try simp only [decide_eq_true_eq, decide_eq_false_iff_not] at h_); omega) | (simp [mulSz, Cont.len, bne] at h_; first | done | omega))); intro _; conv => whnf)
    | (refine tst_in ?_ ?_; rotate_left; (focus (intro h_; exfalso; first | omega | ((try simp only [decide_eq_true_eq, decide_eq_false_iff_not] at h_); omega) | (simp [mulSz, Cont.len, bne] at h_; first | done | omega))); intro _; conv => whnf)
    | (refine ⟨0, (show _ = _ by omega), ?_⟩; conv => whnf))
  refine ⟨_, [0], M1, ?_⟩
  conv => whnf
  iterate 2
   refine And.intro ?_ ?_
   focus
    conv => whnf
    repeat' (first | exact True.intro | rfl | refine And.intro ?_ ?_ | omega)
    all_goals (conv => whnf)
    all_goals (try (first | rfl | omega | (simp; done)))
  conv => whnf
  refine ⟨?_, True.intro⟩
  intro (y1 : YT) _
  conv => whnf
  conv => whnf
  repeat (first
    | (refine And.intro ?_ ?_; (focus (first | omega | decide | exact EqOk.mk (by kernel_rfl) (by kernel_rfl) (by kernel_rfl) | exact Int.natCast_nonneg _ | ((repeat' refine And.intro ?_ ?_) <;> first | omega | exact Int.natCast_nonneg _ | (simp only [i64max, u8max, u16max, u32max, u64max]; omega) | (simp only [mulSz_eq, Cont.len, colsLen, Col.len, List.length_cons, List.length_nil, List.length_replicate, List.length_append]; first | done | omega) | (simp [mulSz, Cont.len, bne]; first | done | omega)))); conv => whnf)
    | (refine tst_in ?_ ?_; (focus (intro h_; exfalso; first | omega | ((try simp only [decide_eq_true_eq, decide_eq_false_iff_not] at h_); omega) | (simp [mulSz, Cont.len, bne] at h_; first | done | omega))); intro _; conv => whnf)
    | (refine tst_in ?_ ?_; rotate_left; (focus (intro h_; exfalso; first | omega | ((try simp only [decide_eq_true_eq, decide_eq_false_iff_not] at h_); omega) | (simp [mulSz, Cont.len, bne] at h_; first | done | omega))); intro _; conv => whnf)
    | (refine ⟨0, (show _ = _ by omega), ?_⟩; conv => whnf))
  refine ⟨_, [1], M2, ?_⟩
  conv => whnf
  iterate 2
   refine And.intro ?_ ?_
   focus
    conv => whnf
    repeat' (first | exact True.intro | rfl | refine And.intro ?_ ?_ | omega)
    all_goals (conv => whnf)
    all_goals (try (first | rfl | omega | (simp; done)))
  conv => whnf
  refine ⟨?_, True.intro⟩
  intro (y2 : YT) _
  conv => whnf
  conv => whnf
  repeat (first
    | (refine And.intro ?_ ?_; (focus (first | omega | decide | exact EqOk.mk (by kernel_rfl) (by kernel_rfl) (by kernel_rfl) | exact Int.natCast_nonneg _ | ((repeat' refine And.intro ?_ ?_) <;> first | omega | exact Int.natCast_nonneg _ | (simp only [i64max, u8max, u16max, u32max, u64max]; omega) | (simp only [mulSz_eq, Cont.len, colsLen, Col.len, List.length_cons, List.length_nil, List.length_replicate, List.length_append, tab_len, List.length_take, List.length_drop]; first | done | omega) | (simp [mulSz, Cont.len, bne, tab_len, List.length_take, List.length_drop]; first | done | omega)))); conv => whnf)
    | (refine tst_in ?_ ?_; (focus (intro h_; exfalso; first | omega | ((try simp only [decide_eq_true_eq, decide_eq_false_iff_not] at h_); omega) | (simp [mulSz, Cont.len, bne, tab_len, List.length_take, List.length_drop] at h_; first | done | omega))); intro _; conv => whnf)
    | (refine tst_in ?_ ?_; rotate_left; (focus (intro h_; exfalso; first | omega | ((try simp only [decide_eq_true_eq, decide_eq_false_iff_not] at h_); omega) | (simp [mulSz, Cont.len, bne, tab_len, List.length_take, List.length_drop] at h_; first | done | omega))); intro _; conv => whnf)
    | (refine ⟨0, (show _ = _ by omega), ?_⟩; conv => whnf))
  intro u1
  conv => whnf
  repeat (first
    | (refine And.intro ?_ ?_; (focus (first | omega | decide | exact EqOk.mk (by kernel_rfl) (by kernel_rfl) (by kernel_rfl) | exact Int.natCast_nonneg _ | ((repeat' refine And.intro ?_ ?_) <;> first | omega | exact Int.natCast_nonneg _ | (simp only [i64max, u8max, u16max, u32max, u64max]; omega) | (simp only [mulSz_eq, Cont.len, colsLen, Col.len, List.length_cons, List.length_nil, List.length_replicate, List.length_append, tab_len, List.length_take, List.length_drop]; first | done | omega) | (simp [mulSz, Cont.len, bne, tab_len, List.length_take, List.length_drop]; first | done | omega)))); conv => whnf)
    | (refine tst_in ?_ ?_; (focus (intro h_; exfalso; first | omega | ((try simp only [decide_eq_true_eq, decide_eq_false_iff_not] at h_); omega) | (simp [mulSz, Cont.len, bne, tab_len, List.length_take, List.length_drop] at h_; first | done | omega))); intro _; conv => whnf)
    | (refine tst_in ?_ ?_; rotate_left; (focus (intro h_; exfalso; first | omega | ((try simp only [decide_eq_true_eq, decide_eq_false_iff_not] at h_); omega) | (simp [mulSz, Cont.len, bne, tab_len, List.length_take, List.length_drop] at h_; first | done | omega))); intro _; conv => whnf)
    | (refine ⟨0, (show _ = _ by omega), ?_⟩; conv => whnf))
  intro u2
  conv => whnf
  repeat (first
    | (refine And.intro ?_ ?_; (focus (first | omega | decide | exact EqOk.mk (by kernel_rfl) (by kernel_rfl) (by kernel_rfl) | exact Int.natCast_nonneg _ | ((repeat' refine And.intro ?_ ?_) <;> first | omega | exact Int.natCast_nonneg _ | (simp only [i64max, u8max, u16max, u32max, u64max]; omega) | (simp only [mulSz_eq, Cont.len, colsLen, Col.len, List.length_cons, List.length_nil, List.length_replicate, List.length_append, tab_len, List.length_take, List.length_drop]; first | done | omega) | (simp [mulSz, Cont.len, bne, tab_len, List.length_take, List.length_drop]; first | done | omega)))); conv => whnf)
    | (refine tst_in ?_ ?_; (focus (intro h_; exfalso; first | omega | ((try simp only [decide_eq_true_eq, decide_eq_false_iff_not] at h_); omega) | (simp [mulSz, Cont.len, bne, tab_len, List.length_take, List.length_drop] at h_; first | done | omega))); intro _; conv => whnf)
    | (refine tst_in ?_ ?_; rotate_left; (focus (intro h_; exfalso; first | omega | ((try simp only [decide_eq_true_eq, decide_eq_false_iff_not] at h_); omega) | (simp [mulSz, Cont.len, bne, tab_len, List.length_take, List.length_drop] at h_; first | done | omega))); intro _; conv => whnf)
    | (refine ⟨0, (show _ = _ by omega), ?_⟩; conv => whnf))
  refine ⟨?_, ?_⟩
  · skip
    conv => whnf
    repeat (first
      | (refine And.intro ?_ ?_; (focus (first | omega | decide | exact EqOk.mk (by kernel_rfl) (by kernel_rfl) (by kernel_rfl) | exact Int.natCast_nonneg _ | ((repeat' refine And.intro ?_ ?_) <;> first | omega | exact Int.natCast_nonneg _ | (simp only [i64max, u8max, u16max, u32max, u64max]; omega) | (simp only [mulSz_eq, Cont.len, colsLen, Col.len, List.length_cons, List.length_nil, List.length_replicate, List.length_append, tab_len, List.length_take, List.length_drop]; first | done | omega) | (simp [mulSz, Cont.len, bne, tab_len, List.length_take, List.length_drop]; first | done | omega)))); conv => whnf)
      | (refine tst_in ?_ ?_; (focus (intro h_; exfalso; first | omega | ((try simp only [decide_eq_true_eq, decide_eq_false_iff_not] at h_); omega) | (simp [mulSz, Cont.len, bne, tab_len, List.length_take, List.length_drop] at h_; first | done | omega))); intro _; conv => whnf)
      | (refine tst_in ?_ ?_; rotate_left; (focus (intro h_; exfalso; first | omega | ((try simp only [decide_eq_true_eq, decide_eq_false_iff_not] at h_); omega) | (simp [mulSz, Cont.len, bne, tab_len, List.length_take, List.length_drop] at h_; first | done | omega))); intro _; conv => whnf)
      | (refine ⟨0, (show _ = _ by omega), ?_⟩; conv => whnf))
    intro u3
    conv => whnf
    repeat (first
      | (refine And.intro ?_ ?_; (focus (first | omega | decide | exact EqOk.mk (by kernel_rfl) (by kernel_rfl) (by kernel_rfl) | exact Int.natCast_nonneg _ | ((repeat' refine And.intro ?_ ?_) <;> first | omega | exact Int.natCast_nonneg _ | (simp only [i64max, u8max, u16max, u32max, u64max]; omega) | (simp only [mulSz_eq, Cont.len, colsLen, Col.len, List.length_cons, List.length_nil, List.length_replicate, List.length_append, tab_len, List.length_take, List.length_drop]; first | done | omega) | (simp [mulSz, Cont.len, bne, tab_len, List.length_take, List.length_drop]; first | done | omega)))); conv => whnf)
      | (refine tst_in ?_ ?_; (focus (intro h_; exfalso; first | omega | ((try simp only [decide_eq_true_eq, decide_eq_false_iff_not] at h_); omega) | (simp [mulSz, Cont.len, bne, tab_len, List.length_take, List.length_drop] at h_; first | done | omega))); intro _; conv => whnf)
      | (refine tst_in ?_ ?_; rotate_left; (focus (intro h_; exfalso; first | omega | ((try simp only [decide_eq_true_eq, decide_eq_false_iff_not] at h_); omega) | (simp [mulSz, Cont.len, bne, tab_len, List.length_take, List.length_drop] at h_; first | done | omega))); intro _; conv => whnf)
      | (refine ⟨0, (show _ = _ by omega), ?_⟩; conv => whnf))
    intro u4
    conv => whnf
    repeat (first
      | (refine And.intro ?_ ?_; (focus (first | omega | decide | exact EqOk.mk (by kernel_rfl) (by kernel_rfl) (by kernel_rfl) | exact Int.natCast_nonneg _ | ((repeat' refine And.intro ?_ ?_) <;> first | omega | exact Int.natCast_nonneg _ | (simp only [i64max, u8max, u16max, u32max, u64max]; omega) | (simp only [mulSz_eq, Cont.len, colsLen, Col.len, List.length_cons, List.length_nil, List.length_replicate, List.length_append]; first | done | omega) | (simp [mulSz, Cont.len, bne]; first | done | omega)))); conv => whnf)
      | (refine tst_in ?_ ?_; (focus (intro h_; exfalso; first | omega | ((try simp only [decide_eq_true_eq, decide_eq_false_iff_not] at h_); omega) | (simp [mulSz, Cont.len, bne] at h_; first | done | omega))); intro _; conv => whnf)
      | (refine tst_in ?_ ?_; rotate_left; (focus (intro h_; exfalso; first | omega | ((try simp only [decide_eq_true_eq, decide_eq_false_iff_not] at h_); omega) | (simp [mulSz, Cont.len, bne] at h_; first | done | omega))); intro _; conv => whnf)
      | (refine ⟨0, (show _ = _ by omega), ?_⟩; conv => whnf))
    refine ⟨[0, 1, 2, 3, 7, 11], ⟨y1, y2, u2, u4, 0⟩, ?_, True.intro⟩
    show stLe _ _ (st5 A B A' B' nh n y1 y2 u2 u4) _
    conv => whnf
    repeat' (first | exact True.intro | rfl | refine And.intro ?_ ?_)
    all_goals (conv => whnf)
    repeat' (first | exact True.intro | rfl | refine And.intro ?_ ?_)
    all_goals (try omega)
    · exact lent_row (pF A B) c7 y1 u1 u2 nh
    · exact lent_row (pF A' B') c9 y2 u3 u4 n
  · clear M1 M2
    rintro ⟨y1, y2, t1, t2, _⟩ _
    show forceSt (st5 A B A' B' nh n y1 y2 t1 t2) _
    have hz1 : ∀ i, i < nh → aF (tb (pF A B) nh ++ c7 :: t1) i = aF (tb (pF A B) nh ++ y1) i := fun i hi => by unfold aF; rw [tab_app _ _ _ hi, tab_app _ _ _ hi]
    have hz2 : ∀ i, i < n → aF (tb (pF A' B') n ++ c9 :: t2) i = aF (tb (pF A' B') n ++ y2) i := fun i hi => by unfold aF; rw [tab_app _ _ _ hi, tab_app _ _ _ hi]
    have RW := rows_f (tb (pF A B) nh ++ c7 :: t1) (tb (pF A' B') n ++ c9 :: t2) (tb (pF A B) nh ++ y1) (tb (pF A' B') n ++ y2) nh n (nh + 1 + t1.length) (n + 1 + t2.length) (nh + y1.length) (n + y2.length) (by simp [tab_len]) (by simp [tab_len]) (by simp [tab_len]) (by simp [tab_len]) (by omega) (by omega) (by omega) (by omega) (by omega) (by omega) hz1 hz2
    conv => whnf
    repeat (first
      | (refine And.intro ?_ ?_; (focus (first | omega | decide | exact EqOk.mk (by kernel_rfl) (by kernel_rfl) (by kernel_rfl) | exact Int.natCast_nonneg _ | ((repeat' refine And.intro ?_ ?_) <;> first | omega | exact Int.natCast_nonneg _ | (simp only [i64max, u8max, u16max, u32max, u64max]; omega) | (simp only [mulSz_eq, Cont.len, colsLen, Col.len, List.length_cons, List.length_nil, List.length_replicate, List.length_append, tab_len]; first | done | omega) | (simp [mulSz, Cont.len, bne, tab_len]; first | done | omega)))); conv => whnf)
      | (refine tst_in ?_ ?_; (focus (intro h_; exfalso; first | omega | ((try simp only [decide_eq_true_eq, decide_eq_false_iff_not] at h_); omega) | (simp [mulSz, Cont.len, bne, tab_len] at h_; first | done | omega))); intro _; conv => whnf)
      | (refine tst_in ?_ ?_; rotate_left; (focus (intro h_; exfalso; first | omega | ((try simp only [decide_eq_true_eq, decide_eq_false_iff_not] at h_); omega) | (simp [mulSz, Cont.len, bne, tab_len] at h_; first | done | omega))); intro _; conv => whnf)
      | (refine ⟨0, (show _ = _ by omega), ?_⟩; conv => whnf))
    refine ⟨_, [4, 5, 2, 3], RW, ?_⟩
    conv => whnf
    iterate 2
     refine And.intro ?_ ?_
     focus
      conv => whnf
      repeat' (first | exact True.intro | rfl | refine And.intro ?_ ?_ | omega)
      all_goals (conv => whnf)
      all_goals (try (first | rfl | omega | (simp; done)))
    conv => whnf
    refine ⟨?_, True.intro⟩
    intro _ _
    conv => whnf
    conv => whnf
    repeat (first
      | (refine And.intro ?_ ?_; (focus (first | omega | decide | exact EqOk.mk (by kernel_rfl) (by kernel_rfl) (by kernel_rfl) | exact Int.natCast_nonneg _ | ((repeat' refine And.intro ?_ ?_) <;> first | omega | exact Int.natCast_nonneg _ | (simp only [i64max, u8max, u16max, u32max, u64max]; omega) | (simp only [mulSz_eq, Cont.len, colsLen, Col.len, List.length_cons, List.length_nil, List.length_replicate, List.length_append, tab_len]; first | done | omega) | (simp [mulSz, Cont.len, bne, tab_len]; first | done | omega)))); conv => whnf)
      | (refine tst_in ?_ ?_; (focus (intro h_; exfalso; first | omega | ((try simp only [decide_eq_true_eq, decide_eq_false_iff_not] at h_); omega) | (simp [mulSz, Cont.len, bne, tab_len] at h_; first | done | omega))); intro _; conv => whnf)
      | (refine tst_in ?_ ?_; rotate_left; (focus (intro h_; exfalso; first | omega | ((try simp only [decide_eq_true_eq, decide_eq_false_iff_not] at h_); omega) | (simp [mulSz, Cont.len, bne, tab_len] at h_; first | done | omega))); intro _; conv => whnf)
      | (refine ⟨(nh), (show _ = _ by omega), ?_⟩; conv => whnf)
      | (refine ⟨(nh), 0, (show _ = _ by omega), ?_⟩; conv => whnf)
      | (refine ⟨(nh), 1, (show _ = _ by omega), ?_⟩; conv => whnf)
      | (refine ⟨(nh), 2, (show _ = _ by omega), ?_⟩; conv => whnf)
      | (refine ⟨(nh), 3, (show _ = _ by omega), ?_⟩; conv => whnf)
      | (refine ⟨(nh), 4, (show _ = _ by omega), ?_⟩; conv => whnf)
      | (refine ⟨(nh), 5, (show _ = _ by omega), ?_⟩; conv => whnf)
      | (refine ⟨0, (show _ = _ by omega), ?_⟩; conv => whnf))
    rw [show 0 + ((nh : Nat) : Int).toNat = nh by omega, at_n (pF A B) c7 (0, 0) t1 nh]
    unfold c7
    rw [eq7]
    conv => whnf
    repeat (first
      | (refine And.intro ?_ ?_; (focus (first | omega | decide | exact EqOk.mk (by kernel_rfl) (by kernel_rfl) (by kernel_rfl) | exact Int.natCast_nonneg _ | ((repeat' refine And.intro ?_ ?_) <;> first | omega | exact Int.natCast_nonneg _ | (simp only [i64max, u8max, u16max, u32max, u64max]; omega) | (simp only [mulSz_eq, Cont.len, colsLen, Col.len, List.length_cons, List.length_nil, List.length_replicate, List.length_append, tab_len]; first | done | omega) | (simp [mulSz, Cont.len, bne, tab_len]; first | done | omega)))); conv => whnf)
      | (refine tst_in ?_ ?_; (focus (intro h_; exfalso; first | omega | ((try simp only [decide_eq_true_eq, decide_eq_false_iff_not] at h_); omega) | (simp [mulSz, Cont.len, bne, tab_len] at h_; first | done | omega))); intro _; conv => whnf)
      | (refine tst_in ?_ ?_; rotate_left; (focus (intro h_; exfalso; first | omega | ((try simp only [decide_eq_true_eq, decide_eq_false_iff_not] at h_); omega) | (simp [mulSz, Cont.len, bne, tab_len] at h_; first | done | omega))); intro _; conv => whnf)
      | (refine ⟨(n), (show _ = _ by omega), ?_⟩; conv => whnf)
      | (refine ⟨(n), 0, (show _ = _ by omega), ?_⟩; conv => whnf)
      | (refine ⟨(n), 1, (show _ = _ by omega), ?_⟩; conv => whnf)
      | (refine ⟨(n), 2, (show _ = _ by omega), ?_⟩; conv => whnf)
      | (refine ⟨(n), 3, (show _ = _ by omega), ?_⟩; conv => whnf)
      | (refine ⟨(n), 4, (show _ = _ by omega), ?_⟩; conv => whnf)
      | (refine ⟨(n), 5, (show _ = _ by omega), ?_⟩; conv => whnf)
      | (refine ⟨0, (show _ = _ by omega), ?_⟩; conv => whnf))
    rw [show 0 + ((n : Nat) : Int).toNat = n by omega, at_n (pF A' B') c9 (0, 0) t2 n]
    unfold c9
    rw [eq9]
    conv => whnf
    repeat (first
      | (refine And.intro ?_ ?_; (focus (first | omega | decide | exact EqOk.mk (by kernel_rfl) (by kernel_rfl) (by kernel_rfl) | exact Int.natCast_nonneg _ | ((repeat' refine And.intro ?_ ?_) <;> first | omega | exact Int.natCast_nonneg _ | (simp only [i64max, u8max, u16max, u32max, u64max]; omega) | (simp only [mulSz_eq, Cont.len, colsLen, Col.len, List.length_cons, List.length_nil, List.length_replicate, List.length_append]; first | done | omega) | (simp [mulSz, Cont.len, bne]; first | done | omega)))); conv => whnf)
      | (refine tst_in ?_ ?_; (focus (intro h_; exfalso; first | omega | ((try simp only [decide_eq_true_eq, decide_eq_false_iff_not] at h_); omega) | (simp [mulSz, Cont.len, bne] at h_; first | done | omega))); intro _; conv => whnf)
      | (refine tst_in ?_ ?_; rotate_left; (focus (intro h_; exfalso; first | omega | ((try simp only [decide_eq_true_eq, decide_eq_false_iff_not] at h_); omega) | (simp [mulSz, Cont.len, bne] at h_; first | done | omega))); intro _; conv => whnf)
      | (refine ⟨0, (show _ = _ by omega), ?_⟩; conv => whnf))
    rw [show ((n : Nat) : Int).toNat = n by omega]
    refine ⟨⟨[0, 1, 2, 3, 4, 5, 6], ⟨y1, y2, t1, t2, 0⟩, ?_, Nat.zero_le _⟩, ?_⟩
    · show stLe _ _ (st9 A B A' B' nh n y1 y2 t1 t2 0) _
      unfold st9 c7 c9
      rw [show tb (newF (pF A' B') 0) n = List.replicate n (0, 0) from new0 _ n, show tb (mixF (pF A' B') 0) n = tb (pF A' B') n from tab_congr fun j _ => rfl]
      conv => whnf
      repeat' (first | exact True.intro | rfl | refine And.intro ?_ ?_)
      all_goals (conv => whnf)
      repeat' (first | exact True.intro | rfl | refine And.intro ?_ ?_)
      all_goals (try omega)
    · clear RW hz1 hz2
      rintro ⟨y1, y2, t1, t2, i⟩ hi
      have hi : i ≤ n := hi
      show forceSt (st9 A B A' B' nh n y1 y2 t1 t2 i) _
      conv => whnf
      refine tst_in (fun hlt => ?_) (fun hge => ?_)
      · skip
        have hlt : i < n := by simp at hlt; omega
        have SQ := Same_q (pF A' B' i) (pF A' B' i) true (.refl _) (.refl _)
        have e1 : (tb (mixF (pF A' B') i) n ++ c9 :: t2).getD i (0, 0) = pF A' B' i := by rw [tab_app _ _ _ hlt]; unfold mixF; rw [if_neg (by omega)]
        have e2 : (tb (pF A' B') n ++ y2).getD i (0, 0) = pF A' B' i := tab_app _ _ _ hlt
        have e3 : (tb (newF (pF A' B') i) n).set i (tF (pF A' B') i) = tb (newF (pF A' B') (i + 1)) n := tb_step hlt (by unfold newF; rw [if_pos (by omega)]) fun j hj => by
          unfold newF
          by_cases q : j < i
          · rw [if_pos q, if_pos (by omega)]
          · rw [if_neg q, if_neg (by omega)]
        have e4 : (tb (mixF (pF A' B') i) n ++ c9 :: t2).set i (tF (pF A' B') i) = tb (mixF (pF A' B') (i + 1)) n ++ c9 :: t2 := by
          rw [List.set_append_left _ _ (by rw [tab_len]; exact hlt)]
          congr 1
          exact tb_step hlt (by unfold mixF; rw [if_pos (by omega)]) fun j hj => by
            unfold mixF
            by_cases q : j < i
            · rw [if_pos q, if_pos (by omega)]
            · rw [if_neg q, if_neg (by omega)]
        have e5 : (tb (newF (pF A' B') (i + 1)) n).getD i (0, 0) = tF (pF A' B') i := by rw [tab_get _ _ hlt]; unfold newF; rw [if_pos (by omega)]
        conv => whnf
        repeat (first
          | (refine And.intro ?_ ?_; (focus (first | omega | decide | exact EqOk.mk (by kernel_rfl) (by kernel_rfl) (by kernel_rfl) | exact Int.natCast_nonneg _ | ((repeat' refine And.intro ?_ ?_) <;> first | omega | exact Int.natCast_nonneg _ | (simp only [i64max, u8max, u16max, u32max, u64max]; omega) | (simp only [mulSz_eq, Cont.len, colsLen, Col.len, List.length_cons, List.length_nil, List.length_replicate, List.length_append, tab_len]; first | done | omega) | (simp [mulSz, Cont.len, bne, tab_len]; first | done | omega)))); conv => whnf)
          | (refine tst_in ?_ ?_; (focus (intro h_; exfalso; first | omega | ((try simp only [decide_eq_true_eq, decide_eq_false_iff_not] at h_); omega) | (simp [mulSz, Cont.len, bne, tab_len] at h_; first | done | omega))); intro _; conv => whnf)
          | (refine tst_in ?_ ?_; rotate_left; (focus (intro h_; exfalso; first | omega | ((try simp only [decide_eq_true_eq, decide_eq_false_iff_not] at h_); omega) | (simp [mulSz, Cont.len, bne, tab_len] at h_; first | done | omega))); intro _; conv => whnf)
          | (refine ⟨0, (show _ = _ by omega), ?_⟩; conv => whnf))
        rw [show 0 + ((i : Nat) : Int).toNat = i by omega, e1, e2]
        refine ⟨_, [], SQ, ?_⟩
        conv => whnf
        iterate 2
         refine And.intro ?_ ?_
         focus
          conv => whnf
          repeat' (first | exact True.intro | rfl | refine And.intro ?_ ?_ | omega)
          all_goals (conv => whnf)
          all_goals (try (first | rfl | omega | (simp; done)))
        conv => whnf
        conv => whnf
        repeat (first
          | (refine And.intro ?_ ?_; (focus (first | omega | decide | exact EqOk.mk (by kernel_rfl) (by kernel_rfl) (by kernel_rfl) | exact Int.natCast_nonneg _ | ((repeat' refine And.intro ?_ ?_) <;> first | omega | exact Int.natCast_nonneg _ | (simp only [i64max, u8max, u16max, u32max, u64max]; omega) | (simp only [mulSz_eq, Cont.len, colsLen, Col.len, List.length_cons, List.length_nil, List.length_replicate, List.length_append, tab_len]; first | done | omega) | (simp [mulSz, Cont.len, bne, tab_len]; first | done | omega)))); conv => whnf)
          | (refine tst_in ?_ ?_; (focus (intro h_; exfalso; first | omega | ((try simp only [decide_eq_true_eq, decide_eq_false_iff_not] at h_); omega) | (simp [mulSz, Cont.len, bne, tab_len] at h_; first | done | omega))); intro _; conv => whnf)
          | (refine tst_in ?_ ?_; rotate_left; (focus (intro h_; exfalso; first | omega | ((try simp only [decide_eq_true_eq, decide_eq_false_iff_not] at h_); omega) | (simp [mulSz, Cont.len, bne, tab_len] at h_; first | done | omega))); intro _; conv => whnf)
          | (refine ⟨0, (show _ = _ by omega), ?_⟩; conv => whnf))
        refine ⟨[0, 1, 2, 3, 4, 5, 6], ⟨y1, y2, t1, t2, i + 1⟩, ?_, (by show i + 1 ≤ n; omega), (by show n - (i + 1) < n - i; omega)⟩
        show stLe _ _ (st9 A B A' B' nh n y1 y2 t1 t2 (i + 1)) _
        conv => whnf
        repeat' (first | exact True.intro | rfl | refine And.intro ?_ ?_)
        all_goals (conv => whnf)
        repeat' (first | exact True.intro | rfl | refine And.intro ?_ ?_)
        all_goals (try omega)
        · rw [show 0 + ((i : Nat) : Int).toNat = i by omega, e2, show (tb (newF (pF A' B') i) n).set i ((pF A' B' i).2, 4607182418800017408) = tb (newF (pF A' B') (i + 1)) n from e3, e5]
          exact e4.symm
        · rw [show 0 + ((i : Nat) : Int).toNat = i by omega, e2]
          exact e3.symm
      · skip
        have hge : i = n := by simp at hge; omega
        subst hge
        conv => whnf
        repeat (first
          | (refine And.intro ?_ ?_; (focus (first | omega | decide | exact EqOk.mk (by kernel_rfl) (by kernel_rfl) (by kernel_rfl) | exact Int.natCast_nonneg _ | ((repeat' refine And.intro ?_ ?_) <;> first | omega | exact Int.natCast_nonneg _ | (simp only [i64max, u8max, u16max, u32max, u64max]; omega) | (simp only [mulSz_eq, Cont.len, colsLen, Col.len, List.length_cons, List.length_nil, List.length_replicate, List.length_append]; first | done | omega) | (simp [mulSz, Cont.len, bne]; first | done | omega)))); conv => whnf)
          | (refine tst_in ?_ ?_; (focus (intro h_; exfalso; first | omega | ((try simp only [decide_eq_true_eq, decide_eq_false_iff_not] at h_); omega) | (simp [mulSz, Cont.len, bne] at h_; first | done | omega))); intro _; conv => whnf)
          | (refine tst_in ?_ ?_; rotate_left; (focus (intro h_; exfalso; first | omega | ((try simp only [decide_eq_true_eq, decide_eq_false_iff_not] at h_); omega) | (simp [mulSz, Cont.len, bne] at h_; first | done | omega))); intro _; conv => whnf)
          | (refine ⟨0, (show _ = _ by omega), ?_⟩; conv => whnf))
        refine ⟨⟨[0, 1, 2, 3, 4, 5, 6], ⟨y1, y2, t1, t2, 0⟩, ?_, Nat.zero_le _⟩, ?_⟩
        · show stLe _ _ (st16 A B A' B' nh i y1 y2 t1 t2 0) _
          unfold st16
          rw [show tb (tF (pF A' B')) i = tb (newF (pF A' B') i) i from tab_congr fun j hj => by unfold newF; rw [if_pos hj], show tb (newF (pF A' B') i) i ++ c9 :: t2 = tb (mixF (pF A' B') i) i ++ c9 :: t2 from congrArg (· ++ c9 :: t2) (tab_congr fun j hj => by unfold newF mixF; rw [if_pos hj, if_pos hj])]
          conv => whnf
          repeat' (first | exact True.intro | rfl | refine And.intro ?_ ?_)
          all_goals (conv => whnf)
          repeat' (first | exact True.intro | rfl | refine And.intro ?_ ?_)
          all_goals (try omega)
        · rintro ⟨y1, y2, t1, t2, k⟩ hk
          have hk : k ≤ nh := hk
          show forceSt (st16 A B A' B' nh i y1 y2 t1 t2 k) _
          conv => whnf
          refine tst_in (fun hlt => ?_) (fun hge => ?_)
          · skip
            have hlt : k < nh := by simp at hlt; omega
            have SQ := Same_q (pF A B k) (pF A B k) true (.refl _) (.refl _)
            have e1 : (tb (pF A B) nh ++ c7 :: t1).getD k (0, 0) = pF A B k := tab_app _ _ _ hlt
            have e2 : (tb (pF A B) nh ++ y1).getD k (0, 0) = pF A B k := tab_app _ _ _ hlt
            conv => whnf
            repeat (first
              | (refine And.intro ?_ ?_; (focus (first | omega | decide | exact EqOk.mk (by kernel_rfl) (by kernel_rfl) (by kernel_rfl) | exact Int.natCast_nonneg _ | ((repeat' refine And.intro ?_ ?_) <;> first | omega | exact Int.natCast_nonneg _ | (simp only [i64max, u8max, u16max, u32max, u64max]; omega) | (simp only [mulSz_eq, Cont.len, colsLen, Col.len, List.length_cons, List.length_nil, List.length_replicate, List.length_append, tab_len]; first | done | omega) | (simp [mulSz, Cont.len, bne, tab_len]; first | done | omega)))); conv => whnf)
              | (refine tst_in ?_ ?_; (focus (intro h_; exfalso; first | omega | ((try simp only [decide_eq_true_eq, decide_eq_false_iff_not] at h_); omega) | (simp [mulSz, Cont.len, bne, tab_len] at h_; first | done | omega))); intro _; conv => whnf)
              | (refine tst_in ?_ ?_; rotate_left; (focus (intro h_; exfalso; first | omega | ((try simp only [decide_eq_true_eq, decide_eq_false_iff_not] at h_); omega) | (simp [mulSz, Cont.len, bne, tab_len] at h_; first | done | omega))); intro _; conv => whnf)
              | (refine ⟨0, (show _ = _ by omega), ?_⟩; conv => whnf))
            rw [show 0 + ((k : Nat) : Int).toNat = k by omega, e1, e2]
            refine ⟨_, [], SQ, ?_⟩
            conv => whnf
            iterate 2
             refine And.intro ?_ ?_
             focus
              conv => whnf
              repeat' (first | exact True.intro | rfl | refine And.intro ?_ ?_ | omega)
              all_goals (conv => whnf)
              all_goals (try (first | rfl | omega | (simp; done)))
            conv => whnf
            conv => whnf
            repeat (first
              | (refine And.intro ?_ ?_; (focus (first | omega | decide | exact EqOk.mk (by kernel_rfl) (by kernel_rfl) (by kernel_rfl) | exact Int.natCast_nonneg _ | ((repeat' refine And.intro ?_ ?_) <;> first | omega | exact Int.natCast_nonneg _ | (simp only [i64max, u8max, u16max, u32max, u64max]; omega) | (simp only [mulSz_eq, Cont.len, colsLen, Col.len, List.length_cons, List.length_nil, List.length_replicate, List.length_append]; first | done | omega) | (simp [mulSz, Cont.len, bne]; first | done | omega)))); conv => whnf)
              | (refine tst_in ?_ ?_; (focus (intro h_; exfalso; first | omega | ((try simp only [decide_eq_true_eq, decide_eq_false_iff_not] at h_); omega) | (simp [mulSz, Cont.len, bne] at h_; first | done | omega))); intro _; conv => whnf)
              | (refine tst_in ?_ ?_; rotate_left; (focus (intro h_; exfalso; first | omega | ((try simp only [decide_eq_true_eq, decide_eq_false_iff_not] at h_); omega) | (simp [mulSz, Cont.len, bne] at h_; first | done | omega))); intro _; conv => whnf)
              | (refine ⟨0, (show _ = _ by omega), ?_⟩; conv => whnf))
            refine ⟨[0, 1, 2, 3, 4, 5, 6], ⟨y1, y2, t1, t2, k + 1⟩, ?_, (by show k + 1 ≤ nh; omega), (by show nh - (k + 1) < nh - k; omega)⟩
            show stLe _ _ (st16 A B A' B' nh i y1 y2 t1 t2 (k + 1)) _
            conv => whnf
            repeat' (first | exact True.intro | rfl | refine And.intro ?_ ?_)
            all_goals (conv => whnf)
            repeat' (first | exact True.intro | rfl | refine And.intro ?_ ?_)
            all_goals (try omega)
          · skip
            have RW := rows_f (tb (pF A B) nh ++ c7 :: t1) (tb (tF (pF A' B')) i ++ c9 :: t2) (tb (pF A B) nh ++ y1) (tb (tF (pF A' B')) i) nh i (nh + 1 + t1.length) (i + 1 + t2.length) (nh + y1.length) i (by simp [tab_len]) (by simp [tab_len]) (by simp [tab_len]) (by simp [tab_len]) (by omega) (by omega) (by omega) (by omega) (by omega) (by omega)
              (fun j hj => by unfold aF; rw [tab_app _ _ _ hj, tab_app _ _ _ hj]) (fun j hj => by unfold aF; rw [tab_app _ _ _ hj, tab_get _ _ hj])
            conv => whnf
            repeat (first
              | (refine And.intro ?_ ?_; (focus (first | omega | decide | exact EqOk.mk (by kernel_rfl) (by kernel_rfl) (by kernel_rfl) | exact Int.natCast_nonneg _ | ((repeat' refine And.intro ?_ ?_) <;> first | omega | exact Int.natCast_nonneg _ | (simp only [i64max, u8max, u16max, u32max, u64max]; omega) | (simp only [mulSz_eq, Cont.len, colsLen, Col.len, List.length_cons, List.length_nil, List.length_replicate, List.length_append, tab_len]; first | done | omega) | (simp [mulSz, Cont.len, bne, tab_len]; first | done | omega)))); conv => whnf)
              | (refine tst_in ?_ ?_; (focus (intro h_; exfalso; first | omega | ((try simp only [decide_eq_true_eq, decide_eq_false_iff_not] at h_); omega) | (simp [mulSz, Cont.len, bne, tab_len] at h_; first | done | omega))); intro _; conv => whnf)
              | (refine tst_in ?_ ?_; rotate_left; (focus (intro h_; exfalso; first | omega | ((try simp only [decide_eq_true_eq, decide_eq_false_iff_not] at h_); omega) | (simp [mulSz, Cont.len, bne, tab_len] at h_; first | done | omega))); intro _; conv => whnf)
              | (refine ⟨0, (show _ = _ by omega), ?_⟩; conv => whnf))
            refine ⟨_, [4, 5, 2, 6], RW, ?_⟩
            conv => whnf
            iterate 2
             refine And.intro ?_ ?_
             focus
              conv => whnf
              repeat' (first | exact True.intro | rfl | refine And.intro ?_ ?_ | omega)
              all_goals (conv => whnf)
              all_goals (try (first | rfl | omega | (simp; done)))
            conv => whnf
            refine ⟨?_, True.intro⟩
            intro _ _
            conv => whnf
            conv => whnf
            repeat (first
              | (refine And.intro ?_ ?_; (focus (first | omega | decide | exact EqOk.mk (by kernel_rfl) (by kernel_rfl) (by kernel_rfl) | exact Int.natCast_nonneg _ | ((repeat' refine And.intro ?_ ?_) <;> first | omega | exact Int.natCast_nonneg _ | (simp only [i64max, u8max, u16max, u32max, u64max]; omega) | (simp only [mulSz_eq, Cont.len, colsLen, Col.len, List.length_cons, List.length_nil, List.length_replicate, List.length_append]; first | done | omega) | (simp [mulSz, Cont.len, bne]; first | done | omega)))); conv => whnf)
              | (refine tst_in ?_ ?_; (focus (intro h_; exfalso; first | omega | ((try simp only [decide_eq_true_eq, decide_eq_false_iff_not] at h_); omega) | (simp [mulSz, Cont.len, bne] at h_; first | done | omega))); intro _; conv => whnf)
              | (refine tst_in ?_ ?_; rotate_left; (focus (intro h_; exfalso; first | omega | ((try simp only [decide_eq_true_eq, decide_eq_false_iff_not] at h_); omega) | (simp [mulSz, Cont.len, bne] at h_; first | done | omega))); intro _; conv => whnf)
              | (refine ⟨0, (show _ = _ by omega), ?_⟩; conv => whnf))
            refine ⟨_, [], awake_f, ?_⟩
            conv => whnf
            iterate 2
             refine And.intro ?_ ?_
             focus
              conv => whnf
              repeat' (first | exact True.intro | rfl | refine And.intro ?_ ?_ | omega)
              all_goals (conv => whnf)
              all_goals (try (first | rfl | omega | (simp; done)))
            conv => whnf
            refine ⟨?_, True.intro⟩
            intro _ _
            conv => whnf
            conv => whnf
            repeat (first
              | (refine And.intro ?_ ?_; (focus (first | omega | decide | exact EqOk.mk (by kernel_rfl) (by kernel_rfl) (by kernel_rfl) | exact Int.natCast_nonneg _ | ((repeat' refine And.intro ?_ ?_) <;> first | omega | exact Int.natCast_nonneg _ | (simp only [i64max, u8max, u16max, u32max, u64max]; omega) | (simp only [mulSz_eq, Cont.len, colsLen, Col.len, List.length_cons, List.length_nil, List.length_replicate, List.length_append]; first | done | omega) | (simp [mulSz, Cont.len, bne]; first | done | omega)))); conv => whnf)
              | (refine tst_in ?_ ?_; (focus (intro h_; exfalso; first | omega | ((try simp only [decide_eq_true_eq, decide_eq_false_iff_not] at h_); omega) | (simp [mulSz, Cont.len, bne] at h_; first | done | omega))); intro _; conv => whnf)
              | (refine tst_in ?_ ?_; rotate_left; (focus (intro h_; exfalso; first | omega | ((try simp only [decide_eq_true_eq, decide_eq_false_iff_not] at h_); omega) | (simp [mulSz, Cont.len, bne] at h_; first | done | omega))); intro _; conv => whnf)
              | (refine ⟨0, (show _ = _ by omega), ?_⟩; conv => whnf))
            refine .inl ⟨(), [0, 1], ?_⟩
            conv => whnf
            repeat' (first | exact True.intro | rfl | refine And.intro ?_ ?_)
            all_goals (conv => whnf)
            repeat' (first | exact True.intro | rfl | refine And.intro ?_ ?_)
            all_goals (try omega)
end Go.Proofs.Ytfpebgcjmmhlpaa

set_option linter.unusedVariables false
set_option linter.unusedSimpArgs false
namespace Go.Proofs.Ytfpebgcjmmhlpaa
open Go Go.Fw
def colR (g : Nat → Nat × Nat) (c : Nat) : List Nat := (List.range c).map fun i => (g i).1
def colI (g : Nat → Nat × Nat) (c : Nat) : List Nat := (List.range c).map fun i => (g i).2
theorem getD_map_range {α : Type} (f : Nat → α) (z : α) (c i : Nat) (h : i < c) : ((List.range c).map f).getD i z = f i := by
  simp [List.getD_eq_getElem?_getD, h]
theorem flat_ext {F G : Nat → List AV} {n : Nat} (h : ∀ i, i < n → F i = G i) : (List.range n).flatMap F = (List.range n).flatMap G := by
  induction n with
  | zero => rfl
  | succ n ih => rw [List.range_succ, List.flatMap_append, List.flatMap_append, ih fun i hi => h i (by omega)]; simp [h n (by omega)]
theorem avl_par (g : Nat → Nat × Nat) (c : Nat) : (Cont.cols [.flts .f64 (colR g c), .flts .f64 (colI g c)]).avl = (Cont.avs ((List.range c).flatMap fun i => [.flt .f64 (g i).1, .flt .f64 (g i).2])).avl := by
  show (List.range (colR g c).length).flatMap _ = _
  rw [show (colR g c).length = c by simp [colR]]
  refine flat_ext fun i hi => ?_
  show [AV.flt .f64 ((colR g c).getD i 0), .flt .f64 ((colI g c).getD i 0)] = _
  unfold colR colI
  rw [getD_map_range _ _ _ _ hi, getD_map_range _ _ _ _ hi]
def lawSpec (n0 c0 : Nat) (g0 : Nat → Nat × Nat) (n1 c1 : Nat) (g1 : Nat → Nat × Nat) : FSpec :=
  ⟨[.slice 0 0 n0 c0, .slice 1 0 n1 c1], [.seg false (.cols [.flts .f64 (colR g0 c0), .flts .f64 (colI g0 c0)]), .seg false (.cols [.flts .f64 (colR g1 c1), .flts .f64 (colI g1 c1)])], [⟨Unit, fun _ => True, fun _ => .bool true, fun _ => [.dead, .dead]⟩]⟩
theorem law_m (n0 c0 : Nat) (g0 : Nat → Nat × Nat) (n1 c1 : Nat) (g1 : Nat → Nat × Nat) (hn0 : n0 ≤ c0) (hb0 : c0 * 16 ≤ reachBytes) (hn1 : n1 ≤ c1) (hb1 : c1 * 16 ≤ reachBytes) : Fits Try.prog 4 (lawSpec n0 c0 g0 n1 c1 g1) := by
  have hb0 : c0 * 16 ≤ 140737488351232 := hb0
  have hb1 : c1 * 16 ≤ 140737488351232 := hb1
  exact law_f _ _ _ _ n0 c0 n1 c1 (by simp [colR, hn0]) (by simp [colI, hn0]) hn0 (by simp [colR, hn1]) (by simp [colI, hn1]) hn1 (by omega) (by omega)
end Go.Proofs.Ytfpebgcjmmhlpaa

namespace Go.Proofs.Ytfpebgcjmmhlpaa
open Go Go.Fw
namespace planeRows
open Go.ChangeShapes Go.WideShapes Go.ChangeAt Go.RowKit
theorem own : ownKnob Try.prog.godebug = none := by kernel_rfl
theorem laid : laidOutB Try.prog = true := by kernel_rfl

set_option maxRecDepth 100000 in
theorem lifted (os : Os) (started : os.Started) (H : Type) (enc : TypeId × Value → H) :
    ReturnsInHanded {} Try.checked os 4 .any (Rows.planeRowsSpec.pre6 enc Try.prog Try.f4 Rows.planeRowsRow.domain false) (Rows.planeRowsSpec.post enc Try.prog Try.f4 false true false false) := by
  refine returnsInHanded_of_change_sized (C := Try.checked) own started (by kernel_rfl) Try.func4
    (ChangeSpec.witness6 (enc := enc) (C := Try.checked) false ⟨#[], #[.slice none 0 0, .slice none 0 0], []⟩ 8 (by kernel_rfl) (by kernel_rfl) (by kernel_rfl) (by kernel_rfl)) ?_
  intro W base args ds gs before hval0 hW _ hsz0 _
  have hsz : (DataW.weightsEach Try.prog (Try.f4.params.toList ++ Rows.planeRowsSpec.plain.varTypes Try.prog) (ds ++ gs)).all (· ≤ reachBytes) = true := hsz0
  clear hsz0
  have hval : ∀ (j : Nat) t v, Try.f4.params[j]? = some t → args[j]? = some v → Value.okWide Try.prog W .any base t v := hval0
  have hW' := hW
  obtain ⟨p, q, hA0, hV, rfl, hfz, hnd⟩ := hW
  have hA : DataW.TrodAll enc Try.prog W 0 (fun _ => true) true Try.f4.params.toList args.toList ds p := hA0
  rw [Try.params4] at hA hval hsz
  obtain ⟨v0, vs0, d0, ds0, p0, q0, hargs, rfl, rfl, h0, r0⟩ := trodAll_cons hA
  obtain ⟨v1, vs1, d1, ds1, p1, q1, rfl, rfl, rfl, h1, r1⟩ := trodAll_cons r0
  obtain ⟨rfl, rfl, rfl⟩ := trodAll_nil r1
  obtain rfl : args = #[v0, v1] := by cases args; simp_all
  obtain ⟨rfl, rfl⟩ := trodVars_none hV
  obtain ⟨a0, la0, z0, hv0⟩ := okWide_slice Try.underlying35 (hval 0 35 v0 rfl rfl)
  obtain ⟨c0c0, t0_0, e0_0, l0_0, e0_1⟩ : LeafsAre W [.row 16 [.flt .f64, .flt .f64]] v0.cells.toList := arg_open 12 (by kernel_rfl) h0 (fine_of (j := 0) hsz rfl rfl)
  subst e0_1
  obtain rfl : v0 = c0c0 := by subst hv0; simpa [Value.cells] using e0_0
  obtain ⟨n0_0, c0_0, F0_0, pl0_0, hn0_0, hb0_0, hF0_0, hc0_0⟩ := row_avs (by simp) (by simp [plainSh]) l0_0
  obtain ⟨g0_0, hg0_0⟩ := choose_all (α := Nat × Nat) (n := c0_0) (p := fun i y => F0_0 i = [.flt .f64 y.1, .flt .f64 y.2] ∧ (Lit.float .f64 y.1).wf = true ∧ (Lit.float .f64 y.2).wf = true) fun i hi => by
    obtain ⟨y0, t0, e0, ⟨m0, u0, z0⟩, y1, t1, e1, ⟨m1, u1, z1⟩, e⟩ := hF0_0 i hi
    simp only [AvsAre] at e
    exact ⟨(m0, m1), by rw [e0, u0, e1, u1, e], z0, z1⟩
  have hw0_0 := fun i (hi : i < c0_0) => (hg0_0 i hi).2
  rw [flat_congr fun i hi => (hg0_0 i hi).1] at hc0_0
  obtain ⟨a1, la1, z1, hv1⟩ := okWide_slice Try.underlying35 (hval 1 35 v1 rfl rfl)
  obtain ⟨c1c0, t1_0, e1_0, l1_0, e1_1⟩ : LeafsAre W [.row 16 [.flt .f64, .flt .f64]] v1.cells.toList := arg_open 12 (by kernel_rfl) h1 (fine_of (j := 1) hsz rfl rfl)
  subst e1_1
  obtain rfl : v1 = c1c0 := by subst hv1; simpa [Value.cells] using e1_0
  obtain ⟨n1_0, c1_0, F1_0, pl1_0, hn1_0, hb1_0, hF1_0, hc1_0⟩ := row_avs (by simp) (by simp [plainSh]) l1_0
  obtain ⟨g1_0, hg1_0⟩ := choose_all (α := Nat × Nat) (n := c1_0) (p := fun i y => F1_0 i = [.flt .f64 y.1, .flt .f64 y.2] ∧ (Lit.float .f64 y.1).wf = true ∧ (Lit.float .f64 y.2).wf = true) fun i hi => by
    obtain ⟨y0, t0, e0, ⟨m0, u0, z0⟩, y1, t1, e1, ⟨m1, u1, z1⟩, e⟩ := hF1_0 i hi
    simp only [AvsAre] at e
    exact ⟨(m0, m1), by rw [e0, u0, e1, u1, e], z0, z1⟩
  have hw1_0 := fun i (hi : i < c1_0) => (hg1_0 i hi).2
  rw [flat_congr fun i hi => (hg1_0 i hi).1] at hc1_0
  clear hA0 hval0
  obtain ⟨dd0_0, cc0_0⟩ := hc0_0 [pl0_0, pl1_0] 0 (by simp) rfl
  obtain ⟨dd1_0, cc1_0⟩ := hc1_0 [pl0_0, pl1_0] 1 (by simp) rfl
  have walk := ((law_m n0_0 c0_0 g0_0 n1_0 c1_0 g1_0 hn0_0 hb0_0 hn1_0 hb1_0)).calls W [pl0_0, pl1_0] [v0, v1] (heap_args rfl fun i s hs => by
      match i, hs with
      | 0, hs => simp only [lawSpec, List.getElem?_cons_zero, Option.some.injEq] at hs; subst hs; exact ⟨_, rfl, (avl_par g0_0 c0_0).symm ▸ cc0_0⟩
      | 1, hs => simp only [lawSpec, List.getElem?_cons_succ, List.getElem?_cons_zero, Option.some.injEq] at hs; subst hs; exact ⟨_, rfl, (avl_par g1_0 c1_0).symm ▸ cc1_0⟩
      | i + 2, hs => simp [lawSpec] at hs) (by simp only [lawSpec, Dens]; exact ⟨_, _, rfl, dd0_0, ⟨_, _, rfl, dd1_0, rfl⟩⟩) (x := .bool true) (v := .bool true) rfl (by
      intro o ho y hy
      simp [lawSpec] at ho
      subst ho; rfl)
  refine walk.mono fun e W' ⟨he, hg⟩ => ?_
  subst he
  exact ⟨_, rfl, law_done laid rfl rfl Try.underlying4 (by kernel_rfl) hW' rfl hg⟩

theorem over : Rows.planeRowsRow.holds Try.pinned (OpenSpec.ofChange Rows.planeRowsSpec) :=
  OpenClaim.holds_of_wide 4 Try.f4 rfl rfl rfl rfl rfl rfl rfl ⟨rfl, rfl, rfl, rfl, rfl⟩ rfl rfl rfl rfl rfl (by kernel_rfl) Try.func4 (by kernel_rfl)
    (of_decide_eq_true (by kernel_rfl)) (by unfold Func.isWrapper; first | (rw [if_pos (by decide +kernel)]; kernel_rfl) | (rw [if_neg (by decide +kernel)]; exact ⟨rfl, rfl⟩))
    (fun os started H enc _ => lifted os started H enc)

theorem proved : Rows.PlaneRowsSaid := over
end planeRows
end Go.Proofs.Ytfpebgcjmmhlpaa
