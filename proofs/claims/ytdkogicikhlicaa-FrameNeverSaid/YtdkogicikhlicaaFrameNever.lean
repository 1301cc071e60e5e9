/-
  FrameNever, whole: any frame packed, any place, any turns of bits within sixteen of the head or thirty-two behind it: parsed again it is refused exactly if a bit was turned. By linearity of the sums. No condition.
-/
import Derived.Test.YtdkogicikhlicaaRows
import Derived.Test.YtdkogicikhlicaaFv
import Derived.Test.YtdkogicikhlicaaTwFrameNever
import Derived.Test.YtdkogicikhlicaaFa
import Derived.WalkKit
import Derived.ProofKit
import Derived.OpenShut
import Derived.SizedLaws
import Derived.ChangeMaps5
set_option linter.unusedSimpArgs false
set_option linter.unusedVariables false
set_option linter.unusedVariables false
set_option linter.unusedSimpArgs false
namespace Go.Proofs.Ytdkogicikhlicaa
open Go Go.Fw
def tyL : List (Nat × TyI) := [
  (1, ⟨.func, 1, 8, .nilFunc⟩),
  (2, ⟨.int .i64, 1, 8, .int .i64 0⟩),
  (3, ⟨.int .i64, 1, 8, .int .i64 0⟩),
  (4, ⟨.bool, 1, 1, .bool false⟩),
  (5, ⟨.int .u8, 1, 1, .int .u8 0⟩),
  (9, ⟨.str, 1, 16, .string (ByteArray.mk #[])⟩),
  (12, ⟨.int .u64, 1, 8, .int .u64 0⟩),
  (21, ⟨.int .i32, 1, 4, .int .i32 0⟩),
  (22, ⟨.struct [(0, 5), (1, 5), (2, 4), (3, 9)], 4, 24, .agg #[.int .u8 0, .int .u8 0, .bool false, .string (ByteArray.mk #[])]⟩),
  (23, ⟨.struct [(0, 5), (1, 5), (2, 4), (3, 9)], 4, 24, .agg #[.int .u8 0, .int .u8 0, .bool false, .string (ByteArray.mk #[])]⟩),
  (24, ⟨.int .i64, 1, 8, .int .i64 0⟩),
  (26, ⟨.func, 1, 8, .nilFunc⟩),
  (28, ⟨.func, 1, 8, .nilFunc⟩),
  (29, ⟨.func, 1, 8, .nilFunc⟩),
  (30, ⟨.func, 1, 8, .nilFunc⟩),
  (31, ⟨.slice 37, 1, 24, .slice none 0 0⟩),
  (32, ⟨.func, 1, 8, .nilFunc⟩),
  (33, ⟨.func, 1, 8, .nilFunc⟩),
  (34, ⟨.func, 1, 8, .nilFunc⟩),
  (35, ⟨.func, 1, 8, .nilFunc⟩),
  (36, ⟨.struct [(0, 3), (1, 23)], 5, 32, .agg #[.int .i64 0, .int .u8 0, .int .u8 0, .bool false, .string (ByteArray.mk #[])]⟩),
  (37, ⟨.struct [(0, 3), (1, 23)], 5, 32, .agg #[.int .i64 0, .int .u8 0, .int .u8 0, .bool false, .string (ByteArray.mk #[])]⟩),
  (38, ⟨.func, 1, 8, .nilFunc⟩),
  (39, ⟨.slice 23, 1, 24, .slice none 0 0⟩),
  (41, ⟨.func, 1, 8, .nilFunc⟩),
  (42, ⟨.func, 1, 8, .nilFunc⟩),
  (43, ⟨.func, 1, 8, .nilFunc⟩),
  (44, ⟨.func, 1, 8, .nilFunc⟩),
  (45, ⟨.func, 1, 8, .nilFunc⟩),
  (46, ⟨.slice 3, 1, 24, .slice none 0 0⟩),
  (47, ⟨.func, 1, 8, .nilFunc⟩),
  (48, ⟨.func, 1, 8, .nilFunc⟩),
  (49, ⟨.int .u64, 1, 8, .int .u64 0⟩),
  (50, ⟨.func, 1, 8, .nilFunc⟩),
  (51, ⟨.int .u32, 1, 4, .int .u32 0⟩),
  (52, ⟨.slice 5, 1, 24, .slice none 0 0⟩),
  (53, ⟨.func, 1, 8, .nilFunc⟩),
  (54, ⟨.func, 1, 8, .nilFunc⟩),
  (55, ⟨.array 5 5, 5, 5, .agg #[.int .u8 0, .int .u8 0, .int .u8 0, .int .u8 0, .int .u8 0]⟩),
  (56, ⟨.array 5 5, 5, 5, .agg #[.int .u8 0, .int .u8 0, .int .u8 0, .int .u8 0, .int .u8 0]⟩),
  (57, ⟨.func, 1, 8, .nilFunc⟩),
  (58, ⟨.func, 1, 8, .nilFunc⟩),
  (59, ⟨.int .u64, 1, 8, .int .u64 0⟩),
  (60, ⟨.func, 1, 8, .nilFunc⟩),
  (62, ⟨.func, 1, 8, .nilFunc⟩),
  (64, ⟨.func, 1, 8, .nilFunc⟩),
  (65, ⟨.func, 1, 8, .nilFunc⟩),
  (66, ⟨.func, 1, 8, .nilFunc⟩),
  (67, ⟨.func, 1, 8, .nilFunc⟩),
  (68, ⟨.int .u16, 1, 2, .int .u16 0⟩),
  (69, ⟨.func, 1, 8, .nilFunc⟩),
  (70, ⟨.func, 1, 8, .nilFunc⟩),
  (71, ⟨.func, 1, 8, .nilFunc⟩),
  (72, ⟨.func, 1, 8, .nilFunc⟩),
  (73, ⟨.func, 1, 8, .nilFunc⟩),
  (74, ⟨.func, 1, 8, .nilFunc⟩),
  (75, ⟨.func, 1, 8, .nilFunc⟩),
  (76, ⟨.func, 1, 8, .nilFunc⟩),
  (82, ⟨.func, 1, 8, .nilFunc⟩),
  (85, ⟨.func, 1, 8, .nilFunc⟩),
  (86, ⟨.ptr 5, 1, 8, .pointer none⟩)]
theorem tokL : TOk Try.prog tyL := tokl_of ⟨⟨by kernel_rfl, by kernel_rfl⟩, ⟨by kernel_rfl, by kernel_rfl⟩, ⟨by kernel_rfl, by kernel_rfl⟩, ⟨by kernel_rfl, by kernel_rfl⟩, ⟨by kernel_rfl, by kernel_rfl⟩, ⟨by kernel_rfl, by kernel_rfl⟩, ⟨by kernel_rfl, by kernel_rfl⟩, ⟨by kernel_rfl, by kernel_rfl⟩, ⟨by kernel_rfl, by kernel_rfl⟩, ⟨by kernel_rfl, by kernel_rfl⟩, ⟨by kernel_rfl, by kernel_rfl⟩, ⟨by kernel_rfl, by kernel_rfl⟩, ⟨by kernel_rfl, by kernel_rfl⟩, ⟨by kernel_rfl, by kernel_rfl⟩, ⟨by kernel_rfl, by kernel_rfl⟩, ⟨by kernel_rfl, by kernel_rfl⟩, ⟨by kernel_rfl, by kernel_rfl⟩, ⟨by kernel_rfl, by kernel_rfl⟩, ⟨by kernel_rfl, by kernel_rfl⟩, ⟨by kernel_rfl, by kernel_rfl⟩, ⟨by kernel_rfl, by kernel_rfl⟩, ⟨by kernel_rfl, by kernel_rfl⟩, ⟨by kernel_rfl, by kernel_rfl⟩, ⟨by kernel_rfl, by kernel_rfl⟩, ⟨by kernel_rfl, by kernel_rfl⟩, ⟨by kernel_rfl, by kernel_rfl⟩, ⟨by kernel_rfl, by kernel_rfl⟩, ⟨by kernel_rfl, by kernel_rfl⟩, ⟨by kernel_rfl, by kernel_rfl⟩, ⟨by kernel_rfl, by kernel_rfl⟩, ⟨by kernel_rfl, by kernel_rfl⟩, ⟨by kernel_rfl, by kernel_rfl⟩, ⟨by kernel_rfl, by kernel_rfl⟩, ⟨by kernel_rfl, by kernel_rfl⟩, ⟨by kernel_rfl, by kernel_rfl⟩, ⟨by kernel_rfl, by kernel_rfl⟩, ⟨by kernel_rfl, by kernel_rfl⟩, ⟨by kernel_rfl, by kernel_rfl⟩, ⟨by kernel_rfl, by kernel_rfl⟩, ⟨by kernel_rfl, by kernel_rfl⟩, ⟨by kernel_rfl, by kernel_rfl⟩, ⟨by kernel_rfl, by kernel_rfl⟩, ⟨by kernel_rfl, by kernel_rfl⟩, ⟨by kernel_rfl, by kernel_rfl⟩, ⟨by kernel_rfl, by kernel_rfl⟩, ⟨by kernel_rfl, by kernel_rfl⟩, ⟨by kernel_rfl, by kernel_rfl⟩, ⟨by kernel_rfl, by kernel_rfl⟩, ⟨by kernel_rfl, by kernel_rfl⟩, ⟨by kernel_rfl, by kernel_rfl⟩, ⟨by kernel_rfl, by kernel_rfl⟩, ⟨by kernel_rfl, by kernel_rfl⟩, ⟨by kernel_rfl, by kernel_rfl⟩, ⟨by kernel_rfl, by kernel_rfl⟩, ⟨by kernel_rfl, by kernel_rfl⟩, ⟨by kernel_rfl, by kernel_rfl⟩, ⟨by kernel_rfl, by kernel_rfl⟩, ⟨by kernel_rfl, by kernel_rfl⟩, ⟨by kernel_rfl, by kernel_rfl⟩, ⟨by kernel_rfl, by kernel_rfl⟩, ⟨by kernel_rfl, by kernel_rfl⟩, True.intro⟩
theorem mixedL : Try.prog.follows .mixedOrders = true := by kernel_rfl
theorem i64max : IntKind.i64.max = 9223372036854775807 := rfl
theorem u8max : IntKind.u8.max = 255 := rfl
theorem u16max : IntKind.u16.max = 65535 := rfl
theorem u32max : IntKind.u32.max = 4294967295 := rfl
theorem u64max : IntKind.u64.max = 18446744073709551615 := rfl
def qf : Nat → Bool := fun f => match f with | 1000052 => true | _ => false
def cfgs (k : Nat) : Cfg := { T := tyL, sgn := fun _ => false, wr := fun _ => false, k := k, q := qf }
def numOut (D : List Seg) (x : AV) : FOut := ⟨Unit, fun _ => True, fun _ => x, fun _ => D⟩
theorem u32wrap (n : Int) : IntKind.u32.wrap n = n % 4294967296 := by
  unfold IntKind.wrap
  simp [IntKind.bits, IntKind.signed]
theorem u16wrap (n : Int) : IntKind.u16.wrap n = n % 65536 := by
  unfold IntKind.wrap
  simp [IntKind.bits, IntKind.signed]
def nx (W : Nat) (p s : Nat) (b : Bool) : Nat := if (Nat.testBit s (W - 1)) != b then ((2 * s) % 2 ^ W) ^^^ p else (2 * s) % 2 ^ W
theorem xor_add_mod (a b n : Nat) : (2 * (a ^^^ b)) % 2 ^ n = (2 * a) % 2 ^ n ^^^ (2 * b) % 2 ^ n := by
  have e : ∀ x : Nat, 2 * x = x <<< 1 := fun x => by rw [Nat.shiftLeft_eq]; omega
  rw [e, e, e]
  apply Nat.eq_of_testBit_eq
  intro i
  simp only [Nat.testBit_mod_two_pow, Nat.testBit_xor, Nat.testBit_shiftLeft]
  cases decide (i < n) <;> cases decide (i ≥ 1) <;> simp
theorem nx_xor (W p s t : Nat) (a b : Bool) : nx W p (s ^^^ t) (a != b) = nx W p s a ^^^ nx W p t b := by
  unfold nx
  rw [Nat.testBit_xor, xor_add_mod]
  generalize (2 * s) % 2 ^ W = u
  generalize (2 * t) % 2 ^ W = v
  cases Nat.testBit s (W-1) <;> cases Nat.testBit t (W-1) <;> cases a <;> cases b <;> simp <;> (apply Nat.eq_of_testBit_eq; intro i; simp only [Nat.testBit_xor]; cases u.testBit i <;> cases v.testBit i <;> cases p.testBit i <;> rfl)
def crc (W p : Nat) : Nat → List Bool → Nat
  | s, [] => s
  | s, b :: l => crc W p (nx W p s b) l
theorem crc_xor (W p : Nat) : ∀ (l m : List Bool) (s t : Nat), l.length = m.length → crc W p (s ^^^ t) (List.zipWith (· != ·) l m) = crc W p s l ^^^ crc W p t m
  | [], [], s, t, _ => rfl
  | [], _ :: _, _, _, h => by simp at h
  | _ :: _, [], _, _, h => by simp at h
  | a :: l, b :: m, s, t, h => by
    simp only [crc, List.zipWith_cons_cons]
    rw [nx_xor]
    exact crc_xor W p l m _ _ (by simpa using h)
theorem crc_append (W p : Nat) : ∀ (l m : List Bool) (s : Nat), crc W p s (l ++ m) = crc W p (crc W p s l) m
  | [], _, _ => rfl
  | a :: l, m, s => by simp only [crc, List.cons_append, crc_append W p l m]
theorem nx_zero (W p : Nat) : nx W p 0 false = 0 := by simp [nx]
theorem crc_zeros (W p : Nat) : ∀ n, crc W p 0 (List.replicate n false) = 0
  | 0 => rfl
  | n + 1 => by simp only [List.replicate_succ, crc, nx_zero, crc_zeros W p n]
theorem nx_lt {W p s : Nat} (b : Bool) (hp : p < 2 ^ W) : nx W p s b < 2 ^ W := by
  have h : (2 * s) % 2 ^ W < 2 ^ W := Nat.mod_lt _ (Nat.two_pow_pos W)
  unfold nx
  split
  · exact Nat.xor_lt_two_pow h hp
  · exact h
theorem crc_lt {W p : Nat} (hp : p < 2 ^ W) : ∀ (l : List Bool) (s : Nat), s < 2 ^ W → crc W p s l < 2 ^ W
  | [], _, h => h
  | b :: l, s, h => crc_lt hp l _ (nx_lt b hp)
theorem crc_snoc (W p s : Nat) (l : List Bool) (b : Bool) : crc W p s (l ++ [b]) = nx W p (crc W p s l) b := by rw [crc_append]; rfl
theorem tb32 (s : Nat) (hs : s < 4294967296) : (!decide ((s : Int) / 2 ^ (min ((32 : Int) - 1).toNat (IntKind.bits .u32)) = 0)) = Nat.testBit s 31 := by
  show (!decide ((s : Int) / 2147483648 = 0)) = Nat.testBit s 31
  rw [Nat.testBit_eq_decide_div_mod_eq]
  have e : (2 : Nat) ^ 31 = 2147483648 := rfl
  rw [e]
  apply Bool.eq_iff_iff.mpr
  simp only [Bool.not_eq_true', decide_eq_true_eq, decide_eq_false_iff_not]
  omega
theorem sh32 (s : Nat) : IntKind.u32.wrap ((s : Int) * 2 ^ (min (Int.toNat 1) (IntKind.bits .u32))) = ((2 * s % 4294967296 : Nat) : Int) := by
  rw [u32wrap]
  show ((s : Int) * 2) % 4294967296 = _
  omega
noncomputable def c37 : Code := (Try.f37.body).getD .skip
set_option maxRecDepth 100000 in
theorem next32_f (s p : Nat) (b : Bool) (hs : s < 4294967296) (hp : p < 4294967296) : Fits Try.prog 37 ⟨[.int .u32 s, .int .u32 p, .bool b], [], [numOut [] (.int .u32 (nx 32 p s b : Nat))]⟩ := by
  refine fits_of_body (C := cfgs 0) (c := c37) (ts := [6]) tokL mixedL (fun _ => none) (fun _ => none)
    Try.func37 (by kernel_rfl) (by kernel_rfl) (by kernel_rfl) (by kernel_rfl) rfl ?_
  have hn : nx 32 p s b = if (Nat.testBit s 31) != b then (2 * s % 4294967296) ^^^ p else 2 * s % 4294967296 := rfl
  conv => whnf
  refine ⟨_, [], wide32_T, ?_⟩
  conv => whnf
  iterate 2
   refine And.intro ?_ ?_
   focus
    conv => whnf
    repeat' (first | exact True.intro | rfl | refine And.intro ?_ ?_ | omega)
    all_goals (conv => whnf)
    all_goals (try (first | rfl | omega | (simp; done)))
  conv => whnf
  refine ⟨?_, True.intro⟩
  intro _ _
  conv => whnf
  refine ⟨by repeat' (first | omega | exact Int.natCast_nonneg _ | (simp only [i64max]; omega) | (simp only [u8max]; omega) | refine And.intro ?_ ?_), ?_⟩
  conv => whnf
  refine ⟨by repeat' (first | omega | exact Int.natCast_nonneg _ | (simp only [i64max]; omega) | (simp only [u8max]; omega) | refine And.intro ?_ ?_), ?_⟩
  conv => whnf
  rw [tb32 s hs]
  conv => whnf
  refine ⟨by repeat' (first | omega | exact Int.natCast_nonneg _ | (simp only [i64max]; omega) | (simp only [u8max]; omega) | refine And.intro ?_ ?_), ?_⟩
  conv => whnf
  rw [sh32]
  refine tst_in (fun h => ?_) (fun h => ?_)
  · rw [if_pos h] at hn
    have hm : 2 * s % 4294967296 < 4294967296 := Nat.mod_lt _ (by decide)
    conv => whnf
    refine ⟨⟨by omega, by omega, by show ((2 * s % 4294967296 : Nat) : Int) ≤ 4294967295; omega, by show (p : Int) ≤ 4294967295; omega⟩, ?_⟩
    conv => whnf
    refine .inl ⟨(), [], ?_⟩
    conv => whnf
    repeat' (first | exact True.intro | rfl | refine And.intro ?_ ?_)
    all_goals (show ((nx 32 p s b : Nat) : Int) = _; first | (rw [hn]; done) | (rw [hn]; rfl))
  · rw [if_neg (by rw [h]; decide)] at hn
    conv => whnf
    refine .inl ⟨(), [], ?_⟩
    conv => whnf
    repeat' (first | exact True.intro | rfl | refine And.intro ?_ ?_)
    all_goals (show ((nx 32 p s b : Nat) : Int) = _; first | (rw [hn]; done) | (rw [hn]; rfl))
theorem tb16 (s : Nat) (hs : s < 65536) : (!decide ((s : Int) / 2 ^ (min ((16 : Int) - 1).toNat (IntKind.bits .u16)) = 0)) = Nat.testBit s 15 := by
  show (!decide ((s : Int) / 32768 = 0)) = Nat.testBit s 15
  rw [Nat.testBit_eq_decide_div_mod_eq]
  have e : (2 : Nat) ^ 15 = 32768 := rfl
  rw [e]
  apply Bool.eq_iff_iff.mpr
  simp only [Bool.not_eq_true', decide_eq_true_eq, decide_eq_false_iff_not]
  omega
theorem sh16 (s : Nat) : IntKind.u16.wrap ((s : Int) * 2 ^ (min (Int.toNat 1) (IntKind.bits .u16))) = ((2 * s % 65536 : Nat) : Int) := by
  rw [u16wrap]
  show ((s : Int) * 2) % 65536 = _
  omega
noncomputable def c38 : Code := (Try.f38.body).getD .skip
set_option maxRecDepth 100000 in
theorem next16_f (s p : Nat) (b : Bool) (hs : s < 65536) (hp : p < 65536) : Fits Try.prog 38 ⟨[.int .u16 s, .int .u16 p, .bool b], [], [numOut [] (.int .u16 (nx 16 p s b : Nat))]⟩ := by
  refine fits_of_body (C := cfgs 0) (c := c38) (ts := [6]) tokL mixedL (fun _ => none) (fun _ => none)
    Try.func38 (by kernel_rfl) (by kernel_rfl) (by kernel_rfl) (by kernel_rfl) rfl ?_
  have hn : nx 16 p s b = if (Nat.testBit s 15) != b then (2 * s % 65536) ^^^ p else 2 * s % 65536 := rfl
  conv => whnf
  refine ⟨_, [], wide16_T, ?_⟩
  conv => whnf
  iterate 2
   refine And.intro ?_ ?_
   focus
    conv => whnf
    repeat' (first | exact True.intro | rfl | refine And.intro ?_ ?_ | omega)
    all_goals (conv => whnf)
    all_goals (try (first | rfl | omega | (simp; done)))
  conv => whnf
  refine ⟨?_, True.intro⟩
  intro _ _
  conv => whnf
  refine ⟨by repeat' (first | omega | exact Int.natCast_nonneg _ | (simp only [i64max]; omega) | (simp only [u8max]; omega) | refine And.intro ?_ ?_), ?_⟩
  conv => whnf
  refine ⟨by repeat' (first | omega | exact Int.natCast_nonneg _ | (simp only [i64max]; omega) | (simp only [u8max]; omega) | refine And.intro ?_ ?_), ?_⟩
  conv => whnf
  rw [tb16 s hs]
  conv => whnf
  refine ⟨by repeat' (first | omega | exact Int.natCast_nonneg _ | (simp only [i64max]; omega) | (simp only [u8max]; omega) | refine And.intro ?_ ?_), ?_⟩
  conv => whnf
  rw [sh16]
  refine tst_in (fun h => ?_) (fun h => ?_)
  · rw [if_pos h] at hn
    have hm : 2 * s % 65536 < 65536 := Nat.mod_lt _ (by decide)
    conv => whnf
    refine ⟨⟨by omega, by omega, by show ((2 * s % 65536 : Nat) : Int) ≤ 65535; omega, by show (p : Int) ≤ 65535; omega⟩, ?_⟩
    conv => whnf
    refine .inl ⟨(), [], ?_⟩
    conv => whnf
    repeat' (first | exact True.intro | rfl | refine And.intro ?_ ?_)
    all_goals (show ((nx 16 p s b : Nat) : Int) = _; first | (rw [hn]; done) | (rw [hn]; rfl))
  · rw [if_neg (by rw [h]; decide)] at hn
    conv => whnf
    refine .inl ⟨(), [], ?_⟩
    conv => whnf
    repeat' (first | exact True.intro | rfl | refine And.intro ?_ ?_)
    all_goals (show ((nx 16 p s b : Nat) : Int) = _; first | (rw [hn]; done) | (rw [hn]; rfl))
end Go.Proofs.Ytdkogicikhlicaa

set_option linter.unusedVariables false
set_option linter.unusedSimpArgs false
namespace Go.Proofs.Ytdkogicikhlicaa
open Go Go.Fw
def bb (x : Nat) : List Bool := [x.testBit 7, x.testBit 6, x.testBit 5, x.testBit 4, x.testBit 3, x.testBit 2, x.testBit 1, x.testBit 0]
/-- The bits of the first k bytes. -/
def bst (f : Nat → Nat) : Nat → List Bool
  | 0 => []
  | k + 1 => bst f k ++ bb (f k)
theorem bst_congr {f g : Nat → Nat} : ∀ {n : Nat}, (∀ i, i < n → f i = g i) → bst f n = bst g n
  | 0, _ => rfl
  | n + 1, h => by
    have e := bst_congr (n := n) fun i hi => h i (by omega)
    show bst f n ++ bb (f n) = bst g n ++ bb (g n)
    rw [e, h n (by omega)]
theorem bst_len (f : Nat → Nat) : ∀ n, (bst f n).length = 8 * n
  | 0 => rfl
  | n + 1 => by simp only [bst, List.length_append, bst_len f n, bb, List.length_cons, List.length_nil]; omega
theorem bb_take (x j : Nat) (h : j < 8) : (bb x).take (j + 1) = (bb x).take j ++ [x.testBit (7 - j)] := by
  obtain rfl | rfl | rfl | rfl | rfl | rfl | rfl | rfl : j = 0 ∨ j = 1 ∨ j = 2 ∨ j = 3 ∨ j = 4 ∨ j = 5 ∨ j = 6 ∨ j = 7 := by omega
  all_goals rfl
theorem bb_all (x : Nat) : (bb x).take 8 = bb x := rfl
def bytL (s : ByteArray) : List Int := s.data.toList.map (fun b => (b.toNat : Int))
theorem bytL_len (s : ByteArray) : (bytL s).length = s.size := by unfold bytL; rw [List.length_map]; rfl
theorem bytL_get (s : ByteArray) (t : List Int) {i : Nat} (h : i < s.size) : (bytL s ++ t).getD i 0 = (byteAt s i : Int) := by
  rw [g_app, bytL_len, if_pos h]
  unfold bytL byteAt
  rw [List.getD_eq_getElem?_getD, List.getElem?_map, List.getD_eq_getElem?_getD]
  have : i < s.data.toList.length := h
  rw [List.getElem?_eq_getElem this]; rfl
theorem byteAt_lt (s : ByteArray) (i : Nat) : byteAt s i < 256 := by unfold byteAt; exact UInt8.toNat_lt _
def natAt (st : St) (t : Nat) : Nat := match slot st.sl t with | .int _ n => n.toNat | _ => 0
theorem shb_eq (C j : Nat) (b : Int) (hb : b.toNat = j) (hj : j ≤ 7) : (C : Int) / 2 ^ (min b.toNat (IntKind.bits .u8)) = ((C >>> j : Nat) : Int) := by
  rw [hb, Nat.min_eq_left (by show j ≤ 8; omega), Nat.shiftRight_eq_div_pow, Int.natCast_ediv, Int.natCast_pow]; rfl
theorem bit_eq (C j : Nat) : (!decide (((((C >>> j : Nat) : Int).toNat &&& (1 : Int).toNat : Nat) : Int) = 0)) = C.testBit j := by
  have e : (((C >>> j : Nat) : Int).toNat &&& (1 : Int).toNat) = (C >>> j) % 2 := by
    rw [Int.toNat_natCast]; exact Nat.and_one_is_mod _
  rw [e, Nat.testBit_eq_decide_div_mod_eq, Nat.shiftRight_eq_div_pow]
  apply Bool.eq_iff_iff.mpr
  simp only [Bool.not_eq_true', decide_eq_true_eq, decide_eq_false_iff_not]
  omega
noncomputable def c35 : Code := (Try.f35.body).getD .skip
def st35 (p : Nat) (s : ByteArray) (i n : Nat) : St := ⟨slotsAt 30 [(0, .int .u32 p), (1, .str s), (5, .int .u32 (crc 32 p 0 (bst (byteAt s) i) : Nat)), (10, .slice 0 0 s.size (s.size + n)), (11, .int .i64 s.size), (12, .int .i64 i)], [.seg true (.ints .u8 (bytL s ++ List.replicate n 0))]⟩
def inv35 (p : Nat) (s : ByteArray) : LInv := ⟨Nat × Nat, fun t => st35 p s t.1 t.2, fun t => t.1 ≤ s.size, fun t => s.size - t.1⟩
def st35b (p : Nat) (s : ByteArray) (i n j : Nat) : St := ⟨slotsAt 30 [(0, .int .u32 p), (1, .str s), (5, .int .u32 (crc 32 p (crc 32 p 0 (bst (byteAt s) i)) ((bb (byteAt s i)).take j) : Nat)), (7, .int .u8 (byteAt s i)), (8, .int .i64 (7 - (j : Int))), (10, .slice 0 0 s.size (s.size + n)), (11, .int .i64 s.size), (12, .int .i64 i)], [.seg true (.ints .u8 (bytL s ++ List.replicate n 0))]⟩
def inv35b (p : Nat) (s : ByteArray) (st : St) : LInv := ⟨Nat × Nat, fun t => st35b p s (natAt st 12) t.1 t.2, fun t => t.2 ≤ 8, fun t => 8 - t.2⟩
set_option maxHeartbeats 0 in
set_option maxRecDepth 100000 in
theorem of32_f (p : Nat) (s : ByteArray) (hp : p < 4294967296) (hs : s.size ≤ 140737488355328) : Fits Try.prog 35 ⟨[.int .u32 p, .str s], [], [numOut [] (.int .u32 (crc 32 p 0 (bst (byteAt s) s.size) : Nat))]⟩ := by
  refine fits_of_body (C := { cfgs 0 with dep := fun | 6 => some (inv35b p s) | _ => none }) (c := c35) (ts := [4]) tokL mixedL (fun | 3 => some (inv35 p s) | _ => none) (fun _ => none)
    Try.func35 (by kernel_rfl) (by kernel_rfl) (by kernel_rfl) (by kernel_rfl) rfl ?_
  conv => whnf
  intro n
  conv => whnf
  refine ⟨⟨[0], (0, n), ?_, Nat.zero_le _⟩, ?_⟩
  · show stLe _ _ (st35 p s 0 n) _
    conv => whnf
    repeat' (first | exact True.intro | rfl | refine And.intro ?_ ?_)
    all_goals (conv => whnf)
    repeat' (first | exact True.intro | rfl | refine And.intro ?_ ?_)
    all_goals (try omega)
  · intro ⟨i, n⟩ (hi : i ≤ s.size)
    show forceSt (st35 p s i n) _
    have hC : crc 32 p 0 (bst (byteAt s) i) < 4294967296 := crc_lt (W := 32) hp _ _ (by decide)
    conv => whnf
    refine tst_in (fun h1 => ?_) (fun h1' => ?_)
    · skip
      have h1 : i < s.size := by simp at h1; omega
      conv => whnf
      repeat (first
        | (refine And.intro ?_ ?_; (focus (first | omega | decide | exact EqOk.mk (by kernel_rfl) (by kernel_rfl) (by kernel_rfl) | exact Int.natCast_nonneg _ | ((repeat' refine And.intro ?_ ?_) <;> first | omega | exact Int.natCast_nonneg _ | (simp only [i64max, u8max, u16max, u32max, u64max]; omega) | (simp only [mulSz_eq, Cont.len, colsLen, Col.len, List.length_cons, List.length_nil, List.length_replicate, List.length_append, bytL_len, List.length_append, List.length_replicate]; first | done | omega) | (simp [mulSz, Cont.len, bne, bytL_len, List.length_append, List.length_replicate]; first | done | omega)))); conv => whnf)
        | (refine tst_in ?_ ?_; (focus (intro h_; exfalso; first | omega | ((try simp only [decide_eq_true_eq, decide_eq_false_iff_not] at h_); omega) | (simp [mulSz, Cont.len, bne, bytL_len, List.length_append, List.length_replicate] at h_; first | done | omega))); intro _; conv => whnf)
        | (refine tst_in ?_ ?_; rotate_left; (focus (intro h_; exfalso; first | omega | ((try simp only [decide_eq_true_eq, decide_eq_false_iff_not] at h_); omega) | (simp [mulSz, Cont.len, bne, bytL_len, List.length_append, List.length_replicate] at h_; first | done | omega))); intro _; conv => whnf)
        | (refine ⟨0, (show _ = _ by omega), ?_⟩; conv => whnf))
      refine ⟨⟨[0], (n, 0), ?_, Nat.zero_le _⟩, ?_⟩
      · show stLe _ _ (st35b p s i n 0) _
        conv => whnf
        repeat' (first | exact True.intro | rfl | refine And.intro ?_ ?_)
        all_goals (conv => whnf)
        repeat' (first | exact True.intro | rfl | refine And.intro ?_ ?_)
        all_goals (try omega)
        rw [show 0 + (i : Int).toNat = i by omega]
        exact (bytL_get s _ h1).symm
      · intro ⟨n, j⟩ (hj : j ≤ 8)
        show forceSt (st35b p s i n j) _
        have hD : crc 32 p (crc 32 p 0 (bst (byteAt s) i)) ((bb (byteAt s i)).take j) < 4294967296 := crc_lt (W := 32) hp _ _ hC
        generalize hE : crc 32 p (crc 32 p 0 (bst (byteAt s) i)) ((bb (byteAt s i)).take j) = D at hD
        have hx := byteAt_lt s i
        conv => whnf
        rw [hE]
        refine tst_in (fun h2 => ?_) (fun h2' => ?_)
        · skip
          have h2 : j < 8 := by rw [dLe_eq] at h2; simp at h2; omega
          conv => whnf
          rw [shb_eq (byteAt s i) (7 - j) (7 - (j : Int)) (by omega) (by omega)]
          have hsr : byteAt s i >>> (7 - j) ≤ byteAt s i := Nat.shiftRight_le _ _
          conv => whnf
          repeat (first
            | (refine And.intro ?_ ?_; (focus (first | omega | decide | exact EqOk.mk (by kernel_rfl) (by kernel_rfl) (by kernel_rfl) | exact Int.natCast_nonneg _ | ((repeat' refine And.intro ?_ ?_) <;> first | omega | exact Int.natCast_nonneg _ | (simp only [i64max, u8max, u16max, u32max, u64max]; omega) | (simp only [mulSz_eq, Cont.len, colsLen, Col.len, List.length_cons, List.length_nil, List.length_replicate, List.length_append, u8max]; first | done | omega) | (simp [mulSz, Cont.len, bne, u8max]; first | done | omega)))); conv => whnf)
            | (refine tst_in ?_ ?_; (focus (intro h_; exfalso; first | omega | ((try simp only [decide_eq_true_eq, decide_eq_false_iff_not] at h_); omega) | (simp [mulSz, Cont.len, bne, u8max] at h_; first | done | omega))); intro _; conv => whnf)
            | (refine tst_in ?_ ?_; rotate_left; (focus (intro h_; exfalso; first | omega | ((try simp only [decide_eq_true_eq, decide_eq_false_iff_not] at h_); omega) | (simp [mulSz, Cont.len, bne, u8max] at h_; first | done | omega))); intro _; conv => whnf)
            | (refine ⟨0, (show _ = _ by omega), ?_⟩; conv => whnf))
          rw [bit_eq]
          have NX := next32_f D p ((byteAt s i).testBit (7 - j)) hD hp
          refine ⟨_, [], NX, ?_⟩
          conv => whnf
          iterate 2
           refine And.intro ?_ ?_
           focus
            conv => whnf
            repeat' (first | exact True.intro | rfl | refine And.intro ?_ ?_ | omega)
            all_goals (conv => whnf)
            all_goals (try (first | rfl | omega | (simp; done)))
          conv => whnf
          refine ⟨?_, True.intro⟩
          intro _ _
          conv => whnf
          conv => whnf
          repeat (first
            | (refine And.intro ?_ ?_; (focus (first | omega | decide | exact EqOk.mk (by kernel_rfl) (by kernel_rfl) (by kernel_rfl) | exact Int.natCast_nonneg _ | ((repeat' refine And.intro ?_ ?_) <;> first | omega | exact Int.natCast_nonneg _ | (simp only [i64max, u8max, u16max, u32max, u64max]; omega) | (simp only [mulSz_eq, Cont.len, colsLen, Col.len, List.length_cons, List.length_nil, List.length_replicate, List.length_append]; first | done | omega) | (simp [mulSz, Cont.len, bne]; first | done | omega)))); conv => whnf)
            | (refine tst_in ?_ ?_; (focus (intro h_; exfalso; first | omega | ((try simp only [decide_eq_true_eq, decide_eq_false_iff_not] at h_); omega) | (simp [mulSz, Cont.len, bne] at h_; first | done | omega))); intro _; conv => whnf)
            | (refine tst_in ?_ ?_; rotate_left; (focus (intro h_; exfalso; first | omega | ((try simp only [decide_eq_true_eq, decide_eq_false_iff_not] at h_); omega) | (simp [mulSz, Cont.len, bne] at h_; first | done | omega))); intro _; conv => whnf)
            | (refine ⟨0, (show _ = _ by omega), ?_⟩; conv => whnf))
          refine ⟨[0], (n, j + 1), ?_, (by show j + 1 ≤ 8; omega), (by show 8 - (j + 1) < 8 - j; omega)⟩
          show stLe _ _ (st35b p s i n (j + 1)) _
          conv => whnf
          repeat' (first | exact True.intro | rfl | refine And.intro ?_ ?_)
          all_goals (conv => whnf)
          repeat' (first | exact True.intro | rfl | refine And.intro ?_ ?_)
          all_goals (try omega)
          rw [bb_take _ _ h2, crc_snoc, hE]
        · skip
          have h2 : j = 8 := by rw [dLe_eq] at h2'; simp at h2'; omega
          subst h2
          conv => whnf
          repeat (first
            | (refine And.intro ?_ ?_; (focus (first | omega | decide | exact EqOk.mk (by kernel_rfl) (by kernel_rfl) (by kernel_rfl) | exact Int.natCast_nonneg _ | ((repeat' refine And.intro ?_ ?_) <;> first | omega | exact Int.natCast_nonneg _ | (simp only [i64max, u8max, u16max, u32max, u64max]; omega) | (simp only [mulSz_eq, Cont.len, colsLen, Col.len, List.length_cons, List.length_nil, List.length_replicate, List.length_append]; first | done | omega) | (simp [mulSz, Cont.len, bne]; first | done | omega)))); conv => whnf)
            | (refine tst_in ?_ ?_; (focus (intro h_; exfalso; first | omega | ((try simp only [decide_eq_true_eq, decide_eq_false_iff_not] at h_); omega) | (simp [mulSz, Cont.len, bne] at h_; first | done | omega))); intro _; conv => whnf)
            | (refine tst_in ?_ ?_; rotate_left; (focus (intro h_; exfalso; first | omega | ((try simp only [decide_eq_true_eq, decide_eq_false_iff_not] at h_); omega) | (simp [mulSz, Cont.len, bne] at h_; first | done | omega))); intro _; conv => whnf)
            | (refine ⟨0, (show _ = _ by omega), ?_⟩; conv => whnf))
          refine ⟨[0], (i + 1, n), ?_, (by show i + 1 ≤ s.size; omega), (by show s.size - (i + 1) < s.size - i; omega)⟩
          show stLe _ _ (st35 p s (i + 1) n) _
          conv => whnf
          repeat' (first | exact True.intro | rfl | refine And.intro ?_ ?_)
          all_goals (conv => whnf)
          repeat' (first | exact True.intro | rfl | refine And.intro ?_ ?_)
          all_goals (try omega)
          rw [← hE, bb_all, ← crc_append]; rfl
    · skip
      have h1 : i = s.size := by simp at h1'; omega
      conv => whnf
      refine .inl ⟨(), [], ?_⟩
      conv => whnf
      repeat' (first | exact True.intro | rfl | refine And.intro ?_ ?_)
      all_goals (conv => whnf)
      repeat' (first | exact True.intro | rfl | refine And.intro ?_ ?_)
      all_goals (try omega)
      rw [h1]
noncomputable def c33 : Code := (Try.f33.body).getD .skip
def crc32 (s : ByteArray) : Nat := crc 32 79764919 0 (bst (byteAt s) s.size)
theorem crc32_lt (s : ByteArray) : crc32 s < 4294967296 := crc_lt (W := 32) (by decide) _ _ (by decide)
set_option maxHeartbeats 0 in
set_option maxRecDepth 100000 in
theorem bytes32_f (s : ByteArray) (hs : s.size ≤ 140737488355328) : Fits Try.prog 33 ⟨[.str s], [], [numOut [] (.int .u32 (crc32 s : Nat))]⟩ := by
  have OF := of32_f 79764919 s (by decide) hs
  refine fits_of_body (C := cfgs 0) (c := c33) (ts := [2]) tokL mixedL (fun _ => none) (fun _ => none)
    Try.func33 (by kernel_rfl) (by kernel_rfl) (by kernel_rfl) (by kernel_rfl) rfl ?_
  conv => whnf
  refine ⟨_, [], OF, ?_⟩
  conv => whnf
  iterate 2
   refine And.intro ?_ ?_
   focus
    conv => whnf
    repeat' (first | exact True.intro | rfl | refine And.intro ?_ ?_ | omega)
    all_goals (conv => whnf)
    all_goals (try (first | rfl | omega | (simp; done)))
  conv => whnf
  refine ⟨?_, True.intro⟩
  intro _ _
  conv => whnf
  conv => whnf
  refine .inl ⟨(), [], ?_⟩
  conv => whnf
  repeat' (first | exact True.intro | rfl | refine And.intro ?_ ?_)
  all_goals (conv => whnf)
  repeat' (first | exact True.intro | rfl | refine And.intro ?_ ?_)
  all_goals (try omega)
noncomputable def c36 : Code := (Try.f36.body).getD .skip
def st36 (p : Nat) (s : ByteArray) (i n : Nat) : St := ⟨slotsAt 30 [(0, .int .u16 p), (1, .str s), (5, .int .u16 (crc 16 p 0 (bst (byteAt s) i) : Nat)), (10, .slice 0 0 s.size (s.size + n)), (11, .int .i64 s.size), (12, .int .i64 i)], [.seg true (.ints .u8 (bytL s ++ List.replicate n 0))]⟩
def inv36 (p : Nat) (s : ByteArray) : LInv := ⟨Nat × Nat, fun t => st36 p s t.1 t.2, fun t => t.1 ≤ s.size, fun t => s.size - t.1⟩
def st36b (p : Nat) (s : ByteArray) (i n j : Nat) : St := ⟨slotsAt 30 [(0, .int .u16 p), (1, .str s), (5, .int .u16 (crc 16 p (crc 16 p 0 (bst (byteAt s) i)) ((bb (byteAt s i)).take j) : Nat)), (7, .int .u8 (byteAt s i)), (8, .int .i64 (7 - (j : Int))), (10, .slice 0 0 s.size (s.size + n)), (11, .int .i64 s.size), (12, .int .i64 i)], [.seg true (.ints .u8 (bytL s ++ List.replicate n 0))]⟩
def inv36b (p : Nat) (s : ByteArray) (st : St) : LInv := ⟨Nat × Nat, fun t => st36b p s (natAt st 12) t.1 t.2, fun t => t.2 ≤ 8, fun t => 8 - t.2⟩
set_option maxHeartbeats 0 in
set_option maxRecDepth 100000 in
theorem of16_f (p : Nat) (s : ByteArray) (hp : p < 65536) (hs : s.size ≤ 140737488355328) : Fits Try.prog 36 ⟨[.int .u16 p, .str s], [], [numOut [] (.int .u16 (crc 16 p 0 (bst (byteAt s) s.size) : Nat))]⟩ := by
  refine fits_of_body (C := { cfgs 0 with dep := fun | 6 => some (inv36b p s) | _ => none }) (c := c36) (ts := [4]) tokL mixedL (fun | 3 => some (inv36 p s) | _ => none) (fun _ => none)
    Try.func36 (by kernel_rfl) (by kernel_rfl) (by kernel_rfl) (by kernel_rfl) rfl ?_
  conv => whnf
  intro n
  conv => whnf
  refine ⟨⟨[0], (0, n), ?_, Nat.zero_le _⟩, ?_⟩
  · show stLe _ _ (st36 p s 0 n) _
    conv => whnf
    repeat' (first | exact True.intro | rfl | refine And.intro ?_ ?_)
    all_goals (conv => whnf)
    repeat' (first | exact True.intro | rfl | refine And.intro ?_ ?_)
    all_goals (try omega)
  · intro ⟨i, n⟩ (hi : i ≤ s.size)
    show forceSt (st36 p s i n) _
    have hC : crc 16 p 0 (bst (byteAt s) i) < 65536 := crc_lt (W := 16) hp _ _ (by decide)
    conv => whnf
    refine tst_in (fun h1 => ?_) (fun h1' => ?_)
    · skip
      have h1 : i < s.size := by simp at h1; omega
      conv => whnf
      repeat (first
        | (refine And.intro ?_ ?_; (focus (first | omega | decide | exact EqOk.mk (by kernel_rfl) (by kernel_rfl) (by kernel_rfl) | exact Int.natCast_nonneg _ | ((repeat' refine And.intro ?_ ?_) <;> first | omega | exact Int.natCast_nonneg _ | (simp only [i64max, u8max, u16max, u32max, u64max]; omega) | (simp only [mulSz_eq, Cont.len, colsLen, Col.len, List.length_cons, List.length_nil, List.length_replicate, List.length_append, bytL_len, List.length_append, List.length_replicate]; first | done | omega) | (simp [mulSz, Cont.len, bne, bytL_len, List.length_append, List.length_replicate]; first | done | omega)))); conv => whnf)
        | (refine tst_in ?_ ?_; (focus (intro h_; exfalso; first | omega | ((try simp only [decide_eq_true_eq, decide_eq_false_iff_not] at h_); omega) | (simp [mulSz, Cont.len, bne, bytL_len, List.length_append, List.length_replicate] at h_; first | done | omega))); intro _; conv => whnf)
        | (refine tst_in ?_ ?_; rotate_left; (focus (intro h_; exfalso; first | omega | ((try simp only [decide_eq_true_eq, decide_eq_false_iff_not] at h_); omega) | (simp [mulSz, Cont.len, bne, bytL_len, List.length_append, List.length_replicate] at h_; first | done | omega))); intro _; conv => whnf)
        | (refine ⟨0, (show _ = _ by omega), ?_⟩; conv => whnf))
      refine ⟨⟨[0], (n, 0), ?_, Nat.zero_le _⟩, ?_⟩
      · show stLe _ _ (st36b p s i n 0) _
        conv => whnf
        repeat' (first | exact True.intro | rfl | refine And.intro ?_ ?_)
        all_goals (conv => whnf)
        repeat' (first | exact True.intro | rfl | refine And.intro ?_ ?_)
        all_goals (try omega)
        rw [show 0 + (i : Int).toNat = i by omega]
        exact (bytL_get s _ h1).symm
      · intro ⟨n, j⟩ (hj : j ≤ 8)
        show forceSt (st36b p s i n j) _
        have hD : crc 16 p (crc 16 p 0 (bst (byteAt s) i)) ((bb (byteAt s i)).take j) < 65536 := crc_lt (W := 16) hp _ _ hC
        generalize hE : crc 16 p (crc 16 p 0 (bst (byteAt s) i)) ((bb (byteAt s i)).take j) = D at hD
        have hx := byteAt_lt s i
        conv => whnf
        rw [hE]
        refine tst_in (fun h2 => ?_) (fun h2' => ?_)
        · skip
          have h2 : j < 8 := by rw [dLe_eq] at h2; simp at h2; omega
          conv => whnf
          rw [shb_eq (byteAt s i) (7 - j) (7 - (j : Int)) (by omega) (by omega)]
          have hsr : byteAt s i >>> (7 - j) ≤ byteAt s i := Nat.shiftRight_le _ _
          conv => whnf
          repeat (first
            | (refine And.intro ?_ ?_; (focus (first | omega | decide | exact EqOk.mk (by kernel_rfl) (by kernel_rfl) (by kernel_rfl) | exact Int.natCast_nonneg _ | ((repeat' refine And.intro ?_ ?_) <;> first | omega | exact Int.natCast_nonneg _ | (simp only [i64max, u8max, u16max, u32max, u64max]; omega) | (simp only [mulSz_eq, Cont.len, colsLen, Col.len, List.length_cons, List.length_nil, List.length_replicate, List.length_append, u8max]; first | done | omega) | (simp [mulSz, Cont.len, bne, u8max]; first | done | omega)))); conv => whnf)
            | (refine tst_in ?_ ?_; (focus (intro h_; exfalso; first | omega | ((try simp only [decide_eq_true_eq, decide_eq_false_iff_not] at h_); omega) | (simp [mulSz, Cont.len, bne, u8max] at h_; first | done | omega))); intro _; conv => whnf)
            | (refine tst_in ?_ ?_; rotate_left; (focus (intro h_; exfalso; first | omega | ((try simp only [decide_eq_true_eq, decide_eq_false_iff_not] at h_); omega) | (simp [mulSz, Cont.len, bne, u8max] at h_; first | done | omega))); intro _; conv => whnf)
            | (refine ⟨0, (show _ = _ by omega), ?_⟩; conv => whnf))
          rw [bit_eq]
          have NX := next16_f D p ((byteAt s i).testBit (7 - j)) hD hp
          refine ⟨_, [], NX, ?_⟩
          conv => whnf
          iterate 2
           refine And.intro ?_ ?_
           focus
            conv => whnf
            repeat' (first | exact True.intro | rfl | refine And.intro ?_ ?_ | omega)
            all_goals (conv => whnf)
            all_goals (try (first | rfl | omega | (simp; done)))
          conv => whnf
          refine ⟨?_, True.intro⟩
          intro _ _
          conv => whnf
          conv => whnf
          repeat (first
            | (refine And.intro ?_ ?_; (focus (first | omega | decide | exact EqOk.mk (by kernel_rfl) (by kernel_rfl) (by kernel_rfl) | exact Int.natCast_nonneg _ | ((repeat' refine And.intro ?_ ?_) <;> first | omega | exact Int.natCast_nonneg _ | (simp only [i64max, u8max, u16max, u32max, u64max]; omega) | (simp only [mulSz_eq, Cont.len, colsLen, Col.len, List.length_cons, List.length_nil, List.length_replicate, List.length_append]; first | done | omega) | (simp [mulSz, Cont.len, bne]; first | done | omega)))); conv => whnf)
            | (refine tst_in ?_ ?_; (focus (intro h_; exfalso; first | omega | ((try simp only [decide_eq_true_eq, decide_eq_false_iff_not] at h_); omega) | (simp [mulSz, Cont.len, bne] at h_; first | done | omega))); intro _; conv => whnf)
            | (refine tst_in ?_ ?_; rotate_left; (focus (intro h_; exfalso; first | omega | ((try simp only [decide_eq_true_eq, decide_eq_false_iff_not] at h_); omega) | (simp [mulSz, Cont.len, bne] at h_; first | done | omega))); intro _; conv => whnf)
            | (refine ⟨0, (show _ = _ by omega), ?_⟩; conv => whnf))
          refine ⟨[0], (n, j + 1), ?_, (by show j + 1 ≤ 8; omega), (by show 8 - (j + 1) < 8 - j; omega)⟩
          show stLe _ _ (st36b p s i n (j + 1)) _
          conv => whnf
          repeat' (first | exact True.intro | rfl | refine And.intro ?_ ?_)
          all_goals (conv => whnf)
          repeat' (first | exact True.intro | rfl | refine And.intro ?_ ?_)
          all_goals (try omega)
          rw [bb_take _ _ h2, crc_snoc, hE]
        · skip
          have h2 : j = 8 := by rw [dLe_eq] at h2'; simp at h2'; omega
          subst h2
          conv => whnf
          repeat (first
            | (refine And.intro ?_ ?_; (focus (first | omega | decide | exact EqOk.mk (by kernel_rfl) (by kernel_rfl) (by kernel_rfl) | exact Int.natCast_nonneg _ | ((repeat' refine And.intro ?_ ?_) <;> first | omega | exact Int.natCast_nonneg _ | (simp only [i64max, u8max, u16max, u32max, u64max]; omega) | (simp only [mulSz_eq, Cont.len, colsLen, Col.len, List.length_cons, List.length_nil, List.length_replicate, List.length_append]; first | done | omega) | (simp [mulSz, Cont.len, bne]; first | done | omega)))); conv => whnf)
            | (refine tst_in ?_ ?_; (focus (intro h_; exfalso; first | omega | ((try simp only [decide_eq_true_eq, decide_eq_false_iff_not] at h_); omega) | (simp [mulSz, Cont.len, bne] at h_; first | done | omega))); intro _; conv => whnf)
            | (refine tst_in ?_ ?_; rotate_left; (focus (intro h_; exfalso; first | omega | ((try simp only [decide_eq_true_eq, decide_eq_false_iff_not] at h_); omega) | (simp [mulSz, Cont.len, bne] at h_; first | done | omega))); intro _; conv => whnf)
            | (refine ⟨0, (show _ = _ by omega), ?_⟩; conv => whnf))
          refine ⟨[0], (i + 1, n), ?_, (by show i + 1 ≤ s.size; omega), (by show s.size - (i + 1) < s.size - i; omega)⟩
          show stLe _ _ (st36 p s (i + 1) n) _
          conv => whnf
          repeat' (first | exact True.intro | rfl | refine And.intro ?_ ?_)
          all_goals (conv => whnf)
          repeat' (first | exact True.intro | rfl | refine And.intro ?_ ?_)
          all_goals (try omega)
          rw [← hE, bb_all, ← crc_append]; rfl
    · skip
      have h1 : i = s.size := by simp at h1'; omega
      conv => whnf
      refine .inl ⟨(), [], ?_⟩
      conv => whnf
      repeat' (first | exact True.intro | rfl | refine And.intro ?_ ?_)
      all_goals (conv => whnf)
      repeat' (first | exact True.intro | rfl | refine And.intro ?_ ?_)
      all_goals (try omega)
      rw [h1]
noncomputable def c34 : Code := (Try.f34.body).getD .skip
def crc16 (s : ByteArray) : Nat := crc 16 4129 0 (bst (byteAt s) s.size)
theorem crc16_lt (s : ByteArray) : crc16 s < 65536 := crc_lt (W := 16) (by decide) _ _ (by decide)
set_option maxHeartbeats 0 in
set_option maxRecDepth 100000 in
theorem bytes16_f (s : ByteArray) (hs : s.size ≤ 140737488355328) : Fits Try.prog 34 ⟨[.str s], [], [numOut [] (.int .u16 (crc16 s : Nat))]⟩ := by
  have OF := of16_f 4129 s (by decide) hs
  refine fits_of_body (C := cfgs 0) (c := c34) (ts := [2]) tokL mixedL (fun _ => none) (fun _ => none)
    Try.func34 (by kernel_rfl) (by kernel_rfl) (by kernel_rfl) (by kernel_rfl) rfl ?_
  conv => whnf
  refine ⟨_, [], OF, ?_⟩
  conv => whnf
  iterate 2
   refine And.intro ?_ ?_
   focus
    conv => whnf
    repeat' (first | exact True.intro | rfl | refine And.intro ?_ ?_ | omega)
    all_goals (conv => whnf)
    all_goals (try (first | rfl | omega | (simp; done)))
  conv => whnf
  refine ⟨?_, True.intro⟩
  intro _ _
  conv => whnf
  conv => whnf
  refine .inl ⟨(), [], ?_⟩
  conv => whnf
  repeat' (first | exact True.intro | rfl | refine And.intro ?_ ?_)
  all_goals (conv => whnf)
  repeat' (first | exact True.intro | rfl | refine And.intro ?_ ?_)
  all_goals (try omega)
end Go.Proofs.Ytdkogicikhlicaa

set_option linter.unusedVariables false
set_option linter.unusedSimpArgs false
namespace Go.Proofs.Ytdkogicikhlicaa
open Go Go.Fw
def tx (l : List Int) : ByteArray := ⟨⟨l.map fun n => UInt8.ofNat n.toNat⟩⟩
theorem tx_size (l : List Int) : (tx l).size = l.length := by unfold tx; show (l.map _).length = _; rw [List.length_map]
def tx4 (c : Nat) : ByteArray := tx [((c / 16777216 % 256 : Nat) : Int), ((c / 65536 % 256 : Nat) : Int), ((c / 256 % 256 : Nat) : Int), ((c % 256 : Nat) : Int)]
def sealT (s : ByteArray) : ByteArray := s ++ tx4 (crc32 s)
def frA (k n : Int) (m : Bool) (b : ByteArray) : AV := .agg [.int .u8 k, .int .u8 n, .bool m, .str b]
theorem u8wrap (n : Int) : IntKind.u8.wrap n = n % 256 := by
  unfold IntKind.wrap
  simp [IntKind.bits, IntKind.signed]
theorem tx4_eq (c : Nat) : (⟨⟨List.map (fun n => UInt8.ofNat n.toNat) (List.take 4 (List.drop 0 [IntKind.u8.wrap ((c : Int) / 2 ^ min (Int.toNat 24) IntKind.u32.bits), IntKind.u8.wrap ((c : Int) / 2 ^ min (Int.toNat 16) IntKind.u32.bits), IntKind.u8.wrap ((c : Int) / 2 ^ min (Int.toNat 8) IntKind.u32.bits), IntKind.u8.wrap (c : Int)]))⟩⟩ : ByteArray) = tx4 c := by
  unfold tx4 tx
  rw [u8wrap, u8wrap, u8wrap, u8wrap]
  show (⟨⟨List.map _ [((c : Int) / 16777216) % 256, ((c : Int) / 65536) % 256, ((c : Int) / 256) % 256, (c : Int) % 256]⟩⟩ : ByteArray) = _
  rw [show ((c : Int) / 16777216) % 256 = ((c / 16777216 % 256 : Nat) : Int) by omega, show ((c : Int) / 65536) % 256 = ((c / 65536 % 256 : Nat) : Int) by omega, show ((c : Int) / 256) % 256 = ((c / 256 % 256 : Nat) : Int) by omega, show (c : Int) % 256 = ((c % 256 : Nat) : Int) by omega]
theorem tx4_size (c : Nat) : (tx4 c).size = 4 := tx_size _
noncomputable def c26 : Code := (Try.f26.body).getD .skip
set_option maxHeartbeats 0 in
set_option maxRecDepth 100000 in
theorem Sealed_f (s : ByteArray) (hs : s.size ≤ 140737488355328) : Fits Try.prog 26 ⟨[.str s], [], [numOut [] (.str (sealT s))]⟩ := by
  have B := bytes32_f s hs
  have hc := crc32_lt s
  unfold sealT
  generalize crc32 s = c at *
  refine fits_of_body (C := cfgs 0) (c := c26) (ts := [2]) tokL mixedL (fun _ => none) (fun _ => none)
    Try.func26 (by kernel_rfl) (by kernel_rfl) (by kernel_rfl) (by kernel_rfl) rfl ?_
  conv => whnf
  refine ⟨_, [], B, ?_⟩
  conv => whnf
  iterate 2
   refine And.intro ?_ ?_
   focus
    conv => whnf
    repeat' (first | exact True.intro | rfl | refine And.intro ?_ ?_ | omega)
    all_goals (conv => whnf)
    all_goals (try (first | rfl | omega | (simp; done)))
  conv => whnf
  refine ⟨?_, True.intro⟩
  intro _ _
  conv => whnf
  conv => whnf
  repeat (first
    | (refine And.intro ?_ ?_; (focus (first | omega | decide | exact EqOk.mk (by kernel_rfl) (by kernel_rfl) (by kernel_rfl) | exact Int.natCast_nonneg _ | ((repeat' refine And.intro ?_ ?_) <;> first | omega | exact Int.natCast_nonneg _ | (simp only [i64max, u8max, u16max, u32max, u64max]; omega) | (simp only [mulSz_eq, Cont.len, colsLen, Col.len, List.length_cons, List.length_nil, List.length_replicate, List.length_append]; first | done | omega) | (simp [mulSz, Cont.len, bne]; first | done | omega)))); conv => whnf)
    | (refine tst_in ?_ ?_; (focus (intro h_; exfalso; first | omega | ((try simp only [decide_eq_true_eq, decide_eq_false_iff_not] at h_); omega) | (simp [mulSz, Cont.len, bne] at h_; first | done | omega))); intro _; conv => whnf)
    | (refine tst_in ?_ ?_; rotate_left; (focus (intro h_; exfalso; first | omega | ((try simp only [decide_eq_true_eq, decide_eq_false_iff_not] at h_); omega) | (simp [mulSz, Cont.len, bne] at h_; first | done | omega))); intro _; conv => whnf)
    | (refine ⟨0, (show _ = _ by omega), ?_⟩; conv => whnf))
  rw [tx4_eq]
  conv => whnf
  repeat (first
    | (refine And.intro ?_ ?_; (focus (first | omega | decide | exact EqOk.mk (by kernel_rfl) (by kernel_rfl) (by kernel_rfl) | exact Int.natCast_nonneg _ | ((repeat' refine And.intro ?_ ?_) <;> first | omega | exact Int.natCast_nonneg _ | (simp only [i64max, u8max, u16max, u32max, u64max]; omega) | (simp only [mulSz_eq, Cont.len, colsLen, Col.len, List.length_cons, List.length_nil, List.length_replicate, List.length_append, tx4_size]; first | done | omega) | (simp [mulSz, Cont.len, bne, tx4_size]; first | done | omega)))); conv => whnf)
    | (refine tst_in ?_ ?_; (focus (intro h_; exfalso; first | omega | ((try simp only [decide_eq_true_eq, decide_eq_false_iff_not] at h_); omega) | (simp [mulSz, Cont.len, bne, tx4_size] at h_; first | done | omega))); intro _; conv => whnf)
    | (refine tst_in ?_ ?_; rotate_left; (focus (intro h_; exfalso; first | omega | ((try simp only [decide_eq_true_eq, decide_eq_false_iff_not] at h_); omega) | (simp [mulSz, Cont.len, bne, tx4_size] at h_; first | done | omega))); intro _; conv => whnf)
    | (refine ⟨0, (show _ = _ by omega), ?_⟩; conv => whnf))
  refine .inl ⟨(), [], ?_⟩
  conv => whnf
  repeat' (first | exact True.intro | rfl | refine And.intro ?_ ?_)
  all_goals (conv => whnf)
  repeat' (first | exact True.intro | rfl | refine And.intro ?_ ?_)
  all_goals (try omega)
noncomputable def c32 : Code := (Try.f32.body).getD .skip
def sm16 (a b c : Int) : Nat := crc16 (tx [a, b, c])
set_option maxHeartbeats 0 in
set_option maxRecDepth 100000 in
theorem summed_f (a b c d e : Int) : Fits Try.prog 32 ⟨[.agg [.int .u8 a, .int .u8 b, .int .u8 c, .int .u8 d, .int .u8 e]], [], [numOut [] (.agg [.int .u8 a, .int .u8 b, .int .u8 c, .int .u8 ((sm16 a b c / 256 : Nat) : Int), .int .u8 ((sm16 a b c % 256 : Nat) : Int)])]⟩ := by
  have B := bytes16_f (tx [a, b, c]) (by rw [tx_size]; show 3 ≤ 140737488355328; omega)
  have hc := crc16_lt (tx [a, b, c])
  unfold sm16
  generalize crc16 (tx [a, b, c]) = s at *
  have e1 : IntKind.u8.wrap ((s : Int) / 2 ^ (min (Int.toNat 8) (IntKind.bits .u16))) = ((s / 256 : Nat) : Int) := by
    rw [u8wrap]; show ((s : Int) / 256) % 256 = _; omega
  have e2 : IntKind.u8.wrap (s : Int) = ((s % 256 : Nat) : Int) := by rw [u8wrap]; omega
  refine fits_of_cell (C := cfgs 0) (c := c32) (t := 2) (ty := 56) tokL mixedL (fun _ => none) (fun _ => none)
    Try.func32 (by kernel_rfl) (by kernel_rfl) (by kernel_rfl) (by kernel_rfl) rfl ?_
  conv => whnf
  repeat (first
    | (refine And.intro ?_ ?_; (focus (first | omega | decide | exact EqOk.mk (by kernel_rfl) (by kernel_rfl) (by kernel_rfl) | exact Int.natCast_nonneg _ | ((repeat' refine And.intro ?_ ?_) <;> first | omega | exact Int.natCast_nonneg _ | (simp only [i64max, u8max, u16max, u32max, u64max]; omega) | (simp only [mulSz_eq, Cont.len, colsLen, Col.len, List.length_cons, List.length_nil, List.length_replicate, List.length_append]; first | done | omega) | (simp [mulSz, Cont.len, bne]; first | done | omega)))); conv => whnf)
    | (refine tst_in ?_ ?_; (focus (intro h_; exfalso; first | omega | ((try simp only [decide_eq_true_eq, decide_eq_false_iff_not] at h_); omega) | (simp [mulSz, Cont.len, bne] at h_; first | done | omega))); intro _; conv => whnf)
    | (refine tst_in ?_ ?_; rotate_left; (focus (intro h_; exfalso; first | omega | ((try simp only [decide_eq_true_eq, decide_eq_false_iff_not] at h_); omega) | (simp [mulSz, Cont.len, bne] at h_; first | done | omega))); intro _; conv => whnf)
    | (refine ⟨0, (show _ = _ by omega), ?_⟩; conv => whnf))
  refine ⟨_, [], B, ?_⟩
  conv => whnf
  iterate 2
   refine And.intro ?_ ?_
   focus
    conv => whnf
    repeat' (first | exact True.intro | rfl | refine And.intro ?_ ?_ | omega)
    all_goals (conv => whnf)
    all_goals (try (first | rfl | omega | (simp; done)))
  conv => whnf
  refine ⟨?_, True.intro⟩
  intro _ _
  conv => whnf
  conv => whnf
  repeat (first
    | (refine And.intro ?_ ?_; (focus (first | omega | decide | exact EqOk.mk (by kernel_rfl) (by kernel_rfl) (by kernel_rfl) | exact Int.natCast_nonneg _ | ((repeat' refine And.intro ?_ ?_) <;> first | omega | exact Int.natCast_nonneg _ | (simp only [i64max, u8max, u16max, u32max, u64max]; omega) | (simp only [mulSz_eq, Cont.len, colsLen, Col.len, List.length_cons, List.length_nil, List.length_replicate, List.length_append]; first | done | omega) | (simp [mulSz, Cont.len, bne]; first | done | omega)))); conv => whnf)
    | (refine tst_in ?_ ?_; (focus (intro h_; exfalso; first | omega | ((try simp only [decide_eq_true_eq, decide_eq_false_iff_not] at h_); omega) | (simp [mulSz, Cont.len, bne] at h_; first | done | omega))); intro _; conv => whnf)
    | (refine tst_in ?_ ?_; rotate_left; (focus (intro h_; exfalso; first | omega | ((try simp only [decide_eq_true_eq, decide_eq_false_iff_not] at h_); omega) | (simp [mulSz, Cont.len, bne] at h_; first | done | omega))); intro _; conv => whnf)
    | (refine ⟨0, (show _ = _ by omega), ?_⟩; conv => whnf))
  rw [e1, e2]
  refine .inl ⟨(), [], ?_⟩
  conv => whnf
  repeat' (first | exact True.intro | rfl | refine And.intro ?_ ?_)
  all_goals (conv => whnf)
  repeat' (first | exact True.intro | rfl | refine And.intro ?_ ?_)
  all_goals (try omega)
end Go.Proofs.Ytdkogicikhlicaa

set_option linter.unusedVariables false
set_option linter.unusedSimpArgs false
namespace Go.Proofs.Ytdkogicikhlicaa
open Go Go.Fw
def h0 (k : Int) (m : Bool) : Int := 16 * k + (if m then 1 else 0)
def hdA (k n : Int) (m : Bool) (z : Nat) : AV := .agg [.int .u8 (h0 k m), .int .u8 n, .int .u8 (z : Int), .int .u8 ((sm16 (h0 k m) n z / 256 : Nat) : Int), .int .u8 ((sm16 (h0 k m) n z % 256 : Nat) : Int)]
noncomputable def c24 : Code := (Try.f24.body).getD .skip
def mayB (k : Int) (b : ByteArray) : Bool := decide (1 ≤ k) && (decide (k ≤ 15) && decide (b.size ≤ 240))
set_option maxHeartbeats 0 in
set_option maxRecDepth 100000 in
theorem mayBe_f (k n : Int) (m : Bool) (b : ByteArray) : Fits Try.prog 24 ⟨[frA k n m b], [], [numOut [] (.bool (mayB k b))]⟩ := by
  refine fits_of_body (C := cfgs 0) (c := c24) (ts := [2]) tokL mixedL (fun _ => none) (fun _ => none)
    Try.func24 (by kernel_rfl) (by kernel_rfl) (by kernel_rfl) (by kernel_rfl) rfl ?_
  conv => whnf
  refine tst_in (fun h1 => ?_) (fun h1' => ?_)
  · skip
    rw [dLe_eq] at h1
    have h1 : 1 ≤ k := by simpa using h1
    conv => whnf
    refine tst_in (fun h2 => ?_) (fun h2' => ?_)
    · skip
      rw [dLe_eq] at h2
      have h2 : k ≤ 15 := by simpa using h2
      conv => whnf
      refine .inl ⟨(), [], ?_⟩
      conv => whnf
      repeat' (first | exact True.intro | rfl | refine And.intro ?_ ?_)
      all_goals (conv => whnf)
      repeat' (first | exact True.intro | rfl | refine And.intro ?_ ?_)
      all_goals (try omega)
      all_goals (rw [dLe_eq]; unfold mayB; simp [h1, h2]; omega)
    · skip
      rw [dLe_eq] at h2'
      have h2 : ¬ k ≤ 15 := by simpa using h2'
      conv => whnf
      refine .inl ⟨(), [], ?_⟩
      conv => whnf
      repeat' (first | exact True.intro | rfl | refine And.intro ?_ ?_)
      all_goals (conv => whnf)
      repeat' (first | exact True.intro | rfl | refine And.intro ?_ ?_)
      all_goals (try omega)
      all_goals (unfold mayB; simp [h1, h2])
  · skip
    rw [dLe_eq] at h1'
    have h1 : ¬ 1 ≤ k := by simpa using h1'
    conv => whnf
    refine .inl ⟨(), [], ?_⟩
    conv => whnf
    repeat' (first | exact True.intro | rfl | refine And.intro ?_ ?_)
    all_goals (conv => whnf)
    repeat' (first | exact True.intro | rfl | refine And.intro ?_ ?_)
    all_goals (try omega)
    all_goals (unfold mayB; simp [h1])
end Go.Proofs.Ytdkogicikhlicaa

set_option linter.unusedVariables false
set_option linter.unusedSimpArgs false
namespace Go.Proofs.Ytdkogicikhlicaa
open Go Go.Fw
noncomputable def c25 : Code := (Try.f25.body).getD .skip
set_option maxHeartbeats 0 in
set_option maxRecDepth 100000 in
theorem headOf_f (k n : Int) (m : Bool) (b : ByteArray) (hk : 1 ≤ k) (hk2 : k ≤ 15) (hn : 0 ≤ n) (hn2 : n ≤ 255) (hb : b.size ≤ 240) : Fits Try.prog 25 ⟨[frA k n m b], [], [numOut [] (hdA k n m b.size)]⟩ := by
  refine fits_of_cell (C := cfgs 0) (c := c25) (t := 2) (ty := 56) tokL mixedL (fun _ => none) (fun _ => none)
    Try.func25 (by kernel_rfl) (by kernel_rfl) (by kernel_rfl) (by kernel_rfl) rfl ?_
  have S1 := summed_f (16 * k) n b.size 0 0
  have S2 := summed_f (16 * k + 1) n b.size 0 0
  have e1 : IntKind.u8.wrap (k * 2 ^ (min (Int.toNat 4) (IntKind.bits .u8))) = 16 * k := by
    rw [u8wrap]; show (k * 16) % 256 = _; omega
  have e2 : IntKind.u8.wrap (b.size : Int) = b.size := by rw [u8wrap]; omega
  have hF : hdA k n false b.size = .agg [.int .u8 (16 * k), .int .u8 n, .int .u8 (b.size : Int), .int .u8 ((sm16 (16 * k) n b.size / 256 : Nat) : Int), .int .u8 ((sm16 (16 * k) n b.size % 256 : Nat) : Int)] := by
    unfold hdA h0; simp
  have hT : hdA k n true b.size = .agg [.int .u8 (16 * k + 1), .int .u8 n, .int .u8 (b.size : Int), .int .u8 ((sm16 (16 * k + 1) n b.size / 256 : Nat) : Int), .int .u8 ((sm16 (16 * k + 1) n b.size % 256 : Nat) : Int)] := by
    unfold hdA h0; simp
  have e3 : (((16 * k).toNat ||| (1 : Int).toNat : Nat) : Int) = 16 * k + 1 := by
    obtain ⟨j, rfl⟩ : ∃ j : Nat, k = j := ⟨k.toNat, by omega⟩
    show (((16 * (j : Int)).toNat ||| 1 : Nat) : Int) = _
    rw [show (16 * (j : Int)).toNat = 2 ^ 4 * j by omega, ← Nat.two_pow_add_eq_or_of_lt (i := 4) (by decide)]
    omega
  conv => whnf
  repeat (first
    | (refine And.intro ?_ ?_; (focus (first | omega | decide | exact EqOk.mk (by kernel_rfl) (by kernel_rfl) (by kernel_rfl) | exact Int.natCast_nonneg _ | ((repeat' refine And.intro ?_ ?_) <;> first | omega | exact Int.natCast_nonneg _ | (simp only [i64max, u8max, u16max, u32max, u64max]; omega) | (simp only [mulSz_eq, Cont.len, colsLen, Col.len, List.length_cons, List.length_nil, List.length_replicate, List.length_append]; first | done | omega) | (simp [mulSz, Cont.len, bne]; first | done | omega)))); conv => whnf)
    | (refine tst_in ?_ ?_; (focus (intro h_; exfalso; first | omega | ((try simp only [decide_eq_true_eq, decide_eq_false_iff_not] at h_); omega) | (simp [mulSz, Cont.len, bne] at h_; first | done | omega))); intro _; conv => whnf)
    | (refine tst_in ?_ ?_; rotate_left; (focus (intro h_; exfalso; first | omega | ((try simp only [decide_eq_true_eq, decide_eq_false_iff_not] at h_); omega) | (simp [mulSz, Cont.len, bne] at h_; first | done | omega))); intro _; conv => whnf)
    | (refine ⟨0, (show _ = _ by omega), ?_⟩; conv => whnf))
  rw [e1, e2]
  cases m
  · skip
    rw [hF]
    conv => whnf
    refine ⟨_, [], S1, ?_⟩
    conv => whnf
    iterate 2
     refine And.intro ?_ ?_
     focus
      conv => whnf
      repeat' (first | exact True.intro | rfl | refine And.intro ?_ ?_ | omega)
      all_goals (conv => whnf)
      all_goals (try (first | rfl | omega | (simp; done)))
    conv => whnf
    refine ⟨?_, True.intro⟩
    intro _ _
    conv => whnf
    conv => whnf
    refine .inl ⟨(), [], ?_⟩
    conv => whnf
    repeat' (first | exact True.intro | rfl | refine And.intro ?_ ?_)
    all_goals (conv => whnf)
    repeat' (first | exact True.intro | rfl | refine And.intro ?_ ?_)
    all_goals (try omega)
  · skip
    rw [hT]
    conv => whnf
    repeat (first
      | (refine And.intro ?_ ?_; (focus (first | omega | decide | exact EqOk.mk (by kernel_rfl) (by kernel_rfl) (by kernel_rfl) | exact Int.natCast_nonneg _ | ((repeat' refine And.intro ?_ ?_) <;> first | omega | exact Int.natCast_nonneg _ | (simp only [i64max, u8max, u16max, u32max, u64max]; omega) | (simp only [mulSz_eq, Cont.len, colsLen, Col.len, List.length_cons, List.length_nil, List.length_replicate, List.length_append, u8max]; first | done | omega) | (simp [mulSz, Cont.len, bne, u8max]; first | done | omega)))); conv => whnf)
      | (refine tst_in ?_ ?_; (focus (intro h_; exfalso; first | omega | ((try simp only [decide_eq_true_eq, decide_eq_false_iff_not] at h_); omega) | (simp [mulSz, Cont.len, bne, u8max] at h_; first | done | omega))); intro _; conv => whnf)
      | (refine tst_in ?_ ?_; rotate_left; (focus (intro h_; exfalso; first | omega | ((try simp only [decide_eq_true_eq, decide_eq_false_iff_not] at h_); omega) | (simp [mulSz, Cont.len, bne, u8max] at h_; first | done | omega))); intro _; conv => whnf)
      | (refine ⟨0, (show _ = _ by omega), ?_⟩; conv => whnf))
    rw [e3]
    conv => whnf
    repeat (first
      | (refine And.intro ?_ ?_; (focus (first | omega | decide | exact EqOk.mk (by kernel_rfl) (by kernel_rfl) (by kernel_rfl) | exact Int.natCast_nonneg _ | ((repeat' refine And.intro ?_ ?_) <;> first | omega | exact Int.natCast_nonneg _ | (simp only [i64max, u8max, u16max, u32max, u64max]; omega) | (simp only [mulSz_eq, Cont.len, colsLen, Col.len, List.length_cons, List.length_nil, List.length_replicate, List.length_append]; first | done | omega) | (simp [mulSz, Cont.len, bne]; first | done | omega)))); conv => whnf)
      | (refine tst_in ?_ ?_; (focus (intro h_; exfalso; first | omega | ((try simp only [decide_eq_true_eq, decide_eq_false_iff_not] at h_); omega) | (simp [mulSz, Cont.len, bne] at h_; first | done | omega))); intro _; conv => whnf)
      | (refine tst_in ?_ ?_; rotate_left; (focus (intro h_; exfalso; first | omega | ((try simp only [decide_eq_true_eq, decide_eq_false_iff_not] at h_); omega) | (simp [mulSz, Cont.len, bne] at h_; first | done | omega))); intro _; conv => whnf)
      | (refine ⟨0, (show _ = _ by omega), ?_⟩; conv => whnf))
    refine ⟨_, [], S2, ?_⟩
    conv => whnf
    iterate 2
     refine And.intro ?_ ?_
     focus
      conv => whnf
      repeat' (first | exact True.intro | rfl | refine And.intro ?_ ?_ | omega)
      all_goals (conv => whnf)
      all_goals (try (first | rfl | omega | (simp; done)))
    conv => whnf
    refine ⟨?_, True.intro⟩
    intro _ _
    conv => whnf
    conv => whnf
    refine .inl ⟨(), [], ?_⟩
    conv => whnf
    repeat' (first | exact True.intro | rfl | refine And.intro ?_ ?_)
    all_goals (conv => whnf)
    repeat' (first | exact True.intro | rfl | refine And.intro ?_ ?_)
    all_goals (try omega)
end Go.Proofs.Ytdkogicikhlicaa

set_option linter.unusedVariables false
set_option linter.unusedSimpArgs false
namespace Go.Proofs.Ytdkogicikhlicaa
open Go Go.Fw
def packT (k n : Int) (m : Bool) (b : ByteArray) : ByteArray :=
  tx [h0 k m, n, b.size, ((sm16 (h0 k m) n b.size / 256 : Nat) : Int), ((sm16 (h0 k m) n b.size % 256 : Nat) : Int)] ++ sealT b
theorem sealT_size (b : ByteArray) : (sealT b).size = b.size + 4 := by unfold sealT; rw [ByteArray.size_append, tx4_size]
noncomputable def c9 : Code := (Try.f9.body).getD .skip
def cfg9 : Cfg := { cfgs 0 with plan := fun | 4 => some (.nn (.op 2 (.op 3 (.rd 0 (.rd 1 (.op 4 (.chk [1, 0] (.op 5 (.op 6 (.op 7 .done)))))))))) | _ => none }
set_option maxHeartbeats 0 in
set_option maxRecDepth 100000 in
theorem Pack_y (k n : Int) (m : Bool) (b : ByteArray) (hm : mayB k b = true) (hn : 0 ≤ n) (hn2 : n ≤ 255) : Fits Try.prog 9 ⟨[frA k n m b], [], [numOut [] (.tup [.str (packT k n m b), .int .i64 0])]⟩ := by
  have hm' := hm
  unfold mayB at hm'
  simp only [Bool.and_eq_true, decide_eq_true_eq] at hm'
  obtain ⟨hk, hk2, hb⟩ := hm'
  have MB := mayBe_f k n m b
  rw [hm] at MB
  have HO := headOf_f k n m b hk hk2 hn hn2 hb
  have SE := Sealed_f b (by omega)
  have hz := sealT_size b
  unfold hdA at HO
  unfold packT
  generalize h0 k m = a at *
  generalize sm16 a n b.size = s at *
  generalize sealT b = Z at *
  refine fits_of_body (C := cfg9) (c := c9) (ts := [2, 3]) tokL mixedL (fun _ => none) (fun _ => none)
    Try.func9 (by kernel_rfl) (by kernel_rfl) (by kernel_rfl) (by kernel_rfl) rfl ?_
  conv => whnf
  refine ⟨_, [], MB, ?_⟩
  conv => whnf
  iterate 2
   refine And.intro ?_ ?_
   focus
    conv => whnf
    repeat' (first | exact True.intro | rfl | refine And.intro ?_ ?_ | omega)
    all_goals (conv => whnf)
    all_goals (try (first | rfl | omega | (simp; done)))
  conv => whnf
  refine ⟨?_, True.intro⟩
  intro _ _
  conv => whnf
  conv => whnf
  refine ⟨_, [], HO, ?_⟩
  conv => whnf
  iterate 2
   refine And.intro ?_ ?_
   focus
    conv => whnf
    repeat' (first | exact True.intro | rfl | refine And.intro ?_ ?_ | omega)
    all_goals (conv => whnf)
    all_goals (try (first | rfl | omega | (simp; done)))
  conv => whnf
  refine ⟨?_, True.intro⟩
  intro _ _
  conv => whnf
  conv => whnf
  refine ⟨_, [], SE, ?_⟩
  conv => whnf
  iterate 2
   refine And.intro ?_ ?_
   focus
    conv => whnf
    repeat' (first | exact True.intro | rfl | refine And.intro ?_ ?_ | omega)
    all_goals (conv => whnf)
    all_goals (try (first | rfl | omega | (simp; done)))
  conv => whnf
  refine ⟨?_, True.intro⟩
  intro _ _
  conv => whnf
  conv => whnf
  repeat (first
    | (refine And.intro ?_ ?_; (focus (first | omega | decide | exact EqOk.mk (by kernel_rfl) (by kernel_rfl) (by kernel_rfl) | exact Int.natCast_nonneg _ | ((repeat' refine And.intro ?_ ?_) <;> first | omega | exact Int.natCast_nonneg _ | (simp only [i64max, u8max, u16max, u32max, u64max]; omega) | (simp only [mulSz_eq, Cont.len, colsLen, Col.len, List.length_cons, List.length_nil, List.length_replicate, List.length_append]; first | done | omega) | (simp [mulSz, Cont.len, bne]; first | done | omega)))); conv => whnf)
    | (refine tst_in ?_ ?_; (focus (intro h_; exfalso; first | omega | ((try simp only [decide_eq_true_eq, decide_eq_false_iff_not] at h_); omega) | (simp [mulSz, Cont.len, bne] at h_; first | done | omega))); intro _; conv => whnf)
    | (refine tst_in ?_ ?_; rotate_left; (focus (intro h_; exfalso; first | omega | ((try simp only [decide_eq_true_eq, decide_eq_false_iff_not] at h_); omega) | (simp [mulSz, Cont.len, bne] at h_; first | done | omega))); intro _; conv => whnf)
    | (refine ⟨0, (show _ = _ by omega), ?_⟩; conv => whnf))
  refine ⟨by show (tx [a, n, b.size, ((s / 256 : Nat) : Int), ((s % 256 : Nat) : Int)]).size + Z.size ≤ _; rw [tx_size, hz]; simp only [List.length_cons, List.length_nil]; omega, ?_⟩
  conv => whnf
  repeat (first
    | (refine And.intro ?_ ?_; (focus (first | omega | decide | exact EqOk.mk (by kernel_rfl) (by kernel_rfl) (by kernel_rfl) | exact Int.natCast_nonneg _ | ((repeat' refine And.intro ?_ ?_) <;> first | omega | exact Int.natCast_nonneg _ | (simp only [i64max, u8max, u16max, u32max, u64max]; omega) | (simp only [mulSz_eq, Cont.len, colsLen, Col.len, List.length_cons, List.length_nil, List.length_replicate, List.length_append]; first | done | omega) | (simp [mulSz, Cont.len, bne]; first | done | omega)))); conv => whnf)
    | (refine tst_in ?_ ?_; (focus (intro h_; exfalso; first | omega | ((try simp only [decide_eq_true_eq, decide_eq_false_iff_not] at h_); omega) | (simp [mulSz, Cont.len, bne] at h_; first | done | omega))); intro _; conv => whnf)
    | (refine tst_in ?_ ?_; rotate_left; (focus (intro h_; exfalso; first | omega | ((try simp only [decide_eq_true_eq, decide_eq_false_iff_not] at h_); omega) | (simp [mulSz, Cont.len, bne] at h_; first | done | omega))); intro _; conv => whnf)
    | (refine ⟨0, (show _ = _ by omega), ?_⟩; conv => whnf))
  refine .inl ⟨(), [], ?_⟩
  conv => whnf
  repeat' (first | exact True.intro | rfl | refine And.intro ?_ ?_)
  all_goals (conv => whnf)
  repeat' (first | exact True.intro | rfl | refine And.intro ?_ ?_)
  all_goals (try omega)
noncomputable def c30 : Code := (Try.f30.body).getD .skip
def aheadT (s : ByteArray) : ByteArray := s.extract 0 (s.size - 4)
theorem toList_inj {a b : ByteArray} : a.toList = b.toList ↔ a = b := by
  rw [ByteArray.toList_eq, ByteArray.toList_eq]
  constructor
  · intro h
    exact ByteArray.ext (Array.toList_inj.1 h)
  · rintro rfl; rfl
theorem beq_bytes (a b : ByteArray) : (a.toList == b.toList) = decide (a = b) := by
  rw [Bool.eq_iff_iff, beq_iff_eq, decide_eq_true_eq, toList_inj]
set_option maxHeartbeats 0 in
set_option maxRecDepth 100000 in
theorem Opened_y (s : ByteArray) (hs : 4 ≤ s.size) (hs2 : s.size ≤ 140737488355328) (h : sealT (aheadT s) = s) : Fits Try.prog 30 ⟨[.str s], [], [numOut [] (.tup [.str (aheadT s), .bool true])]⟩ := by
  have hz : (aheadT s).size = s.size - 4 := by unfold aheadT; rw [ByteArray.size_extract]; omega
  have SE := Sealed_f (aheadT s) (by omega)
  rw [h] at SE
  have he : (s.toList == s.toList) = true := by rw [beq_bytes]; simp
  refine fits_of_body (C := cfgs 0) (c := c30) (ts := [2, 3]) tokL mixedL (fun _ => none) (fun _ => none)
    Try.func30 (by kernel_rfl) (by kernel_rfl) (by kernel_rfl) (by kernel_rfl) rfl ?_
  have e1 : ((s.size : Int) - 4).toNat = s.size - 4 := by omega
  conv => whnf
  repeat (first
    | (refine And.intro ?_ ?_; (focus (first | omega | decide | exact EqOk.mk (by kernel_rfl) (by kernel_rfl) (by kernel_rfl) | exact Int.natCast_nonneg _ | ((repeat' refine And.intro ?_ ?_) <;> first | omega | exact Int.natCast_nonneg _ | (simp only [i64max, u8max, u16max, u32max, u64max]; omega) | (simp only [mulSz_eq, Cont.len, colsLen, Col.len, List.length_cons, List.length_nil, List.length_replicate, List.length_append]; first | done | omega) | (simp [mulSz, Cont.len, bne]; first | done | omega)))); conv => whnf)
    | (refine tst_in ?_ ?_; (focus (intro h_; exfalso; first | omega | ((try simp only [decide_eq_true_eq, decide_eq_false_iff_not] at h_); omega) | (simp [mulSz, Cont.len, bne] at h_; first | done | omega))); intro _; conv => whnf)
    | (refine tst_in ?_ ?_; rotate_left; (focus (intro h_; exfalso; first | omega | ((try simp only [decide_eq_true_eq, decide_eq_false_iff_not] at h_); omega) | (simp [mulSz, Cont.len, bne] at h_; first | done | omega))); intro _; conv => whnf)
    | (refine ⟨0, (show _ = _ by omega), ?_⟩; conv => whnf))
  rw [e1]
  refine ⟨_, [], SE, ?_⟩
  conv => whnf
  iterate 2
   refine And.intro ?_ ?_
   focus
    conv => whnf
    repeat' (first | exact True.intro | rfl | refine And.intro ?_ ?_ | omega)
    all_goals (conv => whnf)
    all_goals (try (first | rfl | omega | (simp; done)))
  conv => whnf
  refine ⟨?_, True.intro⟩
  intro _ _
  conv => whnf
  conv => whnf
  rw [he]
  conv => whnf
  refine .inl ⟨(), [], ?_⟩
  conv => whnf
  repeat' (first | exact True.intro | rfl | refine And.intro ?_ ?_)
  all_goals (conv => whnf)
  repeat' (first | exact True.intro | rfl | refine And.intro ?_ ?_)
  all_goals (try omega)
set_option maxHeartbeats 0 in
set_option maxRecDepth 100000 in
theorem Opened_n (s : ByteArray) (hs : 4 ≤ s.size) (hs2 : s.size ≤ 140737488355328) (h : sealT (aheadT s) ≠ s) : Fits Try.prog 30 ⟨[.str s], [], [numOut [] (.tup [.str ⟨#[]⟩, .bool false])]⟩ := by
  have hz : (aheadT s).size = s.size - 4 := by unfold aheadT; rw [ByteArray.size_extract]; omega
  have SE := Sealed_f (aheadT s) (by omega)
  have he : ((sealT (aheadT s)).toList == s.toList) = false := by rw [beq_bytes]; simp [h]
  refine fits_of_body (C := cfgs 0) (c := c30) (ts := [2, 3]) tokL mixedL (fun _ => none) (fun _ => none)
    Try.func30 (by kernel_rfl) (by kernel_rfl) (by kernel_rfl) (by kernel_rfl) rfl ?_
  have e1 : ((s.size : Int) - 4).toNat = s.size - 4 := by omega
  conv => whnf
  repeat (first
    | (refine And.intro ?_ ?_; (focus (first | omega | decide | exact EqOk.mk (by kernel_rfl) (by kernel_rfl) (by kernel_rfl) | exact Int.natCast_nonneg _ | ((repeat' refine And.intro ?_ ?_) <;> first | omega | exact Int.natCast_nonneg _ | (simp only [i64max, u8max, u16max, u32max, u64max]; omega) | (simp only [mulSz_eq, Cont.len, colsLen, Col.len, List.length_cons, List.length_nil, List.length_replicate, List.length_append]; first | done | omega) | (simp [mulSz, Cont.len, bne]; first | done | omega)))); conv => whnf)
    | (refine tst_in ?_ ?_; (focus (intro h_; exfalso; first | omega | ((try simp only [decide_eq_true_eq, decide_eq_false_iff_not] at h_); omega) | (simp [mulSz, Cont.len, bne] at h_; first | done | omega))); intro _; conv => whnf)
    | (refine tst_in ?_ ?_; rotate_left; (focus (intro h_; exfalso; first | omega | ((try simp only [decide_eq_true_eq, decide_eq_false_iff_not] at h_); omega) | (simp [mulSz, Cont.len, bne] at h_; first | done | omega))); intro _; conv => whnf)
    | (refine ⟨0, (show _ = _ by omega), ?_⟩; conv => whnf))
  rw [e1]
  refine ⟨_, [], SE, ?_⟩
  conv => whnf
  iterate 2
   refine And.intro ?_ ?_
   focus
    conv => whnf
    repeat' (first | exact True.intro | rfl | refine And.intro ?_ ?_ | omega)
    all_goals (conv => whnf)
    all_goals (try (first | rfl | omega | (simp; done)))
  conv => whnf
  refine ⟨?_, True.intro⟩
  intro _ _
  conv => whnf
  conv => whnf
  rw [he]
  conv => whnf
  refine .inl ⟨(), [], ?_⟩
  conv => whnf
  repeat' (first | exact True.intro | rfl | refine And.intro ?_ ?_)
  all_goals (conv => whnf)
  repeat' (first | exact True.intro | rfl | refine And.intro ?_ ?_)
  all_goals (try omega)
end Go.Proofs.Ytdkogicikhlicaa

set_option linter.unusedVariables false
set_option linter.unusedSimpArgs false
namespace Go.Proofs.Ytdkogicikhlicaa
open Go Go.Fw
noncomputable def c29 : Code := (Try.f29.body).getD .skip
def cfg29 : Cfg := { cfgs 0 with plan := fun | 3 => some (.alt 0 (.lin [1, 2, 3, 4, 5, 6, 7, 8, 9, 10, 11, 12, 13, 14, 15] .done) (.alt 1 (.alt 0 (.lin [2, 3, 4, 5, 6, 7, 8, 9, 10, 11, 12, 13, 14, 15] .done) (.alt 2 (.lin [0, 3, 4, 5, 6, 7, 8, 9, 10, 11, 12, 13, 14, 15] .done) .fin)) .fin)) | _ => none }
def st29 (a b c d e : Nat) : St := ⟨slotsAt 40 [(1, .ptr 0 0), (2, .ptr 1 0), (3, .int .i64 c), (4, .bool false), (5, .int .u8 ((a / 16 : Nat) : Int)), (6, .int .u8 ((a % 16 : Nat) : Int))],
  [.seg true (.avs [.int .u8 a, .int .u8 b, .int .u8 c, .int .u8 d, .int .u8 e]), .seg true (.avs [.int .u8 0, .int .u8 0, .bool false, .str ⟨#[]⟩])]⟩
def cut29 (a b c d e : Nat) : LInv := ⟨Unit, fun _ => st29 a b c d e, fun _ => True, fun _ => 0⟩
def okH (a b c d e : Nat) : Prop := d = sm16 a b c / 256 ∧ e = sm16 a b c % 256 ∧ 1 ≤ a / 16 ∧ a % 16 ≤ 1 ∧ c ≤ 240
set_option maxHeartbeats 0 in
set_option maxRecDepth 100000 in
theorem frame_f (a b c d e : Nat) (ha : a < 256) (hb : b < 256) (hc : c < 256) (hd : d < 256) (he : e < 256) (X : AV)
    (hX : (okH a b c d e ∧ X = .tup [frA ((a / 16 : Nat) : Int) b (decide (a % 16 = 1)) ⟨#[]⟩, .int .i64 c, .bool true]) ∨ (¬ okH a b c d e ∧ X = .tup [frA 0 0 false ⟨#[]⟩, .int .i64 0, .bool false])) :
    Fits Try.prog 29 ⟨[.agg [.int .u8 a, .int .u8 b, .int .u8 c, .int .u8 d, .int .u8 e]], [], [numOut [] X]⟩ := by
  have SU := summed_f a b c d e
  generalize hs : sm16 a b c = s at SU
  have hB : (decide ((a : Int) = a) && (decide ((b : Int) = b) && (decide ((c : Int) = c) && (decide ((d : Int) = ((s / 256 : Nat) : Int)) && (decide ((e : Int) = ((s % 256 : Nat) : Int)) && true))))) = decide (d = s / 256 ∧ e = s % 256) := by
    apply Bool.eq_iff_iff.mpr; simp; try omega
  have t1 : (a : Int) / 2 ^ (min (Int.toNat 4) (IntKind.bits .u8)) = ((a / 16 : Nat) : Int) := by show (a : Int) / 16 = _; omega
  have t2 : (((a : Int).toNat &&& Int.toNat 15 : Nat) : Int) = ((a % 16 : Nat) : Int) := by
    show ((a &&& 2 ^ 4 - 1 : Nat) : Int) = _
    rw [Nat.and_two_pow_sub_one_eq_mod]
  have t3 : IntKind.i64.wrap (c : Int) = c := wrap_i64 (by omega)
  have bad : ¬ okH a b c d e → X = .tup [frA 0 0 false ⟨#[]⟩, .int .i64 0, .bool false] := fun h => by rcases hX with ⟨h1, _⟩ | ⟨_, h2⟩; exact absurd h1 h; exact h2
  refine fits_of_res (C := cfg29) (c := c29) (rs := [.cell 2 23, .tmp 3, .tmp 4]) tokL mixedL (fun _ => none) (fun | 3 => some (cut29 a b c d e) | _ => none)
    Try.func29 (by kernel_rfl) (by kernel_rfl) (by kernel_rfl) (by kernel_rfl) rfl ?_
  conv => whnf
  repeat (first
    | (refine And.intro ?_ ?_; (focus (first | omega | decide | exact EqOk.mk (by kernel_rfl) (by kernel_rfl) (by kernel_rfl) | exact Int.natCast_nonneg _ | ((repeat' refine And.intro ?_ ?_) <;> first | omega | exact Int.natCast_nonneg _ | (simp only [i64max, u8max, u16max, u32max, u64max]; omega) | (simp only [mulSz_eq, Cont.len, colsLen, Col.len, List.length_cons, List.length_nil, List.length_replicate, List.length_append, u8max]; first | done | omega) | (simp [mulSz, Cont.len, bne, u8max]; first | done | omega)))); conv => whnf)
    | (refine tst_in ?_ ?_; (focus (intro h_; exfalso; first | omega | ((try simp only [decide_eq_true_eq, decide_eq_false_iff_not] at h_); omega) | (simp [mulSz, Cont.len, bne, u8max] at h_; first | done | omega))); intro _; conv => whnf)
    | (refine tst_in ?_ ?_; rotate_left; (focus (intro h_; exfalso; first | omega | ((try simp only [decide_eq_true_eq, decide_eq_false_iff_not] at h_); omega) | (simp [mulSz, Cont.len, bne, u8max] at h_; first | done | omega))); intro _; conv => whnf)
    | (refine ⟨0, (show _ = _ by omega), ?_⟩; conv => whnf))
  refine ⟨?_, ?_⟩
  · skip
    conv => whnf
    repeat (first
      | (refine And.intro ?_ ?_; (focus (first | omega | decide | exact EqOk.mk (by kernel_rfl) (by kernel_rfl) (by kernel_rfl) | exact Int.natCast_nonneg _ | ((repeat' refine And.intro ?_ ?_) <;> first | omega | exact Int.natCast_nonneg _ | (simp only [i64max, u8max, u16max, u32max, u64max]; omega) | (simp only [mulSz_eq, Cont.len, colsLen, Col.len, List.length_cons, List.length_nil, List.length_replicate, List.length_append, u8max]; first | done | omega) | (simp [mulSz, Cont.len, bne, u8max]; first | done | omega)))); conv => whnf)
      | (refine tst_in ?_ ?_; (focus (intro h_; exfalso; first | omega | ((try simp only [decide_eq_true_eq, decide_eq_false_iff_not] at h_); omega) | (simp [mulSz, Cont.len, bne, u8max] at h_; first | done | omega))); intro _; conv => whnf)
      | (refine tst_in ?_ ?_; rotate_left; (focus (intro h_; exfalso; first | omega | ((try simp only [decide_eq_true_eq, decide_eq_false_iff_not] at h_); omega) | (simp [mulSz, Cont.len, bne, u8max] at h_; first | done | omega))); intro _; conv => whnf)
      | (refine ⟨0, (show _ = _ by omega), ?_⟩; conv => whnf))
    refine ⟨[0, 1], (), ?_, True.intro⟩
    show stLe _ _ (st29 a b c d e) _
    conv => whnf
    repeat' (first | exact True.intro | rfl | refine And.intro ?_ ?_)
    all_goals (conv => whnf)
    repeat' (first | exact True.intro | rfl | refine And.intro ?_ ?_)
    all_goals (try omega)
    all_goals (first | exact t3.symm | exact t1.symm | exact t2.symm)
  · rintro ⟨⟩ _
    show forceSt (st29 a b c d e) _
    conv => whnf
    refine And.intro ?_ (And.intro (And.intro ?_ (And.intro ?_ True.intro)) True.intro)
    all_goals
      conv => whnf
      refine ⟨_, [], SU, ?_⟩
      conv => whnf
      iterate 2
       refine And.intro ?_ ?_
       focus
        conv => whnf
        repeat' (first | exact True.intro | rfl | refine And.intro ?_ ?_ | omega)
        all_goals (conv => whnf)
        all_goals (try (first | rfl | omega | (simp; done)))
      conv => whnf
      refine ⟨?_, True.intro⟩
      intro _ _
      conv => whnf
      conv => whnf
      repeat (first
        | (refine And.intro ?_ ?_; (focus (first | omega | decide | exact EqOk.mk (by kernel_rfl) (by kernel_rfl) (by kernel_rfl) | exact Int.natCast_nonneg _ | ((repeat' refine And.intro ?_ ?_) <;> first | omega | exact Int.natCast_nonneg _ | (simp only [i64max, u8max, u16max, u32max, u64max]; omega) | (simp only [mulSz_eq, Cont.len, colsLen, Col.len, List.length_cons, List.length_nil, List.length_replicate, List.length_append]; first | done | omega) | (simp [mulSz, Cont.len, bne]; first | done | omega)))); conv => whnf)
        | (refine tst_in ?_ ?_; (focus (intro h_; exfalso; first | omega | ((try simp only [decide_eq_true_eq, decide_eq_false_iff_not] at h_); omega) | (simp [mulSz, Cont.len, bne] at h_; first | done | omega))); intro _; conv => whnf)
        | (refine tst_in ?_ ?_; rotate_left; (focus (intro h_; exfalso; first | omega | ((try simp only [decide_eq_true_eq, decide_eq_false_iff_not] at h_); omega) | (simp [mulSz, Cont.len, bne] at h_; first | done | omega))); intro _; conv => whnf)
        | (refine ⟨0, (show _ = _ by omega), ?_⟩; conv => whnf))
      intro bb hbb
      rw [hB] at hbb
      conv => whnf
      refine tst_in (fun h => ?_) (fun h' => ?_)
      · skip
        rw [hbb] at h
        have h : ¬ (d = s / 256 ∧ e = s % 256) := by rw [Bool.not_eq_true', decide_eq_false_iff_not] at h; exact h
        rw [bad fun q => h ⟨by rw [← hs]; exact q.1, by rw [← hs]; exact q.2.1⟩]
        conv => whnf
        refine .inl ⟨(), [], ?_⟩
        conv => whnf
        repeat' (first | exact True.intro | rfl | refine And.intro ?_ ?_)
        all_goals (conv => whnf)
        repeat' (first | exact True.intro | rfl | refine And.intro ?_ ?_)
        all_goals (try omega)
      · skip
        rw [hbb] at h'
        have h : d = s / 256 ∧ e = s % 256 := by rw [Bool.not_eq_false', decide_eq_true_eq] at h'; exact h'
        conv => whnf
        refine tst_in (fun h1 => ?_) (fun h1' => ?_)
        · skip
          have h1 : ¬ 1 ≤ a / 16 := by rw [dLt_eq] at h1; simp at h1; omega
          rw [bad fun q => h1 q.2.2.1]
          conv => whnf
          refine .inl ⟨(), [], ?_⟩
          conv => whnf
          repeat' (first | exact True.intro | rfl | refine And.intro ?_ ?_)
          all_goals (conv => whnf)
          repeat' (first | exact True.intro | rfl | refine And.intro ?_ ?_)
          all_goals (try omega)
        · skip
          have h1 : 1 ≤ a / 16 := by rw [dLt_eq] at h1'; simp at h1'; omega
          conv => whnf
          refine tst_in (fun h2 => ?_) (fun h2' => ?_)
          · skip
            have h2 : ¬ a % 16 ≤ 1 := by rw [dLt_eq] at h2; simp at h2; omega
            rw [bad fun q => h2 q.2.2.2.1]
            conv => whnf
            refine .inl ⟨(), [], ?_⟩
            conv => whnf
            repeat' (first | exact True.intro | rfl | refine And.intro ?_ ?_)
            all_goals (conv => whnf)
            repeat' (first | exact True.intro | rfl | refine And.intro ?_ ?_)
            all_goals (try omega)
          · skip
            have h2 : a % 16 ≤ 1 := by rw [dLt_eq] at h2'; simp at h2'; omega
            conv => whnf
            refine tst_in (fun h3 => ?_) (fun h3' => ?_)
            · skip
              have h3 : ¬ c ≤ 240 := by rw [dLt_eq] at h3; simp at h3; omega
              rw [bad fun q => h3 q.2.2.2.2]
              conv => whnf
              refine .inl ⟨(), [], ?_⟩
              conv => whnf
              repeat' (first | exact True.intro | rfl | refine And.intro ?_ ?_)
              all_goals (conv => whnf)
              repeat' (first | exact True.intro | rfl | refine And.intro ?_ ?_)
              all_goals (try omega)
            · skip
              have h3 : c ≤ 240 := by rw [dLt_eq] at h3'; simp at h3'; omega
              have hok : okH a b c d e := ⟨by rw [hs]; exact h.1, by rw [hs]; exact h.2, h1, h2, h3⟩
              have hX : X = .tup [frA ((a / 16 : Nat) : Int) b (decide (a % 16 = 1)) ⟨#[]⟩, .int .i64 c, .bool true] := by
                rcases hX with ⟨_, h⟩ | ⟨h, _⟩
                · exact h
                · exact absurd hok h
              rw [hX]
              conv => whnf
              repeat (first
                | (refine And.intro ?_ ?_; (focus (first | omega | decide | exact EqOk.mk (by kernel_rfl) (by kernel_rfl) (by kernel_rfl) | exact Int.natCast_nonneg _ | ((repeat' refine And.intro ?_ ?_) <;> first | omega | exact Int.natCast_nonneg _ | (simp only [i64max, u8max, u16max, u32max, u64max]; omega) | (simp only [mulSz_eq, Cont.len, colsLen, Col.len, List.length_cons, List.length_nil, List.length_replicate, List.length_append]; first | done | omega) | (simp [mulSz, Cont.len, bne]; first | done | omega)))); conv => whnf)
                | (refine tst_in ?_ ?_; (focus (intro h_; exfalso; first | omega | ((try simp only [decide_eq_true_eq, decide_eq_false_iff_not] at h_); omega) | (simp [mulSz, Cont.len, bne] at h_; first | done | omega))); intro _; conv => whnf)
                | (refine tst_in ?_ ?_; rotate_left; (focus (intro h_; exfalso; first | omega | ((try simp only [decide_eq_true_eq, decide_eq_false_iff_not] at h_); omega) | (simp [mulSz, Cont.len, bne] at h_; first | done | omega))); intro _; conv => whnf)
                | (refine ⟨0, (show _ = _ by omega), ?_⟩; conv => whnf))
              refine .inl ⟨(), [], ?_⟩
              conv => whnf
              repeat' (first | exact True.intro | rfl | refine And.intro ?_ ?_)
              all_goals (conv => whnf)
              repeat' (first | exact True.intro | rfl | refine And.intro ?_ ?_)
              all_goals (try omega)
              all_goals (rw [decide_eq_decide]; omega)
end Go.Proofs.Ytdkogicikhlicaa

set_option linter.unusedVariables false
set_option linter.unusedSimpArgs false
namespace Go.Proofs.Ytdkogicikhlicaa
open Go Go.Fw
theorem bytL_extract (s : ByteArray) (a b : Nat) : bytL (s.extract a b) = ((bytL s).drop a).take (b - a) := by
  unfold bytL
  rw [ByteArray.data_extract, Array.toList_extract, List.extract_eq_take_drop, List.map_take, List.map_drop]
theorem bytL_inj {a b : ByteArray} (h : bytL a = bytL b) : a = b := by
  unfold bytL at h
  refine ByteArray.ext (Array.toList_inj.1 (List.map_inj_right (f := fun b : UInt8 => (b.toNat : Int)) ?_ |>.1 h))
  intro x y hxy
  exact UInt8.toNat_inj.1 (by have : (x.toNat : Int) = (y.toNat : Int) := hxy; omega)
theorem bytL_app (a b : ByteArray) : bytL (a ++ b) = bytL a ++ bytL b := by
  unfold bytL
  rw [ByteArray.toList_data_append, List.map_append]
theorem bytL_tx (l : List Int) (h : ∀ x ∈ l, 0 ≤ x ∧ x < 256) : bytL (tx l) = l := by
  unfold bytL tx
  show (l.map _).map _ = l
  rw [List.map_map]
  conv => rhs; rw [← List.map_id l]
  refine List.map_congr_left fun x hx => ?_
  have := h x hx
  simp only [Function.comp_apply, id_eq, UInt8.toNat_ofNat']
  omega
end Go.Proofs.Ytdkogicikhlicaa

set_option linter.unusedVariables false
set_option linter.unusedSimpArgs false
namespace Go.Proofs.Ytdkogicikhlicaa
open Go Go.Fw
def bodyX (s : ByteArray) : ByteArray := s.extract 5 (byteAt s 2 + 9)
def hdOk (s : ByteArray) : Prop := okH (byteAt s 0) (byteAt s 1) (byteAt s 2) (byteAt s 3) (byteAt s 4)
def good (s : ByteArray) : Prop := 9 ≤ s.size ∧ hdOk s ∧ byteAt s 2 + 9 ≤ s.size ∧ sealT (aheadT (bodyX s)) = bodyX s
def badV : AV := .tup [frA 0 0 false ⟨#[]⟩, .int .i64 0, .int .i64 4]
def goodV (s : ByteArray) : AV := .tup [frA ((byteAt s 0 / 16 : Nat) : Int) (byteAt s 1) (decide (byteAt s 0 % 16 = 1)) (aheadT (bodyX s)), .int .i64 ((byteAt s 2 + 9 : Nat) : Int), .int .i64 0]
noncomputable def c11 : Code := (Try.f11.body).getD .skip
set_option maxHeartbeats 0 in
set_option maxRecDepth 100000 in
theorem Parse_f (s : ByteArray) (hs : s.size ≤ 9223372036854775807) (X : AV) (hX : (good s ∧ X = goodV s) ∨ (¬ good s ∧ X = badV)) :
    Fits Try.prog 11 ⟨[.str s], [], [numOut [] X]⟩ := by
  have bad : ¬ good s → X = badV := fun h => by
    rcases hX with ⟨h1, _⟩ | ⟨_, h2⟩
    · exact absurd h1 h
    · exact h2
  have hb0 := byteAt_lt s 0
  have hb1 := byteAt_lt s 1
  have hb2 := byteAt_lt s 2
  have hb3 := byteAt_lt s 3
  have hb4 := byteAt_lt s 4
  refine fits_of_res (C := cfgs 0) (c := c11) (rs := [.cell 2 23, .tmp 3, .tmp 4]) tokL mixedL (fun _ => none) (fun _ => none)
    Try.func11 (by kernel_rfl) (by kernel_rfl) (by kernel_rfl) (by kernel_rfl) rfl ?_
  by_cases h9 : s.size < 9
  · rw [bad fun q => by have := q.1; omega]
    unfold badV frA
    conv => whnf
    repeat (first
      | (refine And.intro ?_ ?_; (focus (first | omega | decide | exact EqOk.mk (by kernel_rfl) (by kernel_rfl) (by kernel_rfl) | exact Int.natCast_nonneg _ | ((repeat' refine And.intro ?_ ?_) <;> first | omega | exact Int.natCast_nonneg _ | (simp only [i64max, u8max, u16max, u32max, u64max]; omega) | (simp only [mulSz_eq, Cont.len, colsLen, Col.len, List.length_cons, List.length_nil, List.length_replicate, List.length_append]; first | done | omega) | (simp [mulSz, Cont.len, bne]; first | done | omega)))); conv => whnf)
      | (refine tst_in ?_ ?_; (focus (intro h_; exfalso; first | omega | ((try simp only [decide_eq_true_eq, decide_eq_false_iff_not] at h_); omega) | (simp [mulSz, Cont.len, bne] at h_; first | done | omega))); intro _; conv => whnf)
      | (refine tst_in ?_ ?_; rotate_left; (focus (intro h_; exfalso; first | omega | ((try simp only [decide_eq_true_eq, decide_eq_false_iff_not] at h_); omega) | (simp [mulSz, Cont.len, bne] at h_; first | done | omega))); intro _; conv => whnf)
      | (refine ⟨0, (show _ = _ by omega), ?_⟩; conv => whnf))
    refine .inl ⟨(), [], ?_⟩
    conv => whnf
    repeat' (first | exact True.intro | rfl | refine And.intro ?_ ?_)
    all_goals (conv => whnf)
    repeat' (first | exact True.intro | rfl | refine And.intro ?_ ?_)
    all_goals (try omega)
  · by_cases hh : hdOk s
    · have FR := frame_f (byteAt s 0) (byteAt s 1) (byteAt s 2) (byteAt s 3) (byteAt s 4) hb0 hb1 hb2 hb3 hb4 _ (.inl ⟨hh, rfl⟩)
      conv => whnf
      repeat (first
        | (refine And.intro ?_ ?_; (focus (first | omega | decide | exact EqOk.mk (by kernel_rfl) (by kernel_rfl) (by kernel_rfl) | exact Int.natCast_nonneg _ | ((repeat' refine And.intro ?_ ?_) <;> first | omega | exact Int.natCast_nonneg _ | (simp only [i64max, u8max, u16max, u32max, u64max]; omega) | (simp only [mulSz_eq, Cont.len, colsLen, Col.len, List.length_cons, List.length_nil, List.length_replicate, List.length_append]; first | done | omega) | (simp [mulSz, Cont.len, bne]; first | done | omega)))); conv => whnf)
        | (refine tst_in ?_ ?_; (focus (intro h_; exfalso; first | omega | ((try simp only [decide_eq_true_eq, decide_eq_false_iff_not] at h_); omega) | (simp [mulSz, Cont.len, bne] at h_; first | done | omega))); intro _; conv => whnf)
        | (refine tst_in ?_ ?_; rotate_left; (focus (intro h_; exfalso; first | omega | ((try simp only [decide_eq_true_eq, decide_eq_false_iff_not] at h_); omega) | (simp [mulSz, Cont.len, bne] at h_; first | done | omega))); intro _; conv => whnf)
        | (refine ⟨0, (show _ = _ by omega), ?_⟩; conv => whnf))
      refine ⟨_, [], FR, ?_⟩
      conv => whnf
      iterate 2
       refine And.intro ?_ ?_
       focus
        conv => whnf
        repeat' (first | exact True.intro | rfl | refine And.intro ?_ ?_ | omega)
        all_goals (conv => whnf)
        all_goals (try (first | rfl | omega | (simp; done)))
      conv => whnf
      refine ⟨?_, True.intro⟩
      intro _ _
      conv => whnf
      conv => whnf
      by_cases hl : s.size < byteAt s 2 + 9
      · rw [bad fun q => by have := q.2.2.1; omega]
        unfold badV frA
        conv => whnf
        repeat (first
          | (refine And.intro ?_ ?_; (focus (first | omega | decide | exact EqOk.mk (by kernel_rfl) (by kernel_rfl) (by kernel_rfl) | exact Int.natCast_nonneg _ | ((repeat' refine And.intro ?_ ?_) <;> first | omega | exact Int.natCast_nonneg _ | (simp only [i64max, u8max, u16max, u32max, u64max]; omega) | (simp only [mulSz_eq, Cont.len, colsLen, Col.len, List.length_cons, List.length_nil, List.length_replicate, List.length_append]; first | done | omega) | (simp [mulSz, Cont.len, bne]; first | done | omega)))); conv => whnf)
          | (refine tst_in ?_ ?_; (focus (intro h_; exfalso; first | omega | ((try simp only [decide_eq_true_eq, decide_eq_false_iff_not] at h_); omega) | (simp [mulSz, Cont.len, bne] at h_; first | done | omega))); intro _; conv => whnf)
          | (refine tst_in ?_ ?_; rotate_left; (focus (intro h_; exfalso; first | omega | ((try simp only [decide_eq_true_eq, decide_eq_false_iff_not] at h_); omega) | (simp [mulSz, Cont.len, bne] at h_; first | done | omega))); intro _; conv => whnf)
          | (refine ⟨0, (show _ = _ by omega), ?_⟩; conv => whnf))
        refine .inl ⟨(), [], ?_⟩
        conv => whnf
        repeat' (first | exact True.intro | rfl | refine And.intro ?_ ?_)
        all_goals (conv => whnf)
        repeat' (first | exact True.intro | rfl | refine And.intro ?_ ?_)
        all_goals (try omega)
      · have hz : (bodyX s).size = byteAt s 2 + 4 := by unfold bodyX; rw [ByteArray.size_extract]; omega
        have ei : (s.extract (Int.toNat 5) ((byteAt s 2 : Int) + 9).toNat) = bodyX s := by
          unfold bodyX; rw [show ((byteAt s 2 : Int) + 9).toNat = byteAt s 2 + 9 by omega]; rfl
        by_cases hg : sealT (aheadT (bodyX s)) = bodyX s
        · have OP := Opened_y (bodyX s) (by omega) (by omega) hg
          have hX : X = goodV s := by
            rcases hX with ⟨_, h2⟩ | ⟨h1, _⟩
            · exact h2
            · exact absurd ⟨by omega, hh, by omega, hg⟩ h1
          rw [hX]
          unfold goodV frA
          conv => whnf
          repeat (first
            | (refine And.intro ?_ ?_; (focus (first | omega | decide | exact EqOk.mk (by kernel_rfl) (by kernel_rfl) (by kernel_rfl) | exact Int.natCast_nonneg _ | ((repeat' refine And.intro ?_ ?_) <;> first | omega | exact Int.natCast_nonneg _ | (simp only [i64max, u8max, u16max, u32max, u64max]; omega) | (simp only [mulSz_eq, Cont.len, colsLen, Col.len, List.length_cons, List.length_nil, List.length_replicate, List.length_append]; first | done | omega) | (simp [mulSz, Cont.len, bne]; first | done | omega)))); conv => whnf)
            | (refine tst_in ?_ ?_; (focus (intro h_; exfalso; first | omega | ((try simp only [decide_eq_true_eq, decide_eq_false_iff_not] at h_); omega) | (simp [mulSz, Cont.len, bne] at h_; first | done | omega))); intro _; conv => whnf)
            | (refine tst_in ?_ ?_; rotate_left; (focus (intro h_; exfalso; first | omega | ((try simp only [decide_eq_true_eq, decide_eq_false_iff_not] at h_); omega) | (simp [mulSz, Cont.len, bne] at h_; first | done | omega))); intro _; conv => whnf)
            | (refine ⟨0, (show _ = _ by omega), ?_⟩; conv => whnf))
          rw [ei]
          refine ⟨_, [], OP, ?_⟩
          conv => whnf
          iterate 2
           refine And.intro ?_ ?_
           focus
            conv => whnf
            repeat' (first | exact True.intro | rfl | refine And.intro ?_ ?_ | omega)
            all_goals (conv => whnf)
            all_goals (try (first | rfl | omega | (simp; done)))
          conv => whnf
          refine ⟨?_, True.intro⟩
          intro _ _
          conv => whnf
          conv => whnf
          repeat (first
            | (refine And.intro ?_ ?_; (focus (first | omega | decide | exact EqOk.mk (by kernel_rfl) (by kernel_rfl) (by kernel_rfl) | exact Int.natCast_nonneg _ | ((repeat' refine And.intro ?_ ?_) <;> first | omega | exact Int.natCast_nonneg _ | (simp only [i64max, u8max, u16max, u32max, u64max]; omega) | (simp only [mulSz_eq, Cont.len, colsLen, Col.len, List.length_cons, List.length_nil, List.length_replicate, List.length_append]; first | done | omega) | (simp [mulSz, Cont.len, bne]; first | done | omega)))); conv => whnf)
            | (refine tst_in ?_ ?_; (focus (intro h_; exfalso; first | omega | ((try simp only [decide_eq_true_eq, decide_eq_false_iff_not] at h_); omega) | (simp [mulSz, Cont.len, bne] at h_; first | done | omega))); intro _; conv => whnf)
            | (refine tst_in ?_ ?_; rotate_left; (focus (intro h_; exfalso; first | omega | ((try simp only [decide_eq_true_eq, decide_eq_false_iff_not] at h_); omega) | (simp [mulSz, Cont.len, bne] at h_; first | done | omega))); intro _; conv => whnf)
            | (refine ⟨0, (show _ = _ by omega), ?_⟩; conv => whnf))
          refine .inl ⟨(), [], ?_⟩
          conv => whnf
          repeat' (first | exact True.intro | rfl | refine And.intro ?_ ?_)
          all_goals (conv => whnf)
          repeat' (first | exact True.intro | rfl | refine And.intro ?_ ?_)
          all_goals (try omega)
        · have OP := Opened_n (bodyX s) (by omega) (by omega) hg
          rw [bad fun q => hg q.2.2.2]
          unfold badV frA
          conv => whnf
          repeat (first
            | (refine And.intro ?_ ?_; (focus (first | omega | decide | exact EqOk.mk (by kernel_rfl) (by kernel_rfl) (by kernel_rfl) | exact Int.natCast_nonneg _ | ((repeat' refine And.intro ?_ ?_) <;> first | omega | exact Int.natCast_nonneg _ | (simp only [i64max, u8max, u16max, u32max, u64max]; omega) | (simp only [mulSz_eq, Cont.len, colsLen, Col.len, List.length_cons, List.length_nil, List.length_replicate, List.length_append]; first | done | omega) | (simp [mulSz, Cont.len, bne]; first | done | omega)))); conv => whnf)
            | (refine tst_in ?_ ?_; (focus (intro h_; exfalso; first | omega | ((try simp only [decide_eq_true_eq, decide_eq_false_iff_not] at h_); omega) | (simp [mulSz, Cont.len, bne] at h_; first | done | omega))); intro _; conv => whnf)
            | (refine tst_in ?_ ?_; rotate_left; (focus (intro h_; exfalso; first | omega | ((try simp only [decide_eq_true_eq, decide_eq_false_iff_not] at h_); omega) | (simp [mulSz, Cont.len, bne] at h_; first | done | omega))); intro _; conv => whnf)
            | (refine ⟨0, (show _ = _ by omega), ?_⟩; conv => whnf))
          rw [ei]
          refine ⟨_, [], OP, ?_⟩
          conv => whnf
          iterate 2
           refine And.intro ?_ ?_
           focus
            conv => whnf
            repeat' (first | exact True.intro | rfl | refine And.intro ?_ ?_ | omega)
            all_goals (conv => whnf)
            all_goals (try (first | rfl | omega | (simp; done)))
          conv => whnf
          refine ⟨?_, True.intro⟩
          intro _ _
          conv => whnf
          conv => whnf
          refine .inl ⟨(), [], ?_⟩
          conv => whnf
          repeat' (first | exact True.intro | rfl | refine And.intro ?_ ?_)
          all_goals (conv => whnf)
          repeat' (first | exact True.intro | rfl | refine And.intro ?_ ?_)
          all_goals (try omega)
    · have FR := frame_f (byteAt s 0) (byteAt s 1) (byteAt s 2) (byteAt s 3) (byteAt s 4) hb0 hb1 hb2 hb3 hb4 _ (.inr ⟨hh, rfl⟩)
      rw [bad fun q => hh q.2.1]
      unfold badV frA
      conv => whnf
      repeat (first
        | (refine And.intro ?_ ?_; (focus (first | omega | decide | exact EqOk.mk (by kernel_rfl) (by kernel_rfl) (by kernel_rfl) | exact Int.natCast_nonneg _ | ((repeat' refine And.intro ?_ ?_) <;> first | omega | exact Int.natCast_nonneg _ | (simp only [i64max, u8max, u16max, u32max, u64max]; omega) | (simp only [mulSz_eq, Cont.len, colsLen, Col.len, List.length_cons, List.length_nil, List.length_replicate, List.length_append]; first | done | omega) | (simp [mulSz, Cont.len, bne]; first | done | omega)))); conv => whnf)
        | (refine tst_in ?_ ?_; (focus (intro h_; exfalso; first | omega | ((try simp only [decide_eq_true_eq, decide_eq_false_iff_not] at h_); omega) | (simp [mulSz, Cont.len, bne] at h_; first | done | omega))); intro _; conv => whnf)
        | (refine tst_in ?_ ?_; rotate_left; (focus (intro h_; exfalso; first | omega | ((try simp only [decide_eq_true_eq, decide_eq_false_iff_not] at h_); omega) | (simp [mulSz, Cont.len, bne] at h_; first | done | omega))); intro _; conv => whnf)
        | (refine ⟨0, (show _ = _ by omega), ?_⟩; conv => whnf))
      refine ⟨_, [], FR, ?_⟩
      conv => whnf
      iterate 2
       refine And.intro ?_ ?_
       focus
        conv => whnf
        repeat' (first | exact True.intro | rfl | refine And.intro ?_ ?_ | omega)
        all_goals (conv => whnf)
        all_goals (try (first | rfl | omega | (simp; done)))
      conv => whnf
      refine ⟨?_, True.intro⟩
      intro _ _
      conv => whnf
      conv => whnf
      refine .inl ⟨(), [], ?_⟩
      conv => whnf
      repeat' (first | exact True.intro | rfl | refine And.intro ?_ ?_)
      all_goals (conv => whnf)
      repeat' (first | exact True.intro | rfl | refine And.intro ?_ ?_)
      all_goals (try omega)
end Go.Proofs.Ytdkogicikhlicaa

set_option linter.unusedVariables false
set_option linter.unusedSimpArgs false
namespace Go.Proofs.Ytdkogicikhlicaa
open Go Go.Fw
def zer (k : Nat) : List Bool := List.replicate k false
theorem top_bit {W s : Nat} (hW : 0 < W) (hs : s < 2 ^ W) : s.testBit (W - 1) = decide (2 ^ (W - 1) ≤ s) := by
  obtain ⟨w, rfl⟩ : ∃ w, W = w + 1 := ⟨W - 1, by omega⟩
  rw [Nat.add_sub_cancel, Nat.testBit_eq_decide_div_mod_eq]
  apply decide_eq_decide.mpr
  have h2 : 2 ^ (w + 1) = 2 * 2 ^ w := by rw [Nat.pow_succ]; omega
  have hpos : 0 < 2 ^ w := Nat.two_pow_pos w
  have h3 : s / 2 ^ w < 2 := by rw [Nat.div_lt_iff_lt_mul hpos]; omega
  rw [Nat.mod_eq_of_lt h3]
  constructor
  · intro h
    have := Nat.div_mul_le_self s (2 ^ w)
    rw [h] at this; omega
  · intro h
    have : 1 ≤ s / 2 ^ w := by rw [Nat.le_div_iff_mul_le hpos]; omega
    omega
theorem dbl_mod {W s : Nat} (hW : 0 < W) (hs : s < 2 ^ W) : (2 * s) % 2 ^ W = if s.testBit (W - 1) then 2 * s - 2 ^ W else 2 * s := by
  have ht := top_bit hW hs
  have h2 : 2 ^ W = 2 * 2 ^ (W - 1) := by
    obtain ⟨w, rfl⟩ : ∃ w, W = w + 1 := ⟨W - 1, by omega⟩
    rw [Nat.add_sub_cancel, Nat.pow_succ]; omega
  rw [ht]
  by_cases h : 2 ^ (W - 1) ≤ s
  · simp only [h, decide_true, if_true]
    rw [Nat.mod_eq_sub_mod (by omega), Nat.mod_eq_of_lt (by omega)]
  · simp only [h, decide_false, Bool.false_eq_true, if_false]
    exact Nat.mod_eq_of_lt (by omega)
theorem dbl_even (W s : Nat) (hW : 0 < W) : ((2 * s) % 2 ^ W) % 2 = 0 := by
  obtain ⟨w, rfl⟩ : ∃ w, W = w + 1 := ⟨W - 1, by omega⟩
  have : (2 * s) % 2 ^ (w + 1) % 2 = (2 * s) % 2 := Nat.mod_mod_of_dvd _ ⟨2 ^ w, by rw [Nat.pow_succ]; omega⟩
  omega
theorem xor_odd {a p : Nat} (ha : a % 2 = 0) (hp : p % 2 = 1) : (a ^^^ p) % 2 = 1 := by
  have := Nat.testBit_xor a p 0
  rw [Nat.testBit_zero, Nat.testBit_zero, Nat.testBit_zero] at this
  rw [ha, hp] at this
  simpa using this
/-- An even state came by a step without the polynomial. -/
theorem nx_even {W p s : Nat} {b : Bool} (hW : 0 < W) (hp : p % 2 = 1) (h : nx W p s b % 2 = 0) : s.testBit (W - 1) = b ∧ nx W p s b = (2 * s) % 2 ^ W := by
  unfold nx at h ⊢
  split at h
  · have := xor_odd (dbl_even W s hW) hp
    omega
  · rename_i hne
    rw [if_neg hne]
    refine ⟨by simpa using hne, rfl⟩
def btc (W : Nat) : Nat → Nat → List Bool
  | _, 0 => []
  | s, k + 1 => s.testBit (W - 1) :: btc W ((2 * s) % 2 ^ W) k
theorem crc_back (W p : Nat) (hW : 0 < W) (hp : p % 2 = 1) (hpl : p < 2 ^ W) : ∀ (d : List Bool) (s : Nat), s < 2 ^ W → d.length ≤ W → crc W p s d = 0 → 2 ^ (W - d.length) ∣ s ∧ d = btc W s d.length
  | [], s, _, _, h => by
    have h : s = 0 := h
    subst h
    exact ⟨Nat.dvd_zero _, rfl⟩
  | b :: d, s, hs, hl, h => by
    simp only [List.length_cons] at hl
    obtain ⟨h1, h2⟩ := crc_back W p hW hp hpl d (nx W p s b) (nx_lt b hpl) (by omega) h
    have he : nx W p s b % 2 = 0 := by
      have : 2 ∣ 2 ^ (W - d.length) := ⟨2 ^ (W - d.length - 1), by rw [Nat.mul_comm, ← Nat.pow_succ]; congr 1; omega⟩
      exact Nat.mod_eq_zero_of_dvd (Nat.dvd_trans this h1)
    obtain ⟨h3, h4⟩ := nx_even hW hp he
    rw [h4] at h1 h2
    have h5 : 2 ^ (W - d.length) = 2 * 2 ^ (W - (d.length + 1)) := by
      rw [Nat.mul_comm, ← Nat.pow_succ]; congr 1; omega
    have h6 : 2 ^ (W - d.length) ∣ 2 * s := by
      rw [dbl_mod hW hs] at h1
      split at h1
      · rename_i ht
        rw [top_bit hW hs] at ht
        have hge : 2 ^ (W - 1) ≤ s := by simpa using ht
        have hw : 2 ^ W = 2 * 2 ^ (W - 1) := by
          rw [Nat.mul_comm, ← Nat.pow_succ]; congr 1; omega
        have e : 2 * s = (2 * s - 2 ^ W) + 2 ^ W := by omega
        rw [e]
        exact Nat.dvd_add h1 (Nat.pow_dvd_pow 2 (Nat.sub_le _ _))
      · exact h1
    refine ⟨?_, ?_⟩
    · simp only [List.length_cons]
      rw [h5] at h6
      exact Nat.dvd_of_mul_dvd_mul_left (by decide) h6
    · simp only [List.length_cons, btc]
      rw [h3, ← h2]
theorem btc_zero (W : Nat) : ∀ k, btc W 0 k = List.replicate k false
  | 0 => rfl
  | k + 1 => by simp only [btc, Nat.zero_testBit, Nat.mul_zero, Nat.zero_mod, btc_zero W k, List.replicate_succ]
/-- A burst no wider than the sum leaves something. -/
theorem burst_zero (W p : Nat) (hW : 0 < W) (hp : p % 2 = 1) (hpl : p < 2 ^ W) (d : List Bool) (hl : d.length ≤ W) (h : crc W p 0 d = 0) : d = List.replicate d.length false := by
  rw [← btc_zero W]
  exact (crc_back W p hW hp hpl d 0 (Nat.two_pow_pos W) hl h).2
def bt (W s : Nat) : Nat → List Bool
  | 0 => []
  | k + 1 => bt W s k ++ [s.testBit (W - 1 - k)]
theorem crc_bt (W p s : Nat) (hW : 0 < W) (hs : s < 2 ^ W) : ∀ k, k ≤ W → crc W p s (bt W s k) = (2 ^ k * s) % 2 ^ W
  | 0, _ => by simp [bt, crc, Nat.mod_eq_of_lt hs]
  | k + 1, hk => by
    rw [bt, crc_snoc, crc_bt W p s hW hs k (by omega)]
    have ht : ((2 ^ k * s) % 2 ^ W).testBit (W - 1) = s.testBit (W - 1 - k) := by
      rw [Nat.testBit_mod_two_pow, Nat.mul_comm, ← Nat.shiftLeft_eq, Nat.testBit_shiftLeft]
      simp [show W - 1 < W by omega, show k ≤ W - 1 by omega]
    unfold nx
    rw [ht]
    simp only [bne_self_eq_false, Bool.false_eq_true, if_false]
    rw [Nat.mul_mod_mod, ← Nat.mul_assoc]
    congr 2
    rw [Nat.pow_succ, Nat.mul_comm]
theorem crc_bt_all (W p s : Nat) (hW : 0 < W) (hs : s < 2 ^ W) : crc W p s (bt W s W) = 0 := by
  rw [crc_bt W p s hW hs W (Nat.le_refl _), Nat.mul_mod_right]
theorem nx_inj0 {W p s : Nat} (hW : 0 < W) (hp : p % 2 = 1) (hs : s < 2 ^ W) (h : nx W p s false = 0) : s = 0 := by
  obtain ⟨h1, h2⟩ := nx_even hW hp (by rw [h])
  rw [h2, dbl_mod hW hs, h1] at h
  simp at h; omega
theorem crc_inj0 (W p : Nat) (hW : 0 < W) (hp : p % 2 = 1) (hpl : p < 2 ^ W) : ∀ (k s : Nat), s < 2 ^ W → crc W p s (List.replicate k false) = 0 → s = 0
  | 0, s, _, h => h
  | k + 1, s, hs, h => by
    rw [List.replicate_succ] at h
    exact nx_inj0 hW hp hs (crc_inj0 W p hW hp hpl k _ (nx_lt false hpl) h)
/-- What is turned within as many places as the sum is wide is seen. -/
theorem burst_seen (W p : Nat) (hW : 0 < W) (hp : p % 2 = 1) (hpl : p < 2 ^ W) (i r : Nat) (w : List Bool) (hl : w.length ≤ W) (h : crc W p 0 (zer i ++ w ++ zer r) = 0) : w = List.replicate w.length false := by
  rw [crc_append, crc_append] at h
  unfold zer at h
  rw [crc_zeros] at h
  exact burst_zero W p hW hp hpl w hl (crc_inj0 W p hW hp hpl r _ (crc_lt hpl _ _ (Nat.two_pow_pos W)) h)


def bitA (F : Nat → Nat) (q : Nat) : Bool := (F (q / 8)).testBit (7 - q % 8)
theorem bb_get (x j : Nat) (h : j < 8) : (bb x).getD j false = x.testBit (7 - j) := by
  obtain rfl | rfl | rfl | rfl | rfl | rfl | rfl | rfl : j = 0 ∨ j = 1 ∨ j = 2 ∨ j = 3 ∨ j = 4 ∨ j = 5 ∨ j = 6 ∨ j = 7 := by omega
  all_goals rfl
theorem bst_get (F : Nat → Nat) : ∀ n q, q < 8 * n → (bst F n).getD q false = bitA F q
  | 0, q, h => by omega
  | n + 1, q, h => by
    show (bst F n ++ bb (F n)).getD q false = _
    rw [g_app, bst_len]
    by_cases hq : q < 8 * n
    · rw [if_pos hq, bst_get F n q hq]
    · rw [if_neg hq, bb_get _ _ (by omega)]
      unfold bitA
      rw [show q / 8 = n by omega, show q - 8 * n = q % 8 by omega]
theorem bst_tb (F : Nat → Nat) (n : Nat) : bst F n = tb (bitA F) (8 * n) := tab_ext false (bst_len F n) fun i hi => bst_get F n i hi
theorem zip_tb (g h : Nat → Bool) (n : Nat) : List.zipWith (· != ·) (tb g n) (tb h n) = tb (fun i => g i != h i) n := by
  refine tab_ext false (by rw [List.length_zipWith, tab_len, tab_len]; omega) fun i hi => ?_
  rw [List.getD_eq_getElem?_getD, List.getElem?_zipWith]
  unfold tb
  rw [List.getElem?_map, List.getElem?_map, List.getElem?_range hi]; rfl
theorem bb16 (S : Nat) : bb (S / 256) ++ bb (S % 256) = bt 16 S 16 := by
  have h1 : ∀ k, (S / 256).testBit k = S.testBit (8 + k) := fun k => by rw [show 256 = 2 ^ 8 by rfl, Nat.testBit_div_two_pow, Nat.add_comm]
  have h2 : ∀ k, k < 8 → (S % 256).testBit k = S.testBit k := fun k hk => by rw [show 256 = 2 ^ 8 by rfl, Nat.testBit_mod_two_pow]; simp [hk]
  simp only [bb, bt, h1, List.cons_append, List.nil_append, List.append_assoc]
  rw [h2 7 (by decide), h2 6 (by decide), h2 5 (by decide), h2 4 (by decide), h2 3 (by decide), h2 2 (by decide), h2 1 (by decide), h2 0 (by decide)]
theorem bb32 (S : Nat) : bb (S / 16777216 % 256) ++ (bb (S / 65536 % 256) ++ (bb (S / 256 % 256) ++ bb (S % 256))) = bt 32 S 32 := by
  have h : ∀ m k, k < 8 → (S / 2 ^ m % 256).testBit k = S.testBit (m + k) := fun m k hk => by
    rw [show 256 = 2 ^ 8 by rfl, Nat.testBit_mod_two_pow, Nat.testBit_div_two_pow, Nat.add_comm]; simp [hk]
  have g : ∀ m, bb (S / 2 ^ m % 256) = [S.testBit (m + 7), S.testBit (m + 6), S.testBit (m + 5), S.testBit (m + 4), S.testBit (m + 3), S.testBit (m + 2), S.testBit (m + 1), S.testBit (m + 0)] := fun m => by
    unfold bb
    rw [h m 7 (by decide), h m 6 (by decide), h m 5 (by decide), h m 4 (by decide), h m 3 (by decide), h m 2 (by decide), h m 1 (by decide), h m 0 (by decide)]
  have g0 : bb (S % 256) = [S.testBit (0 + 7), S.testBit (0 + 6), S.testBit (0 + 5), S.testBit (0 + 4), S.testBit (0 + 3), S.testBit (0 + 2), S.testBit (0 + 1), S.testBit (0 + 0)] := by
    have := g 0; rwa [Nat.pow_zero, Nat.div_one] at this
  rw [show (16777216 : Nat) = 2 ^ 24 by rfl, show (65536 : Nat) = 2 ^ 16 by rfl, g 24, g 16, show S / 256 = S / 2 ^ 8 by rfl, g 8, g0]
  simp only [bt, List.cons_append, List.nil_append, List.append_assoc]
theorem code_zero (W p : Nat) (hW : 0 < W) (hpl : p < 2 ^ W) (l : List Bool) : crc W p 0 (l ++ bt W (crc W p 0 l) W) = 0 := by
  rw [crc_append]
  exact crc_bt_all W p _ hW (crc_lt hpl l 0 (Nat.two_pow_pos W))
theorem byteAt_bytL {s : ByteArray} {i : Nat} (h : i < s.size) : (byteAt s i : Int) = (bytL s).getD i 0 := by
  have := bytL_get s [] h
  rw [List.append_nil] at this; exact this.symm
theorem byteAt_tx {l : List Int} (hl : ∀ x ∈ l, 0 ≤ x ∧ x < 256) {i : Nat} (h : i < l.length) : (byteAt (tx l) i : Int) = l.getD i 0 := by
  rw [byteAt_bytL (by rw [tx_size]; exact h), bytL_tx l hl]
theorem hd_crc (s : ByteArray) (h : hdOk s) : crc 16 4129 0 (bst (byteAt s) 5) = 0 := by
  obtain ⟨h3, h4, _⟩ := h
  have hS : sm16 (byteAt s 0) (byteAt s 1) (byteAt s 2) = crc 16 4129 0 (bst (byteAt s) 3) := by
    unfold sm16 crc16
    rw [tx_size]
    show crc 16 4129 0 (bst _ 3) = _
    rw [bst_congr]
    intro i hi
    have hb : ∀ x ∈ [(byteAt s 0 : Int), (byteAt s 1 : Int), (byteAt s 2 : Int)], 0 ≤ x ∧ x < 256 := by
      intro x hx
      have h0 := byteAt_lt s 0
      have h1 := byteAt_lt s 1
      have h2 := byteAt_lt s 2
      simp only [List.mem_cons, List.not_mem_nil, or_false] at hx
      rcases hx with rfl | rfl | rfl <;> omega
    have := byteAt_tx hb (i := i) (by simpa using hi)
    obtain rfl | rfl | rfl : i = 0 ∨ i = 1 ∨ i = 2 := by omega
    all_goals (simp at this; omega)
  rw [hS] at h3 h4
  have e : bst (byteAt s) 5 = bst (byteAt s) 3 ++ (bb (byteAt s 3) ++ bb (byteAt s 4)) := by
    show (bst (byteAt s) 3 ++ bb (byteAt s 3)) ++ bb (byteAt s 4) = _
    rw [List.append_assoc]
  rw [e, h3, h4, bb16]
  exact code_zero 16 4129 (by decide) (by decide) _
theorem byteAt_app1 (a b : ByteArray) {i : Nat} (h : i < a.size) : byteAt (a ++ b) i = byteAt a i := by
  have h1 := byteAt_bytL (s := a ++ b) (i := i) (by rw [ByteArray.size_append]; omega)
  have h2 := byteAt_bytL h
  rw [bytL_app, g_app, bytL_len, if_pos h] at h1
  omega
theorem byteAt_app2 (a b : ByteArray) {i : Nat} (h : i < b.size) : byteAt (a ++ b) (a.size + i) = byteAt b i := by
  have h1 := byteAt_bytL (s := a ++ b) (i := a.size + i) (by rw [ByteArray.size_append]; omega)
  have h2 := byteAt_bytL h
  rw [bytL_app, g_app, bytL_len, if_neg (by omega), show a.size + i - a.size = i by omega] at h1
  omega
theorem byteAt_ext (s : ByteArray) (a b : Nat) {i : Nat} (h : a + i < b) (hb : b ≤ s.size) : byteAt (s.extract a b) i = byteAt s (a + i) := by
  have h1 := byteAt_bytL (s := s.extract a b) (i := i) (by rw [ByteArray.size_extract]; omega)
  have h2 := byteAt_bytL (s := s) (i := a + i) (by omega)
  rw [bytL_extract, g_take, if_pos (by omega), g_drop] at h1
  omega
theorem seal_crc (B : ByteArray) : crc 32 79764919 0 (bst (byteAt (sealT B)) (B.size + 4)) = 0 := by
  have hc := crc32_lt B
  have e4 : ∀ i, i < 4 → byteAt (sealT B) (B.size + i) = byteAt (tx4 (crc32 B)) i := fun i hi => byteAt_app2 B _ (by rw [tx4_size]; exact hi)
  have et : ∀ i, i < 4 → (byteAt (tx4 (crc32 B)) i : Int) = [((crc32 B / 16777216 % 256 : Nat) : Int), ((crc32 B / 65536 % 256 : Nat) : Int), ((crc32 B / 256 % 256 : Nat) : Int), ((crc32 B % 256 : Nat) : Int)].getD i 0 := fun i hi => by
    refine byteAt_tx ?_ hi
    intro x hx
    simp only [List.mem_cons, List.not_mem_nil, or_false] at hx
    rcases hx with rfl | rfl | rfl | rfl <;> omega
  have t0 : byteAt (sealT B) (B.size + 0) = crc32 B / 16777216 % 256 := by rw [e4 0 (by decide)]; have := et 0 (by decide); simp at this; omega
  have t1 : byteAt (sealT B) (B.size + 1) = crc32 B / 65536 % 256 := by rw [e4 1 (by decide)]; have := et 1 (by decide); simp at this; omega
  have t2 : byteAt (sealT B) (B.size + 2) = crc32 B / 256 % 256 := by rw [e4 2 (by decide)]; have := et 2 (by decide); simp at this; omega
  have t3 : byteAt (sealT B) (B.size + 3) = crc32 B % 256 := by rw [e4 3 (by decide)]; have := et 3 (by decide); simp at this; omega
  have e : bst (byteAt (sealT B)) (B.size + 4) = bst (byteAt B) B.size ++ (bb (byteAt (sealT B) (B.size + 0)) ++ (bb (byteAt (sealT B) (B.size + 1)) ++ (bb (byteAt (sealT B) (B.size + 2)) ++ bb (byteAt (sealT B) (B.size + 3))))) := by
    show (((bst (byteAt (sealT B)) B.size ++ bb _) ++ bb _) ++ bb _) ++ bb _ = _
    rw [bst_congr (f := byteAt (sealT B)) (g := byteAt B) (n := B.size) fun i hi => byteAt_app1 B _ hi]
    simp only [List.append_assoc]; rfl
  rw [e, t0, t1, t2, t3, bb32]
  exact code_zero 32 79764919 (by decide) (by decide) _
end Go.Proofs.Ytdkogicikhlicaa

set_option linter.unusedVariables false
set_option linter.unusedSimpArgs false
namespace Go.Proofs.Ytdkogicikhlicaa
open Go Go.Fw
/-- Bytes with bits turned: from bit a on, where T says so, the first i of them. -/
def xb (F : Nat → Nat) (a T : Nat) : Nat → Nat → Nat
  | 0 => F
  | i + 1 => fun p => if T.testBit i = true ∧ p = (a + i) / 8 then xb F a T i p ^^^ (128 >>> ((a + i) % 8)) else xb F a T i p
theorem one_bit (r j : Nat) (hr : r < 8) (hj : j < 8) : (128 >>> r).testBit (7 - j) = decide (j = r) := by
  obtain rfl | rfl | rfl | rfl | rfl | rfl | rfl | rfl : r = 0 ∨ r = 1 ∨ r = 2 ∨ r = 3 ∨ r = 4 ∨ r = 5 ∨ r = 6 ∨ r = 7 := by omega
  all_goals (obtain rfl | rfl | rfl | rfl | rfl | rfl | rfl | rfl : j = 0 ∨ j = 1 ∨ j = 2 ∨ j = 3 ∨ j = 4 ∨ j = 5 ∨ j = 6 ∨ j = 7 := by omega)
  all_goals decide
def dq (a T J q : Nat) : Bool := decide (a ≤ q) && (decide (q < a + J) && T.testBit (q - a))
theorem xb_bit (F : Nat → Nat) (a T : Nat) : ∀ i q, (bitA F q != bitA (xb F a T i) q) = dq a T i q
  | 0, q => by
    show (bitA F q != bitA F q) = _
    unfold dq
    rw [show decide (q < a + 0) = decide (q < a) by simp]
    by_cases h : a ≤ q
    · rw [decide_eq_false (p := q < a) (by omega)]; simp
    · rw [decide_eq_false h]; simp
  | i + 1, q => by
    have ih := xb_bit F a T i q
    by_cases h : T.testBit i = true ∧ q / 8 = (a + i) / 8
    · have e : bitA (xb F a T (i + 1)) q = (bitA (xb F a T i) q != decide (q % 8 = (a + i) % 8)) := by
        show (xb F a T (i + 1) (q / 8)).testBit (7 - q % 8) = _
        show (if T.testBit i = true ∧ q / 8 = (a + i) / 8 then xb F a T i (q / 8) ^^^ (128 >>> ((a + i) % 8)) else xb F a T i (q / 8)).testBit (7 - q % 8) = _
        rw [if_pos h, Nat.testBit_xor, one_bit _ _ (by omega) (by omega)]; rfl
      rw [e]
      have e2 : (bitA F q != (bitA (xb F a T i) q != decide (q % 8 = (a + i) % 8))) = (dq a T i q != decide (q = a + i)) := by
        rw [← ih, show decide (q % 8 = (a + i) % 8) = decide (q = a + i) by rw [decide_eq_decide]; omega]
        cases bitA F q <;> cases bitA (xb F a T i) q <;> cases decide (q = a + i) <;> rfl
      rw [e2]
      unfold dq
      by_cases hq : q = a + i
      · subst hq
        rw [decide_eq_true (p := a ≤ a + i) (by omega), decide_eq_false (p := a + i < a + i) (by omega), decide_eq_true (p := a + i < a + (i + 1)) (by omega), show a + i - a = i by omega, h.1]; simp
      · rw [decide_eq_false hq, show decide (q < a + (i + 1)) = decide (q < a + i) by rw [decide_eq_decide]; omega]; simp
    · have e : bitA (xb F a T (i + 1)) q = bitA (xb F a T i) q := by
        show (if T.testBit i = true ∧ q / 8 = (a + i) / 8 then xb F a T i (q / 8) ^^^ (128 >>> ((a + i) % 8)) else xb F a T i (q / 8)).testBit (7 - q % 8) = _
        rw [if_neg h]; rfl
      rw [e, ih]
      unfold dq
      by_cases hq : q = a + i
      · have hT : T.testBit i = false := by
          cases hh : T.testBit i
          · rfl
          · exact absurd ⟨hh, by rw [hq]⟩ h
        subst hq
        rw [show a + i - a = i by omega, hT]; simp
      · rw [show decide (q < a + (i + 1)) = decide (q < a + i) by rw [decide_eq_decide]; omega]
theorem xb_same (F : Nat → Nat) (a T p : Nat) : ∀ i, (∀ j, j < i → (a + j) / 8 = p → T.testBit j = false) → xb F a T i p = F p
  | 0, _ => rfl
  | i + 1, h => by
    show (if T.testBit i = true ∧ p = (a + i) / 8 then _ else xb F a T i p) = _
    rw [if_neg (by rintro ⟨h1, h2⟩; rw [h i (by omega) h2.symm] at h1; cases h1)]
    exact xb_same F a T p i fun j hj => h j (by omega)
theorem xb_lt (F : Nat → Nat) (a T : Nat) (hF : ∀ p, F p < 256) : ∀ i p, xb F a T i p < 256
  | 0, p => hF p
  | i + 1, p => by
    show (if T.testBit i = true ∧ p = (a + i) / 8 then xb F a T i p ^^^ (128 >>> ((a + i) % 8)) else xb F a T i p) < 256
    split
    · refine Nat.xor_lt_two_pow (n := 8) (xb_lt F a T hF i p) ?_
      exact Nat.lt_of_le_of_lt (Nat.shiftRight_le _ _) (by decide)
    · exact xb_lt F a T hF i p
/-- A burst that a code does not see is none. -/
theorem burst_none (W p : Nat) (hW : 0 < W) (hp : p % 2 = 1) (hpl : p < 2 ^ W) (a T J off N : Nat) (hJ : min N (a + J - off) - min N (a - off) ≤ W)
    (h : crc W p 0 (tb (fun q => dq a T J (off + q)) N) = 0) : ∀ q, q < N → a ≤ off + q → off + q < a + J → T.testBit (off + q - a) = false := by
  have e : tb (fun q => dq a T J (off + q)) N = zer (min N (a - off)) ++ tb (fun q => dq a T J (off + (min N (a - off) + q))) (min N (a + J - off) - min N (a - off)) ++ zer (N - min N (a + J - off)) := by
    symm
    refine tab_ext false (by unfold zer; simp only [List.length_append, List.length_replicate, tab_len]; omega) fun i hi => ?_
    unfold zer
    simp only [g_app, g_rep, g_tab, List.length_append, List.length_replicate, tab_len]
    unfold dq
    by_cases h1 : i < min N (a - off)
    · rw [if_pos (by omega), if_pos h1, if_pos h1, decide_eq_false (p := a ≤ off + i) (by omega)]; rfl
    · by_cases h2 : i < min N (a + J - off)
      · rw [if_pos (by omega), if_neg h1, if_pos (by omega), show min N (a - off) + (i - min N (a - off)) = i by omega]
      · rw [if_neg (by omega)]
        rw [decide_eq_false (p := off + i < a + J) (by omega)]
        simp
  rw [e] at h
  have hb := burst_seen W p hW hp hpl _ _ _ (by rw [tab_len]; exact hJ) h
  intro q hq h1 h2
  have hk : q - min N (a - off) < min N (a + J - off) - min N (a - off) := by omega
  have hg := congrArg (fun l => List.getD l (q - min N (a - off)) false) hb
  simp only [g_tab, g_rep, tab_len] at hg
  rw [if_pos hk, if_pos hk, show off + (min N (a - off) + (q - min N (a - off))) = off + q by omega] at hg
  unfold dq at hg
  rw [decide_eq_true h1, decide_eq_true h2] at hg
  simpa using hg
theorem crc_tb (W p : Nat) (F G : Nat → Nat) (n : Nat) (h1 : crc W p 0 (bst F n) = 0) (h2 : crc W p 0 (bst G n) = 0) : crc W p 0 (tb (fun q => bitA F q != bitA G q) (8 * n)) = 0 := by
  have h := crc_xor W p (bst F n) (bst G n) 0 0 (by rw [bst_len, bst_len])
  rw [h1, h2, bst_tb, bst_tb, zip_tb] at h
  simpa using h
theorem ba_ext {s t : ByteArray} (hz : s.size = t.size) (h : ∀ i, i < s.size → byteAt s i = byteAt t i) : s = t := by
  refine bytL_inj (row_ext 0 (by rw [bytL_len, bytL_len, hz]) fun i hi => ?_)
  rw [bytL_len] at hi
  rw [← byteAt_bytL hi, ← byteAt_bytL (by omega), h i hi]
theorem aheadT_seal (B : ByteArray) : aheadT (sealT B) = B := by
  unfold aheadT
  rw [sealT_size, show B.size + 4 - 4 = B.size by omega]
  refine bytL_inj ?_
  rw [bytL_extract]
  unfold sealT
  rw [bytL_app, List.drop_zero, Nat.sub_zero]
  exact List.take_left' (bytL_len B)
theorem never (s s' : ByteArray) (a T J : Nat) (hz : s'.size = s.size) (hg : good s) (hz2 : s.size = byteAt s 2 + 9) (hb : ∀ p, p < s.size → byteAt s' p = xb (byteAt s) a T J p)
    (hJ : J ≤ (if a < 40 then 16 else 32)) : good s' ↔ ∀ j, j < J → a + j < 8 * s.size → T.testBit j = false := by
  constructor
  · intro hg'
    have h5 : ∀ i, i < 5 → byteAt s' i = xb (byteAt s) a T J i := fun i hi => hb i (by have := hg.1; omega)
    have c1 := hd_crc s hg.2.1
    have c2 := hd_crc s' hg'.2.1
    rw [bst_congr h5] at c2
    have c3 := crc_tb 16 4129 _ _ 5 c1 c2
    have e3 : tb (fun q => bitA (byteAt s) q != bitA (xb (byteAt s) a T J) q) (8 * 5) = tb (fun q => dq a T J (0 + q)) 40 := tab_congr fun q _ => by rw [xb_bit, Nat.zero_add]
    rw [e3] at c3
    have n1 := burst_none 16 4129 (by decide) (by decide) (by decide) a T J 0 40 (by split at hJ <;> omega) c3
    have head : ∀ j, j < J → a + j < 40 → T.testBit j = false := fun j hj h => by
      have := n1 (a + j) h (by omega) (by omega)
      rwa [show 0 + (a + j) - a = j by omega] at this
    have same : ∀ p, p < 5 → byteAt s' p = byteAt s p := fun p hp => by
      rw [h5 p hp]
      exact xb_same _ _ _ _ _ fun j hj hq => head j hj (by omega)
    have z' : byteAt s' 2 = byteAt s 2 := same 2 (by decide)
    have hY : (bodyX s).size = byteAt s 2 + 4 := by unfold bodyX; rw [ByteArray.size_extract]; omega
    have hY' : (bodyX s').size = byteAt s 2 + 4 := by unfold bodyX; rw [ByteArray.size_extract, z']; omega
    have d1 : crc 32 79764919 0 (bst (byteAt (bodyX s)) (byteAt s 2 + 4)) = 0 := by
      have := seal_crc (aheadT (bodyX s))
      rw [hg.2.2.2, show (aheadT (bodyX s)).size = byteAt s 2 by unfold aheadT; rw [ByteArray.size_extract, hY]; omega] at this
      exact this
    have d2 : crc 32 79764919 0 (bst (byteAt (bodyX s')) (byteAt s 2 + 4)) = 0 := by
      have := seal_crc (aheadT (bodyX s'))
      rw [hg'.2.2.2, show (aheadT (bodyX s')).size = byteAt s 2 by unfold aheadT; rw [ByteArray.size_extract, hY']; omega] at this
      exact this
    have f1 : ∀ i, i < byteAt s 2 + 4 → byteAt (bodyX s) i = byteAt s (5 + i) := fun i hi => byteAt_ext s 5 _ (by omega) (by omega)
    have f2 : ∀ i, i < byteAt s 2 + 4 → byteAt (bodyX s') i = xb (byteAt s) a T J (5 + i) := fun i hi => by
      unfold bodyX
      rw [byteAt_ext s' 5 _ (by omega) (by omega), hb (5 + i) (by omega)]
    rw [bst_congr f1] at d1
    rw [bst_congr f2] at d2
    have d3 := crc_tb 32 79764919 _ _ _ d1 d2
    have e4 : tb (fun q => bitA (fun i => byteAt s (5 + i)) q != bitA (fun i => xb (byteAt s) a T J (5 + i)) q) (8 * (byteAt s 2 + 4)) = tb (fun q => dq a T J (40 + q)) (8 * (byteAt s 2 + 4)) := tab_congr fun q _ => by
      rw [← xb_bit (byteAt s)]
      unfold bitA
      rw [show (40 + q) / 8 = 5 + q / 8 by omega, show (40 + q) % 8 = q % 8 by omega]
    rw [e4] at d3
    have n2 := burst_none 32 79764919 (by decide) (by decide) (by decide) a T J 40 _ (by split at hJ <;> omega) d3
    intro j hj hl
    by_cases h40 : a + j < 40
    · exact head j hj h40
    · have := n2 (a + j - 40) (by omega) (by omega) (by omega)
      rwa [show 40 + (a + j - 40) - a = j by omega] at this
  · intro h
    have : s' = s := ba_ext hz fun i hi => by
      rw [hb i (by omega)]
      exact xb_same _ _ _ _ _ fun j hj hq => h j hj (by omega)
    rw [this]; exact hg
end Go.Proofs.Ytdkogicikhlicaa

set_option linter.unusedVariables false
set_option linter.unusedSimpArgs false
namespace Go.Proofs.Ytdkogicikhlicaa
open Go Go.Fw
theorem pack_bytL (k n : Int) (m : Bool) (b : ByteArray) (hk : 1 ≤ k) (hk2 : k ≤ 15) (hn : 0 ≤ n) (hn2 : n ≤ 255) (hb : b.size ≤ 240) :
    bytL (packT k n m b) = [h0 k m, n, (b.size : Int), ((sm16 (h0 k m) n b.size / 256 : Nat) : Int), ((sm16 (h0 k m) n b.size % 256 : Nat) : Int)] ++ bytL (sealT b) := by
  unfold packT
  rw [bytL_app, bytL_tx]
  intro x hx
  have hs := crc16_lt (tx [h0 k m, n, (b.size : Int)])
  have h0b : 0 ≤ h0 k m ∧ h0 k m < 256 := by unfold h0; cases m <;> simp <;> omega
  simp only [List.mem_cons, List.not_mem_nil, or_false] at hx
  rcases hx with rfl | rfl | rfl | rfl | rfl
  · exact h0b
  · omega
  · omega
  · unfold sm16; omega
  · omega
theorem pack_good (k n : Int) (m : Bool) (b : ByteArray) (hk : 1 ≤ k) (hk2 : k ≤ 15) (hn : 0 ≤ n) (hn2 : n ≤ 255) (hb : b.size ≤ 240) :
    good (packT k n m b) ∧ (packT k n m b).size = byteAt (packT k n m b) 2 + 9 ∧ (packT k n m b).size = b.size + 9 := by
  have hL := pack_bytL k n m b hk hk2 hn hn2 hb
  generalize packT k n m b = s at *
  have hz : s.size = b.size + 9 := by rw [← bytL_len, hL, List.length_append, bytL_len, sealT_size]; simp only [List.length_cons, List.length_nil]; omega
  have g : ∀ i, i < 5 → (byteAt s i : Int) = [h0 k m, n, (b.size : Int), ((sm16 (h0 k m) n b.size / 256 : Nat) : Int), ((sm16 (h0 k m) n b.size % 256 : Nat) : Int)].getD i 0 := fun i hi => by
    rw [byteAt_bytL (by omega), hL, g_app, if_pos (by simpa using hi)]
  have b0 : (byteAt s 0 : Int) = h0 k m := g 0 (by decide)
  have b1 : (byteAt s 1 : Int) = n := g 1 (by decide)
  have b2 : (byteAt s 2 : Int) = b.size := g 2 (by decide)
  have b3 : (byteAt s 3 : Int) = ((sm16 (h0 k m) n b.size / 256 : Nat) : Int) := g 3 (by decide)
  have b4 : (byteAt s 4 : Int) = ((sm16 (h0 k m) n b.size % 256 : Nat) : Int) := g 4 (by decide)
  have b2' : byteAt s 2 = b.size := by omega
  have hX : bodyX s = sealT b := by
    refine bytL_inj ?_
    unfold bodyX
    rw [bytL_extract, hL, b2']
    show (bytL (sealT b)).take _ = _
    exact List.take_of_length_le (by rw [bytL_len, sealT_size]; omega)
  refine ⟨⟨by omega, ⟨?_, ?_, ?_, ?_, by omega⟩, by omega, by rw [hX, aheadT_seal]⟩, by omega, hz⟩
  · rw [b0, b1, b2]; omega
  · rw [b0, b1, b2]; omega
  · unfold h0 at b0; cases m <;> simp at b0 <;> omega
  · unfold h0 at b0; cases m <;> simp at b0 <;> omega
noncomputable def c22 : Code := (Try.f22.body).getD .skip
def cutB (b : ByteArray) : ByteArray := b.extract 0 (min (b.size : Int) 240).toNat
set_option maxHeartbeats 0 in
set_option maxRecDepth 100000 in
theorem fit_f (k n : Int) (m : Bool) (b : ByteArray) (hk : 0 ≤ k) (hk2 : k ≤ 255) (hb : b.size ≤ 9223372036854775807) : Fits Try.prog 22 ⟨[frA k n m b], [], [numOut [] (frA (1 + k % 15) n m (cutB b))]⟩ := by
  have e1 : IntKind.u8.wrap (1 + k % 15) = 1 + k % 15 := by rw [u8wrap]; omega
  refine fits_of_cell (C := cfgs 0) (c := c22) (t := 2) (ty := 23) tokL mixedL (fun _ => none) (fun _ => none)
    Try.func22 (by kernel_rfl) (by kernel_rfl) (by kernel_rfl) (by kernel_rfl) rfl ?_
  unfold frA
  conv => whnf
  repeat (first
    | (refine And.intro ?_ ?_; (focus (first | omega | decide | exact EqOk.mk (by kernel_rfl) (by kernel_rfl) (by kernel_rfl) | exact Int.natCast_nonneg _ | ((repeat' refine And.intro ?_ ?_) <;> first | omega | exact Int.natCast_nonneg _ | (simp only [i64max, u8max, u16max, u32max, u64max]; omega) | (simp only [mulSz_eq, Cont.len, colsLen, Col.len, List.length_cons, List.length_nil, List.length_replicate, List.length_append]; first | done | omega) | (simp [mulSz, Cont.len, bne]; first | done | omega)))); conv => whnf)
    | (refine tst_in ?_ ?_; (focus (intro h_; exfalso; first | omega | ((try simp only [decide_eq_true_eq, decide_eq_false_iff_not] at h_); omega) | (simp [mulSz, Cont.len, bne] at h_; first | done | omega))); intro _; conv => whnf)
    | (refine tst_in ?_ ?_; rotate_left; (focus (intro h_; exfalso; first | omega | ((try simp only [decide_eq_true_eq, decide_eq_false_iff_not] at h_); omega) | (simp [mulSz, Cont.len, bne] at h_; first | done | omega))); intro _; conv => whnf)
    | (refine ⟨0, (show _ = _ by omega), ?_⟩; conv => whnf))
  rw [e1]
  conv => whnf
  repeat (first
    | (refine And.intro ?_ ?_; (focus (first | omega | decide | exact EqOk.mk (by kernel_rfl) (by kernel_rfl) (by kernel_rfl) | exact Int.natCast_nonneg _ | ((repeat' refine And.intro ?_ ?_) <;> first | omega | exact Int.natCast_nonneg _ | (simp only [i64max, u8max, u16max, u32max, u64max]; omega) | (simp only [mulSz_eq, Cont.len, colsLen, Col.len, List.length_cons, List.length_nil, List.length_replicate, List.length_append]; first | done | omega) | (simp [mulSz, Cont.len, bne]; first | done | omega)))); conv => whnf)
    | (refine tst_in ?_ ?_; (focus (intro h_; exfalso; first | omega | ((try simp only [decide_eq_true_eq, decide_eq_false_iff_not] at h_); omega) | (simp [mulSz, Cont.len, bne] at h_; first | done | omega))); intro _; conv => whnf)
    | (refine tst_in ?_ ?_; rotate_left; (focus (intro h_; exfalso; first | omega | ((try simp only [decide_eq_true_eq, decide_eq_false_iff_not] at h_); omega) | (simp [mulSz, Cont.len, bne] at h_; first | done | omega))); intro _; conv => whnf)
    | (refine ⟨0, (show _ = _ by omega), ?_⟩; conv => whnf))
  refine .inl ⟨(), [], ?_⟩
  conv => whnf
  repeat' (first | exact True.intro | rfl | refine And.intro ?_ ?_)
  all_goals (conv => whnf)
  repeat' (first | exact True.intro | rfl | refine And.intro ?_ ?_)
  all_goals (try omega)
def anyT (T : Nat) : Nat → Bool
  | 0 => false
  | i + 1 => anyT T i || T.testBit i
theorem anyT_no (T : Nat) : ∀ i, anyT T i = false ↔ ∀ j, j < i → T.testBit j = false
  | 0 => by simp [anyT]
  | i + 1 => by
    simp only [anyT, Bool.or_eq_false_iff, anyT_no T i]
    constructor
    · rintro ⟨h1, h2⟩ j hj
      by_cases h : j < i
      · exact h1 j h
      · rw [show j = i by omega]; exact h2
    · intro h
      exact ⟨fun j hj => h j (by omega), h i (by omega)⟩
noncomputable def c8 : Code := (Try.f8.body).getD .skip
def xbL (s : ByteArray) (a T i : Nat) : List Int := tb (fun p => ((xb (byteAt s) a T i p : Nat) : Int)) s.size
def st8 (s : ByteArray) (a T w i z : Nat) : St := ⟨slotsAt 92 [(1, .int .i64 a), (2, .int .u32 T), (9, .int .i64 w), (10, .slice 0 0 s.size (s.size + z)), (11, .bool (anyT T i)), (12, .int .i64 i)], [.seg true (.ints .u8 (xbL s a T i ++ List.replicate z 0))]⟩
def inv8 (s : ByteArray) (a T w J : Nat) : LInv := ⟨Nat × Nat, fun x => st8 s a T w x.1 x.2, fun x => x.1 ≤ J, fun x => J - x.1⟩
theorem xb_set (s : ByteArray) (a T i z : Nat) (x : Int) (hp : (a + i) / 8 < s.size) (ht : T.testBit i = true) (hx : x = ((xb (byteAt s) a T i ((a + i) / 8) ^^^ (128 >>> ((a + i) % 8)) : Nat) : Int)) :
    (xbL s a T i ++ List.replicate z 0).set (0 + (a + i) / 8) x = xbL s a T (i + 1) ++ List.replicate z 0 := by
  unfold xbL
  refine row_ext 0 (by simp [tab_len]) fun p hp2 => ?_
  simp only [List.length_set, List.length_append, tab_len, List.length_replicate] at hp2
  rw [g_set, g_app, g_app, g_tab, g_tab, tab_len, tab_len, List.length_append, tab_len]
  by_cases h1 : 0 + (a + i) / 8 = p
  · subst h1
    rw [if_pos ⟨rfl, by omega⟩, if_pos (by omega), if_pos (by omega), hx]
    rw [show 0 + (a + i) / 8 = (a + i) / 8 by omega]
    show _ = ((if T.testBit i = true ∧ (a + i) / 8 = (a + i) / 8 then _ else _ : Nat) : Int)
    rw [if_pos ⟨ht, rfl⟩]
  · rw [if_neg (by omega)]
    by_cases h2 : p < s.size
    · rw [if_pos h2, if_pos h2, if_pos h2, if_pos h2]
      show _ = ((if T.testBit i = true ∧ p = (a + i) / 8 then _ else xb (byteAt s) a T i p : Nat) : Int)
      rw [if_neg (by omega)]
    · rw [if_neg h2, if_neg h2]
theorem xb_skip (s : ByteArray) (a T i : Nat) (ht : T.testBit i = false) : xbL s a T (i + 1) = xbL s a T i := by
  unfold xbL
  refine tab_congr fun p _ => ?_
  show ((if T.testBit i = true ∧ p = (a + i) / 8 then _ else xb (byteAt s) a T i p : Nat) : Int) = _
  rw [if_neg (by rw [ht]; rintro ⟨h, _⟩; cases h)]
end Go.Proofs.Ytdkogicikhlicaa

set_option linter.unusedVariables false
set_option linter.unusedSimpArgs false
namespace Go.Proofs.Ytdkogicikhlicaa
open Go Go.Fw
theorem xbT (s : ByteArray) (a T J : Nat) : (tx (xbL s a T J)).size = s.size ∧ ∀ p, p < s.size → byteAt (tx (xbL s a T J)) p = xb (byteAt s) a T J p := by
  have hl : (xbL s a T J).length = s.size := tab_len _ _
  have hz : (tx (xbL s a T J)).size = s.size := by rw [tx_size, hl]
  refine ⟨hz, fun p hp => ?_⟩
  have hb : bytL (tx (xbL s a T J)) = xbL s a T J := bytL_tx _ (by
    intro x hx
    obtain ⟨n, hn, rfl⟩ := List.getElem_of_mem hx
    have e : (xbL s a T J)[n] = (xbL s a T J).getD n 0 := by rw [List.getD_eq_getElem?_getD, List.getElem?_eq_getElem hn]; rfl
    rw [e]
    unfold xbL
    have := xb_lt (byteAt s) a T (fun p => byteAt_lt s p) J n
    rw [g_tab, if_pos (by rw [← hl]; exact hn)]
    omega)
  have h : (byteAt (tx (xbL s a T J)) p : Int) = ((xb (byteAt s) a T J p : Nat) : Int) := by
    rw [byteAt_bytL (by omega), hb]
    unfold xbL
    rw [g_tab, if_pos hp]
  omega
theorem cutX (s : ByteArray) (a T J z n : Nat) (hn : n = s.size) : (⟨⟨List.map (fun n => UInt8.ofNat n.toNat) (List.take n (List.drop 0 (xbL s a T J ++ List.replicate z 0)))⟩⟩ : ByteArray) = tx (xbL s a T J) := by
  have hl : (xbL s a T J).length = s.size := tab_len _ _
  unfold tx
  rw [List.drop_zero, List.take_left' (by omega)]
theorem sh_one (e : Int) (r : Nat) (he : e.toNat = r) (hr : r < 8) : (128 : Int) / (2 : Int) ^ (min e.toNat (IntKind.bits .u8)) = ((128 >>> r : Nat) : Int) := by
  rw [he]
  obtain rfl | rfl | rfl | rfl | rfl | rfl | rfl | rfl : r = 0 ∨ r = 1 ∨ r = 2 ∨ r = 3 ∨ r = 4 ∨ r = 5 ∨ r = 6 ∨ r = 7 := by omega
  all_goals rfl
theorem sh_at (T i : Nat) (hi : i < 32) : (T : Int) / 2 ^ (min (i : Int).toNat (IntKind.bits .u32)) = ((T / 2 ^ i : Nat) : Int) := by
  rw [Int.toNat_natCast, Nat.min_eq_left (by show i ≤ 32; omega), Int.natCast_ediv, Int.natCast_pow]; rfl
theorem bit_at' (T i : Nat) : decide (((((T / 2 ^ i : Nat) : Int).toNat &&& (1 : Int).toNat : Nat) : Int) = 1) = T.testBit i := by
  have e2 : (((T / 2 ^ i : Nat) : Int).toNat &&& (1 : Int).toNat) = (T / 2 ^ i) % 2 := Nat.and_one_is_mod _
  rw [e2, Nat.testBit_eq_decide_div_mod_eq]
  rw [decide_eq_decide]; omega
def cut8 (s : ByteArray) (a T w : Nat) : LInv := ⟨Unit, fun _ => ⟨slotsAt 92 [(1, .int .i64 a), (2, .int .u32 T), (7, .str s), (9, .int .i64 w)], []⟩, fun _ => True, fun _ => 0⟩
set_option maxHeartbeats 0 in
set_option maxRecDepth 100000 in
theorem law_f (k n : Int) (m : Bool) (b : ByteArray) (x1 : Int) (T : Nat) (hk : 0 ≤ k) (hk2 : k ≤ 255) (hn : 0 ≤ n) (hn2 : n ≤ 255) (hb : b.size ≤ 9223372036854775807) (hT : T < 4294967296) (hx : -9223372036854775808 ≤ x1 ∧ x1 ≤ 9223372036854775807) :
    Fits Try.prog 8 ⟨[frA k n m b, .int .i64 x1, .int .u32 T], [], [numOut [] (.bool true)]⟩ := by
  have FI := fit_f k n m b hk hk2 hb
  have hcb : (cutB b).size ≤ 240 := by unfold cutB; rw [ByteArray.size_extract]; omega
  obtain ⟨hg, hz2, hz⟩ := pack_good (1 + k % 15) n m (cutB b) (by omega) (by omega) hn hn2 hcb
  have PA := Pack_y (1 + k % 15) n m (cutB b) (by unfold mayB; simp; omega) hn hn2
  generalize packT (1 + k % 15) n m (cutB b) = s at *
  have hw1 : IntKind.u64.wrap x1 = x1 % 18446744073709551616 := by unfold IntKind.wrap; simp [IntKind.bits, IntKind.signed]
  have hw2 : IntKind.u64.wrap (8 * (s.size : Int)) = 8 * (s.size : Int) := by unfold IntKind.wrap; simp [IntKind.bits, IntKind.signed]; omega
  obtain ⟨a, ha⟩ : ∃ a : Nat, (a : Int) = x1 % 18446744073709551616 % (8 * (s.size : Int)) := ⟨(x1 % 18446744073709551616 % (8 * (s.size : Int))).toNat, by
    have : 0 ≤ x1 % 18446744073709551616 % (8 * (s.size : Int)) := Int.emod_nonneg _ (by omega)
    omega⟩
  have ha2 : a < 8 * s.size := by
    have : x1 % 18446744073709551616 % (8 * (s.size : Int)) < 8 * (s.size : Int) := Int.emod_lt_of_pos _ (by omega)
    omega
  have hw3 : IntKind.i64.wrap (x1 % 18446744073709551616 % (8 * (s.size : Int))) = (a : Int) := by rw [← ha]; exact wrap_i64 (by omega)
  obtain ⟨w, hw⟩ : ∃ w, w = if a < 40 then 16 else 32 := ⟨_, rfl⟩
  have hw32 : w ≤ 32 := by rw [hw]; split <;> omega
  obtain ⟨J, hJ⟩ : ∃ J, J = min w (8 * s.size - a) := ⟨_, rfl⟩
  have hlt := xb_lt (byteAt s) a T (fun p => byteAt_lt s p)
  obtain ⟨hz', hby⟩ := xbT s a T J
  have nv := never s (tx (xbL s a T J)) a T J hz' hg hz2 hby (by rw [← hw]; omega)
  have nv2 : good (tx (xbL s a T J)) ↔ anyT T J = false := by
    rw [nv, anyT_no]
    exact ⟨fun h j hj => h j hj (by omega), fun h j hj _ => h j hj⟩
  obtain ⟨X, hX, fin⟩ : ∃ X, ((good (tx (xbL s a T J)) ∧ X = goodV (tx (xbL s a T J))) ∨ (¬ good (tx (xbL s a T J)) ∧ X = badV)) ∧ (good (tx (xbL s a T J)) ↔ anyT T J = false) := by
    by_cases h : good (tx (xbL s a T J))
    · exact ⟨_, .inl ⟨h, rfl⟩, nv2⟩
    · exact ⟨_, .inr ⟨h, rfl⟩, nv2⟩
  have PF := Parse_f (tx (xbL s a T J)) (by omega) X hX
  refine fits_of_body (C := cfgs 0) (c := c8) (ts := [6]) tokL mixedL (fun | 13 => some (inv8 s a T w J) | _ => none) (fun | 10 => some (cut8 s a T w) | _ => none)
    Try.func8 (by kernel_rfl) (by kernel_rfl) (by kernel_rfl) (by kernel_rfl) rfl ?_
  unfold frA at FI PA ⊢
  conv => whnf
  refine ⟨_, [], awake_f, ?_⟩
  conv => whnf
  iterate 2
   refine And.intro ?_ ?_
   focus
    conv => whnf
    repeat' (first | exact True.intro | rfl | refine And.intro ?_ ?_ | omega)
    all_goals (conv => whnf)
    all_goals (try (first | rfl | omega | (simp; done)))
  conv => whnf
  refine ⟨?_, True.intro⟩
  intro _ _
  conv => whnf
  conv => whnf
  refine ⟨_, [], FI, ?_⟩
  conv => whnf
  iterate 2
   refine And.intro ?_ ?_
   focus
    conv => whnf
    repeat' (first | exact True.intro | rfl | refine And.intro ?_ ?_ | omega)
    all_goals (conv => whnf)
    all_goals (try (first | rfl | omega | (simp; done)))
  conv => whnf
  refine ⟨?_, True.intro⟩
  intro _ _
  conv => whnf
  conv => whnf
  refine ⟨_, [], PA, ?_⟩
  conv => whnf
  iterate 2
   refine And.intro ?_ ?_
   focus
    conv => whnf
    repeat' (first | exact True.intro | rfl | refine And.intro ?_ ?_ | omega)
    all_goals (conv => whnf)
    all_goals (try (first | rfl | omega | (simp; done)))
  conv => whnf
  refine ⟨?_, True.intro⟩
  intro _ _
  conv => whnf
  conv => whnf
  repeat (first
    | (refine And.intro ?_ ?_; (focus (first | omega | decide | exact EqOk.mk (by kernel_rfl) (by kernel_rfl) (by kernel_rfl) | exact Int.natCast_nonneg _ | ((repeat' refine And.intro ?_ ?_) <;> first | omega | exact Int.natCast_nonneg _ | (simp only [i64max, u8max, u16max, u32max, u64max]; omega) | (simp only [mulSz_eq, Cont.len, colsLen, Col.len, List.length_cons, List.length_nil, List.length_replicate, List.length_append]; first | done | omega) | (simp [mulSz, Cont.len, bne]; first | done | omega)))); conv => whnf)
    | (refine tst_in ?_ ?_; (focus (intro h_; exfalso; first | omega | ((try simp only [decide_eq_true_eq, decide_eq_false_iff_not] at h_); omega) | (simp [mulSz, Cont.len, bne] at h_; first | done | omega))); intro _; conv => whnf)
    | (refine tst_in ?_ ?_; rotate_left; (focus (intro h_; exfalso; first | omega | ((try simp only [decide_eq_true_eq, decide_eq_false_iff_not] at h_); omega) | (simp [mulSz, Cont.len, bne] at h_; first | done | omega))); intro _; conv => whnf)
    | (refine ⟨0, (show _ = _ by omega), ?_⟩; conv => whnf))
  rw [hw1, hw2]
  conv => whnf
  repeat (first
    | (refine And.intro ?_ ?_; (focus (first | omega | decide | exact EqOk.mk (by kernel_rfl) (by kernel_rfl) (by kernel_rfl) | exact Int.natCast_nonneg _ | ((repeat' refine And.intro ?_ ?_) <;> first | omega | exact Int.natCast_nonneg _ | (simp only [i64max, u8max, u16max, u32max, u64max]; omega) | (simp only [mulSz_eq, Cont.len, colsLen, Col.len, List.length_cons, List.length_nil, List.length_replicate, List.length_append]; first | done | omega) | (simp [mulSz, Cont.len, bne]; first | done | omega)))); conv => whnf)
    | (refine tst_in ?_ ?_; (focus (intro h_; exfalso; first | omega | ((try simp only [decide_eq_true_eq, decide_eq_false_iff_not] at h_); omega) | (simp [mulSz, Cont.len, bne] at h_; first | done | omega))); intro _; conv => whnf)
    | (refine tst_in ?_ ?_; rotate_left; (focus (intro h_; exfalso; first | omega | ((try simp only [decide_eq_true_eq, decide_eq_false_iff_not] at h_); omega) | (simp [mulSz, Cont.len, bne] at h_; first | done | omega))); intro _; conv => whnf)
    | (refine ⟨0, (show _ = _ by omega), ?_⟩; conv => whnf))
  rw [hw3]
  conv => whnf
  have enter : ∀ z, tb (fun p => (byteAt s p : Int)) s.size ++ List.replicate z 0 = bytL s ++ List.replicate z 0 := fun z => by
    congr 1
    refine (row_ext 0 (by rw [tab_len, bytL_len]) fun i hi => ?_)
    rw [tab_len] at hi
    rw [g_tab, if_pos hi, byteAt_bytL hi]
  refine ⟨?_, ?_⟩
  · skip
    conv => whnf
    refine tst_in (fun h4 => ?_) (fun h4' => ?_)
    · skip
      have h4 : 40 ≤ a := by rw [dLe_eq] at h4; simp at h4; omega
      have hwv : w = 32 := by rw [hw, if_neg (by omega)]
      conv => whnf
      refine ⟨[], (), ?_, True.intro⟩
      show stLe _ _ ((cut8 s a T w).st ()) _
      conv => whnf
      repeat' (first | exact True.intro | rfl | refine And.intro ?_ ?_)
      all_goals (conv => whnf)
      repeat' (first | exact True.intro | rfl | refine And.intro ?_ ?_)
      all_goals (try omega)
    · skip
      have h4 : ¬ 40 ≤ a := by rw [dLe_eq] at h4'; simp at h4'; omega
      have hwv : w = 16 := by rw [hw, if_pos (by omega)]
      conv => whnf
      refine ⟨[], (), ?_, True.intro⟩
      show stLe _ _ ((cut8 s a T w).st ()) _
      conv => whnf
      repeat' (first | exact True.intro | rfl | refine And.intro ?_ ?_)
      all_goals (conv => whnf)
      repeat' (first | exact True.intro | rfl | refine And.intro ?_ ?_)
      all_goals (try omega)
  · rintro ⟨⟩ _
    show forceSt ((cut8 s a T w).st ()) _
    conv => whnf
    intro z
    conv => whnf
    refine ⟨⟨[0], (0, z), ?_, Nat.zero_le _⟩, ?_⟩
    · show stLe _ _ (st8 s a T w 0 z) _
      conv => whnf
      repeat' (first | exact True.intro | rfl | refine And.intro ?_ ?_)
      all_goals (conv => whnf)
      repeat' (first | exact True.intro | rfl | refine And.intro ?_ ?_)
      all_goals (try omega)
      exact enter z
    · intro ⟨i, z⟩ (hi : i ≤ J)
      show forceSt (st8 s a T w i z) _
      have hxl : (xbL s a T i).length = s.size := tab_len _ _
      conv => whnf
      refine tst_in (fun h5 => ?_) (fun h5' => ?_)
      focus
        have h5 : i < w := by simp at h5; omega
        conv => whnf
        repeat (first
          | (refine And.intro ?_ ?_; (focus (first | omega | decide | exact EqOk.mk (by kernel_rfl) (by kernel_rfl) (by kernel_rfl) | exact Int.natCast_nonneg _ | ((repeat' refine And.intro ?_ ?_) <;> first | omega | exact Int.natCast_nonneg _ | (simp only [i64max, u8max, u16max, u32max, u64max]; omega) | (simp only [mulSz_eq, Cont.len, colsLen, Col.len, List.length_cons, List.length_nil, List.length_replicate, List.length_append]; first | done | omega) | (simp [mulSz, Cont.len, bne]; first | done | omega)))); conv => whnf)
          | (refine tst_in ?_ ?_; (focus (intro h_; exfalso; first | omega | ((try simp only [decide_eq_true_eq, decide_eq_false_iff_not] at h_); omega) | (simp [mulSz, Cont.len, bne] at h_; first | done | omega))); intro _; conv => whnf)
          | (refine tst_in ?_ ?_; rotate_left; (focus (intro h_; exfalso; first | omega | ((try simp only [decide_eq_true_eq, decide_eq_false_iff_not] at h_); omega) | (simp [mulSz, Cont.len, bne] at h_; first | done | omega))); intro _; conv => whnf)
          | (refine ⟨0, (show _ = _ by omega), ?_⟩; conv => whnf))
        refine tst_in (fun h6 => ?_) (fun h6' => ?_)
        focus
          have h6 : a + i < 8 * s.size := by rw [dLt_eq] at h6; simp at h6; omega
          have hi1 : i + 1 ≤ J := by rw [hJ]; omega
          have hsh := sh_at T i (by omega)
          have hle : T / 2 ^ i ≤ T := Nat.div_le_self _ _
          have hbit := bit_at' T i
          generalize T / 2 ^ i = Ti at *
          conv => whnf
          rw [hsh]
          conv => whnf
          repeat (first
            | (refine And.intro ?_ ?_; (focus (first | omega | decide | exact EqOk.mk (by kernel_rfl) (by kernel_rfl) (by kernel_rfl) | exact Int.natCast_nonneg _ | ((repeat' refine And.intro ?_ ?_) <;> first | omega | exact Int.natCast_nonneg _ | (simp only [i64max, u8max, u16max, u32max, u64max]; omega) | (simp only [mulSz_eq, Cont.len, colsLen, Col.len, List.length_cons, List.length_nil, List.length_replicate, List.length_append, u32max]; first | done | omega) | (simp [mulSz, Cont.len, bne, u32max]; first | done | omega)))); conv => whnf)
            | (refine tst_in ?_ ?_; (focus (intro h_; exfalso; first | omega | ((try simp only [decide_eq_true_eq, decide_eq_false_iff_not] at h_); omega) | (simp [mulSz, Cont.len, bne, u32max] at h_; first | done | omega))); intro _; conv => whnf)
            | (refine tst_in ?_ ?_; rotate_left; (focus (intro h_; exfalso; first | omega | ((try simp only [decide_eq_true_eq, decide_eq_false_iff_not] at h_); omega) | (simp [mulSz, Cont.len, bne, u32max] at h_; first | done | omega))); intro _; conv => whnf)
            | (refine ⟨0, (show _ = _ by omega), ?_⟩; conv => whnf))
          rw [hbit]
          refine tst_in (fun h7 => ?_) (fun h7' => ?_)
          · skip
            have ep : (((a : Int) + (i : Int)) / 8).toNat = (a + i) / 8 := by omega
            have er : (((a : Int) + (i : Int)) % 8).toNat = (a + i) % 8 := by omega
            have e2 : 0 + (a + i) / 8 = (a + i) / 8 := by omega
            have hpS : (a + i) / 8 < s.size := by omega
            have ev : (xbL s a T i ++ List.replicate z 0).getD (0 + (a + i) / 8) 0 = ((xb (byteAt s) a T i ((a + i) / 8) : Nat) : Int) := by
              rw [e2, g_app, hxl, if_pos hpS]
              unfold xbL
              rw [g_tab, if_pos hpS]
            have esh : (128 : Int) / (2 : Int) ^ (min (((a : Int) + (i : Int)) % 8).toNat (IntKind.bits .u8)) = ((128 >>> ((a + i) % 8) : Nat) : Int) := sh_one _ _ er (by omega)
            have hv := hlt i ((a + i) / 8)
            have hd : 128 >>> ((a + i) % 8) < 256 := Nat.lt_of_le_of_lt (Nat.shiftRight_le _ _) (by decide)
            have hset := xb_set s a T i z
            conv => whnf
            repeat (first
              | (refine And.intro ?_ ?_; (focus (first | omega | decide | exact EqOk.mk (by kernel_rfl) (by kernel_rfl) (by kernel_rfl) | exact Int.natCast_nonneg _ | ((repeat' refine And.intro ?_ ?_) <;> first | omega | exact Int.natCast_nonneg _ | (simp only [i64max, u8max, u16max, u32max, u64max]; omega) | (simp only [mulSz_eq, Cont.len, colsLen, Col.len, List.length_cons, List.length_nil, List.length_replicate, List.length_append, hxl, List.length_append, List.length_replicate]; first | done | omega) | (simp [mulSz, Cont.len, bne, hxl, List.length_append, List.length_replicate]; first | done | omega)))); conv => whnf)
              | (refine tst_in ?_ ?_; (focus (intro h_; exfalso; first | omega | ((try simp only [decide_eq_true_eq, decide_eq_false_iff_not] at h_); omega) | (simp [mulSz, Cont.len, bne, hxl, List.length_append, List.length_replicate] at h_; first | done | omega))); intro _; conv => whnf)
              | (refine tst_in ?_ ?_; rotate_left; (focus (intro h_; exfalso; first | omega | ((try simp only [decide_eq_true_eq, decide_eq_false_iff_not] at h_); omega) | (simp [mulSz, Cont.len, bne, hxl, List.length_append, List.length_replicate] at h_; first | done | omega))); intro _; conv => whnf)
              | (refine ⟨0, (show _ = _ by omega), ?_⟩; conv => whnf))
            rw [ep, ev, esh]
            generalize hV : xb (byteAt s) a T i ((a + i) / 8) = V at *
            generalize hD : 128 >>> ((a + i) % 8) = D at *
            conv => whnf
            repeat (first
              | (refine And.intro ?_ ?_; (focus (first | omega | decide | exact EqOk.mk (by kernel_rfl) (by kernel_rfl) (by kernel_rfl) | exact Int.natCast_nonneg _ | ((repeat' refine And.intro ?_ ?_) <;> first | omega | exact Int.natCast_nonneg _ | (simp only [i64max, u8max, u16max, u32max, u64max]; omega) | (simp only [mulSz_eq, Cont.len, colsLen, Col.len, List.length_cons, List.length_nil, List.length_replicate, List.length_append, u8max]; first | done | omega) | (simp [mulSz, Cont.len, bne, u8max]; first | done | omega)))); conv => whnf)
              | (refine tst_in ?_ ?_; (focus (intro h_; exfalso; first | omega | ((try simp only [decide_eq_true_eq, decide_eq_false_iff_not] at h_); omega) | (simp [mulSz, Cont.len, bne, u8max] at h_; first | done | omega))); intro _; conv => whnf)
              | (refine tst_in ?_ ?_; rotate_left; (focus (intro h_; exfalso; first | omega | ((try simp only [decide_eq_true_eq, decide_eq_false_iff_not] at h_); omega) | (simp [mulSz, Cont.len, bne, u8max] at h_; first | done | omega))); intro _; conv => whnf)
              | (refine ⟨0, (show _ = _ by omega), ?_⟩; conv => whnf))
            rw [ep, hset (((V : Int).toNat ^^^ (D : Int).toNat : Nat) : Int) hpS h7 rfl]
            refine ⟨[0], (i + 1, z), ?_, hi1, ?_⟩
            · show stLe _ _ (st8 s a T w (i + 1) z) _
              conv => whnf
              repeat' (first | exact True.intro | rfl | refine And.intro ?_ ?_)
              all_goals (conv => whnf)
              repeat' (first | exact True.intro | rfl | refine And.intro ?_ ?_)
              all_goals (try omega)
              show (anyT T i || T.testBit i) = true
              rw [h7, Bool.or_true]
            · show J - (i + 1) < J - i; omega
          · skip
            conv => whnf
            repeat (first
              | (refine And.intro ?_ ?_; (focus (first | omega | decide | exact EqOk.mk (by kernel_rfl) (by kernel_rfl) (by kernel_rfl) | exact Int.natCast_nonneg _ | ((repeat' refine And.intro ?_ ?_) <;> first | omega | exact Int.natCast_nonneg _ | (simp only [i64max, u8max, u16max, u32max, u64max]; omega) | (simp only [mulSz_eq, Cont.len, colsLen, Col.len, List.length_cons, List.length_nil, List.length_replicate, List.length_append]; first | done | omega) | (simp [mulSz, Cont.len, bne]; first | done | omega)))); conv => whnf)
              | (refine tst_in ?_ ?_; (focus (intro h_; exfalso; first | omega | ((try simp only [decide_eq_true_eq, decide_eq_false_iff_not] at h_); omega) | (simp [mulSz, Cont.len, bne] at h_; first | done | omega))); intro _; conv => whnf)
              | (refine tst_in ?_ ?_; rotate_left; (focus (intro h_; exfalso; first | omega | ((try simp only [decide_eq_true_eq, decide_eq_false_iff_not] at h_); omega) | (simp [mulSz, Cont.len, bne] at h_; first | done | omega))); intro _; conv => whnf)
              | (refine ⟨0, (show _ = _ by omega), ?_⟩; conv => whnf))
            refine ⟨[0], (i + 1, z), ?_, hi1, ?_⟩
            · show stLe _ _ (st8 s a T w (i + 1) z) _
              conv => whnf
              repeat' (first | exact True.intro | rfl | refine And.intro ?_ ?_)
              all_goals (conv => whnf)
              repeat' (first | exact True.intro | rfl | refine And.intro ?_ ?_)
              all_goals (try omega)
              · show (anyT T i || T.testBit i) = anyT T i
                rw [h7', Bool.or_false]
              · exact (congrArg (· ++ List.replicate z 0) (xb_skip s a T i h7'))
            · show J - (i + 1) < J - i; omega
      all_goals
        have eJ : i = J := by first | (rw [dLt_eq] at h6'; simp at h6'; omega) | (simp at h5'; omega)
        conv => whnf
        repeat (first
          | (refine And.intro ?_ ?_; (focus (first | omega | decide | exact EqOk.mk (by kernel_rfl) (by kernel_rfl) (by kernel_rfl) | exact Int.natCast_nonneg _ | ((repeat' refine And.intro ?_ ?_) <;> first | omega | exact Int.natCast_nonneg _ | (simp only [i64max, u8max, u16max, u32max, u64max]; omega) | (simp only [mulSz_eq, Cont.len, colsLen, Col.len, List.length_cons, List.length_nil, List.length_replicate, List.length_append, hxl, List.length_append, List.length_replicate]; first | done | omega) | (simp [mulSz, Cont.len, bne, hxl, List.length_append, List.length_replicate]; first | done | omega)))); conv => whnf)
          | (refine tst_in ?_ ?_; (focus (intro h_; exfalso; first | omega | ((try simp only [decide_eq_true_eq, decide_eq_false_iff_not] at h_); omega) | (simp [mulSz, Cont.len, bne, hxl, List.length_append, List.length_replicate] at h_; first | done | omega))); intro _; conv => whnf)
          | (refine tst_in ?_ ?_; rotate_left; (focus (intro h_; exfalso; first | omega | ((try simp only [decide_eq_true_eq, decide_eq_false_iff_not] at h_); omega) | (simp [mulSz, Cont.len, bne, hxl, List.length_append, List.length_replicate] at h_; first | done | omega))); intro _; conv => whnf)
          | (refine ⟨0, (show _ = _ by omega), ?_⟩; conv => whnf))
        rw [eJ, cutX (hn := rfl)]
        refine ⟨_, [], PF, ?_⟩
        conv => whnf
        iterate 2
         refine And.intro ?_ ?_
         focus
          conv => whnf
          repeat' (first | exact True.intro | rfl | refine And.intro ?_ ?_ | omega)
          all_goals (conv => whnf)
          all_goals (try (first | rfl | omega | (simp; done)))
        conv => whnf
        refine ⟨?_, True.intro⟩
        intro _ _
        conv => whnf
        rcases hX with ⟨hG, rfl⟩ | ⟨hG, rfl⟩
        · unfold goodV frA
          conv => whnf
          rw [fin.1 hG]
          refine .inl ⟨(), [], ?_⟩
          conv => whnf
          repeat' (first | exact True.intro | rfl | refine And.intro ?_ ?_)
          all_goals (conv => whnf)
          repeat' (first | exact True.intro | rfl | refine And.intro ?_ ?_)
          all_goals (try omega)
        · unfold badV frA
          conv => whnf
          rw [show anyT T J = true from (Bool.not_eq_false _).mp fun h => hG (fin.2 h)]
          refine .inl ⟨(), [], ?_⟩
          conv => whnf
          repeat' (first | exact True.intro | rfl | refine And.intro ?_ ?_)
          all_goals (conv => whnf)
          repeat' (first | exact True.intro | rfl | refine And.intro ?_ ?_)
          all_goals (try omega)
end Go.Proofs.Ytdkogicikhlicaa

set_option linter.unusedVariables false
set_option linter.unusedSimpArgs false
namespace Go.Proofs.Ytdkogicikhlicaa
open Go Go.Fw
def lawSpec (k n : Int) (m : Bool) (b : ByteArray) (x1 x2 : Int) : FSpec :=
  ⟨[frA k n m b, .int .i64 x1, .int .u32 x2], [], [⟨Unit, fun _ => True, fun _ => .bool true, fun _ => []⟩]⟩
theorem law_m (k n : Int) (m : Bool) (b : ByteArray) (x1 x2 : Int) (w0 : (Lit.int .u8 k).wf = true) (w1 : (Lit.int .u8 n).wf = true) (w2 : b.size ≤ reachBytes) (w3 : (Lit.int .i64 x1).wf = true) (w4 : (Lit.int .u32 x2).wf = true) : Fits Try.prog 8 (lawSpec k n m b x1 x2) := by
  simp [Lit.wf, IntKind.min, IntKind.max, IntKind.signed, IntKind.bits] at w0 w1 w3 w4
  obtain ⟨T, rfl⟩ : ∃ T : Nat, x2 = (T : Int) := ⟨x2.toNat, by omega⟩
  exact law_f k n m b x1 T (by omega) (by omega) (by omega) (by omega) (by unfold reachBytes at w2; omega) (by omega) (by omega)
end Go.Proofs.Ytdkogicikhlicaa

namespace Go.Proofs.Ytdkogicikhlicaa
open Go Go.Fw
namespace frameNever
open Go.ChangeShapes Go.WideShapes Go.ChangeAt Go.RowKit
theorem own : ownKnob Try.prog.godebug = none := by kernel_rfl
theorem laid : laidOutB Try.prog = true := by kernel_rfl

set_option maxRecDepth 100000 in
theorem lifted (os : Os) (started : os.Started) (H : Type) (enc : TypeId × Value → H) :
    ReturnsInHanded {} Try.checked os 8 .any (Rows.frameNeverSpec.pre6 enc Try.prog Try.f8 Rows.frameNeverRow.domain false) (Rows.frameNeverSpec.post enc Try.prog Try.f8 false true false false) := by
  refine returnsInHanded_of_change_sized (C := Try.checked) own started (by kernel_rfl) Try.func8
    (ChangeSpec.witness6 (enc := enc) (C := Try.checked) false ⟨#[], #[.agg #[.int .u8 0, .int .u8 0, .bool false, .string .empty], .int .i64 0, .int .u32 0], []⟩ 8 (by kernel_rfl) (by kernel_rfl) (by kernel_rfl) (by kernel_rfl)) ?_
  intro W base args ds gs before hval0 hW _ hsz0 _
  have hsz : (DataW.weightsEach Try.prog (Try.f8.params.toList ++ Rows.frameNeverSpec.plain.varTypes Try.prog) (ds ++ gs)).all (· ≤ reachBytes) = true := hsz0
  clear hsz0
  have hval : ∀ (j : Nat) t v, Try.f8.params[j]? = some t → args[j]? = some v → Value.okWide Try.prog W .any base t v := hval0
  have hW' := hW
  obtain ⟨p, q, hA0, hV, rfl, hfz, hnd⟩ := hW
  have hA : DataW.TrodAll enc Try.prog W 0 (fun _ => true) true Try.f8.params.toList args.toList ds p := hA0
  rw [Try.params8] at hA hval hsz
  obtain ⟨v0, vs0, d0, ds0, p0, q0, hargs, rfl, rfl, h0, r0⟩ := trodAll_cons hA
  obtain ⟨v1, vs1, d1, ds1, p1, q1, rfl, rfl, rfl, h1, r1⟩ := trodAll_cons r0
  obtain ⟨v2, vs2, d2, ds2, p2, q2, rfl, rfl, rfl, h2, r2⟩ := trodAll_cons r1
  obtain ⟨rfl, rfl, rfl⟩ := trodAll_nil r2
  obtain rfl : args = #[v0, v1, v2] := by cases args; simp_all
  obtain ⟨rfl, rfl⟩ := trodVars_none hV
  obtain ⟨c0c0, t0_0, e0_0, l0_0, c0c1, t0_1, e0_1, l0_1, c0c2, t0_2, e0_2, l0_2, c0c3, t0_3, e0_3, l0_3, e0_4⟩ : LeafsAre W [.int .u8, .int .u8, .bool, .str] v0.cells.toList := arg_open 12 (by kernel_rfl) h0 (fine_of (j := 0) hsz rfl rfl)
  subst e0_4
  subst e0_3
  subst e0_2
  subst e0_1
  obtain rfl := agg_of e0_0 (by simp)
  obtain ⟨x0_0, rfl, w0_0⟩ := l0_0
  obtain ⟨x0_1, rfl, w0_1⟩ := l0_1
  obtain ⟨x0_2, rfl⟩ := l0_2
  obtain ⟨x0_3, rfl, w0_3⟩ := l0_3
  obtain ⟨x1_0, rfl, rfl, rfl, w1_0⟩ := open_int Try.underlying3 (hval 1 3 v1 rfl rfl) h1
  obtain ⟨x2_0, rfl, rfl, rfl, w2_0⟩ := open_int Try.underlying51 (hval 2 51 v2 rfl rfl) h2
  clear hA0 hval0
  have walk := (law_m x0_0 x0_1 x0_2 x0_3 x1_0 x2_0 w0_0 w0_1 w0_3 w1_0 w2_0).calls W [] [.agg #[.int .u8 x0_0, .int .u8 x0_1, .bool x0_2, .string x0_3], .int .i64 x1_0, .int .u32 x2_0] (heap_args rfl fun i s hs => by
      simp [lawSpec, frA] at hs) (by simp only [lawSpec, frA, Dens]; exact ⟨_, _, rfl, ⟨[.int .u8 x0_0, .int .u8 x0_1, .bool x0_2, .string x0_3], rfl, ⟨_, _, rfl, by simp [Den], ⟨_, _, rfl, by simp [Den], ⟨_, _, rfl, by simp [Den], ⟨_, _, rfl, by simp [Den], rfl⟩⟩⟩⟩⟩, ⟨_, _, rfl, by simp [Den], ⟨_, _, rfl, by simp [Den], rfl⟩⟩⟩) (x := .bool true) (v := .bool true) rfl (by
      intro o ho y hy
      simp [lawSpec, frA] at ho
      subst ho; rfl)
  refine walk.mono fun e W' ⟨he, hg⟩ => ?_
  subst he
  exact ⟨_, rfl, law_done laid rfl rfl Try.underlying4 (by kernel_rfl) hW' rfl hg⟩

theorem over : Rows.frameNeverRow.holds Try.pinned (OpenSpec.ofChange Rows.frameNeverSpec) :=
  OpenClaim.holds_of_wide 8 Try.f8 rfl rfl rfl rfl rfl rfl rfl ⟨rfl, rfl, rfl, rfl, rfl⟩ rfl rfl rfl rfl rfl (by kernel_rfl) Try.func8 (by kernel_rfl)
    (of_decide_eq_true (by kernel_rfl)) (by unfold Func.isWrapper; first | (rw [if_pos (by decide +kernel)]; kernel_rfl) | (rw [if_neg (by decide +kernel)]; exact ⟨rfl, rfl⟩))
    (fun os started H enc _ => lifted os started H enc)

theorem proved : Rows.FrameNeverSaid := over
end frameNever
end Go.Proofs.Ytdkogicikhlicaa
