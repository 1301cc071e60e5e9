/-
  FrameBytes, whole: any frame packed as the document packs it, any text parsed as the document parses it, the reference by long division and by packing again. No condition.
-/
import Derived.Test.YtdkogicikhlicaaRows
import Derived.Test.YtdkogicikhlicaaFv
import Derived.Test.YtdkogicikhlicaaTwFrameBytes
import Derived.Test.YtdkogicikhlicaaFa
import Derived.WalkKit
import Derived.ProofKit
import Derived.OpenShut
import Derived.SizedLaws
import Derived.ChangeMaps5
set_option linter.unusedSimpArgs false
set_option linter.unusedVariables false
set_option linter.unusedVariables false
set_option linter.unusedSimpArgs false
namespace Go.Proofs.Ytdkogicikhlicaa
open Go Go.Fw
def tyL : List (Nat × TyI) := [
  (1, ⟨.func, 1, 8, .nilFunc⟩),
  (2, ⟨.int .i64, 1, 8, .int .i64 0⟩),
  (3, ⟨.int .i64, 1, 8, .int .i64 0⟩),
  (4, ⟨.bool, 1, 1, .bool false⟩),
  (5, ⟨.int .u8, 1, 1, .int .u8 0⟩),
  (9, ⟨.str, 1, 16, .string (ByteArray.mk #[])⟩),
  (12, ⟨.int .u64, 1, 8, .int .u64 0⟩),
  (21, ⟨.int .i32, 1, 4, .int .i32 0⟩),
  (22, ⟨.struct [(0, 5), (1, 5), (2, 4), (3, 9)], 4, 24, .agg #[.int .u8 0, .int .u8 0, .bool false, .string (ByteArray.mk #[])]⟩),
  (23, ⟨.struct [(0, 5), (1, 5), (2, 4), (3, 9)], 4, 24, .agg #[.int .u8 0, .int .u8 0, .bool false, .string (ByteArray.mk #[])]⟩),
  (24, ⟨.int .i64, 1, 8, .int .i64 0⟩),
  (26, ⟨.func, 1, 8, .nilFunc⟩),
  (28, ⟨.func, 1, 8, .nilFunc⟩),
  (29, ⟨.func, 1, 8, .nilFunc⟩),
  (30, ⟨.func, 1, 8, .nilFunc⟩),
  (31, ⟨.slice 37, 1, 24, .slice none 0 0⟩),
  (32, ⟨.func, 1, 8, .nilFunc⟩),
  (33, ⟨.func, 1, 8, .nilFunc⟩),
  (34, ⟨.func, 1, 8, .nilFunc⟩),
  (35, ⟨.func, 1, 8, .nilFunc⟩),
  (36, ⟨.struct [(0, 3), (1, 23)], 5, 32, .agg #[.int .i64 0, .int .u8 0, .int .u8 0, .bool false, .string (ByteArray.mk #[])]⟩),
  (37, ⟨.struct [(0, 3), (1, 23)], 5, 32, .agg #[.int .i64 0, .int .u8 0, .int .u8 0, .bool false, .string (ByteArray.mk #[])]⟩),
  (38, ⟨.func, 1, 8, .nilFunc⟩),
  (39, ⟨.slice 23, 1, 24, .slice none 0 0⟩),
  (41, ⟨.func, 1, 8, .nilFunc⟩),
  (42, ⟨.func, 1, 8, .nilFunc⟩),
  (43, ⟨.func, 1, 8, .nilFunc⟩),
  (44, ⟨.func, 1, 8, .nilFunc⟩),
  (45, ⟨.func, 1, 8, .nilFunc⟩),
  (46, ⟨.slice 3, 1, 24, .slice none 0 0⟩),
  (47, ⟨.func, 1, 8, .nilFunc⟩),
  (48, ⟨.func, 1, 8, .nilFunc⟩),
  (49, ⟨.int .u64, 1, 8, .int .u64 0⟩),
  (50, ⟨.func, 1, 8, .nilFunc⟩),
  (51, ⟨.int .u32, 1, 4, .int .u32 0⟩),
  (52, ⟨.slice 5, 1, 24, .slice none 0 0⟩),
  (53, ⟨.func, 1, 8, .nilFunc⟩),
  (54, ⟨.func, 1, 8, .nilFunc⟩),
  (55, ⟨.array 5 5, 5, 5, .agg #[.int .u8 0, .int .u8 0, .int .u8 0, .int .u8 0, .int .u8 0]⟩),
  (56, ⟨.array 5 5, 5, 5, .agg #[.int .u8 0, .int .u8 0, .int .u8 0, .int .u8 0, .int .u8 0]⟩),
  (57, ⟨.func, 1, 8, .nilFunc⟩),
  (58, ⟨.func, 1, 8, .nilFunc⟩),
  (59, ⟨.int .u64, 1, 8, .int .u64 0⟩),
  (60, ⟨.func, 1, 8, .nilFunc⟩),
  (62, ⟨.func, 1, 8, .nilFunc⟩),
  (64, ⟨.func, 1, 8, .nilFunc⟩),
  (65, ⟨.func, 1, 8, .nilFunc⟩),
  (66, ⟨.func, 1, 8, .nilFunc⟩),
  (67, ⟨.func, 1, 8, .nilFunc⟩),
  (68, ⟨.int .u16, 1, 2, .int .u16 0⟩),
  (69, ⟨.func, 1, 8, .nilFunc⟩),
  (70, ⟨.func, 1, 8, .nilFunc⟩),
  (71, ⟨.func, 1, 8, .nilFunc⟩),
  (72, ⟨.func, 1, 8, .nilFunc⟩),
  (73, ⟨.func, 1, 8, .nilFunc⟩),
  (74, ⟨.func, 1, 8, .nilFunc⟩),
  (75, ⟨.func, 1, 8, .nilFunc⟩),
  (76, ⟨.func, 1, 8, .nilFunc⟩),
  (82, ⟨.func, 1, 8, .nilFunc⟩),
  (85, ⟨.func, 1, 8, .nilFunc⟩),
  (86, ⟨.ptr 5, 1, 8, .pointer none⟩)]
theorem tokL : TOk Try.prog tyL := tokl_of ⟨⟨by kernel_rfl, by kernel_rfl⟩, ⟨by kernel_rfl, by kernel_rfl⟩, ⟨by kernel_rfl, by kernel_rfl⟩, ⟨by kernel_rfl, by kernel_rfl⟩, ⟨by kernel_rfl, by kernel_rfl⟩, ⟨by kernel_rfl, by kernel_rfl⟩, ⟨by kernel_rfl, by kernel_rfl⟩, ⟨by kernel_rfl, by kernel_rfl⟩, ⟨by kernel_rfl, by kernel_rfl⟩, ⟨by kernel_rfl, by kernel_rfl⟩, ⟨by kernel_rfl, by kernel_rfl⟩, ⟨by kernel_rfl, by kernel_rfl⟩, ⟨by kernel_rfl, by kernel_rfl⟩, ⟨by kernel_rfl, by kernel_rfl⟩, ⟨by kernel_rfl, by kernel_rfl⟩, ⟨by kernel_rfl, by kernel_rfl⟩, ⟨by kernel_rfl, by kernel_rfl⟩, ⟨by kernel_rfl, by kernel_rfl⟩, ⟨by kernel_rfl, by kernel_rfl⟩, ⟨by kernel_rfl, by kernel_rfl⟩, ⟨by kernel_rfl, by kernel_rfl⟩, ⟨by kernel_rfl, by kernel_rfl⟩, ⟨by kernel_rfl, by kernel_rfl⟩, ⟨by kernel_rfl, by kernel_rfl⟩, ⟨by kernel_rfl, by kernel_rfl⟩, ⟨by kernel_rfl, by kernel_rfl⟩, ⟨by kernel_rfl, by kernel_rfl⟩, ⟨by kernel_rfl, by kernel_rfl⟩, ⟨by kernel_rfl, by kernel_rfl⟩, ⟨by kernel_rfl, by kernel_rfl⟩, ⟨by kernel_rfl, by kernel_rfl⟩, ⟨by kernel_rfl, by kernel_rfl⟩, ⟨by kernel_rfl, by kernel_rfl⟩, ⟨by kernel_rfl, by kernel_rfl⟩, ⟨by kernel_rfl, by kernel_rfl⟩, ⟨by kernel_rfl, by kernel_rfl⟩, ⟨by kernel_rfl, by kernel_rfl⟩, ⟨by kernel_rfl, by kernel_rfl⟩, ⟨by kernel_rfl, by kernel_rfl⟩, ⟨by kernel_rfl, by kernel_rfl⟩, ⟨by kernel_rfl, by kernel_rfl⟩, ⟨by kernel_rfl, by kernel_rfl⟩, ⟨by kernel_rfl, by kernel_rfl⟩, ⟨by kernel_rfl, by kernel_rfl⟩, ⟨by kernel_rfl, by kernel_rfl⟩, ⟨by kernel_rfl, by kernel_rfl⟩, ⟨by kernel_rfl, by kernel_rfl⟩, ⟨by kernel_rfl, by kernel_rfl⟩, ⟨by kernel_rfl, by kernel_rfl⟩, ⟨by kernel_rfl, by kernel_rfl⟩, ⟨by kernel_rfl, by kernel_rfl⟩, ⟨by kernel_rfl, by kernel_rfl⟩, ⟨by kernel_rfl, by kernel_rfl⟩, ⟨by kernel_rfl, by kernel_rfl⟩, ⟨by kernel_rfl, by kernel_rfl⟩, ⟨by kernel_rfl, by kernel_rfl⟩, ⟨by kernel_rfl, by kernel_rfl⟩, ⟨by kernel_rfl, by kernel_rfl⟩, ⟨by kernel_rfl, by kernel_rfl⟩, ⟨by kernel_rfl, by kernel_rfl⟩, ⟨by kernel_rfl, by kernel_rfl⟩, True.intro⟩
theorem mixedL : Try.prog.follows .mixedOrders = true := by kernel_rfl
theorem i64max : IntKind.i64.max = 9223372036854775807 := rfl
theorem u8max : IntKind.u8.max = 255 := rfl
theorem u16max : IntKind.u16.max = 65535 := rfl
theorem u32max : IntKind.u32.max = 4294967295 := rfl
theorem u64max : IntKind.u64.max = 18446744073709551615 := rfl
def qf : Nat → Bool := fun f => match f with | 1000052 => true | _ => false
def cfgs (k : Nat) : Cfg := { T := tyL, sgn := fun _ => false, wr := fun _ => false, k := k, q := qf }
def numOut (D : List Seg) (x : AV) : FOut := ⟨Unit, fun _ => True, fun _ => x, fun _ => D⟩
theorem u32wrap (n : Int) : IntKind.u32.wrap n = n % 4294967296 := by
  unfold IntKind.wrap
  simp [IntKind.bits, IntKind.signed]
theorem u16wrap (n : Int) : IntKind.u16.wrap n = n % 65536 := by
  unfold IntKind.wrap
  simp [IntKind.bits, IntKind.signed]
def nx (W : Nat) (p s : Nat) (b : Bool) : Nat := if (Nat.testBit s (W - 1)) != b then ((2 * s) % 2 ^ W) ^^^ p else (2 * s) % 2 ^ W
theorem xor_add_mod (a b n : Nat) : (2 * (a ^^^ b)) % 2 ^ n = (2 * a) % 2 ^ n ^^^ (2 * b) % 2 ^ n := by
  have e : ∀ x : Nat, 2 * x = x <<< 1 := fun x => by rw [Nat.shiftLeft_eq]; omega
  rw [e, e, e]
  apply Nat.eq_of_testBit_eq
  intro i
  simp only [Nat.testBit_mod_two_pow, Nat.testBit_xor, Nat.testBit_shiftLeft]
  cases decide (i < n) <;> cases decide (i ≥ 1) <;> simp
theorem nx_xor (W p s t : Nat) (a b : Bool) : nx W p (s ^^^ t) (a != b) = nx W p s a ^^^ nx W p t b := by
  unfold nx
  rw [Nat.testBit_xor, xor_add_mod]
  generalize (2 * s) % 2 ^ W = u
  generalize (2 * t) % 2 ^ W = v
  cases Nat.testBit s (W-1) <;> cases Nat.testBit t (W-1) <;> cases a <;> cases b <;> simp <;> (apply Nat.eq_of_testBit_eq; intro i; simp only [Nat.testBit_xor]; cases u.testBit i <;> cases v.testBit i <;> cases p.testBit i <;> rfl)
def crc (W p : Nat) : Nat → List Bool → Nat
  | s, [] => s
  | s, b :: l => crc W p (nx W p s b) l
theorem crc_xor (W p : Nat) : ∀ (l m : List Bool) (s t : Nat), l.length = m.length → crc W p (s ^^^ t) (List.zipWith (· != ·) l m) = crc W p s l ^^^ crc W p t m
  | [], [], s, t, _ => rfl
  | [], _ :: _, _, _, h => by simp at h
  | _ :: _, [], _, _, h => by simp at h
  | a :: l, b :: m, s, t, h => by
    simp only [crc, List.zipWith_cons_cons]
    rw [nx_xor]
    exact crc_xor W p l m _ _ (by simpa using h)
theorem crc_append (W p : Nat) : ∀ (l m : List Bool) (s : Nat), crc W p s (l ++ m) = crc W p (crc W p s l) m
  | [], _, _ => rfl
  | a :: l, m, s => by simp only [crc, List.cons_append, crc_append W p l m]
theorem nx_zero (W p : Nat) : nx W p 0 false = 0 := by simp [nx]
theorem crc_zeros (W p : Nat) : ∀ n, crc W p 0 (List.replicate n false) = 0
  | 0 => rfl
  | n + 1 => by simp only [List.replicate_succ, crc, nx_zero, crc_zeros W p n]
theorem nx_lt {W p s : Nat} (b : Bool) (hp : p < 2 ^ W) : nx W p s b < 2 ^ W := by
  have h : (2 * s) % 2 ^ W < 2 ^ W := Nat.mod_lt _ (Nat.two_pow_pos W)
  unfold nx
  split
  · exact Nat.xor_lt_two_pow h hp
  · exact h
theorem crc_lt {W p : Nat} (hp : p < 2 ^ W) : ∀ (l : List Bool) (s : Nat), s < 2 ^ W → crc W p s l < 2 ^ W
  | [], _, h => h
  | b :: l, s, h => crc_lt hp l _ (nx_lt b hp)
theorem crc_snoc (W p s : Nat) (l : List Bool) (b : Bool) : crc W p s (l ++ [b]) = nx W p (crc W p s l) b := by rw [crc_append]; rfl
theorem tb32 (s : Nat) (hs : s < 4294967296) : (!decide ((s : Int) / 2 ^ (min ((32 : Int) - 1).toNat (IntKind.bits .u32)) = 0)) = Nat.testBit s 31 := by
  show (!decide ((s : Int) / 2147483648 = 0)) = Nat.testBit s 31
  rw [Nat.testBit_eq_decide_div_mod_eq]
  have e : (2 : Nat) ^ 31 = 2147483648 := rfl
  rw [e]
  apply Bool.eq_iff_iff.mpr
  simp only [Bool.not_eq_true', decide_eq_true_eq, decide_eq_false_iff_not]
  omega
theorem sh32 (s : Nat) : IntKind.u32.wrap ((s : Int) * 2 ^ (min (Int.toNat 1) (IntKind.bits .u32))) = ((2 * s % 4294967296 : Nat) : Int) := by
  rw [u32wrap]
  show ((s : Int) * 2) % 4294967296 = _
  omega
noncomputable def c37 : Code := (Try.f37.body).getD .skip
set_option maxRecDepth 100000 in
theorem next32_f (s p : Nat) (b : Bool) (hs : s < 4294967296) (hp : p < 4294967296) : Fits Try.prog 37 ⟨[.int .u32 s, .int .u32 p, .bool b], [], [numOut [] (.int .u32 (nx 32 p s b : Nat))]⟩ := by
  refine fits_of_body (C := cfgs 0) (c := c37) (ts := [6]) tokL mixedL (fun _ => none) (fun _ => none)
    Try.func37 (by kernel_rfl) (by kernel_rfl) (by kernel_rfl) (by kernel_rfl) rfl ?_
  have hn : nx 32 p s b = if (Nat.testBit s 31) != b then (2 * s % 4294967296) ^^^ p else 2 * s % 4294967296 := rfl
  conv => whnf
  refine ⟨_, [], wide32_T, ?_⟩
  conv => whnf
  iterate 2
   refine And.intro ?_ ?_
   focus
    conv => whnf
    repeat' (first | exact True.intro | rfl | refine And.intro ?_ ?_ | omega)
    all_goals (conv => whnf)
    all_goals (try (first | rfl | omega | (simp; done)))
  conv => whnf
  refine ⟨?_, True.intro⟩
  intro _ _
  conv => whnf
  refine ⟨by repeat' (first | omega | exact Int.natCast_nonneg _ | (simp only [i64max]; omega) | (simp only [u8max]; omega) | refine And.intro ?_ ?_), ?_⟩
  conv => whnf
  refine ⟨by repeat' (first | omega | exact Int.natCast_nonneg _ | (simp only [i64max]; omega) | (simp only [u8max]; omega) | refine And.intro ?_ ?_), ?_⟩
  conv => whnf
  rw [tb32 s hs]
  conv => whnf
  refine ⟨by repeat' (first | omega | exact Int.natCast_nonneg _ | (simp only [i64max]; omega) | (simp only [u8max]; omega) | refine And.intro ?_ ?_), ?_⟩
  conv => whnf
  rw [sh32]
  refine tst_in (fun h => ?_) (fun h => ?_)
  · rw [if_pos h] at hn
    have hm : 2 * s % 4294967296 < 4294967296 := Nat.mod_lt _ (by decide)
    conv => whnf
    refine ⟨⟨by omega, by omega, by show ((2 * s % 4294967296 : Nat) : Int) ≤ 4294967295; omega, by show (p : Int) ≤ 4294967295; omega⟩, ?_⟩
    conv => whnf
    refine .inl ⟨(), [], ?_⟩
    conv => whnf
    repeat' (first | exact True.intro | rfl | refine And.intro ?_ ?_)
    all_goals (show ((nx 32 p s b : Nat) : Int) = _; first | (rw [hn]; done) | (rw [hn]; rfl))
  · rw [if_neg (by rw [h]; decide)] at hn
    conv => whnf
    refine .inl ⟨(), [], ?_⟩
    conv => whnf
    repeat' (first | exact True.intro | rfl | refine And.intro ?_ ?_)
    all_goals (show ((nx 32 p s b : Nat) : Int) = _; first | (rw [hn]; done) | (rw [hn]; rfl))
theorem tb16 (s : Nat) (hs : s < 65536) : (!decide ((s : Int) / 2 ^ (min ((16 : Int) - 1).toNat (IntKind.bits .u16)) = 0)) = Nat.testBit s 15 := by
  show (!decide ((s : Int) / 32768 = 0)) = Nat.testBit s 15
  rw [Nat.testBit_eq_decide_div_mod_eq]
  have e : (2 : Nat) ^ 15 = 32768 := rfl
  rw [e]
  apply Bool.eq_iff_iff.mpr
  simp only [Bool.not_eq_true', decide_eq_true_eq, decide_eq_false_iff_not]
  omega
theorem sh16 (s : Nat) : IntKind.u16.wrap ((s : Int) * 2 ^ (min (Int.toNat 1) (IntKind.bits .u16))) = ((2 * s % 65536 : Nat) : Int) := by
  rw [u16wrap]
  show ((s : Int) * 2) % 65536 = _
  omega
noncomputable def c38 : Code := (Try.f38.body).getD .skip
set_option maxRecDepth 100000 in
theorem next16_f (s p : Nat) (b : Bool) (hs : s < 65536) (hp : p < 65536) : Fits Try.prog 38 ⟨[.int .u16 s, .int .u16 p, .bool b], [], [numOut [] (.int .u16 (nx 16 p s b : Nat))]⟩ := by
  refine fits_of_body (C := cfgs 0) (c := c38) (ts := [6]) tokL mixedL (fun _ => none) (fun _ => none)
    Try.func38 (by kernel_rfl) (by kernel_rfl) (by kernel_rfl) (by kernel_rfl) rfl ?_
  have hn : nx 16 p s b = if (Nat.testBit s 15) != b then (2 * s % 65536) ^^^ p else 2 * s % 65536 := rfl
  conv => whnf
  refine ⟨_, [], wide16_T, ?_⟩
  conv => whnf
  iterate 2
   refine And.intro ?_ ?_
   focus
    conv => whnf
    repeat' (first | exact True.intro | rfl | refine And.intro ?_ ?_ | omega)
    all_goals (conv => whnf)
    all_goals (try (first | rfl | omega | (simp; done)))
  conv => whnf
  refine ⟨?_, True.intro⟩
  intro _ _
  conv => whnf
  refine ⟨by repeat' (first | omega | exact Int.natCast_nonneg _ | (simp only [i64max]; omega) | (simp only [u8max]; omega) | refine And.intro ?_ ?_), ?_⟩
  conv => whnf
  refine ⟨by repeat' (first | omega | exact Int.natCast_nonneg _ | (simp only [i64max]; omega) | (simp only [u8max]; omega) | refine And.intro ?_ ?_), ?_⟩
  conv => whnf
  rw [tb16 s hs]
  conv => whnf
  refine ⟨by repeat' (first | omega | exact Int.natCast_nonneg _ | (simp only [i64max]; omega) | (simp only [u8max]; omega) | refine And.intro ?_ ?_), ?_⟩
  conv => whnf
  rw [sh16]
  refine tst_in (fun h => ?_) (fun h => ?_)
  · rw [if_pos h] at hn
    have hm : 2 * s % 65536 < 65536 := Nat.mod_lt _ (by decide)
    conv => whnf
    refine ⟨⟨by omega, by omega, by show ((2 * s % 65536 : Nat) : Int) ≤ 65535; omega, by show (p : Int) ≤ 65535; omega⟩, ?_⟩
    conv => whnf
    refine .inl ⟨(), [], ?_⟩
    conv => whnf
    repeat' (first | exact True.intro | rfl | refine And.intro ?_ ?_)
    all_goals (show ((nx 16 p s b : Nat) : Int) = _; first | (rw [hn]; done) | (rw [hn]; rfl))
  · rw [if_neg (by rw [h]; decide)] at hn
    conv => whnf
    refine .inl ⟨(), [], ?_⟩
    conv => whnf
    repeat' (first | exact True.intro | rfl | refine And.intro ?_ ?_)
    all_goals (show ((nx 16 p s b : Nat) : Int) = _; first | (rw [hn]; done) | (rw [hn]; rfl))
end Go.Proofs.Ytdkogicikhlicaa

set_option linter.unusedVariables false
set_option linter.unusedSimpArgs false
namespace Go.Proofs.Ytdkogicikhlicaa
open Go Go.Fw
def bb (x : Nat) : List Bool := [x.testBit 7, x.testBit 6, x.testBit 5, x.testBit 4, x.testBit 3, x.testBit 2, x.testBit 1, x.testBit 0]
/-- The bits of the first k bytes. -/
def bst (f : Nat → Nat) : Nat → List Bool
  | 0 => []
  | k + 1 => bst f k ++ bb (f k)
theorem bst_len (f : Nat → Nat) : ∀ n, (bst f n).length = 8 * n
  | 0 => rfl
  | n + 1 => by simp only [bst, List.length_append, bst_len f n, bb, List.length_cons, List.length_nil]; omega
theorem bb_take (x j : Nat) (h : j < 8) : (bb x).take (j + 1) = (bb x).take j ++ [x.testBit (7 - j)] := by
  obtain rfl | rfl | rfl | rfl | rfl | rfl | rfl | rfl : j = 0 ∨ j = 1 ∨ j = 2 ∨ j = 3 ∨ j = 4 ∨ j = 5 ∨ j = 6 ∨ j = 7 := by omega
  all_goals rfl
theorem bb_all (x : Nat) : (bb x).take 8 = bb x := rfl
def bytL (s : ByteArray) : List Int := s.data.toList.map (fun b => (b.toNat : Int))
theorem bytL_len (s : ByteArray) : (bytL s).length = s.size := by unfold bytL; rw [List.length_map]; rfl
theorem bytL_get (s : ByteArray) (t : List Int) {i : Nat} (h : i < s.size) : (bytL s ++ t).getD i 0 = (byteAt s i : Int) := by
  rw [g_app, bytL_len, if_pos h]
  unfold bytL byteAt
  rw [List.getD_eq_getElem?_getD, List.getElem?_map, List.getD_eq_getElem?_getD]
  have : i < s.data.toList.length := h
  rw [List.getElem?_eq_getElem this]; rfl
theorem byteAt_lt (s : ByteArray) (i : Nat) : byteAt s i < 256 := by unfold byteAt; exact UInt8.toNat_lt _
def natAt (st : St) (t : Nat) : Nat := match slot st.sl t with | .int _ n => n.toNat | _ => 0
theorem shb_eq (C j : Nat) (b : Int) (hb : b.toNat = j) (hj : j ≤ 7) : (C : Int) / 2 ^ (min b.toNat (IntKind.bits .u8)) = ((C >>> j : Nat) : Int) := by
  rw [hb, Nat.min_eq_left (by show j ≤ 8; omega), Nat.shiftRight_eq_div_pow, Int.natCast_ediv, Int.natCast_pow]; rfl
theorem bit_eq (C j : Nat) : (!decide (((((C >>> j : Nat) : Int).toNat &&& (1 : Int).toNat : Nat) : Int) = 0)) = C.testBit j := by
  have e : (((C >>> j : Nat) : Int).toNat &&& (1 : Int).toNat) = (C >>> j) % 2 := by
    rw [Int.toNat_natCast]; exact Nat.and_one_is_mod _
  rw [e, Nat.testBit_eq_decide_div_mod_eq, Nat.shiftRight_eq_div_pow]
  apply Bool.eq_iff_iff.mpr
  simp only [Bool.not_eq_true', decide_eq_true_eq, decide_eq_false_iff_not]
  omega
noncomputable def c35 : Code := (Try.f35.body).getD .skip
def st35 (p : Nat) (s : ByteArray) (i n : Nat) : St := ⟨slotsAt 30 [(0, .int .u32 p), (1, .str s), (5, .int .u32 (crc 32 p 0 (bst (byteAt s) i) : Nat)), (10, .slice 0 0 s.size (s.size + n)), (11, .int .i64 s.size), (12, .int .i64 i)], [.seg true (.ints .u8 (bytL s ++ List.replicate n 0))]⟩
def inv35 (p : Nat) (s : ByteArray) : LInv := ⟨Nat × Nat, fun t => st35 p s t.1 t.2, fun t => t.1 ≤ s.size, fun t => s.size - t.1⟩
def st35b (p : Nat) (s : ByteArray) (i n j : Nat) : St := ⟨slotsAt 30 [(0, .int .u32 p), (1, .str s), (5, .int .u32 (crc 32 p (crc 32 p 0 (bst (byteAt s) i)) ((bb (byteAt s i)).take j) : Nat)), (7, .int .u8 (byteAt s i)), (8, .int .i64 (7 - (j : Int))), (10, .slice 0 0 s.size (s.size + n)), (11, .int .i64 s.size), (12, .int .i64 i)], [.seg true (.ints .u8 (bytL s ++ List.replicate n 0))]⟩
def inv35b (p : Nat) (s : ByteArray) (st : St) : LInv := ⟨Nat × Nat, fun t => st35b p s (natAt st 12) t.1 t.2, fun t => t.2 ≤ 8, fun t => 8 - t.2⟩
set_option maxHeartbeats 0 in
set_option maxRecDepth 100000 in
theorem of32_f (p : Nat) (s : ByteArray) (hp : p < 4294967296) (hs : s.size ≤ 140737488355328) : Fits Try.prog 35 ⟨[.int .u32 p, .str s], [], [numOut [] (.int .u32 (crc 32 p 0 (bst (byteAt s) s.size) : Nat))]⟩ := by
  refine fits_of_body (C := { cfgs 0 with dep := fun | 6 => some (inv35b p s) | _ => none }) (c := c35) (ts := [4]) tokL mixedL (fun | 3 => some (inv35 p s) | _ => none) (fun _ => none)
    Try.func35 (by kernel_rfl) (by kernel_rfl) (by kernel_rfl) (by kernel_rfl) rfl ?_
  conv => whnf
  intro n
  conv => whnf
  refine ⟨⟨[0], (0, n), ?_, Nat.zero_le _⟩, ?_⟩
  · show stLe _ _ (st35 p s 0 n) _
    conv => whnf
    repeat' (first | exact True.intro | rfl | refine And.intro ?_ ?_)
    all_goals (conv => whnf)
    repeat' (first | exact True.intro | rfl | refine And.intro ?_ ?_)
    all_goals (try omega)
  · intro ⟨i, n⟩ (hi : i ≤ s.size)
    show forceSt (st35 p s i n) _
    have hC : crc 32 p 0 (bst (byteAt s) i) < 4294967296 := crc_lt (W := 32) hp _ _ (by decide)
    conv => whnf
    refine tst_in (fun h1 => ?_) (fun h1' => ?_)
    · skip
      have h1 : i < s.size := by simp at h1; omega
      conv => whnf
      repeat (first
        | (refine And.intro ?_ ?_; (focus (first | omega | decide | exact EqOk.mk (by kernel_rfl) (by kernel_rfl) (by kernel_rfl) | exact Int.natCast_nonneg _ | ((repeat' refine And.intro ?_ ?_) <;> first | omega | exact Int.natCast_nonneg _ | (simp only [i64max, u8max, u16max, u32max, u64max]; omega) | (simp only [mulSz_eq, Cont.len, colsLen, Col.len, List.length_cons, List.length_nil, List.length_replicate, List.length_append, bytL_len, List.length_append, List.length_replicate]; first | done | omega) | (simp [mulSz, Cont.len, bne, bytL_len, List.length_append, List.length_replicate]; first | done | omega)))); conv => whnf)
        | (refine tst_in ?_ ?_; (focus (intro h_; exfalso; first | omega | ((try simp only [decide_eq_true_eq, decide_eq_false_iff_not] at h_); omega) | (simp [mulSz, Cont.len, bne, bytL_len, List.length_append, List.length_replicate] at h_; first | done | omega))); intro _; conv => whnf)
        | (refine tst_in ?_ ?_; rotate_left; (focus (intro h_; exfalso; first | omega | ((try simp only [decide_eq_true_eq, decide_eq_false_iff_not] at h_); omega) | (simp [mulSz, Cont.len, bne, bytL_len, List.length_append, List.length_replicate] at h_; first | done | omega))); intro _; conv => whnf)
        | (refine ⟨0, (show _ = _ by omega), ?_⟩; conv => whnf))
      refine ⟨⟨[0], (n, 0), ?_, Nat.zero_le _⟩, ?_⟩
      · show stLe _ _ (st35b p s i n 0) _
        conv => whnf
        repeat' (first | exact True.intro | rfl | refine And.intro ?_ ?_)
        all_goals (conv => whnf)
        repeat' (first | exact True.intro | rfl | refine And.intro ?_ ?_)
        all_goals (try omega)
        rw [show 0 + (i : Int).toNat = i by omega]
        exact (bytL_get s _ h1).symm
      · intro ⟨n, j⟩ (hj : j ≤ 8)
        show forceSt (st35b p s i n j) _
        have hD : crc 32 p (crc 32 p 0 (bst (byteAt s) i)) ((bb (byteAt s i)).take j) < 4294967296 := crc_lt (W := 32) hp _ _ hC
        generalize hE : crc 32 p (crc 32 p 0 (bst (byteAt s) i)) ((bb (byteAt s i)).take j) = D at hD
        have hx := byteAt_lt s i
        conv => whnf
        rw [hE]
        refine tst_in (fun h2 => ?_) (fun h2' => ?_)
        · skip
          have h2 : j < 8 := by rw [dLe_eq] at h2; simp at h2; omega
          conv => whnf
          rw [shb_eq (byteAt s i) (7 - j) (7 - (j : Int)) (by omega) (by omega)]
          have hsr : byteAt s i >>> (7 - j) ≤ byteAt s i := Nat.shiftRight_le _ _
          conv => whnf
          repeat (first
            | (refine And.intro ?_ ?_; (focus (first | omega | decide | exact EqOk.mk (by kernel_rfl) (by kernel_rfl) (by kernel_rfl) | exact Int.natCast_nonneg _ | ((repeat' refine And.intro ?_ ?_) <;> first | omega | exact Int.natCast_nonneg _ | (simp only [i64max, u8max, u16max, u32max, u64max]; omega) | (simp only [mulSz_eq, Cont.len, colsLen, Col.len, List.length_cons, List.length_nil, List.length_replicate, List.length_append, u8max]; first | done | omega) | (simp [mulSz, Cont.len, bne, u8max]; first | done | omega)))); conv => whnf)
            | (refine tst_in ?_ ?_; (focus (intro h_; exfalso; first | omega | ((try simp only [decide_eq_true_eq, decide_eq_false_iff_not] at h_); omega) | (simp [mulSz, Cont.len, bne, u8max] at h_; first | done | omega))); intro _; conv => whnf)
            | (refine tst_in ?_ ?_; rotate_left; (focus (intro h_; exfalso; first | omega | ((try simp only [decide_eq_true_eq, decide_eq_false_iff_not] at h_); omega) | (simp [mulSz, Cont.len, bne, u8max] at h_; first | done | omega))); intro _; conv => whnf)
            | (refine ⟨0, (show _ = _ by omega), ?_⟩; conv => whnf))
          rw [bit_eq]
          have NX := next32_f D p ((byteAt s i).testBit (7 - j)) hD hp
          refine ⟨_, [], NX, ?_⟩
          conv => whnf
          iterate 2
           refine And.intro ?_ ?_
           focus
            conv => whnf
            repeat' (first | exact True.intro | rfl | refine And.intro ?_ ?_ | omega)
            all_goals (conv => whnf)
            all_goals (try (first | rfl | omega | (simp; done)))
          conv => whnf
          refine ⟨?_, True.intro⟩
          intro _ _
          conv => whnf
          conv => whnf
          repeat (first
            | (refine And.intro ?_ ?_; (focus (first | omega | decide | exact EqOk.mk (by kernel_rfl) (by kernel_rfl) (by kernel_rfl) | exact Int.natCast_nonneg _ | ((repeat' refine And.intro ?_ ?_) <;> first | omega | exact Int.natCast_nonneg _ | (simp only [i64max, u8max, u16max, u32max, u64max]; omega) | (simp only [mulSz_eq, Cont.len, colsLen, Col.len, List.length_cons, List.length_nil, List.length_replicate, List.length_append]; first | done | omega) | (simp [mulSz, Cont.len, bne]; first | done | omega)))); conv => whnf)
            | (refine tst_in ?_ ?_; (focus (intro h_; exfalso; first | omega | ((try simp only [decide_eq_true_eq, decide_eq_false_iff_not] at h_); omega) | (simp [mulSz, Cont.len, bne] at h_; first | done | omega))); intro _; conv => whnf)
            | (refine tst_in ?_ ?_; rotate_left; (focus (intro h_; exfalso; first | omega | ((try simp only [decide_eq_true_eq, decide_eq_false_iff_not] at h_); omega) | (simp [mulSz, Cont.len, bne] at h_; first | done | omega))); intro _; conv => whnf)
            | (refine ⟨0, (show _ = _ by omega), ?_⟩; conv => whnf))
          refine ⟨[0], (n, j + 1), ?_, (by show j + 1 ≤ 8; omega), (by show 8 - (j + 1) < 8 - j; omega)⟩
          show stLe _ _ (st35b p s i n (j + 1)) _
          conv => whnf
          repeat' (first | exact True.intro | rfl | refine And.intro ?_ ?_)
          all_goals (conv => whnf)
          repeat' (first | exact True.intro | rfl | refine And.intro ?_ ?_)
          all_goals (try omega)
          rw [bb_take _ _ h2, crc_snoc, hE]
        · skip
          have h2 : j = 8 := by rw [dLe_eq] at h2'; simp at h2'; omega
          subst h2
          conv => whnf
          repeat (first
            | (refine And.intro ?_ ?_; (focus (first | omega | decide | exact EqOk.mk (by kernel_rfl) (by kernel_rfl) (by kernel_rfl) | exact Int.natCast_nonneg _ | ((repeat' refine And.intro ?_ ?_) <;> first | omega | exact Int.natCast_nonneg _ | (simp only [i64max, u8max, u16max, u32max, u64max]; omega) | (simp only [mulSz_eq, Cont.len, colsLen, Col.len, List.length_cons, List.length_nil, List.length_replicate, List.length_append]; first | done | omega) | (simp [mulSz, Cont.len, bne]; first | done | omega)))); conv => whnf)
            | (refine tst_in ?_ ?_; (focus (intro h_; exfalso; first | omega | ((try simp only [decide_eq_true_eq, decide_eq_false_iff_not] at h_); omega) | (simp [mulSz, Cont.len, bne] at h_; first | done | omega))); intro _; conv => whnf)
            | (refine tst_in ?_ ?_; rotate_left; (focus (intro h_; exfalso; first | omega | ((try simp only [decide_eq_true_eq, decide_eq_false_iff_not] at h_); omega) | (simp [mulSz, Cont.len, bne] at h_; first | done | omega))); intro _; conv => whnf)
            | (refine ⟨0, (show _ = _ by omega), ?_⟩; conv => whnf))
          refine ⟨[0], (i + 1, n), ?_, (by show i + 1 ≤ s.size; omega), (by show s.size - (i + 1) < s.size - i; omega)⟩
          show stLe _ _ (st35 p s (i + 1) n) _
          conv => whnf
          repeat' (first | exact True.intro | rfl | refine And.intro ?_ ?_)
          all_goals (conv => whnf)
          repeat' (first | exact True.intro | rfl | refine And.intro ?_ ?_)
          all_goals (try omega)
          rw [← hE, bb_all, ← crc_append]; rfl
    · skip
      have h1 : i = s.size := by simp at h1'; omega
      conv => whnf
      refine .inl ⟨(), [], ?_⟩
      conv => whnf
      repeat' (first | exact True.intro | rfl | refine And.intro ?_ ?_)
      all_goals (conv => whnf)
      repeat' (first | exact True.intro | rfl | refine And.intro ?_ ?_)
      all_goals (try omega)
      rw [h1]
noncomputable def c33 : Code := (Try.f33.body).getD .skip
def crc32 (s : ByteArray) : Nat := crc 32 79764919 0 (bst (byteAt s) s.size)
theorem crc32_lt (s : ByteArray) : crc32 s < 4294967296 := crc_lt (W := 32) (by decide) _ _ (by decide)
set_option maxHeartbeats 0 in
set_option maxRecDepth 100000 in
theorem bytes32_f (s : ByteArray) (hs : s.size ≤ 140737488355328) : Fits Try.prog 33 ⟨[.str s], [], [numOut [] (.int .u32 (crc32 s : Nat))]⟩ := by
  have OF := of32_f 79764919 s (by decide) hs
  refine fits_of_body (C := cfgs 0) (c := c33) (ts := [2]) tokL mixedL (fun _ => none) (fun _ => none)
    Try.func33 (by kernel_rfl) (by kernel_rfl) (by kernel_rfl) (by kernel_rfl) rfl ?_
  conv => whnf
  refine ⟨_, [], OF, ?_⟩
  conv => whnf
  iterate 2
   refine And.intro ?_ ?_
   focus
    conv => whnf
    repeat' (first | exact True.intro | rfl | refine And.intro ?_ ?_ | omega)
    all_goals (conv => whnf)
    all_goals (try (first | rfl | omega | (simp; done)))
  conv => whnf
  refine ⟨?_, True.intro⟩
  intro _ _
  conv => whnf
  conv => whnf
  refine .inl ⟨(), [], ?_⟩
  conv => whnf
  repeat' (first | exact True.intro | rfl | refine And.intro ?_ ?_)
  all_goals (conv => whnf)
  repeat' (first | exact True.intro | rfl | refine And.intro ?_ ?_)
  all_goals (try omega)
noncomputable def c36 : Code := (Try.f36.body).getD .skip
def st36 (p : Nat) (s : ByteArray) (i n : Nat) : St := ⟨slotsAt 30 [(0, .int .u16 p), (1, .str s), (5, .int .u16 (crc 16 p 0 (bst (byteAt s) i) : Nat)), (10, .slice 0 0 s.size (s.size + n)), (11, .int .i64 s.size), (12, .int .i64 i)], [.seg true (.ints .u8 (bytL s ++ List.replicate n 0))]⟩
def inv36 (p : Nat) (s : ByteArray) : LInv := ⟨Nat × Nat, fun t => st36 p s t.1 t.2, fun t => t.1 ≤ s.size, fun t => s.size - t.1⟩
def st36b (p : Nat) (s : ByteArray) (i n j : Nat) : St := ⟨slotsAt 30 [(0, .int .u16 p), (1, .str s), (5, .int .u16 (crc 16 p (crc 16 p 0 (bst (byteAt s) i)) ((bb (byteAt s i)).take j) : Nat)), (7, .int .u8 (byteAt s i)), (8, .int .i64 (7 - (j : Int))), (10, .slice 0 0 s.size (s.size + n)), (11, .int .i64 s.size), (12, .int .i64 i)], [.seg true (.ints .u8 (bytL s ++ List.replicate n 0))]⟩
def inv36b (p : Nat) (s : ByteArray) (st : St) : LInv := ⟨Nat × Nat, fun t => st36b p s (natAt st 12) t.1 t.2, fun t => t.2 ≤ 8, fun t => 8 - t.2⟩
set_option maxHeartbeats 0 in
set_option maxRecDepth 100000 in
theorem of16_f (p : Nat) (s : ByteArray) (hp : p < 65536) (hs : s.size ≤ 140737488355328) : Fits Try.prog 36 ⟨[.int .u16 p, .str s], [], [numOut [] (.int .u16 (crc 16 p 0 (bst (byteAt s) s.size) : Nat))]⟩ := by
  refine fits_of_body (C := { cfgs 0 with dep := fun | 6 => some (inv36b p s) | _ => none }) (c := c36) (ts := [4]) tokL mixedL (fun | 3 => some (inv36 p s) | _ => none) (fun _ => none)
    Try.func36 (by kernel_rfl) (by kernel_rfl) (by kernel_rfl) (by kernel_rfl) rfl ?_
  conv => whnf
  intro n
  conv => whnf
  refine ⟨⟨[0], (0, n), ?_, Nat.zero_le _⟩, ?_⟩
  · show stLe _ _ (st36 p s 0 n) _
    conv => whnf
    repeat' (first | exact True.intro | rfl | refine And.intro ?_ ?_)
    all_goals (conv => whnf)
    repeat' (first | exact True.intro | rfl | refine And.intro ?_ ?_)
    all_goals (try omega)
  · intro ⟨i, n⟩ (hi : i ≤ s.size)
    show forceSt (st36 p s i n) _
    have hC : crc 16 p 0 (bst (byteAt s) i) < 65536 := crc_lt (W := 16) hp _ _ (by decide)
    conv => whnf
    refine tst_in (fun h1 => ?_) (fun h1' => ?_)
    · skip
      have h1 : i < s.size := by simp at h1; omega
      conv => whnf
      repeat (first
        | (refine And.intro ?_ ?_; (focus (first | omega | decide | exact EqOk.mk (by kernel_rfl) (by kernel_rfl) (by kernel_rfl) | exact Int.natCast_nonneg _ | ((repeat' refine And.intro ?_ ?_) <;> first | omega | exact Int.natCast_nonneg _ | (simp only [i64max, u8max, u16max, u32max, u64max]; omega) | (simp only [mulSz_eq, Cont.len, colsLen, Col.len, List.length_cons, List.length_nil, List.length_replicate, List.length_append, bytL_len, List.length_append, List.length_replicate]; first | done | omega) | (simp [mulSz, Cont.len, bne, bytL_len, List.length_append, List.length_replicate]; first | done | omega)))); conv => whnf)
        | (refine tst_in ?_ ?_; (focus (intro h_; exfalso; first | omega | ((try simp only [decide_eq_true_eq, decide_eq_false_iff_not] at h_); omega) | (simp [mulSz, Cont.len, bne, bytL_len, List.length_append, List.length_replicate] at h_; first | done | omega))); intro _; conv => whnf)
        | (refine tst_in ?_ ?_; rotate_left; (focus (intro h_; exfalso; first | omega | ((try simp only [decide_eq_true_eq, decide_eq_false_iff_not] at h_); omega) | (simp [mulSz, Cont.len, bne, bytL_len, List.length_append, List.length_replicate] at h_; first | done | omega))); intro _; conv => whnf)
        | (refine ⟨0, (show _ = _ by omega), ?_⟩; conv => whnf))
      refine ⟨⟨[0], (n, 0), ?_, Nat.zero_le _⟩, ?_⟩
      · show stLe _ _ (st36b p s i n 0) _
        conv => whnf
        repeat' (first | exact True.intro | rfl | refine And.intro ?_ ?_)
        all_goals (conv => whnf)
        repeat' (first | exact True.intro | rfl | refine And.intro ?_ ?_)
        all_goals (try omega)
        rw [show 0 + (i : Int).toNat = i by omega]
        exact (bytL_get s _ h1).symm
      · intro ⟨n, j⟩ (hj : j ≤ 8)
        show forceSt (st36b p s i n j) _
        have hD : crc 16 p (crc 16 p 0 (bst (byteAt s) i)) ((bb (byteAt s i)).take j) < 65536 := crc_lt (W := 16) hp _ _ hC
        generalize hE : crc 16 p (crc 16 p 0 (bst (byteAt s) i)) ((bb (byteAt s i)).take j) = D at hD
        have hx := byteAt_lt s i
        conv => whnf
        rw [hE]
        refine tst_in (fun h2 => ?_) (fun h2' => ?_)
        · skip
          have h2 : j < 8 := by rw [dLe_eq] at h2; simp at h2; omega
          conv => whnf
          rw [shb_eq (byteAt s i) (7 - j) (7 - (j : Int)) (by omega) (by omega)]
          have hsr : byteAt s i >>> (7 - j) ≤ byteAt s i := Nat.shiftRight_le _ _
          conv => whnf
          repeat (first
            | (refine And.intro ?_ ?_; (focus (first | omega | decide | exact EqOk.mk (by kernel_rfl) (by kernel_rfl) (by kernel_rfl) | exact Int.natCast_nonneg _ | ((repeat' refine And.intro ?_ ?_) <;> first | omega | exact Int.natCast_nonneg _ | (simp only [i64max, u8max, u16max, u32max, u64max]; omega) | (simp only [mulSz_eq, Cont.len, colsLen, Col.len, List.length_cons, List.length_nil, List.length_replicate, List.length_append, u8max]; first | done | omega) | (simp [mulSz, Cont.len, bne, u8max]; first | done | omega)))); conv => whnf)
            | (refine tst_in ?_ ?_; (focus (intro h_; exfalso; first | omega | ((try simp only [decide_eq_true_eq, decide_eq_false_iff_not] at h_); omega) | (simp [mulSz, Cont.len, bne, u8max] at h_; first | done | omega))); intro _; conv => whnf)
            | (refine tst_in ?_ ?_; rotate_left; (focus (intro h_; exfalso; first | omega | ((try simp only [decide_eq_true_eq, decide_eq_false_iff_not] at h_); omega) | (simp [mulSz, Cont.len, bne, u8max] at h_; first | done | omega))); intro _; conv => whnf)
            | (refine ⟨0, (show _ = _ by omega), ?_⟩; conv => whnf))
          rw [bit_eq]
          have NX := next16_f D p ((byteAt s i).testBit (7 - j)) hD hp
          refine ⟨_, [], NX, ?_⟩
          conv => whnf
          iterate 2
           refine And.intro ?_ ?_
           focus
            conv => whnf
            repeat' (first | exact True.intro | rfl | refine And.intro ?_ ?_ | omega)
            all_goals (conv => whnf)
            all_goals (try (first | rfl | omega | (simp; done)))
          conv => whnf
          refine ⟨?_, True.intro⟩
          intro _ _
          conv => whnf
          conv => whnf
          repeat (first
            | (refine And.intro ?_ ?_; (focus (first | omega | decide | exact EqOk.mk (by kernel_rfl) (by kernel_rfl) (by kernel_rfl) | exact Int.natCast_nonneg _ | ((repeat' refine And.intro ?_ ?_) <;> first | omega | exact Int.natCast_nonneg _ | (simp only [i64max, u8max, u16max, u32max, u64max]; omega) | (simp only [mulSz_eq, Cont.len, colsLen, Col.len, List.length_cons, List.length_nil, List.length_replicate, List.length_append]; first | done | omega) | (simp [mulSz, Cont.len, bne]; first | done | omega)))); conv => whnf)
            | (refine tst_in ?_ ?_; (focus (intro h_; exfalso; first | omega | ((try simp only [decide_eq_true_eq, decide_eq_false_iff_not] at h_); omega) | (simp [mulSz, Cont.len, bne] at h_; first | done | omega))); intro _; conv => whnf)
            | (refine tst_in ?_ ?_; rotate_left; (focus (intro h_; exfalso; first | omega | ((try simp only [decide_eq_true_eq, decide_eq_false_iff_not] at h_); omega) | (simp [mulSz, Cont.len, bne] at h_; first | done | omega))); intro _; conv => whnf)
            | (refine ⟨0, (show _ = _ by omega), ?_⟩; conv => whnf))
          refine ⟨[0], (n, j + 1), ?_, (by show j + 1 ≤ 8; omega), (by show 8 - (j + 1) < 8 - j; omega)⟩
          show stLe _ _ (st36b p s i n (j + 1)) _
          conv => whnf
          repeat' (first | exact True.intro | rfl | refine And.intro ?_ ?_)
          all_goals (conv => whnf)
          repeat' (first | exact True.intro | rfl | refine And.intro ?_ ?_)
          all_goals (try omega)
          rw [bb_take _ _ h2, crc_snoc, hE]
        · skip
          have h2 : j = 8 := by rw [dLe_eq] at h2'; simp at h2'; omega
          subst h2
          conv => whnf
          repeat (first
            | (refine And.intro ?_ ?_; (focus (first | omega | decide | exact EqOk.mk (by kernel_rfl) (by kernel_rfl) (by kernel_rfl) | exact Int.natCast_nonneg _ | ((repeat' refine And.intro ?_ ?_) <;> first | omega | exact Int.natCast_nonneg _ | (simp only [i64max, u8max, u16max, u32max, u64max]; omega) | (simp only [mulSz_eq, Cont.len, colsLen, Col.len, List.length_cons, List.length_nil, List.length_replicate, List.length_append]; first | done | omega) | (simp [mulSz, Cont.len, bne]; first | done | omega)))); conv => whnf)
            | (refine tst_in ?_ ?_; (focus (intro h_; exfalso; first | omega | ((try simp only [decide_eq_true_eq, decide_eq_false_iff_not] at h_); omega) | (simp [mulSz, Cont.len, bne] at h_; first | done | omega))); intro _; conv => whnf)
            | (refine tst_in ?_ ?_; rotate_left; (focus (intro h_; exfalso; first | omega | ((try simp only [decide_eq_true_eq, decide_eq_false_iff_not] at h_); omega) | (simp [mulSz, Cont.len, bne] at h_; first | done | omega))); intro _; conv => whnf)
            | (refine ⟨0, (show _ = _ by omega), ?_⟩; conv => whnf))
          refine ⟨[0], (i + 1, n), ?_, (by show i + 1 ≤ s.size; omega), (by show s.size - (i + 1) < s.size - i; omega)⟩
          show stLe _ _ (st36 p s (i + 1) n) _
          conv => whnf
          repeat' (first | exact True.intro | rfl | refine And.intro ?_ ?_)
          all_goals (conv => whnf)
          repeat' (first | exact True.intro | rfl | refine And.intro ?_ ?_)
          all_goals (try omega)
          rw [← hE, bb_all, ← crc_append]; rfl
    · skip
      have h1 : i = s.size := by simp at h1'; omega
      conv => whnf
      refine .inl ⟨(), [], ?_⟩
      conv => whnf
      repeat' (first | exact True.intro | rfl | refine And.intro ?_ ?_)
      all_goals (conv => whnf)
      repeat' (first | exact True.intro | rfl | refine And.intro ?_ ?_)
      all_goals (try omega)
      rw [h1]
noncomputable def c34 : Code := (Try.f34.body).getD .skip
def crc16 (s : ByteArray) : Nat := crc 16 4129 0 (bst (byteAt s) s.size)
theorem crc16_lt (s : ByteArray) : crc16 s < 65536 := crc_lt (W := 16) (by decide) _ _ (by decide)
set_option maxHeartbeats 0 in
set_option maxRecDepth 100000 in
theorem bytes16_f (s : ByteArray) (hs : s.size ≤ 140737488355328) : Fits Try.prog 34 ⟨[.str s], [], [numOut [] (.int .u16 (crc16 s : Nat))]⟩ := by
  have OF := of16_f 4129 s (by decide) hs
  refine fits_of_body (C := cfgs 0) (c := c34) (ts := [2]) tokL mixedL (fun _ => none) (fun _ => none)
    Try.func34 (by kernel_rfl) (by kernel_rfl) (by kernel_rfl) (by kernel_rfl) rfl ?_
  conv => whnf
  refine ⟨_, [], OF, ?_⟩
  conv => whnf
  iterate 2
   refine And.intro ?_ ?_
   focus
    conv => whnf
    repeat' (first | exact True.intro | rfl | refine And.intro ?_ ?_ | omega)
    all_goals (conv => whnf)
    all_goals (try (first | rfl | omega | (simp; done)))
  conv => whnf
  refine ⟨?_, True.intro⟩
  intro _ _
  conv => whnf
  conv => whnf
  refine .inl ⟨(), [], ?_⟩
  conv => whnf
  repeat' (first | exact True.intro | rfl | refine And.intro ?_ ?_)
  all_goals (conv => whnf)
  repeat' (first | exact True.intro | rfl | refine And.intro ?_ ?_)
  all_goals (try omega)
end Go.Proofs.Ytdkogicikhlicaa

set_option linter.unusedVariables false
set_option linter.unusedSimpArgs false
namespace Go.Proofs.Ytdkogicikhlicaa
open Go Go.Fw
def tx (l : List Int) : ByteArray := ⟨⟨l.map fun n => UInt8.ofNat n.toNat⟩⟩
theorem tx_size (l : List Int) : (tx l).size = l.length := by unfold tx; show (l.map _).length = _; rw [List.length_map]
def tx4 (c : Nat) : ByteArray := tx [((c / 16777216 % 256 : Nat) : Int), ((c / 65536 % 256 : Nat) : Int), ((c / 256 % 256 : Nat) : Int), ((c % 256 : Nat) : Int)]
def sealT (s : ByteArray) : ByteArray := s ++ tx4 (crc32 s)
def frA (k n : Int) (m : Bool) (b : ByteArray) : AV := .agg [.int .u8 k, .int .u8 n, .bool m, .str b]
theorem u8wrap (n : Int) : IntKind.u8.wrap n = n % 256 := by
  unfold IntKind.wrap
  simp [IntKind.bits, IntKind.signed]
theorem tx4_eq (c : Nat) : (⟨⟨List.map (fun n => UInt8.ofNat n.toNat) (List.take 4 (List.drop 0 [IntKind.u8.wrap ((c : Int) / 2 ^ min (Int.toNat 24) IntKind.u32.bits), IntKind.u8.wrap ((c : Int) / 2 ^ min (Int.toNat 16) IntKind.u32.bits), IntKind.u8.wrap ((c : Int) / 2 ^ min (Int.toNat 8) IntKind.u32.bits), IntKind.u8.wrap (c : Int)]))⟩⟩ : ByteArray) = tx4 c := by
  unfold tx4 tx
  rw [u8wrap, u8wrap, u8wrap, u8wrap]
  show (⟨⟨List.map _ [((c : Int) / 16777216) % 256, ((c : Int) / 65536) % 256, ((c : Int) / 256) % 256, (c : Int) % 256]⟩⟩ : ByteArray) = _
  rw [show ((c : Int) / 16777216) % 256 = ((c / 16777216 % 256 : Nat) : Int) by omega, show ((c : Int) / 65536) % 256 = ((c / 65536 % 256 : Nat) : Int) by omega, show ((c : Int) / 256) % 256 = ((c / 256 % 256 : Nat) : Int) by omega, show (c : Int) % 256 = ((c % 256 : Nat) : Int) by omega]
theorem tx4_size (c : Nat) : (tx4 c).size = 4 := tx_size _
noncomputable def c26 : Code := (Try.f26.body).getD .skip
set_option maxHeartbeats 0 in
set_option maxRecDepth 100000 in
theorem Sealed_f (s : ByteArray) (hs : s.size ≤ 140737488355328) : Fits Try.prog 26 ⟨[.str s], [], [numOut [] (.str (sealT s))]⟩ := by
  have B := bytes32_f s hs
  have hc := crc32_lt s
  unfold sealT
  generalize crc32 s = c at *
  refine fits_of_body (C := cfgs 0) (c := c26) (ts := [2]) tokL mixedL (fun _ => none) (fun _ => none)
    Try.func26 (by kernel_rfl) (by kernel_rfl) (by kernel_rfl) (by kernel_rfl) rfl ?_
  conv => whnf
  refine ⟨_, [], B, ?_⟩
  conv => whnf
  iterate 2
   refine And.intro ?_ ?_
   focus
    conv => whnf
    repeat' (first | exact True.intro | rfl | refine And.intro ?_ ?_ | omega)
    all_goals (conv => whnf)
    all_goals (try (first | rfl | omega | (simp; done)))
  conv => whnf
  refine ⟨?_, True.intro⟩
  intro _ _
  conv => whnf
  conv => whnf
  repeat (first
    | (refine And.intro ?_ ?_; (focus (first | omega | decide | exact EqOk.mk (by kernel_rfl) (by kernel_rfl) (by kernel_rfl) | exact Int.natCast_nonneg _ | ((repeat' refine And.intro ?_ ?_) <;> first | omega | exact Int.natCast_nonneg _ | (simp only [i64max, u8max, u16max, u32max, u64max]; omega) | (simp only [mulSz_eq, Cont.len, colsLen, Col.len, List.length_cons, List.length_nil, List.length_replicate, List.length_append]; first | done | omega) | (simp [mulSz, Cont.len, bne]; first | done | omega)))); conv => whnf)
    | (refine tst_in ?_ ?_; (focus (intro h_; exfalso; first | omega | ((try simp only [decide_eq_true_eq, decide_eq_false_iff_not] at h_); omega) | (simp [mulSz, Cont.len, bne] at h_; first | done | omega))); intro _; conv => whnf)
    | (refine tst_in ?_ ?_; rotate_left; (focus (intro h_; exfalso; first | omega | ((try simp only [decide_eq_true_eq, decide_eq_false_iff_not] at h_); omega) | (simp [mulSz, Cont.len, bne] at h_; first | done | omega))); intro _; conv => whnf)
    | (refine ⟨0, (show _ = _ by omega), ?_⟩; conv => whnf))
  rw [tx4_eq]
  conv => whnf
  repeat (first
    | (refine And.intro ?_ ?_; (focus (first | omega | decide | exact EqOk.mk (by kernel_rfl) (by kernel_rfl) (by kernel_rfl) | exact Int.natCast_nonneg _ | ((repeat' refine And.intro ?_ ?_) <;> first | omega | exact Int.natCast_nonneg _ | (simp only [i64max, u8max, u16max, u32max, u64max]; omega) | (simp only [mulSz_eq, Cont.len, colsLen, Col.len, List.length_cons, List.length_nil, List.length_replicate, List.length_append, tx4_size]; first | done | omega) | (simp [mulSz, Cont.len, bne, tx4_size]; first | done | omega)))); conv => whnf)
    | (refine tst_in ?_ ?_; (focus (intro h_; exfalso; first | omega | ((try simp only [decide_eq_true_eq, decide_eq_false_iff_not] at h_); omega) | (simp [mulSz, Cont.len, bne, tx4_size] at h_; first | done | omega))); intro _; conv => whnf)
    | (refine tst_in ?_ ?_; rotate_left; (focus (intro h_; exfalso; first | omega | ((try simp only [decide_eq_true_eq, decide_eq_false_iff_not] at h_); omega) | (simp [mulSz, Cont.len, bne, tx4_size] at h_; first | done | omega))); intro _; conv => whnf)
    | (refine ⟨0, (show _ = _ by omega), ?_⟩; conv => whnf))
  refine .inl ⟨(), [], ?_⟩
  conv => whnf
  repeat' (first | exact True.intro | rfl | refine And.intro ?_ ?_)
  all_goals (conv => whnf)
  repeat' (first | exact True.intro | rfl | refine And.intro ?_ ?_)
  all_goals (try omega)
noncomputable def c32 : Code := (Try.f32.body).getD .skip
def sm16 (a b c : Int) : Nat := crc16 (tx [a, b, c])
set_option maxHeartbeats 0 in
set_option maxRecDepth 100000 in
theorem summed_f (a b c d e : Int) : Fits Try.prog 32 ⟨[.agg [.int .u8 a, .int .u8 b, .int .u8 c, .int .u8 d, .int .u8 e]], [], [numOut [] (.agg [.int .u8 a, .int .u8 b, .int .u8 c, .int .u8 ((sm16 a b c / 256 : Nat) : Int), .int .u8 ((sm16 a b c % 256 : Nat) : Int)])]⟩ := by
  have B := bytes16_f (tx [a, b, c]) (by rw [tx_size]; show 3 ≤ 140737488355328; omega)
  have hc := crc16_lt (tx [a, b, c])
  unfold sm16
  generalize crc16 (tx [a, b, c]) = s at *
  have e1 : IntKind.u8.wrap ((s : Int) / 2 ^ (min (Int.toNat 8) (IntKind.bits .u16))) = ((s / 256 : Nat) : Int) := by
    rw [u8wrap]; show ((s : Int) / 256) % 256 = _; omega
  have e2 : IntKind.u8.wrap (s : Int) = ((s % 256 : Nat) : Int) := by rw [u8wrap]; omega
  refine fits_of_cell (C := cfgs 0) (c := c32) (t := 2) (ty := 56) tokL mixedL (fun _ => none) (fun _ => none)
    Try.func32 (by kernel_rfl) (by kernel_rfl) (by kernel_rfl) (by kernel_rfl) rfl ?_
  conv => whnf
  repeat (first
    | (refine And.intro ?_ ?_; (focus (first | omega | decide | exact EqOk.mk (by kernel_rfl) (by kernel_rfl) (by kernel_rfl) | exact Int.natCast_nonneg _ | ((repeat' refine And.intro ?_ ?_) <;> first | omega | exact Int.natCast_nonneg _ | (simp only [i64max, u8max, u16max, u32max, u64max]; omega) | (simp only [mulSz_eq, Cont.len, colsLen, Col.len, List.length_cons, List.length_nil, List.length_replicate, List.length_append]; first | done | omega) | (simp [mulSz, Cont.len, bne]; first | done | omega)))); conv => whnf)
    | (refine tst_in ?_ ?_; (focus (intro h_; exfalso; first | omega | ((try simp only [decide_eq_true_eq, decide_eq_false_iff_not] at h_); omega) | (simp [mulSz, Cont.len, bne] at h_; first | done | omega))); intro _; conv => whnf)
    | (refine tst_in ?_ ?_; rotate_left; (focus (intro h_; exfalso; first | omega | ((try simp only [decide_eq_true_eq, decide_eq_false_iff_not] at h_); omega) | (simp [mulSz, Cont.len, bne] at h_; first | done | omega))); intro _; conv => whnf)
    | (refine ⟨0, (show _ = _ by omega), ?_⟩; conv => whnf))
  refine ⟨_, [], B, ?_⟩
  conv => whnf
  iterate 2
   refine And.intro ?_ ?_
   focus
    conv => whnf
    repeat' (first | exact True.intro | rfl | refine And.intro ?_ ?_ | omega)
    all_goals (conv => whnf)
    all_goals (try (first | rfl | omega | (simp; done)))
  conv => whnf
  refine ⟨?_, True.intro⟩
  intro _ _
  conv => whnf
  conv => whnf
  repeat (first
    | (refine And.intro ?_ ?_; (focus (first | omega | decide | exact EqOk.mk (by kernel_rfl) (by kernel_rfl) (by kernel_rfl) | exact Int.natCast_nonneg _ | ((repeat' refine And.intro ?_ ?_) <;> first | omega | exact Int.natCast_nonneg _ | (simp only [i64max, u8max, u16max, u32max, u64max]; omega) | (simp only [mulSz_eq, Cont.len, colsLen, Col.len, List.length_cons, List.length_nil, List.length_replicate, List.length_append]; first | done | omega) | (simp [mulSz, Cont.len, bne]; first | done | omega)))); conv => whnf)
    | (refine tst_in ?_ ?_; (focus (intro h_; exfalso; first | omega | ((try simp only [decide_eq_true_eq, decide_eq_false_iff_not] at h_); omega) | (simp [mulSz, Cont.len, bne] at h_; first | done | omega))); intro _; conv => whnf)
    | (refine tst_in ?_ ?_; rotate_left; (focus (intro h_; exfalso; first | omega | ((try simp only [decide_eq_true_eq, decide_eq_false_iff_not] at h_); omega) | (simp [mulSz, Cont.len, bne] at h_; first | done | omega))); intro _; conv => whnf)
    | (refine ⟨0, (show _ = _ by omega), ?_⟩; conv => whnf))
  rw [e1, e2]
  refine .inl ⟨(), [], ?_⟩
  conv => whnf
  repeat' (first | exact True.intro | rfl | refine And.intro ?_ ?_)
  all_goals (conv => whnf)
  repeat' (first | exact True.intro | rfl | refine And.intro ?_ ?_)
  all_goals (try omega)
end Go.Proofs.Ytdkogicikhlicaa

set_option linter.unusedVariables false
set_option linter.unusedSimpArgs false
namespace Go.Proofs.Ytdkogicikhlicaa
open Go Go.Fw
def h0 (k : Int) (m : Bool) : Int := 16 * k + (if m then 1 else 0)
def hdA (k n : Int) (m : Bool) (z : Nat) : AV := .agg [.int .u8 (h0 k m), .int .u8 n, .int .u8 (z : Int), .int .u8 ((sm16 (h0 k m) n z / 256 : Nat) : Int), .int .u8 ((sm16 (h0 k m) n z % 256 : Nat) : Int)]
noncomputable def c24 : Code := (Try.f24.body).getD .skip
def mayB (k : Int) (b : ByteArray) : Bool := decide (1 ≤ k) && (decide (k ≤ 15) && decide (b.size ≤ 240))
set_option maxHeartbeats 0 in
set_option maxRecDepth 100000 in
theorem mayBe_f (k n : Int) (m : Bool) (b : ByteArray) : Fits Try.prog 24 ⟨[frA k n m b], [], [numOut [] (.bool (mayB k b))]⟩ := by
  refine fits_of_body (C := cfgs 0) (c := c24) (ts := [2]) tokL mixedL (fun _ => none) (fun _ => none)
    Try.func24 (by kernel_rfl) (by kernel_rfl) (by kernel_rfl) (by kernel_rfl) rfl ?_
  conv => whnf
  refine tst_in (fun h1 => ?_) (fun h1' => ?_)
  · skip
    rw [dLe_eq] at h1
    have h1 : 1 ≤ k := by simpa using h1
    conv => whnf
    refine tst_in (fun h2 => ?_) (fun h2' => ?_)
    · skip
      rw [dLe_eq] at h2
      have h2 : k ≤ 15 := by simpa using h2
      conv => whnf
      refine .inl ⟨(), [], ?_⟩
      conv => whnf
      repeat' (first | exact True.intro | rfl | refine And.intro ?_ ?_)
      all_goals (conv => whnf)
      repeat' (first | exact True.intro | rfl | refine And.intro ?_ ?_)
      all_goals (try omega)
      all_goals (rw [dLe_eq]; unfold mayB; simp [h1, h2]; omega)
    · skip
      rw [dLe_eq] at h2'
      have h2 : ¬ k ≤ 15 := by simpa using h2'
      conv => whnf
      refine .inl ⟨(), [], ?_⟩
      conv => whnf
      repeat' (first | exact True.intro | rfl | refine And.intro ?_ ?_)
      all_goals (conv => whnf)
      repeat' (first | exact True.intro | rfl | refine And.intro ?_ ?_)
      all_goals (try omega)
      all_goals (unfold mayB; simp [h1, h2])
  · skip
    rw [dLe_eq] at h1'
    have h1 : ¬ 1 ≤ k := by simpa using h1'
    conv => whnf
    refine .inl ⟨(), [], ?_⟩
    conv => whnf
    repeat' (first | exact True.intro | rfl | refine And.intro ?_ ?_)
    all_goals (conv => whnf)
    repeat' (first | exact True.intro | rfl | refine And.intro ?_ ?_)
    all_goals (try omega)
    all_goals (unfold mayB; simp [h1])
noncomputable def c27 : Code := (Try.f27.body).getD .skip
set_option maxHeartbeats 0 in
set_option maxRecDepth 100000 in
theorem May_f (k n : Int) (m : Bool) (b : ByteArray) : Fits Try.prog 27 ⟨[frA k n m b], [], [numOut [] (.bool (mayB k b))]⟩ := by
  refine fits_of_body (C := cfgs 0) (c := c27) (ts := [2]) tokL mixedL (fun _ => none) (fun _ => none)
    Try.func27 (by kernel_rfl) (by kernel_rfl) (by kernel_rfl) (by kernel_rfl) rfl ?_
  conv => whnf
  refine tst_in (fun h1 => ?_) (fun h1' => ?_)
  · skip
    rw [dLe_eq] at h1
    have h1 : 1 ≤ k := by simpa using h1
    conv => whnf
    refine tst_in (fun h2 => ?_) (fun h2' => ?_)
    · skip
      rw [dLe_eq] at h2
      have h2 : k ≤ 15 := by simpa using h2
      conv => whnf
      refine .inl ⟨(), [], ?_⟩
      conv => whnf
      repeat' (first | exact True.intro | rfl | refine And.intro ?_ ?_)
      all_goals (conv => whnf)
      repeat' (first | exact True.intro | rfl | refine And.intro ?_ ?_)
      all_goals (try omega)
      all_goals (rw [dLe_eq]; unfold mayB; simp [h1, h2]; omega)
    · skip
      rw [dLe_eq] at h2'
      have h2 : ¬ k ≤ 15 := by simpa using h2'
      conv => whnf
      refine .inl ⟨(), [], ?_⟩
      conv => whnf
      repeat' (first | exact True.intro | rfl | refine And.intro ?_ ?_)
      all_goals (conv => whnf)
      repeat' (first | exact True.intro | rfl | refine And.intro ?_ ?_)
      all_goals (try omega)
      all_goals (unfold mayB; simp [h1, h2])
  · skip
    rw [dLe_eq] at h1'
    have h1 : ¬ 1 ≤ k := by simpa using h1'
    conv => whnf
    refine .inl ⟨(), [], ?_⟩
    conv => whnf
    repeat' (first | exact True.intro | rfl | refine And.intro ?_ ?_)
    all_goals (conv => whnf)
    repeat' (first | exact True.intro | rfl | refine And.intro ?_ ?_)
    all_goals (try omega)
    all_goals (unfold mayB; simp [h1])
end Go.Proofs.Ytdkogicikhlicaa

set_option linter.unusedVariables false
set_option linter.unusedSimpArgs false
namespace Go.Proofs.Ytdkogicikhlicaa
open Go Go.Fw
noncomputable def c25 : Code := (Try.f25.body).getD .skip
set_option maxHeartbeats 0 in
set_option maxRecDepth 100000 in
theorem headOf_f (k n : Int) (m : Bool) (b : ByteArray) (hk : 1 ≤ k) (hk2 : k ≤ 15) (hn : 0 ≤ n) (hn2 : n ≤ 255) (hb : b.size ≤ 240) : Fits Try.prog 25 ⟨[frA k n m b], [], [numOut [] (hdA k n m b.size)]⟩ := by
  refine fits_of_cell (C := cfgs 0) (c := c25) (t := 2) (ty := 56) tokL mixedL (fun _ => none) (fun _ => none)
    Try.func25 (by kernel_rfl) (by kernel_rfl) (by kernel_rfl) (by kernel_rfl) rfl ?_
  have S1 := summed_f (16 * k) n b.size 0 0
  have S2 := summed_f (16 * k + 1) n b.size 0 0
  have e1 : IntKind.u8.wrap (k * 2 ^ (min (Int.toNat 4) (IntKind.bits .u8))) = 16 * k := by
    rw [u8wrap]; show (k * 16) % 256 = _; omega
  have e2 : IntKind.u8.wrap (b.size : Int) = b.size := by rw [u8wrap]; omega
  have hF : hdA k n false b.size = .agg [.int .u8 (16 * k), .int .u8 n, .int .u8 (b.size : Int), .int .u8 ((sm16 (16 * k) n b.size / 256 : Nat) : Int), .int .u8 ((sm16 (16 * k) n b.size % 256 : Nat) : Int)] := by
    unfold hdA h0; simp
  have hT : hdA k n true b.size = .agg [.int .u8 (16 * k + 1), .int .u8 n, .int .u8 (b.size : Int), .int .u8 ((sm16 (16 * k + 1) n b.size / 256 : Nat) : Int), .int .u8 ((sm16 (16 * k + 1) n b.size % 256 : Nat) : Int)] := by
    unfold hdA h0; simp
  have e3 : (((16 * k).toNat ||| (1 : Int).toNat : Nat) : Int) = 16 * k + 1 := by
    obtain ⟨j, rfl⟩ : ∃ j : Nat, k = j := ⟨k.toNat, by omega⟩
    show (((16 * (j : Int)).toNat ||| 1 : Nat) : Int) = _
    rw [show (16 * (j : Int)).toNat = 2 ^ 4 * j by omega, ← Nat.two_pow_add_eq_or_of_lt (i := 4) (by decide)]
    omega
  conv => whnf
  repeat (first
    | (refine And.intro ?_ ?_; (focus (first | omega | decide | exact EqOk.mk (by kernel_rfl) (by kernel_rfl) (by kernel_rfl) | exact Int.natCast_nonneg _ | ((repeat' refine And.intro ?_ ?_) <;> first | omega | exact Int.natCast_nonneg _ | (simp only [i64max, u8max, u16max, u32max, u64max]; omega) | (simp only [mulSz_eq, Cont.len, colsLen, Col.len, List.length_cons, List.length_nil, List.length_replicate, List.length_append]; first | done | omega) | (simp [mulSz, Cont.len, bne]; first | done | omega)))); conv => whnf)
    | (refine tst_in ?_ ?_; (focus (intro h_; exfalso; first | omega | ((try simp only [decide_eq_true_eq, decide_eq_false_iff_not] at h_); omega) | (simp [mulSz, Cont.len, bne] at h_; first | done | omega))); intro _; conv => whnf)
    | (refine tst_in ?_ ?_; rotate_left; (focus (intro h_; exfalso; first | omega | ((try simp only [decide_eq_true_eq, decide_eq_false_iff_not] at h_); omega) | (simp [mulSz, Cont.len, bne] at h_; first | done | omega))); intro _; conv => whnf)
    | (refine ⟨0, (show _ = _ by omega), ?_⟩; conv => whnf))
  rw [e1, e2]
  cases m
  · skip
    rw [hF]
    conv => whnf
    refine ⟨_, [], S1, ?_⟩
    conv => whnf
    iterate 2
     refine And.intro ?_ ?_
     focus
      conv => whnf
      repeat' (first | exact True.intro | rfl | refine And.intro ?_ ?_ | omega)
      all_goals (conv => whnf)
      all_goals (try (first | rfl | omega | (simp; done)))
    conv => whnf
    refine ⟨?_, True.intro⟩
    intro _ _
    conv => whnf
    conv => whnf
    refine .inl ⟨(), [], ?_⟩
    conv => whnf
    repeat' (first | exact True.intro | rfl | refine And.intro ?_ ?_)
    all_goals (conv => whnf)
    repeat' (first | exact True.intro | rfl | refine And.intro ?_ ?_)
    all_goals (try omega)
  · skip
    rw [hT]
    conv => whnf
    repeat (first
      | (refine And.intro ?_ ?_; (focus (first | omega | decide | exact EqOk.mk (by kernel_rfl) (by kernel_rfl) (by kernel_rfl) | exact Int.natCast_nonneg _ | ((repeat' refine And.intro ?_ ?_) <;> first | omega | exact Int.natCast_nonneg _ | (simp only [i64max, u8max, u16max, u32max, u64max]; omega) | (simp only [mulSz_eq, Cont.len, colsLen, Col.len, List.length_cons, List.length_nil, List.length_replicate, List.length_append, u8max]; first | done | omega) | (simp [mulSz, Cont.len, bne, u8max]; first | done | omega)))); conv => whnf)
      | (refine tst_in ?_ ?_; (focus (intro h_; exfalso; first | omega | ((try simp only [decide_eq_true_eq, decide_eq_false_iff_not] at h_); omega) | (simp [mulSz, Cont.len, bne, u8max] at h_; first | done | omega))); intro _; conv => whnf)
      | (refine tst_in ?_ ?_; rotate_left; (focus (intro h_; exfalso; first | omega | ((try simp only [decide_eq_true_eq, decide_eq_false_iff_not] at h_); omega) | (simp [mulSz, Cont.len, bne, u8max] at h_; first | done | omega))); intro _; conv => whnf)
      | (refine ⟨0, (show _ = _ by omega), ?_⟩; conv => whnf))
    rw [e3]
    conv => whnf
    repeat (first
      | (refine And.intro ?_ ?_; (focus (first | omega | decide | exact EqOk.mk (by kernel_rfl) (by kernel_rfl) (by kernel_rfl) | exact Int.natCast_nonneg _ | ((repeat' refine And.intro ?_ ?_) <;> first | omega | exact Int.natCast_nonneg _ | (simp only [i64max, u8max, u16max, u32max, u64max]; omega) | (simp only [mulSz_eq, Cont.len, colsLen, Col.len, List.length_cons, List.length_nil, List.length_replicate, List.length_append]; first | done | omega) | (simp [mulSz, Cont.len, bne]; first | done | omega)))); conv => whnf)
      | (refine tst_in ?_ ?_; (focus (intro h_; exfalso; first | omega | ((try simp only [decide_eq_true_eq, decide_eq_false_iff_not] at h_); omega) | (simp [mulSz, Cont.len, bne] at h_; first | done | omega))); intro _; conv => whnf)
      | (refine tst_in ?_ ?_; rotate_left; (focus (intro h_; exfalso; first | omega | ((try simp only [decide_eq_true_eq, decide_eq_false_iff_not] at h_); omega) | (simp [mulSz, Cont.len, bne] at h_; first | done | omega))); intro _; conv => whnf)
      | (refine ⟨0, (show _ = _ by omega), ?_⟩; conv => whnf))
    refine ⟨_, [], S2, ?_⟩
    conv => whnf
    iterate 2
     refine And.intro ?_ ?_
     focus
      conv => whnf
      repeat' (first | exact True.intro | rfl | refine And.intro ?_ ?_ | omega)
      all_goals (conv => whnf)
      all_goals (try (first | rfl | omega | (simp; done)))
    conv => whnf
    refine ⟨?_, True.intro⟩
    intro _ _
    conv => whnf
    conv => whnf
    refine .inl ⟨(), [], ?_⟩
    conv => whnf
    repeat' (first | exact True.intro | rfl | refine And.intro ?_ ?_)
    all_goals (conv => whnf)
    repeat' (first | exact True.intro | rfl | refine And.intro ?_ ?_)
    all_goals (try omega)
end Go.Proofs.Ytdkogicikhlicaa

set_option linter.unusedVariables false
set_option linter.unusedSimpArgs false
namespace Go.Proofs.Ytdkogicikhlicaa
open Go Go.Fw
def packT (k n : Int) (m : Bool) (b : ByteArray) : ByteArray :=
  tx [h0 k m, n, b.size, ((sm16 (h0 k m) n b.size / 256 : Nat) : Int), ((sm16 (h0 k m) n b.size % 256 : Nat) : Int)] ++ sealT b
theorem sealT_size (b : ByteArray) : (sealT b).size = b.size + 4 := by unfold sealT; rw [ByteArray.size_append, tx4_size]
noncomputable def c9 : Code := (Try.f9.body).getD .skip
def cfg9 : Cfg := { cfgs 0 with plan := fun | 4 => some (.nn (.op 2 (.op 3 (.rd 0 (.rd 1 (.op 4 (.chk [1, 0] (.op 5 (.op 6 (.op 7 .done)))))))))) | _ => none }
set_option maxHeartbeats 0 in
set_option maxRecDepth 100000 in
theorem Pack_y (k n : Int) (m : Bool) (b : ByteArray) (hm : mayB k b = true) (hn : 0 ≤ n) (hn2 : n ≤ 255) : Fits Try.prog 9 ⟨[frA k n m b], [], [numOut [] (.tup [.str (packT k n m b), .int .i64 0])]⟩ := by
  have hm' := hm
  unfold mayB at hm'
  simp only [Bool.and_eq_true, decide_eq_true_eq] at hm'
  obtain ⟨hk, hk2, hb⟩ := hm'
  have MB := mayBe_f k n m b
  rw [hm] at MB
  have HO := headOf_f k n m b hk hk2 hn hn2 hb
  have SE := Sealed_f b (by omega)
  have hz := sealT_size b
  unfold hdA at HO
  unfold packT
  generalize h0 k m = a at *
  generalize sm16 a n b.size = s at *
  generalize sealT b = Z at *
  refine fits_of_body (C := cfg9) (c := c9) (ts := [2, 3]) tokL mixedL (fun _ => none) (fun _ => none)
    Try.func9 (by kernel_rfl) (by kernel_rfl) (by kernel_rfl) (by kernel_rfl) rfl ?_
  conv => whnf
  refine ⟨_, [], MB, ?_⟩
  conv => whnf
  iterate 2
   refine And.intro ?_ ?_
   focus
    conv => whnf
    repeat' (first | exact True.intro | rfl | refine And.intro ?_ ?_ | omega)
    all_goals (conv => whnf)
    all_goals (try (first | rfl | omega | (simp; done)))
  conv => whnf
  refine ⟨?_, True.intro⟩
  intro _ _
  conv => whnf
  conv => whnf
  refine ⟨_, [], HO, ?_⟩
  conv => whnf
  iterate 2
   refine And.intro ?_ ?_
   focus
    conv => whnf
    repeat' (first | exact True.intro | rfl | refine And.intro ?_ ?_ | omega)
    all_goals (conv => whnf)
    all_goals (try (first | rfl | omega | (simp; done)))
  conv => whnf
  refine ⟨?_, True.intro⟩
  intro _ _
  conv => whnf
  conv => whnf
  refine ⟨_, [], SE, ?_⟩
  conv => whnf
  iterate 2
   refine And.intro ?_ ?_
   focus
    conv => whnf
    repeat' (first | exact True.intro | rfl | refine And.intro ?_ ?_ | omega)
    all_goals (conv => whnf)
    all_goals (try (first | rfl | omega | (simp; done)))
  conv => whnf
  refine ⟨?_, True.intro⟩
  intro _ _
  conv => whnf
  conv => whnf
  repeat (first
    | (refine And.intro ?_ ?_; (focus (first | omega | decide | exact EqOk.mk (by kernel_rfl) (by kernel_rfl) (by kernel_rfl) | exact Int.natCast_nonneg _ | ((repeat' refine And.intro ?_ ?_) <;> first | omega | exact Int.natCast_nonneg _ | (simp only [i64max, u8max, u16max, u32max, u64max]; omega) | (simp only [mulSz_eq, Cont.len, colsLen, Col.len, List.length_cons, List.length_nil, List.length_replicate, List.length_append]; first | done | omega) | (simp [mulSz, Cont.len, bne]; first | done | omega)))); conv => whnf)
    | (refine tst_in ?_ ?_; (focus (intro h_; exfalso; first | omega | ((try simp only [decide_eq_true_eq, decide_eq_false_iff_not] at h_); omega) | (simp [mulSz, Cont.len, bne] at h_; first | done | omega))); intro _; conv => whnf)
    | (refine tst_in ?_ ?_; rotate_left; (focus (intro h_; exfalso; first | omega | ((try simp only [decide_eq_true_eq, decide_eq_false_iff_not] at h_); omega) | (simp [mulSz, Cont.len, bne] at h_; first | done | omega))); intro _; conv => whnf)
    | (refine ⟨0, (show _ = _ by omega), ?_⟩; conv => whnf))
  refine ⟨by show (tx [a, n, b.size, ((s / 256 : Nat) : Int), ((s % 256 : Nat) : Int)]).size + Z.size ≤ _; rw [tx_size, hz]; simp only [List.length_cons, List.length_nil]; omega, ?_⟩
  conv => whnf
  repeat (first
    | (refine And.intro ?_ ?_; (focus (first | omega | decide | exact EqOk.mk (by kernel_rfl) (by kernel_rfl) (by kernel_rfl) | exact Int.natCast_nonneg _ | ((repeat' refine And.intro ?_ ?_) <;> first | omega | exact Int.natCast_nonneg _ | (simp only [i64max, u8max, u16max, u32max, u64max]; omega) | (simp only [mulSz_eq, Cont.len, colsLen, Col.len, List.length_cons, List.length_nil, List.length_replicate, List.length_append]; first | done | omega) | (simp [mulSz, Cont.len, bne]; first | done | omega)))); conv => whnf)
    | (refine tst_in ?_ ?_; (focus (intro h_; exfalso; first | omega | ((try simp only [decide_eq_true_eq, decide_eq_false_iff_not] at h_); omega) | (simp [mulSz, Cont.len, bne] at h_; first | done | omega))); intro _; conv => whnf)
    | (refine tst_in ?_ ?_; rotate_left; (focus (intro h_; exfalso; first | omega | ((try simp only [decide_eq_true_eq, decide_eq_false_iff_not] at h_); omega) | (simp [mulSz, Cont.len, bne] at h_; first | done | omega))); intro _; conv => whnf)
    | (refine ⟨0, (show _ = _ by omega), ?_⟩; conv => whnf))
  refine .inl ⟨(), [], ?_⟩
  conv => whnf
  repeat' (first | exact True.intro | rfl | refine And.intro ?_ ?_)
  all_goals (conv => whnf)
  repeat' (first | exact True.intro | rfl | refine And.intro ?_ ?_)
  all_goals (try omega)
set_option maxHeartbeats 0 in
set_option maxRecDepth 100000 in
theorem Pack_n (k n : Int) (m : Bool) (b : ByteArray) (hm : mayB k b = false) : Fits Try.prog 9 ⟨[frA k n m b], [], [numOut [] (.tup [.str ⟨#[]⟩, .int .i64 1])]⟩ := by
  have MB := mayBe_f k n m b
  rw [hm] at MB
  refine fits_of_body (C := cfg9) (c := c9) (ts := [2, 3]) tokL mixedL (fun _ => none) (fun _ => none)
    Try.func9 (by kernel_rfl) (by kernel_rfl) (by kernel_rfl) (by kernel_rfl) rfl ?_
  conv => whnf
  refine ⟨_, [], MB, ?_⟩
  conv => whnf
  iterate 2
   refine And.intro ?_ ?_
   focus
    conv => whnf
    repeat' (first | exact True.intro | rfl | refine And.intro ?_ ?_ | omega)
    all_goals (conv => whnf)
    all_goals (try (first | rfl | omega | (simp; done)))
  conv => whnf
  refine ⟨?_, True.intro⟩
  intro _ _
  conv => whnf
  conv => whnf
  refine .inl ⟨(), [], ?_⟩
  conv => whnf
  repeat' (first | exact True.intro | rfl | refine And.intro ?_ ?_)
  all_goals (conv => whnf)
  repeat' (first | exact True.intro | rfl | refine And.intro ?_ ?_)
  all_goals (try omega)
noncomputable def c30 : Code := (Try.f30.body).getD .skip
def aheadT (s : ByteArray) : ByteArray := s.extract 0 (s.size - 4)
theorem toList_inj {a b : ByteArray} : a.toList = b.toList ↔ a = b := by
  rw [ByteArray.toList_eq, ByteArray.toList_eq]
  constructor
  · intro h
    exact ByteArray.ext (Array.toList_inj.1 h)
  · rintro rfl; rfl
theorem beq_bytes (a b : ByteArray) : (a.toList == b.toList) = decide (a = b) := by
  rw [Bool.eq_iff_iff, beq_iff_eq, decide_eq_true_eq, toList_inj]
set_option maxHeartbeats 0 in
set_option maxRecDepth 100000 in
theorem Opened_y (s : ByteArray) (hs : 4 ≤ s.size) (hs2 : s.size ≤ 140737488355328) (h : sealT (aheadT s) = s) : Fits Try.prog 30 ⟨[.str s], [], [numOut [] (.tup [.str (aheadT s), .bool true])]⟩ := by
  have hz : (aheadT s).size = s.size - 4 := by unfold aheadT; rw [ByteArray.size_extract]; omega
  have SE := Sealed_f (aheadT s) (by omega)
  rw [h] at SE
  have he : (s.toList == s.toList) = true := by rw [beq_bytes]; simp
  refine fits_of_body (C := cfgs 0) (c := c30) (ts := [2, 3]) tokL mixedL (fun _ => none) (fun _ => none)
    Try.func30 (by kernel_rfl) (by kernel_rfl) (by kernel_rfl) (by kernel_rfl) rfl ?_
  have e1 : ((s.size : Int) - 4).toNat = s.size - 4 := by omega
  conv => whnf
  repeat (first
    | (refine And.intro ?_ ?_; (focus (first | omega | decide | exact EqOk.mk (by kernel_rfl) (by kernel_rfl) (by kernel_rfl) | exact Int.natCast_nonneg _ | ((repeat' refine And.intro ?_ ?_) <;> first | omega | exact Int.natCast_nonneg _ | (simp only [i64max, u8max, u16max, u32max, u64max]; omega) | (simp only [mulSz_eq, Cont.len, colsLen, Col.len, List.length_cons, List.length_nil, List.length_replicate, List.length_append]; first | done | omega) | (simp [mulSz, Cont.len, bne]; first | done | omega)))); conv => whnf)
    | (refine tst_in ?_ ?_; (focus (intro h_; exfalso; first | omega | ((try simp only [decide_eq_true_eq, decide_eq_false_iff_not] at h_); omega) | (simp [mulSz, Cont.len, bne] at h_; first | done | omega))); intro _; conv => whnf)
    | (refine tst_in ?_ ?_; rotate_left; (focus (intro h_; exfalso; first | omega | ((try simp only [decide_eq_true_eq, decide_eq_false_iff_not] at h_); omega) | (simp [mulSz, Cont.len, bne] at h_; first | done | omega))); intro _; conv => whnf)
    | (refine ⟨0, (show _ = _ by omega), ?_⟩; conv => whnf))
  rw [e1]
  refine ⟨_, [], SE, ?_⟩
  conv => whnf
  iterate 2
   refine And.intro ?_ ?_
   focus
    conv => whnf
    repeat' (first | exact True.intro | rfl | refine And.intro ?_ ?_ | omega)
    all_goals (conv => whnf)
    all_goals (try (first | rfl | omega | (simp; done)))
  conv => whnf
  refine ⟨?_, True.intro⟩
  intro _ _
  conv => whnf
  conv => whnf
  rw [he]
  conv => whnf
  refine .inl ⟨(), [], ?_⟩
  conv => whnf
  repeat' (first | exact True.intro | rfl | refine And.intro ?_ ?_)
  all_goals (conv => whnf)
  repeat' (first | exact True.intro | rfl | refine And.intro ?_ ?_)
  all_goals (try omega)
set_option maxHeartbeats 0 in
set_option maxRecDepth 100000 in
theorem Opened_n (s : ByteArray) (hs : 4 ≤ s.size) (hs2 : s.size ≤ 140737488355328) (h : sealT (aheadT s) ≠ s) : Fits Try.prog 30 ⟨[.str s], [], [numOut [] (.tup [.str ⟨#[]⟩, .bool false])]⟩ := by
  have hz : (aheadT s).size = s.size - 4 := by unfold aheadT; rw [ByteArray.size_extract]; omega
  have SE := Sealed_f (aheadT s) (by omega)
  have he : ((sealT (aheadT s)).toList == s.toList) = false := by rw [beq_bytes]; simp [h]
  refine fits_of_body (C := cfgs 0) (c := c30) (ts := [2, 3]) tokL mixedL (fun _ => none) (fun _ => none)
    Try.func30 (by kernel_rfl) (by kernel_rfl) (by kernel_rfl) (by kernel_rfl) rfl ?_
  have e1 : ((s.size : Int) - 4).toNat = s.size - 4 := by omega
  conv => whnf
  repeat (first
    | (refine And.intro ?_ ?_; (focus (first | omega | decide | exact EqOk.mk (by kernel_rfl) (by kernel_rfl) (by kernel_rfl) | exact Int.natCast_nonneg _ | ((repeat' refine And.intro ?_ ?_) <;> first | omega | exact Int.natCast_nonneg _ | (simp only [i64max, u8max, u16max, u32max, u64max]; omega) | (simp only [mulSz_eq, Cont.len, colsLen, Col.len, List.length_cons, List.length_nil, List.length_replicate, List.length_append]; first | done | omega) | (simp [mulSz, Cont.len, bne]; first | done | omega)))); conv => whnf)
    | (refine tst_in ?_ ?_; (focus (intro h_; exfalso; first | omega | ((try simp only [decide_eq_true_eq, decide_eq_false_iff_not] at h_); omega) | (simp [mulSz, Cont.len, bne] at h_; first | done | omega))); intro _; conv => whnf)
    | (refine tst_in ?_ ?_; rotate_left; (focus (intro h_; exfalso; first | omega | ((try simp only [decide_eq_true_eq, decide_eq_false_iff_not] at h_); omega) | (simp [mulSz, Cont.len, bne] at h_; first | done | omega))); intro _; conv => whnf)
    | (refine ⟨0, (show _ = _ by omega), ?_⟩; conv => whnf))
  rw [e1]
  refine ⟨_, [], SE, ?_⟩
  conv => whnf
  iterate 2
   refine And.intro ?_ ?_
   focus
    conv => whnf
    repeat' (first | exact True.intro | rfl | refine And.intro ?_ ?_ | omega)
    all_goals (conv => whnf)
    all_goals (try (first | rfl | omega | (simp; done)))
  conv => whnf
  refine ⟨?_, True.intro⟩
  intro _ _
  conv => whnf
  conv => whnf
  rw [he]
  conv => whnf
  refine .inl ⟨(), [], ?_⟩
  conv => whnf
  repeat' (first | exact True.intro | rfl | refine And.intro ?_ ?_)
  all_goals (conv => whnf)
  repeat' (first | exact True.intro | rfl | refine And.intro ?_ ?_)
  all_goals (try omega)
end Go.Proofs.Ytdkogicikhlicaa

set_option linter.unusedVariables false
set_option linter.unusedSimpArgs false
namespace Go.Proofs.Ytdkogicikhlicaa
open Go Go.Fw
noncomputable def c29 : Code := (Try.f29.body).getD .skip
def cfg29 : Cfg := { cfgs 0 with plan := fun | 3 => some (.alt 0 (.lin [1, 2, 3, 4, 5, 6, 7, 8, 9, 10, 11, 12, 13, 14, 15] .done) (.alt 1 (.alt 0 (.lin [2, 3, 4, 5, 6, 7, 8, 9, 10, 11, 12, 13, 14, 15] .done) (.alt 2 (.lin [0, 3, 4, 5, 6, 7, 8, 9, 10, 11, 12, 13, 14, 15] .done) .fin)) .fin)) | _ => none }
def st29 (a b c d e : Nat) : St := ⟨slotsAt 40 [(1, .ptr 0 0), (2, .ptr 1 0), (3, .int .i64 c), (4, .bool false), (5, .int .u8 ((a / 16 : Nat) : Int)), (6, .int .u8 ((a % 16 : Nat) : Int))],
  [.seg true (.avs [.int .u8 a, .int .u8 b, .int .u8 c, .int .u8 d, .int .u8 e]), .seg true (.avs [.int .u8 0, .int .u8 0, .bool false, .str ⟨#[]⟩])]⟩
def cut29 (a b c d e : Nat) : LInv := ⟨Unit, fun _ => st29 a b c d e, fun _ => True, fun _ => 0⟩
def okH (a b c d e : Nat) : Prop := d = sm16 a b c / 256 ∧ e = sm16 a b c % 256 ∧ 1 ≤ a / 16 ∧ a % 16 ≤ 1 ∧ c ≤ 240
set_option maxHeartbeats 0 in
set_option maxRecDepth 100000 in
theorem frame_f (a b c d e : Nat) (ha : a < 256) (hb : b < 256) (hc : c < 256) (hd : d < 256) (he : e < 256) (X : AV)
    (hX : (okH a b c d e ∧ X = .tup [frA ((a / 16 : Nat) : Int) b (decide (a % 16 = 1)) ⟨#[]⟩, .int .i64 c, .bool true]) ∨ (¬ okH a b c d e ∧ X = .tup [frA 0 0 false ⟨#[]⟩, .int .i64 0, .bool false])) :
    Fits Try.prog 29 ⟨[.agg [.int .u8 a, .int .u8 b, .int .u8 c, .int .u8 d, .int .u8 e]], [], [numOut [] X]⟩ := by
  have SU := summed_f a b c d e
  generalize hs : sm16 a b c = s at SU
  have hB : (decide ((a : Int) = a) && (decide ((b : Int) = b) && (decide ((c : Int) = c) && (decide ((d : Int) = ((s / 256 : Nat) : Int)) && (decide ((e : Int) = ((s % 256 : Nat) : Int)) && true))))) = decide (d = s / 256 ∧ e = s % 256) := by
    apply Bool.eq_iff_iff.mpr; simp; try omega
  have t1 : (a : Int) / 2 ^ (min (Int.toNat 4) (IntKind.bits .u8)) = ((a / 16 : Nat) : Int) := by show (a : Int) / 16 = _; omega
  have t2 : (((a : Int).toNat &&& Int.toNat 15 : Nat) : Int) = ((a % 16 : Nat) : Int) := by
    show ((a &&& 2 ^ 4 - 1 : Nat) : Int) = _
    rw [Nat.and_two_pow_sub_one_eq_mod]
  have t3 : IntKind.i64.wrap (c : Int) = c := wrap_i64 (by omega)
  have bad : ¬ okH a b c d e → X = .tup [frA 0 0 false ⟨#[]⟩, .int .i64 0, .bool false] := fun h => by rcases hX with ⟨h1, _⟩ | ⟨_, h2⟩; exact absurd h1 h; exact h2
  refine fits_of_res (C := cfg29) (c := c29) (rs := [.cell 2 23, .tmp 3, .tmp 4]) tokL mixedL (fun _ => none) (fun | 3 => some (cut29 a b c d e) | _ => none)
    Try.func29 (by kernel_rfl) (by kernel_rfl) (by kernel_rfl) (by kernel_rfl) rfl ?_
  conv => whnf
  repeat (first
    | (refine And.intro ?_ ?_; (focus (first | omega | decide | exact EqOk.mk (by kernel_rfl) (by kernel_rfl) (by kernel_rfl) | exact Int.natCast_nonneg _ | ((repeat' refine And.intro ?_ ?_) <;> first | omega | exact Int.natCast_nonneg _ | (simp only [i64max, u8max, u16max, u32max, u64max]; omega) | (simp only [mulSz_eq, Cont.len, colsLen, Col.len, List.length_cons, List.length_nil, List.length_replicate, List.length_append, u8max]; first | done | omega) | (simp [mulSz, Cont.len, bne, u8max]; first | done | omega)))); conv => whnf)
    | (refine tst_in ?_ ?_; (focus (intro h_; exfalso; first | omega | ((try simp only [decide_eq_true_eq, decide_eq_false_iff_not] at h_); omega) | (simp [mulSz, Cont.len, bne, u8max] at h_; first | done | omega))); intro _; conv => whnf)
    | (refine tst_in ?_ ?_; rotate_left; (focus (intro h_; exfalso; first | omega | ((try simp only [decide_eq_true_eq, decide_eq_false_iff_not] at h_); omega) | (simp [mulSz, Cont.len, bne, u8max] at h_; first | done | omega))); intro _; conv => whnf)
    | (refine ⟨0, (show _ = _ by omega), ?_⟩; conv => whnf))
  refine ⟨?_, ?_⟩
  · skip
    conv => whnf
    repeat (first
      | (refine And.intro ?_ ?_; (focus (first | omega | decide | exact EqOk.mk (by kernel_rfl) (by kernel_rfl) (by kernel_rfl) | exact Int.natCast_nonneg _ | ((repeat' refine And.intro ?_ ?_) <;> first | omega | exact Int.natCast_nonneg _ | (simp only [i64max, u8max, u16max, u32max, u64max]; omega) | (simp only [mulSz_eq, Cont.len, colsLen, Col.len, List.length_cons, List.length_nil, List.length_replicate, List.length_append, u8max]; first | done | omega) | (simp [mulSz, Cont.len, bne, u8max]; first | done | omega)))); conv => whnf)
      | (refine tst_in ?_ ?_; (focus (intro h_; exfalso; first | omega | ((try simp only [decide_eq_true_eq, decide_eq_false_iff_not] at h_); omega) | (simp [mulSz, Cont.len, bne, u8max] at h_; first | done | omega))); intro _; conv => whnf)
      | (refine tst_in ?_ ?_; rotate_left; (focus (intro h_; exfalso; first | omega | ((try simp only [decide_eq_true_eq, decide_eq_false_iff_not] at h_); omega) | (simp [mulSz, Cont.len, bne, u8max] at h_; first | done | omega))); intro _; conv => whnf)
      | (refine ⟨0, (show _ = _ by omega), ?_⟩; conv => whnf))
    refine ⟨[0, 1], (), ?_, True.intro⟩
    show stLe _ _ (st29 a b c d e) _
    conv => whnf
    repeat' (first | exact True.intro | rfl | refine And.intro ?_ ?_)
    all_goals (conv => whnf)
    repeat' (first | exact True.intro | rfl | refine And.intro ?_ ?_)
    all_goals (try omega)
    all_goals (first | exact t3.symm | exact t1.symm | exact t2.symm)
  · rintro ⟨⟩ _
    show forceSt (st29 a b c d e) _
    conv => whnf
    refine And.intro ?_ (And.intro (And.intro ?_ (And.intro ?_ True.intro)) True.intro)
    all_goals
      conv => whnf
      refine ⟨_, [], SU, ?_⟩
      conv => whnf
      iterate 2
       refine And.intro ?_ ?_
       focus
        conv => whnf
        repeat' (first | exact True.intro | rfl | refine And.intro ?_ ?_ | omega)
        all_goals (conv => whnf)
        all_goals (try (first | rfl | omega | (simp; done)))
      conv => whnf
      refine ⟨?_, True.intro⟩
      intro _ _
      conv => whnf
      conv => whnf
      repeat (first
        | (refine And.intro ?_ ?_; (focus (first | omega | decide | exact EqOk.mk (by kernel_rfl) (by kernel_rfl) (by kernel_rfl) | exact Int.natCast_nonneg _ | ((repeat' refine And.intro ?_ ?_) <;> first | omega | exact Int.natCast_nonneg _ | (simp only [i64max, u8max, u16max, u32max, u64max]; omega) | (simp only [mulSz_eq, Cont.len, colsLen, Col.len, List.length_cons, List.length_nil, List.length_replicate, List.length_append]; first | done | omega) | (simp [mulSz, Cont.len, bne]; first | done | omega)))); conv => whnf)
        | (refine tst_in ?_ ?_; (focus (intro h_; exfalso; first | omega | ((try simp only [decide_eq_true_eq, decide_eq_false_iff_not] at h_); omega) | (simp [mulSz, Cont.len, bne] at h_; first | done | omega))); intro _; conv => whnf)
        | (refine tst_in ?_ ?_; rotate_left; (focus (intro h_; exfalso; first | omega | ((try simp only [decide_eq_true_eq, decide_eq_false_iff_not] at h_); omega) | (simp [mulSz, Cont.len, bne] at h_; first | done | omega))); intro _; conv => whnf)
        | (refine ⟨0, (show _ = _ by omega), ?_⟩; conv => whnf))
      intro bb hbb
      rw [hB] at hbb
      conv => whnf
      refine tst_in (fun h => ?_) (fun h' => ?_)
      · skip
        rw [hbb] at h
        have h : ¬ (d = s / 256 ∧ e = s % 256) := by rw [Bool.not_eq_true', decide_eq_false_iff_not] at h; exact h
        rw [bad fun q => h ⟨by rw [← hs]; exact q.1, by rw [← hs]; exact q.2.1⟩]
        conv => whnf
        refine .inl ⟨(), [], ?_⟩
        conv => whnf
        repeat' (first | exact True.intro | rfl | refine And.intro ?_ ?_)
        all_goals (conv => whnf)
        repeat' (first | exact True.intro | rfl | refine And.intro ?_ ?_)
        all_goals (try omega)
      · skip
        rw [hbb] at h'
        have h : d = s / 256 ∧ e = s % 256 := by rw [Bool.not_eq_false', decide_eq_true_eq] at h'; exact h'
        conv => whnf
        refine tst_in (fun h1 => ?_) (fun h1' => ?_)
        · skip
          have h1 : ¬ 1 ≤ a / 16 := by rw [dLt_eq] at h1; simp at h1; omega
          rw [bad fun q => h1 q.2.2.1]
          conv => whnf
          refine .inl ⟨(), [], ?_⟩
          conv => whnf
          repeat' (first | exact True.intro | rfl | refine And.intro ?_ ?_)
          all_goals (conv => whnf)
          repeat' (first | exact True.intro | rfl | refine And.intro ?_ ?_)
          all_goals (try omega)
        · skip
          have h1 : 1 ≤ a / 16 := by rw [dLt_eq] at h1'; simp at h1'; omega
          conv => whnf
          refine tst_in (fun h2 => ?_) (fun h2' => ?_)
          · skip
            have h2 : ¬ a % 16 ≤ 1 := by rw [dLt_eq] at h2; simp at h2; omega
            rw [bad fun q => h2 q.2.2.2.1]
            conv => whnf
            refine .inl ⟨(), [], ?_⟩
            conv => whnf
            repeat' (first | exact True.intro | rfl | refine And.intro ?_ ?_)
            all_goals (conv => whnf)
            repeat' (first | exact True.intro | rfl | refine And.intro ?_ ?_)
            all_goals (try omega)
          · skip
            have h2 : a % 16 ≤ 1 := by rw [dLt_eq] at h2'; simp at h2'; omega
            conv => whnf
            refine tst_in (fun h3 => ?_) (fun h3' => ?_)
            · skip
              have h3 : ¬ c ≤ 240 := by rw [dLt_eq] at h3; simp at h3; omega
              rw [bad fun q => h3 q.2.2.2.2]
              conv => whnf
              refine .inl ⟨(), [], ?_⟩
              conv => whnf
              repeat' (first | exact True.intro | rfl | refine And.intro ?_ ?_)
              all_goals (conv => whnf)
              repeat' (first | exact True.intro | rfl | refine And.intro ?_ ?_)
              all_goals (try omega)
            · skip
              have h3 : c ≤ 240 := by rw [dLt_eq] at h3'; simp at h3'; omega
              have hok : okH a b c d e := ⟨by rw [hs]; exact h.1, by rw [hs]; exact h.2, h1, h2, h3⟩
              have hX : X = .tup [frA ((a / 16 : Nat) : Int) b (decide (a % 16 = 1)) ⟨#[]⟩, .int .i64 c, .bool true] := by
                rcases hX with ⟨_, h⟩ | ⟨h, _⟩
                · exact h
                · exact absurd hok h
              rw [hX]
              conv => whnf
              repeat (first
                | (refine And.intro ?_ ?_; (focus (first | omega | decide | exact EqOk.mk (by kernel_rfl) (by kernel_rfl) (by kernel_rfl) | exact Int.natCast_nonneg _ | ((repeat' refine And.intro ?_ ?_) <;> first | omega | exact Int.natCast_nonneg _ | (simp only [i64max, u8max, u16max, u32max, u64max]; omega) | (simp only [mulSz_eq, Cont.len, colsLen, Col.len, List.length_cons, List.length_nil, List.length_replicate, List.length_append]; first | done | omega) | (simp [mulSz, Cont.len, bne]; first | done | omega)))); conv => whnf)
                | (refine tst_in ?_ ?_; (focus (intro h_; exfalso; first | omega | ((try simp only [decide_eq_true_eq, decide_eq_false_iff_not] at h_); omega) | (simp [mulSz, Cont.len, bne] at h_; first | done | omega))); intro _; conv => whnf)
                | (refine tst_in ?_ ?_; rotate_left; (focus (intro h_; exfalso; first | omega | ((try simp only [decide_eq_true_eq, decide_eq_false_iff_not] at h_); omega) | (simp [mulSz, Cont.len, bne] at h_; first | done | omega))); intro _; conv => whnf)
                | (refine ⟨0, (show _ = _ by omega), ?_⟩; conv => whnf))
              refine .inl ⟨(), [], ?_⟩
              conv => whnf
              repeat' (first | exact True.intro | rfl | refine And.intro ?_ ?_)
              all_goals (conv => whnf)
              repeat' (first | exact True.intro | rfl | refine And.intro ?_ ?_)
              all_goals (try omega)
              all_goals (rw [decide_eq_decide]; omega)
end Go.Proofs.Ytdkogicikhlicaa

set_option linter.unusedVariables false
set_option linter.unusedSimpArgs false
namespace Go.Proofs.Ytdkogicikhlicaa
open Go Go.Fw
theorem bytL_extract (s : ByteArray) (a b : Nat) : bytL (s.extract a b) = ((bytL s).drop a).take (b - a) := by
  unfold bytL
  rw [ByteArray.data_extract, Array.toList_extract, List.extract_eq_take_drop, List.map_take, List.map_drop]
theorem bytL_inj {a b : ByteArray} (h : bytL a = bytL b) : a = b := by
  unfold bytL at h
  refine ByteArray.ext (Array.toList_inj.1 (List.map_inj_right (f := fun b : UInt8 => (b.toNat : Int)) ?_ |>.1 h))
  intro x y hxy
  exact UInt8.toNat_inj.1 (by have : (x.toNat : Int) = (y.toNat : Int) := hxy; omega)
theorem bytL_app (a b : ByteArray) : bytL (a ++ b) = bytL a ++ bytL b := by
  unfold bytL
  rw [ByteArray.toList_data_append, List.map_append]
theorem bytL_tx (l : List Int) (h : ∀ x ∈ l, 0 ≤ x ∧ x < 256) : bytL (tx l) = l := by
  unfold bytL tx
  show (l.map _).map _ = l
  rw [List.map_map]
  conv => rhs; rw [← List.map_id l]
  refine List.map_congr_left fun x hx => ?_
  have := h x hx
  simp only [Function.comp_apply, id_eq, UInt8.toNat_ofNat']
  omega
end Go.Proofs.Ytdkogicikhlicaa

set_option linter.unusedVariables false
set_option linter.unusedSimpArgs false
namespace Go.Proofs.Ytdkogicikhlicaa
open Go Go.Fw
def bodyX (s : ByteArray) : ByteArray := s.extract 5 (byteAt s 2 + 9)
def hdOk (s : ByteArray) : Prop := okH (byteAt s 0) (byteAt s 1) (byteAt s 2) (byteAt s 3) (byteAt s 4)
def good (s : ByteArray) : Prop := 9 ≤ s.size ∧ hdOk s ∧ byteAt s 2 + 9 ≤ s.size ∧ sealT (aheadT (bodyX s)) = bodyX s
def badV : AV := .tup [frA 0 0 false ⟨#[]⟩, .int .i64 0, .int .i64 4]
def goodV (s : ByteArray) : AV := .tup [frA ((byteAt s 0 / 16 : Nat) : Int) (byteAt s 1) (decide (byteAt s 0 % 16 = 1)) (aheadT (bodyX s)), .int .i64 ((byteAt s 2 + 9 : Nat) : Int), .int .i64 0]
noncomputable def c11 : Code := (Try.f11.body).getD .skip
set_option maxHeartbeats 0 in
set_option maxRecDepth 100000 in
theorem Parse_f (s : ByteArray) (hs : s.size ≤ 9223372036854775807) (X : AV) (hX : (good s ∧ X = goodV s) ∨ (¬ good s ∧ X = badV)) :
    Fits Try.prog 11 ⟨[.str s], [], [numOut [] X]⟩ := by
  have bad : ¬ good s → X = badV := fun h => by
    rcases hX with ⟨h1, _⟩ | ⟨_, h2⟩
    · exact absurd h1 h
    · exact h2
  have hb0 := byteAt_lt s 0
  have hb1 := byteAt_lt s 1
  have hb2 := byteAt_lt s 2
  have hb3 := byteAt_lt s 3
  have hb4 := byteAt_lt s 4
  refine fits_of_res (C := cfgs 0) (c := c11) (rs := [.cell 2 23, .tmp 3, .tmp 4]) tokL mixedL (fun _ => none) (fun _ => none)
    Try.func11 (by kernel_rfl) (by kernel_rfl) (by kernel_rfl) (by kernel_rfl) rfl ?_
  by_cases h9 : s.size < 9
  · rw [bad fun q => by have := q.1; omega]
    unfold badV frA
    conv => whnf
    repeat (first
      | (refine And.intro ?_ ?_; (focus (first | omega | decide | exact EqOk.mk (by kernel_rfl) (by kernel_rfl) (by kernel_rfl) | exact Int.natCast_nonneg _ | ((repeat' refine And.intro ?_ ?_) <;> first | omega | exact Int.natCast_nonneg _ | (simp only [i64max, u8max, u16max, u32max, u64max]; omega) | (simp only [mulSz_eq, Cont.len, colsLen, Col.len, List.length_cons, List.length_nil, List.length_replicate, List.length_append]; first | done | omega) | (simp [mulSz, Cont.len, bne]; first | done | omega)))); conv => whnf)
      | (refine tst_in ?_ ?_; (focus (intro h_; exfalso; first | omega | ((try simp only [decide_eq_true_eq, decide_eq_false_iff_not] at h_); omega) | (simp [mulSz, Cont.len, bne] at h_; first | done | omega))); intro _; conv => whnf)
      | (refine tst_in ?_ ?_; rotate_left; (focus (intro h_; exfalso; first | omega | ((try simp only [decide_eq_true_eq, decide_eq_false_iff_not] at h_); omega) | (simp [mulSz, Cont.len, bne] at h_; first | done | omega))); intro _; conv => whnf)
      | (refine ⟨0, (show _ = _ by omega), ?_⟩; conv => whnf))
    refine .inl ⟨(), [], ?_⟩
    conv => whnf
    repeat' (first | exact True.intro | rfl | refine And.intro ?_ ?_)
    all_goals (conv => whnf)
    repeat' (first | exact True.intro | rfl | refine And.intro ?_ ?_)
    all_goals (try omega)
  · by_cases hh : hdOk s
    · have FR := frame_f (byteAt s 0) (byteAt s 1) (byteAt s 2) (byteAt s 3) (byteAt s 4) hb0 hb1 hb2 hb3 hb4 _ (.inl ⟨hh, rfl⟩)
      conv => whnf
      repeat (first
        | (refine And.intro ?_ ?_; (focus (first | omega | decide | exact EqOk.mk (by kernel_rfl) (by kernel_rfl) (by kernel_rfl) | exact Int.natCast_nonneg _ | ((repeat' refine And.intro ?_ ?_) <;> first | omega | exact Int.natCast_nonneg _ | (simp only [i64max, u8max, u16max, u32max, u64max]; omega) | (simp only [mulSz_eq, Cont.len, colsLen, Col.len, List.length_cons, List.length_nil, List.length_replicate, List.length_append]; first | done | omega) | (simp [mulSz, Cont.len, bne]; first | done | omega)))); conv => whnf)
        | (refine tst_in ?_ ?_; (focus (intro h_; exfalso; first | omega | ((try simp only [decide_eq_true_eq, decide_eq_false_iff_not] at h_); omega) | (simp [mulSz, Cont.len, bne] at h_; first | done | omega))); intro _; conv => whnf)
        | (refine tst_in ?_ ?_; rotate_left; (focus (intro h_; exfalso; first | omega | ((try simp only [decide_eq_true_eq, decide_eq_false_iff_not] at h_); omega) | (simp [mulSz, Cont.len, bne] at h_; first | done | omega))); intro _; conv => whnf)
        | (refine ⟨0, (show _ = _ by omega), ?_⟩; conv => whnf))
      refine ⟨_, [], FR, ?_⟩
      conv => whnf
      iterate 2
       refine And.intro ?_ ?_
       focus
        conv => whnf
        repeat' (first | exact True.intro | rfl | refine And.intro ?_ ?_ | omega)
        all_goals (conv => whnf)
        all_goals (try (first | rfl | omega | (simp; done)))
      conv => whnf
      refine ⟨?_, True.intro⟩
      intro _ _
      conv => whnf
      conv => whnf
      by_cases hl : s.size < byteAt s 2 + 9
      · rw [bad fun q => by have := q.2.2.1; omega]
        unfold badV frA
        conv => whnf
        repeat (first
          | (refine And.intro ?_ ?_; (focus (first | omega | decide | exact EqOk.mk (by kernel_rfl) (by kernel_rfl) (by kernel_rfl) | exact Int.natCast_nonneg _ | ((repeat' refine And.intro ?_ ?_) <;> first | omega | exact Int.natCast_nonneg _ | (simp only [i64max, u8max, u16max, u32max, u64max]; omega) | (simp only [mulSz_eq, Cont.len, colsLen, Col.len, List.length_cons, List.length_nil, List.length_replicate, List.length_append]; first | done | omega) | (simp [mulSz, Cont.len, bne]; first | done | omega)))); conv => whnf)
          | (refine tst_in ?_ ?_; (focus (intro h_; exfalso; first | omega | ((try simp only [decide_eq_true_eq, decide_eq_false_iff_not] at h_); omega) | (simp [mulSz, Cont.len, bne] at h_; first | done | omega))); intro _; conv => whnf)
          | (refine tst_in ?_ ?_; rotate_left; (focus (intro h_; exfalso; first | omega | ((try simp only [decide_eq_true_eq, decide_eq_false_iff_not] at h_); omega) | (simp [mulSz, Cont.len, bne] at h_; first | done | omega))); intro _; conv => whnf)
          | (refine ⟨0, (show _ = _ by omega), ?_⟩; conv => whnf))
        refine .inl ⟨(), [], ?_⟩
        conv => whnf
        repeat' (first | exact True.intro | rfl | refine And.intro ?_ ?_)
        all_goals (conv => whnf)
        repeat' (first | exact True.intro | rfl | refine And.intro ?_ ?_)
        all_goals (try omega)
      · have hz : (bodyX s).size = byteAt s 2 + 4 := by unfold bodyX; rw [ByteArray.size_extract]; omega
        have ei : (s.extract (Int.toNat 5) ((byteAt s 2 : Int) + 9).toNat) = bodyX s := by
          unfold bodyX; rw [show ((byteAt s 2 : Int) + 9).toNat = byteAt s 2 + 9 by omega]; rfl
        by_cases hg : sealT (aheadT (bodyX s)) = bodyX s
        · have OP := Opened_y (bodyX s) (by omega) (by omega) hg
          have hX : X = goodV s := by
            rcases hX with ⟨_, h2⟩ | ⟨h1, _⟩
            · exact h2
            · exact absurd ⟨by omega, hh, by omega, hg⟩ h1
          rw [hX]
          unfold goodV frA
          conv => whnf
          repeat (first
            | (refine And.intro ?_ ?_; (focus (first | omega | decide | exact EqOk.mk (by kernel_rfl) (by kernel_rfl) (by kernel_rfl) | exact Int.natCast_nonneg _ | ((repeat' refine And.intro ?_ ?_) <;> first | omega | exact Int.natCast_nonneg _ | (simp only [i64max, u8max, u16max, u32max, u64max]; omega) | (simp only [mulSz_eq, Cont.len, colsLen, Col.len, List.length_cons, List.length_nil, List.length_replicate, List.length_append]; first | done | omega) | (simp [mulSz, Cont.len, bne]; first | done | omega)))); conv => whnf)
            | (refine tst_in ?_ ?_; (focus (intro h_; exfalso; first | omega | ((try simp only [decide_eq_true_eq, decide_eq_false_iff_not] at h_); omega) | (simp [mulSz, Cont.len, bne] at h_; first | done | omega))); intro _; conv => whnf)
            | (refine tst_in ?_ ?_; rotate_left; (focus (intro h_; exfalso; first | omega | ((try simp only [decide_eq_true_eq, decide_eq_false_iff_not] at h_); omega) | (simp [mulSz, Cont.len, bne] at h_; first | done | omega))); intro _; conv => whnf)
            | (refine ⟨0, (show _ = _ by omega), ?_⟩; conv => whnf))
          rw [ei]
          refine ⟨_, [], OP, ?_⟩
          conv => whnf
          iterate 2
           refine And.intro ?_ ?_
           focus
            conv => whnf
            repeat' (first | exact True.intro | rfl | refine And.intro ?_ ?_ | omega)
            all_goals (conv => whnf)
            all_goals (try (first | rfl | omega | (simp; done)))
          conv => whnf
          refine ⟨?_, True.intro⟩
          intro _ _
          conv => whnf
          conv => whnf
          repeat (first
            | (refine And.intro ?_ ?_; (focus (first | omega | decide | exact EqOk.mk (by kernel_rfl) (by kernel_rfl) (by kernel_rfl) | exact Int.natCast_nonneg _ | ((repeat' refine And.intro ?_ ?_) <;> first | omega | exact Int.natCast_nonneg _ | (simp only [i64max, u8max, u16max, u32max, u64max]; omega) | (simp only [mulSz_eq, Cont.len, colsLen, Col.len, List.length_cons, List.length_nil, List.length_replicate, List.length_append]; first | done | omega) | (simp [mulSz, Cont.len, bne]; first | done | omega)))); conv => whnf)
            | (refine tst_in ?_ ?_; (focus (intro h_; exfalso; first | omega | ((try simp only [decide_eq_true_eq, decide_eq_false_iff_not] at h_); omega) | (simp [mulSz, Cont.len, bne] at h_; first | done | omega))); intro _; conv => whnf)
            | (refine tst_in ?_ ?_; rotate_left; (focus (intro h_; exfalso; first | omega | ((try simp only [decide_eq_true_eq, decide_eq_false_iff_not] at h_); omega) | (simp [mulSz, Cont.len, bne] at h_; first | done | omega))); intro _; conv => whnf)
            | (refine ⟨0, (show _ = _ by omega), ?_⟩; conv => whnf))
          refine .inl ⟨(), [], ?_⟩
          conv => whnf
          repeat' (first | exact True.intro | rfl | refine And.intro ?_ ?_)
          all_goals (conv => whnf)
          repeat' (first | exact True.intro | rfl | refine And.intro ?_ ?_)
          all_goals (try omega)
        · have OP := Opened_n (bodyX s) (by omega) (by omega) hg
          rw [bad fun q => hg q.2.2.2]
          unfold badV frA
          conv => whnf
          repeat (first
            | (refine And.intro ?_ ?_; (focus (first | omega | decide | exact EqOk.mk (by kernel_rfl) (by kernel_rfl) (by kernel_rfl) | exact Int.natCast_nonneg _ | ((repeat' refine And.intro ?_ ?_) <;> first | omega | exact Int.natCast_nonneg _ | (simp only [i64max, u8max, u16max, u32max, u64max]; omega) | (simp only [mulSz_eq, Cont.len, colsLen, Col.len, List.length_cons, List.length_nil, List.length_replicate, List.length_append]; first | done | omega) | (simp [mulSz, Cont.len, bne]; first | done | omega)))); conv => whnf)
            | (refine tst_in ?_ ?_; (focus (intro h_; exfalso; first | omega | ((try simp only [decide_eq_true_eq, decide_eq_false_iff_not] at h_); omega) | (simp [mulSz, Cont.len, bne] at h_; first | done | omega))); intro _; conv => whnf)
            | (refine tst_in ?_ ?_; rotate_left; (focus (intro h_; exfalso; first | omega | ((try simp only [decide_eq_true_eq, decide_eq_false_iff_not] at h_); omega) | (simp [mulSz, Cont.len, bne] at h_; first | done | omega))); intro _; conv => whnf)
            | (refine ⟨0, (show _ = _ by omega), ?_⟩; conv => whnf))
          rw [ei]
          refine ⟨_, [], OP, ?_⟩
          conv => whnf
          iterate 2
           refine And.intro ?_ ?_
           focus
            conv => whnf
            repeat' (first | exact True.intro | rfl | refine And.intro ?_ ?_ | omega)
            all_goals (conv => whnf)
            all_goals (try (first | rfl | omega | (simp; done)))
          conv => whnf
          refine ⟨?_, True.intro⟩
          intro _ _
          conv => whnf
          conv => whnf
          refine .inl ⟨(), [], ?_⟩
          conv => whnf
          repeat' (first | exact True.intro | rfl | refine And.intro ?_ ?_)
          all_goals (conv => whnf)
          repeat' (first | exact True.intro | rfl | refine And.intro ?_ ?_)
          all_goals (try omega)
    · have FR := frame_f (byteAt s 0) (byteAt s 1) (byteAt s 2) (byteAt s 3) (byteAt s 4) hb0 hb1 hb2 hb3 hb4 _ (.inr ⟨hh, rfl⟩)
      rw [bad fun q => hh q.2.1]
      unfold badV frA
      conv => whnf
      repeat (first
        | (refine And.intro ?_ ?_; (focus (first | omega | decide | exact EqOk.mk (by kernel_rfl) (by kernel_rfl) (by kernel_rfl) | exact Int.natCast_nonneg _ | ((repeat' refine And.intro ?_ ?_) <;> first | omega | exact Int.natCast_nonneg _ | (simp only [i64max, u8max, u16max, u32max, u64max]; omega) | (simp only [mulSz_eq, Cont.len, colsLen, Col.len, List.length_cons, List.length_nil, List.length_replicate, List.length_append]; first | done | omega) | (simp [mulSz, Cont.len, bne]; first | done | omega)))); conv => whnf)
        | (refine tst_in ?_ ?_; (focus (intro h_; exfalso; first | omega | ((try simp only [decide_eq_true_eq, decide_eq_false_iff_not] at h_); omega) | (simp [mulSz, Cont.len, bne] at h_; first | done | omega))); intro _; conv => whnf)
        | (refine tst_in ?_ ?_; rotate_left; (focus (intro h_; exfalso; first | omega | ((try simp only [decide_eq_true_eq, decide_eq_false_iff_not] at h_); omega) | (simp [mulSz, Cont.len, bne] at h_; first | done | omega))); intro _; conv => whnf)
        | (refine ⟨0, (show _ = _ by omega), ?_⟩; conv => whnf))
      refine ⟨_, [], FR, ?_⟩
      conv => whnf
      iterate 2
       refine And.intro ?_ ?_
       focus
        conv => whnf
        repeat' (first | exact True.intro | rfl | refine And.intro ?_ ?_ | omega)
        all_goals (conv => whnf)
        all_goals (try (first | rfl | omega | (simp; done)))
      conv => whnf
      refine ⟨?_, True.intro⟩
      intro _ _
      conv => whnf
      conv => whnf
      refine .inl ⟨(), [], ?_⟩
      conv => whnf
      repeat' (first | exact True.intro | rfl | refine And.intro ?_ ?_)
      all_goals (conv => whnf)
      repeat' (first | exact True.intro | rfl | refine And.intro ?_ ?_)
      all_goals (try omega)
end Go.Proofs.Ytdkogicikhlicaa

set_option linter.unusedVariables false
set_option linter.unusedSimpArgs false
namespace Go.Proofs.Ytdkogicikhlicaa
open Go Go.Fw
def bitA (F : Nat → Nat) (q : Nat) : Bool := (F (q / 8)).testBit (7 - q % 8)
theorem bb_get (x j : Nat) (h : j < 8) : (bb x).getD j false = x.testBit (7 - j) := by
  obtain rfl | rfl | rfl | rfl | rfl | rfl | rfl | rfl : j = 0 ∨ j = 1 ∨ j = 2 ∨ j = 3 ∨ j = 4 ∨ j = 5 ∨ j = 6 ∨ j = 7 := by omega
  all_goals rfl
theorem bst_get (F : Nat → Nat) : ∀ n q, q < 8 * n → (bst F n).getD q false = bitA F q
  | 0, q, h => by omega
  | n + 1, q, h => by
    show (bst F n ++ bb (F n)).getD q false = _
    rw [g_app, bst_len]
    by_cases hq : q < 8 * n
    · rw [if_pos hq, bst_get F n q hq]
    · rw [if_neg hq, bb_get _ _ (by omega)]
      unfold bitA
      rw [show q / 8 = n by omega, show q - 8 * n = q % 8 by omega]
theorem byteAt_bytL {s : ByteArray} {i : Nat} (h : i < s.size) : (byteAt s i : Int) = (bytL s).getD i 0 := by
  have := bytL_get s [] h
  rw [List.append_nil] at this; exact this.symm
theorem byteAt_ext (s : ByteArray) (a b : Nat) {i : Nat} (h : a + i < b) (hb : b ≤ s.size) : byteAt (s.extract a b) i = byteAt s (a + i) := by
  have h1 := byteAt_bytL (s := s.extract a b) (i := i) (by rw [ByteArray.size_extract]; omega)
  have h2 := byteAt_bytL (s := s) (i := a + i) (by omega)
  rw [bytL_extract, g_take, if_pos (by omega), g_drop] at h1
  omega
end Go.Proofs.Ytdkogicikhlicaa

set_option linter.unusedVariables false
set_option linter.unusedSimpArgs false
namespace Go.Proofs.Ytdkogicikhlicaa
open Go Go.Fw
theorem aheadT_seal (B : ByteArray) : aheadT (sealT B) = B := by
  unfold aheadT
  rw [sealT_size, show B.size + 4 - 4 = B.size by omega]
  refine bytL_inj ?_
  rw [bytL_extract]
  unfold sealT
  rw [bytL_app, List.drop_zero, Nat.sub_zero]
  exact List.take_left' (bytL_len B)
end Go.Proofs.Ytdkogicikhlicaa

set_option linter.unusedVariables false
set_option linter.unusedSimpArgs false
namespace Go.Proofs.Ytdkogicikhlicaa
open Go Go.Fw
theorem pack_bytL (k n : Int) (m : Bool) (b : ByteArray) (hk : 1 ≤ k) (hk2 : k ≤ 15) (hn : 0 ≤ n) (hn2 : n ≤ 255) (hb : b.size ≤ 240) :
    bytL (packT k n m b) = [h0 k m, n, (b.size : Int), ((sm16 (h0 k m) n b.size / 256 : Nat) : Int), ((sm16 (h0 k m) n b.size % 256 : Nat) : Int)] ++ bytL (sealT b) := by
  unfold packT
  rw [bytL_app, bytL_tx]
  intro x hx
  have hs := crc16_lt (tx [h0 k m, n, (b.size : Int)])
  have h0b : 0 ≤ h0 k m ∧ h0 k m < 256 := by unfold h0; cases m <;> simp <;> omega
  simp only [List.mem_cons, List.not_mem_nil, or_false] at hx
  rcases hx with rfl | rfl | rfl | rfl | rfl
  · exact h0b
  · omega
  · omega
  · unfold sm16; omega
  · omega
theorem pack_good (k n : Int) (m : Bool) (b : ByteArray) (hk : 1 ≤ k) (hk2 : k ≤ 15) (hn : 0 ≤ n) (hn2 : n ≤ 255) (hb : b.size ≤ 240) :
    good (packT k n m b) ∧ (packT k n m b).size = byteAt (packT k n m b) 2 + 9 ∧ (packT k n m b).size = b.size + 9 := by
  have hL := pack_bytL k n m b hk hk2 hn hn2 hb
  generalize packT k n m b = s at *
  have hz : s.size = b.size + 9 := by rw [← bytL_len, hL, List.length_append, bytL_len, sealT_size]; simp only [List.length_cons, List.length_nil]; omega
  have g : ∀ i, i < 5 → (byteAt s i : Int) = [h0 k m, n, (b.size : Int), ((sm16 (h0 k m) n b.size / 256 : Nat) : Int), ((sm16 (h0 k m) n b.size % 256 : Nat) : Int)].getD i 0 := fun i hi => by
    rw [byteAt_bytL (by omega), hL, g_app, if_pos (by simpa using hi)]
  have b0 : (byteAt s 0 : Int) = h0 k m := g 0 (by decide)
  have b1 : (byteAt s 1 : Int) = n := g 1 (by decide)
  have b2 : (byteAt s 2 : Int) = b.size := g 2 (by decide)
  have b3 : (byteAt s 3 : Int) = ((sm16 (h0 k m) n b.size / 256 : Nat) : Int) := g 3 (by decide)
  have b4 : (byteAt s 4 : Int) = ((sm16 (h0 k m) n b.size % 256 : Nat) : Int) := g 4 (by decide)
  have b2' : byteAt s 2 = b.size := by omega
  have hX : bodyX s = sealT b := by
    refine bytL_inj ?_
    unfold bodyX
    rw [bytL_extract, hL, b2']
    show (bytL (sealT b)).take _ = _
    exact List.take_of_length_le (by rw [bytL_len, sealT_size]; omega)
  refine ⟨⟨by omega, ⟨?_, ?_, ?_, ?_, by omega⟩, by omega, by rw [hX, aheadT_seal]⟩, by omega, hz⟩
  · rw [b0, b1, b2]; omega
  · rw [b0, b1, b2]; omega
  · unfold h0 at b0; cases m <;> simp at b0 <;> omega
  · unfold h0 at b0; cases m <;> simp at b0 <;> omega
end Go.Proofs.Ytdkogicikhlicaa

set_option linter.unusedVariables false
set_option linter.unusedSimpArgs false
namespace Go.Proofs.Ytdkogicikhlicaa
open Go Go.Fw
/-- The long division: the row with W places behind it. -/
def ag (W p : Nat) : Nat → List Bool → Nat
  | c, [] => c
  | c, b :: l => ag W p (nx W p c false ^^^ b.toNat) l
theorem ag_snoc (W p : Nat) : ∀ (l : List Bool) (c : Nat) (b : Bool), ag W p c (l ++ [b]) = nx W p (ag W p c l) false ^^^ b.toNat
  | [], _, _ => rfl
  | a :: l, c, b => by simp only [ag, List.cons_append, ag_snoc W p l]
theorem ag_append (W p : Nat) : ∀ (l m : List Bool) (c : Nat), ag W p c (l ++ m) = ag W p (ag W p c l) m
  | [], _, _ => rfl
  | a :: l, m, c => by simp only [ag, List.cons_append, ag_append W p l m]
theorem ag_zer (W p : Nat) : ∀ (n c : Nat), ag W p c (List.replicate n false) = crc W p c (List.replicate n false)
  | 0, _ => rfl
  | n + 1, c => by
    rw [List.replicate_succ]
    show ag W p (nx W p c false ^^^ 0) _ = crc W p (nx W p c false) _
    rw [Nat.xor_zero, ag_zer W p n]
theorem nx_bit (W p c : Nat) (b : Bool) : nx W p c b = nx W p c false ^^^ nx W p 0 b := by
  have := nx_xor W p c 0 false b
  rw [Nat.xor_zero] at this
  rw [← this]; cases b <;> rfl
theorem crc_lin (W p a c n : Nat) : crc W p (a ^^^ c) (List.replicate n false) = crc W p a (List.replicate n false) ^^^ crc W p c (List.replicate n false) := by
  have := crc_xor W p (List.replicate n false) (List.replicate n false) a c rfl
  rw [← this]
  congr 1
  apply List.ext_getElem <;> simp
theorem ag_crc (W p : Nat) (h1 : crc W p 1 (List.replicate W false) = nx W p 0 true) : ∀ (l : List Bool) (c : Nat), crc W p (ag W p c l) (List.replicate W false) = crc W p (crc W p c (List.replicate W false)) l
  | [], _ => rfl
  | b :: l, c => by
    show crc W p (ag W p (nx W p c false ^^^ b.toNat) l) _ = crc W p (nx W p (crc W p c _) b) l
    rw [ag_crc W p h1 l]
    congr 1
    rw [crc_lin, nx_bit W p _ b]
    congr 1
    · show crc W p c (false :: List.replicate W false) = _
      rw [← List.replicate_succ, List.replicate_succ', crc_snoc]
    · cases b
      · show crc W p 0 _ = nx W p 0 false
        rw [crc_zeros, nx_zero]
      · exact h1
set_option maxRecDepth 100000 in
theorem one16 : crc 16 4129 1 (List.replicate 16 false) = nx 16 4129 0 true := by decide
set_option maxRecDepth 100000 in
theorem one32 : crc 32 79764919 1 (List.replicate 32 false) = nx 32 79764919 0 true := by decide
theorem ag_all (W p : Nat) (h1 : crc W p 1 (List.replicate W false) = nx W p 0 true) (l : List Bool) : ag W p 0 (l ++ List.replicate W false) = crc W p 0 l := by
  rw [ag_append, ag_zer, ag_crc W p h1, crc_zeros]
theorem ag_lt {W p : Nat} (hW : 0 < W) (hp : p < 2 ^ W) : ∀ (l : List Bool) (s : Nat), s < 2 ^ W → ag W p s l < 2 ^ W
  | [], _, h => h
  | b :: l, s, h => by
    refine ag_lt hW hp l _ (Nat.xor_lt_two_pow (nx_lt false hp) ?_)
    have : (2 : Nat) ≤ 2 ^ W := by
      have := Nat.pow_le_pow_right (n := 2) (by decide) (show 1 ≤ W from hW); simpa using this
    cases b
    · show 0 < _; omega
    · show 1 < _; omega
/-- The bits of the row with W places behind it. -/
def agB (s : ByteArray) (q : Nat) : Bool := decide (q < 8 * s.size) && bitA (byteAt s) q
def agR (W p : Nat) (s : ByteArray) (i : Nat) : Nat := ag W p 0 (tb (agB s) i)
theorem agR_next (W p : Nat) (s : ByteArray) (i : Nat) : agR W p s (i + 1) = nx W p (agR W p s i) false ^^^ (agB s i).toNat := by
  unfold agR
  rw [← tab_snoc, ag_snoc]
theorem agR_all (W p : Nat) (h1 : crc W p 1 (List.replicate W false) = nx W p 0 true) (s : ByteArray) : agR W p s (8 * s.size + W) = crc W p 0 (bst (byteAt s) s.size) := by
  rw [← ag_all W p h1]
  unfold agR
  congr 1
  symm
  refine tab_ext false (by rw [List.length_append, bst_len, List.length_replicate]) fun i hi => ?_
  rw [g_app, bst_len]
  unfold agB
  by_cases h : i < 8 * s.size
  · rw [if_pos h, bst_get _ _ _ h, decide_eq_true h]; rfl
  · rw [if_neg h, g_rep, decide_eq_false h]; split <;> rfl
theorem or_bit (x : Nat) (b : Bool) : (2 * x) ||| b.toNat = (2 * x) ^^^ b.toNat := by
  apply Nat.eq_of_testBit_eq
  intro i
  rw [Nat.testBit_or, Nat.testBit_xor]
  cases i with
  | zero => rw [Nat.testBit_zero]; cases b <;> simp
  | succ i => cases b <;> simp [Nat.testBit_succ]
theorem ag_step (w p R : Nat) (b : Bool) : nx (w + 1) p R false ^^^ b.toNat = if R.testBit w = true then (2 * (R % 2 ^ w) ||| b.toNat) ^^^ p else 2 * (R % 2 ^ w) ||| b.toNat := by
  have e : 2 * R % 2 ^ (w + 1) = 2 * (R % 2 ^ w) := by rw [show 2 ^ (w + 1) = 2 * 2 ^ w by rw [Nat.pow_succ, Nat.mul_comm], Nat.mul_mod_mul_left]
  unfold nx
  rw [e, Nat.add_sub_cancel, or_bit]
  cases h : R.testBit w
  · simp
  · simp only [Bool.true_bne, Bool.not_false, if_true]
    rw [Nat.xor_assoc, Nat.xor_comm p, ← Nat.xor_assoc]
theorem over_bit (R w : Nat) : (!decide (((((R : Nat) : Int).toNat &&& ((2 ^ w : Nat) : Int).toNat : Nat) : Int) = 0)) = R.testBit w := by
  show (!decide (((R &&& 2 ^ w : Nat) : Int) = 0)) = _
  have e : R &&& 2 ^ w = if R.testBit w = true then 2 ^ w else 0 := by
    apply Nat.eq_of_testBit_eq
    intro i
    rw [Nat.testBit_and, Nat.testBit_two_pow]
    by_cases hi : w = i
    · subst hi
      cases h : R.testBit w
      · simp
      · simp [Nat.testBit_two_pow]
    · rw [decide_eq_false hi]
      cases h : R.testBit w
      · simp
      · simp [Nat.testBit_two_pow, hi]
  rw [e]
  have : 0 < 2 ^ w := Nat.two_pow_pos w
  generalize 2 ^ w = T at *
  cases h : R.testBit w
  · simp
  · simp only [if_true, Bool.not_eq_true', decide_eq_false_iff_not]; omega
theorem mask_lo (R w : Nat) : ((((R : Nat) : Int).toNat &&& ((2 ^ w - 1 : Nat) : Int).toNat : Nat) : Int) = ((R % 2 ^ w : Nat) : Int) := by
  show ((R &&& 2 ^ w - 1 : Nat) : Int) = _
  rw [Nat.and_two_pow_sub_one_eq_mod]
theorem u64wrap (n : Int) : IntKind.u64.wrap n = n % 18446744073709551616 := by
  unfold IntKind.wrap
  simp [IntKind.bits, IntKind.signed]
theorem shl_one (x : Nat) (hx : x < 4294967296) : IntKind.u64.wrap ((x : Int) * 2 ^ (min (Int.toNat 1) (IntKind.bits .u64))) = ((2 * x : Nat) : Int) := by
  rw [u64wrap]
  show ((x : Int) * 2) % 18446744073709551616 = _
  omega
end Go.Proofs.Ytdkogicikhlicaa

set_option linter.unusedVariables false
set_option linter.unusedSimpArgs false
namespace Go.Proofs.Ytdkogicikhlicaa
open Go Go.Fw
theorem sb_eq (C j : Nat) (b : Int) (hb : b.toNat = j) (hj : j ≤ 7) (hC : C < 256) : IntKind.u64.wrap (C : Int) / (2 : Int) ^ (min b.toNat (IntKind.bits .u64)) = ((C / 2 ^ j : Nat) : Int) := by
  rw [u64wrap, hb, Nat.min_eq_left (by show j ≤ 64; omega), show (C : Int) % 18446744073709551616 = C by omega, Int.natCast_ediv, Int.natCast_pow]; rfl
theorem bv_eq (s : ByteArray) (i : Nat) (h : i < 8 * s.size) : ((((byteAt s (i / 8) / 2 ^ (7 - i % 8) : Nat) : Int).toNat &&& (1 : Int).toNat : Nat) : Int) = (((agB s i).toNat : Nat) : Int) := by
  have e2 : (((byteAt s (i / 8) / 2 ^ (7 - i % 8) : Nat) : Int).toNat &&& (1 : Int).toNat) = (byteAt s (i / 8) / 2 ^ (7 - i % 8)) % 2 := Nat.and_one_is_mod _
  rw [e2]
  unfold agB bitA
  rw [decide_eq_true h, Bool.true_and, Nat.testBit_eq_decide_div_mod_eq]
  rcases Nat.mod_two_eq_zero_or_one (byteAt s (i / 8) / 2 ^ (7 - i % 8)) with h | h
  · rw [h]; rfl
  · rw [h]; rfl
noncomputable def c28 : Code := (Try.f28.body).getD .skip
def st28 (s : ByteArray) (w p i : Nat) : St := ⟨slotsAt 55 [(0, .str s), (1, .int .u64 p), (2, .int .i64 ((w + 1 : Nat) : Int)), (7, .int .u64 (agR (w + 1) p s i : Nat)), (8, .int .u64 (2 ^ w : Nat)), (9, .int .i64 i)], []⟩
def inv28 (s : ByteArray) (w p : Nat) : LInv := ⟨Nat, fun i => st28 s w p i, fun i => i ≤ 8 * s.size + (w + 1), fun i => 8 * s.size + (w + 1) - i⟩
theorem agR_lt {w p i : Nat} {s : ByteArray} (hp : p < 2 ^ (w + 1)) : agR (w + 1) p s i < 2 ^ (w + 1) := ag_lt (by omega) hp _ _ (Nat.two_pow_pos _)
set_option maxHeartbeats 0 in
set_option maxRecDepth 100000 in
theorem Sum_f (w p : Nat) (s : ByteArray) (hs : s.size ≤ 140737488355328) (hw : w ≤ 31) (hp : p < 2 ^ (w + 1)) (h1 : crc (w + 1) p 1 (List.replicate (w + 1) false) = nx (w + 1) p 0 true) :
    Fits Try.prog 28 ⟨[.str s, .int .u64 p, .int .i64 ((w + 1 : Nat) : Int)], [], [numOut [] (.int .u64 (crc (w + 1) p 0 (bst (byteAt s) s.size) : Nat))]⟩ := by
  have hw2 : 2 ^ (w + 1) ≤ 4294967296 := by have := Nat.pow_le_pow_right (n := 2) (by decide) (show w + 1 ≤ 32 by omega); simpa using this
  have hw1 : 2 ^ (w + 1) = 2 * 2 ^ w := by rw [Nat.pow_succ, Nat.mul_comm]
  have hT : 0 < 2 ^ w := Nat.two_pow_pos w
  have e1 : IntKind.u64.wrap ((1 : Int) * (2 : Int) ^ (min (((w + 1 : Nat) : Int) - 1).toNat (IntKind.bits .u64))) = ((2 ^ w : Nat) : Int) := by
    rw [u64wrap, show (((w + 1 : Nat) : Int) - 1).toNat = w by omega, Nat.min_eq_left (by show w ≤ 64; omega)]
    rw [show (2 : Int) ^ w = ((2 ^ w : Nat) : Int) by rw [Int.natCast_pow]; rfl]
    generalize 2 ^ w = T at *
    omega
  refine fits_of_body (C := cfgs 0) (c := c28) (ts := [6]) tokL mixedL (fun | 4 => some (inv28 s w p) | _ => none) (fun _ => none)
    Try.func28 (by kernel_rfl) (by kernel_rfl) (by kernel_rfl) (by kernel_rfl) rfl ?_
  conv => whnf
  repeat (first
    | (refine And.intro ?_ ?_; (focus (first | omega | decide | exact EqOk.mk (by kernel_rfl) (by kernel_rfl) (by kernel_rfl) | exact Int.natCast_nonneg _ | ((repeat' refine And.intro ?_ ?_) <;> first | omega | exact Int.natCast_nonneg _ | (simp only [i64max, u8max, u16max, u32max, u64max]; omega) | (simp only [mulSz_eq, Cont.len, colsLen, Col.len, List.length_cons, List.length_nil, List.length_replicate, List.length_append]; first | done | omega) | (simp [mulSz, Cont.len, bne]; first | done | omega)))); conv => whnf)
    | (refine tst_in ?_ ?_; (focus (intro h_; exfalso; first | omega | ((try simp only [decide_eq_true_eq, decide_eq_false_iff_not] at h_); omega) | (simp [mulSz, Cont.len, bne] at h_; first | done | omega))); intro _; conv => whnf)
    | (refine tst_in ?_ ?_; rotate_left; (focus (intro h_; exfalso; first | omega | ((try simp only [decide_eq_true_eq, decide_eq_false_iff_not] at h_); omega) | (simp [mulSz, Cont.len, bne] at h_; first | done | omega))); intro _; conv => whnf)
    | (refine ⟨0, (show _ = _ by omega), ?_⟩; conv => whnf))
  rw [e1]
  conv => whnf
  repeat (first
    | (refine And.intro ?_ ?_; (focus (first | omega | decide | exact EqOk.mk (by kernel_rfl) (by kernel_rfl) (by kernel_rfl) | exact Int.natCast_nonneg _ | ((repeat' refine And.intro ?_ ?_) <;> first | omega | exact Int.natCast_nonneg _ | (simp only [i64max, u8max, u16max, u32max, u64max]; omega) | (simp only [mulSz_eq, Cont.len, colsLen, Col.len, List.length_cons, List.length_nil, List.length_replicate, List.length_append]; first | done | omega) | (simp [mulSz, Cont.len, bne]; first | done | omega)))); conv => whnf)
    | (refine tst_in ?_ ?_; (focus (intro h_; exfalso; first | omega | ((try simp only [decide_eq_true_eq, decide_eq_false_iff_not] at h_); omega) | (simp [mulSz, Cont.len, bne] at h_; first | done | omega))); intro _; conv => whnf)
    | (refine tst_in ?_ ?_; rotate_left; (focus (intro h_; exfalso; first | omega | ((try simp only [decide_eq_true_eq, decide_eq_false_iff_not] at h_); omega) | (simp [mulSz, Cont.len, bne] at h_; first | done | omega))); intro _; conv => whnf)
    | (refine ⟨0, (show _ = _ by omega), ?_⟩; conv => whnf))
  refine ⟨⟨[], (0 : Nat), ?_, Nat.zero_le _⟩, ?_⟩
  · show stLe _ _ (st28 s w p 0) _
    conv => whnf
    repeat' (first | exact True.intro | rfl | refine And.intro ?_ ?_)
    all_goals (conv => whnf)
    repeat' (first | exact True.intro | rfl | refine And.intro ?_ ?_)
    all_goals (try omega)
  · intro (i : Nat) (hi : i ≤ 8 * s.size + (w + 1))
    show forceSt (st28 s w p i) _
    have hR : agR (w + 1) p s i < 2 ^ (w + 1) := agR_lt hp
    have hnext := agR_next (w + 1) p s i
    rw [ag_step] at hnext
    have hall := agR_all (w + 1) p h1 s
    have hov := over_bit (agR (w + 1) p s i) w
    have hlo := mask_lo (agR (w + 1) p s i) w
    have hm : agR (w + 1) p s i % 2 ^ w < 2 ^ w := Nat.mod_lt _ hT
    have hT1 : IntKind.u64.wrap (((2 ^ w : Nat) : Int) - 1) = ((2 ^ w - 1 : Nat) : Int) := by
      rw [u64wrap]; generalize 2 ^ w = T at *; omega
    have hsl := shl_one (agR (w + 1) p s i % 2 ^ w) (by generalize 2 ^ w = T at *; omega)
    have hpb : p < 18446744073709551616 := by omega
    generalize hM : agR (w + 1) p s i % 2 ^ w = M at *
    have hTb : 2 ^ w ≤ 4294967296 := by omega
    have hMb : 2 * M < 18446744073709551616 := by generalize 2 ^ w = T at *; omega
    have hRb : agR (w + 1) p s i < 4294967296 := by omega
    conv => whnf
    repeat (first
      | (refine And.intro ?_ ?_; (focus (first | omega | decide | exact EqOk.mk (by kernel_rfl) (by kernel_rfl) (by kernel_rfl) | exact Int.natCast_nonneg _ | ((repeat' refine And.intro ?_ ?_) <;> first | omega | exact Int.natCast_nonneg _ | (simp only [i64max, u8max, u16max, u32max, u64max]; omega) | (simp only [mulSz_eq, Cont.len, colsLen, Col.len, List.length_cons, List.length_nil, List.length_replicate, List.length_append]; first | done | omega) | (simp [mulSz, Cont.len, bne]; first | done | omega)))); conv => whnf)
      | (refine tst_in ?_ ?_; (focus (intro h_; exfalso; first | omega | ((try simp only [decide_eq_true_eq, decide_eq_false_iff_not] at h_); omega) | (simp [mulSz, Cont.len, bne] at h_; first | done | omega))); intro _; conv => whnf)
      | (refine tst_in ?_ ?_; rotate_left; (focus (intro h_; exfalso; first | omega | ((try simp only [decide_eq_true_eq, decide_eq_false_iff_not] at h_); omega) | (simp [mulSz, Cont.len, bne] at h_; first | done | omega))); intro _; conv => whnf)
      | (refine ⟨0, (show _ = _ by omega), ?_⟩; conv => whnf))
    refine tst_in (fun h1 => ?_) (fun h1' => ?_)
    · skip
      have h1 : i < 8 * s.size + (w + 1) := by simp at h1; omega
      conv => whnf
      repeat (first
        | (refine And.intro ?_ ?_; (focus (first | omega | decide | exact EqOk.mk (by kernel_rfl) (by kernel_rfl) (by kernel_rfl) | exact Int.natCast_nonneg _ | ((repeat' refine And.intro ?_ ?_) <;> first | omega | exact Int.natCast_nonneg _ | (simp only [i64max, u8max, u16max, u32max, u64max]; omega) | (simp only [mulSz_eq, Cont.len, colsLen, Col.len, List.length_cons, List.length_nil, List.length_replicate, List.length_append]; first | done | omega) | (simp [mulSz, Cont.len, bne]; first | done | omega)))); conv => whnf)
        | (refine tst_in ?_ ?_; (focus (intro h_; exfalso; first | omega | ((try simp only [decide_eq_true_eq, decide_eq_false_iff_not] at h_); omega) | (simp [mulSz, Cont.len, bne] at h_; first | done | omega))); intro _; conv => whnf)
        | (refine tst_in ?_ ?_; rotate_left; (focus (intro h_; exfalso; first | omega | ((try simp only [decide_eq_true_eq, decide_eq_false_iff_not] at h_); omega) | (simp [mulSz, Cont.len, bne] at h_; first | done | omega))); intro _; conv => whnf)
        | (refine ⟨0, (show _ = _ by omega), ?_⟩; conv => whnf))
      refine tst_in (fun h2 => ?_) (fun h2' => ?_)
      focus
        have h2 : i < 8 * s.size := by rw [dLt_eq] at h2; simp at h2; omega
        have ei : ((i : Int) / 8).toNat = i / 8 := by omega
        have hsb := sb_eq (byteAt s (i / 8)) (7 - i % 8) (7 - (i : Int) % 8) (by omega) (by omega) (byteAt_lt _ _)
        have hle : byteAt s (i / 8) / 2 ^ (7 - i % 8) ≤ byteAt s (i / 8) := Nat.div_le_self _ _
        have hlt := byteAt_lt s (i / 8)
        have hbv := bv_eq s i h2
        generalize byteAt s (i / 8) / 2 ^ (7 - i % 8) = B at *
        conv => whnf
        repeat (first
          | (refine And.intro ?_ ?_; (focus (first | omega | decide | exact EqOk.mk (by kernel_rfl) (by kernel_rfl) (by kernel_rfl) | exact Int.natCast_nonneg _ | ((repeat' refine And.intro ?_ ?_) <;> first | omega | exact Int.natCast_nonneg _ | (simp only [i64max, u8max, u16max, u32max, u64max]; omega) | (simp only [mulSz_eq, Cont.len, colsLen, Col.len, List.length_cons, List.length_nil, List.length_replicate, List.length_append]; first | done | omega) | (simp [mulSz, Cont.len, bne]; first | done | omega)))); conv => whnf)
          | (refine tst_in ?_ ?_; (focus (intro h_; exfalso; first | omega | ((try simp only [decide_eq_true_eq, decide_eq_false_iff_not] at h_); omega) | (simp [mulSz, Cont.len, bne] at h_; first | done | omega))); intro _; conv => whnf)
          | (refine tst_in ?_ ?_; rotate_left; (focus (intro h_; exfalso; first | omega | ((try simp only [decide_eq_true_eq, decide_eq_false_iff_not] at h_); omega) | (simp [mulSz, Cont.len, bne] at h_; first | done | omega))); intro _; conv => whnf)
          | (refine ⟨0, (show _ = _ by omega), ?_⟩; conv => whnf))
        rw [ei, hsb]
        conv => whnf
        repeat (first
          | (refine And.intro ?_ ?_; (focus (first | omega | decide | exact EqOk.mk (by kernel_rfl) (by kernel_rfl) (by kernel_rfl) | exact Int.natCast_nonneg _ | ((repeat' refine And.intro ?_ ?_) <;> first | omega | exact Int.natCast_nonneg _ | (simp only [i64max, u8max, u16max, u32max, u64max]; omega) | (simp only [mulSz_eq, Cont.len, colsLen, Col.len, List.length_cons, List.length_nil, List.length_replicate, List.length_append, u64max]; first | done | omega) | (simp [mulSz, Cont.len, bne, u64max]; first | done | omega)))); conv => whnf)
          | (refine tst_in ?_ ?_; (focus (intro h_; exfalso; first | omega | ((try simp only [decide_eq_true_eq, decide_eq_false_iff_not] at h_); omega) | (simp [mulSz, Cont.len, bne, u64max] at h_; first | done | omega))); intro _; conv => whnf)
          | (refine tst_in ?_ ?_; rotate_left; (focus (intro h_; exfalso; first | omega | ((try simp only [decide_eq_true_eq, decide_eq_false_iff_not] at h_); omega) | (simp [mulSz, Cont.len, bne, u64max] at h_; first | done | omega))); intro _; conv => whnf)
          | (refine ⟨0, (show _ = _ by omega), ?_⟩; conv => whnf))
        rw [hbv]
      all_goals
        have hbl : (agB s i).toNat ≤ 1 := Bool.toNat_le _
        have hor : (((2 * M : Nat) : Int).toNat ||| (((agB s i).toNat : Nat) : Int).toNat) < 18446744073709551616 := Nat.or_lt_two_pow (n := 64) hMb (by show (agB s i).toNat < _; omega)
        have hz : ¬ i < 8 * s.size → agB s i = false := fun h => by unfold agB; rw [decide_eq_false h]; rfl
        conv => whnf
        repeat (first
          | (refine And.intro ?_ ?_; (focus (first | omega | decide | exact EqOk.mk (by kernel_rfl) (by kernel_rfl) (by kernel_rfl) | exact Int.natCast_nonneg _ | ((repeat' refine And.intro ?_ ?_) <;> first | omega | exact Int.natCast_nonneg _ | (simp only [i64max, u8max, u16max, u32max, u64max]; omega) | (simp only [mulSz_eq, Cont.len, colsLen, Col.len, List.length_cons, List.length_nil, List.length_replicate, List.length_append, u64max]; first | done | omega) | (simp [mulSz, Cont.len, bne, u64max]; first | done | omega)))); conv => whnf)
          | (refine tst_in ?_ ?_; (focus (intro h_; exfalso; first | omega | ((try simp only [decide_eq_true_eq, decide_eq_false_iff_not] at h_); omega) | (simp [mulSz, Cont.len, bne, u64max] at h_; first | done | omega))); intro _; conv => whnf)
          | (refine tst_in ?_ ?_; rotate_left; (focus (intro h_; exfalso; first | omega | ((try simp only [decide_eq_true_eq, decide_eq_false_iff_not] at h_); omega) | (simp [mulSz, Cont.len, bne, u64max] at h_; first | done | omega))); intro _; conv => whnf)
          | (refine ⟨0, (show _ = _ by omega), ?_⟩; conv => whnf))
        rw [hov, hT1, hlo, hsl]
        conv => whnf
        repeat (first
          | (refine And.intro ?_ ?_; (focus (first | omega | decide | exact EqOk.mk (by kernel_rfl) (by kernel_rfl) (by kernel_rfl) | exact Int.natCast_nonneg _ | ((repeat' refine And.intro ?_ ?_) <;> first | omega | exact Int.natCast_nonneg _ | (simp only [i64max, u8max, u16max, u32max, u64max]; omega) | (simp only [mulSz_eq, Cont.len, colsLen, Col.len, List.length_cons, List.length_nil, List.length_replicate, List.length_append, u64max]; first | done | omega) | (simp [mulSz, Cont.len, bne, u64max]; first | done | omega)))); conv => whnf)
          | (refine tst_in ?_ ?_; (focus (intro h_; exfalso; first | omega | ((try simp only [decide_eq_true_eq, decide_eq_false_iff_not] at h_); omega) | (simp [mulSz, Cont.len, bne, u64max] at h_; first | done | omega))); intro _; conv => whnf)
          | (refine tst_in ?_ ?_; rotate_left; (focus (intro h_; exfalso; first | omega | ((try simp only [decide_eq_true_eq, decide_eq_false_iff_not] at h_); omega) | (simp [mulSz, Cont.len, bne, u64max] at h_; first | done | omega))); intro _; conv => whnf)
          | (refine ⟨0, (show _ = _ by omega), ?_⟩; conv => whnf))
        refine tst_in (fun h3 => ?_) (fun h3' => ?_)
        · skip
          conv => whnf
          repeat (first
            | (refine And.intro ?_ ?_; (focus (first | omega | decide | exact EqOk.mk (by kernel_rfl) (by kernel_rfl) (by kernel_rfl) | exact Int.natCast_nonneg _ | ((repeat' refine And.intro ?_ ?_) <;> first | omega | exact Int.natCast_nonneg _ | (simp only [i64max, u8max, u16max, u32max, u64max]; omega) | (simp only [mulSz_eq, Cont.len, colsLen, Col.len, List.length_cons, List.length_nil, List.length_replicate, List.length_append, u64max]; first | done | omega) | (simp [mulSz, Cont.len, bne, u64max]; first | done | omega)))); conv => whnf)
            | (refine tst_in ?_ ?_; (focus (intro h_; exfalso; first | omega | ((try simp only [decide_eq_true_eq, decide_eq_false_iff_not] at h_); omega) | (simp [mulSz, Cont.len, bne, u64max] at h_; first | done | omega))); intro _; conv => whnf)
            | (refine tst_in ?_ ?_; rotate_left; (focus (intro h_; exfalso; first | omega | ((try simp only [decide_eq_true_eq, decide_eq_false_iff_not] at h_); omega) | (simp [mulSz, Cont.len, bne, u64max] at h_; first | done | omega))); intro _; conv => whnf)
            | (refine ⟨0, (show _ = _ by omega), ?_⟩; conv => whnf))
          refine ⟨[], (i + 1 : Nat), ?_, (by show i + 1 ≤ _; omega), (by show 8 * s.size + (w + 1) - (i + 1) < 8 * s.size + (w + 1) - i; omega)⟩
          show stLe _ _ (st28 s w p (i + 1)) _
          conv => whnf
          repeat' (first | exact True.intro | rfl | refine And.intro ?_ ?_)
          all_goals (conv => whnf)
          repeat' (first | exact True.intro | rfl | refine And.intro ?_ ?_)
          all_goals (try omega)
          first
            | (rw [hnext, if_pos h3]; done)
            | (rw [hnext, if_neg (by rw [h3']; decide)]; done)
            | (rw [hnext, if_pos h3]; rfl)
            | (rw [hnext, if_neg (by rw [h3']; decide)]; rfl)
            | (rw [hnext, if_pos h3, hz (by rw [dLt_eq] at h2'; simp at h2'; omega)]; rfl)
            | (rw [hnext, if_neg (by rw [h3']; decide), hz (by rw [dLt_eq] at h2'; simp at h2'; omega)]; rfl)
        · skip
          conv => whnf
          repeat (first
            | (refine And.intro ?_ ?_; (focus (first | omega | decide | exact EqOk.mk (by kernel_rfl) (by kernel_rfl) (by kernel_rfl) | exact Int.natCast_nonneg _ | ((repeat' refine And.intro ?_ ?_) <;> first | omega | exact Int.natCast_nonneg _ | (simp only [i64max, u8max, u16max, u32max, u64max]; omega) | (simp only [mulSz_eq, Cont.len, colsLen, Col.len, List.length_cons, List.length_nil, List.length_replicate, List.length_append, u64max]; first | done | omega) | (simp [mulSz, Cont.len, bne, u64max]; first | done | omega)))); conv => whnf)
            | (refine tst_in ?_ ?_; (focus (intro h_; exfalso; first | omega | ((try simp only [decide_eq_true_eq, decide_eq_false_iff_not] at h_); omega) | (simp [mulSz, Cont.len, bne, u64max] at h_; first | done | omega))); intro _; conv => whnf)
            | (refine tst_in ?_ ?_; rotate_left; (focus (intro h_; exfalso; first | omega | ((try simp only [decide_eq_true_eq, decide_eq_false_iff_not] at h_); omega) | (simp [mulSz, Cont.len, bne, u64max] at h_; first | done | omega))); intro _; conv => whnf)
            | (refine ⟨0, (show _ = _ by omega), ?_⟩; conv => whnf))
          refine ⟨[], (i + 1 : Nat), ?_, (by show i + 1 ≤ _; omega), (by show 8 * s.size + (w + 1) - (i + 1) < 8 * s.size + (w + 1) - i; omega)⟩
          show stLe _ _ (st28 s w p (i + 1)) _
          conv => whnf
          repeat' (first | exact True.intro | rfl | refine And.intro ?_ ?_)
          all_goals (conv => whnf)
          repeat' (first | exact True.intro | rfl | refine And.intro ?_ ?_)
          all_goals (try omega)
          first
            | (rw [hnext, if_pos h3]; done)
            | (rw [hnext, if_neg (by rw [h3']; decide)]; done)
            | (rw [hnext, if_pos h3]; rfl)
            | (rw [hnext, if_neg (by rw [h3']; decide)]; rfl)
            | (rw [hnext, if_pos h3, hz (by rw [dLt_eq] at h2'; simp at h2'; omega)]; rfl)
            | (rw [hnext, if_neg (by rw [h3']; decide), hz (by rw [dLt_eq] at h2'; simp at h2'; omega)]; rfl)
    · skip
      have eI : i = 8 * s.size + (w + 1) := by simp at h1'; omega
      conv => whnf
      refine .inl ⟨(), [], ?_⟩
      conv => whnf
      repeat' (first | exact True.intro | rfl | refine And.intro ?_ ?_)
      all_goals (conv => whnf)
      repeat' (first | exact True.intro | rfl | refine And.intro ?_ ?_)
      all_goals (try omega)
      rw [eI, hall]
end Go.Proofs.Ytdkogicikhlicaa

set_option linter.unusedVariables false
set_option linter.unusedSimpArgs false
namespace Go.Proofs.Ytdkogicikhlicaa
open Go Go.Fw
noncomputable def c10 : Code := (Try.f10.body).getD .skip
set_option maxHeartbeats 0 in
set_option maxRecDepth 100000 in
theorem rPack_n (k n : Int) (m : Bool) (b : ByteArray) (hm : mayB k b = false) : Fits Try.prog 10 ⟨[frA k n m b], [], [numOut [] (.tup [.str ⟨#[]⟩, .int .i64 1])]⟩ := by
  have MB := May_f k n m b
  rw [hm] at MB
  refine fits_of_body (C := cfgs 0) (c := c10) (ts := [2, 3]) tokL mixedL (fun _ => none) (fun _ => none)
    Try.func10 (by kernel_rfl) (by kernel_rfl) (by kernel_rfl) (by kernel_rfl) rfl ?_
  conv => whnf
  refine ⟨_, [], MB, ?_⟩
  conv => whnf
  iterate 2
   refine And.intro ?_ ?_
   focus
    conv => whnf
    repeat' (first | exact True.intro | rfl | refine And.intro ?_ ?_ | omega)
    all_goals (conv => whnf)
    all_goals (try (first | rfl | omega | (simp; done)))
  conv => whnf
  refine ⟨?_, True.intro⟩
  intro _ _
  conv => whnf
  conv => whnf
  refine .inl ⟨(), [], ?_⟩
  conv => whnf
  repeat' (first | exact True.intro | rfl | refine And.intro ?_ ?_)
  all_goals (conv => whnf)
  repeat' (first | exact True.intro | rfl | refine And.intro ?_ ?_)
  all_goals (try omega)
theorem Sum16 (a b c : Int) : Fits Try.prog 28 ⟨[.str (tx [a, b, c]), .int .u64 4129, .int .i64 16], [], [numOut [] (.int .u64 (sm16 a b c : Nat))]⟩ :=
  Sum_f 15 4129 (tx [a, b, c]) (by rw [tx_size]; show 3 ≤ 140737488355328; omega) (by decide) (by decide) one16
theorem Sum32 (s : ByteArray) (hs : s.size ≤ 140737488355328) : Fits Try.prog 28 ⟨[.str s, .int .u64 79764919, .int .i64 32], [], [numOut [] (.int .u64 (crc32 s : Nat))]⟩ :=
  Sum_f 31 79764919 s hs (by decide) (by decide) one32
theorem tx_app (l m : List Int) : tx (l ++ m) = tx l ++ tx m := by
  apply ByteArray.ext
  rw [ByteArray.data_append]
  unfold tx
  simp
theorem tx_bytL2 (s : ByteArray) : tx (bytL s) = s := by
  refine bytL_inj (bytL_tx _ ?_)
  intro x hx
  unfold bytL at hx
  obtain ⟨c, _, rfl⟩ := List.mem_map.1 hx
  have := c.toNat_lt
  omega
theorem ref_row (A B D Z t1 t2 t3 : List Int) (z : Nat) (hA : A.length = 3) (hB : B.length = 2) (hD : D.length = 4) (hZ : Z.length = z) :
    List.take (3 + 2 + z + 4) (List.drop 0 (List.take (3 + 2 + z) (List.drop 0 (List.take (3 + 2) (List.drop 0 (List.take 3 (List.drop 0 A) ++ List.take 2 (List.drop 0 B) ++ t1)) ++ Z ++ t2)) ++ List.take 4 (List.drop 0 D) ++ t3)) = A ++ B ++ Z ++ D := by
  simp only [List.drop_zero]
  rw [List.take_of_length_le (show A.length ≤ 3 by omega), List.take_of_length_le (show B.length ≤ 2 by omega), List.take_of_length_le (show D.length ≤ 4 by omega)]
  rw [List.take_left' (show (A ++ B).length = 3 + 2 by rw [List.length_append, hA, hB])]
  rw [List.take_left' (show (A ++ B ++ Z).length = 3 + 2 + z by rw [List.length_append, List.length_append, hA, hB, hZ])]
  rw [List.take_left' (show (A ++ B ++ Z ++ D).length = 3 + 2 + z + 4 by rw [List.length_append, List.length_append, List.length_append, hA, hB, hZ, hD])]
theorem pack_eq (k n : Int) (m : Bool) (b : ByteArray) (t1 t2 t3 : List Int) : packT k n m b = ⟨⟨List.map (fun n => UInt8.ofNat n.toNat)
    (List.take (3 + 2 + b.size + 4) (List.drop 0 (List.take (3 + 2 + b.size) (List.drop 0 (List.take (3 + 2) (List.drop 0 (List.take 3 (List.drop 0 [h0 k m, n, (b.size : Int)]) ++ List.take 2 (List.drop 0 [IntKind.u8.wrap ((sm16 (h0 k m) n b.size : Nat) / 256), IntKind.u8.wrap ((sm16 (h0 k m) n b.size : Nat) % 256)]) ++ t1)) ++ bytL b ++ t2)) ++
      List.take 4 (List.drop 0 [IntKind.u8.wrap ((crc32 b : Nat) / (2 : Int) ^ min (Int.toNat 24) IntKind.u64.bits), IntKind.u8.wrap ((crc32 b : Nat) / (2 : Int) ^ min (Int.toNat 16) IntKind.u64.bits), IntKind.u8.wrap ((crc32 b : Nat) / (2 : Int) ^ min (Int.toNat 8) IntKind.u64.bits), IntKind.u8.wrap (crc32 b : Nat)]) ++ t3)))⟩⟩ := by
  have hS : sm16 (h0 k m) n b.size < 65536 := crc16_lt _
  rw [ref_row _ _ _ _ _ _ _ _ rfl rfl rfl (bytL_len b)]
  show _ = tx _
  unfold packT sealT tx4
  generalize sm16 (h0 k m) n b.size = S at *
  generalize crc32 b = R at *
  have e1 : [IntKind.u8.wrap ((S : Int) / 256), IntKind.u8.wrap ((S : Int) % 256)] = [((S / 256 : Nat) : Int), ((S % 256 : Nat) : Int)] := by
    rw [u8wrap, u8wrap, show ((S : Int) / 256) % 256 = ((S / 256 : Nat) : Int) by omega, show ((S : Int) % 256) % 256 = ((S % 256 : Nat) : Int) by omega]
  have e2 : [IntKind.u8.wrap ((R : Int) / (2 : Int) ^ min (Int.toNat 24) IntKind.u64.bits), IntKind.u8.wrap ((R : Int) / (2 : Int) ^ min (Int.toNat 16) IntKind.u64.bits), IntKind.u8.wrap ((R : Int) / (2 : Int) ^ min (Int.toNat 8) IntKind.u64.bits), IntKind.u8.wrap (R : Int)] = [((R / 16777216 % 256 : Nat) : Int), ((R / 65536 % 256 : Nat) : Int), ((R / 256 % 256 : Nat) : Int), ((R % 256 : Nat) : Int)] := by
    rw [u8wrap, u8wrap, u8wrap, u8wrap]
    show [((R : Int) / 16777216) % 256, ((R : Int) / 65536) % 256, ((R : Int) / 256) % 256, (R : Int) % 256] = _
    rw [show ((R : Int) / 16777216) % 256 = ((R / 16777216 % 256 : Nat) : Int) by omega, show ((R : Int) / 65536) % 256 = ((R / 65536 % 256 : Nat) : Int) by omega, show ((R : Int) / 256) % 256 = ((R / 256 % 256 : Nat) : Int) by omega, show (R : Int) % 256 = ((R % 256 : Nat) : Int) by omega]
  rw [e1, e2, tx_app, tx_app, tx_bytL2, ByteArray.append_assoc]
  rfl
def cut10 (k n : Int) (m : Bool) (b : ByteArray) : LInv := ⟨Unit, fun _ => ⟨slotsAt 63 [(1, .ptr 0 0), (2, .str ⟨#[]⟩), (3, .int .i64 0), (4, .slice 1 0 3 3)], [.seg true (.avs [.int .u8 k, .int .u8 n, .bool m, .str b]), .seg true (.ints .u8 [h0 k m, n, (b.size : Int)])]⟩, fun _ => True, fun _ => 0⟩
set_option maxHeartbeats 0 in
set_option maxRecDepth 100000 in
theorem rPack_y (k n : Int) (m : Bool) (b : ByteArray) (hm : mayB k b = true) (hn : 0 ≤ n) (hn2 : n ≤ 255) : Fits Try.prog 10 ⟨[frA k n m b], [], [numOut [] (.tup [.str (packT k n m b), .int .i64 0])]⟩ := by
  have hm' := hm
  unfold mayB at hm'
  simp only [Bool.and_eq_true, decide_eq_true_eq] at hm'
  obtain ⟨hk, hk2, hb⟩ := hm'
  have MB := May_f k n m b
  rw [hm] at MB
  have S1 := Sum16 (h0 k m) n b.size
  have S2 := Sum32 b (by omega)
  have hc16 : sm16 (h0 k m) n b.size < 65536 := crc16_lt _
  have hc32 := crc32_lt b
  have e1 : IntKind.u8.wrap (16 * k) = 16 * k := by rw [u8wrap]; omega
  have e2 : IntKind.u8.wrap (b.size : Int) = b.size := by rw [u8wrap]; omega
  have e3 : IntKind.u8.wrap (16 * k + 1) = 16 * k + 1 := by rw [u8wrap]; omega
  refine fits_of_body (C := cfgs 0) (c := c10) (ts := [2, 3]) tokL mixedL (fun _ => none) (fun | 6 => some (cut10 k n m b) | _ => none)
    Try.func10 (by kernel_rfl) (by kernel_rfl) (by kernel_rfl) (by kernel_rfl) rfl ?_
  conv => whnf
  refine ⟨_, [], MB, ?_⟩
  conv => whnf
  iterate 2
   refine And.intro ?_ ?_
   focus
    conv => whnf
    repeat' (first | exact True.intro | rfl | refine And.intro ?_ ?_ | omega)
    all_goals (conv => whnf)
    all_goals (try (first | rfl | omega | (simp; done)))
  conv => whnf
  refine ⟨?_, True.intro⟩
  intro _ _
  conv => whnf
  conv => whnf
  rw [e1, e2]
  conv => whnf
  refine ⟨?_, ?_⟩
  · cases m
    · have hh : h0 k false = 16 * k := by unfold h0; simp
      conv => whnf
      refine ⟨[0, 1], (), ?_, True.intro⟩
      show stLe _ _ ((cut10 k n false b).st ()) _
      conv => whnf
      repeat' (first | exact True.intro | rfl | refine And.intro ?_ ?_)
      all_goals (conv => whnf)
      repeat' (first | exact True.intro | rfl | refine And.intro ?_ ?_)
      all_goals (try omega)
      rw [hh]
    · have hh : h0 k true = 16 * k + 1 := by unfold h0; simp
      conv => whnf
      repeat (first
        | (refine And.intro ?_ ?_; (focus (first | omega | decide | exact EqOk.mk (by kernel_rfl) (by kernel_rfl) (by kernel_rfl) | exact Int.natCast_nonneg _ | ((repeat' refine And.intro ?_ ?_) <;> first | omega | exact Int.natCast_nonneg _ | (simp only [i64max, u8max, u16max, u32max, u64max]; omega) | (simp only [mulSz_eq, Cont.len, colsLen, Col.len, List.length_cons, List.length_nil, List.length_replicate, List.length_append]; first | done | omega) | (simp [mulSz, Cont.len, bne]; first | done | omega)))); conv => whnf)
        | (refine tst_in ?_ ?_; (focus (intro h_; exfalso; first | omega | ((try simp only [decide_eq_true_eq, decide_eq_false_iff_not] at h_); omega) | (simp [mulSz, Cont.len, bne] at h_; first | done | omega))); intro _; conv => whnf)
        | (refine tst_in ?_ ?_; rotate_left; (focus (intro h_; exfalso; first | omega | ((try simp only [decide_eq_true_eq, decide_eq_false_iff_not] at h_); omega) | (simp [mulSz, Cont.len, bne] at h_; first | done | omega))); intro _; conv => whnf)
        | (refine ⟨0, (show _ = _ by omega), ?_⟩; conv => whnf))
      refine ⟨[0, 1], (), ?_, True.intro⟩
      show stLe _ _ ((cut10 k n true b).st ()) _
      conv => whnf
      repeat' (first | exact True.intro | rfl | refine And.intro ?_ ?_)
      all_goals (conv => whnf)
      repeat' (first | exact True.intro | rfl | refine And.intro ?_ ?_)
      all_goals (try omega)
      show [h0 k true, n, (b.size : Int)] = [IntKind.u8.wrap (16 * k + 1), n, (b.size : Int)]
      rw [hh, e3]
  · rintro ⟨⟩ _
    show forceSt ((cut10 k n m b).st ()) _
    generalize hs16 : sm16 (h0 k m) n b.size = S at *
    generalize hs32 : crc32 b = R at *
    generalize hh0 : h0 k m = a at *
    conv => whnf
    repeat (first
      | (refine And.intro ?_ ?_; (focus (first | omega | decide | exact EqOk.mk (by kernel_rfl) (by kernel_rfl) (by kernel_rfl) | exact Int.natCast_nonneg _ | ((repeat' refine And.intro ?_ ?_) <;> first | omega | exact Int.natCast_nonneg _ | (simp only [i64max, u8max, u16max, u32max, u64max]; omega) | (simp only [mulSz_eq, Cont.len, colsLen, Col.len, List.length_cons, List.length_nil, List.length_replicate, List.length_append]; first | done | omega) | (simp [mulSz, Cont.len, bne]; first | done | omega)))); conv => whnf)
      | (refine tst_in ?_ ?_; (focus (intro h_; exfalso; first | omega | ((try simp only [decide_eq_true_eq, decide_eq_false_iff_not] at h_); omega) | (simp [mulSz, Cont.len, bne] at h_; first | done | omega))); intro _; conv => whnf)
      | (refine tst_in ?_ ?_; rotate_left; (focus (intro h_; exfalso; first | omega | ((try simp only [decide_eq_true_eq, decide_eq_false_iff_not] at h_); omega) | (simp [mulSz, Cont.len, bne] at h_; first | done | omega))); intro _; conv => whnf)
      | (refine ⟨0, (show _ = _ by omega), ?_⟩; conv => whnf))
    rw [hh0]
    refine ⟨_, [], S1, ?_⟩
    conv => whnf
    iterate 2
     refine And.intro ?_ ?_
     focus
      conv => whnf
      repeat' (first | exact True.intro | rfl | refine And.intro ?_ ?_ | omega)
      all_goals (conv => whnf)
      all_goals (try (first | rfl | omega | (simp; done)))
    conv => whnf
    refine ⟨?_, True.intro⟩
    intro _ _
    conv => whnf
    conv => whnf
    repeat (first
      | (refine And.intro ?_ ?_; (focus (first | omega | decide | exact EqOk.mk (by kernel_rfl) (by kernel_rfl) (by kernel_rfl) | exact Int.natCast_nonneg _ | ((repeat' refine And.intro ?_ ?_) <;> first | omega | exact Int.natCast_nonneg _ | (simp only [i64max, u8max, u16max, u32max, u64max]; omega) | (simp only [mulSz_eq, Cont.len, colsLen, Col.len, List.length_cons, List.length_nil, List.length_replicate, List.length_append]; first | done | omega) | (simp [mulSz, Cont.len, bne]; first | done | omega)))); conv => whnf)
      | (refine tst_in ?_ ?_; (focus (intro h_; exfalso; first | omega | ((try simp only [decide_eq_true_eq, decide_eq_false_iff_not] at h_); omega) | (simp [mulSz, Cont.len, bne] at h_; first | done | omega))); intro _; conv => whnf)
      | (refine tst_in ?_ ?_; rotate_left; (focus (intro h_; exfalso; first | omega | ((try simp only [decide_eq_true_eq, decide_eq_false_iff_not] at h_); omega) | (simp [mulSz, Cont.len, bne] at h_; first | done | omega))); intro _; conv => whnf)
      | (refine ⟨0, (show _ = _ by omega), ?_⟩; conv => whnf))
    intro t1
    conv => whnf
    repeat (first
      | (refine And.intro ?_ ?_; (focus (first | omega | decide | exact EqOk.mk (by kernel_rfl) (by kernel_rfl) (by kernel_rfl) | exact Int.natCast_nonneg _ | ((repeat' refine And.intro ?_ ?_) <;> first | omega | exact Int.natCast_nonneg _ | (simp only [i64max, u8max, u16max, u32max, u64max]; omega) | (simp only [mulSz_eq, Cont.len, colsLen, Col.len, List.length_cons, List.length_nil, List.length_replicate, List.length_append, List.length_append, List.length_cons, List.length_nil, List.length_take, List.length_drop]; first | done | omega) | (simp [mulSz, Cont.len, bne, List.length_append, List.length_cons, List.length_nil, List.length_take, List.length_drop]; first | done | omega)))); conv => whnf)
      | (refine tst_in ?_ ?_; (focus (intro h_; exfalso; first | omega | ((try simp only [decide_eq_true_eq, decide_eq_false_iff_not] at h_); omega) | (simp [mulSz, Cont.len, bne, List.length_append, List.length_cons, List.length_nil, List.length_take, List.length_drop] at h_; first | done | omega))); intro _; conv => whnf)
      | (refine tst_in ?_ ?_; rotate_left; (focus (intro h_; exfalso; first | omega | ((try simp only [decide_eq_true_eq, decide_eq_false_iff_not] at h_); omega) | (simp [mulSz, Cont.len, bne, List.length_append, List.length_cons, List.length_nil, List.length_take, List.length_drop] at h_; first | done | omega))); intro _; conv => whnf)
      | (refine ⟨0, (show _ = _ by omega), ?_⟩; conv => whnf))
    intro t2
    conv => whnf
    refine ⟨_, [], S2, ?_⟩
    conv => whnf
    iterate 2
     refine And.intro ?_ ?_
     focus
      conv => whnf
      repeat' (first | exact True.intro | rfl | refine And.intro ?_ ?_ | omega)
      all_goals (conv => whnf)
      all_goals (try (first | rfl | omega | (simp; done)))
    conv => whnf
    refine ⟨?_, True.intro⟩
    intro _ _
    conv => whnf
    conv => whnf
    repeat (first
      | (refine And.intro ?_ ?_; (focus (first | omega | decide | exact EqOk.mk (by kernel_rfl) (by kernel_rfl) (by kernel_rfl) | exact Int.natCast_nonneg _ | ((repeat' refine And.intro ?_ ?_) <;> first | omega | exact Int.natCast_nonneg _ | (simp only [i64max, u8max, u16max, u32max, u64max]; omega) | (simp only [mulSz_eq, Cont.len, colsLen, Col.len, List.length_cons, List.length_nil, List.length_replicate, List.length_append, List.length_append, List.length_cons, List.length_nil, List.length_take, List.length_drop]; first | done | omega) | (simp [mulSz, Cont.len, bne, List.length_append, List.length_cons, List.length_nil, List.length_take, List.length_drop]; first | done | omega)))); conv => whnf)
      | (refine tst_in ?_ ?_; (focus (intro h_; exfalso; first | omega | ((try simp only [decide_eq_true_eq, decide_eq_false_iff_not] at h_); omega) | (simp [mulSz, Cont.len, bne, List.length_append, List.length_cons, List.length_nil, List.length_take, List.length_drop] at h_; first | done | omega))); intro _; conv => whnf)
      | (refine tst_in ?_ ?_; rotate_left; (focus (intro h_; exfalso; first | omega | ((try simp only [decide_eq_true_eq, decide_eq_false_iff_not] at h_); omega) | (simp [mulSz, Cont.len, bne, List.length_append, List.length_cons, List.length_nil, List.length_take, List.length_drop] at h_; first | done | omega))); intro _; conv => whnf)
      | (refine ⟨0, (show _ = _ by omega), ?_⟩; conv => whnf))
    intro t3
    conv => whnf
    repeat (first
      | (refine And.intro ?_ ?_; (focus (first | omega | decide | exact EqOk.mk (by kernel_rfl) (by kernel_rfl) (by kernel_rfl) | exact Int.natCast_nonneg _ | ((repeat' refine And.intro ?_ ?_) <;> first | omega | exact Int.natCast_nonneg _ | (simp only [i64max, u8max, u16max, u32max, u64max]; omega) | (simp only [mulSz_eq, Cont.len, colsLen, Col.len, List.length_cons, List.length_nil, List.length_replicate, List.length_append, List.length_append, List.length_cons, List.length_nil, List.length_take, List.length_drop]; first | done | omega) | (simp [mulSz, Cont.len, bne, List.length_append, List.length_cons, List.length_nil, List.length_take, List.length_drop]; first | done | omega)))); conv => whnf)
      | (refine tst_in ?_ ?_; (focus (intro h_; exfalso; first | omega | ((try simp only [decide_eq_true_eq, decide_eq_false_iff_not] at h_); omega) | (simp [mulSz, Cont.len, bne, List.length_append, List.length_cons, List.length_nil, List.length_take, List.length_drop] at h_; first | done | omega))); intro _; conv => whnf)
      | (refine tst_in ?_ ?_; rotate_left; (focus (intro h_; exfalso; first | omega | ((try simp only [decide_eq_true_eq, decide_eq_false_iff_not] at h_); omega) | (simp [mulSz, Cont.len, bne, List.length_append, List.length_cons, List.length_nil, List.length_take, List.length_drop] at h_; first | done | omega))); intro _; conv => whnf)
      | (refine ⟨0, (show _ = _ by omega), ?_⟩; conv => whnf))
    refine .inl ⟨(), [], ?_⟩
    conv => whnf
    repeat' (first | exact True.intro | rfl | refine And.intro ?_ ?_)
    all_goals (conv => whnf)
    repeat' (first | exact True.intro | rfl | refine And.intro ?_ ?_)
    all_goals (try omega)
    subst hs16 hs32 hh0
    exact pack_eq k n m b t1 t2 t3
end Go.Proofs.Ytdkogicikhlicaa

set_option linter.unusedVariables false
set_option linter.unusedSimpArgs false
namespace Go.Proofs.Ytdkogicikhlicaa
open Go Go.Fw
theorem body_ahead (s : ByteArray) (hz : byteAt s 2 + 9 ≤ s.size) : aheadT (bodyX s) = s.extract 5 (byteAt s 2 + 5) := by
  have hY : (bodyX s).size = byteAt s 2 + 4 := by unfold bodyX; rw [ByteArray.size_extract]; omega
  refine bytL_inj ?_
  unfold aheadT
  rw [hY]
  unfold bodyX
  rw [bytL_extract, bytL_extract, bytL_extract, List.drop_zero, List.take_take]
  congr 1
  omega
theorem ref_good (s : ByteArray) (hz : byteAt s 2 + 9 ≤ s.size) :
    (mayB ((byteAt s 0 / 16 : Nat) : Int) (s.extract 5 (byteAt s 2 + 5)) = true ∧ packT ((byteAt s 0 / 16 : Nat) : Int) (byteAt s 1) (decide (byteAt s 0 % 2 = 1)) (s.extract 5 (byteAt s 2 + 5)) = s.extract 0 (byteAt s 2 + 9)) ↔ good s := by
  have hb0 := byteAt_lt s 0
  have hb1 := byteAt_lt s 1
  have hb2 := byteAt_lt s 2
  have hbz : (s.extract 5 (byteAt s 2 + 5)).size = byteAt s 2 := by rw [ByteArray.size_extract]; omega
  have hsub : ∀ i, i < byteAt s 2 + 9 → byteAt (s.extract 0 (byteAt s 2 + 9)) i = byteAt s i := fun i hi => by
    rw [byteAt_ext s 0 _ (by omega) hz, Nat.zero_add]
  constructor
  · rintro ⟨hm, hp⟩
    have hm' := hm
    unfold mayB at hm'
    simp only [Bool.and_eq_true, decide_eq_true_eq] at hm'
    have G := (pack_good ((byteAt s 0 / 16 : Nat) : Int) (byteAt s 1) (decide (byteAt s 0 % 2 = 1)) (s.extract 5 (byteAt s 2 + 5)) (by omega) (by omega) (by omega) (by omega) (by omega)).1
    rw [hp] at G
    obtain ⟨_, g1, _, g3⟩ := G
    have eb : bodyX (s.extract 0 (byteAt s 2 + 9)) = bodyX s := by
      unfold bodyX
      rw [hsub 2 (by omega)]
      refine bytL_inj ?_
      rw [bytL_extract, bytL_extract, bytL_extract, List.drop_zero, Nat.sub_zero, List.drop_take, List.take_take]
      congr 1
      omega
    rw [eb] at g3
    unfold hdOk at g1
    rw [hsub 0 (by omega), hsub 1 (by omega), hsub 2 (by omega), hsub 3 (by omega), hsub 4 (by omega)] at g1
    exact ⟨by omega, g1, hz, g3⟩
  · rintro ⟨_, ⟨h3, h4, hk, hk2, hc⟩, _, hS⟩
    refine ⟨?_, ?_⟩
    · unfold mayB
      simp only [Bool.and_eq_true, decide_eq_true_eq]
      omega
    · have ha : h0 ((byteAt s 0 / 16 : Nat) : Int) (decide (byteAt s 0 % 2 = 1)) = (byteAt s 0 : Int) := by
        unfold h0
        by_cases h : byteAt s 0 % 2 = 1
        · rw [decide_eq_true h]; simp only [if_true]; omega
        · rw [decide_eq_false h]; simp only [Bool.false_eq_true, if_false]; omega
      refine bytL_inj ?_
      rw [pack_bytL _ _ _ _ (by omega) (by omega) (by omega) (by omega) (by omega), ha, hbz, ← body_ahead s hz, hS]
      have hY : (bodyX s).size = byteAt s 2 + 4 := by unfold bodyX; rw [ByteArray.size_extract]; omega
      refine row_ext 0 (by rw [List.length_append, bytL_len, bytL_len, hY, ByteArray.size_extract]; simp only [List.length_cons, List.length_nil]; omega) fun i hi => ?_
      rw [List.length_append, bytL_len, hY] at hi
      simp only [List.length_cons, List.length_nil] at hi
      rw [← byteAt_bytL (s := s.extract 0 (byteAt s 2 + 9)) (by rw [ByteArray.size_extract]; omega), hsub i (by omega), g_app]
      by_cases h5 : i < 5
      · rw [if_pos (by simpa using h5)]
        obtain rfl | rfl | rfl | rfl | rfl : i = 0 ∨ i = 1 ∨ i = 2 ∨ i = 3 ∨ i = 4 := by omega
        · rfl
        · rfl
        · rfl
        · show ((sm16 (byteAt s 0) (byteAt s 1) (byteAt s 2) / 256 : Nat) : Int) = _; rw [h3]
        · show ((sm16 (byteAt s 0) (byteAt s 1) (byteAt s 2) % 256 : Nat) : Int) = _; rw [h4]
      · rw [if_neg (by simpa using h5)]
        show (bytL (bodyX s)).getD (i - 5) 0 = _
        rw [← byteAt_bytL (by omega)]
        unfold bodyX
        rw [byteAt_ext s 5 _ (by omega) (by omega), show 5 + (i - 5) = i by omega]
theorem ref_more (s : ByteArray) (h : good s) : decide (byteAt s 0 % 2 = 1) = decide (byteAt s 0 % 16 = 1) := by
  obtain ⟨_, ⟨_, _, _, hk2, _⟩, _⟩ := h
  rw [decide_eq_decide]; omega
end Go.Proofs.Ytdkogicikhlicaa

set_option linter.unusedVariables false
set_option linter.unusedSimpArgs false
namespace Go.Proofs.Ytdkogicikhlicaa
open Go Go.Fw
noncomputable def c12 : Code := (Try.f12.body).getD .skip
def cfg12 : Cfg := { cfgs 0 with plan := fun | 4 => some (.nn (.op 0 (.op 3 (.op 5 (.op 9 (.op 10 (.rd 1 (.rd 2 (.rd 4 (.rd 6 (.rd 7 (.rd 8 (.rd 11 (.rd 12 (.rd 13 (.op 14 (.chk [13, 12, 11, 8, 7, 6, 4, 2, 1] (.op 15 .done)))))))))))))))))) | _ => none }
set_option maxHeartbeats 0 in
set_option maxRecDepth 100000 in
theorem rParse_f (s : ByteArray) (hs : s.size ≤ 9223372036854775807) (X : AV) (hX : (good s ∧ X = goodV s) ∨ (¬ good s ∧ X = badV)) :
    Fits Try.prog 12 ⟨[.str s], [], [numOut [] X]⟩ := by
  have bad : ¬ good s → X = badV := fun h => by
    rcases hX with ⟨h1, _⟩ | ⟨_, h2⟩
    · exact absurd h1 h
    · exact h2
  have hb0 := byteAt_lt s 0
  have hb1 := byteAt_lt s 1
  have hb2 := byteAt_lt s 2
  have hw3 : IntKind.i64.wrap ((byteAt s (Int.toNat 2) : Nat) : Int) = (byteAt s 2 : Int) := wrap_i64 (by show (-9223372036854775808 : Int) ≤ ((byteAt s 2 : Nat) : Int) ∧ ((byteAt s 2 : Nat) : Int) ≤ 9223372036854775807; omega)
  refine fits_of_res (C := cfg12) (c := c12) (rs := [.cell 2 23, .tmp 3, .tmp 4]) tokL mixedL (fun _ => none) (fun _ => none)
    Try.func12 (by kernel_rfl) (by kernel_rfl) (by kernel_rfl) (by kernel_rfl) rfl ?_
  by_cases h9 : s.size < 9
  · rw [bad fun q => by have := q.1; omega]
    unfold badV frA
    conv => whnf
    repeat (first
      | (refine And.intro ?_ ?_; (focus (first | omega | decide | exact EqOk.mk (by kernel_rfl) (by kernel_rfl) (by kernel_rfl) | exact Int.natCast_nonneg _ | ((repeat' refine And.intro ?_ ?_) <;> first | omega | exact Int.natCast_nonneg _ | (simp only [i64max, u8max, u16max, u32max, u64max]; omega) | (simp only [mulSz_eq, Cont.len, colsLen, Col.len, List.length_cons, List.length_nil, List.length_replicate, List.length_append]; first | done | omega) | (simp [mulSz, Cont.len, bne]; first | done | omega)))); conv => whnf)
      | (refine tst_in ?_ ?_; (focus (intro h_; exfalso; first | omega | ((try simp only [decide_eq_true_eq, decide_eq_false_iff_not] at h_); omega) | (simp [mulSz, Cont.len, bne] at h_; first | done | omega))); intro _; conv => whnf)
      | (refine tst_in ?_ ?_; rotate_left; (focus (intro h_; exfalso; first | omega | ((try simp only [decide_eq_true_eq, decide_eq_false_iff_not] at h_); omega) | (simp [mulSz, Cont.len, bne] at h_; first | done | omega))); intro _; conv => whnf)
      | (refine ⟨0, (show _ = _ by omega), ?_⟩; conv => whnf))
    refine .inl ⟨(), [], ?_⟩
    conv => whnf
    repeat' (first | exact True.intro | rfl | refine And.intro ?_ ?_)
    all_goals (conv => whnf)
    repeat' (first | exact True.intro | rfl | refine And.intro ?_ ?_)
    all_goals (try omega)
  · by_cases hl : s.size < byteAt s 2 + 9
    · rw [bad fun q => by have := q.2.2.1; omega]
      unfold badV frA
      conv => whnf
      repeat (first
        | (refine And.intro ?_ ?_; (focus (first | omega | decide | exact EqOk.mk (by kernel_rfl) (by kernel_rfl) (by kernel_rfl) | exact Int.natCast_nonneg _ | ((repeat' refine And.intro ?_ ?_) <;> first | omega | exact Int.natCast_nonneg _ | (simp only [i64max, u8max, u16max, u32max, u64max]; omega) | (simp only [mulSz_eq, Cont.len, colsLen, Col.len, List.length_cons, List.length_nil, List.length_replicate, List.length_append]; first | done | omega) | (simp [mulSz, Cont.len, bne]; first | done | omega)))); conv => whnf)
        | (refine tst_in ?_ ?_; (focus (intro h_; exfalso; first | omega | ((try simp only [decide_eq_true_eq, decide_eq_false_iff_not] at h_); omega) | (simp [mulSz, Cont.len, bne] at h_; first | done | omega))); intro _; conv => whnf)
        | (refine tst_in ?_ ?_; rotate_left; (focus (intro h_; exfalso; first | omega | ((try simp only [decide_eq_true_eq, decide_eq_false_iff_not] at h_); omega) | (simp [mulSz, Cont.len, bne] at h_; first | done | omega))); intro _; conv => whnf)
        | (refine ⟨0, (show _ = _ by omega), ?_⟩; conv => whnf))
      rw [hw3]
      conv => whnf
      repeat (first
        | (refine And.intro ?_ ?_; (focus (first | omega | decide | exact EqOk.mk (by kernel_rfl) (by kernel_rfl) (by kernel_rfl) | exact Int.natCast_nonneg _ | ((repeat' refine And.intro ?_ ?_) <;> first | omega | exact Int.natCast_nonneg _ | (simp only [i64max, u8max, u16max, u32max, u64max]; omega) | (simp only [mulSz_eq, Cont.len, colsLen, Col.len, List.length_cons, List.length_nil, List.length_replicate, List.length_append]; first | done | omega) | (simp [mulSz, Cont.len, bne]; first | done | omega)))); conv => whnf)
        | (refine tst_in ?_ ?_; (focus (intro h_; exfalso; first | omega | ((try simp only [decide_eq_true_eq, decide_eq_false_iff_not] at h_); omega) | (simp [mulSz, Cont.len, bne] at h_; first | done | omega))); intro _; conv => whnf)
        | (refine tst_in ?_ ?_; rotate_left; (focus (intro h_; exfalso; first | omega | ((try simp only [decide_eq_true_eq, decide_eq_false_iff_not] at h_); omega) | (simp [mulSz, Cont.len, bne] at h_; first | done | omega))); intro _; conv => whnf)
        | (refine ⟨0, (show _ = _ by omega), ?_⟩; conv => whnf))
      refine .inl ⟨(), [], ?_⟩
      conv => whnf
      repeat' (first | exact True.intro | rfl | refine And.intro ?_ ?_)
      all_goals (conv => whnf)
      repeat' (first | exact True.intro | rfl | refine And.intro ?_ ?_)
      all_goals (try omega)
    · have RG := ref_good s (by omega)
      have BA := body_ahead s (by omega)
      have hb0' : byteAt s (Int.toNat 0) < 256 := by rw [show Int.toNat 0 = 0 from rfl]; exact hb0
      have ek : ((byteAt s (Int.toNat 0) : Nat) : Int) / 16 = ((byteAt s 0 / 16 : Nat) : Int) := by rw [show Int.toNat 0 = 0 from rfl]; omega
      have em : decide (((byteAt s (Int.toNat 0) : Nat) : Int) % 2 = 1) = decide (byteAt s 0 % 2 = 1) := by rw [show Int.toNat 0 = 0 from rfl, decide_eq_decide]; omega
      have ei : s.extract (Int.toNat 5) (9 + (byteAt s 2 : Int) - 4).toNat = s.extract 5 (byteAt s 2 + 5) := by
        rw [show (9 + (byteAt s 2 : Int) - 4).toNat = byteAt s 2 + 5 by omega, show Int.toNat 5 = 5 from rfl]
      have ej : s.extract 0 (9 + (byteAt s 2 : Int)).toNat = s.extract 0 (byteAt s 2 + 9) := by
        rw [show (9 + (byteAt s 2 : Int)).toNat = byteAt s 2 + 9 by omega]
      by_cases hgood : good s
      · obtain ⟨hm, hg⟩ := RG.2 hgood
        have hX : X = goodV s := by
          rcases hX with ⟨_, h2⟩ | ⟨h1, _⟩
          · exact h2
          · exact absurd hgood h1
        have hGV : goodV s = .tup [.agg [.int .u8 ((byteAt s 0 / 16 : Nat) : Int), .int .u8 (byteAt s 1), .bool (decide (byteAt s 0 % 2 = 1)), .str (s.extract 5 (byteAt s 2 + 5))], .int .i64 (9 + (byteAt s 2 : Int)), .int .i64 0] := by
          unfold goodV frA
          rw [BA, ← ref_more s hgood, show ((byteAt s 2 + 9 : Nat) : Int) = 9 + (byteAt s 2 : Int) by omega]
        rw [hX, hGV]
        conv => whnf
        repeat (first
          | (refine And.intro ?_ ?_; (focus (first | omega | decide | exact EqOk.mk (by kernel_rfl) (by kernel_rfl) (by kernel_rfl) | exact Int.natCast_nonneg _ | ((repeat' refine And.intro ?_ ?_) <;> first | omega | exact Int.natCast_nonneg _ | (simp only [i64max, u8max, u16max, u32max, u64max]; omega) | (simp only [mulSz_eq, Cont.len, colsLen, Col.len, List.length_cons, List.length_nil, List.length_replicate, List.length_append]; first | done | omega) | (simp [mulSz, Cont.len, bne]; first | done | omega)))); conv => whnf)
          | (refine tst_in ?_ ?_; (focus (intro h_; exfalso; first | omega | ((try simp only [decide_eq_true_eq, decide_eq_false_iff_not] at h_); omega) | (simp [mulSz, Cont.len, bne] at h_; first | done | omega))); intro _; conv => whnf)
          | (refine tst_in ?_ ?_; rotate_left; (focus (intro h_; exfalso; first | omega | ((try simp only [decide_eq_true_eq, decide_eq_false_iff_not] at h_); omega) | (simp [mulSz, Cont.len, bne] at h_; first | done | omega))); intro _; conv => whnf)
          | (refine ⟨0, (show _ = _ by omega), ?_⟩; conv => whnf))
        rw [hw3]
        conv => whnf
        repeat (first
          | (refine And.intro ?_ ?_; (focus (first | omega | decide | exact EqOk.mk (by kernel_rfl) (by kernel_rfl) (by kernel_rfl) | exact Int.natCast_nonneg _ | ((repeat' refine And.intro ?_ ?_) <;> first | omega | exact Int.natCast_nonneg _ | (simp only [i64max, u8max, u16max, u32max, u64max]; omega) | (simp only [mulSz_eq, Cont.len, colsLen, Col.len, List.length_cons, List.length_nil, List.length_replicate, List.length_append, u8max]; first | done | omega) | (simp [mulSz, Cont.len, bne, u8max]; first | done | omega)))); conv => whnf)
          | (refine tst_in ?_ ?_; (focus (intro h_; exfalso; first | omega | ((try simp only [decide_eq_true_eq, decide_eq_false_iff_not] at h_); omega) | (simp [mulSz, Cont.len, bne, u8max] at h_; first | done | omega))); intro _; conv => whnf)
          | (refine tst_in ?_ ?_; rotate_left; (focus (intro h_; exfalso; first | omega | ((try simp only [decide_eq_true_eq, decide_eq_false_iff_not] at h_); omega) | (simp [mulSz, Cont.len, bne, u8max] at h_; first | done | omega))); intro _; conv => whnf)
          | (refine ⟨0, (show _ = _ by omega), ?_⟩; conv => whnf))
        rw [ek, em, ei]
        have RP := rPack_y ((byteAt s 0 / 16 : Nat) : Int) (byteAt s 1) (decide (byteAt s 0 % 2 = 1)) (s.extract 5 (byteAt s 2 + 5)) hm (by omega) (by omega)
        rw [hg] at RP
        generalize s.extract 5 (byteAt s 2 + 5) = b at *
        generalize decide (byteAt s 0 % 2 = 1) = m at *
        generalize s.extract 0 (byteAt s 2 + 9) = T at *
        refine ⟨_, [], RP, ?_⟩
        conv => whnf
        iterate 2
         refine And.intro ?_ ?_
         focus
          conv => whnf
          repeat' (first | exact True.intro | rfl | refine And.intro ?_ ?_ | omega)
          all_goals (conv => whnf)
          all_goals (try (first | rfl | omega | (simp; done)))
        conv => whnf
        refine ⟨?_, True.intro⟩
        intro _ _
        conv => whnf
        conv => whnf
        repeat (first
          | (refine And.intro ?_ ?_; (focus (first | omega | decide | exact EqOk.mk (by kernel_rfl) (by kernel_rfl) (by kernel_rfl) | exact Int.natCast_nonneg _ | ((repeat' refine And.intro ?_ ?_) <;> first | omega | exact Int.natCast_nonneg _ | (simp only [i64max, u8max, u16max, u32max, u64max]; omega) | (simp only [mulSz_eq, Cont.len, colsLen, Col.len, List.length_cons, List.length_nil, List.length_replicate, List.length_append]; first | done | omega) | (simp [mulSz, Cont.len, bne]; first | done | omega)))); conv => whnf)
          | (refine tst_in ?_ ?_; (focus (intro h_; exfalso; first | omega | ((try simp only [decide_eq_true_eq, decide_eq_false_iff_not] at h_); omega) | (simp [mulSz, Cont.len, bne] at h_; first | done | omega))); intro _; conv => whnf)
          | (refine tst_in ?_ ?_; rotate_left; (focus (intro h_; exfalso; first | omega | ((try simp only [decide_eq_true_eq, decide_eq_false_iff_not] at h_); omega) | (simp [mulSz, Cont.len, bne] at h_; first | done | omega))); intro _; conv => whnf)
          | (refine ⟨0, (show _ = _ by omega), ?_⟩; conv => whnf))
        rw [ej, beq_bytes, decide_eq_true rfl]
        conv => whnf
        repeat (first
          | (refine And.intro ?_ ?_; (focus (first | omega | decide | exact EqOk.mk (by kernel_rfl) (by kernel_rfl) (by kernel_rfl) | exact Int.natCast_nonneg _ | ((repeat' refine And.intro ?_ ?_) <;> first | omega | exact Int.natCast_nonneg _ | (simp only [i64max, u8max, u16max, u32max, u64max]; omega) | (simp only [mulSz_eq, Cont.len, colsLen, Col.len, List.length_cons, List.length_nil, List.length_replicate, List.length_append]; first | done | omega) | (simp [mulSz, Cont.len, bne]; first | done | omega)))); conv => whnf)
          | (refine tst_in ?_ ?_; (focus (intro h_; exfalso; first | omega | ((try simp only [decide_eq_true_eq, decide_eq_false_iff_not] at h_); omega) | (simp [mulSz, Cont.len, bne] at h_; first | done | omega))); intro _; conv => whnf)
          | (refine tst_in ?_ ?_; rotate_left; (focus (intro h_; exfalso; first | omega | ((try simp only [decide_eq_true_eq, decide_eq_false_iff_not] at h_); omega) | (simp [mulSz, Cont.len, bne] at h_; first | done | omega))); intro _; conv => whnf)
          | (refine ⟨0, (show _ = _ by omega), ?_⟩; conv => whnf))
        refine .inl ⟨(), [], ?_⟩
        conv => whnf
        repeat' (first | exact True.intro | rfl | refine And.intro ?_ ?_)
        all_goals (conv => whnf)
        repeat' (first | exact True.intro | rfl | refine And.intro ?_ ?_)
        all_goals (try omega)
      · rw [bad hgood]
        unfold badV frA
        conv => whnf
        repeat (first
          | (refine And.intro ?_ ?_; (focus (first | omega | decide | exact EqOk.mk (by kernel_rfl) (by kernel_rfl) (by kernel_rfl) | exact Int.natCast_nonneg _ | ((repeat' refine And.intro ?_ ?_) <;> first | omega | exact Int.natCast_nonneg _ | (simp only [i64max, u8max, u16max, u32max, u64max]; omega) | (simp only [mulSz_eq, Cont.len, colsLen, Col.len, List.length_cons, List.length_nil, List.length_replicate, List.length_append]; first | done | omega) | (simp [mulSz, Cont.len, bne]; first | done | omega)))); conv => whnf)
          | (refine tst_in ?_ ?_; (focus (intro h_; exfalso; first | omega | ((try simp only [decide_eq_true_eq, decide_eq_false_iff_not] at h_); omega) | (simp [mulSz, Cont.len, bne] at h_; first | done | omega))); intro _; conv => whnf)
          | (refine tst_in ?_ ?_; rotate_left; (focus (intro h_; exfalso; first | omega | ((try simp only [decide_eq_true_eq, decide_eq_false_iff_not] at h_); omega) | (simp [mulSz, Cont.len, bne] at h_; first | done | omega))); intro _; conv => whnf)
          | (refine ⟨0, (show _ = _ by omega), ?_⟩; conv => whnf))
        rw [hw3]
        conv => whnf
        repeat (first
          | (refine And.intro ?_ ?_; (focus (first | omega | decide | exact EqOk.mk (by kernel_rfl) (by kernel_rfl) (by kernel_rfl) | exact Int.natCast_nonneg _ | ((repeat' refine And.intro ?_ ?_) <;> first | omega | exact Int.natCast_nonneg _ | (simp only [i64max, u8max, u16max, u32max, u64max]; omega) | (simp only [mulSz_eq, Cont.len, colsLen, Col.len, List.length_cons, List.length_nil, List.length_replicate, List.length_append, u8max]; first | done | omega) | (simp [mulSz, Cont.len, bne, u8max]; first | done | omega)))); conv => whnf)
          | (refine tst_in ?_ ?_; (focus (intro h_; exfalso; first | omega | ((try simp only [decide_eq_true_eq, decide_eq_false_iff_not] at h_); omega) | (simp [mulSz, Cont.len, bne, u8max] at h_; first | done | omega))); intro _; conv => whnf)
          | (refine tst_in ?_ ?_; rotate_left; (focus (intro h_; exfalso; first | omega | ((try simp only [decide_eq_true_eq, decide_eq_false_iff_not] at h_); omega) | (simp [mulSz, Cont.len, bne, u8max] at h_; first | done | omega))); intro _; conv => whnf)
          | (refine ⟨0, (show _ = _ by omega), ?_⟩; conv => whnf))
        rw [ek, em, ei]
        generalize s.extract 5 (byteAt s 2 + 5) = b at *
        generalize decide (byteAt s 0 % 2 = 1) = m at *
        by_cases hm : mayB ((byteAt s 0 / 16 : Nat) : Int) b = true
        · have RP := rPack_y ((byteAt s 0 / 16 : Nat) : Int) (byteAt s 1) m b hm (by omega) (by omega)
          have hg : ¬ packT ((byteAt s 0 / 16 : Nat) : Int) (byteAt s 1) m b = s.extract 0 (byteAt s 2 + 9) := fun q => hgood (RG.1 ⟨hm, q⟩)
          generalize packT ((byteAt s 0 / 16 : Nat) : Int) (byteAt s 1) m b = T at *
          refine ⟨_, [], RP, ?_⟩
          conv => whnf
          iterate 2
           refine And.intro ?_ ?_
           focus
            conv => whnf
            repeat' (first | exact True.intro | rfl | refine And.intro ?_ ?_ | omega)
            all_goals (conv => whnf)
            all_goals (try (first | rfl | omega | (simp; done)))
          conv => whnf
          refine ⟨?_, True.intro⟩
          intro _ _
          conv => whnf
          conv => whnf
          repeat (first
            | (refine And.intro ?_ ?_; (focus (first | omega | decide | exact EqOk.mk (by kernel_rfl) (by kernel_rfl) (by kernel_rfl) | exact Int.natCast_nonneg _ | ((repeat' refine And.intro ?_ ?_) <;> first | omega | exact Int.natCast_nonneg _ | (simp only [i64max, u8max, u16max, u32max, u64max]; omega) | (simp only [mulSz_eq, Cont.len, colsLen, Col.len, List.length_cons, List.length_nil, List.length_replicate, List.length_append]; first | done | omega) | (simp [mulSz, Cont.len, bne]; first | done | omega)))); conv => whnf)
            | (refine tst_in ?_ ?_; (focus (intro h_; exfalso; first | omega | ((try simp only [decide_eq_true_eq, decide_eq_false_iff_not] at h_); omega) | (simp [mulSz, Cont.len, bne] at h_; first | done | omega))); intro _; conv => whnf)
            | (refine tst_in ?_ ?_; rotate_left; (focus (intro h_; exfalso; first | omega | ((try simp only [decide_eq_true_eq, decide_eq_false_iff_not] at h_); omega) | (simp [mulSz, Cont.len, bne] at h_; first | done | omega))); intro _; conv => whnf)
            | (refine ⟨0, (show _ = _ by omega), ?_⟩; conv => whnf))
          rw [ej, beq_bytes, decide_eq_false hg]
          conv => whnf
          repeat (first
            | (refine And.intro ?_ ?_; (focus (first | omega | decide | exact EqOk.mk (by kernel_rfl) (by kernel_rfl) (by kernel_rfl) | exact Int.natCast_nonneg _ | ((repeat' refine And.intro ?_ ?_) <;> first | omega | exact Int.natCast_nonneg _ | (simp only [i64max, u8max, u16max, u32max, u64max]; omega) | (simp only [mulSz_eq, Cont.len, colsLen, Col.len, List.length_cons, List.length_nil, List.length_replicate, List.length_append]; first | done | omega) | (simp [mulSz, Cont.len, bne]; first | done | omega)))); conv => whnf)
            | (refine tst_in ?_ ?_; (focus (intro h_; exfalso; first | omega | ((try simp only [decide_eq_true_eq, decide_eq_false_iff_not] at h_); omega) | (simp [mulSz, Cont.len, bne] at h_; first | done | omega))); intro _; conv => whnf)
            | (refine tst_in ?_ ?_; rotate_left; (focus (intro h_; exfalso; first | omega | ((try simp only [decide_eq_true_eq, decide_eq_false_iff_not] at h_); omega) | (simp [mulSz, Cont.len, bne] at h_; first | done | omega))); intro _; conv => whnf)
            | (refine ⟨0, (show _ = _ by omega), ?_⟩; conv => whnf))
          refine .inl ⟨(), [], ?_⟩
          conv => whnf
          repeat' (first | exact True.intro | rfl | refine And.intro ?_ ?_)
          all_goals (conv => whnf)
          repeat' (first | exact True.intro | rfl | refine And.intro ?_ ?_)
          all_goals (try omega)
        · have hm : mayB ((byteAt s 0 / 16 : Nat) : Int) b = false := by simpa using hm
          have RP := rPack_n ((byteAt s 0 / 16 : Nat) : Int) (byteAt s 1) m b hm
          refine ⟨_, [], RP, ?_⟩
          conv => whnf
          iterate 2
           refine And.intro ?_ ?_
           focus
            conv => whnf
            repeat' (first | exact True.intro | rfl | refine And.intro ?_ ?_ | omega)
            all_goals (conv => whnf)
            all_goals (try (first | rfl | omega | (simp; done)))
          conv => whnf
          refine ⟨?_, True.intro⟩
          intro _ _
          conv => whnf
          conv => whnf
          refine .inl ⟨(), [], ?_⟩
          conv => whnf
          repeat' (first | exact True.intro | rfl | refine And.intro ?_ ?_)
          all_goals (conv => whnf)
          repeat' (first | exact True.intro | rfl | refine And.intro ?_ ?_)
          all_goals (try omega)
end Go.Proofs.Ytdkogicikhlicaa

set_option linter.unusedVariables false
set_option linter.unusedSimpArgs false
namespace Go.Proofs.Ytdkogicikhlicaa
open Go Go.Fw
noncomputable def c13 : Code := (Try.f13.body).getD .skip
theorem eqSelf (b : ByteArray) : (b.toList == b.toList) = true := by rw [beq_bytes]; simp
set_option maxHeartbeats 0 in
set_option maxRecDepth 100000 in
theorem SameF_f (k n : Int) (m : Bool) (b : ByteArray) : Fits Try.prog 13 ⟨[frA k n m b, frA k n m b], [], [numOut [] (.bool true)]⟩ := by
  have h1 : decide (k = k) = true := by simp
  have h2 : decide (n = n) = true := by simp
  have h3 : (m == m) = true := by simp
  have h4 := eqSelf b
  refine fits_of_body (C := cfgs 0) (c := c13) (ts := [4]) tokL mixedL (fun _ => none) (fun _ => none)
    Try.func13 (by kernel_rfl) (by kernel_rfl) (by kernel_rfl) (by kernel_rfl) rfl ?_
  unfold frA
  conv => whnf
  repeat (first
    | (refine And.intro ?_ ?_; (focus (first | omega | decide | exact EqOk.mk (by kernel_rfl) (by kernel_rfl) (by kernel_rfl) | exact Int.natCast_nonneg _ | ((repeat' refine And.intro ?_ ?_) <;> first | omega | exact Int.natCast_nonneg _ | (simp only [i64max, u8max, u16max, u32max, u64max]; omega) | (simp only [mulSz_eq, Cont.len, colsLen, Col.len, List.length_cons, List.length_nil, List.length_replicate, List.length_append]; first | done | omega) | (simp [mulSz, Cont.len, bne]; first | done | omega)))); conv => whnf)
    | (refine tst_in ?_ ?_; (focus (intro h_; exfalso; first | omega | ((try simp only [decide_eq_true_eq, decide_eq_false_iff_not] at h_); omega) | (simp [mulSz, Cont.len, bne] at h_; first | done | omega))); intro _; conv => whnf)
    | (refine tst_in ?_ ?_; rotate_left; (focus (intro h_; exfalso; first | omega | ((try simp only [decide_eq_true_eq, decide_eq_false_iff_not] at h_); omega) | (simp [mulSz, Cont.len, bne] at h_; first | done | omega))); intro _; conv => whnf)
    | (refine ⟨0, (show _ = _ by omega), ?_⟩; conv => whnf))
  refine .inl ⟨(), [], ?_⟩
  conv => whnf
  repeat' (first | exact True.intro | rfl | refine And.intro ?_ ?_)
  all_goals (conv => whnf)
  repeat' (first | exact True.intro | rfl | refine And.intro ?_ ?_)
  all_goals (try omega)
  rw [h4]
end Go.Proofs.Ytdkogicikhlicaa

set_option linter.unusedVariables false
set_option linter.unusedSimpArgs false
namespace Go.Proofs.Ytdkogicikhlicaa
open Go Go.Fw
noncomputable def c3 : Code := (Try.f3.body).getD .skip
set_option maxHeartbeats 0 in
set_option maxRecDepth 100000 in
theorem law_g (k n : Int) (m : Bool) (b s T : ByteArray) (e : Int) (k2 n2 : Int) (m2 : Bool) (b2 : ByteArray) (z e2 : Int)
    (P1 : Fits Try.prog 9 ⟨[frA k n m b], [], [numOut [] (.tup [.str T, .int .i64 e])]⟩) (P2 : Fits Try.prog 10 ⟨[frA k n m b], [], [numOut [] (.tup [.str T, .int .i64 e])]⟩)
    (Q1 : Fits Try.prog 11 ⟨[.str s], [], [numOut [] (.tup [frA k2 n2 m2 b2, .int .i64 z, .int .i64 e2])]⟩) (Q2 : Fits Try.prog 12 ⟨[.str s], [], [numOut [] (.tup [frA k2 n2 m2 b2, .int .i64 z, .int .i64 e2])]⟩) :
    Fits Try.prog 3 ⟨[frA k n m b, .str s], [], [numOut [] (.bool true)]⟩ := by
  have h4 := eqSelf T
  have h5 : decide (e = e) = true := by simp
  have h6 : decide (z = z) = true := by simp
  have h7 : decide (e2 = e2) = true := by simp
  have SM := SameF_f k2 n2 m2 b2
  refine fits_of_body (C := cfgs 0) (c := c3) (ts := [4]) tokL mixedL (fun _ => none) (fun _ => none)
    Try.func3 (by kernel_rfl) (by kernel_rfl) (by kernel_rfl) (by kernel_rfl) rfl ?_
  unfold frA at *
  conv => whnf
  refine ⟨_, [], P1, ?_⟩
  conv => whnf
  iterate 2
   refine And.intro ?_ ?_
   focus
    conv => whnf
    repeat' (first | exact True.intro | rfl | refine And.intro ?_ ?_ | omega)
    all_goals (conv => whnf)
    all_goals (try (first | rfl | omega | (simp; done)))
  conv => whnf
  refine ⟨?_, True.intro⟩
  intro _ _
  conv => whnf
  conv => whnf
  refine ⟨_, [], P2, ?_⟩
  conv => whnf
  iterate 2
   refine And.intro ?_ ?_
   focus
    conv => whnf
    repeat' (first | exact True.intro | rfl | refine And.intro ?_ ?_ | omega)
    all_goals (conv => whnf)
    all_goals (try (first | rfl | omega | (simp; done)))
  conv => whnf
  refine ⟨?_, True.intro⟩
  intro _ _
  conv => whnf
  conv => whnf
  refine ⟨_, [], Q1, ?_⟩
  conv => whnf
  iterate 2
   refine And.intro ?_ ?_
   focus
    conv => whnf
    repeat' (first | exact True.intro | rfl | refine And.intro ?_ ?_ | omega)
    all_goals (conv => whnf)
    all_goals (try (first | rfl | omega | (simp; done)))
  conv => whnf
  refine ⟨?_, True.intro⟩
  intro _ _
  conv => whnf
  conv => whnf
  refine ⟨_, [], Q2, ?_⟩
  conv => whnf
  iterate 2
   refine And.intro ?_ ?_
   focus
    conv => whnf
    repeat' (first | exact True.intro | rfl | refine And.intro ?_ ?_ | omega)
    all_goals (conv => whnf)
    all_goals (try (first | rfl | omega | (simp; done)))
  conv => whnf
  refine ⟨?_, True.intro⟩
  intro _ _
  conv => whnf
  conv => whnf
  rw [h4]
  conv => whnf
  rw [h5]
  conv => whnf
  refine ⟨_, [], SM, ?_⟩
  conv => whnf
  iterate 2
   refine And.intro ?_ ?_
   focus
    conv => whnf
    repeat' (first | exact True.intro | rfl | refine And.intro ?_ ?_ | omega)
    all_goals (conv => whnf)
    all_goals (try (first | rfl | omega | (simp; done)))
  conv => whnf
  refine ⟨?_, True.intro⟩
  intro _ _
  conv => whnf
  conv => whnf
  repeat (first
    | (refine And.intro ?_ ?_; (focus (first | omega | decide | exact EqOk.mk (by kernel_rfl) (by kernel_rfl) (by kernel_rfl) | exact Int.natCast_nonneg _ | ((repeat' refine And.intro ?_ ?_) <;> first | omega | exact Int.natCast_nonneg _ | (simp only [i64max, u8max, u16max, u32max, u64max]; omega) | (simp only [mulSz_eq, Cont.len, colsLen, Col.len, List.length_cons, List.length_nil, List.length_replicate, List.length_append]; first | done | omega) | (simp [mulSz, Cont.len, bne]; first | done | omega)))); conv => whnf)
    | (refine tst_in ?_ ?_; (focus (intro h_; exfalso; first | omega | ((try simp only [decide_eq_true_eq, decide_eq_false_iff_not] at h_); omega) | (simp [mulSz, Cont.len, bne] at h_; first | done | omega))); intro _; conv => whnf)
    | (refine tst_in ?_ ?_; rotate_left; (focus (intro h_; exfalso; first | omega | ((try simp only [decide_eq_true_eq, decide_eq_false_iff_not] at h_); omega) | (simp [mulSz, Cont.len, bne] at h_; first | done | omega))); intro _; conv => whnf)
    | (refine ⟨0, (show _ = _ by omega), ?_⟩; conv => whnf))
  refine .inl ⟨(), [], ?_⟩
  conv => whnf
  repeat' (first | exact True.intro | rfl | refine And.intro ?_ ?_)
  all_goals (conv => whnf)
  repeat' (first | exact True.intro | rfl | refine And.intro ?_ ?_)
  all_goals (try omega)
  all_goals (first | done | simp)
def lawSpec (k n : Int) (m : Bool) (b s : ByteArray) : FSpec :=
  ⟨[frA k n m b, .str s], [], [⟨Unit, fun _ => True, fun _ => .bool true, fun _ => []⟩]⟩
theorem law_m (k n : Int) (m : Bool) (b s : ByteArray) (w0 : (Lit.int .u8 k).wf = true) (w1 : (Lit.int .u8 n).wf = true) (w2 : b.size ≤ reachBytes) (w3 : s.size ≤ maxLen) : Fits Try.prog 3 (lawSpec k n m b s) := by
  simp [Lit.wf, IntKind.min, IntKind.max, IntKind.signed, IntKind.bits] at w0 w1
  unfold maxLen at w3
  have hs : s.size ≤ 9223372036854775807 := by omega
  have key : ∀ (k2 n2 : Int) (m2 : Bool) (b2 : ByteArray) (z e2 : Int), ((good s ∧ AV.tup [frA k2 n2 m2 b2, .int .i64 z, .int .i64 e2] = goodV s) ∨ (¬ good s ∧ AV.tup [frA k2 n2 m2 b2, .int .i64 z, .int .i64 e2] = badV)) → Fits Try.prog 3 (lawSpec k n m b s) := by
    intro k2 n2 m2 b2 z e2 hX
    have Q1 := Parse_f s hs _ hX
    have Q2 := rParse_f s hs _ hX
    cases hm : mayB k b
    · exact law_g k n m b s _ _ k2 n2 m2 b2 z e2 (Pack_n k n m b hm) (rPack_n k n m b hm) Q1 Q2
    · exact law_g k n m b s _ _ k2 n2 m2 b2 z e2 (Pack_y k n m b hm (by omega) (by omega)) (rPack_y k n m b hm (by omega) (by omega)) Q1 Q2
  by_cases hg : good s
  · exact key _ _ _ _ _ _ (.inl ⟨hg, rfl⟩)
  · exact key _ _ _ _ _ _ (.inr ⟨hg, rfl⟩)
end Go.Proofs.Ytdkogicikhlicaa

namespace Go.Proofs.Ytdkogicikhlicaa
open Go Go.Fw
namespace frameBytes
open Go.ChangeShapes Go.WideShapes Go.ChangeAt Go.RowKit
theorem own : ownKnob Try.prog.godebug = none := by kernel_rfl
theorem laid : laidOutB Try.prog = true := by kernel_rfl

set_option maxRecDepth 100000 in
theorem lifted (os : Os) (started : os.Started) (H : Type) (enc : TypeId × Value → H) :
    ReturnsInHanded {} Try.checked os 3 .any (Rows.frameBytesSpec.pre6 enc Try.prog Try.f3 Rows.frameBytesRow.domain false) (Rows.frameBytesSpec.post enc Try.prog Try.f3 false true false false) := by
  refine returnsInHanded_of_change_sized (C := Try.checked) own started (by kernel_rfl) Try.func3
    (ChangeSpec.witness6 (enc := enc) (C := Try.checked) false ⟨#[], #[.agg #[.int .u8 0, .int .u8 0, .bool false, .string .empty], .string .empty], []⟩ 8 (by kernel_rfl) (by kernel_rfl) (by kernel_rfl) (by kernel_rfl)) ?_
  intro W base args ds gs before hval0 hW _ hsz0 _
  have hsz : (DataW.weightsEach Try.prog (Try.f3.params.toList ++ Rows.frameBytesSpec.plain.varTypes Try.prog) (ds ++ gs)).all (· ≤ reachBytes) = true := hsz0
  clear hsz0
  have hval : ∀ (j : Nat) t v, Try.f3.params[j]? = some t → args[j]? = some v → Value.okWide Try.prog W .any base t v := hval0
  have hW' := hW
  obtain ⟨p, q, hA0, hV, rfl, hfz, hnd⟩ := hW
  have hA : DataW.TrodAll enc Try.prog W 0 (fun _ => true) true Try.f3.params.toList args.toList ds p := hA0
  rw [Try.params3] at hA hval hsz
  obtain ⟨v0, vs0, d0, ds0, p0, q0, hargs, rfl, rfl, h0, r0⟩ := trodAll_cons hA
  obtain ⟨v1, vs1, d1, ds1, p1, q1, rfl, rfl, rfl, h1, r1⟩ := trodAll_cons r0
  obtain ⟨rfl, rfl, rfl⟩ := trodAll_nil r1
  obtain rfl : args = #[v0, v1] := by cases args; simp_all
  obtain ⟨rfl, rfl⟩ := trodVars_none hV
  obtain ⟨c0c0, t0_0, e0_0, l0_0, c0c1, t0_1, e0_1, l0_1, c0c2, t0_2, e0_2, l0_2, c0c3, t0_3, e0_3, l0_3, e0_4⟩ : LeafsAre W [.int .u8, .int .u8, .bool, .str] v0.cells.toList := arg_open 12 (by kernel_rfl) h0 (fine_of (j := 0) hsz rfl rfl)
  subst e0_4
  subst e0_3
  subst e0_2
  subst e0_1
  obtain rfl := agg_of e0_0 (by simp)
  obtain ⟨x0_0, rfl, w0_0⟩ := l0_0
  obtain ⟨x0_1, rfl, w0_1⟩ := l0_1
  obtain ⟨x0_2, rfl⟩ := l0_2
  obtain ⟨x0_3, rfl, w0_3⟩ := l0_3
  obtain ⟨x1_0, rfl, rfl, rfl, w1_0⟩ := Go.ChangeMaps.open_string Try.underlying9 (hval 1 9 v1 rfl rfl) h1
  clear hA0 hval0
  have walk := (law_m x0_0 x0_1 x0_2 x0_3 x1_0 w0_0 w0_1 w0_3 w1_0).calls W [] [.agg #[.int .u8 x0_0, .int .u8 x0_1, .bool x0_2, .string x0_3], .string x1_0] (heap_args rfl fun i s hs => by
      simp [lawSpec, frA] at hs) (by simp only [lawSpec, frA, Dens]; exact ⟨_, _, rfl, ⟨[.int .u8 x0_0, .int .u8 x0_1, .bool x0_2, .string x0_3], rfl, ⟨_, _, rfl, by simp [Den], ⟨_, _, rfl, by simp [Den], ⟨_, _, rfl, by simp [Den], ⟨_, _, rfl, by simp [Den], rfl⟩⟩⟩⟩⟩, ⟨_, _, rfl, by simp [Den], rfl⟩⟩) (x := .bool true) (v := .bool true) rfl (by
      intro o ho y hy
      simp [lawSpec, frA] at ho
      subst ho; rfl)
  refine walk.mono fun e W' ⟨he, hg⟩ => ?_
  subst he
  exact ⟨_, rfl, law_done laid rfl rfl Try.underlying4 (by kernel_rfl) hW' rfl hg⟩

theorem over : Rows.frameBytesRow.holds Try.pinned (OpenSpec.ofChange Rows.frameBytesSpec) :=
  OpenClaim.holds_of_wide 3 Try.f3 rfl rfl rfl rfl rfl rfl rfl ⟨rfl, rfl, rfl, rfl, rfl⟩ rfl rfl rfl rfl rfl (by kernel_rfl) Try.func3 (by kernel_rfl)
    (of_decide_eq_true (by kernel_rfl)) (by unfold Func.isWrapper; first | (rw [if_pos (by decide +kernel)]; kernel_rfl) | (rw [if_neg (by decide +kernel)]; exact ⟨rfl, rfl⟩))
    (fun os started H enc _ => lifted os started H enc)

theorem proved : Rows.FrameBytesSaid := over
end frameBytes
end Go.Proofs.Ytdkogicikhlicaa
