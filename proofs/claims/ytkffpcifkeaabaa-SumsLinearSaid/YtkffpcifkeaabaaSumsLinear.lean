/-
  For all rows of bits and any cut: SumsLinear answers true and never panics: the sum of two rows' unlike places is the exclusive or of their sums, false bits ahead change none, a sum gone on with bit by bit is the sum at once, and two rows' sum is told by their sums. No condition.
-/
import Derived.Test.YtkffpcifkeaabaaRows
import Derived.Test.YtkffpcifkeaabaaFv
import Derived.Test.YtkffpcifkeaabaaTwSumsLinear
import Derived.Test.YtkffpcifkeaabaaFa
import Derived.WalkKit
import Derived.ProofKit
import Derived.OpenShut
import Derived.SizedLaws
set_option linter.unusedSimpArgs false
set_option linter.unusedVariables false
set_option linter.unusedVariables false
set_option linter.unusedSimpArgs false
namespace Go.Proofs.Ytkffpcifkeaabaa
open Go Go.Fw
def wtys : List (Nat × TyI) := [
  (3, ⟨.int .i64, 1, 8, .int .i64 0⟩),
  (4, ⟨.bool, 1, 1, .bool false⟩),
  (22, ⟨.slice 4, 1, 24, .slice none 0 0⟩),
  (23, ⟨.int .u16, 1, 2, .int .u16 0⟩),
  (24, ⟨.int .u32, 1, 4, .int .u32 0⟩),
  (25, ⟨.int .i64, 1, 8, .int .i64 0⟩),
  (72, ⟨.int .u64, 1, 8, .int .u64 0⟩)]
theorem wtok : TOk Try.prog wtys := by
  intro p hp
  simp only [wtys, List.mem_cons, List.not_mem_nil, or_false] at hp
  rcases hp with rfl | rfl | rfl | rfl | rfl | rfl | rfl
  all_goals exact ⟨by kernel_rfl, by kernel_rfl⟩
theorem wmixed : Try.prog.follows .mixedOrders = true := by kernel_rfl
def cfgk (k : Nat) : Cfg := { T := wtys, sgn := fun _ => false, wr := fun _ => false, k := k }
theorem i64max : IntKind.i64.max = 9223372036854775807 := rfl
theorem u32max : IntKind.u32.max = 4294967295 := rfl
theorem u16max : IntKind.u16.max = 65535 := rfl
theorem u8max : IntKind.u8.max = 255 := rfl
theorem u32wrap (n : Int) : IntKind.u32.wrap n = n % 4294967296 := by
  unfold IntKind.wrap
  simp [IntKind.bits, IntKind.signed]
theorem u16wrap (n : Int) : IntKind.u16.wrap n = n % 65536 := by
  unfold IntKind.wrap
  simp [IntKind.bits, IntKind.signed]
theorem take_next {α : Type} (l : List α) (k : Nat) (d : α) (h : k < l.length) : l.take (k + 1) = l.take k ++ [l.getD k d] := by
  rw [List.take_succ_eq_append_getElem h]; simp [List.getD, h]
def nx (W : Nat) (p s : Nat) (b : Bool) : Nat := if (Nat.testBit s (W - 1)) != b then ((2 * s) % 2 ^ W) ^^^ p else (2 * s) % 2 ^ W
theorem xor_add_mod (a b n : Nat) : (2 * (a ^^^ b)) % 2 ^ n = (2 * a) % 2 ^ n ^^^ (2 * b) % 2 ^ n := by
  have e : ∀ x : Nat, 2 * x = x <<< 1 := fun x => by rw [Nat.shiftLeft_eq]; omega
  rw [e, e, e]
  apply Nat.eq_of_testBit_eq
  intro i
  simp only [Nat.testBit_mod_two_pow, Nat.testBit_xor, Nat.testBit_shiftLeft]
  cases decide (i < n) <;> cases decide (i ≥ 1) <;> simp
theorem nx_xor (W p s t : Nat) (a b : Bool) : nx W p (s ^^^ t) (a != b) = nx W p s a ^^^ nx W p t b := by
  unfold nx
  rw [Nat.testBit_xor, xor_add_mod]
  generalize (2 * s) % 2 ^ W = u
  generalize (2 * t) % 2 ^ W = v
  cases Nat.testBit s (W-1) <;> cases Nat.testBit t (W-1) <;> cases a <;> cases b <;> simp <;> (apply Nat.eq_of_testBit_eq; intro i; simp only [Nat.testBit_xor]; cases u.testBit i <;> cases v.testBit i <;> cases p.testBit i <;> rfl)
def crc (W p : Nat) : Nat → List Bool → Nat
  | s, [] => s
  | s, b :: l => crc W p (nx W p s b) l
theorem crc_xor (W p : Nat) : ∀ (l m : List Bool) (s t : Nat), l.length = m.length → crc W p (s ^^^ t) (List.zipWith (· != ·) l m) = crc W p s l ^^^ crc W p t m
  | [], [], s, t, _ => rfl
  | [], _ :: _, _, _, h => by simp at h
  | _ :: _, [], _, _, h => by simp at h
  | a :: l, b :: m, s, t, h => by
    simp only [crc, List.zipWith_cons_cons]
    rw [nx_xor]
    exact crc_xor W p l m _ _ (by simpa using h)
theorem crc_append (W p : Nat) : ∀ (l m : List Bool) (s : Nat), crc W p s (l ++ m) = crc W p (crc W p s l) m
  | [], _, _ => rfl
  | a :: l, m, s => by simp only [crc, List.cons_append, crc_append W p l m]
theorem nx_zero (W p : Nat) : nx W p 0 false = 0 := by simp [nx]
theorem crc_zeros (W p : Nat) : ∀ n, crc W p 0 (List.replicate n false) = 0
  | 0 => rfl
  | n + 1 => by simp only [List.replicate_succ, crc, nx_zero, crc_zeros W p n]
theorem crc_joined (W p : Nat) (l m : List Bool) : crc W p (crc W p 0 l) (List.replicate m.length false) ^^^ crc W p 0 m = crc W p 0 (l ++ m) := by
  rw [crc_append, ← crc_xor W p _ _ _ _ (by simp)]
  congr 1
  · simp
  · apply List.ext_getElem <;> simp
theorem nx_lt {W p s : Nat} (b : Bool) (hp : p < 2 ^ W) : nx W p s b < 2 ^ W := by
  have h : (2 * s) % 2 ^ W < 2 ^ W := Nat.mod_lt _ (Nat.two_pow_pos W)
  unfold nx
  split
  · exact Nat.xor_lt_two_pow h hp
  · exact h
theorem crc_lt {W p : Nat} (hp : p < 2 ^ W) : ∀ (l : List Bool) (s : Nat), s < 2 ^ W → crc W p s l < 2 ^ W
  | [], _, h => h
  | b :: l, s, h => crc_lt hp l _ (nx_lt b hp)
theorem crc_snoc (W p s : Nat) (l : List Bool) (b : Bool) : crc W p s (l ++ [b]) = nx W p (crc W p s l) b := by rw [crc_append]; rfl
/-- A row's part. -/
def part (A : List Bool) (off n : Nat) : List Bool := (A.drop off).take n
theorem part_len {A : List Bool} {off n : Nat} (h : off + n ≤ A.length) : (part A off n).length = n := by simp [part]; omega
theorem part_get {A : List Bool} {off n k : Nat} (hk : k < n) : (part A off n).getD k false = A.getD (off + k) false := by
  unfold part
  rw [List.getD_eq_getElem?_getD, List.getElem?_take, if_pos hk, List.getElem?_drop, List.getD_eq_getElem?_getD]
theorem part_next {A : List Bool} {off n k : Nat} (h : off + n ≤ A.length) (hk : k < n) : (part A off n).take (k + 1) = (part A off n).take k ++ [A.getD (off + k) false] := by
  rw [take_next _ _ false (by rw [part_len h]; exact hk), part_get hk]
def numOut (D : List Seg) (x : AV) : FOut := ⟨Unit, fun _ => True, fun _ => x, fun _ => D⟩
end Go.Proofs.Ytkffpcifkeaabaa

set_option linter.unusedVariables false
set_option linter.unusedSimpArgs false
namespace Go.Proofs.Ytkffpcifkeaabaa
open Go Go.Fw
theorem wide32_f : Fits Try.prog 52 ⟨[.any], [], [numOut [] (.int .i64 32)]⟩ := wide32_T
theorem wide16_f : Fits Try.prog 54 ⟨[.any], [], [numOut [] (.int .i64 16)]⟩ := wide16_T
end Go.Proofs.Ytkffpcifkeaabaa

set_option linter.unusedVariables false
set_option linter.unusedSimpArgs false
namespace Go.Proofs.Ytkffpcifkeaabaa
open Go Go.Fw

theorem tb32 (s : Nat) (hs : s < 4294967296) : (!decide ((s : Int) / 2 ^ (min ((32 : Int) - 1).toNat (IntKind.bits .u32)) = 0)) = Nat.testBit s 31 := by
  show (!decide ((s : Int) / 2147483648 = 0)) = Nat.testBit s 31
  rw [Nat.testBit_eq_decide_div_mod_eq]
  have e : (2 : Nat) ^ 31 = 2147483648 := rfl
  rw [e]
  apply Bool.eq_iff_iff.mpr
  simp only [Bool.not_eq_true', decide_eq_true_eq, decide_eq_false_iff_not]
  omega
theorem sh32 (s : Nat) : IntKind.u32.wrap ((s : Int) * 2 ^ (min (Int.toNat 1) (IntKind.bits .u32))) = ((2 * s % 4294967296 : Nat) : Int) := by
  rw [u32wrap]
  show ((s : Int) * 2) % 4294967296 = _
  omega
noncomputable def c34 : Code := (Try.f34.body).getD .skip
set_option maxRecDepth 100000 in
theorem next32_f (s p : Nat) (b : Bool) (hs : s < 4294967296) (hp : p < 4294967296) : Fits Try.prog 34 ⟨[.int .u32 s, .int .u32 p, .bool b], [], [numOut [] (.int .u32 (nx 32 p s b : Nat))]⟩ := by
  refine fits_of_body (C := cfgk 0) (c := c34) (ts := [6]) wtok wmixed (fun _ => none) (fun _ => none)
    Try.func34 (by kernel_rfl) (by kernel_rfl) (by kernel_rfl) (by kernel_rfl) rfl ?_
  have hn : nx 32 p s b = if (Nat.testBit s 31) != b then (2 * s % 4294967296) ^^^ p else 2 * s % 4294967296 := rfl
  conv => whnf
  refine ⟨_, [], wide32_f, ?_⟩
  conv => whnf
  refine ⟨?_, ?_, ?_⟩
  · conv => whnf
    repeat' (first | exact True.intro | rfl | refine And.intro ?_ ?_ | omega)
    all_goals (conv => whnf)
    all_goals (try (first | rfl | omega | (simp; done)))
  · conv => whnf
    repeat' (first | exact True.intro | rfl | refine And.intro ?_ ?_ | omega)
    all_goals (conv => whnf)
    all_goals (try (first | rfl | omega | (simp; done)))
  conv => whnf
  refine ⟨?_, True.intro⟩
  intro _ _
  conv => whnf
  refine ⟨by repeat' (first | omega | exact Int.natCast_nonneg _ | (simp only [i64max]; omega) | (simp only [u8max]; omega) | refine And.intro ?_ ?_), ?_⟩
  conv => whnf
  refine ⟨by repeat' (first | omega | exact Int.natCast_nonneg _ | (simp only [i64max]; omega) | (simp only [u8max]; omega) | refine And.intro ?_ ?_), ?_⟩
  conv => whnf
  rw [tb32 s hs]
  conv => whnf
  refine ⟨by repeat' (first | omega | exact Int.natCast_nonneg _ | (simp only [i64max]; omega) | (simp only [u8max]; omega) | refine And.intro ?_ ?_), ?_⟩
  conv => whnf
  rw [sh32]
  refine tst_in (fun h => ?_) (fun h => ?_)
  · rw [if_pos h] at hn
    have hm : 2 * s % 4294967296 < 4294967296 := Nat.mod_lt _ (by decide)
    conv => whnf
    refine ⟨⟨by omega, by omega, by show ((2 * s % 4294967296 : Nat) : Int) ≤ 4294967295; omega, by show (p : Int) ≤ 4294967295; omega⟩, ?_⟩
    conv => whnf
    refine .inl ⟨(), [], ?_⟩
    conv => whnf
    repeat' (first | exact True.intro | rfl | refine And.intro ?_ ?_)
    all_goals (show ((nx 32 p s b : Nat) : Int) = _; first | (rw [hn]; done) | (rw [hn]; rfl))
  · rw [if_neg (by rw [h]; decide)] at hn
    conv => whnf
    refine .inl ⟨(), [], ?_⟩
    conv => whnf
    repeat' (first | exact True.intro | rfl | refine And.intro ?_ ?_)
    all_goals (show ((nx 32 p s b : Nat) : Int) = _; first | (rw [hn]; done) | (rw [hn]; rfl))
noncomputable def c51 : Code := (Try.f51.body).getD .skip
def inv51 (A : List Bool) (off n ca s p : Nat) : LInv := ⟨Nat, fun k => ⟨anyTo 21 [.int .u32 (crc 32 p s ((part A off n).take k) : Nat), .int .u32 p, .slice 0 off n ca, .any, .any, .any, .any, .any, .any, .slice 0 off n ca, .int .i64 n, .int .i64 k], [.seg false (.bools A)]⟩, fun k => k ≤ n, fun k => n - k⟩
set_option maxRecDepth 100000 in
theorem on32_f (A : List Bool) (off n ca s p : Nat) (hn : off + n ≤ A.length) (hN : n ≤ 4611686018427387904) (hs : s < 4294967296) (hp : p < 4294967296) : Fits Try.prog 51 ⟨[.int .u32 s, .int .u32 p, .slice 0 off n ca], [.seg false (.bools A)], [numOut [.dead] (.int .u32 (crc 32 p s (part A off n) : Nat))]⟩ := by
  refine fits_of_body (C := cfgk 1) (c := c51) (ts := [6]) wtok wmixed (fun | 2 => some (inv51 A off n ca s p) | _ => none) (fun _ => none)
    Try.func51 (by kernel_rfl) (by kernel_rfl) (by kernel_rfl) (by kernel_rfl) rfl ?_
  conv => whnf
  refine ⟨⟨[0], (0 : Nat), ?_, Nat.zero_le _⟩, ?_⟩
  · conv => whnf
    repeat' (first | exact True.intro | rfl | refine And.intro ?_ ?_)
  · intro (k : Nat) (hk : k ≤ n)
    have hc := crc_lt (W := 32) hp ((part A off n).take k) s hs
    conv => whnf
    refine tst_in (fun hlt => ?_) (fun hge => ?_)
    · skip
      have hlt : k < n := by simp at hlt; omega
      have hx : off + ((k : Int)).toNat = off + k := by omega
      have hnx := part_next hn hlt
      conv => whnf
      refine ⟨by repeat' (first | omega | exact Int.natCast_nonneg _ | (simp only [i64max]; omega) | (simp only [u8max]; omega) | refine And.intro ?_ ?_), ?_⟩
      conv => whnf
      refine ⟨by repeat' (first | omega | exact Int.natCast_nonneg _ | (simp only [i64max]; omega) | (simp only [u8max]; omega) | refine And.intro ?_ ?_), ?_⟩
      conv => whnf
      refine ⟨_, [], next32_f (crc 32 p s ((part A off n).take k)) p (A.getD (off + ((k : Int)).toNat) false) hc hp, ?_⟩
      conv => whnf
      refine ⟨?_, ?_, ?_⟩
      · conv => whnf
        repeat' (first | exact True.intro | rfl | refine And.intro ?_ ?_ | omega)
        all_goals (conv => whnf)
        all_goals (try (first | rfl | omega | (simp; done)))
      · conv => whnf
        repeat' (first | exact True.intro | rfl | refine And.intro ?_ ?_ | omega)
        all_goals (conv => whnf)
        all_goals (try (first | rfl | omega | (simp; done)))
      conv => whnf
      refine ⟨?_, True.intro⟩
      intro _ _
      conv => whnf
      refine ⟨by repeat' (first | omega | exact Int.natCast_nonneg _ | (simp only [i64max]; omega) | (simp only [u8max]; omega) | refine And.intro ?_ ?_), ?_⟩
      conv => whnf
      refine ⟨[0], k + 1, ?_, ?_, ?_⟩
      · conv => whnf
        repeat' (first | exact True.intro | rfl | refine And.intro ?_ ?_)
        all_goals (show ((crc 32 p s ((part A off n).take (k + 1)) : Nat) : Int) = _; rw [hnx, crc_snoc, hx])
      · show k + 1 ≤ n
        omega
      · show n - (k + 1) < n - k
        omega
    · skip
      have hge : k = n := by simp at hge; omega
      subst hge
      conv => whnf
      refine .inl ⟨(), [0], ?_⟩
      conv => whnf
      repeat' (first | exact True.intro | rfl | refine And.intro ?_ ?_)
      all_goals (show ((crc 32 p s (part A off k) : Nat) : Int) = _; rw [List.take_of_length_le (by rw [part_len hn]; exact Nat.le_refl _)])
noncomputable def c33 : Code := (Try.f33.body).getD .skip
theorem On32_f (A : List Bool) (off n ca s : Nat) (hn : off + n ≤ A.length) (hN : n ≤ 32768) (hs : s < 4294967296) : Fits Try.prog 33 ⟨[.int .u32 s, .slice 0 off n ca], [.seg false (.bools A)], [numOut [.dead] (.tup [.int .u32 (crc 32 79764919 s (part A off n) : Nat), .int .i64 0])]⟩ := by
  refine fits_of_body (C := cfgk 1) (c := c33) (ts := [4, 5]) wtok wmixed (fun _ => none) (fun _ => none)
    Try.func33 (by kernel_rfl) (by kernel_rfl) (by kernel_rfl) (by kernel_rfl) rfl ?_
  conv => whnf
  refine tst_in (fun h_ => False.elim (by simp at h_ <;> omega)) (fun _ => ?_)
  conv => whnf
  refine ⟨_, [0], on32_f A off n ca s 79764919 hn (by omega) hs (by decide), ?_⟩
  conv => whnf
  refine ⟨?_, ?_, ?_⟩
  · conv => whnf
    repeat' (first | exact True.intro | rfl | refine And.intro ?_ ?_ | omega)
    all_goals (conv => whnf)
    all_goals (try (first | rfl | omega | (simp; done)))
  · conv => whnf
    repeat' (first | exact True.intro | rfl | refine And.intro ?_ ?_ | omega)
    all_goals (conv => whnf)
    all_goals (try (first | rfl | omega | (simp; done)))
  conv => whnf
  refine ⟨?_, True.intro⟩
  intro _ _
  conv => whnf
  refine .inl ⟨(), [0], ?_⟩
  conv => whnf
  repeat' (first | exact True.intro | rfl | refine And.intro ?_ ?_)
noncomputable def c7 : Code := (Try.f7.body).getD .skip
theorem Sum32_f (A : List Bool) (off n ca : Nat) (hn : off + n ≤ A.length) (hN : n ≤ 32768) : Fits Try.prog 7 ⟨[.slice 0 off n ca], [.seg false (.bools A)], [numOut [.dead] (.tup [.int .u32 (crc 32 79764919 0 (part A off n) : Nat), .int .i64 0])]⟩ := by
  refine fits_of_body (C := cfgk 1) (c := c7) (ts := [2, 3]) wtok wmixed (fun _ => none) (fun _ => none)
    Try.func7 (by kernel_rfl) (by kernel_rfl) (by kernel_rfl) (by kernel_rfl) rfl ?_
  conv => whnf
  refine ⟨_, [0], On32_f A off n ca 0 hn hN (by decide), ?_⟩
  conv => whnf
  refine ⟨?_, ?_, ?_⟩
  · conv => whnf
    repeat' (first | exact True.intro | rfl | refine And.intro ?_ ?_ | omega)
    all_goals (conv => whnf)
    all_goals (try (first | rfl | omega | (simp; done)))
  · conv => whnf
    repeat' (first | exact True.intro | rfl | refine And.intro ?_ ?_ | omega)
    all_goals (conv => whnf)
    all_goals (try (first | rfl | omega | (simp; done)))
  conv => whnf
  refine ⟨?_, True.intro⟩
  intro _ _
  conv => whnf
  refine .inl ⟨(), [0], ?_⟩
  conv => whnf
  repeat' (first | exact True.intro | rfl | refine And.intro ?_ ?_)
end Go.Proofs.Ytkffpcifkeaabaa

set_option linter.unusedVariables false
set_option linter.unusedSimpArgs false
namespace Go.Proofs.Ytkffpcifkeaabaa
open Go Go.Fw

theorem tb16 (s : Nat) (hs : s < 65536) : (!decide ((s : Int) / 2 ^ (min ((16 : Int) - 1).toNat (IntKind.bits .u16)) = 0)) = Nat.testBit s 15 := by
  show (!decide ((s : Int) / 32768 = 0)) = Nat.testBit s 15
  rw [Nat.testBit_eq_decide_div_mod_eq]
  have e : (2 : Nat) ^ 15 = 32768 := rfl
  rw [e]
  apply Bool.eq_iff_iff.mpr
  simp only [Bool.not_eq_true', decide_eq_true_eq, decide_eq_false_iff_not]
  omega
theorem sh16 (s : Nat) : IntKind.u16.wrap ((s : Int) * 2 ^ (min (Int.toNat 1) (IntKind.bits .u16))) = ((2 * s % 65536 : Nat) : Int) := by
  rw [u16wrap]
  show ((s : Int) * 2) % 65536 = _
  omega
noncomputable def c53 : Code := (Try.f53.body).getD .skip
set_option maxRecDepth 100000 in
theorem next16_f (s p : Nat) (b : Bool) (hs : s < 65536) (hp : p < 65536) : Fits Try.prog 53 ⟨[.int .u16 s, .int .u16 p, .bool b], [], [numOut [] (.int .u16 (nx 16 p s b : Nat))]⟩ := by
  refine fits_of_body (C := cfgk 0) (c := c53) (ts := [6]) wtok wmixed (fun _ => none) (fun _ => none)
    Try.func53 (by kernel_rfl) (by kernel_rfl) (by kernel_rfl) (by kernel_rfl) rfl ?_
  have hn : nx 16 p s b = if (Nat.testBit s 15) != b then (2 * s % 65536) ^^^ p else 2 * s % 65536 := rfl
  conv => whnf
  refine ⟨_, [], wide16_f, ?_⟩
  conv => whnf
  refine ⟨?_, ?_, ?_⟩
  · conv => whnf
    repeat' (first | exact True.intro | rfl | refine And.intro ?_ ?_ | omega)
    all_goals (conv => whnf)
    all_goals (try (first | rfl | omega | (simp; done)))
  · conv => whnf
    repeat' (first | exact True.intro | rfl | refine And.intro ?_ ?_ | omega)
    all_goals (conv => whnf)
    all_goals (try (first | rfl | omega | (simp; done)))
  conv => whnf
  refine ⟨?_, True.intro⟩
  intro _ _
  conv => whnf
  refine ⟨by repeat' (first | omega | exact Int.natCast_nonneg _ | (simp only [i64max]; omega) | (simp only [u8max]; omega) | refine And.intro ?_ ?_), ?_⟩
  conv => whnf
  refine ⟨by repeat' (first | omega | exact Int.natCast_nonneg _ | (simp only [i64max]; omega) | (simp only [u8max]; omega) | refine And.intro ?_ ?_), ?_⟩
  conv => whnf
  rw [tb16 s hs]
  conv => whnf
  refine ⟨by repeat' (first | omega | exact Int.natCast_nonneg _ | (simp only [i64max]; omega) | (simp only [u8max]; omega) | refine And.intro ?_ ?_), ?_⟩
  conv => whnf
  rw [sh16]
  refine tst_in (fun h => ?_) (fun h => ?_)
  · rw [if_pos h] at hn
    have hm : 2 * s % 65536 < 65536 := Nat.mod_lt _ (by decide)
    conv => whnf
    refine ⟨⟨by omega, by omega, by show ((2 * s % 65536 : Nat) : Int) ≤ 65535; omega, by show (p : Int) ≤ 65535; omega⟩, ?_⟩
    conv => whnf
    refine .inl ⟨(), [], ?_⟩
    conv => whnf
    repeat' (first | exact True.intro | rfl | refine And.intro ?_ ?_)
    all_goals (show ((nx 16 p s b : Nat) : Int) = _; first | (rw [hn]; done) | (rw [hn]; rfl))
  · rw [if_neg (by rw [h]; decide)] at hn
    conv => whnf
    refine .inl ⟨(), [], ?_⟩
    conv => whnf
    repeat' (first | exact True.intro | rfl | refine And.intro ?_ ?_)
    all_goals (show ((nx 16 p s b : Nat) : Int) = _; first | (rw [hn]; done) | (rw [hn]; rfl))
noncomputable def c35 : Code := (Try.f35.body).getD .skip
def inv35 (A : List Bool) (off n ca s p : Nat) : LInv := ⟨Nat, fun k => ⟨anyTo 21 [.int .u16 (crc 16 p s ((part A off n).take k) : Nat), .int .u16 p, .slice 0 off n ca, .any, .any, .any, .any, .any, .any, .slice 0 off n ca, .int .i64 n, .int .i64 k], [.seg false (.bools A)]⟩, fun k => k ≤ n, fun k => n - k⟩
set_option maxRecDepth 100000 in
theorem on16_f (A : List Bool) (off n ca s p : Nat) (hn : off + n ≤ A.length) (hN : n ≤ 4611686018427387904) (hs : s < 65536) (hp : p < 65536) : Fits Try.prog 35 ⟨[.int .u16 s, .int .u16 p, .slice 0 off n ca], [.seg false (.bools A)], [numOut [.dead] (.int .u16 (crc 16 p s (part A off n) : Nat))]⟩ := by
  refine fits_of_body (C := cfgk 1) (c := c35) (ts := [6]) wtok wmixed (fun | 2 => some (inv35 A off n ca s p) | _ => none) (fun _ => none)
    Try.func35 (by kernel_rfl) (by kernel_rfl) (by kernel_rfl) (by kernel_rfl) rfl ?_
  conv => whnf
  refine ⟨⟨[0], (0 : Nat), ?_, Nat.zero_le _⟩, ?_⟩
  · conv => whnf
    repeat' (first | exact True.intro | rfl | refine And.intro ?_ ?_)
  · intro (k : Nat) (hk : k ≤ n)
    have hc := crc_lt (W := 16) hp ((part A off n).take k) s hs
    conv => whnf
    refine tst_in (fun hlt => ?_) (fun hge => ?_)
    · skip
      have hlt : k < n := by simp at hlt; omega
      have hx : off + ((k : Int)).toNat = off + k := by omega
      have hnx := part_next hn hlt
      conv => whnf
      refine ⟨by repeat' (first | omega | exact Int.natCast_nonneg _ | (simp only [i64max]; omega) | (simp only [u8max]; omega) | refine And.intro ?_ ?_), ?_⟩
      conv => whnf
      refine ⟨by repeat' (first | omega | exact Int.natCast_nonneg _ | (simp only [i64max]; omega) | (simp only [u8max]; omega) | refine And.intro ?_ ?_), ?_⟩
      conv => whnf
      refine ⟨_, [], next16_f (crc 16 p s ((part A off n).take k)) p (A.getD (off + ((k : Int)).toNat) false) hc hp, ?_⟩
      conv => whnf
      refine ⟨?_, ?_, ?_⟩
      · conv => whnf
        repeat' (first | exact True.intro | rfl | refine And.intro ?_ ?_ | omega)
        all_goals (conv => whnf)
        all_goals (try (first | rfl | omega | (simp; done)))
      · conv => whnf
        repeat' (first | exact True.intro | rfl | refine And.intro ?_ ?_ | omega)
        all_goals (conv => whnf)
        all_goals (try (first | rfl | omega | (simp; done)))
      conv => whnf
      refine ⟨?_, True.intro⟩
      intro _ _
      conv => whnf
      refine ⟨by repeat' (first | omega | exact Int.natCast_nonneg _ | (simp only [i64max]; omega) | (simp only [u8max]; omega) | refine And.intro ?_ ?_), ?_⟩
      conv => whnf
      refine ⟨[0], k + 1, ?_, ?_, ?_⟩
      · conv => whnf
        repeat' (first | exact True.intro | rfl | refine And.intro ?_ ?_)
        all_goals (show ((crc 16 p s ((part A off n).take (k + 1)) : Nat) : Int) = _; rw [hnx, crc_snoc, hx])
      · show k + 1 ≤ n
        omega
      · show n - (k + 1) < n - k
        omega
    · skip
      have hge : k = n := by simp at hge; omega
      subst hge
      conv => whnf
      refine .inl ⟨(), [0], ?_⟩
      conv => whnf
      repeat' (first | exact True.intro | rfl | refine And.intro ?_ ?_)
      all_goals (show ((crc 16 p s (part A off k) : Nat) : Int) = _; rw [List.take_of_length_le (by rw [part_len hn]; exact Nat.le_refl _)])
noncomputable def c11 : Code := (Try.f11.body).getD .skip
theorem On16_f (A : List Bool) (off n ca s : Nat) (hn : off + n ≤ A.length) (hN : n ≤ 32768) (hs : s < 65536) : Fits Try.prog 11 ⟨[.int .u16 s, .slice 0 off n ca], [.seg false (.bools A)], [numOut [.dead] (.tup [.int .u16 (crc 16 4129 s (part A off n) : Nat), .int .i64 0])]⟩ := by
  refine fits_of_body (C := cfgk 1) (c := c11) (ts := [4, 5]) wtok wmixed (fun _ => none) (fun _ => none)
    Try.func11 (by kernel_rfl) (by kernel_rfl) (by kernel_rfl) (by kernel_rfl) rfl ?_
  conv => whnf
  refine tst_in (fun h_ => False.elim (by simp at h_ <;> omega)) (fun _ => ?_)
  conv => whnf
  refine ⟨_, [0], on16_f A off n ca s 4129 hn (by omega) hs (by decide), ?_⟩
  conv => whnf
  refine ⟨?_, ?_, ?_⟩
  · conv => whnf
    repeat' (first | exact True.intro | rfl | refine And.intro ?_ ?_ | omega)
    all_goals (conv => whnf)
    all_goals (try (first | rfl | omega | (simp; done)))
  · conv => whnf
    repeat' (first | exact True.intro | rfl | refine And.intro ?_ ?_ | omega)
    all_goals (conv => whnf)
    all_goals (try (first | rfl | omega | (simp; done)))
  conv => whnf
  refine ⟨?_, True.intro⟩
  intro _ _
  conv => whnf
  refine .inl ⟨(), [0], ?_⟩
  conv => whnf
  repeat' (first | exact True.intro | rfl | refine And.intro ?_ ?_)
noncomputable def c9 : Code := (Try.f9.body).getD .skip
theorem Sum16_f (A : List Bool) (off n ca : Nat) (hn : off + n ≤ A.length) (hN : n ≤ 32768) : Fits Try.prog 9 ⟨[.slice 0 off n ca], [.seg false (.bools A)], [numOut [.dead] (.tup [.int .u16 (crc 16 4129 0 (part A off n) : Nat), .int .i64 0])]⟩ := by
  refine fits_of_body (C := cfgk 1) (c := c9) (ts := [2, 3]) wtok wmixed (fun _ => none) (fun _ => none)
    Try.func9 (by kernel_rfl) (by kernel_rfl) (by kernel_rfl) (by kernel_rfl) rfl ?_
  conv => whnf
  refine ⟨_, [0], On16_f A off n ca 0 hn hN (by decide), ?_⟩
  conv => whnf
  refine ⟨?_, ?_, ?_⟩
  · conv => whnf
    repeat' (first | exact True.intro | rfl | refine And.intro ?_ ?_ | omega)
    all_goals (conv => whnf)
    all_goals (try (first | rfl | omega | (simp; done)))
  · conv => whnf
    repeat' (first | exact True.intro | rfl | refine And.intro ?_ ?_ | omega)
    all_goals (conv => whnf)
    all_goals (try (first | rfl | omega | (simp; done)))
  conv => whnf
  refine ⟨?_, True.intro⟩
  intro _ _
  conv => whnf
  refine .inl ⟨(), [0], ?_⟩
  conv => whnf
  repeat' (first | exact True.intro | rfl | refine And.intro ?_ ?_)
end Go.Proofs.Ytkffpcifkeaabaa

set_option linter.unusedVariables false
set_option linter.unusedSimpArgs false
namespace Go.Proofs.Ytkffpcifkeaabaa
open Go Go.Fw
def unl (A B : List Bool) : Nat → List Bool
  | 0 => []
  | k + 1 => unl A B k ++ [A.getD k false != B.getD k false]
theorem unl_len (A B : List Bool) : ∀ k, (unl A B k).length = k
  | 0 => rfl
  | k + 1 => by simp [unl, unl_len A B k]
theorem unl_zip (A B : List Bool) : ∀ k, k ≤ A.length → k ≤ B.length → unl A B k = List.zipWith (· != ·) (A.take k) (B.take k)
  | 0, _, _ => by simp [unl]
  | k + 1, h1, h2 => by
    rw [unl, unl_zip A B k (by omega) (by omega), take_next A k false (by omega), take_next B k false (by omega), List.zipWith_append (by simp; omega)]
    rfl
theorem set_fillb (l : List Bool) (k r : Nat) (x y : Bool) (hl : l.length = k) : (l ++ y :: List.replicate r false).set k x = l ++ [x] ++ List.replicate r false := by
  subst hl
  simp
def rowB (k : Nat) (pre : List Seg) (xs : List Bool) (f : AV → AV) : FOut := ⟨Unit, fun _ => True, fun _ => f (.slice k 0 xs.length xs.length), fun _ => pre ++ [.seg true (.bools xs)]⟩
noncomputable def c8 : Code := (Try.f8.body).getD .skip
def inv8 (A B : List Bool) (n ca cb : Nat) : LInv := ⟨Nat, fun k => ⟨anyTo 29 [.slice 0 0 n ca, .slice 1 0 n cb, .any, .any, .any, .slice 2 0 n n, .int .i64 k], [.seg false (.bools A), .seg false (.bools B), .seg true (.bools (unl A B k ++ List.replicate (n - k) false))]⟩, fun k => k ≤ n, fun k => n - k⟩
set_option maxRecDepth 100000 in
theorem unlike_f (A B : List Bool) (n ca cb : Nat) (hA : n ≤ A.length) (hB : n ≤ B.length) (hN : n ≤ 32768) : Fits Try.prog 8 ⟨[.slice 0 0 n ca, .slice 1 0 n cb], [.seg false (.bools A), .seg false (.bools B)], [⟨Unit, fun _ => True, fun _ => .slice 2 0 n n, fun _ => [.dead, .dead, .seg true (.bools (unl A B n))]⟩]⟩ := by
  refine fits_of_body (C := cfgk 2) (c := c8) (ts := [4]) wtok wmixed (fun | 3 => some (inv8 A B n ca cb) | _ => none) (fun _ => none)
    Try.func8 (by kernel_rfl) (by kernel_rfl) (by kernel_rfl) (by kernel_rfl) rfl ?_
  conv => whnf
  refine ⟨⟨by omega, by omega, by show (1 : Int) * (n : Int) ≤ 281474976710656; omega, by omega⟩, ?_⟩
  conv => whnf
  refine ⟨⟨[0, 1, 2], (0 : Nat), ?_, Nat.zero_le _⟩, ?_⟩
  · conv => whnf
    repeat' (first | exact True.intro | rfl | refine And.intro ?_ ?_)
  · intro (k : Nat) (hk : k ≤ n)
    have hlen := unl_len A B k
    conv => whnf
    refine tst_in (fun hlt => ?_) (fun hge => ?_)
    · skip
      have hlt : k < n := by simp at hlt; omega
      have hcl : (unl A B k ++ List.replicate (n - k) false).length = n := by simp [hlen]; omega
      conv => whnf
      refine ⟨by repeat' (first | omega | exact Int.natCast_nonneg _ | (simp only [i64max]; omega) | (simp only [u8max]; omega) | refine And.intro ?_ ?_), ?_⟩
      conv => whnf
      refine ⟨by repeat' (first | omega | exact Int.natCast_nonneg _ | (simp only [i64max]; omega) | (simp only [u8max]; omega) | refine And.intro ?_ ?_), ?_⟩
      conv => whnf
      refine ⟨by repeat' (first | omega | exact Int.natCast_nonneg _ | (simp only [i64max]; omega) | (simp only [u8max]; omega) | refine And.intro ?_ ?_), ?_⟩
      conv => whnf
      refine ⟨by repeat' (first | omega | exact Int.natCast_nonneg _ | (simp only [i64max]; omega) | (simp only [u8max]; omega) | refine And.intro ?_ ?_), ?_⟩
      conv => whnf
      refine ⟨by repeat' (first | omega | exact Int.natCast_nonneg _ | (simp only [i64max]; omega) | (simp only [u8max]; omega) | refine And.intro ?_ ?_), ?_⟩
      conv => whnf
      refine ⟨by repeat' (first | omega | exact Int.natCast_nonneg _ | (simp only [i64max]; omega) | (simp only [u8max]; omega) | refine And.intro ?_ ?_), ?_⟩
      conv => whnf
      refine ⟨by repeat' (first | omega | exact Int.natCast_nonneg _ | (simp only [i64max]; omega) | (simp only [u8max]; omega) | refine And.intro ?_ ?_), ?_⟩
      conv => whnf
      refine ⟨[0, 1, 2], k + 1, ?_, ?_, ?_⟩
      · conv => whnf
        repeat' (first | exact True.intro | rfl | refine And.intro ?_ ?_)
        all_goals first | rfl | skip
        show unl A B (k + 1) ++ List.replicate (n - (k + 1)) false = (unl A B k ++ List.replicate (n - k) false).set (0 + ((k : Int)).toNat) (A.getD (0 + ((k : Int)).toNat) false != B.getD (0 + ((k : Int)).toNat) false)
        rw [show 0 + ((k : Int)).toNat = k by omega, show n - k = (n - (k + 1)) + 1 by omega, List.replicate_succ, set_fillb _ _ _ _ _ hlen]
        rfl
      · show k + 1 ≤ n
        omega
      · show n - (k + 1) < n - k
        omega
    · skip
      have hge : k = n := by simp at hge; omega
      subst hge
      conv => whnf
      refine .inl ⟨(), [0, 1, 2], ?_⟩
      conv => whnf
      repeat' (first | exact True.intro | rfl | refine And.intro ?_ ?_)
      all_goals (show _ = _; first | rfl | (simp [hlen]; done) | (rw [hlen]; rfl))
def zer (k : Nat) : List Bool := List.replicate k false
theorem zer_snoc (k : Nat) : zer (k + 1) = zer k ++ [false] := List.replicate_succ'
noncomputable def c10 : Code := (Try.f10.body).getD .skip
def inv10 (s t m : Nat) : LInv := ⟨Nat, fun k => ⟨anyTo 23 [.int .u32 (crc 32 79764919 s (zer k) : Nat), .int .u32 t, .int .i64 m, .any, .any, .any, .any, .any, .any, .any, .any, .any, .any, .any, .int .i64 m, .int .i64 k], []⟩, fun k => k ≤ m, fun k => m - k⟩
set_option maxRecDepth 100000 in
theorem Joined_f (s t m : Nat) (hm : m ≤ 32768) (hs : s < 4294967296) (ht : t < 4294967296) : Fits Try.prog 10 ⟨[.int .u32 s, .int .u32 t, .int .i64 m], [], [numOut [] (.tup [.int .u32 (crc 32 79764919 s (zer m) ^^^ t : Nat), .int .i64 0])]⟩ := by
  refine fits_of_body (C := cfgk 0) (c := c10) (ts := [6, 7]) wtok wmixed (fun | 4 => some (inv10 s t m) | _ => none) (fun _ => none)
    Try.func10 (by kernel_rfl) (by kernel_rfl) (by kernel_rfl) (by kernel_rfl) rfl ?_
  conv => whnf
  refine tst_in (fun h_ => False.elim (by simp at h_ <;> omega)) (fun _ => ?_)
  conv => whnf
  refine ⟨⟨[], (0 : Nat), ?_, Nat.zero_le _⟩, ?_⟩
  · conv => whnf
    repeat' (first | exact True.intro | rfl | refine And.intro ?_ ?_)
  · intro (k : Nat) (hk : k ≤ m)
    have hc := crc_lt (W := 32) (p := 79764919) (by decide) (zer k) s hs
    conv => whnf
    refine tst_in (fun hlt => ?_) (fun hge => ?_)
    · skip
      have hlt : k < m := by simp at hlt; omega
      conv => whnf
      refine ⟨_, [], next32_f (crc 32 79764919 s (zer k)) 79764919 false hc (by decide), ?_⟩
      conv => whnf
      refine ⟨?_, ?_, ?_⟩
      · conv => whnf
        repeat' (first | exact True.intro | rfl | refine And.intro ?_ ?_ | omega)
        all_goals (conv => whnf)
        all_goals (try (first | rfl | omega | (simp; done)))
      · conv => whnf
        repeat' (first | exact True.intro | rfl | refine And.intro ?_ ?_ | omega)
        all_goals (conv => whnf)
        all_goals (try (first | rfl | omega | (simp; done)))
      conv => whnf
      refine ⟨?_, True.intro⟩
      intro _ _
      conv => whnf
      refine ⟨by repeat' (first | omega | exact Int.natCast_nonneg _ | (simp only [i64max]; omega) | (simp only [u8max]; omega) | refine And.intro ?_ ?_), ?_⟩
      conv => whnf
      refine ⟨[], k + 1, ?_, ?_, ?_⟩
      · conv => whnf
        repeat' (first | exact True.intro | rfl | refine And.intro ?_ ?_)
        all_goals (show ((crc 32 79764919 s (zer (k + 1)) : Nat) : Int) = _; rw [zer_snoc, crc_snoc])
      · show k + 1 ≤ m
        omega
      · show m - (k + 1) < m - k
        omega
    · skip
      have hge : k = m := by simp at hge; omega
      subst hge
      conv => whnf
      have hc2 : crc 32 79764919 s (zer k) < 4294967296 := hc
      refine ⟨⟨by omega, by omega, by show ((crc 32 79764919 s (zer k) : Nat) : Int) ≤ 4294967295; omega, by show (t : Int) ≤ 4294967295; omega⟩, ?_⟩
      conv => whnf
      refine .inl ⟨(), [], ?_⟩
      conv => whnf
      repeat' (first | exact True.intro | rfl | refine And.intro ?_ ?_)
end Go.Proofs.Ytkffpcifkeaabaa

set_option linter.unusedVariables false
set_option linter.unusedSimpArgs false
namespace Go.Proofs.Ytkffpcifkeaabaa
open Go Go.Fw
theorem zc {T : List (Nat × TyI)} {e n : Nat} {K : Cont → Prop} (h : tyAt T e = some ⟨.bool, 1, 1, .bool false⟩) (hk : K (.bools (List.replicate n false))) : zeroCont T e n K := by
  unfold zeroCont; rw [h]; exact hk
theorem copyB {T : List (Nat × TyI)} {hp : List Seg} {t n m len len2 ca cb : Nat} {K : AV → List Seg → Prop} {X Y : List Bool} {o : Bool} {e : Nat} {j : TyI} (hT : elemOfT T t = some (e, j)) (hj : j.size = 1) (hX : segAt hp n = .seg true (.bools X)) (hY : segAt hp m = .seg o (.bools Y)) (h1 : min len2 len ≤ X.length) (h2 : min len2 len ≤ Y.length)
    (hk : K (.int .i64 (min len2 len : Nat)) (setSeg hp n (.seg true (.bools (Y.take (min len2 len) ++ X.drop (min len2 len)))))) : copyAV T hp t (.slice n 0 len ca) (.slice m 0 len2 cb) K := by
  unfold copyAV
  rw [hT]
  simp only [hX, hY, hj, mulSz]
  refine ⟨⟨by simpa [Cont.len] using h1, by simpa [Cont.len] using h2⟩, ?_⟩
  simp only [subC, overC, List.take_zero, List.nil_append, List.drop_zero, Nat.zero_add, List.length_take, Nat.min_eq_left h2]
  exact hk
theorem seq_in {P : Program} {C : Cfg} {J : Nat → Option LInv} {a b : Code} {st : St} {Q : Exit → St → Prop} (h : ∀ R : St → Prop, (∀ st', codeVC P C J (fun _ => none) b st' Q → R st') → codeVC P C J (fun _ => none) a st (fun e st' => match e with | .normal => R st' | e => Q e st')) : codeVC P C J (fun _ => none) (.seq a b) st Q := by
  have := h (fun st' => codeVC P C J (fun _ => none) b st' Q) fun _ h => h
  unfold codeVC
  exact this
theorem block_in {P : Program} {C : Cfg} {J : Nat → Option LInv} {id : Nat} {a : Code} {st : St} {Q : Exit → St → Prop} (h : ∀ R : St → Prop, (∀ st', Q .normal st' → R st') → codeVC P C J (fun _ => none) a st (fun e st' => match e with | .exit k => (match Nat.beq k id with | true => R st' | false => Q (.exit k) st') | e => Q e st')) : codeVC P C J (fun _ => none) (.block id a) st Q := by
  have := h (fun st' => Q .normal st') fun _ h => h
  unfold codeVC
  exact this
theorem force_in {S : St} {K : St → Prop} (h : ∀ R : St → Prop, (∀ st, K st → R st) → forceSt S R) : forceSt S K := h K fun _ h => h
end Go.Proofs.Ytkffpcifkeaabaa

set_option linter.unusedVariables false
set_option linter.unusedSimpArgs false
namespace Go.Proofs.Ytkffpcifkeaabaa
open Go Go.Fw
def linSpec (A B : List Bool) (n m ca cb : Nat) (cut : Int) : FSpec := ⟨[.slice 0 0 n ca, .slice 1 0 m cb, .int .u16 cut], [.seg false (.bools A), .seg false (.bools B)], [⟨Unit, fun _ => True, fun _ => .bool true, fun _ => [.dead, .dead]⟩]⟩
noncomputable def c3 : Code := (Try.f3.body).getD .skip
/-- The second row, made as long as the first one. -/
def bsOf (B : List Bool) (m n' : Nat) : List Bool := B.take (min m n') ++ (List.replicate n' false).drop (min m n')
theorem bsOf_len (B : List Bool) (m n' : Nat) (h : m ≤ B.length) : (bsOf B m n').length = n' := by
  simp [bsOf]; omega
def inv3 (A B : List Bool) (n' ca p : Nat) : LInv := ⟨Nat, fun k => ⟨anyTo 202 [.any, .any, .any, .any, .any, .any, .any, .slice 0 0 n' ca, .any, .any, .any, .any, .any, .any, .any, .int .u16 p, .any, .any, .any, .any, .any, .any, .any, .any, .any, .any, .any, .any, .any, .any, .int .u16 (crc 16 4129 0 (part A 0 k) : Nat), .int .i64 k], [.seg false (.bools A), .seg false (.bools B)]⟩, fun k => k ≤ n', fun k => n' - k⟩
theorem part_all (X : List Bool) (n : Nat) (h : X.length = n) : part X 0 n = X := by subst h; simp [part]
theorem part_take (X t : List Bool) (n : Nat) (h : X.length = n) : part (X ++ t) 0 n = X := by subst h; simp [part]
theorem crc_unl (W p : Nat) (A bs : List Bool) (n : Nat) (hA : n ≤ A.length) (hb : bs.length = n) : crc W p 0 (part (unl A bs n) 0 n) = crc W p 0 (part A 0 n) ^^^ crc W p 0 (part bs 0 n) := by
  rw [part_all _ _ (unl_len A bs n), part_all bs n hb, unl_zip A bs n hA (by omega), List.take_of_length_le (by omega : bs.length ≤ n)]
  have := crc_xor W p (A.take n) bs 0 0 (by simp; omega)
  rw [Nat.xor_zero] at this
  rw [this]; rfl
theorem crc_ahead (W p c : Nat) (l t : List Bool) (n : Nat) (hl : n ≤ l.length) : crc W p 0 (part (zer c ++ part l 0 n ++ t) 0 (c + n)) = crc W p 0 (part l 0 n) := by
  rw [part_take _ _ _ (by rw [List.length_append, part_len (by omega : 0 + n ≤ l.length)]; simp [zer]), crc_append]
  rw [show zer c = List.replicate c false from rfl, crc_zeros]
theorem crc_split (W p : Nat) (l : List Bool) (q n : Nat) (hq : q ≤ n) (hl : n ≤ l.length) : crc W p (crc W p 0 (part l 0 q)) (zer (n - q)) ^^^ crc W p 0 (part l q (n - q)) = crc W p 0 (part l 0 n) := by
  have h := crc_joined W p (part l 0 q) (part l q (n - q))
  rw [part_len (by omega : q + (n - q) ≤ l.length)] at h
  rw [show zer (n - q) = List.replicate (n - q) false from rfl, h]
  congr 1
  unfold part
  rw [List.drop_zero]
  have : n = q + (n - q) := by omega
  conv => rhs; rw [this, List.take_add]
set_option maxHeartbeats 0 in
set_option maxRecDepth 100000 in
theorem lin_R (A B : List Bool) (n m ca cb n' cut : Nat) (hn : n ≤ A.length) (hm : m ≤ B.length) (hca : n ≤ ca) (hcb : m ≤ cb) (hnK : min (n : Int) 300 = (n' : Int)) (hn1 : n' ≤ n) (hn2 : n' ≤ 300) (hcut : cut < 65536) (hmN : m ≤ 140737488355328) : Fits Try.prog 3 (linSpec A B n m ca cb cut) := by
  have hb := bsOf_len B m n' hm
  have hbl : 0 + n' ≤ (bsOf B m n').length := by omega
  have hul : 0 + n' ≤ (unl A (bsOf B m n') n').length := by rw [unl_len]; omega
  obtain ⟨u, hu⟩ : ∃ u, crc 32 79764919 0 (part A 0 n') = u := ⟨_, rfl⟩
  obtain ⟨v, hv⟩ : ∃ v, crc 32 79764919 0 (part (bsOf B m n') 0 n') = v := ⟨_, rfl⟩
  obtain ⟨p, hp⟩ : ∃ p, crc 16 4129 0 (part A 0 n') = p := ⟨_, rfl⟩
  obtain ⟨q, hq⟩ : ∃ q, crc 16 4129 0 (part (bsOf B m n') 0 n') = q := ⟨_, rfl⟩
  have hu2 : u < 4294967296 := by rw [← hu]; exact crc_lt (W := 32) (by decide) _ _ (by decide)
  have hv2 : v < 4294967296 := by rw [← hv]; exact crc_lt (W := 32) (by decide) _ _ (by decide)
  have hp2 : p < 65536 := by rw [← hp]; exact crc_lt (W := 16) (by decide) _ _ (by decide)
  have hq2 : q < 65536 := by rw [← hq]; exact crc_lt (W := 16) (by decide) _ _ (by decide)
  have S32a := Sum32_f A 0 n' ca (by omega) (by omega)
  have S32b := Sum32_f (bsOf B m n') 0 n' n' hbl (by omega)
  have S32c := Sum32_f (unl A (bsOf B m n') n') 0 n' n' hul (by omega)
  have S16a := Sum16_f A 0 n' ca (by omega) (by omega)
  have S16b := Sum16_f (bsOf B m n') 0 n' n' hbl (by omega)
  have S16c := Sum16_f (unl A (bsOf B m n') n') 0 n' n' hul (by omega)
  have UN := unlike_f A (bsOf B m n') n' ca n' (by omega) (by omega) (by omega)
  rw [crc_unl 32 _ _ _ _ (by omega) hb, hu, hv] at S32c
  rw [crc_unl 16 _ _ _ _ (by omega) hb, hp, hq] at S16c
  rw [hu] at S32a
  rw [hv] at S32b
  rw [hp] at S16a
  rw [hq] at S16b
  generalize hbs : bsOf B m n' = bs at *
  obtain ⟨c, hc, hc40⟩ : ∃ c : Nat, (cut : Int) % 40 = (c : Int) ∧ c < 40 := ⟨cut % 40, by omega, by omega⟩
  obtain ⟨r, hr, hrn⟩ : ∃ r : Nat, (cut : Int) % ((n' : Int) + 1) = (r : Int) ∧ r ≤ n' := by
    refine ⟨cut % (n' + 1), by rw [Int.natCast_emod]; rfl, ?_⟩
    have := Nat.mod_lt cut (show 0 < n' + 1 by omega)
    omega
  have S32d : ∀ tl : List Bool, Fits Try.prog 7 ⟨[.slice 0 0 (c + n') (c + n' + tl.length)], [.seg false (.bools (zer c ++ part A 0 n' ++ tl))], [numOut [.dead] (.tup [.int .u32 u, .int .i64 0])]⟩ := fun tl => by
    have := Sum32_f (zer c ++ part A 0 n' ++ tl) 0 (c + n') (c + n' + tl.length) (by simp only [List.length_append, zer, List.length_replicate, part_len (show 0 + n' ≤ A.length by omega)]; omega) (by omega)
    rwa [crc_ahead 32 _ c A tl n' (by omega), hu] at this
  obtain ⟨x, hx⟩ : ∃ x, crc 32 79764919 0 (part A 0 r) = x := ⟨_, rfl⟩
  obtain ⟨y, hy⟩ : ∃ y, crc 32 79764919 0 (part A r (n' - r)) = y := ⟨_, rfl⟩
  have hx2 : x < 4294967296 := by rw [← hx]; exact crc_lt (W := 32) (by decide) _ _ (by decide)
  have hy2 : y < 4294967296 := by rw [← hy]; exact crc_lt (W := 32) (by decide) _ _ (by decide)
  have S32x := Sum32_f A 0 r ca (by omega) (by omega)
  have S32y := Sum32_f A (0 + r) (n' - r) (ca - r) (by omega) (by omega)
  have JO := Joined_f x y (n' - r) (by omega) hx2 hy2
  have hj := crc_split 32 79764919 A r n' hrn (by omega)
  rw [hx] at S32x
  rw [Nat.zero_add, hy] at S32y
  rw [hx, hy, hu] at hj
  rw [hj] at JO
  have hx0 : ∀ k, crc 16 4129 0 (part A 0 k) < 65536 := fun k => crc_lt (W := 16) (by decide) _ _ (by decide)
  have ON : ∀ k, k < n' → Fits Try.prog 11 ⟨[.int .u16 (crc 16 4129 0 (part A 0 k) : Nat), .slice 0 (0 + k) 1 (ca - k)], [.seg false (.bools A)], [numOut [.dead] (.tup [.int .u16 (crc 16 4129 0 (part A 0 (k + 1)) : Nat), .int .i64 0])]⟩ := fun k hk => by
    have := On16_f A (0 + k) 1 (ca - k) (crc 16 4129 0 (part A 0 k)) (by omega) (by omega) (hx0 k)
    have e : part A 0 (k + 1) = part A 0 k ++ part A (0 + k) 1 := by
      unfold part
      rw [List.drop_zero, List.take_add, Nat.zero_add]
    rwa [e, crc_append]
  refine fits_of_body (C := cfgk 2) (c := c3) (ts := [6]) wtok wmixed (fun | 23 => some (inv3 A B n' ca p) | _ => none) (fun _ => none)
    Try.func3 (by kernel_rfl) (by kernel_rfl) (by kernel_rfl) (by kernel_rfl) rfl ?_
  refine force_in fun R hR => ?_
  conv => whnf
  refine hR _ ?_
  clear hR R
  refine seq_in fun R hR => ?_
  conv => whnf
  refine hR _ ?_
  clear hR R
  refine seq_in fun R hR => ?_
  conv => whnf
  rw [hnK]
  conv => whnf
  refine ⟨⟨by omega, by show (n' : Int) ≤ ca; omega⟩, ?_⟩
  rw [show ((n' : Int)).toNat = n' from Int.toNat_natCast n']
  conv => whnf
  refine hR _ ?_
  clear hR R
  refine seq_in fun R hR => ?_
  conv => whnf
  refine ⟨⟨by omega, by omega, by show (1 : Int) * (n' : Int) ≤ 281474976710656; omega, by omega⟩, ?_⟩
  rw [show ((n' : Int)).toNat = n' from Int.toNat_natCast n']
  conv => whnf
  refine hR _ ?_
  clear hR R
  refine seq_in fun R hR => ?_
  conv => whnf
  refine ⟨⟨by show 0 + min m n' ≤ (List.replicate n' false).length; rw [List.length_replicate]; omega, by show 0 + min m n' ≤ B.length; omega⟩, ?_⟩
  conv => whnf
  rw [show (List.take 0 (List.replicate n' false) ++ List.take (mulSz 1 (min m n')) (List.drop 0 B) ++ List.drop (0 + (List.take (mulSz 1 (min m n')) (List.drop 0 B)).length) (List.replicate n' false)) = bs from (by rw [← hbs]; simp [bsOf, mulSz]; omega)]
  refine hR _ ?_
  clear hR R
  refine seq_in fun R hR => ?_
  conv => whnf
  refine ⟨_, [0], S32a, ?_⟩
  conv => whnf
  refine ⟨?_, ?_, ?_⟩
  · conv => whnf
    repeat' (first | exact True.intro | rfl | refine And.intro ?_ ?_ | omega)
    all_goals (conv => whnf)
    all_goals (try (first | rfl | omega | (simp; done)))
  · conv => whnf
    repeat' (first | exact True.intro | rfl | refine And.intro ?_ ?_ | omega)
    all_goals (conv => whnf)
    all_goals (try (first | rfl | omega | (simp; done)))
  conv => whnf
  refine ⟨?_, True.intro⟩
  intro _ _
  conv => whnf
  refine hR _ ?_
  clear hR R
  refine seq_in fun R hR => ?_
  conv => whnf
  refine ⟨_, [2], S32b, ?_⟩
  conv => whnf
  refine ⟨?_, ?_, ?_⟩
  · conv => whnf
    repeat' (first | exact True.intro | rfl | refine And.intro ?_ ?_ | omega)
    all_goals (conv => whnf)
    all_goals (try (first | rfl | omega | (simp; done)))
  · conv => whnf
    repeat' (first | exact True.intro | rfl | refine And.intro ?_ ?_ | omega)
    all_goals (conv => whnf)
    all_goals (try (first | rfl | omega | (simp; done)))
  conv => whnf
  refine ⟨?_, True.intro⟩
  intro _ _
  conv => whnf
  refine hR _ ?_
  clear hR R
  refine seq_in fun R hR => ?_
  conv => whnf
  refine ⟨_, [0, 2], UN, ?_⟩
  conv => whnf
  refine ⟨?_, ?_, ?_⟩
  · conv => whnf
    repeat' (first | exact True.intro | rfl | refine And.intro ?_ ?_ | omega)
    all_goals (conv => whnf)
    all_goals (try (first | rfl | omega | (simp; done)))
  · conv => whnf
    repeat' (first | exact True.intro | rfl | refine And.intro ?_ ?_ | omega)
    all_goals (conv => whnf)
    all_goals (try (first | rfl | omega | (simp; done)))
  conv => whnf
  refine ⟨?_, True.intro⟩
  intro _ _
  conv => whnf
  refine ⟨_, [3], S32c, ?_⟩
  conv => whnf
  refine ⟨?_, ?_, ?_⟩
  · conv => whnf
    repeat' (first | exact True.intro | rfl | refine And.intro ?_ ?_ | omega)
    all_goals (conv => whnf)
    all_goals (try (first | rfl | omega | (simp; done)))
  · conv => whnf
    repeat' (first | exact True.intro | rfl | refine And.intro ?_ ?_ | omega)
    all_goals (conv => whnf)
    all_goals (try (first | rfl | omega | (simp; done)))
  conv => whnf
  refine ⟨?_, True.intro⟩
  intro _ _
  conv => whnf
  refine hR _ ?_
  clear hR R
  refine seq_in fun R hR => ?_
  conv => whnf
  refine ⟨_, [0], S16a, ?_⟩
  conv => whnf
  refine ⟨?_, ?_, ?_⟩
  · conv => whnf
    repeat' (first | exact True.intro | rfl | refine And.intro ?_ ?_ | omega)
    all_goals (conv => whnf)
    all_goals (try (first | rfl | omega | (simp; done)))
  · conv => whnf
    repeat' (first | exact True.intro | rfl | refine And.intro ?_ ?_ | omega)
    all_goals (conv => whnf)
    all_goals (try (first | rfl | omega | (simp; done)))
  conv => whnf
  refine ⟨?_, True.intro⟩
  intro _ _
  conv => whnf
  refine hR _ ?_
  clear hR R
  refine seq_in fun R hR => ?_
  conv => whnf
  refine ⟨_, [2], S16b, ?_⟩
  conv => whnf
  refine ⟨?_, ?_, ?_⟩
  · conv => whnf
    repeat' (first | exact True.intro | rfl | refine And.intro ?_ ?_ | omega)
    all_goals (conv => whnf)
    all_goals (try (first | rfl | omega | (simp; done)))
  · conv => whnf
    repeat' (first | exact True.intro | rfl | refine And.intro ?_ ?_ | omega)
    all_goals (conv => whnf)
    all_goals (try (first | rfl | omega | (simp; done)))
  conv => whnf
  refine ⟨?_, True.intro⟩
  intro _ _
  conv => whnf
  refine hR _ ?_
  clear hR R
  refine seq_in fun R hR => ?_
  conv => whnf
  refine ⟨_, [0, 2], UN, ?_⟩
  conv => whnf
  refine ⟨?_, ?_, ?_⟩
  · conv => whnf
    repeat' (first | exact True.intro | rfl | refine And.intro ?_ ?_ | omega)
    all_goals (conv => whnf)
    all_goals (try (first | rfl | omega | (simp; done)))
  · conv => whnf
    repeat' (first | exact True.intro | rfl | refine And.intro ?_ ?_ | omega)
    all_goals (conv => whnf)
    all_goals (try (first | rfl | omega | (simp; done)))
  conv => whnf
  refine ⟨?_, True.intro⟩
  intro _ _
  conv => whnf
  refine ⟨_, [4], S16c, ?_⟩
  conv => whnf
  refine ⟨?_, ?_, ?_⟩
  · conv => whnf
    repeat' (first | exact True.intro | rfl | refine And.intro ?_ ?_ | omega)
    all_goals (conv => whnf)
    all_goals (try (first | rfl | omega | (simp; done)))
  · conv => whnf
    repeat' (first | exact True.intro | rfl | refine And.intro ?_ ?_ | omega)
    all_goals (conv => whnf)
    all_goals (try (first | rfl | omega | (simp; done)))
  conv => whnf
  refine ⟨?_, True.intro⟩
  intro _ _
  conv => whnf
  refine hR _ ?_
  clear hR R
  refine seq_in fun R hR => ?_
  conv => whnf
  refine ⟨⟨by omega, by omega, by show (u : Int) ≤ 4294967295; omega, by show (v : Int) ≤ 4294967295; omega⟩, ?_⟩
  conv => whnf
  refine tst_in (fun h_ => False.elim (by simp at h_ <;> omega)) (fun _ => ?_)
  conv => whnf
  refine ⟨⟨by omega, by omega, by show (p : Int) ≤ 65535; omega, by show (q : Int) ≤ 65535; omega⟩, ?_⟩
  conv => whnf
  refine tst_in (fun h_ => False.elim (by simp at h_ <;> omega)) (fun _ => ?_)
  conv => whnf
  refine hR _ ?_
  clear hR R
  refine seq_in fun R hR => ?_
  conv => whnf
  rw [show IntKind.i64.wrap ((cut : Nat) : Int) = cut from wrap_i64 (by omega)]
  refine ⟨⟨by omega, by omega⟩, ?_⟩
  rw [hc]
  conv => whnf
  refine ⟨⟨by omega, by omega, by show (1 : Int) * (c : Int) ≤ 281474976710656; omega, by omega⟩, ?_⟩
  rw [show ((c : Int)).toNat = c from Int.toNat_natCast c]
  conv => whnf
  refine ⟨by show 0 + n' ≤ A.length; omega, ?_⟩
  conv => whnf
  refine ⟨by show 0 + c ≤ (List.replicate c false).length; rw [List.length_replicate]; omega, ?_⟩
  conv => whnf
  refine ⟨⟨by omega, by show (c + n') * 1 ≤ 140737488355328; omega⟩, ?_⟩
  rw [show List.take (mulSz 1 c) (List.drop 0 (List.replicate c false)) ++ List.take (mulSz 1 n') (List.drop 0 A) = zer c ++ part A 0 n' from by simp [mulSz, zer, part]]
  conv => whnf
  intro (tl : List Bool)
  conv => whnf
  refine ⟨_, [6], S32d tl, ?_⟩
  conv => whnf
  refine ⟨?_, ?_, ?_⟩
  · conv => whnf
    repeat' (first | exact True.intro | rfl | refine And.intro ?_ ?_ | omega)
    all_goals (conv => whnf)
    all_goals (try (first | rfl | omega | (simp; done)))
  · conv => whnf
    repeat' (first | exact True.intro | rfl | refine And.intro ?_ ?_ | omega)
    all_goals (conv => whnf)
    all_goals (try (first | rfl | omega | (simp; done)))
  conv => whnf
  refine ⟨?_, True.intro⟩
  intro _ _
  conv => whnf
  refine hR _ ?_
  clear hR R
  refine seq_in fun R hR => ?_
  conv => whnf
  refine tst_in (fun h_ => False.elim (by simp at h_ <;> omega)) (fun _ => ?_)
  conv => whnf
  refine hR _ ?_
  clear hR R
  refine seq_in fun R hR => ?_
  conv => whnf
  rw [show IntKind.i64.wrap ((cut : Nat) : Int) = cut from wrap_i64 (by omega)]
  refine ⟨⟨by omega, by omega⟩, ?_⟩
  conv => whnf
  refine ⟨⟨by omega, by omega⟩, ?_⟩
  rw [hr]
  conv => whnf
  refine hR _ ?_
  clear hR R
  refine seq_in fun R hR => ?_
  conv => whnf
  refine ⟨⟨by omega, by show (r : Int) ≤ ca; omega⟩, ?_⟩
  rw [show ((r : Int)).toNat = r from Int.toNat_natCast r]
  conv => whnf
  refine ⟨_, [0], S32x, ?_⟩
  conv => whnf
  refine ⟨?_, ?_, ?_⟩
  · conv => whnf
    repeat' (first | exact True.intro | rfl | refine And.intro ?_ ?_ | omega)
    all_goals (conv => whnf)
    all_goals (try (first | rfl | omega | (simp; done)))
  · conv => whnf
    repeat' (first | exact True.intro | rfl | refine And.intro ?_ ?_ | omega)
    all_goals (conv => whnf)
    all_goals (try (first | rfl | omega | (simp; done)))
  conv => whnf
  refine ⟨?_, True.intro⟩
  intro _ _
  conv => whnf
  refine hR _ ?_
  clear hR R
  refine seq_in fun R hR => ?_
  conv => whnf
  refine ⟨⟨by omega, by show (r : Int) ≤ n'; omega⟩, ?_⟩
  rw [show ((r : Int)).toNat = r from Int.toNat_natCast r]
  conv => whnf
  refine ⟨_, [0], S32y, ?_⟩
  conv => whnf
  refine ⟨?_, ?_, ?_⟩
  · conv => whnf
    repeat' (first | exact True.intro | rfl | refine And.intro ?_ ?_ | omega)
    all_goals (conv => whnf)
    all_goals (try (first | rfl | omega | (simp; done)))
  · conv => whnf
    repeat' (first | exact True.intro | rfl | refine And.intro ?_ ?_ | omega)
    all_goals (conv => whnf)
    all_goals (try (first | rfl | omega | (simp; done)))
  conv => whnf
  refine ⟨?_, True.intro⟩
  intro _ _
  conv => whnf
  refine hR _ ?_
  clear hR R
  refine seq_in fun R hR => ?_
  conv => whnf
  refine ⟨⟨by omega, by omega⟩, ?_⟩
  rw [show ((n' : Int) - (r : Int)) = ((n' - r : Nat) : Int) by omega]
  conv => whnf
  refine ⟨_, [], JO, ?_⟩
  conv => whnf
  refine ⟨?_, ?_, ?_⟩
  · conv => whnf
    repeat' (first | exact True.intro | rfl | refine And.intro ?_ ?_ | omega)
    all_goals (conv => whnf)
    all_goals (try (first | rfl | omega | (simp; done)))
  · conv => whnf
    repeat' (first | exact True.intro | rfl | refine And.intro ?_ ?_ | omega)
    all_goals (conv => whnf)
    all_goals (try (first | rfl | omega | (simp; done)))
  conv => whnf
  refine ⟨?_, True.intro⟩
  intro _ _
  conv => whnf
  refine hR _ ?_
  clear hR R
  refine seq_in fun R hR => ?_
  conv => whnf
  refine tst_in (fun h_ => False.elim (by simp at h_ <;> omega)) (fun _ => ?_)
  conv => whnf
  refine hR _ ?_
  clear hR R
  refine seq_in fun R hR => ?_
  conv => whnf
  refine hR _ ?_
  clear hR R
  refine seq_in fun R hR => ?_
  conv => whnf
  refine ⟨⟨[0, 1], (0 : Nat), ?_, Nat.zero_le _⟩, ?_⟩
  · conv => whnf
    repeat' (first | exact True.intro | rfl | refine And.intro ?_ ?_)
  · intro (k : Nat) (hk : k ≤ n')
    conv => whnf
    refine tst_in (fun hlt => ?_) (fun hge => ?_)
    · skip
      have hlt : k < n' := by simp at hlt; omega
      conv => whnf
      refine ⟨by repeat' (first | omega | exact Int.natCast_nonneg _ | (simp only [i64max]; omega) | (simp only [u8max]; omega) | refine And.intro ?_ ?_), ?_⟩
      conv => whnf
      refine ⟨⟨by omega, by show ((k : Int) + 1) ≤ ca; omega⟩, ?_⟩
      rw [show (((k : Int) + 1)).toNat = k + 1 by omega]
      conv => whnf
      refine ⟨⟨by omega, by show (k : Int) ≤ ((k + 1 : Nat) : Int); omega⟩, ?_⟩
      rw [show ((k : Int)).toNat = k from Int.toNat_natCast k]
      conv => whnf
      refine ⟨_, [0], ON k hlt, ?_⟩
      conv => whnf
      refine ⟨?_, ?_, ?_⟩
      · conv => whnf
        repeat' (first | exact True.intro | rfl | refine And.intro ?_ ?_ | omega)
        all_goals (conv => whnf)
        all_goals (try (first | rfl | omega | (simp; done)))
      · conv => whnf
        repeat' (first | exact True.intro | rfl | refine And.intro ?_ ?_ | omega)
        all_goals (conv => whnf)
        all_goals (try (first | rfl | omega | (simp; done)))
      conv => whnf
      refine ⟨?_, True.intro⟩
      intro _ _
      conv => whnf
      refine ⟨by repeat' (first | omega | exact Int.natCast_nonneg _ | (simp only [i64max]; omega) | (simp only [u8max]; omega) | refine And.intro ?_ ?_), ?_⟩
      conv => whnf
      refine ⟨[0, 1], k + 1, ?_, ?_, ?_⟩
      · conv => whnf
        repeat' (first | exact True.intro | rfl | refine And.intro ?_ ?_)
      · show k + 1 ≤ n'
        omega
      · show n' - (k + 1) < n' - k
        omega
    · skip
      have hge : k = n' := by simp at hge; omega
      subst hge
      conv => whnf
      refine hR _ ?_
      conv => whnf
      refine tst_in (fun _ => ?_) (fun h_ => False.elim (by simp [hp] at h_ <;> omega))
      conv => whnf
      refine ⟨_, [], awake_f, ?_⟩
      conv => whnf
      refine ⟨?_, ?_, ?_⟩
      · conv => whnf
        repeat' (first | exact True.intro | rfl | refine And.intro ?_ ?_ | omega)
        all_goals (conv => whnf)
        all_goals (try (first | rfl | omega | (simp; done)))
      · conv => whnf
        repeat' (first | exact True.intro | rfl | refine And.intro ?_ ?_ | omega)
        all_goals (conv => whnf)
        all_goals (try (first | rfl | omega | (simp; done)))
      conv => whnf
      refine ⟨?_, True.intro⟩
      intro _ _
      conv => whnf
      refine .inl ⟨(), [0, 1], ?_⟩
      conv => whnf
      repeat' (first | exact True.intro | rfl | refine And.intro ?_ ?_)
theorem lin_f (A B : List Bool) (n m ca cb : Nat) (cut : Int) (hn : n ≤ A.length) (hm : m ≤ B.length) (hca : n ≤ ca) (hcb : m ≤ cb) (hw : (Lit.int .u16 cut).wf = true) (hmN : m * 1 ≤ 140737488351232) : Fits Try.prog 3 (linSpec A B n m ca cb cut) := by
  simp only [Lit.wf, Bool.and_eq_true, decide_eq_true_eq] at hw
  have h1 : (0 : Int) ≤ cut := hw.1
  have h2 : cut ≤ 65535 := hw.2
  obtain ⟨k, rfl⟩ : ∃ k : Nat, cut = k := ⟨cut.toNat, by omega⟩
  exact lin_R A B n m ca cb (min n 300) k hn hm hca hcb (by omega) (by omega) (by omega) (by omega) (by omega)
end Go.Proofs.Ytkffpcifkeaabaa

namespace Go.Proofs.Ytkffpcifkeaabaa
open Go Go.Fw
namespace sumsLinear
open Go.ChangeShapes Go.WideShapes Go.ChangeAt Go.RowKit
theorem own : ownKnob Try.prog.godebug = none := by kernel_rfl
theorem laid : laidOutB Try.prog = true := by kernel_rfl

set_option maxRecDepth 100000 in
theorem lifted (os : Os) (started : os.Started) (H : Type) (enc : TypeId × Value → H) :
    ReturnsInHanded {} Try.checked os 3 .any (Rows.sumsLinearSpec.pre6 enc Try.prog Try.f3 Rows.sumsLinearRow.domain false) (Rows.sumsLinearSpec.post enc Try.prog Try.f3 false true false false) := by
  refine returnsInHanded_of_change_sized (C := Try.checked) own started (by kernel_rfl) Try.func3
    (ChangeSpec.witness6 (enc := enc) (C := Try.checked) false ⟨#[], #[.slice none 0 0, .slice none 0 0, .int .u16 0], []⟩ 8 (by kernel_rfl) (by kernel_rfl) (by kernel_rfl) (by kernel_rfl)) ?_
  intro W base args ds gs before hval0 hW _ hsz0 _
  have hsz : (DataW.weightsEach Try.prog (Try.f3.params.toList ++ Rows.sumsLinearSpec.plain.varTypes Try.prog) (ds ++ gs)).all (· ≤ reachBytes) = true := hsz0
  clear hsz0
  have hval : ∀ (j : Nat) t v, Try.f3.params[j]? = some t → args[j]? = some v → Value.okWide Try.prog W .any base t v := hval0
  have hW' := hW
  obtain ⟨p, q, hA0, hV, rfl, hfz, hnd⟩ := hW
  have hA : DataW.TrodAll enc Try.prog W 0 (fun _ => true) true Try.f3.params.toList args.toList ds p := hA0
  rw [Try.params3] at hA hval hsz
  obtain ⟨v0, vs0, d0, ds0, p0, q0, hargs, rfl, rfl, h0, r0⟩ := trodAll_cons hA
  obtain ⟨v1, vs1, d1, ds1, p1, q1, rfl, rfl, rfl, h1, r1⟩ := trodAll_cons r0
  obtain ⟨v2, vs2, d2, ds2, p2, q2, rfl, rfl, rfl, h2, r2⟩ := trodAll_cons r1
  obtain ⟨rfl, rfl, rfl⟩ := trodAll_nil r2
  obtain rfl : args = #[v0, v1, v2] := by cases args; simp_all
  obtain ⟨rfl, rfl⟩ := trodVars_none hV
  obtain ⟨k2, rfl, rfl, rfl, w2⟩ := open_int Try.underlying23 (hval 2 23 v2 rfl rfl) h2
  obtain ⟨a0, l0, z0, hv0⟩ := okWide_slice Try.underlying22 (hval 0 22 v0 rfl rfl)
  obtain ⟨n0, c0, A0, pl0, hn0, hl0, hs0, hc0⟩ := arg_bools Try.underlying22 Try.underlying4 (by kernel_rfl) hv0 h0
  have by0 : Try.prog.bytesOf 4 = 1 := by kernel_rfl
  have hN0 : n0 * 1 ≤ 140737488351232 := by
    rcases hs0 with ⟨h, _⟩ | ⟨xs, ys, rfl, hx, hy⟩
    · omega
    · have := sized_slice hsz (j := 0) (t := 22) (e := 4) rfl rfl Try.underlying22
      rw [by0] at this
      simp only [reachBytes] at this
      omega
  obtain ⟨a1, l1, z1, hv1⟩ := okWide_slice Try.underlying22 (hval 1 22 v1 rfl rfl)
  obtain ⟨n1, c1, A1, pl1, hn1, hl1, hs1, hc1⟩ := arg_bools Try.underlying22 Try.underlying4 (by kernel_rfl) hv1 h1
  have by1 : Try.prog.bytesOf 4 = 1 := by kernel_rfl
  have hN1 : n1 * 1 ≤ 140737488351232 := by
    rcases hs1 with ⟨h, _⟩ | ⟨xs, ys, rfl, hx, hy⟩
    · omega
    · have := sized_slice hsz (j := 1) (t := 22) (e := 4) rfl rfl Try.underlying22
      rw [by1] at this
      simp only [reachBytes] at this
      omega
  clear hA0 hval0
  obtain ⟨dd0, cc0⟩ := hc0 [pl0, pl1] 0 (by simp) rfl
  obtain ⟨dd1, cc1⟩ := hc1 [pl0, pl1] 1 (by simp) rfl
  have walk := (lin_f A0 A1 n0 n1 c0 c1 k2 (by omega) (by omega) hn0 hn1 w2 hN1).calls W [pl0, pl1] [v0, v1, .int .u16 k2] (heap_args rfl fun i s hs => by
      match i, hs with
      | 0, hs => simp only [linSpec, List.getElem?_cons_zero, Option.some.injEq] at hs; subst hs; exact ⟨_, rfl, cc0⟩
      | 1, hs => simp only [linSpec, List.getElem?_cons_succ, List.getElem?_cons_zero, Option.some.injEq] at hs; subst hs; exact ⟨_, rfl, cc1⟩
      | i + 2, hs => simp [linSpec] at hs) (by simp only [linSpec, Dens]; exact ⟨_, _, rfl, dd0, ⟨_, _, rfl, dd1, ⟨_, _, rfl, by simp [Den], rfl⟩⟩⟩) (x := .bool true) (v := .bool true) rfl (by
      intro o ho y hy
      simp [linSpec] at ho
      subst ho; rfl)
  refine walk.mono fun e W' ⟨he, hg⟩ => ?_
  subst he
  exact ⟨_, rfl, law_done laid rfl rfl Try.underlying4 (by kernel_rfl) hW' rfl hg⟩

theorem over : Rows.sumsLinearRow.holds Try.pinned (OpenSpec.ofChange Rows.sumsLinearSpec) :=
  OpenClaim.holds_of_wide 3 Try.f3 rfl rfl rfl rfl rfl rfl rfl ⟨rfl, rfl, rfl, rfl, rfl⟩ rfl rfl rfl rfl rfl (by kernel_rfl) Try.func3 (by kernel_rfl)
    (of_decide_eq_true (by kernel_rfl)) (by unfold Func.isWrapper; first | (rw [if_pos (by decide +kernel)]; kernel_rfl) | (rw [if_neg (by decide +kernel)]; exact ⟨rfl, rfl⟩))
    (fun os started H enc _ => lifted os started H enc)

theorem proved : Rows.SumsLinearSaid := over
end sumsLinear
end Go.Proofs.Ytkffpcifkeaabaa
