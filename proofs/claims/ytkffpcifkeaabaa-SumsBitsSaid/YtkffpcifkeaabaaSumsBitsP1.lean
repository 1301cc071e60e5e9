/-
  What the functions that are called give: for SumsBits.
-/
import Derived.Test.YtkffpcifkeaabaaRows
import Derived.Test.YtkffpcifkeaabaaFv
import Derived.Test.YtkffpcifkeaabaaTwSumsBits
set_option linter.unusedSimpArgs false
set_option linter.unusedVariables false
set_option linter.unusedVariables false
set_option linter.unusedSimpArgs false
namespace Go.Proofs.Ytkffpcifkeaabaa
open Go Go.Fw
def wtys : List (Nat × TyI) := [
  (3, ⟨.int .i64, 1, 8, .int .i64 0⟩),
  (4, ⟨.bool, 1, 1, .bool false⟩),
  (22, ⟨.slice 4, 1, 24, .slice none 0 0⟩),
  (23, ⟨.int .u16, 1, 2, .int .u16 0⟩),
  (24, ⟨.int .u32, 1, 4, .int .u32 0⟩),
  (25, ⟨.int .i64, 1, 8, .int .i64 0⟩),
  (72, ⟨.int .u64, 1, 8, .int .u64 0⟩)]
theorem wtok : TOk Try.prog wtys := by
  intro p hp
  simp only [wtys, List.mem_cons, List.not_mem_nil, or_false] at hp
  rcases hp with rfl | rfl | rfl | rfl | rfl | rfl | rfl
  all_goals exact ⟨by kernel_rfl, by kernel_rfl⟩
theorem wmixed : Try.prog.follows .mixedOrders = true := by kernel_rfl
def cfgk (k : Nat) : Cfg := { T := wtys, sgn := fun _ => false, wr := fun _ => false, k := k }
theorem i64max : IntKind.i64.max = 9223372036854775807 := rfl
theorem u32max : IntKind.u32.max = 4294967295 := rfl
theorem u16max : IntKind.u16.max = 65535 := rfl
theorem u8max : IntKind.u8.max = 255 := rfl
theorem u32wrap (n : Int) : IntKind.u32.wrap n = n % 4294967296 := by
  unfold IntKind.wrap
  simp [IntKind.bits, IntKind.signed]
theorem u16wrap (n : Int) : IntKind.u16.wrap n = n % 65536 := by
  unfold IntKind.wrap
  simp [IntKind.bits, IntKind.signed]
theorem take_next {α : Type} (l : List α) (k : Nat) (d : α) (h : k < l.length) : l.take (k + 1) = l.take k ++ [l.getD k d] := by
  rw [List.take_succ_eq_append_getElem h]; simp [List.getD, h]
def nx (W : Nat) (p s : Nat) (b : Bool) : Nat := if (Nat.testBit s (W - 1)) != b then ((2 * s) % 2 ^ W) ^^^ p else (2 * s) % 2 ^ W
theorem xor_add_mod (a b n : Nat) : (2 * (a ^^^ b)) % 2 ^ n = (2 * a) % 2 ^ n ^^^ (2 * b) % 2 ^ n := by
  have e : ∀ x : Nat, 2 * x = x <<< 1 := fun x => by rw [Nat.shiftLeft_eq]; omega
  rw [e, e, e]
  apply Nat.eq_of_testBit_eq
  intro i
  simp only [Nat.testBit_mod_two_pow, Nat.testBit_xor, Nat.testBit_shiftLeft]
  cases decide (i < n) <;> cases decide (i ≥ 1) <;> simp
theorem nx_xor (W p s t : Nat) (a b : Bool) : nx W p (s ^^^ t) (a != b) = nx W p s a ^^^ nx W p t b := by
  unfold nx
  rw [Nat.testBit_xor, xor_add_mod]
  generalize (2 * s) % 2 ^ W = u
  generalize (2 * t) % 2 ^ W = v
  cases Nat.testBit s (W-1) <;> cases Nat.testBit t (W-1) <;> cases a <;> cases b <;> simp <;> (apply Nat.eq_of_testBit_eq; intro i; simp only [Nat.testBit_xor]; cases u.testBit i <;> cases v.testBit i <;> cases p.testBit i <;> rfl)
def crc (W p : Nat) : Nat → List Bool → Nat
  | s, [] => s
  | s, b :: l => crc W p (nx W p s b) l
theorem crc_xor (W p : Nat) : ∀ (l m : List Bool) (s t : Nat), l.length = m.length → crc W p (s ^^^ t) (List.zipWith (· != ·) l m) = crc W p s l ^^^ crc W p t m
  | [], [], s, t, _ => rfl
  | [], _ :: _, _, _, h => by simp at h
  | _ :: _, [], _, _, h => by simp at h
  | a :: l, b :: m, s, t, h => by
    simp only [crc, List.zipWith_cons_cons]
    rw [nx_xor]
    exact crc_xor W p l m _ _ (by simpa using h)
theorem crc_append (W p : Nat) : ∀ (l m : List Bool) (s : Nat), crc W p s (l ++ m) = crc W p (crc W p s l) m
  | [], _, _ => rfl
  | a :: l, m, s => by simp only [crc, List.cons_append, crc_append W p l m]
theorem nx_zero (W p : Nat) : nx W p 0 false = 0 := by simp [nx]
theorem crc_zeros (W p : Nat) : ∀ n, crc W p 0 (List.replicate n false) = 0
  | 0 => rfl
  | n + 1 => by simp only [List.replicate_succ, crc, nx_zero, crc_zeros W p n]
theorem crc_joined (W p : Nat) (l m : List Bool) : crc W p (crc W p 0 l) (List.replicate m.length false) ^^^ crc W p 0 m = crc W p 0 (l ++ m) := by
  rw [crc_append, ← crc_xor W p _ _ _ _ (by simp)]
  congr 1
  · simp
  · apply List.ext_getElem <;> simp
theorem nx_lt {W p s : Nat} (b : Bool) (hp : p < 2 ^ W) : nx W p s b < 2 ^ W := by
  have h : (2 * s) % 2 ^ W < 2 ^ W := Nat.mod_lt _ (Nat.two_pow_pos W)
  unfold nx
  split
  · exact Nat.xor_lt_two_pow h hp
  · exact h
theorem crc_lt {W p : Nat} (hp : p < 2 ^ W) : ∀ (l : List Bool) (s : Nat), s < 2 ^ W → crc W p s l < 2 ^ W
  | [], _, h => h
  | b :: l, s, h => crc_lt hp l _ (nx_lt b hp)
theorem crc_snoc (W p s : Nat) (l : List Bool) (b : Bool) : crc W p s (l ++ [b]) = nx W p (crc W p s l) b := by rw [crc_append]; rfl
/-- A row's part. -/
def part (A : List Bool) (off n : Nat) : List Bool := (A.drop off).take n
theorem part_len {A : List Bool} {off n : Nat} (h : off + n ≤ A.length) : (part A off n).length = n := by simp [part]; omega
theorem part_get {A : List Bool} {off n k : Nat} (hk : k < n) : (part A off n).getD k false = A.getD (off + k) false := by
  unfold part
  rw [List.getD_eq_getElem?_getD, List.getElem?_take, if_pos hk, List.getElem?_drop, List.getD_eq_getElem?_getD]
theorem part_next {A : List Bool} {off n k : Nat} (h : off + n ≤ A.length) (hk : k < n) : (part A off n).take (k + 1) = (part A off n).take k ++ [A.getD (off + k) false] := by
  rw [take_next _ _ false (by rw [part_len h]; exact hk), part_get hk]
def numOut (D : List Seg) (x : AV) : FOut := ⟨Unit, fun _ => True, fun _ => x, fun _ => D⟩
end Go.Proofs.Ytkffpcifkeaabaa

set_option linter.unusedVariables false
set_option linter.unusedSimpArgs false
namespace Go.Proofs.Ytkffpcifkeaabaa
open Go Go.Fw
theorem wide32_f : Fits Try.prog 52 ⟨[.any], [], [numOut [] (.int .i64 32)]⟩ := wide32_T
theorem wide16_f : Fits Try.prog 54 ⟨[.any], [], [numOut [] (.int .i64 16)]⟩ := wide16_T
end Go.Proofs.Ytkffpcifkeaabaa

set_option linter.unusedVariables false
set_option linter.unusedSimpArgs false
namespace Go.Proofs.Ytkffpcifkeaabaa
open Go Go.Fw

theorem tb32 (s : Nat) (hs : s < 4294967296) : (!decide ((s : Int) / 2 ^ (min ((32 : Int) - 1).toNat (IntKind.bits .u32)) = 0)) = Nat.testBit s 31 := by
  show (!decide ((s : Int) / 2147483648 = 0)) = Nat.testBit s 31
  rw [Nat.testBit_eq_decide_div_mod_eq]
  have e : (2 : Nat) ^ 31 = 2147483648 := rfl
  rw [e]
  apply Bool.eq_iff_iff.mpr
  simp only [Bool.not_eq_true', decide_eq_true_eq, decide_eq_false_iff_not]
  omega
theorem sh32 (s : Nat) : IntKind.u32.wrap ((s : Int) * 2 ^ (min (Int.toNat 1) (IntKind.bits .u32))) = ((2 * s % 4294967296 : Nat) : Int) := by
  rw [u32wrap]
  show ((s : Int) * 2) % 4294967296 = _
  omega
noncomputable def c34 : Code := (Try.f34.body).getD .skip
set_option maxRecDepth 100000 in
theorem next32_f (s p : Nat) (b : Bool) (hs : s < 4294967296) (hp : p < 4294967296) : Fits Try.prog 34 ⟨[.int .u32 s, .int .u32 p, .bool b], [], [numOut [] (.int .u32 (nx 32 p s b : Nat))]⟩ := by
  refine fits_of_body (C := cfgk 0) (c := c34) (ts := [6]) wtok wmixed (fun _ => none) (fun _ => none)
    Try.func34 (by kernel_rfl) (by kernel_rfl) (by kernel_rfl) (by kernel_rfl) rfl ?_
  have hn : nx 32 p s b = if (Nat.testBit s 31) != b then (2 * s % 4294967296) ^^^ p else 2 * s % 4294967296 := rfl
  conv => whnf
  refine ⟨_, [], wide32_f, ?_⟩
  conv => whnf
  refine ⟨?_, ?_, ?_⟩
  · conv => whnf
    repeat' (first | exact True.intro | rfl | refine And.intro ?_ ?_ | omega)
    all_goals (conv => whnf)
    all_goals (try (first | rfl | omega | (simp; done)))
  · conv => whnf
    repeat' (first | exact True.intro | rfl | refine And.intro ?_ ?_ | omega)
    all_goals (conv => whnf)
    all_goals (try (first | rfl | omega | (simp; done)))
  conv => whnf
  refine ⟨?_, True.intro⟩
  intro _ _
  conv => whnf
  refine ⟨by repeat' (first | omega | exact Int.natCast_nonneg _ | (simp only [i64max]; omega) | (simp only [u8max]; omega) | refine And.intro ?_ ?_), ?_⟩
  conv => whnf
  refine ⟨by repeat' (first | omega | exact Int.natCast_nonneg _ | (simp only [i64max]; omega) | (simp only [u8max]; omega) | refine And.intro ?_ ?_), ?_⟩
  conv => whnf
  rw [tb32 s hs]
  conv => whnf
  refine ⟨by repeat' (first | omega | exact Int.natCast_nonneg _ | (simp only [i64max]; omega) | (simp only [u8max]; omega) | refine And.intro ?_ ?_), ?_⟩
  conv => whnf
  rw [sh32]
  refine tst_in (fun h => ?_) (fun h => ?_)
  · rw [if_pos h] at hn
    have hm : 2 * s % 4294967296 < 4294967296 := Nat.mod_lt _ (by decide)
    conv => whnf
    refine ⟨⟨by omega, by omega, by show ((2 * s % 4294967296 : Nat) : Int) ≤ 4294967295; omega, by show (p : Int) ≤ 4294967295; omega⟩, ?_⟩
    conv => whnf
    refine .inl ⟨(), [], ?_⟩
    conv => whnf
    repeat' (first | exact True.intro | rfl | refine And.intro ?_ ?_)
    all_goals (show ((nx 32 p s b : Nat) : Int) = _; first | (rw [hn]; done) | (rw [hn]; rfl))
  · rw [if_neg (by rw [h]; decide)] at hn
    conv => whnf
    refine .inl ⟨(), [], ?_⟩
    conv => whnf
    repeat' (first | exact True.intro | rfl | refine And.intro ?_ ?_)
    all_goals (show ((nx 32 p s b : Nat) : Int) = _; first | (rw [hn]; done) | (rw [hn]; rfl))
noncomputable def c51 : Code := (Try.f51.body).getD .skip
def inv51 (A : List Bool) (off n ca s p : Nat) : LInv := ⟨Nat, fun k => ⟨anyTo 21 [.int .u32 (crc 32 p s ((part A off n).take k) : Nat), .int .u32 p, .slice 0 off n ca, .any, .any, .any, .any, .any, .any, .slice 0 off n ca, .int .i64 n, .int .i64 k], [.seg false (.bools A)]⟩, fun k => k ≤ n, fun k => n - k⟩
set_option maxRecDepth 100000 in
theorem on32_f (A : List Bool) (off n ca s p : Nat) (hn : off + n ≤ A.length) (hN : n ≤ 4611686018427387904) (hs : s < 4294967296) (hp : p < 4294967296) : Fits Try.prog 51 ⟨[.int .u32 s, .int .u32 p, .slice 0 off n ca], [.seg false (.bools A)], [numOut [.dead] (.int .u32 (crc 32 p s (part A off n) : Nat))]⟩ := by
  refine fits_of_body (C := cfgk 1) (c := c51) (ts := [6]) wtok wmixed (fun | 2 => some (inv51 A off n ca s p) | _ => none) (fun _ => none)
    Try.func51 (by kernel_rfl) (by kernel_rfl) (by kernel_rfl) (by kernel_rfl) rfl ?_
  conv => whnf
  refine ⟨⟨[0], (0 : Nat), ?_, Nat.zero_le _⟩, ?_⟩
  · conv => whnf
    repeat' (first | exact True.intro | rfl | refine And.intro ?_ ?_)
  · intro (k : Nat) (hk : k ≤ n)
    have hc := crc_lt (W := 32) hp ((part A off n).take k) s hs
    conv => whnf
    refine tst_in (fun hlt => ?_) (fun hge => ?_)
    · skip
      have hlt : k < n := by simp at hlt; omega
      have hx : off + ((k : Int)).toNat = off + k := by omega
      have hnx := part_next hn hlt
      conv => whnf
      refine ⟨by repeat' (first | omega | exact Int.natCast_nonneg _ | (simp only [i64max]; omega) | (simp only [u8max]; omega) | refine And.intro ?_ ?_), ?_⟩
      conv => whnf
      refine ⟨by repeat' (first | omega | exact Int.natCast_nonneg _ | (simp only [i64max]; omega) | (simp only [u8max]; omega) | refine And.intro ?_ ?_), ?_⟩
      conv => whnf
      refine ⟨_, [], next32_f (crc 32 p s ((part A off n).take k)) p (A.getD (off + ((k : Int)).toNat) false) hc hp, ?_⟩
      conv => whnf
      refine ⟨?_, ?_, ?_⟩
      · conv => whnf
        repeat' (first | exact True.intro | rfl | refine And.intro ?_ ?_ | omega)
        all_goals (conv => whnf)
        all_goals (try (first | rfl | omega | (simp; done)))
      · conv => whnf
        repeat' (first | exact True.intro | rfl | refine And.intro ?_ ?_ | omega)
        all_goals (conv => whnf)
        all_goals (try (first | rfl | omega | (simp; done)))
      conv => whnf
      refine ⟨?_, True.intro⟩
      intro _ _
      conv => whnf
      refine ⟨by repeat' (first | omega | exact Int.natCast_nonneg _ | (simp only [i64max]; omega) | (simp only [u8max]; omega) | refine And.intro ?_ ?_), ?_⟩
      conv => whnf
      refine ⟨[0], k + 1, ?_, ?_, ?_⟩
      · conv => whnf
        repeat' (first | exact True.intro | rfl | refine And.intro ?_ ?_)
        all_goals (show ((crc 32 p s ((part A off n).take (k + 1)) : Nat) : Int) = _; rw [hnx, crc_snoc, hx])
      · show k + 1 ≤ n
        omega
      · show n - (k + 1) < n - k
        omega
    · skip
      have hge : k = n := by simp at hge; omega
      subst hge
      conv => whnf
      refine .inl ⟨(), [0], ?_⟩
      conv => whnf
      repeat' (first | exact True.intro | rfl | refine And.intro ?_ ?_)
      all_goals (show ((crc 32 p s (part A off k) : Nat) : Int) = _; rw [List.take_of_length_le (by rw [part_len hn]; exact Nat.le_refl _)])
noncomputable def c33 : Code := (Try.f33.body).getD .skip
theorem On32_f (A : List Bool) (off n ca s : Nat) (hn : off + n ≤ A.length) (hN : n ≤ 32768) (hs : s < 4294967296) : Fits Try.prog 33 ⟨[.int .u32 s, .slice 0 off n ca], [.seg false (.bools A)], [numOut [.dead] (.tup [.int .u32 (crc 32 79764919 s (part A off n) : Nat), .int .i64 0])]⟩ := by
  refine fits_of_body (C := cfgk 1) (c := c33) (ts := [4, 5]) wtok wmixed (fun _ => none) (fun _ => none)
    Try.func33 (by kernel_rfl) (by kernel_rfl) (by kernel_rfl) (by kernel_rfl) rfl ?_
  conv => whnf
  refine tst_in (fun h_ => False.elim (by simp at h_ <;> omega)) (fun _ => ?_)
  conv => whnf
  refine ⟨_, [0], on32_f A off n ca s 79764919 hn (by omega) hs (by decide), ?_⟩
  conv => whnf
  refine ⟨?_, ?_, ?_⟩
  · conv => whnf
    repeat' (first | exact True.intro | rfl | refine And.intro ?_ ?_ | omega)
    all_goals (conv => whnf)
    all_goals (try (first | rfl | omega | (simp; done)))
  · conv => whnf
    repeat' (first | exact True.intro | rfl | refine And.intro ?_ ?_ | omega)
    all_goals (conv => whnf)
    all_goals (try (first | rfl | omega | (simp; done)))
  conv => whnf
  refine ⟨?_, True.intro⟩
  intro _ _
  conv => whnf
  refine .inl ⟨(), [0], ?_⟩
  conv => whnf
  repeat' (first | exact True.intro | rfl | refine And.intro ?_ ?_)
noncomputable def c7 : Code := (Try.f7.body).getD .skip
theorem Sum32_f (A : List Bool) (off n ca : Nat) (hn : off + n ≤ A.length) (hN : n ≤ 32768) : Fits Try.prog 7 ⟨[.slice 0 off n ca], [.seg false (.bools A)], [numOut [.dead] (.tup [.int .u32 (crc 32 79764919 0 (part A off n) : Nat), .int .i64 0])]⟩ := by
  refine fits_of_body (C := cfgk 1) (c := c7) (ts := [2, 3]) wtok wmixed (fun _ => none) (fun _ => none)
    Try.func7 (by kernel_rfl) (by kernel_rfl) (by kernel_rfl) (by kernel_rfl) rfl ?_
  conv => whnf
  refine ⟨_, [0], On32_f A off n ca 0 hn hN (by decide), ?_⟩
  conv => whnf
  refine ⟨?_, ?_, ?_⟩
  · conv => whnf
    repeat' (first | exact True.intro | rfl | refine And.intro ?_ ?_ | omega)
    all_goals (conv => whnf)
    all_goals (try (first | rfl | omega | (simp; done)))
  · conv => whnf
    repeat' (first | exact True.intro | rfl | refine And.intro ?_ ?_ | omega)
    all_goals (conv => whnf)
    all_goals (try (first | rfl | omega | (simp; done)))
  conv => whnf
  refine ⟨?_, True.intro⟩
  intro _ _
  conv => whnf
  refine .inl ⟨(), [0], ?_⟩
  conv => whnf
  repeat' (first | exact True.intro | rfl | refine And.intro ?_ ?_)
end Go.Proofs.Ytkffpcifkeaabaa

set_option linter.unusedVariables false
set_option linter.unusedSimpArgs false
namespace Go.Proofs.Ytkffpcifkeaabaa
open Go Go.Fw

theorem tb16 (s : Nat) (hs : s < 65536) : (!decide ((s : Int) / 2 ^ (min ((16 : Int) - 1).toNat (IntKind.bits .u16)) = 0)) = Nat.testBit s 15 := by
  show (!decide ((s : Int) / 32768 = 0)) = Nat.testBit s 15
  rw [Nat.testBit_eq_decide_div_mod_eq]
  have e : (2 : Nat) ^ 15 = 32768 := rfl
  rw [e]
  apply Bool.eq_iff_iff.mpr
  simp only [Bool.not_eq_true', decide_eq_true_eq, decide_eq_false_iff_not]
  omega
theorem sh16 (s : Nat) : IntKind.u16.wrap ((s : Int) * 2 ^ (min (Int.toNat 1) (IntKind.bits .u16))) = ((2 * s % 65536 : Nat) : Int) := by
  rw [u16wrap]
  show ((s : Int) * 2) % 65536 = _
  omega
noncomputable def c53 : Code := (Try.f53.body).getD .skip
set_option maxRecDepth 100000 in
theorem next16_f (s p : Nat) (b : Bool) (hs : s < 65536) (hp : p < 65536) : Fits Try.prog 53 ⟨[.int .u16 s, .int .u16 p, .bool b], [], [numOut [] (.int .u16 (nx 16 p s b : Nat))]⟩ := by
  refine fits_of_body (C := cfgk 0) (c := c53) (ts := [6]) wtok wmixed (fun _ => none) (fun _ => none)
    Try.func53 (by kernel_rfl) (by kernel_rfl) (by kernel_rfl) (by kernel_rfl) rfl ?_
  have hn : nx 16 p s b = if (Nat.testBit s 15) != b then (2 * s % 65536) ^^^ p else 2 * s % 65536 := rfl
  conv => whnf
  refine ⟨_, [], wide16_f, ?_⟩
  conv => whnf
  refine ⟨?_, ?_, ?_⟩
  · conv => whnf
    repeat' (first | exact True.intro | rfl | refine And.intro ?_ ?_ | omega)
    all_goals (conv => whnf)
    all_goals (try (first | rfl | omega | (simp; done)))
  · conv => whnf
    repeat' (first | exact True.intro | rfl | refine And.intro ?_ ?_ | omega)
    all_goals (conv => whnf)
    all_goals (try (first | rfl | omega | (simp; done)))
  conv => whnf
  refine ⟨?_, True.intro⟩
  intro _ _
  conv => whnf
  refine ⟨by repeat' (first | omega | exact Int.natCast_nonneg _ | (simp only [i64max]; omega) | (simp only [u8max]; omega) | refine And.intro ?_ ?_), ?_⟩
  conv => whnf
  refine ⟨by repeat' (first | omega | exact Int.natCast_nonneg _ | (simp only [i64max]; omega) | (simp only [u8max]; omega) | refine And.intro ?_ ?_), ?_⟩
  conv => whnf
  rw [tb16 s hs]
  conv => whnf
  refine ⟨by repeat' (first | omega | exact Int.natCast_nonneg _ | (simp only [i64max]; omega) | (simp only [u8max]; omega) | refine And.intro ?_ ?_), ?_⟩
  conv => whnf
  rw [sh16]
  refine tst_in (fun h => ?_) (fun h => ?_)
  · rw [if_pos h] at hn
    have hm : 2 * s % 65536 < 65536 := Nat.mod_lt _ (by decide)
    conv => whnf
    refine ⟨⟨by omega, by omega, by show ((2 * s % 65536 : Nat) : Int) ≤ 65535; omega, by show (p : Int) ≤ 65535; omega⟩, ?_⟩
    conv => whnf
    refine .inl ⟨(), [], ?_⟩
    conv => whnf
    repeat' (first | exact True.intro | rfl | refine And.intro ?_ ?_)
    all_goals (show ((nx 16 p s b : Nat) : Int) = _; first | (rw [hn]; done) | (rw [hn]; rfl))
  · rw [if_neg (by rw [h]; decide)] at hn
    conv => whnf
    refine .inl ⟨(), [], ?_⟩
    conv => whnf
    repeat' (first | exact True.intro | rfl | refine And.intro ?_ ?_)
    all_goals (show ((nx 16 p s b : Nat) : Int) = _; first | (rw [hn]; done) | (rw [hn]; rfl))
noncomputable def c35 : Code := (Try.f35.body).getD .skip
def inv35 (A : List Bool) (off n ca s p : Nat) : LInv := ⟨Nat, fun k => ⟨anyTo 21 [.int .u16 (crc 16 p s ((part A off n).take k) : Nat), .int .u16 p, .slice 0 off n ca, .any, .any, .any, .any, .any, .any, .slice 0 off n ca, .int .i64 n, .int .i64 k], [.seg false (.bools A)]⟩, fun k => k ≤ n, fun k => n - k⟩
set_option maxRecDepth 100000 in
theorem on16_f (A : List Bool) (off n ca s p : Nat) (hn : off + n ≤ A.length) (hN : n ≤ 4611686018427387904) (hs : s < 65536) (hp : p < 65536) : Fits Try.prog 35 ⟨[.int .u16 s, .int .u16 p, .slice 0 off n ca], [.seg false (.bools A)], [numOut [.dead] (.int .u16 (crc 16 p s (part A off n) : Nat))]⟩ := by
  refine fits_of_body (C := cfgk 1) (c := c35) (ts := [6]) wtok wmixed (fun | 2 => some (inv35 A off n ca s p) | _ => none) (fun _ => none)
    Try.func35 (by kernel_rfl) (by kernel_rfl) (by kernel_rfl) (by kernel_rfl) rfl ?_
  conv => whnf
  refine ⟨⟨[0], (0 : Nat), ?_, Nat.zero_le _⟩, ?_⟩
  · conv => whnf
    repeat' (first | exact True.intro | rfl | refine And.intro ?_ ?_)
  · intro (k : Nat) (hk : k ≤ n)
    have hc := crc_lt (W := 16) hp ((part A off n).take k) s hs
    conv => whnf
    refine tst_in (fun hlt => ?_) (fun hge => ?_)
    · skip
      have hlt : k < n := by simp at hlt; omega
      have hx : off + ((k : Int)).toNat = off + k := by omega
      have hnx := part_next hn hlt
      conv => whnf
      refine ⟨by repeat' (first | omega | exact Int.natCast_nonneg _ | (simp only [i64max]; omega) | (simp only [u8max]; omega) | refine And.intro ?_ ?_), ?_⟩
      conv => whnf
      refine ⟨by repeat' (first | omega | exact Int.natCast_nonneg _ | (simp only [i64max]; omega) | (simp only [u8max]; omega) | refine And.intro ?_ ?_), ?_⟩
      conv => whnf
      refine ⟨_, [], next16_f (crc 16 p s ((part A off n).take k)) p (A.getD (off + ((k : Int)).toNat) false) hc hp, ?_⟩
      conv => whnf
      refine ⟨?_, ?_, ?_⟩
      · conv => whnf
        repeat' (first | exact True.intro | rfl | refine And.intro ?_ ?_ | omega)
        all_goals (conv => whnf)
        all_goals (try (first | rfl | omega | (simp; done)))
      · conv => whnf
        repeat' (first | exact True.intro | rfl | refine And.intro ?_ ?_ | omega)
        all_goals (conv => whnf)
        all_goals (try (first | rfl | omega | (simp; done)))
      conv => whnf
      refine ⟨?_, True.intro⟩
      intro _ _
      conv => whnf
      refine ⟨by repeat' (first | omega | exact Int.natCast_nonneg _ | (simp only [i64max]; omega) | (simp only [u8max]; omega) | refine And.intro ?_ ?_), ?_⟩
      conv => whnf
      refine ⟨[0], k + 1, ?_, ?_, ?_⟩
      · conv => whnf
        repeat' (first | exact True.intro | rfl | refine And.intro ?_ ?_)
        all_goals (show ((crc 16 p s ((part A off n).take (k + 1)) : Nat) : Int) = _; rw [hnx, crc_snoc, hx])
      · show k + 1 ≤ n
        omega
      · show n - (k + 1) < n - k
        omega
    · skip
      have hge : k = n := by simp at hge; omega
      subst hge
      conv => whnf
      refine .inl ⟨(), [0], ?_⟩
      conv => whnf
      repeat' (first | exact True.intro | rfl | refine And.intro ?_ ?_)
      all_goals (show ((crc 16 p s (part A off k) : Nat) : Int) = _; rw [List.take_of_length_le (by rw [part_len hn]; exact Nat.le_refl _)])
noncomputable def c11 : Code := (Try.f11.body).getD .skip
theorem On16_f (A : List Bool) (off n ca s : Nat) (hn : off + n ≤ A.length) (hN : n ≤ 32768) (hs : s < 65536) : Fits Try.prog 11 ⟨[.int .u16 s, .slice 0 off n ca], [.seg false (.bools A)], [numOut [.dead] (.tup [.int .u16 (crc 16 4129 s (part A off n) : Nat), .int .i64 0])]⟩ := by
  refine fits_of_body (C := cfgk 1) (c := c11) (ts := [4, 5]) wtok wmixed (fun _ => none) (fun _ => none)
    Try.func11 (by kernel_rfl) (by kernel_rfl) (by kernel_rfl) (by kernel_rfl) rfl ?_
  conv => whnf
  refine tst_in (fun h_ => False.elim (by simp at h_ <;> omega)) (fun _ => ?_)
  conv => whnf
  refine ⟨_, [0], on16_f A off n ca s 4129 hn (by omega) hs (by decide), ?_⟩
  conv => whnf
  refine ⟨?_, ?_, ?_⟩
  · conv => whnf
    repeat' (first | exact True.intro | rfl | refine And.intro ?_ ?_ | omega)
    all_goals (conv => whnf)
    all_goals (try (first | rfl | omega | (simp; done)))
  · conv => whnf
    repeat' (first | exact True.intro | rfl | refine And.intro ?_ ?_ | omega)
    all_goals (conv => whnf)
    all_goals (try (first | rfl | omega | (simp; done)))
  conv => whnf
  refine ⟨?_, True.intro⟩
  intro _ _
  conv => whnf
  refine .inl ⟨(), [0], ?_⟩
  conv => whnf
  repeat' (first | exact True.intro | rfl | refine And.intro ?_ ?_)
noncomputable def c9 : Code := (Try.f9.body).getD .skip
theorem Sum16_f (A : List Bool) (off n ca : Nat) (hn : off + n ≤ A.length) (hN : n ≤ 32768) : Fits Try.prog 9 ⟨[.slice 0 off n ca], [.seg false (.bools A)], [numOut [.dead] (.tup [.int .u16 (crc 16 4129 0 (part A off n) : Nat), .int .i64 0])]⟩ := by
  refine fits_of_body (C := cfgk 1) (c := c9) (ts := [2, 3]) wtok wmixed (fun _ => none) (fun _ => none)
    Try.func9 (by kernel_rfl) (by kernel_rfl) (by kernel_rfl) (by kernel_rfl) rfl ?_
  conv => whnf
  refine ⟨_, [0], On16_f A off n ca 0 hn hN (by decide), ?_⟩
  conv => whnf
  refine ⟨?_, ?_, ?_⟩
  · conv => whnf
    repeat' (first | exact True.intro | rfl | refine And.intro ?_ ?_ | omega)
    all_goals (conv => whnf)
    all_goals (try (first | rfl | omega | (simp; done)))
  · conv => whnf
    repeat' (first | exact True.intro | rfl | refine And.intro ?_ ?_ | omega)
    all_goals (conv => whnf)
    all_goals (try (first | rfl | omega | (simp; done)))
  conv => whnf
  refine ⟨?_, True.intro⟩
  intro _ _
  conv => whnf
  refine .inl ⟨(), [0], ?_⟩
  conv => whnf
  repeat' (first | exact True.intro | rfl | refine And.intro ?_ ?_)
end Go.Proofs.Ytkffpcifkeaabaa

set_option linter.unusedVariables false
set_option linter.unusedSimpArgs false
namespace Go.Proofs.Ytkffpcifkeaabaa
open Go Go.Fw
def unl (A B : List Bool) : Nat → List Bool
  | 0 => []
  | k + 1 => unl A B k ++ [A.getD k false != B.getD k false]
theorem unl_len (A B : List Bool) : ∀ k, (unl A B k).length = k
  | 0 => rfl
  | k + 1 => by simp [unl, unl_len A B k]
theorem unl_zip (A B : List Bool) : ∀ k, k ≤ A.length → k ≤ B.length → unl A B k = List.zipWith (· != ·) (A.take k) (B.take k)
  | 0, _, _ => by simp [unl]
  | k + 1, h1, h2 => by
    rw [unl, unl_zip A B k (by omega) (by omega), take_next A k false (by omega), take_next B k false (by omega), List.zipWith_append (by simp; omega)]
    rfl
theorem set_fillb (l : List Bool) (k r : Nat) (x y : Bool) (hl : l.length = k) : (l ++ y :: List.replicate r false).set k x = l ++ [x] ++ List.replicate r false := by
  subst hl
  simp
def rowB (k : Nat) (pre : List Seg) (xs : List Bool) (f : AV → AV) : FOut := ⟨Unit, fun _ => True, fun _ => f (.slice k 0 xs.length xs.length), fun _ => pre ++ [.seg true (.bools xs)]⟩
noncomputable def c8 : Code := (Try.f8.body).getD .skip
def inv8 (A B : List Bool) (n ca cb : Nat) : LInv := ⟨Nat, fun k => ⟨anyTo 29 [.slice 0 0 n ca, .slice 1 0 n cb, .any, .any, .any, .slice 2 0 n n, .int .i64 k], [.seg false (.bools A), .seg false (.bools B), .seg true (.bools (unl A B k ++ List.replicate (n - k) false))]⟩, fun k => k ≤ n, fun k => n - k⟩
set_option maxRecDepth 100000 in
theorem unlike_f (A B : List Bool) (n ca cb : Nat) (hA : n ≤ A.length) (hB : n ≤ B.length) (hN : n ≤ 32768) : Fits Try.prog 8 ⟨[.slice 0 0 n ca, .slice 1 0 n cb], [.seg false (.bools A), .seg false (.bools B)], [⟨Unit, fun _ => True, fun _ => .slice 2 0 n n, fun _ => [.dead, .dead, .seg true (.bools (unl A B n))]⟩]⟩ := by
  refine fits_of_body (C := cfgk 2) (c := c8) (ts := [4]) wtok wmixed (fun | 3 => some (inv8 A B n ca cb) | _ => none) (fun _ => none)
    Try.func8 (by kernel_rfl) (by kernel_rfl) (by kernel_rfl) (by kernel_rfl) rfl ?_
  conv => whnf
  refine ⟨⟨by omega, by omega, by show (1 : Int) * (n : Int) ≤ 281474976710656; omega, by omega⟩, ?_⟩
  conv => whnf
  refine ⟨⟨[0, 1, 2], (0 : Nat), ?_, Nat.zero_le _⟩, ?_⟩
  · conv => whnf
    repeat' (first | exact True.intro | rfl | refine And.intro ?_ ?_)
  · intro (k : Nat) (hk : k ≤ n)
    have hlen := unl_len A B k
    conv => whnf
    refine tst_in (fun hlt => ?_) (fun hge => ?_)
    · skip
      have hlt : k < n := by simp at hlt; omega
      have hcl : (unl A B k ++ List.replicate (n - k) false).length = n := by simp [hlen]; omega
      conv => whnf
      refine ⟨by repeat' (first | omega | exact Int.natCast_nonneg _ | (simp only [i64max]; omega) | (simp only [u8max]; omega) | refine And.intro ?_ ?_), ?_⟩
      conv => whnf
      refine ⟨by repeat' (first | omega | exact Int.natCast_nonneg _ | (simp only [i64max]; omega) | (simp only [u8max]; omega) | refine And.intro ?_ ?_), ?_⟩
      conv => whnf
      refine ⟨by repeat' (first | omega | exact Int.natCast_nonneg _ | (simp only [i64max]; omega) | (simp only [u8max]; omega) | refine And.intro ?_ ?_), ?_⟩
      conv => whnf
      refine ⟨by repeat' (first | omega | exact Int.natCast_nonneg _ | (simp only [i64max]; omega) | (simp only [u8max]; omega) | refine And.intro ?_ ?_), ?_⟩
      conv => whnf
      refine ⟨by repeat' (first | omega | exact Int.natCast_nonneg _ | (simp only [i64max]; omega) | (simp only [u8max]; omega) | refine And.intro ?_ ?_), ?_⟩
      conv => whnf
      refine ⟨by repeat' (first | omega | exact Int.natCast_nonneg _ | (simp only [i64max]; omega) | (simp only [u8max]; omega) | refine And.intro ?_ ?_), ?_⟩
      conv => whnf
      refine ⟨by repeat' (first | omega | exact Int.natCast_nonneg _ | (simp only [i64max]; omega) | (simp only [u8max]; omega) | refine And.intro ?_ ?_), ?_⟩
      conv => whnf
      refine ⟨[0, 1, 2], k + 1, ?_, ?_, ?_⟩
      · conv => whnf
        repeat' (first | exact True.intro | rfl | refine And.intro ?_ ?_)
        all_goals first | rfl | skip
        show unl A B (k + 1) ++ List.replicate (n - (k + 1)) false = (unl A B k ++ List.replicate (n - k) false).set (0 + ((k : Int)).toNat) (A.getD (0 + ((k : Int)).toNat) false != B.getD (0 + ((k : Int)).toNat) false)
        rw [show 0 + ((k : Int)).toNat = k by omega, show n - k = (n - (k + 1)) + 1 by omega, List.replicate_succ, set_fillb _ _ _ _ _ hlen]
        rfl
      · show k + 1 ≤ n
        omega
      · show n - (k + 1) < n - k
        omega
    · skip
      have hge : k = n := by simp at hge; omega
      subst hge
      conv => whnf
      refine .inl ⟨(), [0, 1, 2], ?_⟩
      conv => whnf
      repeat' (first | exact True.intro | rfl | refine And.intro ?_ ?_)
      all_goals (show _ = _; first | rfl | (simp [hlen]; done) | (rw [hlen]; rfl))
def zer (k : Nat) : List Bool := List.replicate k false
theorem zer_snoc (k : Nat) : zer (k + 1) = zer k ++ [false] := List.replicate_succ'
noncomputable def c10 : Code := (Try.f10.body).getD .skip
def inv10 (s t m : Nat) : LInv := ⟨Nat, fun k => ⟨anyTo 23 [.int .u32 (crc 32 79764919 s (zer k) : Nat), .int .u32 t, .int .i64 m, .any, .any, .any, .any, .any, .any, .any, .any, .any, .any, .any, .int .i64 m, .int .i64 k], []⟩, fun k => k ≤ m, fun k => m - k⟩
set_option maxRecDepth 100000 in
theorem Joined_f (s t m : Nat) (hm : m ≤ 32768) (hs : s < 4294967296) (ht : t < 4294967296) : Fits Try.prog 10 ⟨[.int .u32 s, .int .u32 t, .int .i64 m], [], [numOut [] (.tup [.int .u32 (crc 32 79764919 s (zer m) ^^^ t : Nat), .int .i64 0])]⟩ := by
  refine fits_of_body (C := cfgk 0) (c := c10) (ts := [6, 7]) wtok wmixed (fun | 4 => some (inv10 s t m) | _ => none) (fun _ => none)
    Try.func10 (by kernel_rfl) (by kernel_rfl) (by kernel_rfl) (by kernel_rfl) rfl ?_
  conv => whnf
  refine tst_in (fun h_ => False.elim (by simp at h_ <;> omega)) (fun _ => ?_)
  conv => whnf
  refine ⟨⟨[], (0 : Nat), ?_, Nat.zero_le _⟩, ?_⟩
  · conv => whnf
    repeat' (first | exact True.intro | rfl | refine And.intro ?_ ?_)
  · intro (k : Nat) (hk : k ≤ m)
    have hc := crc_lt (W := 32) (p := 79764919) (by decide) (zer k) s hs
    conv => whnf
    refine tst_in (fun hlt => ?_) (fun hge => ?_)
    · skip
      have hlt : k < m := by simp at hlt; omega
      conv => whnf
      refine ⟨_, [], next32_f (crc 32 79764919 s (zer k)) 79764919 false hc (by decide), ?_⟩
      conv => whnf
      refine ⟨?_, ?_, ?_⟩
      · conv => whnf
        repeat' (first | exact True.intro | rfl | refine And.intro ?_ ?_ | omega)
        all_goals (conv => whnf)
        all_goals (try (first | rfl | omega | (simp; done)))
      · conv => whnf
        repeat' (first | exact True.intro | rfl | refine And.intro ?_ ?_ | omega)
        all_goals (conv => whnf)
        all_goals (try (first | rfl | omega | (simp; done)))
      conv => whnf
      refine ⟨?_, True.intro⟩
      intro _ _
      conv => whnf
      refine ⟨by repeat' (first | omega | exact Int.natCast_nonneg _ | (simp only [i64max]; omega) | (simp only [u8max]; omega) | refine And.intro ?_ ?_), ?_⟩
      conv => whnf
      refine ⟨[], k + 1, ?_, ?_, ?_⟩
      · conv => whnf
        repeat' (first | exact True.intro | rfl | refine And.intro ?_ ?_)
        all_goals (show ((crc 32 79764919 s (zer (k + 1)) : Nat) : Int) = _; rw [zer_snoc, crc_snoc])
      · show k + 1 ≤ m
        omega
      · show m - (k + 1) < m - k
        omega
    · skip
      have hge : k = m := by simp at hge; omega
      subst hge
      conv => whnf
      have hc2 : crc 32 79764919 s (zer k) < 4294967296 := hc
      refine ⟨⟨by omega, by omega, by show ((crc 32 79764919 s (zer k) : Nat) : Int) ≤ 4294967295; omega, by show (t : Int) ≤ 4294967295; omega⟩, ?_⟩
      conv => whnf
      refine .inl ⟨(), [], ?_⟩
      conv => whnf
      repeat' (first | exact True.intro | rfl | refine And.intro ?_ ?_)
end Go.Proofs.Ytkffpcifkeaabaa

set_option linter.unusedVariables false
set_option linter.unusedSimpArgs false
namespace Go.Proofs.Ytkffpcifkeaabaa
open Go Go.Fw
def qf : Nat → Bool := fun f => match f with | 50 => true | 56 => true | 57 => true | _ => false
def wtys2 : List (Nat × TyI) := [
  (3, ⟨.int .i64, 1, 8, .int .i64 0⟩),
  (4, ⟨.bool, 1, 1, .bool false⟩),
  (22, ⟨.slice 4, 1, 24, .slice none 0 0⟩),
  (23, ⟨.int .u16, 1, 2, .int .u16 0⟩),
  (24, ⟨.int .u32, 1, 4, .int .u32 0⟩),
  (25, ⟨.int .i64, 1, 8, .int .i64 0⟩),
  (72, ⟨.int .u64, 1, 8, .int .u64 0⟩),
  (82, ⟨.slice 22, 1, 24, .slice none 0 0⟩)]
theorem wtok2 : TOk Try.prog wtys2 := by
  intro p hp
  simp only [wtys2, List.mem_cons, List.not_mem_nil, or_false] at hp
  rcases hp with rfl | rfl | rfl | rfl | rfl | rfl | rfl | rfl
  all_goals exact ⟨by kernel_rfl, by kernel_rfl⟩
def cfgq (k : Nat) : Cfg := { T := wtys2, sgn := fun _ => false, wr := fun _ => false, k := k, q := qf }
/-- Where the first one is. -/
def fst1 (B : List Bool) : Nat → Nat → Int
  | 0, _ => -1
  | f + 1, i => if B.getD i false then (i : Int) else fst1 B f (i + 1)
theorem fst1_ok (B : List Bool) : ∀ f i, (fst1 B f i = -1 ∧ ∀ j, i ≤ j → j < i + f → B.getD j false = false) ∨ (∃ j : Nat, fst1 B f i = j ∧ i ≤ j ∧ j < i + f ∧ B.getD j false = true)
  | 0, i => .inl ⟨rfl, fun j h1 h2 => by omega⟩
  | f + 1, i => by
    simp only [fst1]
    cases h : B.getD i false with
    | true => exact .inr ⟨i, by simp, by omega, by omega, h⟩
    | false =>
      simp only [Bool.false_eq_true, if_false]
      rcases fst1_ok B f (i + 1) with ⟨h1, h2⟩ | ⟨j, h1, h2, h3, h4⟩
      · refine .inl ⟨h1, fun j h3 h4 => ?_⟩
        rcases Nat.lt_or_ge i j with h5 | h5
        · exact h2 j h5 (by omega)
        · have : j = i := by omega
          subst this; exact h
      · exact .inr ⟨j, h1, by omega, by omega, h4⟩
noncomputable def c50 : Code := (Try.f50.body).getD .skip
def inv50 (B : List Bool) (n ca : Nat) : LInv := ⟨Nat, fun k => ⟨anyTo 19 [.slice 0 0 n ca, .bool true, .any, .any, .any, .any, .slice 0 0 n ca, .int .i64 n, .int .i64 k], [.seg false (.bools B)]⟩, fun k => k ≤ n ∧ fst1 B n 0 = fst1 B (n - k) k, fun k => n - k⟩
theorem Index_q (B : List Bool) (n ca : Nat) (hn : n ≤ B.length) (hN : n ≤ 4611686018427387904) : QFits Try.prog 50 ⟨[.slice 0 0 n ca, .bool true], [.seg false (.bools B)], .int .i64 (fst1 B n 0)⟩ := by
  refine qfits_of_body (C := cfgq 1) (c := c50) (ts := [4]) wtok2 wmixed (fun | 2 => some (inv50 B n ca) | _ => none) (fun _ => none)
    Try.func50 (by kernel_rfl) (by kernel_rfl) (by kernel_rfl) (by kernel_rfl) (by kernel_rfl) rfl rfl ?_
  conv => whnf
  refine ⟨⟨[0], (0 : Nat), ?_, Nat.zero_le _, by simp⟩, ?_⟩
  · conv => whnf
    repeat' (first | exact True.intro | rfl | refine And.intro ?_ ?_)
  · intro (k : Nat) hk
    obtain ⟨hk, hf⟩ := hk
    conv => whnf
    refine tst_in (fun hlt => ?_) (fun hge => ?_)
    · skip
      have hlt : k < n := by simp at hlt; omega
      obtain ⟨r, hr⟩ : ∃ r, n - k = r + 1 := ⟨n - k - 1, by omega⟩
      rw [hr] at hf
      simp only [fst1] at hf
      conv => whnf
      refine ⟨by repeat' (first | omega | exact Int.natCast_nonneg _ | (simp only [i64max]; omega) | (simp only [u8max]; omega) | refine And.intro ?_ ?_), ?_⟩
      conv => whnf
      refine ⟨by repeat' (first | omega | exact Int.natCast_nonneg _ | (simp only [i64max]; omega) | (simp only [u8max]; omega) | refine And.intro ?_ ?_), ?_⟩
      conv => whnf
      refine tst_in (fun hb => ?_) (fun hb => ?_)
      · skip
        have hb : B.getD k false = true := by simpa using hb
        rw [hb] at hf
        conv => whnf
        repeat' (first | exact True.intro | rfl | refine And.intro ?_ ?_)
        show fst1 B n 0 = (k : Int)
        simpa using hf
      · skip
        have hb : B.getD k false = false := by simpa using hb
        rw [hb] at hf
        conv => whnf
        refine ⟨by repeat' (first | omega | exact Int.natCast_nonneg _ | (simp only [i64max]; omega) | (simp only [u8max]; omega) | refine And.intro ?_ ?_), ?_⟩
        conv => whnf
        refine ⟨[0], k + 1, ?_, ⟨?_, ?_⟩, ?_⟩
        · conv => whnf
          repeat' (first | exact True.intro | rfl | refine And.intro ?_ ?_)
        · show k + 1 ≤ n
          omega
        · show fst1 B n 0 = fst1 B (n - (k + 1)) (k + 1)
          rw [show n - (k + 1) = r by omega]
          simpa using hf
        · show n - (k + 1) < n - k
          omega
    · skip
      have hge : n ≤ k := by simp at hge; omega
      have e : n - k = 0 := by omega
      rw [e] at hf
      conv => whnf
      repeat' (first | exact True.intro | rfl | refine And.intro ?_ ?_)
      exact hf
def eqB (A B : List Bool) : Nat → Bool
  | 0 => true
  | k + 1 => eqB A B k && (A.getD k false == B.getD k false)
theorem eqB_false {A B : List Bool} {i : Nat} (h : ¬ A.getD i false = B.getD i false) : ∀ {k}, i < k → eqB A B k = false
  | 0, hk => by omega
  | k + 1, hk => by
    simp only [eqB]
    rcases Nat.lt_or_ge i k with h1 | h1
    · rw [eqB_false h h1]; rfl
    · have : k = i := by omega
      subst this
      rw [beq_eq_false_iff_ne.2 h, Bool.and_false]
theorem eqB_iff (A B : List Bool) : ∀ k, eqB A B k = true ↔ ∀ i, i < k → A.getD i false = B.getD i false
  | 0 => by simp [eqB]
  | k + 1 => by
    simp only [eqB, Bool.and_eq_true, eqB_iff A B k, beq_iff_eq]
    constructor
    · rintro ⟨h1, h2⟩ i hi
      rcases Nat.lt_or_ge i k with h | h
      · exact h1 i h
      · have : i = k := by omega
        subst this; exact h2
    · intro h
      exact ⟨fun i hi => h i (by omega), h k (by omega)⟩
noncomputable def c56 : Code := (Try.f56.body).getD .skip
def inv56 (A B : List Bool) (n ca cb : Nat) : LInv := ⟨Nat, fun k => ⟨anyTo 26 [.slice 0 0 n ca, .slice 1 0 n cb, .any, .any, .any, .any, .any, .any, .any, .any, .any, .any, .int .i64 n, .int .i64 k], [.seg false (.bools A), .seg false (.bools B)]⟩, fun k => k ≤ n ∧ eqB A B k = true, fun k => n - k⟩
theorem Equal_q (A B : List Bool) (n ca cb : Nat) (hA : n ≤ A.length) (hB : n ≤ B.length) (hN : n ≤ 4611686018427387904) : QFits Try.prog 56 ⟨[.slice 0 0 n ca, .slice 1 0 n cb], [.seg false (.bools A), .seg false (.bools B)], .bool (eqB A B n)⟩ := by
  refine qfits_of_body (C := cfgq 2) (c := c56) (ts := [4]) wtok2 wmixed (fun | 4 => some (inv56 A B n ca cb) | _ => none) (fun _ => none)
    Try.func56 (by kernel_rfl) (by kernel_rfl) (by kernel_rfl) (by kernel_rfl) (by kernel_rfl) rfl rfl ?_
  conv => whnf
  refine tst_in (fun h_ => False.elim (by simp at h_ <;> omega)) (fun _ => ?_)
  conv => whnf
  refine ⟨⟨[0, 1], (0 : Nat), ?_, Nat.zero_le _, rfl⟩, ?_⟩
  · conv => whnf
    repeat' (first | exact True.intro | rfl | refine And.intro ?_ ?_)
  · intro (k : Nat) hk
    obtain ⟨hk, he⟩ := hk
    conv => whnf
    refine tst_in (fun hlt => ?_) (fun hge => ?_)
    · skip
      have hlt : k < n := by simp at hlt; omega
      have hx : 0 + ((k : Int)).toNat = k := by omega
      conv => whnf
      refine ⟨by repeat' (first | omega | exact Int.natCast_nonneg _ | (simp only [i64max]; omega) | (simp only [u8max]; omega) | refine And.intro ?_ ?_), ?_⟩
      conv => whnf
      refine ⟨by repeat' (first | omega | exact Int.natCast_nonneg _ | (simp only [i64max]; omega) | (simp only [u8max]; omega) | refine And.intro ?_ ?_), ?_⟩
      conv => whnf
      refine ⟨by repeat' (first | omega | exact Int.natCast_nonneg _ | (simp only [i64max]; omega) | (simp only [u8max]; omega) | refine And.intro ?_ ?_), ?_⟩
      conv => whnf
      refine ⟨by repeat' (first | omega | exact Int.natCast_nonneg _ | (simp only [i64max]; omega) | (simp only [u8max]; omega) | refine And.intro ?_ ?_), ?_⟩
      conv => whnf
      rw [hx]
      refine tst_in (fun hb => ?_) (fun hb => ?_)
      · skip
        have hb : ¬ A.getD k false = B.getD k false := by simpa using hb
        conv => whnf
        repeat' (first | exact True.intro | rfl | refine And.intro ?_ ?_)
        all_goals (show eqB A B n = false; exact eqB_false hb hlt)
      · skip
        have hb : A.getD k false = B.getD k false := by simpa using hb
        conv => whnf
        refine ⟨by repeat' (first | omega | exact Int.natCast_nonneg _ | (simp only [i64max]; omega) | (simp only [u8max]; omega) | refine And.intro ?_ ?_), ?_⟩
        conv => whnf
        refine ⟨[0, 1], k + 1, ?_, ⟨?_, ?_⟩, ?_⟩
        · conv => whnf
          repeat' (first | exact True.intro | rfl | refine And.intro ?_ ?_)
        · show k + 1 ≤ n
          omega
        · show eqB A B (k + 1) = true
          rw [eqB, he, hb]; simp
        · show n - (k + 1) < n - k
          omega
    · skip
      have hge : k = n := by simp at hge; omega
      subst hge
      conv => whnf
      repeat' (first | exact True.intro | rfl | refine And.intro ?_ ?_)
      all_goals (show eqB A B k = true; exact he)
noncomputable def c57 : Code := (Try.f57.body).getD .skip
theorem isRow_q (A : List Bool) (n ca : Nat) (hN : n ≤ 32768) : QFits Try.prog 57 ⟨[.slice 0 0 n ca], [.seg false (.bools A)], .bool true⟩ := by
  refine qfits_of_body (C := cfgq 1) (c := c57) (ts := [2]) wtok2 wmixed (fun _ => none) (fun _ => none)
    Try.func57 (by kernel_rfl) (by kernel_rfl) (by kernel_rfl) (by kernel_rfl) (by kernel_rfl) rfl rfl ?_
  conv => whnf
  repeat' (first | exact True.intro | rfl | refine And.intro ?_ ?_)
  all_goals (show _ = _; simp; omega)
end Go.Proofs.Ytkffpcifkeaabaa

set_option linter.unusedVariables false
set_option linter.unusedSimpArgs false
namespace Go.Proofs.Ytkffpcifkeaabaa
open Go Go.Fw
theorem zc {T : List (Nat × TyI)} {e n : Nat} {K : Cont → Prop} (h : tyAt T e = some ⟨.bool, 1, 1, .bool false⟩) (hk : K (.bools (List.replicate n false))) : zeroCont T e n K := by
  unfold zeroCont; rw [h]; exact hk
theorem copyB {T : List (Nat × TyI)} {hp : List Seg} {t n m len len2 ca cb : Nat} {K : AV → List Seg → Prop} {X Y : List Bool} {o : Bool} {e : Nat} {j : TyI} (hT : elemOfT T t = some (e, j)) (hj : j.size = 1) (hX : segAt hp n = .seg true (.bools X)) (hY : segAt hp m = .seg o (.bools Y)) (h1 : min len2 len ≤ X.length) (h2 : min len2 len ≤ Y.length)
    (hk : K (.int .i64 (min len2 len : Nat)) (setSeg hp n (.seg true (.bools (Y.take (min len2 len) ++ X.drop (min len2 len)))))) : copyAV T hp t (.slice n 0 len ca) (.slice m 0 len2 cb) K := by
  unfold copyAV
  rw [hT]
  simp only [hX, hY, hj, mulSz]
  refine ⟨⟨by simpa [Cont.len] using h1, by simpa [Cont.len] using h2⟩, ?_⟩
  simp only [subC, overC, List.take_zero, List.nil_append, List.drop_zero, Nat.zero_add, List.length_take, Nat.min_eq_left h2]
  exact hk
theorem seq_in {P : Program} {C : Cfg} {J : Nat → Option LInv} {a b : Code} {st : St} {Q : Exit → St → Prop} (h : ∀ R : St → Prop, (∀ st', codeVC P C J (fun _ => none) b st' Q → R st') → codeVC P C J (fun _ => none) a st (fun e st' => match e with | .normal => R st' | e => Q e st')) : codeVC P C J (fun _ => none) (.seq a b) st Q := by
  have := h (fun st' => codeVC P C J (fun _ => none) b st' Q) fun _ h => h
  unfold codeVC
  exact this
theorem block_in {P : Program} {C : Cfg} {J : Nat → Option LInv} {id : Nat} {a : Code} {st : St} {Q : Exit → St → Prop} (h : ∀ R : St → Prop, (∀ st', Q .normal st' → R st') → codeVC P C J (fun _ => none) a st (fun e st' => match e with | .exit k => (match Nat.beq k id with | true => R st' | false => Q (.exit k) st') | e => Q e st')) : codeVC P C J (fun _ => none) (.block id a) st Q := by
  have := h (fun st' => Q .normal st') fun _ h => h
  unfold codeVC
  exact this
theorem force_in {S : St} {K : St → Prop} (h : ∀ R : St → Prop, (∀ st, K st → R st) → forceSt S R) : forceSt S K := h K fun _ h => h
end Go.Proofs.Ytkffpcifkeaabaa

set_option linter.unusedVariables false
set_option linter.unusedSimpArgs false
namespace Go.Proofs.Ytkffpcifkeaabaa
open Go Go.Fw
noncomputable def c49 : Code := (Try.f49.body).getD .skip
def inv49 (A B : List Bool) (n ca cb : Nat) : LInv := ⟨Nat, fun k => ⟨anyTo 40 [.slice 0 0 n ca, .slice 1 0 n cb, .any, .any, .any, .any, .slice 2 0 n n, .any, .any, .any, .any, .any, .any, .any, .any, .any, .any, .any, .any, .any, .any, .any, .int .i64 n, .int .i64 k], [.seg false (.bools A), .seg false (.bools B), .seg true (.bools (unl A B k ++ List.replicate (n - k) false))]⟩, fun k => k ≤ n, fun k => n - k⟩
set_option maxRecDepth 100000 in
theorem Xor_f (A B : List Bool) (n ca cb : Nat) (hA : n ≤ A.length) (hB : n ≤ B.length) (hN : n ≤ 32768) : Fits Try.prog 49 ⟨[.slice 0 0 n ca, .slice 1 0 n cb], [.seg false (.bools A), .seg false (.bools B)], [⟨Unit, fun _ => True, fun _ => .tup [.slice 2 0 n n, .int .i64 0], fun _ => [.dead, .dead, .seg true (.bools (unl A B n))]⟩]⟩ := by
  refine fits_of_body (C := cfgq 2) (c := c49) (ts := [4, 5]) wtok2 wmixed (fun | 5 => some (inv49 A B n ca cb) | _ => none) (fun _ => none)
    Try.func49 (by kernel_rfl) (by kernel_rfl) (by kernel_rfl) (by kernel_rfl) rfl ?_
  refine force_in fun R hR => ?_
  conv => whnf
  refine hR _ ?_
  clear hR R
  refine seq_in fun R hR => ?_
  conv => whnf
  refine hR _ ?_
  clear hR R
  refine seq_in fun R hR => ?_
  conv => whnf
  refine ⟨_, [0], isRow_q A n ca hN, ?_⟩
  conv => whnf
  refine ⟨?_, ?_, ?_⟩
  · conv => whnf
    repeat' (first | exact True.intro | rfl | refine And.intro ?_ ?_)
  · conv => whnf
    repeat' (first | exact True.intro | rfl | refine And.intro ?_ ?_)
  conv => whnf
  refine tst_in (fun h_ => False.elim (by simp at h_ <;> omega)) (fun _ => ?_)
  conv => whnf
  refine hR _ ?_
  clear hR R
  refine seq_in fun R hR => ?_
  conv => whnf
  refine ⟨⟨by omega, by omega, by show (1 : Int) * (n : Int) ≤ 281474976710656; omega, by omega⟩, ?_⟩
  conv => whnf
  refine hR _ ?_
  clear hR R
  refine seq_in fun R hR => ?_
  conv => whnf
  refine ⟨⟨[0, 1, 2], (0 : Nat), ?_, Nat.zero_le _⟩, ?_⟩
  · conv => whnf
    repeat' (first | exact True.intro | rfl | refine And.intro ?_ ?_)
  · intro (k : Nat) (hk : k ≤ n)
    have hlen := unl_len A B k
    conv => whnf
    refine tst_in (fun hlt => ?_) (fun hge => ?_)
    · skip
      have hlt : k < n := by simp at hlt; omega
      have hcl : (unl A B k ++ List.replicate (n - k) false).length = n := by simp [hlen]; omega
      conv => whnf
      refine ⟨by repeat' (first | omega | exact Int.natCast_nonneg _ | (simp only [i64max]; omega) | (simp only [u8max]; omega) | refine And.intro ?_ ?_), ?_⟩
      conv => whnf
      refine ⟨by repeat' (first | omega | exact Int.natCast_nonneg _ | (simp only [i64max]; omega) | (simp only [u8max]; omega) | refine And.intro ?_ ?_), ?_⟩
      conv => whnf
      refine ⟨by repeat' (first | omega | exact Int.natCast_nonneg _ | (simp only [i64max]; omega) | (simp only [u8max]; omega) | refine And.intro ?_ ?_), ?_⟩
      conv => whnf
      refine ⟨by repeat' (first | omega | exact Int.natCast_nonneg _ | (simp only [i64max]; omega) | (simp only [u8max]; omega) | refine And.intro ?_ ?_), ?_⟩
      conv => whnf
      refine ⟨by repeat' (first | omega | exact Int.natCast_nonneg _ | (simp only [i64max]; omega) | (simp only [u8max]; omega) | refine And.intro ?_ ?_), ?_⟩
      conv => whnf
      refine ⟨by repeat' (first | omega | exact Int.natCast_nonneg _ | (simp only [i64max]; omega) | (simp only [u8max]; omega) | refine And.intro ?_ ?_), ?_⟩
      conv => whnf
      refine ⟨by repeat' (first | omega | exact Int.natCast_nonneg _ | (simp only [i64max]; omega) | (simp only [u8max]; omega) | refine And.intro ?_ ?_), ?_⟩
      conv => whnf
      refine ⟨[0, 1, 2], k + 1, ?_, ?_, ?_⟩
      · conv => whnf
        repeat' (first | exact True.intro | rfl | refine And.intro ?_ ?_)
        all_goals first | rfl | skip
        show unl A B (k + 1) ++ List.replicate (n - (k + 1)) false = (unl A B k ++ List.replicate (n - k) false).set (0 + ((k : Int)).toNat) (A.getD (0 + ((k : Int)).toNat) false != B.getD (0 + ((k : Int)).toNat) false)
        rw [show 0 + ((k : Int)).toNat = k by omega, show n - k = (n - (k + 1)) + 1 by omega, List.replicate_succ, set_fillb _ _ _ _ _ hlen]
        rfl
      · show k + 1 ≤ n
        omega
      · show n - (k + 1) < n - k
        omega
    · skip
      have hge : k = n := by simp at hge; omega
      subst hge
      conv => whnf
      refine hR _ ?_
      conv => whnf
      refine .inl ⟨(), [0, 1, 2], ?_⟩
      conv => whnf
      repeat' (first | exact True.intro | rfl | refine And.intro ?_ ?_)
      all_goals (show _ = _; first | rfl | (simp [hlen]; done) | (rw [hlen]; rfl))
/-- The last one that is set. -/
def la (D : List Bool) (f : Nat) : Nat → Nat
  | 0 => f
  | k + 1 => if D.getD k false then k else la D f k
noncomputable def c30 : Code := (Try.f30.body).getD .skip
def inv30 (A B : List Bool) (n ca cb j : Nat) : LInv := ⟨Nat, fun k => ⟨anyTo 40 [.slice 0 0 n ca, .slice 1 0 n cb, .any, .any, .int .i64 j, .any, .any, .any, .int .i64 (la (unl A B n) j k : Nat), .any, .any, .any, .any, .any, .any, .any, .any, .any, .any, .any, .any, .any, .any, .any, .any, .slice 2 0 n n, .int .i64 n, .int .i64 k], [.seg false (.bools A), .seg false (.bools B), .seg true (.bools (unl A B n))]⟩, fun k => k ≤ n, fun k => n - k⟩
theorem la_le (D : List Bool) (f n : Nat) (hf : f < n) : ∀ k, k ≤ n → la D f k < n
  | 0, _ => hf
  | k + 1, hk => by
    simp only [la]
    split
    · omega
    · exact la_le D f n hf k (by omega)
set_option maxRecDepth 100000 in
theorem Burst_z (A B : List Bool) (n ca cb : Nat) (hA : n ≤ A.length) (hB : n ≤ B.length) (hN : n ≤ 32768) (h0 : fst1 (unl A B n) n 0 = -1) : Fits Try.prog 30 ⟨[.slice 0 0 n ca, .slice 1 0 n cb], [.seg false (.bools A), .seg false (.bools B)], [⟨Unit, fun _ => True, fun _ => .tup [.int .i64 0, .int .i64 0, .int .i64 6], fun _ => [.dead, .dead]⟩]⟩ := by
  have IX := Index_q (unl A B n) n n (by rw [unl_len]; exact Nat.le_refl _) (by omega)
  rw [h0] at IX
  refine fits_of_body (C := cfgq 2) (c := c30) (ts := [4, 5, 6]) wtok2 wmixed (fun _ => none) (fun _ => none)
    Try.func30 (by kernel_rfl) (by kernel_rfl) (by kernel_rfl) (by kernel_rfl) rfl ?_
  refine force_in fun R hR => ?_
  conv => whnf
  refine hR _ ?_
  clear hR R
  refine seq_in fun R hR => ?_
  conv => whnf
  refine hR _ ?_
  clear hR R
  refine seq_in fun R hR => ?_
  conv => whnf
  refine ⟨_, [0, 1], Xor_f A B n ca cb hA hB hN, ?_⟩
  conv => whnf
  refine ⟨?_, ?_, ?_⟩
  · conv => whnf
    repeat' (first | exact True.intro | rfl | refine And.intro ?_ ?_ | omega)
    all_goals (conv => whnf)
    all_goals (try (first | rfl | omega | (simp; done)))
  · conv => whnf
    repeat' (first | exact True.intro | rfl | refine And.intro ?_ ?_ | omega)
    all_goals (conv => whnf)
    all_goals (try (first | rfl | omega | (simp; done)))
  conv => whnf
  refine ⟨?_, True.intro⟩
  intro _ _
  conv => whnf
  refine hR _ ?_
  clear hR R
  refine seq_in fun R hR => ?_
  conv => whnf
  refine hR _ ?_
  clear hR R
  refine seq_in fun R hR => ?_
  conv => whnf
  refine ⟨_, [2], IX, ?_⟩
  conv => whnf
  refine ⟨?_, ?_, ?_⟩
  · conv => whnf
    repeat' (first | exact True.intro | rfl | refine And.intro ?_ ?_)
  · conv => whnf
    repeat' (first | exact True.intro | rfl | refine And.intro ?_ ?_)
  conv => whnf
  refine hR _ ?_
  clear hR R
  refine seq_in fun R hR => ?_
  conv => whnf
  refine .inl ⟨(), [0, 1], ?_⟩
  conv => whnf
  repeat' (first | exact True.intro | rfl | refine And.intro ?_ ?_)
set_option maxRecDepth 100000 in
theorem Burst_n (A B : List Bool) (n ca cb j : Nat) (hA : n ≤ A.length) (hB : n ≤ B.length) (hN : n ≤ 32768) (h0 : fst1 (unl A B n) n 0 = j) (hj : j < n) : Fits Try.prog 30 ⟨[.slice 0 0 n ca, .slice 1 0 n cb], [.seg false (.bools A), .seg false (.bools B)], [⟨Unit, fun _ => True, fun _ => .tup [.int .i64 j, .int .i64 ((la (unl A B n) j n : Nat) - (j : Int) + 1), .int .i64 0], fun _ => [.dead, .dead]⟩]⟩ := by
  have IX := Index_q (unl A B n) n n (by rw [unl_len]; exact Nat.le_refl _) (by omega)
  rw [h0] at IX
  have hul := unl_len A B n
  refine fits_of_body (C := cfgq 2) (c := c30) (ts := [4, 5, 6]) wtok2 wmixed (fun | 9 => some (inv30 A B n ca cb j) | _ => none) (fun _ => none)
    Try.func30 (by kernel_rfl) (by kernel_rfl) (by kernel_rfl) (by kernel_rfl) rfl ?_
  refine force_in fun R hR => ?_
  conv => whnf
  refine hR _ ?_
  clear hR R
  refine seq_in fun R hR => ?_
  conv => whnf
  refine hR _ ?_
  clear hR R
  refine seq_in fun R hR => ?_
  conv => whnf
  refine ⟨_, [0, 1], Xor_f A B n ca cb hA hB hN, ?_⟩
  conv => whnf
  refine ⟨?_, ?_, ?_⟩
  · conv => whnf
    repeat' (first | exact True.intro | rfl | refine And.intro ?_ ?_ | omega)
    all_goals (conv => whnf)
    all_goals (try (first | rfl | omega | (simp; done)))
  · conv => whnf
    repeat' (first | exact True.intro | rfl | refine And.intro ?_ ?_ | omega)
    all_goals (conv => whnf)
    all_goals (try (first | rfl | omega | (simp; done)))
  conv => whnf
  refine ⟨?_, True.intro⟩
  intro _ _
  conv => whnf
  refine hR _ ?_
  clear hR R
  refine seq_in fun R hR => ?_
  conv => whnf
  refine hR _ ?_
  clear hR R
  refine seq_in fun R hR => ?_
  conv => whnf
  refine ⟨_, [2], IX, ?_⟩
  conv => whnf
  refine ⟨?_, ?_, ?_⟩
  · conv => whnf
    repeat' (first | exact True.intro | rfl | refine And.intro ?_ ?_)
  · conv => whnf
    repeat' (first | exact True.intro | rfl | refine And.intro ?_ ?_)
  conv => whnf
  refine hR _ ?_
  clear hR R
  refine seq_in fun R hR => ?_
  conv => whnf
  refine hR _ ?_
  clear hR R
  refine seq_in fun R hR => ?_
  conv => whnf
  refine hR _ ?_
  clear hR R
  refine seq_in fun R hR => ?_
  conv => whnf
  refine ⟨⟨[0, 1, 2], (0 : Nat), ?_, Nat.zero_le _⟩, ?_⟩
  · conv => whnf
    repeat' (first | exact True.intro | rfl | refine And.intro ?_ ?_)
  · intro (k : Nat) (hk : k ≤ n)
    conv => whnf
    refine tst_in (fun hlt => ?_) (fun hge => ?_)
    · skip
      have hlt : k < n := by simp at hlt; omega
      have hx : 0 + ((k : Int)).toNat = k := by omega
      conv => whnf
      refine ⟨by repeat' (first | omega | exact Int.natCast_nonneg _ | (simp only [i64max]; omega) | (simp only [u8max]; omega) | refine And.intro ?_ ?_), ?_⟩
      conv => whnf
      refine ⟨by repeat' (first | omega | exact Int.natCast_nonneg _ | (simp only [i64max]; omega) | (simp only [u8max]; omega) | refine And.intro ?_ ?_), ?_⟩
      conv => whnf
      rw [hx]
      refine tst_in (fun hb => ?_) (fun hb => ?_)
      · conv => whnf
        refine ⟨by repeat' (first | omega | exact Int.natCast_nonneg _ | (simp only [i64max]; omega) | (simp only [u8max]; omega) | refine And.intro ?_ ?_), ?_⟩
        conv => whnf
        refine ⟨[0, 1, 2], k + 1, ?_, ?_, ?_⟩
        · conv => whnf
          repeat' (first | exact True.intro | rfl | refine And.intro ?_ ?_)
          all_goals (show ((la (unl A B n) j (k + 1) : Nat) : Int) = (k : Int); rw [la, hb]; rfl)
        · show k + 1 ≤ n
          omega
        · show n - (k + 1) < n - k
          omega
      · conv => whnf
        refine ⟨by repeat' (first | omega | exact Int.natCast_nonneg _ | (simp only [i64max]; omega) | (simp only [u8max]; omega) | refine And.intro ?_ ?_), ?_⟩
        conv => whnf
        refine ⟨[0, 1, 2], k + 1, ?_, ?_, ?_⟩
        · conv => whnf
          repeat' (first | exact True.intro | rfl | refine And.intro ?_ ?_)
          all_goals (show ((la (unl A B n) j (k + 1) : Nat) : Int) = _; rw [la, hb]; rfl)
        · show k + 1 ≤ n
          omega
        · show n - (k + 1) < n - k
          omega
    · skip
      have hge : k = n := by simp at hge; omega
      subst hge
      conv => whnf
      refine hR _ ?_
      have hl := la_le (unl A B k) j k hj k (Nat.le_refl _)
      conv => whnf
      refine ⟨by repeat' (first | omega | exact Int.natCast_nonneg _ | (simp only [i64max]; omega) | (simp only [u8max]; omega) | refine And.intro ?_ ?_), ?_⟩
      conv => whnf
      refine ⟨by repeat' (first | omega | exact Int.natCast_nonneg _ | (simp only [i64max]; omega) | (simp only [u8max]; omega) | refine And.intro ?_ ?_), ?_⟩
      conv => whnf
      refine .inl ⟨(), [0, 1], ?_⟩
      conv => whnf
      repeat' (first | exact True.intro | rfl | refine And.intro ?_ ?_)
theorem zeroB (n : Nat) : (Builtin.zeroCells (Value.bool false).cells n).toList = List.replicate n (.bool false) := by
  apply List.ext_getElem?
  intro i
  simp only [Builtin.zeroCells, Value.cells, List.size_toArray, List.length_cons, List.length_nil, Nat.zero_add, Nat.mul_one, Nat.mod_one, Array.toList_map, Array.toList_range, List.getElem?_map, List.getElem?_replicate]
  by_cases h : i < n <;> simp [h]
theorem dens_rep (ρ : Plc) : ∀ n, Dens ρ (Cont.bools (List.replicate n false)).avl (List.replicate n (.bool false))
  | 0 => by simp [Cont.avl, Dens]
  | n + 1 => by
    have := dens_rep ρ n
    simp only [Cont.avl, List.replicate_succ, List.map_cons, Dens] at this ⊢
    exact ⟨_, _, rfl, by simp [Den], this⟩
theorem zerosB (n : Nat) : (∀ ρ, Dens ρ (Cont.bools (List.replicate n false)).avl (Builtin.zeroCells (Value.bool false).cells n).toList) ∧ ∀ v ∈ (Builtin.zeroCells (Value.bool false).cells n).toList, v.oneCell' = true := by
  rw [zeroB]
  exact ⟨fun ρ => dens_rep ρ n, fun v hv => by rw [List.eq_of_mem_replicate hv]; rfl⟩
noncomputable def c59 : Code := (Try.f59.body).getD .skip
set_option maxRecDepth 100000 in
theorem Grow_f (m : Nat) (hm : m ≤ 32768) (h0 : 0 < m) : Fits Try.prog 59 ⟨[.nils, .int .i64 m], [], [⟨List Bool, fun _ => True, fun tl => .slice 0 0 0 (m + tl.length), fun tl => [.seg true (.bools (List.replicate m false ++ tl))]⟩]⟩ := by
  refine fits_of_body (C := cfgq 0) (c := c59) (ts := [4]) wtok2 wmixed (fun _ => none) (fun _ => none)
    Try.func59 (by kernel_rfl) (by kernel_rfl) (by kernel_rfl) (by kernel_rfl) rfl ?_
  refine force_in fun R hR => ?_
  conv => whnf
  refine hR _ ?_
  clear hR R
  refine seq_in fun R hR => ?_
  conv => whnf
  refine hR _ ?_
  clear hR R
  refine seq_in fun R hR => ?_
  conv => whnf
  refine hR _ ?_
  clear hR R
  refine seq_in fun R hR => ?_
  conv => whnf
  refine ⟨by repeat' (first | omega | exact Int.natCast_nonneg _ | (simp only [i64max]; omega) | (simp only [u8max]; omega) | refine And.intro ?_ ?_), ?_⟩
  conv => whnf
  refine ⟨by repeat' (first | omega | exact Int.natCast_nonneg _ | (simp only [i64max]; omega) | (simp only [u8max]; omega) | refine And.intro ?_ ?_), ?_⟩
  conv => whnf
  refine tst_in (fun _ => ?_) (fun h_ => False.elim (by simp at h_ <;> omega))
  conv => whnf
  refine ⟨rfl, ?_⟩
  rw [show ((m : Int) - (0 - 0)) = (m : Int) by omega]
  conv => whnf
  refine ⟨⟨by omega, by omega⟩, .bools (List.replicate m false), ?_, ?_⟩
  · rw [show ((m : Int)).toNat = m from Int.toNat_natCast m]
    exact zerosB m
  rw [show ((m : Int)).toNat = m from Int.toNat_natCast m]
  conv => whnf
  refine ⟨⟨by omega, by show (0 + m) * 1 ≤ 140737488355328; omega⟩, ?_⟩
  conv => whnf
  intro (tl : List Bool)
  conv => whnf
  refine ⟨⟨by omega, by show (0 : Int) ≤ ((0 + m + tl.length : Nat) : Int); omega⟩, ?_⟩
  conv => whnf
  refine hR _ ?_
  conv => whnf
  refine .inl ⟨tl, [0], ?_⟩
  conv => whnf
  repeat' (first | exact True.intro | rfl | refine And.intro ?_ ?_)
  all_goals (show _ = _; first | rfl | (simp; done))
end Go.Proofs.Ytkffpcifkeaabaa

set_option linter.unusedVariables false
set_option linter.unusedSimpArgs false
namespace Go.Proofs.Ytkffpcifkeaabaa
open Go Go.Fw
/-- What has been joined. -/
def jn (X Z : List Bool) : Nat → List Bool
  | 0 => []
  | 1 => X
  | _ => X ++ Z
def jl (n w : Nat) : Nat → Nat
  | 0 => 0
  | 1 => n
  | _ => n + w
theorem jn_len {X Z : List Bool} {n w : Nat} (hX : X.length = n) (hZ : Z.length = w) : ∀ k, (jn X Z k).length = jl n w k
  | 0 => rfl
  | 1 => hX
  | k + 2 => by simp [jn, jl, hX, hZ]
noncomputable def c55 : Code := (Try.f55.body).getD .skip
def inv55a (A Z : List Bool) (n w ca : Nat) : LInv := ⟨Nat, fun k => ⟨anyTo 36 [.slice 2 0 2 2, .any, .any, .int .i64 (jl n w k : Nat), .any, .any, .any, .any, .any, .slice 2 0 2 2, .int .i64 2, .int .i64 k], [.seg false (.bools A), .seg false (.bools Z), .seg false (.avs [.slice 0 0 n ca, .slice 1 0 w w])]⟩, fun k => k ≤ 2, fun k => 2 - k⟩
def inv55b (A Z : List Bool) (n w ca : Nat) : LInv := ⟨Nat × List Bool, fun p => ⟨anyTo 36 [.slice 2 0 2 2, .any, .any, .any, .any, .any, .slice 3 0 (jl n w p.1) (jl n w p.1 + p.2.length), .any, .any, .any, .any, .any, .any, .any, .any, .any, .any, .any, .any, .any, .any, .any, .any, .any, .any, .slice 2 0 2 2, .int .i64 2, .int .i64 p.1], [.seg false (.bools A), .seg false (.bools Z), .seg false (.avs [.slice 0 0 n ca, .slice 1 0 w w]), .seg true (.bools (jn (A.take n) (Z.take w) p.1 ++ p.2))]⟩, fun p => p.1 ≤ 2, fun p => 2 - p.1⟩
set_option maxHeartbeats 0 in
set_option maxRecDepth 100000 in
theorem Concat_f (A Z : List Bool) (n w ca : Nat) (hA : n ≤ A.length) (hZ : w ≤ Z.length) (hN : n + w ≤ 32768) (h0 : 0 < n + w) : Fits Try.prog 55 ⟨[.slice 2 0 2 2], [.seg false (.bools A), .seg false (.bools Z), .seg false (.avs [.slice 0 0 n ca, .slice 1 0 w w])], [⟨List Bool, fun _ => True, fun tl => .slice 3 0 (n + w) (n + w + tl.length), fun tl => [.dead, .dead, .dead, .seg true (.bools (A.take n ++ Z.take w ++ tl))]⟩]⟩ := by
  have hlA : (A.take n).length = n := by simp; omega
  have hlZ : (Z.take w).length = w := by simp; omega
  refine fits_of_body (C := cfgq 3) (c := c55) (ts := [2]) wtok2 wmixed (fun | 3 => some (inv55a A Z n w ca) | 11 => some (inv55b A Z n w ca) | _ => none) (fun _ => none)
    Try.func55 (by kernel_rfl) (by kernel_rfl) (by kernel_rfl) (by kernel_rfl) rfl ?_
  refine force_in fun R hR => ?_
  conv => whnf
  refine hR _ ?_
  clear hR R
  refine seq_in fun R hR => ?_
  conv => whnf
  refine hR _ ?_
  clear hR R
  refine seq_in fun R hR => ?_
  conv => whnf
  refine hR _ ?_
  clear hR R
  refine seq_in fun R hR => ?_
  conv => whnf
  refine ⟨⟨[0, 1, 2], (0 : Nat), ?_, Nat.zero_le _⟩, ?_⟩
  · conv => whnf
    repeat' (first | exact True.intro | rfl | refine And.intro ?_ ?_)
  · intro (k : Nat) (hk : k ≤ 2)
    match k, hk with
    | 0, _ =>
      conv => whnf
      refine ⟨⟨by decide, by decide⟩, ?_⟩
      rw [show ((jl n w 0 : Nat) : Int) = 0 from rfl]
      conv => whnf
      refine ⟨by repeat' (first | omega | exact Int.natCast_nonneg _ | (simp only [i64max]; omega) | (simp only [u8max]; omega) | refine And.intro ?_ ?_), ?_⟩
      conv => whnf
      refine ⟨by repeat' (first | omega | exact Int.natCast_nonneg _ | (simp only [i64max]; omega) | (simp only [u8max]; omega) | refine And.intro ?_ ?_), ?_⟩
      conv => whnf
      refine ⟨[0, 1, 2], (1 : Nat), ?_, (by decide : 1 ≤ 2), (by decide : 2 - 1 < 2 - 0)⟩
      conv => whnf
      repeat' (first | exact True.intro | rfl | refine And.intro ?_ ?_)
      all_goals (show _ = _; first | rfl | (simp [jl]; done))
    | 1, _ =>
      conv => whnf
      refine ⟨⟨by decide, by decide⟩, ?_⟩
      rw [show ((jl n w 1 : Nat) : Int) = n from rfl]
      conv => whnf
      refine ⟨by repeat' (first | omega | exact Int.natCast_nonneg _ | (simp only [i64max]; omega) | (simp only [u8max]; omega) | refine And.intro ?_ ?_), ?_⟩
      conv => whnf
      refine ⟨by repeat' (first | omega | exact Int.natCast_nonneg _ | (simp only [i64max]; omega) | (simp only [u8max]; omega) | refine And.intro ?_ ?_), ?_⟩
      conv => whnf
      refine ⟨[0, 1, 2], (2 : Nat), ?_, (by decide : 2 ≤ 2), (by decide : 2 - 2 < 2 - 1)⟩
      conv => whnf
      repeat' (first | exact True.intro | rfl | refine And.intro ?_ ?_)
      all_goals (show _ = _; first | rfl | (simp [jl]; done))
    | 2, _ =>
      conv => whnf
      refine hR _ ?_
      clear hR R
      refine seq_in fun R hR => ?_
      conv => whnf
      refine ⟨_, [], Grow_f (n + w) hN h0, ?_⟩
      conv => whnf
      refine ⟨?_, ?_, ?_⟩
      · conv => whnf
        repeat' (first | exact True.intro | rfl | refine And.intro ?_ ?_ | omega)
        all_goals (conv => whnf)
        all_goals (try (first | rfl | omega | (simp; done)))
      · conv => whnf
        repeat' (first | exact True.intro | rfl | refine And.intro ?_ ?_ | omega)
        all_goals (conv => whnf)
        all_goals (try (first | rfl | omega | (simp; done)))
      conv => whnf
      refine ⟨?_, True.intro⟩
      intro (tl : List Bool) _
      conv => whnf
      refine hR _ ?_
      clear hR R
      refine seq_in fun R hR => ?_
      conv => whnf
      refine ⟨⟨[0, 1, 2, 3], ((0, List.replicate (n + w) false ++ tl) : Nat × List Bool), ?_, Nat.zero_le _⟩, ?_⟩
      · conv => whnf
        repeat' (first | exact True.intro | rfl | refine And.intro ?_ ?_)
        all_goals (show _ = _; simp [jl, Nat.add_comm]; try omega)
      · rintro ⟨k, t⟩ hk
        have hk : k ≤ 2 := hk
        match k, hk with
        | 0, _ =>
          show forceSt ⟨anyTo 36 [.slice 2 0 2 2, .any, .any, .any, .any, .any, .slice 3 0 0 (0 + t.length), .any, .any, .any, .any, .any, .any, .any, .any, .any, .any, .any, .any, .any, .any, .any, .any, .any, .any, .slice 2 0 2 2, .int .i64 2, .int .i64 (0 : Nat)], [.seg false (.bools A), .seg false (.bools Z), .seg false (.avs [.slice 0 0 n ca, .slice 1 0 w w]), .seg true (.bools (([] : List Bool) ++ t))]⟩ _
          conv => whnf
          refine ⟨⟨by decide, by decide⟩, ?_⟩
          conv => whnf
          refine ⟨by show 0 + n ≤ A.length; omega, ?_⟩
          conv => whnf
          refine ⟨by show 0 + (0 + t.length) ≤ (([] : List Bool) ++ t).length; rw [List.length_append]; first | (simp; done) | (simp; omega), ?_⟩
          conv => whnf
          refine ⟨⟨by omega, by show (0 + n) * 1 ≤ 140737488355328; omega⟩, ?_⟩
          conv => whnf
          intro (t2 : List Bool)
          conv => whnf
          refine ⟨by repeat' (first | omega | exact Int.natCast_nonneg _ | (simp only [i64max]; omega) | (simp only [u8max]; omega) | refine And.intro ?_ ?_), ?_⟩
          conv => whnf
          refine ⟨[0, 1, 2, 4], ((0 + 1, t2) : Nat × List Bool), ?_, (by decide : 0 + 1 ≤ 2), (by decide : 2 - (0 + 1) < 2 - 0)⟩
          conv => whnf
          repeat' (first | exact True.intro | rfl | refine And.intro ?_ ?_)
          all_goals (show _ = _; first | rfl | (simp [jl, jn, mulSz]; done) | (show A.take n ++ Z.take w ++ t2 = List.take n (A.take n ++ t) ++ Z.take w ++ t2; rw [List.take_left' hlA]) | (simp [jl, jn, mulSz]; omega) | skip)
        | 1, _ =>
          show forceSt ⟨anyTo 36 [.slice 2 0 2 2, .any, .any, .any, .any, .any, .slice 3 0 n (n + t.length), .any, .any, .any, .any, .any, .any, .any, .any, .any, .any, .any, .any, .any, .any, .any, .any, .any, .any, .slice 2 0 2 2, .int .i64 2, .int .i64 (1 : Nat)], [.seg false (.bools A), .seg false (.bools Z), .seg false (.avs [.slice 0 0 n ca, .slice 1 0 w w]), .seg true (.bools (A.take n ++ t))]⟩ _
          conv => whnf
          refine ⟨⟨by decide, by decide⟩, ?_⟩
          conv => whnf
          refine ⟨by show 0 + w ≤ Z.length; omega, ?_⟩
          conv => whnf
          refine ⟨by show 0 + (n + t.length) ≤ (A.take n ++ t).length; rw [List.length_append]; first | (simp; done) | (simp; omega), ?_⟩
          conv => whnf
          refine ⟨⟨by omega, by show (n + w) * 1 ≤ 140737488355328; omega⟩, ?_⟩
          conv => whnf
          intro (t2 : List Bool)
          conv => whnf
          refine ⟨by repeat' (first | omega | exact Int.natCast_nonneg _ | (simp only [i64max]; omega) | (simp only [u8max]; omega) | refine And.intro ?_ ?_), ?_⟩
          conv => whnf
          refine ⟨[0, 1, 2, 4], ((1 + 1, t2) : Nat × List Bool), ?_, (by decide : 1 + 1 ≤ 2), (by decide : 2 - (1 + 1) < 2 - 1)⟩
          conv => whnf
          repeat' (first | exact True.intro | rfl | refine And.intro ?_ ?_)
          all_goals (show _ = _; first | rfl | (simp [jl, jn, mulSz]; done) | (show A.take n ++ Z.take w ++ t2 = List.take n (A.take n ++ t) ++ Z.take w ++ t2; rw [List.take_left' hlA]) | (simp [jl, jn, mulSz]; omega) | skip)
        | 2, _ =>
          conv => whnf
          refine hR _ ?_
          conv => whnf
          refine .inl ⟨t, [0, 1, 2, 3], ?_⟩
          conv => whnf
          repeat' (first | exact True.intro | rfl | refine And.intro ?_ ?_)
end Go.Proofs.Ytkffpcifkeaabaa

set_option linter.unusedVariables false
set_option linter.unusedSimpArgs false
namespace Go.Proofs.Ytkffpcifkeaabaa
open Go Go.Fw
theorem top_bit {W s : Nat} (hW : 0 < W) (hs : s < 2 ^ W) : s.testBit (W - 1) = decide (2 ^ (W - 1) ≤ s) := by
  obtain ⟨w, rfl⟩ : ∃ w, W = w + 1 := ⟨W - 1, by omega⟩
  rw [Nat.add_sub_cancel, Nat.testBit_eq_decide_div_mod_eq]
  apply decide_eq_decide.mpr
  have h2 : 2 ^ (w + 1) = 2 * 2 ^ w := by rw [Nat.pow_succ]; omega
  have hpos : 0 < 2 ^ w := Nat.two_pow_pos w
  have h3 : s / 2 ^ w < 2 := by rw [Nat.div_lt_iff_lt_mul hpos]; omega
  rw [Nat.mod_eq_of_lt h3]
  constructor
  · intro h
    have := Nat.div_mul_le_self s (2 ^ w)
    rw [h] at this; omega
  · intro h
    have : 1 ≤ s / 2 ^ w := by rw [Nat.le_div_iff_mul_le hpos]; omega
    omega
theorem dbl_mod {W s : Nat} (hW : 0 < W) (hs : s < 2 ^ W) : (2 * s) % 2 ^ W = if s.testBit (W - 1) then 2 * s - 2 ^ W else 2 * s := by
  have ht := top_bit hW hs
  have h2 : 2 ^ W = 2 * 2 ^ (W - 1) := by
    obtain ⟨w, rfl⟩ : ∃ w, W = w + 1 := ⟨W - 1, by omega⟩
    rw [Nat.add_sub_cancel, Nat.pow_succ]; omega
  rw [ht]
  by_cases h : 2 ^ (W - 1) ≤ s
  · simp only [h, decide_true, if_true]
    rw [Nat.mod_eq_sub_mod (by omega), Nat.mod_eq_of_lt (by omega)]
  · simp only [h, decide_false, Bool.false_eq_true, if_false]
    exact Nat.mod_eq_of_lt (by omega)
theorem dbl_even (W s : Nat) (hW : 0 < W) : ((2 * s) % 2 ^ W) % 2 = 0 := by
  obtain ⟨w, rfl⟩ : ∃ w, W = w + 1 := ⟨W - 1, by omega⟩
  have : (2 * s) % 2 ^ (w + 1) % 2 = (2 * s) % 2 := Nat.mod_mod_of_dvd _ ⟨2 ^ w, by rw [Nat.pow_succ]; omega⟩
  omega
theorem xor_odd {a p : Nat} (ha : a % 2 = 0) (hp : p % 2 = 1) : (a ^^^ p) % 2 = 1 := by
  have := Nat.testBit_xor a p 0
  rw [Nat.testBit_zero, Nat.testBit_zero, Nat.testBit_zero] at this
  rw [ha, hp] at this
  simpa using this
/-- An even state came by a step without the polynomial. -/
theorem nx_even {W p s : Nat} {b : Bool} (hW : 0 < W) (hp : p % 2 = 1) (h : nx W p s b % 2 = 0) : s.testBit (W - 1) = b ∧ nx W p s b = (2 * s) % 2 ^ W := by
  unfold nx at h ⊢
  split at h
  · have := xor_odd (dbl_even W s hW) hp
    omega
  · rename_i hne
    rw [if_neg hne]
    refine ⟨by simpa using hne, rfl⟩
def btc (W : Nat) : Nat → Nat → List Bool
  | _, 0 => []
  | s, k + 1 => s.testBit (W - 1) :: btc W ((2 * s) % 2 ^ W) k
theorem crc_back (W p : Nat) (hW : 0 < W) (hp : p % 2 = 1) (hpl : p < 2 ^ W) : ∀ (d : List Bool) (s : Nat), s < 2 ^ W → d.length ≤ W → crc W p s d = 0 → 2 ^ (W - d.length) ∣ s ∧ d = btc W s d.length
  | [], s, _, _, h => by
    have h : s = 0 := h
    subst h
    exact ⟨Nat.dvd_zero _, rfl⟩
  | b :: d, s, hs, hl, h => by
    simp only [List.length_cons] at hl
    obtain ⟨h1, h2⟩ := crc_back W p hW hp hpl d (nx W p s b) (nx_lt b hpl) (by omega) h
    have he : nx W p s b % 2 = 0 := by
      have : 2 ∣ 2 ^ (W - d.length) := ⟨2 ^ (W - d.length - 1), by rw [Nat.mul_comm, ← Nat.pow_succ]; congr 1; omega⟩
      exact Nat.mod_eq_zero_of_dvd (Nat.dvd_trans this h1)
    obtain ⟨h3, h4⟩ := nx_even hW hp he
    rw [h4] at h1 h2
    have h5 : 2 ^ (W - d.length) = 2 * 2 ^ (W - (d.length + 1)) := by
      rw [Nat.mul_comm, ← Nat.pow_succ]; congr 1; omega
    have h6 : 2 ^ (W - d.length) ∣ 2 * s := by
      rw [dbl_mod hW hs] at h1
      split at h1
      · rename_i ht
        rw [top_bit hW hs] at ht
        have hge : 2 ^ (W - 1) ≤ s := by simpa using ht
        have hw : 2 ^ W = 2 * 2 ^ (W - 1) := by
          rw [Nat.mul_comm, ← Nat.pow_succ]; congr 1; omega
        have e : 2 * s = (2 * s - 2 ^ W) + 2 ^ W := by omega
        rw [e]
        exact Nat.dvd_add h1 (Nat.pow_dvd_pow 2 (Nat.sub_le _ _))
      · exact h1
    refine ⟨?_, ?_⟩
    · simp only [List.length_cons]
      rw [h5] at h6
      exact Nat.dvd_of_mul_dvd_mul_left (by decide) h6
    · simp only [List.length_cons, btc]
      rw [h3, ← h2]
theorem btc_zero (W : Nat) : ∀ k, btc W 0 k = List.replicate k false
  | 0 => rfl
  | k + 1 => by simp only [btc, Nat.zero_testBit, Nat.mul_zero, Nat.zero_mod, btc_zero W k, List.replicate_succ]
/-- A burst no wider than the sum leaves something. -/
theorem burst_zero (W p : Nat) (hW : 0 < W) (hp : p % 2 = 1) (hpl : p < 2 ^ W) (d : List Bool) (hl : d.length ≤ W) (h : crc W p 0 d = 0) : d = List.replicate d.length false := by
  rw [← btc_zero W]
  exact (crc_back W p hW hp hpl d 0 (Nat.two_pow_pos W) hl h).2
def bt (W s : Nat) : Nat → List Bool
  | 0 => []
  | k + 1 => bt W s k ++ [s.testBit (W - 1 - k)]
theorem bt_len (W s : Nat) : ∀ k, (bt W s k).length = k
  | 0 => rfl
  | k + 1 => by simp [bt, bt_len W s k]
theorem crc_bt (W p s : Nat) (hW : 0 < W) (hs : s < 2 ^ W) : ∀ k, k ≤ W → crc W p s (bt W s k) = (2 ^ k * s) % 2 ^ W
  | 0, _ => by simp [bt, crc, Nat.mod_eq_of_lt hs]
  | k + 1, hk => by
    rw [bt, crc_snoc, crc_bt W p s hW hs k (by omega)]
    have ht : ((2 ^ k * s) % 2 ^ W).testBit (W - 1) = s.testBit (W - 1 - k) := by
      rw [Nat.testBit_mod_two_pow, Nat.mul_comm, ← Nat.shiftLeft_eq, Nat.testBit_shiftLeft]
      simp [show W - 1 < W by omega, show k ≤ W - 1 by omega]
    unfold nx
    rw [ht]
    simp only [bne_self_eq_false, Bool.false_eq_true, if_false]
    rw [Nat.mul_mod_mod, ← Nat.mul_assoc]
    congr 2
    rw [Nat.pow_succ, Nat.mul_comm]
theorem crc_bt_all (W p s : Nat) (hW : 0 < W) (hs : s < 2 ^ W) : crc W p s (bt W s W) = 0 := by
  rw [crc_bt W p s hW hs W (Nat.le_refl _), Nat.mul_mod_right]
theorem zero_iff (W p s : Nat) (hW : 0 < W) (hp : p % 2 = 1) (hpl : p < 2 ^ W) (hs : s < 2 ^ W) (b : List Bool) (hl : b.length = W) : crc W p s b = 0 ↔ b = bt W s W := by
  constructor
  · intro h
    have h1 := (crc_back W p hW hp hpl b s hs (by omega) h).2
    have h2 := (crc_back W p hW hp hpl (bt W s W) s hs (by rw [bt_len]; exact Nat.le_refl _) (crc_bt_all W p s hW hs)).2
    rw [bt_len] at h2
    rw [hl] at h1
    rw [h1, h2]
  · rintro rfl
    exact crc_bt_all W p s hW hs
/-- A row fits if and only if nothing is left of it. -/
theorem fits_iff (W p : Nat) (hW : 0 < W) (hp : p % 2 = 1) (hpl : p < 2 ^ W) (l : List Bool) (hl : W ≤ l.length) :
    l.take (l.length - W) ++ bt W (crc W p 0 (l.take (l.length - W))) W = l ↔ crc W p 0 l = 0 := by
  have e : l.take (l.length - W) ++ l.drop (l.length - W) = l := List.take_append_drop _ _
  have h0 := zero_iff W p (crc W p 0 (l.take (l.length - W))) hW hp hpl (crc_lt hpl _ _ (Nat.two_pow_pos W)) (l.drop (l.length - W)) (by simp; omega)
  rw [← crc_append, e] at h0
  rw [h0]
  constructor
  · intro h
    exact List.append_cancel_left (e.trans h.symm)
  · intro h
    rw [← h, e]
theorem nx_inj0 {W p s : Nat} (hW : 0 < W) (hp : p % 2 = 1) (hs : s < 2 ^ W) (h : nx W p s false = 0) : s = 0 := by
  obtain ⟨h1, h2⟩ := nx_even hW hp (by rw [h])
  rw [h2, dbl_mod hW hs, h1] at h
  simp at h; omega
theorem crc_inj0 (W p : Nat) (hW : 0 < W) (hp : p % 2 = 1) (hpl : p < 2 ^ W) : ∀ (k s : Nat), s < 2 ^ W → crc W p s (List.replicate k false) = 0 → s = 0
  | 0, s, _, h => h
  | k + 1, s, hs, h => by
    rw [List.replicate_succ] at h
    exact nx_inj0 hW hp hs (crc_inj0 W p hW hp hpl k _ (nx_lt false hpl) h)
/-- What is turned within as many places as the sum is wide is seen. -/
theorem burst_seen (W p : Nat) (hW : 0 < W) (hp : p % 2 = 1) (hpl : p < 2 ^ W) (i r : Nat) (w : List Bool) (hl : w.length ≤ W) (h : crc W p 0 (zer i ++ w ++ zer r) = 0) : w = List.replicate w.length false := by
  rw [crc_append, crc_append] at h
  unfold zer at h
  rw [crc_zeros] at h
  exact burst_zero W p hW hp hpl w hl (crc_inj0 W p hW hp hpl r _ (crc_lt hpl _ _ (Nat.two_pow_pos W)) h)

theorem sh_eq (C j m : Nat) (b : Int) (hb : b.toNat = j) (hj : j ≤ m) : (C : Int) / 2 ^ (min b.toNat m) = ((C >>> j : Nat) : Int) := by
  rw [hb, Nat.min_eq_left hj, Nat.shiftRight_eq_div_pow, Int.natCast_ediv, Int.natCast_pow]
  rfl
theorem bit_eq (C j : Nat) : (!decide (((((C >>> j : Nat) : Int).toNat &&& (1 : Int).toNat : Nat) : Int) = 0)) = C.testBit j := by
  show (!decide (((C >>> j &&& 1 : Nat) : Int) = 0)) = C.testBit j
  unfold Nat.testBit
  rw [Nat.and_comm]
  apply Bool.eq_iff_iff.mpr
  simp only [Bool.not_eq_true', decide_eq_false_iff_not, bne_iff_ne, ne_eq]
  omega
theorem set_mid (l r : List Bool) (n : Nat) (x y : Bool) (h : l.length = n) : (l ++ y :: r).set n x = l ++ x :: r := by
  subst h; simp
def rowX (W C : Nat) (X tl : List Bool) (k : Nat) : List Bool := X ++ bt W C k ++ List.replicate (W - k) false ++ tl
theorem rowX_len (W C : Nat) (X tl : List Bool) (k : Nat) (h : k ≤ W) : (rowX W C X tl k).length = X.length + W + tl.length := by
  simp [rowX, bt_len]; omega
theorem rowX_set (W C : Nat) (X tl : List Bool) (k : Nat) (h : k < W) : (rowX W C X tl k).set (X.length + k) (C.testBit (W - 1 - k)) = rowX W C X tl (k + 1) := by
  unfold rowX
  rw [show W - k = (W - (k + 1)) + 1 by omega, List.replicate_succ]
  have e : X ++ bt W C k ++ (false :: List.replicate (W - (k + 1)) false) ++ tl = (X ++ bt W C k) ++ false :: (List.replicate (W - (k + 1)) false ++ tl) := by simp
  rw [e, set_mid _ _ _ _ _ (by simp [bt_len]), bt]
  simp
end Go.Proofs.Ytkffpcifkeaabaa

set_option linter.unusedVariables false
set_option linter.unusedSimpArgs false
namespace Go.Proofs.Ytkffpcifkeaabaa
open Go Go.Fw

noncomputable def c37 : Code := (Try.f37.body).getD .skip
def inv37 (A : List Bool) (n ca C : Nat) (tl : List Bool) : LInv := ⟨Nat, fun k => ⟨anyTo 47 [.any, .slice 0 0 n ca, .any, .any, .any, .any, .any, .int .i64 32, .slice 1 0 (n + 32) (n + 32 + tl.length), .int .u32 C, .any, .any, .any, .any, .any, .any, .any, .any, .any, .any, .any, .any, .any, .any, .any, .any, .any, .int .i64 32, .int .i64 k], [.seg false (.bools A), .seg true (.bools (rowX 32 C (A.take n) tl k))]⟩, fun k => k ≤ 32, fun k => 32 - k⟩
def inv37d (A : List Bool) (n ca C : Nat) : St → LInv := fun st => match slot st.sl 8 with
  | .slice _ _ _ cap => ⟨Nat × List Bool, fun p => (inv37 A n ca C p.2).st p.1, fun p => p.1 ≤ 32 ∧ cap = n + 32 + p.2.length, fun p => 32 - p.1⟩
  | _ => ⟨Unit, fun _ => ⟨[], []⟩, fun _ => True, fun _ => 0⟩
set_option maxHeartbeats 0 in
set_option maxRecDepth 100000 in
theorem row32_f (A : List Bool) (n ca : Nat) (hA : n ≤ A.length) (hN : n + 32 ≤ 32768) : Fits Try.prog 37 ⟨[.int .u32 (79764919 : Nat), .slice 0 0 n ca], [.seg false (.bools A)], [⟨List Bool, fun _ => True, fun tl => .tup [.slice 1 0 (n + 32) (n + 32 + tl.length), .int .i64 0], fun tl => [.dead, .seg true (.bools (A.take n ++ bt 32 (crc 32 79764919 0 (part A 0 n)) 32 ++ tl))]⟩]⟩ := by
  have hlA : (A.take n).length = n := by simp; omega
  have ON := on32_f A 0 n ca 0 79764919 (by omega) (by omega) (by decide) (by decide)
  have hC2 : crc 32 79764919 0 (part A 0 n) < 4294967296 := crc_lt (W := 32) (p := 79764919) (by decide) (part A 0 n) 0 (by decide)
  generalize crc 32 79764919 0 (part A 0 n) = C at *
  have CC := Concat_f A (List.replicate 32 false) n 32 ca hA (by rw [List.length_replicate]; exact Nat.le_refl _) (by omega) (by omega)
  rw [show (List.replicate 32 false).take 32 = List.replicate 32 false by simp] at CC
  refine fits_of_body (C := cfgq 1) (c := c37) (ts := [4, 5]) wtok2 wmixed (fun | 8 => some ⟨Nat × List Bool, fun p => (inv37 A n ca C p.2).st p.1, fun p => p.1 ≤ 32, fun p => 32 - p.1⟩ | _ => none) (fun _ => none)
    Try.func37 (by kernel_rfl) (by kernel_rfl) (by kernel_rfl) (by kernel_rfl) rfl ?_
  refine force_in fun R hR => ?_
  conv => whnf
  refine hR _ ?_
  clear hR R
  refine seq_in fun R hR => ?_
  conv => whnf
  refine hR _ ?_
  clear hR R
  refine seq_in fun R hR => ?_
  conv => whnf
  refine hR _ ?_
  clear hR R
  refine seq_in fun R hR => ?_
  conv => whnf
  refine ⟨_, [], wide32_f, ?_⟩
  conv => whnf
  refine ⟨?_, ?_, ?_⟩
  · conv => whnf
    repeat' (first | exact True.intro | rfl | refine And.intro ?_ ?_ | omega)
    all_goals (conv => whnf)
    all_goals (try (first | rfl | omega | (simp; done)))
  · conv => whnf
    repeat' (first | exact True.intro | rfl | refine And.intro ?_ ?_ | omega)
    all_goals (conv => whnf)
    all_goals (try (first | rfl | omega | (simp; done)))
  conv => whnf
  refine ⟨?_, True.intro⟩
  intro _ _
  conv => whnf
  refine hR _ ?_
  clear hR R
  refine seq_in fun R hR => ?_
  conv => whnf
  refine ⟨by repeat' (first | omega | exact Int.natCast_nonneg _ | (simp only [i64max]; omega) | (simp only [u8max]; omega) | refine And.intro ?_ ?_), ?_⟩
  conv => whnf
  refine tst_in (fun h_ => False.elim (by simp at h_ <;> omega)) (fun _ => ?_)
  conv => whnf
  refine hR _ ?_
  clear hR R
  refine seq_in fun R hR => ?_
  conv => whnf
  refine ⟨⟨by decide, by decide, by decide, by decide⟩, ?_⟩
  conv => whnf
  refine ⟨_, [0, 1, 2], CC, ?_⟩
  conv => whnf
  refine ⟨?_, ?_, ?_⟩
  · conv => whnf
    repeat' (first | exact True.intro | rfl | refine And.intro ?_ ?_ | omega)
    all_goals (conv => whnf)
    all_goals (try (first | rfl | omega | (simp; done)))
  · conv => whnf
    repeat' (first | exact True.intro | rfl | refine And.intro ?_ ?_ | omega)
    all_goals (conv => whnf)
    all_goals (try (first | rfl | omega | (simp; done)))
  conv => whnf
  refine ⟨?_, True.intro⟩
  intro (tl : List Bool) _
  conv => whnf
  refine hR _ ?_
  clear hR R
  refine seq_in fun R hR => ?_
  conv => whnf
  refine ⟨_, [0], ON, ?_⟩
  conv => whnf
  refine ⟨?_, ?_, ?_⟩
  · conv => whnf
    repeat' (first | exact True.intro | rfl | refine And.intro ?_ ?_ | omega)
    all_goals (conv => whnf)
    all_goals (try (first | rfl | omega | (simp; done)))
  · conv => whnf
    repeat' (first | exact True.intro | rfl | refine And.intro ?_ ?_ | omega)
    all_goals (conv => whnf)
    all_goals (try (first | rfl | omega | (simp; done)))
  conv => whnf
  refine ⟨?_, True.intro⟩
  intro _ _
  conv => whnf
  refine hR _ ?_
  clear hR R
  refine seq_in fun R hR => ?_
  conv => whnf
  refine ⟨⟨[0, 3], ((0, tl) : Nat × List Bool), ?_, Nat.zero_le _⟩, ?_⟩
  · conv => whnf
    repeat' (first | exact True.intro | rfl | refine And.intro ?_ ?_)
    all_goals (show rowX 32 C (A.take n) tl 0 = _; simp [rowX, bt])
  · rintro ⟨k, tl⟩ hk
    have hk : k ≤ 32 := hk
    have hrl := rowX_len 32 C (A.take n) tl k hk
    show forceSt ((inv37 A n ca C tl).st k) _
    conv => whnf
    refine tst_in (fun hlt => ?_) (fun hge => ?_)
    · skip
      have hlt : k < 32 := by simp at hlt; omega
      have hs := rowX_set 32 C (A.take n) tl k hlt
      rw [hlA] at hs hrl
      conv => whnf
      refine ⟨by repeat' (first | omega | exact Int.natCast_nonneg _ | (simp only [i64max]; omega) | (simp only [u8max]; omega) | refine And.intro ?_ ?_), ?_⟩
      conv => whnf
      refine ⟨by repeat' (first | omega | exact Int.natCast_nonneg _ | (simp only [i64max]; omega) | (simp only [u8max]; omega) | refine And.intro ?_ ?_), ?_⟩
      conv => whnf
      refine ⟨by repeat' (first | omega | exact Int.natCast_nonneg _ | (simp only [i64max]; omega) | (simp only [u8max]; omega) | refine And.intro ?_ ?_), ?_⟩
      conv => whnf
      refine ⟨⟨by omega, by omega⟩, ?_⟩
      rw [sh_eq C (32 - 1 - k) (IntKind.bits .u32) ((32 : Int) - 1 - (k : Int)) (by omega) (by show 32 - 1 - k ≤ 32; omega)]
      have hle : C >>> (32 - 1 - k) ≤ C := by rw [Nat.shiftRight_eq_div_pow]; exact Nat.div_le_self _ _
      conv => whnf
      refine ⟨⟨Int.natCast_nonneg _, by decide, by show ((C >>> (32 - 1 - k) : Nat) : Int) ≤ 4294967295; omega, by decide⟩, ?_⟩
      conv => whnf
      refine ⟨⟨by omega, by omega⟩, ?_⟩
      rw [bit_eq]
      conv => whnf
      refine ⟨by show 0 + ((n : Int) + (k : Int)).toNat < (rowX 32 C (A.take n) tl k).length; omega, ?_⟩
      rw [show 0 + ((n : Int) + (k : Int)).toNat = n + k by omega, hs]
      conv => whnf
      refine ⟨by repeat' (first | omega | exact Int.natCast_nonneg _ | (simp only [i64max]; omega) | (simp only [u8max]; omega) | refine And.intro ?_ ?_), ?_⟩
      conv => whnf
      refine ⟨[0, 1], ((k + 1, tl) : Nat × List Bool), ?_, hlt, (by show 32 - (k + 1) < 32 - k; omega)⟩
      conv => whnf
      repeat' (first | exact True.intro | rfl | refine And.intro ?_ ?_)
    · skip
      have hge : k = 32 := by simp at hge; omega
      subst hge
      conv => whnf
      refine hR _ ?_
      conv => whnf
      refine .inl ⟨tl, [0, 1], ?_⟩
      conv => whnf
      repeat' (first | exact True.intro | rfl | refine And.intro ?_ ?_)
      all_goals (show _ = _; first | rfl | (simp [rowX]; done))
noncomputable def c14 : Code := (Try.f14.body).getD .skip
theorem Row32_f (A : List Bool) (n ca : Nat) (hA : n ≤ A.length) (hN : n + 32 ≤ 32768) : Fits Try.prog 14 ⟨[.slice 0 0 n ca], [.seg false (.bools A)], [⟨List Bool, fun _ => True, fun tl => .tup [.slice 1 0 (n + 32) (n + 32 + tl.length), .int .i64 0], fun tl => [.dead, .seg true (.bools (A.take n ++ bt 32 (crc 32 79764919 0 (part A 0 n)) 32 ++ tl))]⟩]⟩ := by
  refine fits_of_body (C := cfgq 1) (c := c14) (ts := [2, 3]) wtok2 wmixed (fun _ => none) (fun _ => none)
    Try.func14 (by kernel_rfl) (by kernel_rfl) (by kernel_rfl) (by kernel_rfl) rfl ?_
  refine force_in fun R hR => ?_
  conv => whnf
  refine hR _ ?_
  clear hR R
  refine seq_in fun R hR => ?_
  conv => whnf
  refine hR _ ?_
  conv => whnf
  refine ⟨_, [0], row32_f A n ca hA hN, ?_⟩
  conv => whnf
  refine ⟨?_, ?_, ?_⟩
  · conv => whnf
    repeat' (first | exact True.intro | rfl | refine And.intro ?_ ?_ | omega)
    all_goals (conv => whnf)
    all_goals (try (first | rfl | omega | (simp; done)))
  · conv => whnf
    repeat' (first | exact True.intro | rfl | refine And.intro ?_ ?_ | omega)
    all_goals (conv => whnf)
    all_goals (try (first | rfl | omega | (simp; done)))
  conv => whnf
  refine ⟨?_, True.intro⟩
  intro (tl : List Bool) _
  conv => whnf
  refine .inl ⟨tl, [0, 1], ?_⟩
  conv => whnf
  repeat' (first | exact True.intro | rfl | refine And.intro ?_ ?_)
noncomputable def c39 : Code := (Try.f39.body).getD .skip
theorem fitsV32 (A tl : List Bool) (n : Nat) (hA : n ≤ A.length) (h32 : 32 ≤ n) : eqB (A.take (n - 32) ++ bt 32 (crc 32 79764919 0 (part A 0 (n - 32))) 32 ++ tl) A n = decide (crc 32 79764919 0 (part A 0 n) = 0) := by
  have hl : (A.take n).length = n := by simp; omega
  have h := fits_iff 32 79764919 (by decide) (by decide) (by decide) (A.take n) (by omega)
  rw [hl, List.take_take, Nat.min_eq_left (Nat.sub_le _ _)] at h
  have e1 : part A 0 n = A.take n := rfl
  have e2 : part A 0 (n - 32) = A.take (n - 32) := rfl
  rw [e1, e2]
  apply Bool.eq_iff_iff.mpr
  rw [eqB_iff, decide_eq_true_eq, ← h]
  have hXl : (A.take (n - 32) ++ bt 32 (crc 32 79764919 0 (A.take (n - 32))) 32).length = n := by simp [bt_len]; omega
  generalize A.take (n - 32) ++ bt 32 (crc 32 79764919 0 (A.take (n - 32))) 32 = X at *
  constructor
  · intro hh
    apply List.ext_getElem (by omega)
    intro i h1 h2
    have := hh i (by omega)
    rw [List.getD_eq_getElem?_getD, List.getD_eq_getElem?_getD, List.getElem?_append_left h1, List.getElem?_eq_getElem h1, List.getElem?_eq_getElem (by omega : i < A.length)] at this
    simpa using this
  · intro hh i hi
    rw [hh, List.getD_eq_getElem?_getD, List.getD_eq_getElem?_getD, List.getElem?_append_left (by omega), List.getElem?_take, if_pos hi]
set_option maxHeartbeats 0 in
set_option maxRecDepth 100000 in
theorem fits32_f (A : List Bool) (n ca : Nat) (hA : n ≤ A.length) (hc : n ≤ ca) (h32 : 32 ≤ n) (hN : n ≤ 32768) : Fits Try.prog 39 ⟨[.int .u32 (79764919 : Nat), .slice 0 0 n ca], [.seg false (.bools A)], [numOut [.dead] (.bool (decide (crc 32 79764919 0 (part A 0 n) = 0)))]⟩ := by
  have RO := row32_f A (n - 32) ca (by omega) (by omega)
  have EQ : ∀ (tl : List Bool), QFits Try.prog 56 ⟨[.slice 0 0 n (n + tl.length), .slice 1 0 n ca], [.seg false (.bools (A.take (n - 32) ++ bt 32 (crc 32 79764919 0 (part A 0 (n - 32))) 32 ++ tl)), .seg false (.bools A)], .bool (decide (crc 32 79764919 0 (part A 0 n) = 0))⟩ := fun tl => by
    have := Equal_q (A.take (n - 32) ++ bt 32 (crc 32 79764919 0 (part A 0 (n - 32))) 32 ++ tl) A n (n + tl.length) ca (by simp [bt_len]; omega) hA (by omega)
    rwa [fitsV32 A tl n hA h32] at this
  rw [show n - 32 + 32 = n by omega] at RO
  refine fits_of_body (C := cfgq 1) (c := c39) (ts := [4]) wtok2 wmixed (fun _ => none) (fun _ => none)
    Try.func39 (by kernel_rfl) (by kernel_rfl) (by kernel_rfl) (by kernel_rfl) rfl ?_
  refine force_in fun R hR => ?_
  conv => whnf
  refine hR _ ?_
  clear hR R
  refine seq_in fun R hR => ?_
  conv => whnf
  refine hR _ ?_
  clear hR R
  refine seq_in fun R hR => ?_
  conv => whnf
  refine hR _ ?_
  clear hR R
  refine seq_in fun R hR => ?_
  conv => whnf
  refine ⟨_, [], wide32_f, ?_⟩
  conv => whnf
  refine ⟨?_, ?_, ?_⟩
  · conv => whnf
    repeat' (first | exact True.intro | rfl | refine And.intro ?_ ?_ | omega)
    all_goals (conv => whnf)
    all_goals (try (first | rfl | omega | (simp; done)))
  · conv => whnf
    repeat' (first | exact True.intro | rfl | refine And.intro ?_ ?_ | omega)
    all_goals (conv => whnf)
    all_goals (try (first | rfl | omega | (simp; done)))
  conv => whnf
  refine ⟨?_, True.intro⟩
  intro _ _
  conv => whnf
  refine ⟨by repeat' (first | omega | exact Int.natCast_nonneg _ | (simp only [i64max]; omega) | (simp only [u8max]; omega) | refine And.intro ?_ ?_), ?_⟩
  conv => whnf
  rw [show ((n : Int) - 32) = ((n - 32 : Nat) : Int) by omega]
  conv => whnf
  refine hR _ ?_
  clear hR R
  refine seq_in fun R hR => ?_
  conv => whnf
  refine tst_in (fun h_ => False.elim (by simp at h_ <;> omega)) (fun _ => ?_)
  conv => whnf
  refine hR _ ?_
  clear hR R
  refine seq_in fun R hR => ?_
  conv => whnf
  refine ⟨⟨by omega, by show ((n - 32 : Nat) : Int) ≤ ca; omega⟩, ?_⟩
  rw [show (((n - 32 : Nat) : Int)).toNat = n - 32 from Int.toNat_natCast _]
  conv => whnf
  refine ⟨_, [0], RO, ?_⟩
  conv => whnf
  refine ⟨?_, ?_, ?_⟩
  · conv => whnf
    repeat' (first | exact True.intro | rfl | refine And.intro ?_ ?_ | omega)
    all_goals (conv => whnf)
    all_goals (try (first | rfl | omega | (simp; done)))
  · conv => whnf
    repeat' (first | exact True.intro | rfl | refine And.intro ?_ ?_ | omega)
    all_goals (conv => whnf)
    all_goals (try (first | rfl | omega | (simp; done)))
  conv => whnf
  refine ⟨?_, True.intro⟩
  intro (tl : List Bool) _
  conv => whnf
  refine hR _ ?_
  conv => whnf
  refine ⟨_, [1, 0], EQ tl, ?_⟩
  conv => whnf
  refine ⟨?_, ?_, ?_⟩
  · conv => whnf
    repeat' (first | exact True.intro | rfl | refine And.intro ?_ ?_ | omega)
  · conv => whnf
    repeat' (first | exact True.intro | rfl | refine And.intro ?_ ?_ | omega)
  conv => whnf
  refine .inl ⟨(), [0], ?_⟩
  conv => whnf
  repeat' (first | exact True.intro | rfl | refine And.intro ?_ ?_)
noncomputable def c16 : Code := (Try.f16.body).getD .skip
theorem Fits32_f (A : List Bool) (n ca : Nat) (hA : n ≤ A.length) (hc : n ≤ ca) (h32 : 32 ≤ n) (hN : n ≤ 32768) : Fits Try.prog 16 ⟨[.slice 0 0 n ca], [.seg false (.bools A)], [numOut [.dead] (.bool (decide (crc 32 79764919 0 (part A 0 n) = 0)))]⟩ := by
  refine fits_of_body (C := cfgq 1) (c := c16) (ts := [2]) wtok2 wmixed (fun _ => none) (fun _ => none)
    Try.func16 (by kernel_rfl) (by kernel_rfl) (by kernel_rfl) (by kernel_rfl) rfl ?_
  refine force_in fun R hR => ?_
  conv => whnf
  refine hR _ ?_
  clear hR R
  refine seq_in fun R hR => ?_
  conv => whnf
  refine hR _ ?_
  conv => whnf
  refine ⟨_, [0], fits32_f A n ca hA hc h32 hN, ?_⟩
  conv => whnf
  refine ⟨?_, ?_, ?_⟩
  · conv => whnf
    repeat' (first | exact True.intro | rfl | refine And.intro ?_ ?_ | omega)
    all_goals (conv => whnf)
    all_goals (try (first | rfl | omega | (simp; done)))
  · conv => whnf
    repeat' (first | exact True.intro | rfl | refine And.intro ?_ ?_ | omega)
    all_goals (conv => whnf)
    all_goals (try (first | rfl | omega | (simp; done)))
  conv => whnf
  refine ⟨?_, True.intro⟩
  intro _ _
  conv => whnf
  refine .inl ⟨(), [0], ?_⟩
  conv => whnf
  repeat' (first | exact True.intro | rfl | refine And.intro ?_ ?_)
end Go.Proofs.Ytkffpcifkeaabaa

set_option linter.unusedVariables false
set_option linter.unusedSimpArgs false
namespace Go.Proofs.Ytkffpcifkeaabaa
open Go Go.Fw

noncomputable def c36 : Code := (Try.f36.body).getD .skip
def inv36 (A : List Bool) (n ca C : Nat) (tl : List Bool) : LInv := ⟨Nat, fun k => ⟨anyTo 47 [.any, .slice 0 0 n ca, .any, .any, .any, .any, .any, .int .i64 16, .slice 1 0 (n + 16) (n + 16 + tl.length), .int .u16 C, .any, .any, .any, .any, .any, .any, .any, .any, .any, .any, .any, .any, .any, .any, .any, .any, .any, .int .i64 16, .int .i64 k], [.seg false (.bools A), .seg true (.bools (rowX 16 C (A.take n) tl k))]⟩, fun k => k ≤ 16, fun k => 16 - k⟩
def inv36d (A : List Bool) (n ca C : Nat) : St → LInv := fun st => match slot st.sl 8 with
  | .slice _ _ _ cap => ⟨Nat × List Bool, fun p => (inv36 A n ca C p.2).st p.1, fun p => p.1 ≤ 16 ∧ cap = n + 16 + p.2.length, fun p => 16 - p.1⟩
  | _ => ⟨Unit, fun _ => ⟨[], []⟩, fun _ => True, fun _ => 0⟩
set_option maxHeartbeats 0 in
set_option maxRecDepth 100000 in
theorem row16_f (A : List Bool) (n ca : Nat) (hA : n ≤ A.length) (hN : n + 16 ≤ 32768) : Fits Try.prog 36 ⟨[.int .u16 (4129 : Nat), .slice 0 0 n ca], [.seg false (.bools A)], [⟨List Bool, fun _ => True, fun tl => .tup [.slice 1 0 (n + 16) (n + 16 + tl.length), .int .i64 0], fun tl => [.dead, .seg true (.bools (A.take n ++ bt 16 (crc 16 4129 0 (part A 0 n)) 16 ++ tl))]⟩]⟩ := by
  have hlA : (A.take n).length = n := by simp; omega
  have ON := on16_f A 0 n ca 0 4129 (by omega) (by omega) (by decide) (by decide)
  have hC2 : crc 16 4129 0 (part A 0 n) < 65536 := crc_lt (W := 16) (p := 4129) (by decide) (part A 0 n) 0 (by decide)
  generalize crc 16 4129 0 (part A 0 n) = C at *
  have CC := Concat_f A (List.replicate 16 false) n 16 ca hA (by rw [List.length_replicate]; exact Nat.le_refl _) (by omega) (by omega)
  rw [show (List.replicate 16 false).take 16 = List.replicate 16 false by simp] at CC
  refine fits_of_body (C := cfgq 1) (c := c36) (ts := [4, 5]) wtok2 wmixed (fun | 8 => some ⟨Nat × List Bool, fun p => (inv36 A n ca C p.2).st p.1, fun p => p.1 ≤ 16, fun p => 16 - p.1⟩ | _ => none) (fun _ => none)
    Try.func36 (by kernel_rfl) (by kernel_rfl) (by kernel_rfl) (by kernel_rfl) rfl ?_
  refine force_in fun R hR => ?_
  conv => whnf
  refine hR _ ?_
  clear hR R
  refine seq_in fun R hR => ?_
  conv => whnf
  refine hR _ ?_
  clear hR R
  refine seq_in fun R hR => ?_
  conv => whnf
  refine hR _ ?_
  clear hR R
  refine seq_in fun R hR => ?_
  conv => whnf
  refine ⟨_, [], wide16_f, ?_⟩
  conv => whnf
  refine ⟨?_, ?_, ?_⟩
  · conv => whnf
    repeat' (first | exact True.intro | rfl | refine And.intro ?_ ?_ | omega)
    all_goals (conv => whnf)
    all_goals (try (first | rfl | omega | (simp; done)))
  · conv => whnf
    repeat' (first | exact True.intro | rfl | refine And.intro ?_ ?_ | omega)
    all_goals (conv => whnf)
    all_goals (try (first | rfl | omega | (simp; done)))
  conv => whnf
  refine ⟨?_, True.intro⟩
  intro _ _
  conv => whnf
  refine hR _ ?_
  clear hR R
  refine seq_in fun R hR => ?_
  conv => whnf
  refine ⟨by repeat' (first | omega | exact Int.natCast_nonneg _ | (simp only [i64max]; omega) | (simp only [u8max]; omega) | refine And.intro ?_ ?_), ?_⟩
  conv => whnf
  refine tst_in (fun h_ => False.elim (by simp at h_ <;> omega)) (fun _ => ?_)
  conv => whnf
  refine hR _ ?_
  clear hR R
  refine seq_in fun R hR => ?_
  conv => whnf
  refine ⟨⟨by decide, by decide, by decide, by decide⟩, ?_⟩
  conv => whnf
  refine ⟨_, [0, 1, 2], CC, ?_⟩
  conv => whnf
  refine ⟨?_, ?_, ?_⟩
  · conv => whnf
    repeat' (first | exact True.intro | rfl | refine And.intro ?_ ?_ | omega)
    all_goals (conv => whnf)
    all_goals (try (first | rfl | omega | (simp; done)))
  · conv => whnf
    repeat' (first | exact True.intro | rfl | refine And.intro ?_ ?_ | omega)
    all_goals (conv => whnf)
    all_goals (try (first | rfl | omega | (simp; done)))
  conv => whnf
  refine ⟨?_, True.intro⟩
  intro (tl : List Bool) _
  conv => whnf
  refine hR _ ?_
  clear hR R
  refine seq_in fun R hR => ?_
  conv => whnf
  refine ⟨_, [0], ON, ?_⟩
  conv => whnf
  refine ⟨?_, ?_, ?_⟩
  · conv => whnf
    repeat' (first | exact True.intro | rfl | refine And.intro ?_ ?_ | omega)
    all_goals (conv => whnf)
    all_goals (try (first | rfl | omega | (simp; done)))
  · conv => whnf
    repeat' (first | exact True.intro | rfl | refine And.intro ?_ ?_ | omega)
    all_goals (conv => whnf)
    all_goals (try (first | rfl | omega | (simp; done)))
  conv => whnf
  refine ⟨?_, True.intro⟩
  intro _ _
  conv => whnf
  refine hR _ ?_
  clear hR R
  refine seq_in fun R hR => ?_
  conv => whnf
  refine ⟨⟨[0, 3], ((0, tl) : Nat × List Bool), ?_, Nat.zero_le _⟩, ?_⟩
  · conv => whnf
    repeat' (first | exact True.intro | rfl | refine And.intro ?_ ?_)
    all_goals (show rowX 16 C (A.take n) tl 0 = _; simp [rowX, bt])
  · rintro ⟨k, tl⟩ hk
    have hk : k ≤ 16 := hk
    have hrl := rowX_len 16 C (A.take n) tl k hk
    show forceSt ((inv36 A n ca C tl).st k) _
    conv => whnf
    refine tst_in (fun hlt => ?_) (fun hge => ?_)
    · skip
      have hlt : k < 16 := by simp at hlt; omega
      have hs := rowX_set 16 C (A.take n) tl k hlt
      rw [hlA] at hs hrl
      conv => whnf
      refine ⟨by repeat' (first | omega | exact Int.natCast_nonneg _ | (simp only [i64max]; omega) | (simp only [u8max]; omega) | refine And.intro ?_ ?_), ?_⟩
      conv => whnf
      refine ⟨by repeat' (first | omega | exact Int.natCast_nonneg _ | (simp only [i64max]; omega) | (simp only [u8max]; omega) | refine And.intro ?_ ?_), ?_⟩
      conv => whnf
      refine ⟨by repeat' (first | omega | exact Int.natCast_nonneg _ | (simp only [i64max]; omega) | (simp only [u8max]; omega) | refine And.intro ?_ ?_), ?_⟩
      conv => whnf
      refine ⟨⟨by omega, by omega⟩, ?_⟩
      rw [sh_eq C (16 - 1 - k) (IntKind.bits .u16) ((16 : Int) - 1 - (k : Int)) (by omega) (by show 16 - 1 - k ≤ 16; omega)]
      have hle : C >>> (16 - 1 - k) ≤ C := by rw [Nat.shiftRight_eq_div_pow]; exact Nat.div_le_self _ _
      conv => whnf
      refine ⟨⟨Int.natCast_nonneg _, by decide, by show ((C >>> (16 - 1 - k) : Nat) : Int) ≤ 65535; omega, by decide⟩, ?_⟩
      conv => whnf
      refine ⟨⟨by omega, by omega⟩, ?_⟩
      rw [bit_eq]
      conv => whnf
      refine ⟨by show 0 + ((n : Int) + (k : Int)).toNat < (rowX 16 C (A.take n) tl k).length; omega, ?_⟩
      rw [show 0 + ((n : Int) + (k : Int)).toNat = n + k by omega, hs]
      conv => whnf
      refine ⟨by repeat' (first | omega | exact Int.natCast_nonneg _ | (simp only [i64max]; omega) | (simp only [u8max]; omega) | refine And.intro ?_ ?_), ?_⟩
      conv => whnf
      refine ⟨[0, 1], ((k + 1, tl) : Nat × List Bool), ?_, hlt, (by show 16 - (k + 1) < 16 - k; omega)⟩
      conv => whnf
      repeat' (first | exact True.intro | rfl | refine And.intro ?_ ?_)
    · skip
      have hge : k = 16 := by simp at hge; omega
      subst hge
      conv => whnf
      refine hR _ ?_
      conv => whnf
      refine .inl ⟨tl, [0, 1], ?_⟩
      conv => whnf
      repeat' (first | exact True.intro | rfl | refine And.intro ?_ ?_)
      all_goals (show _ = _; first | rfl | (simp [rowX]; done))
noncomputable def c13 : Code := (Try.f13.body).getD .skip
theorem Row16_f (A : List Bool) (n ca : Nat) (hA : n ≤ A.length) (hN : n + 16 ≤ 32768) : Fits Try.prog 13 ⟨[.slice 0 0 n ca], [.seg false (.bools A)], [⟨List Bool, fun _ => True, fun tl => .tup [.slice 1 0 (n + 16) (n + 16 + tl.length), .int .i64 0], fun tl => [.dead, .seg true (.bools (A.take n ++ bt 16 (crc 16 4129 0 (part A 0 n)) 16 ++ tl))]⟩]⟩ := by
  refine fits_of_body (C := cfgq 1) (c := c13) (ts := [2, 3]) wtok2 wmixed (fun _ => none) (fun _ => none)
    Try.func13 (by kernel_rfl) (by kernel_rfl) (by kernel_rfl) (by kernel_rfl) rfl ?_
  refine force_in fun R hR => ?_
  conv => whnf
  refine hR _ ?_
  clear hR R
  refine seq_in fun R hR => ?_
  conv => whnf
  refine hR _ ?_
  conv => whnf
  refine ⟨_, [0], row16_f A n ca hA hN, ?_⟩
  conv => whnf
  refine ⟨?_, ?_, ?_⟩
  · conv => whnf
    repeat' (first | exact True.intro | rfl | refine And.intro ?_ ?_ | omega)
    all_goals (conv => whnf)
    all_goals (try (first | rfl | omega | (simp; done)))
  · conv => whnf
    repeat' (first | exact True.intro | rfl | refine And.intro ?_ ?_ | omega)
    all_goals (conv => whnf)
    all_goals (try (first | rfl | omega | (simp; done)))
  conv => whnf
  refine ⟨?_, True.intro⟩
  intro (tl : List Bool) _
  conv => whnf
  refine .inl ⟨tl, [0, 1], ?_⟩
  conv => whnf
  repeat' (first | exact True.intro | rfl | refine And.intro ?_ ?_)
noncomputable def c38 : Code := (Try.f38.body).getD .skip
theorem fitsV16 (A tl : List Bool) (n : Nat) (hA : n ≤ A.length) (h16 : 16 ≤ n) : eqB (A.take (n - 16) ++ bt 16 (crc 16 4129 0 (part A 0 (n - 16))) 16 ++ tl) A n = decide (crc 16 4129 0 (part A 0 n) = 0) := by
  have hl : (A.take n).length = n := by simp; omega
  have h := fits_iff 16 4129 (by decide) (by decide) (by decide) (A.take n) (by omega)
  rw [hl, List.take_take, Nat.min_eq_left (Nat.sub_le _ _)] at h
  have e1 : part A 0 n = A.take n := rfl
  have e2 : part A 0 (n - 16) = A.take (n - 16) := rfl
  rw [e1, e2]
  apply Bool.eq_iff_iff.mpr
  rw [eqB_iff, decide_eq_true_eq, ← h]
  have hXl : (A.take (n - 16) ++ bt 16 (crc 16 4129 0 (A.take (n - 16))) 16).length = n := by simp [bt_len]; omega
  generalize A.take (n - 16) ++ bt 16 (crc 16 4129 0 (A.take (n - 16))) 16 = X at *
  constructor
  · intro hh
    apply List.ext_getElem (by omega)
    intro i h1 h2
    have := hh i (by omega)
    rw [List.getD_eq_getElem?_getD, List.getD_eq_getElem?_getD, List.getElem?_append_left h1, List.getElem?_eq_getElem h1, List.getElem?_eq_getElem (by omega : i < A.length)] at this
    simpa using this
  · intro hh i hi
    rw [hh, List.getD_eq_getElem?_getD, List.getD_eq_getElem?_getD, List.getElem?_append_left (by omega), List.getElem?_take, if_pos hi]
set_option maxHeartbeats 0 in
set_option maxRecDepth 100000 in
theorem fits16_f (A : List Bool) (n ca : Nat) (hA : n ≤ A.length) (hc : n ≤ ca) (h16 : 16 ≤ n) (hN : n ≤ 32768) : Fits Try.prog 38 ⟨[.int .u16 (4129 : Nat), .slice 0 0 n ca], [.seg false (.bools A)], [numOut [.dead] (.bool (decide (crc 16 4129 0 (part A 0 n) = 0)))]⟩ := by
  have RO := row16_f A (n - 16) ca (by omega) (by omega)
  have EQ : ∀ (tl : List Bool), QFits Try.prog 56 ⟨[.slice 0 0 n (n + tl.length), .slice 1 0 n ca], [.seg false (.bools (A.take (n - 16) ++ bt 16 (crc 16 4129 0 (part A 0 (n - 16))) 16 ++ tl)), .seg false (.bools A)], .bool (decide (crc 16 4129 0 (part A 0 n) = 0))⟩ := fun tl => by
    have := Equal_q (A.take (n - 16) ++ bt 16 (crc 16 4129 0 (part A 0 (n - 16))) 16 ++ tl) A n (n + tl.length) ca (by simp [bt_len]; omega) hA (by omega)
    rwa [fitsV16 A tl n hA h16] at this
  rw [show n - 16 + 16 = n by omega] at RO
  refine fits_of_body (C := cfgq 1) (c := c38) (ts := [4]) wtok2 wmixed (fun _ => none) (fun _ => none)
    Try.func38 (by kernel_rfl) (by kernel_rfl) (by kernel_rfl) (by kernel_rfl) rfl ?_
  refine force_in fun R hR => ?_
  conv => whnf
  refine hR _ ?_
  clear hR R
  refine seq_in fun R hR => ?_
  conv => whnf
  refine hR _ ?_
  clear hR R
  refine seq_in fun R hR => ?_
  conv => whnf
  refine hR _ ?_
  clear hR R
  refine seq_in fun R hR => ?_
  conv => whnf
  refine ⟨_, [], wide16_f, ?_⟩
  conv => whnf
  refine ⟨?_, ?_, ?_⟩
  · conv => whnf
    repeat' (first | exact True.intro | rfl | refine And.intro ?_ ?_ | omega)
    all_goals (conv => whnf)
    all_goals (try (first | rfl | omega | (simp; done)))
  · conv => whnf
    repeat' (first | exact True.intro | rfl | refine And.intro ?_ ?_ | omega)
    all_goals (conv => whnf)
    all_goals (try (first | rfl | omega | (simp; done)))
  conv => whnf
  refine ⟨?_, True.intro⟩
  intro _ _
  conv => whnf
  refine ⟨by repeat' (first | omega | exact Int.natCast_nonneg _ | (simp only [i64max]; omega) | (simp only [u8max]; omega) | refine And.intro ?_ ?_), ?_⟩
  conv => whnf
  rw [show ((n : Int) - 16) = ((n - 16 : Nat) : Int) by omega]
  conv => whnf
  refine hR _ ?_
  clear hR R
  refine seq_in fun R hR => ?_
  conv => whnf
  refine tst_in (fun h_ => False.elim (by simp at h_ <;> omega)) (fun _ => ?_)
  conv => whnf
  refine hR _ ?_
  clear hR R
  refine seq_in fun R hR => ?_
  conv => whnf
  refine ⟨⟨by omega, by show ((n - 16 : Nat) : Int) ≤ ca; omega⟩, ?_⟩
  rw [show (((n - 16 : Nat) : Int)).toNat = n - 16 from Int.toNat_natCast _]
  conv => whnf
  refine ⟨_, [0], RO, ?_⟩
  conv => whnf
  refine ⟨?_, ?_, ?_⟩
  · conv => whnf
    repeat' (first | exact True.intro | rfl | refine And.intro ?_ ?_ | omega)
    all_goals (conv => whnf)
    all_goals (try (first | rfl | omega | (simp; done)))
  · conv => whnf
    repeat' (first | exact True.intro | rfl | refine And.intro ?_ ?_ | omega)
    all_goals (conv => whnf)
    all_goals (try (first | rfl | omega | (simp; done)))
  conv => whnf
  refine ⟨?_, True.intro⟩
  intro (tl : List Bool) _
  conv => whnf
  refine hR _ ?_
  conv => whnf
  refine ⟨_, [1, 0], EQ tl, ?_⟩
  conv => whnf
  refine ⟨?_, ?_, ?_⟩
  · conv => whnf
    repeat' (first | exact True.intro | rfl | refine And.intro ?_ ?_ | omega)
  · conv => whnf
    repeat' (first | exact True.intro | rfl | refine And.intro ?_ ?_ | omega)
  conv => whnf
  refine .inl ⟨(), [0], ?_⟩
  conv => whnf
  repeat' (first | exact True.intro | rfl | refine And.intro ?_ ?_)
noncomputable def c15 : Code := (Try.f15.body).getD .skip
theorem Fits16_f (A : List Bool) (n ca : Nat) (hA : n ≤ A.length) (hc : n ≤ ca) (h16 : 16 ≤ n) (hN : n ≤ 32768) : Fits Try.prog 15 ⟨[.slice 0 0 n ca], [.seg false (.bools A)], [numOut [.dead] (.bool (decide (crc 16 4129 0 (part A 0 n) = 0)))]⟩ := by
  refine fits_of_body (C := cfgq 1) (c := c15) (ts := [2]) wtok2 wmixed (fun _ => none) (fun _ => none)
    Try.func15 (by kernel_rfl) (by kernel_rfl) (by kernel_rfl) (by kernel_rfl) rfl ?_
  refine force_in fun R hR => ?_
  conv => whnf
  refine hR _ ?_
  clear hR R
  refine seq_in fun R hR => ?_
  conv => whnf
  refine hR _ ?_
  conv => whnf
  refine ⟨_, [0], fits16_f A n ca hA hc h16 hN, ?_⟩
  conv => whnf
  refine ⟨?_, ?_, ?_⟩
  · conv => whnf
    repeat' (first | exact True.intro | rfl | refine And.intro ?_ ?_ | omega)
    all_goals (conv => whnf)
    all_goals (try (first | rfl | omega | (simp; done)))
  · conv => whnf
    repeat' (first | exact True.intro | rfl | refine And.intro ?_ ?_ | omega)
    all_goals (conv => whnf)
    all_goals (try (first | rfl | omega | (simp; done)))
  conv => whnf
  refine ⟨?_, True.intro⟩
  intro _ _
  conv => whnf
  refine .inl ⟨(), [0], ?_⟩
  conv => whnf
  repeat' (first | exact True.intro | rfl | refine And.intro ?_ ?_)
end Go.Proofs.Ytkffpcifkeaabaa

set_option linter.unusedVariables false
set_option linter.unusedSimpArgs false
namespace Go.Proofs.Ytkffpcifkeaabaa
open Go Go.Fw
def flips (Y : List Bool) (p b : Nat) : Nat → List Bool
  | 0 => Y
  | k + 1 => if b.testBit k then (flips Y p b k).set (p + k) (!(flips Y p b k).getD (p + k) false) else flips Y p b k
theorem flips_len (Y : List Bool) (p b : Nat) : ∀ k, (flips Y p b k).length = Y.length
  | 0 => rfl
  | k + 1 => by
    simp only [flips]
    split
    · rw [List.length_set, flips_len Y p b k]
    · exact flips_len Y p b k
theorem flips_zero (Y : List Bool) (p : Nat) : ∀ k, flips Y p 0 k = Y
  | 0 => rfl
  | k + 1 => by simp only [flips, Nat.zero_testBit, Bool.false_eq_true, if_false, flips_zero Y p k]
/-- Is this place turned? -/
def hit (p b W i : Nat) : Bool := decide (p ≤ i) && decide (i < p + W) && b.testBit (i - p)
theorem flips_get (Y : List Bool) (p b : Nat) : ∀ k, p + k ≤ Y.length → ∀ i, (flips Y p b k).getD i false = (Y.getD i false != hit p b k i)
  | 0, _, i => by
    have : hit p b 0 i = false := by
      simp only [hit, Bool.and_eq_false_iff, decide_eq_false_iff_not]; omega
    rw [this]; simp [flips]
  | k + 1, hk, i => by
    have ih := flips_get Y p b k (by omega)
    have hl := flips_len Y p b k
    by_cases hi : i = p + k
    · subst hi
      have h1 : hit p b (k + 1) (p + k) = b.testBit k := by
        simp [hit]
      have h2 : hit p b k (p + k) = false := by
        simp [hit]
      simp only [flips]
      split
      · rename_i hb
        rw [List.getD_eq_getElem?_getD, List.getElem?_set, if_pos rfl, if_pos (by omega), ih, h1, h2, hb]
        simp
      · rename_i hb
        rw [ih, h1, h2]
        simp only [Bool.not_eq_true] at hb
        rw [hb]
    · have h1 : hit p b (k + 1) i = hit p b k i := by
        simp only [hit]
        congr 2
        apply decide_eq_decide.mpr
        omega
      rw [h1, ← ih]
      simp only [flips]
      split
      · rw [List.getD_eq_getElem?_getD, List.getElem?_set, if_neg (by omega), ← List.getD_eq_getElem?_getD]
      · rfl
/-- The low bits, the lowest one first. -/
def lb (b : Nat) (W : Nat) : List Bool := (List.range W).map b.testBit
theorem lb_len (b W : Nat) : (lb b W).length = W := by simp [lb]
def er (p b W n : Nat) : List Bool := zer p ++ lb b W ++ zer (n - p - W)
theorem er_len (p b W n : Nat) (h : p + W ≤ n) : (er p b W n).length = n := by simp [er, zer, lb_len]; omega
theorem er_get (p b W n i : Nat) (h : p + W ≤ n) (hi : i < n) : (er p b W n).getD i false = hit p b W i := by
  unfold er hit zer
  rw [List.getD_eq_getElem?_getD]
  rcases Nat.lt_or_ge i p with h1 | h1
  · rw [List.append_assoc, List.getElem?_append_left (by simp; omega)]
    simp [h1, show ¬ p ≤ i by omega]
  · rcases Nat.lt_or_ge i (p + W) with h2 | h2
    · rw [List.getElem?_append_left (by simp [lb_len]; omega), List.getElem?_append_right (by simp; omega)]
      simp [lb, h1, h2, show i - p < W by omega]
    · rw [List.getElem?_append_right (by simp [lb_len]; omega)]
      simp [lb_len, show ¬ i < p + W by omega]
      rw [List.getElem?_replicate]
      split <;> rfl
theorem flips_zip (A tz : List Bool) (p b W n : Nat) (hA : n ≤ A.length) (h : p + W ≤ n) : part (flips (A.take n ++ tz) p b W) 0 n = List.zipWith (· != ·) (A.take n) (er p b W n) := by
  have hl : (A.take n).length = n := by simp; omega
  have hfl := flips_len (A.take n ++ tz) p b W
  rw [List.length_append, hl] at hfl
  have hel := er_len p b W n h
  apply List.ext_getElem
  · rw [part_len (by omega), List.length_zipWith, hl, hel]; omega
  · intro i h1 h2
    have hi : i < n := by rw [part_len (by omega)] at h1; exact h1
    have g := flips_get (A.take n ++ tz) p b W (by rw [List.length_append, hl]; omega) i
    have e := er_get p b W n i h hi
    have g1 : (part (flips (A.take n ++ tz) p b W) 0 n).getD i false = (flips (A.take n ++ tz) p b W).getD (0 + i) false := part_get hi
    rw [Nat.zero_add, g, ← e] at g1
    rw [List.getElem_zipWith]
    rw [List.getD_eq_getElem?_getD, List.getElem?_eq_getElem h1, Option.getD_some, List.getD_eq_getElem?_getD, List.getElem?_append_left (by omega), List.getElem?_eq_getElem (by omega), Option.getD_some, List.getD_eq_getElem?_getD, List.getElem?_eq_getElem (by omega), Option.getD_some] at g1
    exact g1
theorem crc_flips (W p0 : Nat) (A tz : List Bool) (p b V n : Nat) (hA : n ≤ A.length) (h : p + V ≤ n) : crc W p0 0 (part (flips (A.take n ++ tz) p b V) 0 n) = crc W p0 0 (part A 0 n) ^^^ crc W p0 0 (er p b V n) := by
  rw [flips_zip A tz p b V n hA h]
  have := crc_xor W p0 (A.take n) (er p b V n) 0 0 (by rw [er_len p b V n h]; simp; omega)
  rw [Nat.xor_zero] at this
  rw [this]; rfl
theorem er_seen (W p0 : Nat) (hW : 0 < W) (hp : p0 % 2 = 1) (hpl : p0 < 2 ^ W) (p b V n : Nat) (hV : V ≤ W) (hb : b < 2 ^ V) (h : crc W p0 0 (er p b V n) = 0) : b = 0 := by
  have h1 := burst_seen W p0 hW hp hpl p (n - p - V) (lb b V) (by rw [lb_len]; exact hV) h
  rw [lb_len] at h1
  apply Nat.eq_of_testBit_eq
  intro i
  rw [Nat.zero_testBit]
  rcases Nat.lt_or_ge i V with hi | hi
  · have : (lb b V)[i]? = (List.replicate V false)[i]? := by rw [h1]
    rw [List.getElem?_replicate, if_pos hi] at this
    simp [lb, hi] at this
    exact this
  · exact Nat.testBit_lt_two_pow (Nat.lt_of_lt_of_le hb (Nat.pow_le_pow_right (by decide) hi))
theorem la_ge (D : List Bool) (j : Nat) (hj : D.getD j false = true) : ∀ k, j < k → j ≤ la D j k
  | 0, h => by omega
  | k + 1, h => by
    simp only [la]
    split
    · omega
    · rename_i hk
      rcases Nat.lt_or_ge j k with h1 | h1
      · exact la_ge D j hj k h1
      · have : j = k := by omega
        subst this; exact absurd hj hk
theorem la_set (D : List Bool) (j : Nat) (hj : D.getD j false = true) : ∀ k, D.getD (la D j k) false = true
  | 0 => hj
  | k + 1 => by
    simp only [la]
    split
    · assumption
    · exact la_set D j hj k
theorem unl_get (A B : List Bool) : ∀ k i, i < k → (unl A B k).getD i false = (A.getD i false != B.getD i false)
  | 0, i, h => by omega
  | k + 1, i, h => by
    simp only [unl]
    rcases Nat.lt_or_ge i k with h1 | h1
    · rw [List.getD_eq_getElem?_getD, List.getElem?_append_left (by rw [unl_len]; exact h1), ← List.getD_eq_getElem?_getD, unl_get A B k i h1]
    · have : i = k := by omega
      subst this
      rw [List.getD_eq_getElem?_getD, List.getElem?_append_right (by rw [unl_len]; exact Nat.le_refl _), unl_len]
      simp
theorem take_getD (A tz : List Bool) (n i : Nat) (hi : i < n) (hA : n ≤ A.length) : (A.take n ++ tz).getD i false = A.getD i false := by
  rw [List.getD_eq_getElem?_getD, List.getElem?_append_left (by simp; omega), List.getElem?_take, if_pos hi, List.getD_eq_getElem?_getD]
/-- What tells where the rows differ. -/
theorem burst_at (A tz : List Bool) (p b W n : Nat) (hA : n ≤ A.length) (h : p + W ≤ n) (h0 : b ≠ 0) (hb : b < 2 ^ W) :
    ∃ j, fst1 (unl A (flips (A.take n ++ tz) p b W) n) n 0 = (j : Nat) ∧ j < n ∧ p ≤ j ∧ j ≤ la (unl A (flips (A.take n ++ tz) p b W) n) j n ∧ la (unl A (flips (A.take n ++ tz) p b W) n) j n < p + W ∧
      A.getD j false ≠ (flips (A.take n ++ tz) p b W).getD j false ∧ A.getD (la (unl A (flips (A.take n ++ tz) p b W) n) j n) false ≠ (flips (A.take n ++ tz) p b W).getD (la (unl A (flips (A.take n ++ tz) p b W) n) j n) false := by
  have hD : ∀ i, i < n → (unl A (flips (A.take n ++ tz) p b W) n).getD i false = hit p b W i := fun i hi => by
    rw [unl_get _ _ _ _ hi, flips_get _ _ _ _ (by rw [List.length_append, List.length_take]; omega), take_getD A tz n i hi hA]
    cases A.getD i false <;> cases hit p b W i <;> rfl
  have hne : ∀ i, i < n → hit p b W i = true → A.getD i false ≠ (flips (A.take n ++ tz) p b W).getD i false := fun i hi ht => by
    rw [flips_get _ _ _ _ (by rw [List.length_append, List.length_take]; omega), take_getD A tz n i hi hA, ht]
    cases A.getD i false <;> decide
  have hin : ∀ i, hit p b W i = true → p ≤ i ∧ i < p + W := fun i ht => by
    simp only [hit, Bool.and_eq_true, decide_eq_true_eq] at ht
    exact ht.1
  generalize unl A (flips (A.take n ++ tz) p b W) n = D at *
  rcases fst1_ok D n 0 with ⟨_, h2⟩ | ⟨j, h1, h2, h3, h4⟩
  · refine absurd (Nat.eq_of_testBit_eq fun i => ?_) h0
    rw [Nat.zero_testBit]
    rcases Nat.lt_or_ge i W with hi | hi
    · have := h2 (p + i) (by omega) (by omega)
      rw [hD _ (by omega)] at this
      simpa [hit, hi] using this
    · exact Nat.testBit_lt_two_pow (Nat.lt_of_lt_of_le hb (Nat.pow_le_pow_right (by decide) hi))
  · have hj : j < n := by omega
    have t1 := hD j hj
    rw [h4] at t1
    have g1 := la_ge D j h4 n hj
    have g2 := la_le D j n hj n (Nat.le_refl _)
    have g3 := la_set D j h4 n
    rw [hD _ g2] at g3
    exact ⟨j, h1, hj, (hin j t1.symm).1, g1, (hin _ g3).2, hne j hj t1.symm, hne _ g2 g3⟩
theorem fst1_same (D : List Bool) (n : Nat) (h : ∀ i, i < n → D.getD i false = false) : fst1 D n 0 = -1 := by
  rcases fst1_ok D n 0 with ⟨h1, _⟩ | ⟨j, _, _, h3, h4⟩
  · exact h1
  · rw [h j (by omega)] at h4; cases h4
theorem bit_one (C j : Nat) : (decide (((((C >>> j : Nat) : Int).toNat &&& (1 : Int).toNat : Nat) : Int) = 1)) = C.testBit j := by
  show (decide (((C >>> j &&& 1 : Nat) : Int) = 1)) = C.testBit j
  unfold Nat.testBit
  rw [Nat.and_comm]
  have : 1 &&& C >>> j = (C >>> j) % 2 := by rw [Nat.and_comm, Nat.and_one_is_mod]
  rw [this]
  apply Bool.eq_iff_iff.mpr
  simp only [decide_eq_true_eq, bne_iff_ne, ne_eq]
  omega
theorem part_take (X t : List Bool) (n : Nat) (h : X.length = n) : part (X ++ t) 0 n = X := by subst h; simp [part]
theorem crc_ahead (W p c : Nat) (l t : List Bool) (n : Nat) (hl : l.length = n) : crc W p 0 (part (zer c ++ l ++ t) 0 (c + n)) = crc W p 0 l := by
  rw [part_take _ _ _ (by rw [List.length_append, hl]; simp [zer]), crc_append]
  rw [show zer c = List.replicate c false from rfl, crc_zeros]
end Go.Proofs.Ytkffpcifkeaabaa

set_option linter.unusedVariables false
set_option linter.unusedSimpArgs false
namespace Go.Proofs.Ytkffpcifkeaabaa
open Go Go.Fw
/-- The long division's rounds. -/
def xr (D : List Bool) (i : Nat) : Nat → List Bool → List Bool
  | 0, L => L
  | k + 1, L => (xr D i k L).set (i + k) ((xr D i k L).getD (i + k) false != D.getD k false)
theorem xr_len (D : List Bool) (i : Nat) (L : List Bool) : ∀ k, (xr D i k L).length = L.length
  | 0 => rfl
  | k + 1 => by simp only [xr, List.length_set, xr_len D i L k]
theorem xr_get (D : List Bool) (i : Nat) (L : List Bool) : ∀ k, i + k ≤ L.length → ∀ j, (xr D i k L).getD j false = (L.getD j false != (decide (i ≤ j) && decide (j < i + k) && D.getD (j - i) false))
  | 0, _, j => by
    simp only [xr]
    have : ¬ (i ≤ j ∧ j < i + 0) := by omega
    rw [show (decide (i ≤ j) && decide (j < i + 0)) = false by rw [← Bool.decide_and]; exact decide_eq_false this]
    simp
  | k + 1, h, j => by
    have ih := xr_get D i L k (by omega) j
    simp only [xr, List.getD_eq_getElem?_getD] at ih ⊢
    rw [List.getElem?_set]
    by_cases e : i + k = j
    · subst e
      rw [if_pos rfl, if_pos (by rw [xr_len]; omega)]
      simp only [Option.getD_some, ih]
      simp
    · rw [if_neg e, ih]
      have : decide (j < i + (k + 1)) = decide (j < i + k) := by apply decide_eq_decide.2; omega
      rw [this]
def ld (D : List Bool) (W : Nat) : Nat → List Bool → List Bool
  | 0, L => L
  | i + 1, L => if (ld D W i L).getD i false then xr D i (W + 1) (ld D W i L) else ld D W i L
theorem ld_len (D : List Bool) (W : Nat) (L : List Bool) : ∀ i, (ld D W i L).length = L.length
  | 0 => rfl
  | i + 1 => by
    simp only [ld]
    split
    · rw [xr_len, ld_len D W L i]
    · exact ld_len D W L i
/-- What the register holds, laid over the row from place i on. -/
def win (W s i j : Nat) : Bool := decide (i ≤ j) && decide (j < i + W) && s.testBit (W - 1 - (j - i))
theorem win_next (W p s i j : Nat) (D : List Bool) (b c : Bool) (hW : 0 < W) (hD : ∀ k, 1 ≤ k → k ≤ W → D.getD k false = p.testBit (W - k)) (hp : p < 2 ^ W) (hj : i + 1 ≤ j) (hc : c = (s.testBit (W - 1) != b)) :
    ((win W s i j) != (c && (decide (i ≤ j) && decide (j < i + (W + 1)) && D.getD (j - i) false))) = win W (nx W p s b) (i + 1) j := by
  unfold win nx
  rw [← hc]
  rw [decide_eq_true (show i ≤ j by omega), decide_eq_true hj]
  simp only [Bool.true_and]
  rw [show decide (j < i + 1 + W) = decide (j < i + (W + 1)) from decide_eq_decide.2 (by omega)]
  by_cases h : j < i + (W + 1)
  · rw [decide_eq_true h, hD (j - i) (by omega) (by omega)]
    have key : ((decide (j < i + W)) && s.testBit (W - 1 - (j - i))) = (2 * s % 2 ^ W).testBit (W - 1 - (j - (i + 1))) := by
      rw [Nat.testBit_mod_two_pow, decide_eq_true (show W - 1 - (j - (i + 1)) < W by omega), Bool.true_and]
      rw [show 2 * s = s <<< 1 by rw [Nat.shiftLeft_eq]; omega, Nat.testBit_shiftLeft]
      by_cases h2 : j < i + W
      · rw [decide_eq_true h2, decide_eq_true (show W - 1 - (j - (i + 1)) ≥ 1 by omega)]
        rw [show W - 1 - (j - (i + 1)) - 1 = W - 1 - (j - i) by omega]
      · rw [decide_eq_false h2, decide_eq_false (show ¬ W - 1 - (j - (i + 1)) ≥ 1 by omega)]
        simp
    rw [key]
    cases c
    · simp
    · simp only [Bool.true_and, if_true, Nat.testBit_xor]
      rw [show W - 1 - (j - (i + 1)) = W - (j - i) by omega]
  · rw [decide_eq_false h, decide_eq_false (show ¬ j < i + W by omega)]
    simp
theorem ld_get (D : List Bool) (W p n : Nat) (l t : List Bool) (hl : l.length = n) (hW : 0 < W) (hD : ∀ k, 1 ≤ k → k ≤ W → D.getD k false = p.testBit (W - k)) (hp : p < 2 ^ W) :
    ∀ i, i ≤ n → ∀ j, i ≤ j → (ld D W i (l ++ List.replicate W false ++ t)).getD j false = ((l ++ List.replicate W false ++ t).getD j false != win W (crc W p 0 (l.take i)) i j)
  | 0, _, j, _ => by
    have : win W (crc W p 0 (l.take 0)) 0 j = false := by simp [win, crc]
    rw [this]; simp [ld]
  | i + 1, hi, j, hj => by
    have ih := ld_get D W p n l t hl hW hD hp i (by omega)
    have hlen : (ld D W i (l ++ List.replicate W false ++ t)).length = n + W + t.length := by rw [ld_len]; simp; omega
    have hb : (l ++ List.replicate W false ++ t).getD i false = l.getD i false := by
      rw [List.getD_eq_getElem?_getD, List.getD_eq_getElem?_getD, List.append_assoc, List.getElem?_append_left (by omega)]
    have hi0 := ih i (Nat.le_refl _)
    have hw0 : win W (crc W p 0 (l.take i)) i i = (crc W p 0 (l.take i)).testBit (W - 1) := by simp [win, hW]
    rw [hb, hw0] at hi0
    have hn := win_next W p (crc W p 0 (l.take i)) i j D (l.getD i false) _ hW hD hp hj rfl
    rw [take_next l i false (by omega), crc_snoc, ← hn]
    simp only [ld]
    rw [hi0]
    have e : ((crc W p 0 (l.take i)).testBit (W - 1) != l.getD i false) = (l.getD i false != (crc W p 0 (l.take i)).testBit (W - 1)) := by cases (crc W p 0 (l.take i)).testBit (W - 1) <;> cases l.getD i false <;> rfl
    rw [e]
    cases hc : (l.getD i false != (crc W p 0 (l.take i)).testBit (W - 1))
    · simp only [Bool.false_eq_true, if_false, Bool.false_and, Bool.bne_false]
      exact ih j (by omega)
    · simp only [if_true, Bool.true_and]
      rw [xr_get _ _ _ _ (by rw [hlen]; omega), ih j (by omega)]
      generalize (l ++ List.replicate W false ++ t).getD j false = x
      generalize win W _ i j = y
      generalize (decide (i ≤ j) && decide (j < i + (W + 1)) && D.getD (j - i) false) = z
      cases x <;> cases y <;> cases z <;> rfl
theorem bt_get (W s : Nat) : ∀ k i, i < k → (bt W s k).getD i false = s.testBit (W - 1 - i)
  | 0, i, h => by omega
  | k + 1, i, h => by
    simp only [bt]
    by_cases e : i < k
    · rw [← bt_get W s k i e, List.getD_eq_getElem?_getD, List.getElem?_append_left (by rw [bt_len]; exact e), ← List.getD_eq_getElem?_getD]
    · have : i = k := by omega
      subst this
      rw [List.getD_eq_getElem?_getD, List.getElem?_append_right (by rw [bt_len]; exact Nat.le_refl _)]
      simp [bt_len]
theorem getD_ext {a b : List Bool} {n : Nat} (ha : a.length = n) (hb : b.length = n) (h : ∀ i, i < n → a.getD i false = b.getD i false) : a = b := by
  apply List.ext_getElem (by omega)
  intro i h1 h2
  have := h i (by omega)
  simpa [List.getD, h1, h2] using this
theorem ld_sum (D : List Bool) (W p n : Nat) (l t : List Bool) (hl : l.length = n) (hW : 0 < W) (hD : ∀ k, 1 ≤ k → k ≤ W → D.getD k false = p.testBit (W - k)) (hp : p < 2 ^ W) :
    part (ld D W n (l ++ List.replicate W false ++ t)) n W = bt W (crc W p 0 l) W := by
  have hlen : (ld D W n (l ++ List.replicate W false ++ t)).length = n + W + t.length := by rw [ld_len]; simp; omega
  apply getD_ext (part_len (by omega)) (bt_len _ _ _)
  intro i hi
  rw [part_get hi, ld_get D W p n l t hl hW hD hp n (Nat.le_refl _) (n + i) (by omega), bt_get _ _ _ _ hi, List.take_of_length_le (by omega)]
  have : (l ++ List.replicate W false ++ t).getD (n + i) false = false := by
    rw [List.getD_eq_getElem?_getD, List.append_assoc, List.getElem?_append_right (by omega), List.getElem?_append_left (by simp; omega), List.getElem?_replicate]
    split <;> rfl
  rw [this]
  simp [win, hi]
/-- The same, where the bits are given one by one. -/
def lo (D : List Bool) (W : Nat) (B : List Bool) : Nat → List Bool → List Bool
  | 0, L => L
  | i + 1, L => if ((lo D W B i L).getD i false != B.getD i false) then xr D i (W + 1) ((lo D W B i L).set i ((lo D W B i L).getD i false != B.getD i false)) else (lo D W B i L).set i ((lo D W B i L).getD i false != B.getD i false)
theorem lo_len (D : List Bool) (W : Nat) (B L : List Bool) : ∀ i, (lo D W B i L).length = L.length
  | 0 => rfl
  | i + 1 => by
    simp only [lo]
    split
    · rw [xr_len, List.length_set, lo_len D W B L i]
    · rw [List.length_set]; exact lo_len D W B L i
theorem lo_get (D : List Bool) (W p n s : Nat) (B t : List Bool) (hn : n ≤ B.length) (hW : 0 < W) (hD : ∀ k, 1 ≤ k → k ≤ W → D.getD k false = p.testBit (W - k)) (hp : p < 2 ^ W) :
    ∀ i, i ≤ n → ∀ j, i ≤ j → j < n + W → (lo D W B i (bt W s W ++ List.replicate n false ++ t)).getD j false = win W (crc W p s (B.take i)) i j
  | 0, _, j, _, hj => by
    simp only [lo, win, crc, List.take_zero]
    simp only [Nat.zero_le, decide_true, Bool.true_and, Nat.zero_add, Nat.sub_zero]
    by_cases h : j < W
    · rw [decide_eq_true h, Bool.true_and, ← bt_get W s W j h, List.getD_eq_getElem?_getD, List.append_assoc, List.getElem?_append_left (by rw [bt_len]; exact h), ← List.getD_eq_getElem?_getD]
    · rw [decide_eq_false h, Bool.false_and, List.getD_eq_getElem?_getD, List.append_assoc, List.getElem?_append_right (by rw [bt_len]; omega), bt_len, List.getElem?_append_left (by simp; omega), List.getElem?_replicate]
      split <;> rfl
  | i + 1, hi, j, hj, hjn => by
    have ih := lo_get D W p n s B t hn hW hD hp i (by omega)
    have hlen : (lo D W B i (bt W s W ++ List.replicate n false ++ t)).length = W + n + t.length := by rw [lo_len]; simp [bt_len]; omega
    have hi0 := ih i (Nat.le_refl _) (by omega)
    have hw0 : win W (crc W p s (B.take i)) i i = (crc W p s (B.take i)).testBit (W - 1) := by simp [win, hW]
    rw [hw0] at hi0
    have hx := win_next W p (crc W p s (B.take i)) i j D (B.getD i false) _ hW hD hp hj rfl
    rw [take_next B i false (by omega), crc_snoc, ← hx]
    simp only [lo]
    rw [hi0]
    have hs : ∀ x, ((lo D W B i (bt W s W ++ List.replicate n false ++ t)).set i x).getD j false = win W (crc W p s (B.take i)) i j := fun x => by
      rw [← ih j (by omega) hjn, List.getD_eq_getElem?_getD, List.getElem?_set_ne (by omega), ← List.getD_eq_getElem?_getD]
    cases hc : ((crc W p s (B.take i)).testBit (W - 1) != B.getD i false)
    · simp only [Bool.false_eq_true, if_false, Bool.false_and, Bool.bne_false]
      exact hs _
    · simp only [if_true, Bool.true_and]
      rw [xr_get _ _ _ _ (by rw [List.length_set, hlen]; omega), hs]
theorem lo_sum (D : List Bool) (W p n s : Nat) (B t : List Bool) (hn : n ≤ B.length) (hW : 0 < W) (hD : ∀ k, 1 ≤ k → k ≤ W → D.getD k false = p.testBit (W - k)) (hp : p < 2 ^ W) :
    part (lo D W B n (bt W s W ++ List.replicate n false ++ t)) n W = bt W (crc W p s (B.take n)) W := by
  have hlen : (lo D W B n (bt W s W ++ List.replicate n false ++ t)).length = W + n + t.length := by rw [lo_len]; simp [bt_len]; omega
  apply getD_ext (part_len (by omega)) (bt_len _ _ _)
  intro i hi
  rw [part_get hi, lo_get D W p n s B t hn hW hD hp n (Nat.le_refl _) (n + i) (by omega) (by omega), bt_get _ _ _ _ hi]
  simp [win, hi]
/-- A number, bit by bit, the highest first. -/
def numB : List Bool → Nat → Nat
  | [], s => s
  | b :: l, s => numB l (2 * s + b.toNat)
theorem numB_append : ∀ (l m : List Bool) (s : Nat), numB (l ++ m) s = numB m (numB l s)
  | [], _, _ => rfl
  | b :: l, m, s => by simp only [List.cons_append, numB, numB_append l m]
theorem numB_lt : ∀ (l : List Bool) (s : Nat), numB l s < 2 ^ l.length * (s + 1)
  | [], s => by simp [numB]
  | b :: l, s => by
    have := numB_lt l (2 * s + b.toNat)
    have hb : b.toNat ≤ 1 := by cases b <;> simp
    simp only [numB, List.length_cons]
    refine Nat.lt_of_lt_of_le this ?_
    rw [Nat.pow_succ, Nat.mul_assoc]
    exact Nat.mul_le_mul_left _ (by omega)
theorem numB_bt (W s : Nat) : ∀ k, k ≤ W → numB (bt W s k) 0 = (s / 2 ^ (W - k)) % 2 ^ k
  | 0, _ => by simp [bt, numB, Nat.mod_one]
  | k + 1, hk => by
    simp only [bt, numB_append, numB, numB_bt W s k (by omega)]
    have e1 : s / 2 ^ (W - k) = s / 2 ^ (W - 1 - k) / 2 := by
      rw [Nat.div_div_eq_div_mul, ← Nat.pow_succ]; congr 2; omega
    have e2 : (s.testBit (W - 1 - k)).toNat = s / 2 ^ (W - 1 - k) % 2 := by
      rw [Nat.testBit_eq_decide_div_mod_eq]
      have := Nat.mod_two_eq_zero_or_one (s / 2 ^ (W - 1 - k))
      rcases this with h | h <;> simp [h]
    rw [e1, e2, show W - (k + 1) = W - 1 - k by omega, Nat.pow_succ]
    generalize s / 2 ^ (W - 1 - k) = x
    rw [Nat.mul_comm (2 ^ k) 2, Nat.mod_mul]
    omega
theorem numB_all (W s : Nat) (hs : s < 2 ^ W) : numB (bt W s W) 0 = s := by
  rw [numB_bt W s W (Nat.le_refl _)]; simp [Nat.mod_eq_of_lt hs]
end Go.Proofs.Ytkffpcifkeaabaa

set_option linter.unusedVariables false
set_option linter.unusedSimpArgs false
namespace Go.Proofs.Ytkffpcifkeaabaa
open Go Go.Fw
def wtys3 : List (Nat × TyI) := wtys2 ++ [(81, ⟨.slice 3, 1, 24, .slice none 0 0⟩)]
theorem wtok3 : TOk Try.prog wtys3 := by
  intro p hp
  rcases List.mem_append.1 hp with h | h
  · exact wtok2 p h
  · simp only [List.mem_cons, List.not_mem_nil, or_false] at h
    subst h
    exact ⟨by kernel_rfl, by kernel_rfl⟩
def cfg3 (k : Nat) : Cfg := { T := wtys3, sgn := fun _ => false, wr := fun _ => false, k := k, q := qf }
def dt : Nat → List Int
  | 32 => [32, 26, 23, 22, 16, 12, 11, 10, 8, 7, 5, 4, 2, 1, 0]
  | _ => [16, 12, 5, 0]
def dvr (W : Nat) (T : List Int) : Nat → List Bool
  | 0 => List.replicate (W + 1) false
  | k + 1 => (dvr W T k).set (W - (T.getD k 0).toNat) true
theorem dvr_len (W : Nat) (T : List Int) : ∀ k, (dvr W T k).length = W + 1
  | 0 => by simp [dvr]
  | k + 1 => by simp only [dvr, List.length_set, dvr_len W T k]
def dvd (W : Nat) : List Bool := dvr W (dt W) (dt W).length
def inv46 (W m : Nat) (T : List Int) : LInv := ⟨Nat, fun k => ⟨anyTo 28 [.int .i64 W, .any, .any, .slice 0 0 m m, .slice 1 0 (W + 1) (W + 1), .int .i64 k], [.seg false (.ints .i64 T), .seg true (.bools (dvr W T k))]⟩, fun k => k ≤ m, fun k => m - k⟩
noncomputable def c46 : Code := (Try.f46.body).getD .skip
set_option maxHeartbeats 0 in
set_option maxRecDepth 100000 in
theorem Div16_f : Fits Try.prog 46 ⟨[.int .i64 (16 : Nat)], [], [⟨Unit, fun _ => True, fun _ => .slice 0 0 17 17, fun _ => [.seg true (.bools (dvd 16))]⟩]⟩ := by
  have hT : ∀ k, k < 4 → 0 ≤ (dt 16).getD k 0 ∧ (dt 16).getD k 0 ≤ 16 := by decide
  have hm : (dt 16).length = 4 := rfl
  refine fits_of_body (C := cfg3 0) (c := c46) (ts := [2]) wtok3 wmixed (fun | 6 => some (inv46 16 4 (dt 16)) | _ => none) (fun _ => none)
    Try.func46 (by kernel_rfl) (by kernel_rfl) (by kernel_rfl) (by kernel_rfl) rfl ?_
  conv => whnf
  refine ⟨by repeat' (first | omega | exact Int.natCast_nonneg _ | (simp only [i64max]; omega) | (simp only [u8max]; omega) | refine And.intro ?_ ?_), ?_⟩
  conv => whnf
  refine ⟨by repeat' (first | omega | exact Int.natCast_nonneg _ | (simp only [i64max]; omega) | (simp only [u8max]; omega) | refine And.intro ?_ ?_), ?_⟩
  conv => whnf
  refine ⟨⟨[0, 1], (0 : Nat), ?_, Nat.zero_le _⟩, ?_⟩
  · conv => whnf
    repeat' (first | exact True.intro | rfl | refine And.intro ?_ ?_)
  · show ∀ k : Nat, k ≤ 4 → forceSt ⟨anyTo 28 [.int .i64 (16 : Nat), .any, .any, .slice 0 0 4 4, .slice 1 0 17 17, .int .i64 k], [.seg false (.ints .i64 (dt 16)), .seg true (.bools (dvr 16 (dt 16) k))]⟩ _
    have hl := dvr_len 16 (dt 16)
    have hs : ∀ k, dvr 16 (dt 16) (k + 1) = (dvr 16 (dt 16) k).set (16 - ((dt 16).getD k 0).toNat) true := fun _ => rfl
    have hfin : dvr 16 (dt 16) 4 = dvd 16 := rfl
    generalize dt 16 = T at *
    intro (k : Nat) (hk : k ≤ 4)
    conv => whnf
    refine tst_in (fun hlt => ?_) (fun hge => ?_)
    · skip
      have hlt : k < 4 := by simp at hlt; omega
      have ht := hT k hlt
      conv => whnf
      refine ⟨by repeat' (first | omega | exact Int.natCast_nonneg _ | (simp only [i64max]; omega) | (simp only [u8max]; omega) | refine And.intro ?_ ?_), ?_⟩
      conv => whnf
      refine ⟨by rw [hm]; show 0 + ((k : Int)).toNat < 4; omega, ?_⟩
      rw [show 0 + ((k : Int)).toNat = k by omega]
      conv => whnf
      refine ⟨by omega, ?_⟩
      conv => whnf
      refine ⟨by omega, ?_⟩
      conv => whnf
      refine ⟨by rw [hl]; omega, ?_⟩
      conv => whnf
      refine ⟨by repeat' (first | omega | exact Int.natCast_nonneg _ | (simp only [i64max]; omega) | (simp only [u8max]; omega) | refine And.intro ?_ ?_), ?_⟩
      conv => whnf
      refine ⟨[0, 1], k + 1, ?_, (by show k + 1 ≤ 4; omega), (by show 4 - (k + 1) < 4 - k; omega)⟩
      conv => whnf
      repeat' (first | exact True.intro | rfl | refine And.intro ?_ ?_)
      all_goals (show dvr 16 T (k + 1) = _; rw [hs]; congr 1; omega)
    · skip
      have hge : k = 4 := by simp at hge; omega
      subst hge
      rw [hfin]
      conv => whnf
      refine .inl ⟨(), [1], ?_⟩
      conv => whnf
      repeat' (first | exact True.intro | rfl | refine And.intro ?_ ?_)
set_option maxHeartbeats 0 in
set_option maxRecDepth 100000 in
theorem Div32_f : Fits Try.prog 46 ⟨[.int .i64 (32 : Nat)], [], [⟨Unit, fun _ => True, fun _ => .slice 0 0 33 33, fun _ => [.seg true (.bools (dvd 32))]⟩]⟩ := by
  have hT : ∀ k, k < 15 → 0 ≤ (dt 32).getD k 0 ∧ (dt 32).getD k 0 ≤ 32 := by decide
  have hm : (dt 32).length = 15 := rfl
  refine fits_of_body (C := cfg3 0) (c := c46) (ts := [2]) wtok3 wmixed (fun | 6 => some (inv46 32 15 (dt 32)) | _ => none) (fun _ => none)
    Try.func46 (by kernel_rfl) (by kernel_rfl) (by kernel_rfl) (by kernel_rfl) rfl ?_
  conv => whnf
  refine ⟨by repeat' (first | omega | exact Int.natCast_nonneg _ | (simp only [i64max]; omega) | (simp only [u8max]; omega) | refine And.intro ?_ ?_), ?_⟩
  conv => whnf
  refine ⟨by repeat' (first | omega | exact Int.natCast_nonneg _ | (simp only [i64max]; omega) | (simp only [u8max]; omega) | refine And.intro ?_ ?_), ?_⟩
  conv => whnf
  refine ⟨⟨[1, 2], (0 : Nat), ?_, Nat.zero_le _⟩, ?_⟩
  · conv => whnf
    repeat' (first | exact True.intro | rfl | refine And.intro ?_ ?_)
  · show ∀ k : Nat, k ≤ 15 → forceSt ⟨anyTo 28 [.int .i64 (32 : Nat), .any, .any, .slice 0 0 15 15, .slice 1 0 33 33, .int .i64 k], [.seg false (.ints .i64 (dt 32)), .seg true (.bools (dvr 32 (dt 32) k))]⟩ _
    have hl := dvr_len 32 (dt 32)
    have hs : ∀ k, dvr 32 (dt 32) (k + 1) = (dvr 32 (dt 32) k).set (32 - ((dt 32).getD k 0).toNat) true := fun _ => rfl
    have hfin : dvr 32 (dt 32) 15 = dvd 32 := rfl
    generalize dt 32 = T at *
    intro (k : Nat) (hk : k ≤ 15)
    conv => whnf
    refine tst_in (fun hlt => ?_) (fun hge => ?_)
    · skip
      have hlt : k < 15 := by simp at hlt; omega
      have ht := hT k hlt
      conv => whnf
      refine ⟨by repeat' (first | omega | exact Int.natCast_nonneg _ | (simp only [i64max]; omega) | (simp only [u8max]; omega) | refine And.intro ?_ ?_), ?_⟩
      conv => whnf
      refine ⟨by rw [hm]; show 0 + ((k : Int)).toNat < 15; omega, ?_⟩
      rw [show 0 + ((k : Int)).toNat = k by omega]
      conv => whnf
      refine ⟨by omega, ?_⟩
      conv => whnf
      refine ⟨by omega, ?_⟩
      conv => whnf
      refine ⟨by rw [hl]; omega, ?_⟩
      conv => whnf
      refine ⟨by repeat' (first | omega | exact Int.natCast_nonneg _ | (simp only [i64max]; omega) | (simp only [u8max]; omega) | refine And.intro ?_ ?_), ?_⟩
      conv => whnf
      refine ⟨[0, 1], k + 1, ?_, (by show k + 1 ≤ 15; omega), (by show 15 - (k + 1) < 15 - k; omega)⟩
      conv => whnf
      repeat' (first | exact True.intro | rfl | refine And.intro ?_ ?_)
      all_goals (show dvr 32 T (k + 1) = _; rw [hs]; congr 1; omega)
    · skip
      have hge : k = 15 := by simp at hge; omega
      subst hge
      rw [hfin]
      conv => whnf
      refine .inl ⟨(), [1], ?_⟩
      conv => whnf
      repeat' (first | exact True.intro | rfl | refine And.intro ?_ ?_)
end Go.Proofs.Ytkffpcifkeaabaa

set_option linter.unusedVariables false
set_option linter.unusedSimpArgs false
namespace Go.Proofs.Ytkffpcifkeaabaa
open Go Go.Fw
noncomputable def c23 : Code := (Try.f23.body).getD .skip
def natAt (st : St) (t : Nat) : Nat := match slot st.sl t with | .int _ n => n.toNat | _ => 0
def capAt (st : St) (t : Nat) : Nat := match slot st.sl t with | .slice _ _ _ n => n | _ => 0
def st23 (W n ca : Nat) (A D Z : List Bool) (i : Int) (k : AV) : St := ⟨anyTo 51 [.int .i64 W, .slice 0 0 n ca, .any, .any, .any, .slice 1 0 (W + 1) (W + 1), .slice 2 0 (n + W) Z.length, .int .i64 i, k], [.seg false (.bools A), .seg true (.bools D), .seg true (.bools Z)]⟩
def inv23 (W n ca : Nat) (A D : List Bool) (B : List Bool) : LInv := ⟨Nat × List Bool, fun p => st23 W n ca A D (ld D W p.1 (B ++ List.replicate W false ++ p.2)) p.1 .any, fun p => p.1 ≤ n, fun p => n - p.1⟩
def inv23b (W n ca : Nat) (A D : List Bool) (B : List Bool) (st : St) : LInv := ⟨Nat × List Bool, fun p => st23 W n ca A D (xr D (natAt st 7) p.1 (ld D W (natAt st 7) (B ++ List.replicate W false ++ p.2))) (natAt st 7 : Nat) (.int .i64 p.1), fun p => p.1 ≤ W + 1 ∧ (ld D W (natAt st 7) (B ++ List.replicate W false ++ p.2)).getD (natAt st 7) false = true, fun p => W + 1 - p.1⟩
def cfg23 (W n ca : Nat) (A D : List Bool) (B : List Bool) : Cfg := { cfg3 1 with dep := fun | 8 => some (inv23b W n ca A D B) | _ => none }
def sumOut (W n C : Nat) : FOut := ⟨List Bool, fun Z => part Z n W = bt W C W ∧ n + W ≤ Z.length, fun Z => .slice 1 n W (Z.length - n), fun Z => [.dead, .seg true (.bools Z)]⟩
set_option maxHeartbeats 0 in
set_option maxRecDepth 100000 in
theorem rSum_f (W p : Nat) (A : List Bool) (n ca : Nat) (hA : n ≤ A.length) (hN : n ≤ 32768) (h0 : 0 < W) (hW : W ≤ 32) (hD : ∀ k, 1 ≤ k → k ≤ W → (dvd W).getD k false = p.testBit (W - k)) (hp : p < 2 ^ W) (hDl : (dvd W).length = W + 1)
    (DIV : Fits Try.prog 46 ⟨[.int .i64 W], [], [⟨Unit, fun _ => True, fun _ => .slice 0 0 (W + 1) (W + 1), fun _ => [.seg true (.bools (dvd W))]⟩]⟩) :
    Fits Try.prog 23 ⟨[.int .i64 W, .slice 0 0 n ca], [.seg false (.bools A)], [sumOut W n (crc W p 0 (part A 0 n))]⟩ := by
  have hB : (A.take n).length = n := by simp; omega
  have hsum := fun t => ld_sum (dvd W) W p n (A.take n) t hB h0 hD hp
  have hpart : part A 0 n = A.take n := by simp [part]
  generalize dvd W = D at *
  have hlen : ∀ i t, (ld D W i (A.take n ++ List.replicate W false ++ t)).length = n + W + t.length := fun i t => by rw [ld_len]; simp; omega
  have hxlen : ∀ i k t, (xr D i k (ld D W i (A.take n ++ List.replicate W false ++ t))).length = n + W + t.length := fun i k t => by rw [xr_len]; exact hlen i t
  refine fits_of_body (C := cfg23 W n ca A D (A.take n)) (c := c23) (ts := [4]) wtok3 wmixed (fun | 4 => some (inv23 W n ca A D (A.take n)) | _ => none) (fun _ => none)
    Try.func23 (by kernel_rfl) (by kernel_rfl) (by kernel_rfl) (by kernel_rfl) rfl ?_
  conv => whnf
  refine ⟨_, [], DIV, ?_⟩
  conv => whnf
  refine ⟨?_, ?_, ?_⟩
  · conv => whnf
    repeat' (first | exact True.intro | rfl | refine And.intro ?_ ?_ | omega)
    all_goals (conv => whnf)
    all_goals (try (first | rfl | omega | (simp; done)))
  · conv => whnf
    repeat' (first | exact True.intro | rfl | refine And.intro ?_ ?_ | omega)
    all_goals (conv => whnf)
    all_goals (try (first | rfl | omega | (simp; done)))
  conv => whnf
  refine ⟨?_, True.intro⟩
  intro _ _
  conv => whnf
  conv => whnf
  repeat (first
    | (refine And.intro ?_ ?_; (focus (first | omega | decide | exact Int.natCast_nonneg _ | ((repeat' refine And.intro ?_ ?_) <;> first | omega | (simp only [i64max]; omega) | (simp only [u8max]; omega) | (simp [mulSz, Cont.len, bne]; done) | (simp [mulSz, Cont.len, bne]; omega)))); conv => whnf)
    | (refine tst_in ?_ ?_; (focus (intro h_; exfalso; first | omega | ((try simp only [decide_eq_true_eq, decide_eq_false_iff_not] at h_); omega) | (simp [mulSz, Cont.len, bne] at h_; done) | (simp [mulSz, Cont.len, bne] at h_; omega))); intro _; conv => whnf)
    | (refine tst_in ?_ ?_; rotate_left; (focus (intro h_; exfalso; first | omega | ((try simp only [decide_eq_true_eq, decide_eq_false_iff_not] at h_); omega) | (simp [mulSz, Cont.len, bne] at h_; done) | (simp [mulSz, Cont.len, bne] at h_; omega))); intro _; conv => whnf))
  intro (tz : List Bool)
  conv => whnf
  repeat (first
    | (refine And.intro ?_ ?_; (focus (first | omega | decide | exact Int.natCast_nonneg _ | ((repeat' refine And.intro ?_ ?_) <;> first | omega | (simp only [i64max]; omega) | (simp only [u8max]; omega) | (simp [mulSz, Cont.len, bne]; done) | (simp [mulSz, Cont.len, bne]; omega)))); conv => whnf)
    | (refine tst_in ?_ ?_; (focus (intro h_; exfalso; first | omega | ((try simp only [decide_eq_true_eq, decide_eq_false_iff_not] at h_); omega) | (simp [mulSz, Cont.len, bne] at h_; done) | (simp [mulSz, Cont.len, bne] at h_; omega))); intro _; conv => whnf)
    | (refine tst_in ?_ ?_; rotate_left; (focus (intro h_; exfalso; first | omega | ((try simp only [decide_eq_true_eq, decide_eq_false_iff_not] at h_); omega) | (simp [mulSz, Cont.len, bne] at h_; done) | (simp [mulSz, Cont.len, bne] at h_; omega))); intro _; conv => whnf))
  refine ⟨.bools (List.replicate W false), zerosB W, ?_⟩
  conv => whnf
  repeat (first
    | (refine And.intro ?_ ?_; (focus (first | omega | decide | exact Int.natCast_nonneg _ | ((repeat' refine And.intro ?_ ?_) <;> first | omega | (simp only [i64max]; omega) | (simp only [u8max]; omega) | (simp [mulSz, Cont.len, bne, hB]; done) | (simp [mulSz, Cont.len, bne, hB]; omega)))); conv => whnf)
    | (refine tst_in ?_ ?_; (focus (intro h_; exfalso; first | omega | ((try simp only [decide_eq_true_eq, decide_eq_false_iff_not] at h_); omega) | (simp [mulSz, Cont.len, bne, hB] at h_; done) | (simp [mulSz, Cont.len, bne, hB] at h_; omega))); intro _; conv => whnf)
    | (refine tst_in ?_ ?_; rotate_left; (focus (intro h_; exfalso; first | omega | ((try simp only [decide_eq_true_eq, decide_eq_false_iff_not] at h_); omega) | (simp [mulSz, Cont.len, bne, hB] at h_; done) | (simp [mulSz, Cont.len, bne, hB] at h_; omega))); intro _; conv => whnf))
  intro (tl : List Bool)
  conv => whnf
  repeat (first
    | (refine And.intro ?_ ?_; (focus (first | omega | decide | exact Int.natCast_nonneg _ | ((repeat' refine And.intro ?_ ?_) <;> first | omega | (simp only [i64max]; omega) | (simp only [u8max]; omega) | (simp [mulSz, Cont.len, bne]; done) | (simp [mulSz, Cont.len, bne]; omega)))); conv => whnf)
    | (refine tst_in ?_ ?_; (focus (intro h_; exfalso; first | omega | ((try simp only [decide_eq_true_eq, decide_eq_false_iff_not] at h_); omega) | (simp [mulSz, Cont.len, bne] at h_; done) | (simp [mulSz, Cont.len, bne] at h_; omega))); intro _; conv => whnf)
    | (refine tst_in ?_ ?_; rotate_left; (focus (intro h_; exfalso; first | omega | ((try simp only [decide_eq_true_eq, decide_eq_false_iff_not] at h_); omega) | (simp [mulSz, Cont.len, bne] at h_; done) | (simp [mulSz, Cont.len, bne] at h_; omega))); intro _; conv => whnf))
  refine ⟨⟨[0, 1, 4], ((0, tl) : Nat × List Bool), ?_, Nat.zero_le _⟩, ?_⟩
  · conv => whnf
    repeat' (first | exact True.intro | rfl | refine And.intro ?_ ?_)
    all_goals (conv => whnf)
    repeat' (first | exact True.intro | rfl | refine And.intro ?_ ?_)
    all_goals (try (first | omega | exact True.intro | rfl | assumption | (change LE.le (α := Nat) _ _; first | omega | (simp only [hlen, mulSz, ld]; omega)) | (simp only [hlen, mulSz, ld]; done) | (simp only [hlen, mulSz, ld]; omega) | (simp [hlen, mulSz, ld]; done) | (simp [hlen, mulSz, ld]; omega)))
    all_goals (show (A.take n ++ List.replicate W false ++ tl) = _; simp [mulSz, List.take_append, List.take_take, Nat.min_eq_left hA])
  · rintro ⟨i, tl⟩ hi
    have hi : i ≤ n := hi
    have hil := hlen i tl
    show forceSt (st23 W n ca A D (ld D W i (A.take n ++ List.replicate W false ++ tl)) i .any) _
    conv => whnf
    refine tst_in (fun hlt => ?_) (fun hge => ?_)
    · skip
      have hlt : i < n := by simp at hlt; omega
      have hnx : ld D W (i + 1) (A.take n ++ List.replicate W false ++ tl) = if (ld D W i (A.take n ++ List.replicate W false ++ tl)).getD i false then xr D i (W + 1) (ld D W i (A.take n ++ List.replicate W false ++ tl)) else ld D W i (A.take n ++ List.replicate W false ++ tl) := rfl
      conv => whnf
      repeat (first
        | (refine And.intro ?_ ?_; (focus (first | omega | decide | exact Int.natCast_nonneg _ | ((repeat' refine And.intro ?_ ?_) <;> first | omega | (simp only [i64max]; omega) | (simp only [u8max]; omega) | (simp [mulSz, Cont.len, bne]; done) | (simp [mulSz, Cont.len, bne]; omega)))); conv => whnf)
        | (refine tst_in ?_ ?_; (focus (intro h_; exfalso; first | omega | ((try simp only [decide_eq_true_eq, decide_eq_false_iff_not] at h_); omega) | (simp [mulSz, Cont.len, bne] at h_; done) | (simp [mulSz, Cont.len, bne] at h_; omega))); intro _; conv => whnf)
        | (refine tst_in ?_ ?_; rotate_left; (focus (intro h_; exfalso; first | omega | ((try simp only [decide_eq_true_eq, decide_eq_false_iff_not] at h_); omega) | (simp [mulSz, Cont.len, bne] at h_; done) | (simp [mulSz, Cont.len, bne] at h_; omega))); intro _; conv => whnf))
      rw [show 0 + ((i : Int)).toNat = i by omega]
      refine tst_in (fun hc => ?_) (fun hc => ?_)
      · skip
        rw [if_pos hc] at hnx
        conv => whnf
        repeat (first
          | (refine And.intro ?_ ?_; (focus (first | omega | decide | exact Int.natCast_nonneg _ | ((repeat' refine And.intro ?_ ?_) <;> first | omega | (simp only [i64max]; omega) | (simp only [u8max]; omega) | (simp [mulSz, Cont.len, bne]; done) | (simp [mulSz, Cont.len, bne]; omega)))); conv => whnf)
          | (refine tst_in ?_ ?_; (focus (intro h_; exfalso; first | omega | ((try simp only [decide_eq_true_eq, decide_eq_false_iff_not] at h_); omega) | (simp [mulSz, Cont.len, bne] at h_; done) | (simp [mulSz, Cont.len, bne] at h_; omega))); intro _; conv => whnf)
          | (refine tst_in ?_ ?_; rotate_left; (focus (intro h_; exfalso; first | omega | ((try simp only [decide_eq_true_eq, decide_eq_false_iff_not] at h_); omega) | (simp [mulSz, Cont.len, bne] at h_; done) | (simp [mulSz, Cont.len, bne] at h_; omega))); intro _; conv => whnf))
        refine ⟨⟨[0, 1, 2], ((0, tl) : Nat × List Bool), ?_, ⟨Nat.zero_le _, hc⟩⟩, ?_⟩
        · conv => whnf
          repeat' (first | exact True.intro | rfl | refine And.intro ?_ ?_)
          all_goals (conv => whnf)
          repeat' (first | exact True.intro | rfl | refine And.intro ?_ ?_)
          all_goals (try (first | omega | exact True.intro | rfl | assumption | (change LE.le (α := Nat) _ _; first | omega | (simp only [hlen, xr]; omega)) | (simp only [hlen, xr]; done) | (simp only [hlen, xr]; omega) | (simp [hlen, xr]; done) | (simp [hlen, xr]; omega)))
        · rintro ⟨k, tl⟩ ⟨hk, hc⟩
          have hk : k ≤ W + 1 := hk
          have hcc : (ld D W i (A.take n ++ List.replicate W false ++ tl)).getD i false = true := hc
          have hkl := hxlen i k tl
          have hxn : xr D i (k + 1) (ld D W i (A.take n ++ List.replicate W false ++ tl)) = (xr D i k (ld D W i (A.take n ++ List.replicate W false ++ tl))).set (i + k) ((xr D i k (ld D W i (A.take n ++ List.replicate W false ++ tl))).getD (i + k) false != D.getD k false) := rfl
          have hnx : ld D W (i + 1) (A.take n ++ List.replicate W false ++ tl) = if (ld D W i (A.take n ++ List.replicate W false ++ tl)).getD i false then xr D i (W + 1) (ld D W i (A.take n ++ List.replicate W false ++ tl)) else ld D W i (A.take n ++ List.replicate W false ++ tl) := rfl
          show forceSt (st23 W n ca A D (xr D i k (ld D W i (A.take n ++ List.replicate W false ++ tl))) i (.int .i64 k)) _
          conv => whnf
          refine tst_in (fun hkt => ?_) (fun hkt => ?_)
          · skip
            have hkt : k ≤ W := by simp at hkt; omega
            conv => whnf
            repeat (first
              | (refine And.intro ?_ ?_; (focus (first | omega | decide | exact Int.natCast_nonneg _ | ((repeat' refine And.intro ?_ ?_) <;> first | omega | (simp only [i64max]; omega) | (simp only [u8max]; omega) | (simp [mulSz, Cont.len, bne]; done) | (simp [mulSz, Cont.len, bne]; omega)))); conv => whnf)
              | (refine tst_in ?_ ?_; (focus (intro h_; exfalso; first | omega | ((try simp only [decide_eq_true_eq, decide_eq_false_iff_not] at h_); omega) | (simp [mulSz, Cont.len, bne] at h_; done) | (simp [mulSz, Cont.len, bne] at h_; omega))); intro _; conv => whnf)
              | (refine tst_in ?_ ?_; rotate_left; (focus (intro h_; exfalso; first | omega | ((try simp only [decide_eq_true_eq, decide_eq_false_iff_not] at h_); omega) | (simp [mulSz, Cont.len, bne] at h_; done) | (simp [mulSz, Cont.len, bne] at h_; omega))); intro _; conv => whnf))
            refine ⟨[0, 1, 2], ((k + 1, tl) : Nat × List Bool), ?_, ⟨(by show k + 1 ≤ W + 1; omega), hc⟩, (by show W + 1 - (k + 1) < W + 1 - k; omega)⟩
            conv => whnf
            repeat' (first | exact True.intro | rfl | refine And.intro ?_ ?_)
            all_goals (conv => whnf)
            repeat' (first | exact True.intro | rfl | refine And.intro ?_ ?_)
            all_goals (try (first | omega | exact True.intro | rfl | assumption | (change LE.le (α := Nat) _ _; first | omega | (simp only [hlen, hxlen]; omega)) | (simp only [hlen, hxlen]; done) | (simp only [hlen, hxlen]; omega) | (simp [hlen, hxlen]; done) | (simp [hlen, hxlen]; omega)))
            all_goals (show xr D i (k + 1) (ld D W i (A.take n ++ List.replicate W false ++ tl)) = _; rw [hxn]; congr 1 <;> first | omega | (congr 2 <;> omega))
          · skip
            have hkt : k = W + 1 := by simp at hkt; omega
            subst hkt
            conv => whnf
            repeat (first
              | (refine And.intro ?_ ?_; (focus (first | omega | decide | exact Int.natCast_nonneg _ | ((repeat' refine And.intro ?_ ?_) <;> first | omega | (simp only [i64max]; omega) | (simp only [u8max]; omega) | (simp [mulSz, Cont.len, bne]; done) | (simp [mulSz, Cont.len, bne]; omega)))); conv => whnf)
              | (refine tst_in ?_ ?_; (focus (intro h_; exfalso; first | omega | ((try simp only [decide_eq_true_eq, decide_eq_false_iff_not] at h_); omega) | (simp [mulSz, Cont.len, bne] at h_; done) | (simp [mulSz, Cont.len, bne] at h_; omega))); intro _; conv => whnf)
              | (refine tst_in ?_ ?_; rotate_left; (focus (intro h_; exfalso; first | omega | ((try simp only [decide_eq_true_eq, decide_eq_false_iff_not] at h_); omega) | (simp [mulSz, Cont.len, bne] at h_; done) | (simp [mulSz, Cont.len, bne] at h_; omega))); intro _; conv => whnf))
            refine ⟨[0, 1, 2], ((i + 1, tl) : Nat × List Bool), ?_, hlt, (by show n - (i + 1) < n - i; omega)⟩
            rw [if_pos hcc] at hnx
            conv => whnf
            repeat' (first | exact True.intro | rfl | refine And.intro ?_ ?_)
            all_goals (conv => whnf)
            repeat' (first | exact True.intro | rfl | refine And.intro ?_ ?_)
            all_goals (try (first | omega | exact True.intro | rfl | assumption | (change LE.le (α := Nat) _ _; first | omega | (simp only [hlen, hxlen, hnx]; omega)) | (simp only [hlen, hxlen, hnx]; done) | (simp only [hlen, hxlen, hnx]; omega) | (simp [hlen, hxlen, hnx]; done) | (simp [hlen, hxlen, hnx]; omega)))
      · skip
        rw [if_neg (by rw [hc]; decide)] at hnx
        conv => whnf
        repeat (first
          | (refine And.intro ?_ ?_; (focus (first | omega | decide | exact Int.natCast_nonneg _ | ((repeat' refine And.intro ?_ ?_) <;> first | omega | (simp only [i64max]; omega) | (simp only [u8max]; omega) | (simp [mulSz, Cont.len, bne]; done) | (simp [mulSz, Cont.len, bne]; omega)))); conv => whnf)
          | (refine tst_in ?_ ?_; (focus (intro h_; exfalso; first | omega | ((try simp only [decide_eq_true_eq, decide_eq_false_iff_not] at h_); omega) | (simp [mulSz, Cont.len, bne] at h_; done) | (simp [mulSz, Cont.len, bne] at h_; omega))); intro _; conv => whnf)
          | (refine tst_in ?_ ?_; rotate_left; (focus (intro h_; exfalso; first | omega | ((try simp only [decide_eq_true_eq, decide_eq_false_iff_not] at h_); omega) | (simp [mulSz, Cont.len, bne] at h_; done) | (simp [mulSz, Cont.len, bne] at h_; omega))); intro _; conv => whnf))
        refine ⟨[0, 1, 2], ((i + 1, tl) : Nat × List Bool), ?_, hlt, (by show n - (i + 1) < n - i; omega)⟩
        conv => whnf
        repeat' (first | exact True.intro | rfl | refine And.intro ?_ ?_)
        all_goals (conv => whnf)
        repeat' (first | exact True.intro | rfl | refine And.intro ?_ ?_)
        all_goals (try (first | omega | exact True.intro | rfl | assumption | (change LE.le (α := Nat) _ _; first | omega | (simp only [hnx, hil, hlen]; omega)) | (simp only [hnx, hil, hlen]; done) | (simp only [hnx, hil, hlen]; omega) | (simp [hnx, hil, hlen]; done) | (simp [hnx, hil, hlen]; omega)))
    · skip
      have hge : i = n := by simp at hge; omega
      subst hge
      conv => whnf
      repeat (first
        | (refine And.intro ?_ ?_; (focus (first | omega | decide | exact Int.natCast_nonneg _ | ((repeat' refine And.intro ?_ ?_) <;> first | omega | (simp only [i64max]; omega) | (simp only [u8max]; omega) | (simp [mulSz, Cont.len, bne]; done) | (simp [mulSz, Cont.len, bne]; omega)))); conv => whnf)
        | (refine tst_in ?_ ?_; (focus (intro h_; exfalso; first | omega | ((try simp only [decide_eq_true_eq, decide_eq_false_iff_not] at h_); omega) | (simp [mulSz, Cont.len, bne] at h_; done) | (simp [mulSz, Cont.len, bne] at h_; omega))); intro _; conv => whnf)
        | (refine tst_in ?_ ?_; rotate_left; (focus (intro h_; exfalso; first | omega | ((try simp only [decide_eq_true_eq, decide_eq_false_iff_not] at h_); omega) | (simp [mulSz, Cont.len, bne] at h_; done) | (simp [mulSz, Cont.len, bne] at h_; omega))); intro _; conv => whnf))
      refine .inl ⟨ld D W i (List.take i A ++ List.replicate W false ++ tl), [0, 2], ?_⟩
      have hs2 := hsum tl
      rw [← hpart] at hs2
      conv => whnf
      repeat' (first | exact True.intro | rfl | refine And.intro ?_ ?_)
      all_goals (conv => whnf)
      repeat' (first | exact True.intro | rfl | refine And.intro ?_ ?_)
      all_goals (try (first | omega | exact True.intro | rfl | assumption | (change LE.le (α := Nat) _ _; first | omega | (simp only [hlen, hs2]; omega)) | (simp only [hlen, hs2]; done) | (simp only [hlen, hs2]; omega) | (simp [hlen, hs2]; done) | (simp [hlen, hs2]; omega)))
end Go.Proofs.Ytkffpcifkeaabaa

set_option linter.unusedVariables false
set_option linter.unusedSimpArgs false
namespace Go.Proofs.Ytkffpcifkeaabaa
open Go Go.Fw
/-- A number's bits, read. -/
def inv22 (A : List Bool) (off n ca : Nat) : LInv := ⟨Nat, fun k => ⟨anyTo 20 [.slice 0 off n ca, .any, .any, .int .u32 (numB (part A off k) 0 : Nat), .int .i64 k], [.seg false (.bools A)]⟩, fun k => k ≤ n, fun k => n - k⟩
noncomputable def c22 : Code := (Try.f22.body).getD .skip
set_option maxHeartbeats 0 in
set_option maxRecDepth 100000 in
theorem Number_f (A : List Bool) (off n ca : Nat) (hA : off + n ≤ A.length) (hN : n ≤ 32) :
    Fits Try.prog 22 ⟨[.slice 0 off n ca], [.seg false (.bools A)], [numOut [.dead] (.int .u32 (numB (part A off n) 0 : Nat))]⟩ := by
  refine fits_of_body (C := cfg3 1) (c := c22) (ts := [2]) wtok3 wmixed (fun | 3 => some (inv22 A off n ca) | _ => none) (fun _ => none)
    Try.func22 (by kernel_rfl) (by kernel_rfl) (by kernel_rfl) (by kernel_rfl) rfl ?_
  conv => whnf
  repeat (first
    | (refine And.intro ?_ ?_; (focus (first | omega | decide | exact Int.natCast_nonneg _ | ((repeat' refine And.intro ?_ ?_) <;> first | omega | (simp only [i64max]; omega) | (simp only [u8max]; omega) | (simp [mulSz, Cont.len, bne]; done) | (simp [mulSz, Cont.len, bne]; omega)))); conv => whnf)
    | (refine tst_in ?_ ?_; (focus (intro h_; exfalso; first | omega | ((try simp only [decide_eq_true_eq, decide_eq_false_iff_not] at h_); omega) | (simp [mulSz, Cont.len, bne] at h_; done) | (simp [mulSz, Cont.len, bne] at h_; omega))); intro _; conv => whnf)
    | (refine tst_in ?_ ?_; rotate_left; (focus (intro h_; exfalso; first | omega | ((try simp only [decide_eq_true_eq, decide_eq_false_iff_not] at h_); omega) | (simp [mulSz, Cont.len, bne] at h_; done) | (simp [mulSz, Cont.len, bne] at h_; omega))); intro _; conv => whnf))
  refine ⟨⟨[0], (0 : Nat), ?_, Nat.zero_le _⟩, ?_⟩
  · conv => whnf
    repeat' (first | exact True.intro | rfl | refine And.intro ?_ ?_)
    all_goals (conv => whnf)
    repeat' (first | exact True.intro | rfl | refine And.intro ?_ ?_)
    all_goals (try (first | omega | exact True.intro | rfl | assumption | (change LE.le (α := Nat) _ _; first | omega | (simp only [part, numB]; omega)) | (simp only [part, numB]; done) | (simp only [part, numB]; omega) | (simp [part, numB]; done) | (simp [part, numB]; omega)))
  · intro (k : Nat) (hk : k ≤ n)
    have hb := numB_lt (part A off k) 0
    rw [part_len (by omega)] at hb
    have hp : 2 ^ k ≤ 2 ^ 32 := Nat.pow_le_pow_right (by decide) (by omega)
    conv => whnf
    refine tst_in (fun hlt => ?_) (fun hge => ?_)
    · skip
      have hlt : k < n := by simp at hlt; omega
      have hp2 : 2 ^ (k + 1) ≤ 2 ^ 32 := Nat.pow_le_pow_right (by decide) (by omega)
      rw [Nat.pow_succ] at hp2
      have hx : part A off (k + 1) = part A off k ++ [A.getD (off + k) false] := by
        have := part_next (A := A) (off := off) (n := n) (k := k) hA hlt
        simp only [part, List.take_take] at this ⊢
        rw [Nat.min_eq_left (by omega), Nat.min_eq_left (by omega)] at this
        exact this
      have hv : numB (part A off (k + 1)) 0 = 2 * numB (part A off k) 0 + (A.getD (off + k) false).toNat := by rw [hx, numB_append]; rfl
      generalize numB (part A off k) 0 = v at *
      have hv2 : IntKind.u32.wrap (2 * (v : Int)) = ((2 * v : Nat) : Int) := by rw [u32wrap]; omega
      conv => whnf
      repeat (first
        | (refine And.intro ?_ ?_; (focus (first | omega | decide | exact Int.natCast_nonneg _ | ((repeat' refine And.intro ?_ ?_) <;> first | omega | (simp only [i64max]; omega) | (simp only [u8max]; omega) | (simp [mulSz, Cont.len, bne]; done) | (simp [mulSz, Cont.len, bne]; omega)))); conv => whnf)
        | (refine tst_in ?_ ?_; (focus (intro h_; exfalso; first | omega | ((try simp only [decide_eq_true_eq, decide_eq_false_iff_not] at h_); omega) | (simp [mulSz, Cont.len, bne] at h_; done) | (simp [mulSz, Cont.len, bne] at h_; omega))); intro _; conv => whnf)
        | (refine tst_in ?_ ?_; rotate_left; (focus (intro h_; exfalso; first | omega | ((try simp only [decide_eq_true_eq, decide_eq_false_iff_not] at h_); omega) | (simp [mulSz, Cont.len, bne] at h_; done) | (simp [mulSz, Cont.len, bne] at h_; omega))); intro _; conv => whnf))
      rw [hv2]
      conv => whnf
      repeat (first
        | (refine And.intro ?_ ?_; (focus (first | omega | decide | exact Int.natCast_nonneg _ | ((repeat' refine And.intro ?_ ?_) <;> first | omega | (simp only [i64max]; omega) | (simp only [u8max]; omega) | (simp [mulSz, Cont.len, bne]; done) | (simp [mulSz, Cont.len, bne]; omega)))); conv => whnf)
        | (refine tst_in ?_ ?_; (focus (intro h_; exfalso; first | omega | ((try simp only [decide_eq_true_eq, decide_eq_false_iff_not] at h_); omega) | (simp [mulSz, Cont.len, bne] at h_; done) | (simp [mulSz, Cont.len, bne] at h_; omega))); intro _; conv => whnf)
        | (refine tst_in ?_ ?_; rotate_left; (focus (intro h_; exfalso; first | omega | ((try simp only [decide_eq_true_eq, decide_eq_false_iff_not] at h_); omega) | (simp [mulSz, Cont.len, bne] at h_; done) | (simp [mulSz, Cont.len, bne] at h_; omega))); intro _; conv => whnf))
      rw [show off + ((k : Int)).toNat = off + k by omega]
      refine tst_in (fun hc => ?_) (fun hc => ?_)
      · skip
        rw [hc] at hv
        conv => whnf
        repeat (first
          | (refine And.intro ?_ ?_; (focus (first | omega | decide | exact Int.natCast_nonneg _ | ((repeat' refine And.intro ?_ ?_) <;> first | omega | (simp only [i64max]; omega) | (simp only [u8max]; omega) | (simp [mulSz, Cont.len, bne]; done) | (simp [mulSz, Cont.len, bne]; omega)))); conv => whnf)
          | (refine tst_in ?_ ?_; (focus (intro h_; exfalso; first | omega | ((try simp only [decide_eq_true_eq, decide_eq_false_iff_not] at h_); omega) | (simp [mulSz, Cont.len, bne] at h_; done) | (simp [mulSz, Cont.len, bne] at h_; omega))); intro _; conv => whnf)
          | (refine tst_in ?_ ?_; rotate_left; (focus (intro h_; exfalso; first | omega | ((try simp only [decide_eq_true_eq, decide_eq_false_iff_not] at h_); omega) | (simp [mulSz, Cont.len, bne] at h_; done) | (simp [mulSz, Cont.len, bne] at h_; omega))); intro _; conv => whnf))
        rw [show IntKind.u32.wrap (((2 * v : Nat) : Int) + 1) = ((2 * v + 1 : Nat) : Int) by rw [u32wrap]; omega]
        conv => whnf
        repeat (first
          | (refine And.intro ?_ ?_; (focus (first | omega | decide | exact Int.natCast_nonneg _ | ((repeat' refine And.intro ?_ ?_) <;> first | omega | (simp only [i64max]; omega) | (simp only [u8max]; omega) | (simp [mulSz, Cont.len, bne]; done) | (simp [mulSz, Cont.len, bne]; omega)))); conv => whnf)
          | (refine tst_in ?_ ?_; (focus (intro h_; exfalso; first | omega | ((try simp only [decide_eq_true_eq, decide_eq_false_iff_not] at h_); omega) | (simp [mulSz, Cont.len, bne] at h_; done) | (simp [mulSz, Cont.len, bne] at h_; omega))); intro _; conv => whnf)
          | (refine tst_in ?_ ?_; rotate_left; (focus (intro h_; exfalso; first | omega | ((try simp only [decide_eq_true_eq, decide_eq_false_iff_not] at h_); omega) | (simp [mulSz, Cont.len, bne] at h_; done) | (simp [mulSz, Cont.len, bne] at h_; omega))); intro _; conv => whnf))
        refine ⟨[0], k + 1, ?_, (by show k + 1 ≤ n; omega), (by show n - (k + 1) < n - k; omega)⟩
        conv => whnf
        repeat' (first | exact True.intro | rfl | refine And.intro ?_ ?_)
        all_goals (conv => whnf)
        repeat' (first | exact True.intro | rfl | refine And.intro ?_ ?_)
        all_goals (try (first | omega | exact True.intro | rfl | assumption | (change LE.le (α := Nat) _ _; first | omega | (simp only [hv]; omega)) | (simp only [hv]; done) | (simp only [hv]; omega) | (simp [hv]; done) | (simp [hv]; omega)))
      · skip
        rw [hc] at hv
        conv => whnf
        repeat (first
          | (refine And.intro ?_ ?_; (focus (first | omega | decide | exact Int.natCast_nonneg _ | ((repeat' refine And.intro ?_ ?_) <;> first | omega | (simp only [i64max]; omega) | (simp only [u8max]; omega) | (simp [mulSz, Cont.len, bne]; done) | (simp [mulSz, Cont.len, bne]; omega)))); conv => whnf)
          | (refine tst_in ?_ ?_; (focus (intro h_; exfalso; first | omega | ((try simp only [decide_eq_true_eq, decide_eq_false_iff_not] at h_); omega) | (simp [mulSz, Cont.len, bne] at h_; done) | (simp [mulSz, Cont.len, bne] at h_; omega))); intro _; conv => whnf)
          | (refine tst_in ?_ ?_; rotate_left; (focus (intro h_; exfalso; first | omega | ((try simp only [decide_eq_true_eq, decide_eq_false_iff_not] at h_); omega) | (simp [mulSz, Cont.len, bne] at h_; done) | (simp [mulSz, Cont.len, bne] at h_; omega))); intro _; conv => whnf))
        refine ⟨[0], k + 1, ?_, (by show k + 1 ≤ n; omega), (by show n - (k + 1) < n - k; omega)⟩
        conv => whnf
        repeat' (first | exact True.intro | rfl | refine And.intro ?_ ?_)
        all_goals (conv => whnf)
        repeat' (first | exact True.intro | rfl | refine And.intro ?_ ?_)
        all_goals (try (first | omega | exact True.intro | rfl | assumption | (change LE.le (α := Nat) _ _; first | omega | (simp only [hv]; omega)) | (simp only [hv]; done) | (simp only [hv]; omega) | (simp [hv]; done) | (simp [hv]; omega)))
    · skip
      have hge : k = n := by simp at hge; omega
      subst hge
      conv => whnf
      repeat (first
        | (refine And.intro ?_ ?_; (focus (first | omega | decide | exact Int.natCast_nonneg _ | ((repeat' refine And.intro ?_ ?_) <;> first | omega | (simp only [i64max]; omega) | (simp only [u8max]; omega) | (simp [mulSz, Cont.len, bne]; done) | (simp [mulSz, Cont.len, bne]; omega)))); conv => whnf)
        | (refine tst_in ?_ ?_; (focus (intro h_; exfalso; first | omega | ((try simp only [decide_eq_true_eq, decide_eq_false_iff_not] at h_); omega) | (simp [mulSz, Cont.len, bne] at h_; done) | (simp [mulSz, Cont.len, bne] at h_; omega))); intro _; conv => whnf)
        | (refine tst_in ?_ ?_; rotate_left; (focus (intro h_; exfalso; first | omega | ((try simp only [decide_eq_true_eq, decide_eq_false_iff_not] at h_); omega) | (simp [mulSz, Cont.len, bne] at h_; done) | (simp [mulSz, Cont.len, bne] at h_; omega))); intro _; conv => whnf))
      refine .inl ⟨(), [0], ?_⟩
      conv => whnf
      repeat' (first | exact True.intro | rfl | refine And.intro ?_ ?_)
      all_goals (conv => whnf)
      repeat' (first | exact True.intro | rfl | refine And.intro ?_ ?_)
      all_goals (try (first | omega | exact True.intro | rfl | assumption | (change LE.le (α := Nat) _ _; first | omega | (simp only []; omega)) | (simp only []; done) | (simp only []; omega) | (simp; done) | (simp; omega)))
/-- A number's bits, written. -/
def inv45 (W s : Nat) : LInv := ⟨Nat × List Bool, fun p => ⟨anyTo 22 [.int .u32 s, .int .i64 W, .any, .any, .any, .slice 0 0 p.1 (p.1 + p.2.length), .int .i64 ((W : Int) - 1 - (p.1 : Int))], [.seg true (.bools (bt W s p.1 ++ p.2))]⟩, fun p => p.1 ≤ W, fun p => W - p.1⟩
noncomputable def c45 : Code := (Try.f45.body).getD .skip
set_option maxHeartbeats 0 in
set_option maxRecDepth 100000 in
theorem Bits_f (W s : Nat) (hW : 0 < W) (hW2 : W ≤ 32) (hs : s < 4294967296) :
    Fits Try.prog 45 ⟨[.int .u32 s, .int .i64 W], [], [⟨List Bool, fun _ => True, fun t => .slice 0 0 W (W + t.length), fun t => [.seg true (.bools (bt W s W ++ t))]⟩]⟩ := by
  refine fits_of_body (C := cfg3 0) (c := c45) (ts := [4]) wtok3 wmixed (fun | 3 => some (inv45 W s) | _ => none) (fun _ => none)
    Try.func45 (by kernel_rfl) (by kernel_rfl) (by kernel_rfl) (by kernel_rfl) rfl ?_
  conv => whnf
  repeat (first
    | (refine And.intro ?_ ?_; (focus (first | omega | decide | exact Int.natCast_nonneg _ | ((repeat' refine And.intro ?_ ?_) <;> first | omega | (simp only [i64max]; omega) | (simp only [u8max]; omega) | (simp [mulSz, Cont.len, bne]; done) | (simp [mulSz, Cont.len, bne]; omega)))); conv => whnf)
    | (refine tst_in ?_ ?_; (focus (intro h_; exfalso; first | omega | ((try simp only [decide_eq_true_eq, decide_eq_false_iff_not] at h_); omega) | (simp [mulSz, Cont.len, bne] at h_; done) | (simp [mulSz, Cont.len, bne] at h_; omega))); intro _; conv => whnf)
    | (refine tst_in ?_ ?_; rotate_left; (focus (intro h_; exfalso; first | omega | ((try simp only [decide_eq_true_eq, decide_eq_false_iff_not] at h_); omega) | (simp [mulSz, Cont.len, bne] at h_; done) | (simp [mulSz, Cont.len, bne] at h_; omega))); intro _; conv => whnf))
  refine ⟨⟨[0], ((0, []) : Nat × List Bool), ?_, Nat.zero_le _⟩, ?_⟩
  · conv => whnf
    repeat' (first | exact True.intro | rfl | refine And.intro ?_ ?_)
    all_goals (conv => whnf)
    repeat' (first | exact True.intro | rfl | refine And.intro ?_ ?_)
    all_goals (try (first | omega | exact True.intro | rfl | assumption | (change LE.le (α := Nat) _ _; first | omega | (simp only [bt]; omega)) | (simp only [bt]; done) | (simp only [bt]; omega) | (simp [bt]; done) | (simp [bt]; omega)))
  · rintro ⟨k, t⟩ hk
    have hk : k ≤ W := hk
    have hbl := bt_len W s k
    have hk : k ≤ W := hk
    show forceSt ⟨anyTo 22 [.int .u32 s, .int .i64 W, .any, .any, .any, .slice 0 0 k (k + t.length), .int .i64 ((W : Int) - 1 - (k : Int))], [.seg true (.bools (bt W s k ++ t))]⟩ _
    conv => whnf
    refine tst_in (fun hlt => ?_) (fun hge => ?_)
    · skip
      have hlt : k < W := by simp at hlt; omega
      have hle : s >>> (W - 1 - k) ≤ s := by rw [Nat.shiftRight_eq_div_pow]; exact Nat.div_le_self _ _
      conv => whnf
      repeat (first
        | (refine And.intro ?_ ?_; (focus (first | omega | decide | exact Int.natCast_nonneg _ | ((repeat' refine And.intro ?_ ?_) <;> first | omega | (simp only [i64max]; omega) | (simp only [u8max]; omega) | (simp [mulSz, Cont.len, bne]; done) | (simp [mulSz, Cont.len, bne]; omega)))); conv => whnf)
        | (refine tst_in ?_ ?_; (focus (intro h_; exfalso; first | omega | ((try simp only [decide_eq_true_eq, decide_eq_false_iff_not] at h_); omega) | (simp [mulSz, Cont.len, bne] at h_; done) | (simp [mulSz, Cont.len, bne] at h_; omega))); intro _; conv => whnf)
        | (refine tst_in ?_ ?_; rotate_left; (focus (intro h_; exfalso; first | omega | ((try simp only [decide_eq_true_eq, decide_eq_false_iff_not] at h_); omega) | (simp [mulSz, Cont.len, bne] at h_; done) | (simp [mulSz, Cont.len, bne] at h_; omega))); intro _; conv => whnf))
      rw [sh_eq s (W - 1 - k) (IntKind.bits .u32) ((W : Int) - 1 - (k : Int)) (by omega) (by show W - 1 - k ≤ 32; omega)]
      conv => whnf
      repeat (first
        | (refine And.intro ?_ ?_; (focus (first | omega | decide | exact Int.natCast_nonneg _ | ((repeat' refine And.intro ?_ ?_) <;> first | omega | (simp only [i64max]; omega) | (simp only [u8max]; omega) | (simp [mulSz, Cont.len, bne]; done) | (simp [mulSz, Cont.len, bne]; omega)))); conv => whnf)
        | (refine tst_in ?_ ?_; (focus (intro h_; exfalso; first | omega | ((try simp only [decide_eq_true_eq, decide_eq_false_iff_not] at h_); omega) | (simp [mulSz, Cont.len, bne] at h_; done) | (simp [mulSz, Cont.len, bne] at h_; omega))); intro _; conv => whnf)
        | (refine tst_in ?_ ?_; rotate_left; (focus (intro h_; exfalso; first | omega | ((try simp only [decide_eq_true_eq, decide_eq_false_iff_not] at h_); omega) | (simp [mulSz, Cont.len, bne] at h_; done) | (simp [mulSz, Cont.len, bne] at h_; omega))); intro _; conv => whnf))
      refine ⟨⟨Int.natCast_nonneg _, by decide, by show ((s >>> (W - 1 - k) : Nat) : Int) ≤ 4294967295; omega, by decide⟩, ?_⟩
      conv => whnf
      rw [bit_one]
      conv => whnf
      repeat (first
        | (refine And.intro ?_ ?_; (focus (first | omega | decide | exact Int.natCast_nonneg _ | ((repeat' refine And.intro ?_ ?_) <;> first | omega | (simp only [i64max]; omega) | (simp only [u8max]; omega) | (simp [mulSz, Cont.len, bne, hbl]; done) | (simp [mulSz, Cont.len, bne, hbl]; omega)))); conv => whnf)
        | (refine tst_in ?_ ?_; (focus (intro h_; exfalso; first | omega | ((try simp only [decide_eq_true_eq, decide_eq_false_iff_not] at h_); omega) | (simp [mulSz, Cont.len, bne, hbl] at h_; done) | (simp [mulSz, Cont.len, bne, hbl] at h_; omega))); intro _; conv => whnf)
        | (refine tst_in ?_ ?_; rotate_left; (focus (intro h_; exfalso; first | omega | ((try simp only [decide_eq_true_eq, decide_eq_false_iff_not] at h_); omega) | (simp [mulSz, Cont.len, bne, hbl] at h_; done) | (simp [mulSz, Cont.len, bne, hbl] at h_; omega))); intro _; conv => whnf))
      intro (t2 : List Bool)
      conv => whnf
      repeat (first
        | (refine And.intro ?_ ?_; (focus (first | omega | decide | exact Int.natCast_nonneg _ | ((repeat' refine And.intro ?_ ?_) <;> first | omega | (simp only [i64max]; omega) | (simp only [u8max]; omega) | (simp [mulSz, Cont.len, bne]; done) | (simp [mulSz, Cont.len, bne]; omega)))); conv => whnf)
        | (refine tst_in ?_ ?_; (focus (intro h_; exfalso; first | omega | ((try simp only [decide_eq_true_eq, decide_eq_false_iff_not] at h_); omega) | (simp [mulSz, Cont.len, bne] at h_; done) | (simp [mulSz, Cont.len, bne] at h_; omega))); intro _; conv => whnf)
        | (refine tst_in ?_ ?_; rotate_left; (focus (intro h_; exfalso; first | omega | ((try simp only [decide_eq_true_eq, decide_eq_false_iff_not] at h_); omega) | (simp [mulSz, Cont.len, bne] at h_; done) | (simp [mulSz, Cont.len, bne] at h_; omega))); intro _; conv => whnf))
      refine ⟨[2], ((k + 1, t2) : Nat × List Bool), ?_, hlt, (by show W - (k + 1) < W - k; omega)⟩
      conv => whnf
      repeat' (first | exact True.intro | rfl | refine And.intro ?_ ?_)
      all_goals (conv => whnf)
      repeat' (first | exact True.intro | rfl | refine And.intro ?_ ?_)
      all_goals (try (first | omega | exact True.intro | rfl | assumption | (change LE.le (α := Nat) _ _; first | omega | (simp only [hbl]; omega)) | (simp only [hbl]; done) | (simp only [hbl]; omega) | (simp [hbl]; done) | (simp [hbl]; omega)))
      all_goals (show bt W s k ++ [s.testBit (W - 1 - k)] ++ t2 = _; simp [mulSz, List.take_append, hbl, List.take_of_length_le (Nat.le_of_eq hbl)])
    · skip
      have hge : k = W := by simp at hge; omega
      subst hge
      conv => whnf
      repeat (first
        | (refine And.intro ?_ ?_; (focus (first | omega | decide | exact Int.natCast_nonneg _ | ((repeat' refine And.intro ?_ ?_) <;> first | omega | (simp only [i64max]; omega) | (simp only [u8max]; omega) | (simp [mulSz, Cont.len, bne]; done) | (simp [mulSz, Cont.len, bne]; omega)))); conv => whnf)
        | (refine tst_in ?_ ?_; (focus (intro h_; exfalso; first | omega | ((try simp only [decide_eq_true_eq, decide_eq_false_iff_not] at h_); omega) | (simp [mulSz, Cont.len, bne] at h_; done) | (simp [mulSz, Cont.len, bne] at h_; omega))); intro _; conv => whnf)
        | (refine tst_in ?_ ?_; rotate_left; (focus (intro h_; exfalso; first | omega | ((try simp only [decide_eq_true_eq, decide_eq_false_iff_not] at h_); omega) | (simp [mulSz, Cont.len, bne] at h_; done) | (simp [mulSz, Cont.len, bne] at h_; omega))); intro _; conv => whnf))
      refine .inl ⟨t, [0], ?_⟩
      conv => whnf
      repeat' (first | exact True.intro | rfl | refine And.intro ?_ ?_)
      all_goals (conv => whnf)
      repeat' (first | exact True.intro | rfl | refine And.intro ?_ ?_)
      all_goals (try (first | omega | exact True.intro | rfl | assumption | (change LE.le (α := Nat) _ _; first | omega | (simp only []; omega)) | (simp only []; done) | (simp only []; omega) | (simp; done) | (simp; omega)))
end Go.Proofs.Ytkffpcifkeaabaa

set_option linter.unusedVariables false
set_option linter.unusedSimpArgs false
namespace Go.Proofs.Ytkffpcifkeaabaa
open Go Go.Fw
noncomputable def c41 : Code := (Try.f41.body).getD .skip
def st41 (W s n ca : Nat) (A D Z : List Bool) (i : Int) (k : AV) : St := ⟨anyTo 71 [.int .i64 W, .int .u32 s, .slice 0 0 n ca, .any, .any, .any, .any, .any, .slice 1 0 (W + 1) (W + 1), .slice 2 0 (W + n) Z.length, .int .i64 i, k], [.seg false (.bools A), .seg true (.bools D), .seg true (.bools Z)]⟩
def inv41 (W s n ca : Nat) (A D : List Bool) : LInv := ⟨Nat × List Bool, fun p => st41 W s n ca A D (lo D W A p.1 (bt W s W ++ List.replicate n false ++ p.2)) p.1 .any, fun p => p.1 ≤ n, fun p => n - p.1⟩
def lo1 (D : List Bool) (W : Nat) (A L : List Bool) (i : Nat) : List Bool := (lo D W A i L).set i ((lo D W A i L).getD i false != A.getD i false)
def inv41b (W s n ca : Nat) (A D : List Bool) (st : St) : LInv := ⟨Nat × List Bool, fun p => st41 W s n ca A D (xr D (natAt st 10) p.1 (lo1 D W A (bt W s W ++ List.replicate n false ++ p.2) (natAt st 10))) (natAt st 10 : Nat) (.int .i64 p.1), fun p => p.1 ≤ W + 1 ∧ ((lo D W A (natAt st 10) (bt W s W ++ List.replicate n false ++ p.2)).getD (natAt st 10) false != A.getD (natAt st 10) false) = true, fun p => W + 1 - p.1⟩
def cfg41 (W s n ca : Nat) (A D : List Bool) : Cfg := { cfg3 1 with dep := fun | 11 => some (inv41b W s n ca A D) | _ => none }
set_option maxHeartbeats 0 in
set_option maxRecDepth 100000 in
theorem rOn_f (W p s : Nat) (A : List Bool) (n ca : Nat) (hA : n ≤ A.length) (hN : n ≤ 32768) (h0 : 0 < W) (hW : W ≤ 32) (hD : ∀ k, 1 ≤ k → k ≤ W → (dvd W).getD k false = p.testBit (W - k)) (hp : p < 2 ^ W) (hs : s < 2 ^ W) (hDl : (dvd W).length = W + 1)
    (DIV : Fits Try.prog 46 ⟨[.int .i64 W], [], [⟨Unit, fun _ => True, fun _ => .slice 0 0 (W + 1) (W + 1), fun _ => [.seg true (.bools (dvd W))]⟩]⟩) :
    Fits Try.prog 41 ⟨[.int .i64 W, .int .u32 s, .slice 0 0 n ca], [.seg false (.bools A)], [numOut [.dead] (.tup [.int .u32 (crc W p s (part A 0 n) : Nat), .int .i64 0])]⟩ := by
  have hs32 : s < 4294967296 := Nat.lt_of_lt_of_le hs (Nat.pow_le_pow_right (by decide) hW : 2 ^ W ≤ 2 ^ 32)
  have hsum := fun t => lo_sum (dvd W) W p n s A t hA h0 hD hp
  have hpart : part A 0 n = A.take n := by simp [part]
  have hcl := crc_lt hp (A.take n) s hs
  have hbl : (bt W s W).length = W := bt_len _ _ _
  have BI := Bits_f W s h0 hW hs32
  generalize dvd W = D at *
  have hlen : ∀ i t, (lo D W A i (bt W s W ++ List.replicate n false ++ t)).length = W + n + t.length := fun i t => by rw [lo_len]; simp [bt_len]; omega
  have hllen : ∀ i t, (lo1 D W A (bt W s W ++ List.replicate n false ++ t) i).length = W + n + t.length := fun i t => by unfold lo1; rw [List.length_set]; exact hlen i t
  have hxlen : ∀ i k t, (xr D i k (lo1 D W A (bt W s W ++ List.replicate n false ++ t) i)).length = W + n + t.length := fun i k t => by rw [xr_len]; exact hllen i t
  refine fits_of_body (C := cfg41 W s n ca A D) (c := c41) (ts := [6, 7]) wtok3 wmixed (fun | 6 => some (inv41 W s n ca A D) | _ => none) (fun _ => none)
    Try.func41 (by kernel_rfl) (by kernel_rfl) (by kernel_rfl) (by kernel_rfl) rfl ?_
  conv => whnf
  repeat (first
    | (refine And.intro ?_ ?_; (focus (first | omega | decide | exact Int.natCast_nonneg _ | ((repeat' refine And.intro ?_ ?_) <;> first | omega | (simp only [i64max]; omega) | (simp only [u8max]; omega) | (simp [mulSz, Cont.len, bne]; done) | (simp [mulSz, Cont.len, bne]; omega)))); conv => whnf)
    | (refine tst_in ?_ ?_; (focus (intro h_; exfalso; first | omega | ((try simp only [decide_eq_true_eq, decide_eq_false_iff_not] at h_); omega) | (simp [mulSz, Cont.len, bne] at h_; done) | (simp [mulSz, Cont.len, bne] at h_; omega))); intro _; conv => whnf)
    | (refine tst_in ?_ ?_; rotate_left; (focus (intro h_; exfalso; first | omega | ((try simp only [decide_eq_true_eq, decide_eq_false_iff_not] at h_); omega) | (simp [mulSz, Cont.len, bne] at h_; done) | (simp [mulSz, Cont.len, bne] at h_; omega))); intro _; conv => whnf))
  refine ⟨_, [], DIV, ?_⟩
  conv => whnf
  refine ⟨?_, ?_, ?_⟩
  · conv => whnf
    repeat' (first | exact True.intro | rfl | refine And.intro ?_ ?_ | omega)
    all_goals (conv => whnf)
    all_goals (try (first | rfl | omega | (simp; done)))
  · conv => whnf
    repeat' (first | exact True.intro | rfl | refine And.intro ?_ ?_ | omega)
    all_goals (conv => whnf)
    all_goals (try (first | rfl | omega | (simp; done)))
  conv => whnf
  refine ⟨?_, True.intro⟩
  intro _ _
  conv => whnf
  conv => whnf
  repeat (first
    | (refine And.intro ?_ ?_; (focus (first | omega | decide | exact Int.natCast_nonneg _ | ((repeat' refine And.intro ?_ ?_) <;> first | omega | (simp only [i64max]; omega) | (simp only [u8max]; omega) | (simp [mulSz, Cont.len, bne]; done) | (simp [mulSz, Cont.len, bne]; omega)))); conv => whnf)
    | (refine tst_in ?_ ?_; (focus (intro h_; exfalso; first | omega | ((try simp only [decide_eq_true_eq, decide_eq_false_iff_not] at h_); omega) | (simp [mulSz, Cont.len, bne] at h_; done) | (simp [mulSz, Cont.len, bne] at h_; omega))); intro _; conv => whnf)
    | (refine tst_in ?_ ?_; rotate_left; (focus (intro h_; exfalso; first | omega | ((try simp only [decide_eq_true_eq, decide_eq_false_iff_not] at h_); omega) | (simp [mulSz, Cont.len, bne] at h_; done) | (simp [mulSz, Cont.len, bne] at h_; omega))); intro _; conv => whnf))
  refine ⟨_, [], BI, ?_⟩
  conv => whnf
  refine ⟨?_, ?_, ?_⟩
  · conv => whnf
    repeat' (first | exact True.intro | rfl | refine And.intro ?_ ?_ | omega)
    all_goals (conv => whnf)
    all_goals (try (first | rfl | omega | (simp; done)))
  · conv => whnf
    repeat' (first | exact True.intro | rfl | refine And.intro ?_ ?_ | omega)
    all_goals (conv => whnf)
    all_goals (try (first | rfl | omega | (simp; done)))
  conv => whnf
  refine ⟨?_, True.intro⟩
  intro (tz : List Bool) _
  conv => whnf
  conv => whnf
  repeat (first
    | (refine And.intro ?_ ?_; (focus (first | omega | decide | exact Int.natCast_nonneg _ | ((repeat' refine And.intro ?_ ?_) <;> first | omega | (simp only [i64max]; omega) | (simp only [u8max]; omega) | (simp [mulSz, Cont.len, bne]; done) | (simp [mulSz, Cont.len, bne]; omega)))); conv => whnf)
    | (refine tst_in ?_ ?_; (focus (intro h_; exfalso; first | omega | ((try simp only [decide_eq_true_eq, decide_eq_false_iff_not] at h_); omega) | (simp [mulSz, Cont.len, bne] at h_; done) | (simp [mulSz, Cont.len, bne] at h_; omega))); intro _; conv => whnf)
    | (refine tst_in ?_ ?_; rotate_left; (focus (intro h_; exfalso; first | omega | ((try simp only [decide_eq_true_eq, decide_eq_false_iff_not] at h_); omega) | (simp [mulSz, Cont.len, bne] at h_; done) | (simp [mulSz, Cont.len, bne] at h_; omega))); intro _; conv => whnf))
  refine ⟨.bools (List.replicate n false), zerosB n, ?_⟩
  conv => whnf
  repeat (first
    | (refine And.intro ?_ ?_; (focus (first | omega | decide | exact Int.natCast_nonneg _ | ((repeat' refine And.intro ?_ ?_) <;> first | omega | (simp only [i64max]; omega) | (simp only [u8max]; omega) | (simp [mulSz, Cont.len, bne, hbl]; done) | (simp [mulSz, Cont.len, bne, hbl]; omega)))); conv => whnf)
    | (refine tst_in ?_ ?_; (focus (intro h_; exfalso; first | omega | ((try simp only [decide_eq_true_eq, decide_eq_false_iff_not] at h_); omega) | (simp [mulSz, Cont.len, bne, hbl] at h_; done) | (simp [mulSz, Cont.len, bne, hbl] at h_; omega))); intro _; conv => whnf)
    | (refine tst_in ?_ ?_; rotate_left; (focus (intro h_; exfalso; first | omega | ((try simp only [decide_eq_true_eq, decide_eq_false_iff_not] at h_); omega) | (simp [mulSz, Cont.len, bne, hbl] at h_; done) | (simp [mulSz, Cont.len, bne, hbl] at h_; omega))); intro _; conv => whnf))
  intro (tl : List Bool)
  conv => whnf
  repeat (first
    | (refine And.intro ?_ ?_; (focus (first | omega | decide | exact Int.natCast_nonneg _ | ((repeat' refine And.intro ?_ ?_) <;> first | omega | (simp only [i64max]; omega) | (simp only [u8max]; omega) | (simp [mulSz, Cont.len, bne]; done) | (simp [mulSz, Cont.len, bne]; omega)))); conv => whnf)
    | (refine tst_in ?_ ?_; (focus (intro h_; exfalso; first | omega | ((try simp only [decide_eq_true_eq, decide_eq_false_iff_not] at h_); omega) | (simp [mulSz, Cont.len, bne] at h_; done) | (simp [mulSz, Cont.len, bne] at h_; omega))); intro _; conv => whnf)
    | (refine tst_in ?_ ?_; rotate_left; (focus (intro h_; exfalso; first | omega | ((try simp only [decide_eq_true_eq, decide_eq_false_iff_not] at h_); omega) | (simp [mulSz, Cont.len, bne] at h_; done) | (simp [mulSz, Cont.len, bne] at h_; omega))); intro _; conv => whnf))
  refine ⟨⟨[0, 1, 3], ((0, tl) : Nat × List Bool), ?_, Nat.zero_le _⟩, ?_⟩
  · conv => whnf
    repeat' (first | exact True.intro | rfl | refine And.intro ?_ ?_)
    all_goals (conv => whnf)
    repeat' (first | exact True.intro | rfl | refine And.intro ?_ ?_)
    all_goals (try (first | omega | exact True.intro | rfl | assumption | (change LE.le (α := Nat) _ _; first | omega | (simp only [hlen, mulSz, lo]; omega)) | (simp only [hlen, mulSz, lo]; done) | (simp only [hlen, mulSz, lo]; omega) | (simp [hlen, mulSz, lo]; done) | (simp [hlen, mulSz, lo]; omega)))
    all_goals (show (bt W s W ++ List.replicate n false ++ tl) = _; simp [mulSz, List.take_append, hbl, List.take_of_length_le (Nat.le_of_eq hbl)])
  · rintro ⟨i, tl⟩ hi
    have hi : i ≤ n := hi
    have hil := hlen i tl
    have hill := hllen i tl
    show forceSt (st41 W s n ca A D (lo D W A i (bt W s W ++ List.replicate n false ++ tl)) i .any) _
    conv => whnf
    refine tst_in (fun hlt => ?_) (fun hge => ?_)
    · skip
      have hlt : i < n := by simp at hlt; omega
      have hnx : lo D W A (i + 1) (bt W s W ++ List.replicate n false ++ tl) = if ((lo D W A i (bt W s W ++ List.replicate n false ++ tl)).getD i false != A.getD i false) then xr D i (W + 1) (lo1 D W A (bt W s W ++ List.replicate n false ++ tl) i) else lo1 D W A (bt W s W ++ List.replicate n false ++ tl) i := rfl
      have hlo1 : lo1 D W A (bt W s W ++ List.replicate n false ++ tl) i = (lo D W A i (bt W s W ++ List.replicate n false ++ tl)).set i ((lo D W A i (bt W s W ++ List.replicate n false ++ tl)).getD i false != A.getD i false) := rfl
      have hget : (lo1 D W A (bt W s W ++ List.replicate n false ++ tl) i).getD i false = ((lo D W A i (bt W s W ++ List.replicate n false ++ tl)).getD i false != A.getD i false) := by
        rw [hlo1, List.getD_eq_getElem?_getD, List.getElem?_set, if_pos rfl, if_pos (by rw [hil]; omega)]; rfl
      conv => whnf
      repeat (first
        | (refine And.intro ?_ ?_; (focus (first | omega | decide | exact Int.natCast_nonneg _ | ((repeat' refine And.intro ?_ ?_) <;> first | omega | (simp only [i64max]; omega) | (simp only [u8max]; omega) | (simp [mulSz, Cont.len, bne]; done) | (simp [mulSz, Cont.len, bne]; omega)))); conv => whnf)
        | (refine tst_in ?_ ?_; (focus (intro h_; exfalso; first | omega | ((try simp only [decide_eq_true_eq, decide_eq_false_iff_not] at h_); omega) | (simp [mulSz, Cont.len, bne] at h_; done) | (simp [mulSz, Cont.len, bne] at h_; omega))); intro _; conv => whnf)
        | (refine tst_in ?_ ?_; rotate_left; (focus (intro h_; exfalso; first | omega | ((try simp only [decide_eq_true_eq, decide_eq_false_iff_not] at h_); omega) | (simp [mulSz, Cont.len, bne] at h_; done) | (simp [mulSz, Cont.len, bne] at h_; omega))); intro _; conv => whnf))
      rw [show 0 + ((i : Int)).toNat = i by omega, ← hlo1]
      conv => whnf
      repeat (first
        | (refine And.intro ?_ ?_; (focus (first | omega | decide | exact Int.natCast_nonneg _ | ((repeat' refine And.intro ?_ ?_) <;> first | omega | (simp only [i64max]; omega) | (simp only [u8max]; omega) | (simp [mulSz, Cont.len, bne]; done) | (simp [mulSz, Cont.len, bne]; omega)))); conv => whnf)
        | (refine tst_in ?_ ?_; (focus (intro h_; exfalso; first | omega | ((try simp only [decide_eq_true_eq, decide_eq_false_iff_not] at h_); omega) | (simp [mulSz, Cont.len, bne] at h_; done) | (simp [mulSz, Cont.len, bne] at h_; omega))); intro _; conv => whnf)
        | (refine tst_in ?_ ?_; rotate_left; (focus (intro h_; exfalso; first | omega | ((try simp only [decide_eq_true_eq, decide_eq_false_iff_not] at h_); omega) | (simp [mulSz, Cont.len, bne] at h_; done) | (simp [mulSz, Cont.len, bne] at h_; omega))); intro _; conv => whnf))
      refine tst_in (fun hc => ?_) (fun hc => ?_)
      · skip
        rw [hget] at hc
        rw [if_pos hc] at hnx
        conv => whnf
        repeat (first
          | (refine And.intro ?_ ?_; (focus (first | omega | decide | exact Int.natCast_nonneg _ | ((repeat' refine And.intro ?_ ?_) <;> first | omega | (simp only [i64max]; omega) | (simp only [u8max]; omega) | (simp [mulSz, Cont.len, bne]; done) | (simp [mulSz, Cont.len, bne]; omega)))); conv => whnf)
          | (refine tst_in ?_ ?_; (focus (intro h_; exfalso; first | omega | ((try simp only [decide_eq_true_eq, decide_eq_false_iff_not] at h_); omega) | (simp [mulSz, Cont.len, bne] at h_; done) | (simp [mulSz, Cont.len, bne] at h_; omega))); intro _; conv => whnf)
          | (refine tst_in ?_ ?_; rotate_left; (focus (intro h_; exfalso; first | omega | ((try simp only [decide_eq_true_eq, decide_eq_false_iff_not] at h_); omega) | (simp [mulSz, Cont.len, bne] at h_; done) | (simp [mulSz, Cont.len, bne] at h_; omega))); intro _; conv => whnf))
        refine ⟨⟨[0, 1, 2], ((0, tl) : Nat × List Bool), ?_, ⟨Nat.zero_le _, hc⟩⟩, ?_⟩
        · conv => whnf
          repeat' (first | exact True.intro | rfl | refine And.intro ?_ ?_)
          all_goals (conv => whnf)
          repeat' (first | exact True.intro | rfl | refine And.intro ?_ ?_)
          all_goals (try (first | omega | exact True.intro | rfl | assumption | (change LE.le (α := Nat) _ _; first | omega | (simp only [hlen, hllen, xr]; omega)) | (simp only [hlen, hllen, xr]; done) | (simp only [hlen, hllen, xr]; omega) | (simp [hlen, hllen, xr]; done) | (simp [hlen, hllen, xr]; omega)))
        · rintro ⟨k, tl⟩ ⟨hk, hc⟩
          have hk : k ≤ W + 1 := hk
          have hcc : ((lo D W A i (bt W s W ++ List.replicate n false ++ tl)).getD i false != A.getD i false) = true := hc
          have hkl := hxlen i k tl
          have hill := hllen i tl
          have hnx : lo D W A (i + 1) (bt W s W ++ List.replicate n false ++ tl) = if ((lo D W A i (bt W s W ++ List.replicate n false ++ tl)).getD i false != A.getD i false) then xr D i (W + 1) (lo1 D W A (bt W s W ++ List.replicate n false ++ tl) i) else lo1 D W A (bt W s W ++ List.replicate n false ++ tl) i := rfl
          show forceSt (st41 W s n ca A D (xr D i k (lo1 D W A (bt W s W ++ List.replicate n false ++ tl) i)) i (.int .i64 k)) _
          generalize hG : lo1 D W A (bt W s W ++ List.replicate n false ++ tl) i = G at *
          have hxn : xr D i (k + 1) G = (xr D i k G).set (i + k) ((xr D i k G).getD (i + k) false != D.getD k false) := rfl
          conv => whnf
          refine tst_in (fun hkt => ?_) (fun hkt => ?_)
          · skip
            have hkt : k ≤ W := by simp at hkt; omega
            conv => whnf
            repeat (first
              | (refine And.intro ?_ ?_; (focus (first | omega | decide | exact Int.natCast_nonneg _ | ((repeat' refine And.intro ?_ ?_) <;> first | omega | (simp only [i64max]; omega) | (simp only [u8max]; omega) | (simp [mulSz, Cont.len, bne]; done) | (simp [mulSz, Cont.len, bne]; omega)))); conv => whnf)
              | (refine tst_in ?_ ?_; (focus (intro h_; exfalso; first | omega | ((try simp only [decide_eq_true_eq, decide_eq_false_iff_not] at h_); omega) | (simp [mulSz, Cont.len, bne] at h_; done) | (simp [mulSz, Cont.len, bne] at h_; omega))); intro _; conv => whnf)
              | (refine tst_in ?_ ?_; rotate_left; (focus (intro h_; exfalso; first | omega | ((try simp only [decide_eq_true_eq, decide_eq_false_iff_not] at h_); omega) | (simp [mulSz, Cont.len, bne] at h_; done) | (simp [mulSz, Cont.len, bne] at h_; omega))); intro _; conv => whnf))
            refine ⟨[0, 1, 2], ((k + 1, tl) : Nat × List Bool), ?_, ⟨(by show k + 1 ≤ W + 1; omega), hc⟩, (by show W + 1 - (k + 1) < W + 1 - k; omega)⟩
            conv => whnf
            repeat' (first | exact True.intro | rfl | refine And.intro ?_ ?_)
            all_goals (conv => whnf)
            repeat' (first | exact True.intro | rfl | refine And.intro ?_ ?_)
            all_goals (try (first | omega | exact True.intro | rfl | assumption | (change LE.le (α := Nat) _ _; first | omega | (simp only [hlen, hxlen]; omega)) | (simp only [hlen, hxlen]; done) | (simp only [hlen, hxlen]; omega) | (simp [hlen, hxlen]; done) | (simp [hlen, hxlen]; omega)))
            all_goals first
              | (show (xr D i (k + 1) (lo1 D W A (bt W s W ++ List.replicate n false ++ tl) i)).length = _; rw [hxlen]; omega)
              | (show xr D i (k + 1) (lo1 D W A (bt W s W ++ List.replicate n false ++ tl) i) = _; rw [hG, hxn]; congr 1 <;> first | omega | (congr 2 <;> omega))
          · skip
            have hkt : k = W + 1 := by simp at hkt; omega
            subst hkt
            rw [if_pos hcc] at hnx
            conv => whnf
            repeat (first
              | (refine And.intro ?_ ?_; (focus (first | omega | decide | exact Int.natCast_nonneg _ | ((repeat' refine And.intro ?_ ?_) <;> first | omega | (simp only [i64max]; omega) | (simp only [u8max]; omega) | (simp [mulSz, Cont.len, bne]; done) | (simp [mulSz, Cont.len, bne]; omega)))); conv => whnf)
              | (refine tst_in ?_ ?_; (focus (intro h_; exfalso; first | omega | ((try simp only [decide_eq_true_eq, decide_eq_false_iff_not] at h_); omega) | (simp [mulSz, Cont.len, bne] at h_; done) | (simp [mulSz, Cont.len, bne] at h_; omega))); intro _; conv => whnf)
              | (refine tst_in ?_ ?_; rotate_left; (focus (intro h_; exfalso; first | omega | ((try simp only [decide_eq_true_eq, decide_eq_false_iff_not] at h_); omega) | (simp [mulSz, Cont.len, bne] at h_; done) | (simp [mulSz, Cont.len, bne] at h_; omega))); intro _; conv => whnf))
            refine ⟨[0, 1, 2], ((i + 1, tl) : Nat × List Bool), ?_, (by show i + 1 ≤ n; omega), (by show n - (i + 1) < n - i; omega)⟩
            conv => whnf
            repeat' (first | exact True.intro | rfl | refine And.intro ?_ ?_)
            all_goals (conv => whnf)
            repeat' (first | exact True.intro | rfl | refine And.intro ?_ ?_)
            all_goals (try (first | omega | exact True.intro | rfl | assumption | (change LE.le (α := Nat) _ _; first | omega | (simp only [hlen, hxlen, hnx, hG]; omega)) | (simp only [hlen, hxlen, hnx, hG]; done) | (simp only [hlen, hxlen, hnx, hG]; omega) | (simp [hlen, hxlen, hnx, hG]; done) | (simp [hlen, hxlen, hnx, hG]; omega)))
            all_goals (show (lo D W A (i + 1) (bt W s W ++ List.replicate n false ++ tl)).length = _; rw [hlen]; omega)
      · skip
        rw [hget] at hc
        rw [if_neg (by rw [hc]; decide)] at hnx
        conv => whnf
        repeat (first
          | (refine And.intro ?_ ?_; (focus (first | omega | decide | exact Int.natCast_nonneg _ | ((repeat' refine And.intro ?_ ?_) <;> first | omega | (simp only [i64max]; omega) | (simp only [u8max]; omega) | (simp [mulSz, Cont.len, bne]; done) | (simp [mulSz, Cont.len, bne]; omega)))); conv => whnf)
          | (refine tst_in ?_ ?_; (focus (intro h_; exfalso; first | omega | ((try simp only [decide_eq_true_eq, decide_eq_false_iff_not] at h_); omega) | (simp [mulSz, Cont.len, bne] at h_; done) | (simp [mulSz, Cont.len, bne] at h_; omega))); intro _; conv => whnf)
          | (refine tst_in ?_ ?_; rotate_left; (focus (intro h_; exfalso; first | omega | ((try simp only [decide_eq_true_eq, decide_eq_false_iff_not] at h_); omega) | (simp [mulSz, Cont.len, bne] at h_; done) | (simp [mulSz, Cont.len, bne] at h_; omega))); intro _; conv => whnf))
        refine ⟨[0, 1, 2], ((i + 1, tl) : Nat × List Bool), ?_, (by show i + 1 ≤ n; omega), (by show n - (i + 1) < n - i; omega)⟩
        conv => whnf
        repeat' (first | exact True.intro | rfl | refine And.intro ?_ ?_)
        all_goals (conv => whnf)
        repeat' (first | exact True.intro | rfl | refine And.intro ?_ ?_)
        all_goals (try (first | omega | exact True.intro | rfl | assumption | (change LE.le (α := Nat) _ _; first | omega | (simp only [hnx, hil, hill, hlen]; omega)) | (simp only [hnx, hil, hill, hlen]; done) | (simp only [hnx, hil, hill, hlen]; omega) | (simp [hnx, hil, hill, hlen]; done) | (simp [hnx, hil, hill, hlen]; omega)))
    · skip
      have hge : i = n := by simp at hge; omega
      subst hge
      have hs2 := hsum tl
      rw [← hpart] at hs2 hcl
      have NU := Number_f (lo D W A i (bt W s W ++ List.replicate i false ++ tl)) i W ((lo D W A i (bt W s W ++ List.replicate i false ++ tl)).length - i) (by omega) hW
      rw [hs2, numB_all W _ hcl] at NU
      conv => whnf
      repeat (first
        | (refine And.intro ?_ ?_; (focus (first | omega | decide | exact Int.natCast_nonneg _ | ((repeat' refine And.intro ?_ ?_) <;> first | omega | (simp only [i64max]; omega) | (simp only [u8max]; omega) | (simp [mulSz, Cont.len, bne]; done) | (simp [mulSz, Cont.len, bne]; omega)))); conv => whnf)
        | (refine tst_in ?_ ?_; (focus (intro h_; exfalso; first | omega | ((try simp only [decide_eq_true_eq, decide_eq_false_iff_not] at h_); omega) | (simp [mulSz, Cont.len, bne] at h_; done) | (simp [mulSz, Cont.len, bne] at h_; omega))); intro _; conv => whnf)
        | (refine tst_in ?_ ?_; rotate_left; (focus (intro h_; exfalso; first | omega | ((try simp only [decide_eq_true_eq, decide_eq_false_iff_not] at h_); omega) | (simp [mulSz, Cont.len, bne] at h_; done) | (simp [mulSz, Cont.len, bne] at h_; omega))); intro _; conv => whnf))
      refine ⟨_, [2], NU, ?_⟩
      conv => whnf
      refine ⟨?_, ?_, ?_⟩
      · conv => whnf
        repeat' (first | exact True.intro | rfl | refine And.intro ?_ ?_ | omega)
        all_goals (conv => whnf)
        all_goals (try (first | rfl | omega | (simp; done)))
      · conv => whnf
        repeat' (first | exact True.intro | rfl | refine And.intro ?_ ?_ | omega)
        all_goals (conv => whnf)
        all_goals (try (first | rfl | omega | (simp; done)))
      conv => whnf
      refine ⟨?_, True.intro⟩
      intro _ _
      conv => whnf
      refine .inl ⟨(), [0], ?_⟩
      conv => whnf
      repeat' (first | exact True.intro | rfl | refine And.intro ?_ ?_)
      all_goals (conv => whnf)
      repeat' (first | exact True.intro | rfl | refine And.intro ?_ ?_)
      all_goals (try (first | omega | exact True.intro | rfl | assumption | (change LE.le (α := Nat) _ _; first | omega | (simp only []; omega)) | (simp only []; done) | (simp only []; omega) | (simp; done) | (simp; omega)))
/-- A sum as a number. -/
noncomputable def c40 : Code := (Try.f40.body).getD .skip
set_option maxHeartbeats 0 in
set_option maxRecDepth 100000 in
theorem rTold_f (W p : Nat) (A : List Bool) (n ca : Nat) (hA : n ≤ A.length) (hN : n ≤ 32768) (h0 : 0 < W) (hW : W ≤ 32) (hD : ∀ k, 1 ≤ k → k ≤ W → (dvd W).getD k false = p.testBit (W - k)) (hp : p < 2 ^ W) (hDl : (dvd W).length = W + 1)
    (DIV : Fits Try.prog 46 ⟨[.int .i64 W], [], [⟨Unit, fun _ => True, fun _ => .slice 0 0 (W + 1) (W + 1), fun _ => [.seg true (.bools (dvd W))]⟩]⟩) :
    Fits Try.prog 40 ⟨[.int .i64 W, .slice 0 0 n ca], [.seg false (.bools A)], [numOut [.dead] (.tup [.int .u32 (crc W p 0 (part A 0 n) : Nat), .int .i64 0])]⟩ := by
  have hcl := crc_lt hp (part A 0 n) 0 (Nat.two_pow_pos W)
  have SU := rSum_f W p A n ca hA hN h0 hW hD hp hDl DIV
  refine fits_of_body (C := cfg3 1) (c := c40) (ts := [4, 5]) wtok3 wmixed (fun _ => none) (fun _ => none)
    Try.func40 (by kernel_rfl) (by kernel_rfl) (by kernel_rfl) (by kernel_rfl) rfl ?_
  conv => whnf
  repeat (first
    | (refine And.intro ?_ ?_; (focus (first | omega | decide | exact Int.natCast_nonneg _ | ((repeat' refine And.intro ?_ ?_) <;> first | omega | (simp only [i64max]; omega) | (simp only [u8max]; omega) | (simp [mulSz, Cont.len, bne]; done) | (simp [mulSz, Cont.len, bne]; omega)))); conv => whnf)
    | (refine tst_in ?_ ?_; (focus (intro h_; exfalso; first | omega | ((try simp only [decide_eq_true_eq, decide_eq_false_iff_not] at h_); omega) | (simp [mulSz, Cont.len, bne] at h_; done) | (simp [mulSz, Cont.len, bne] at h_; omega))); intro _; conv => whnf)
    | (refine tst_in ?_ ?_; rotate_left; (focus (intro h_; exfalso; first | omega | ((try simp only [decide_eq_true_eq, decide_eq_false_iff_not] at h_); omega) | (simp [mulSz, Cont.len, bne] at h_; done) | (simp [mulSz, Cont.len, bne] at h_; omega))); intro _; conv => whnf))
  refine ⟨_, [0], SU, ?_⟩
  conv => whnf
  refine ⟨?_, ?_, ?_⟩
  · conv => whnf
    repeat' (first | exact True.intro | rfl | refine And.intro ?_ ?_)
    all_goals (conv => whnf)
    repeat' (first | exact True.intro | rfl | refine And.intro ?_ ?_)
    all_goals (try (first | omega | exact True.intro | rfl | assumption | (change LE.le (α := Nat) _ _; first | omega | (simp only []; omega)) | (simp only []; done) | (simp only []; omega) | (simp; done) | (simp; omega)))
  · conv => whnf
    repeat' (first | exact True.intro | rfl | refine And.intro ?_ ?_)
    all_goals (conv => whnf)
    repeat' (first | exact True.intro | rfl | refine And.intro ?_ ?_)
    all_goals (try (first | omega | exact True.intro | rfl | assumption | (change LE.le (α := Nat) _ _; first | omega | (simp only []; omega)) | (simp only []; done) | (simp only []; omega) | (simp; done) | (simp; omega)))
  conv => whnf
  refine ⟨?_, True.intro⟩
  rintro Z ⟨z1, z2⟩
  have NU := Number_f Z n W (Z.length - n) z2 hW
  rw [z1, numB_all W _ hcl] at NU
  conv => whnf
  repeat (first
    | (refine And.intro ?_ ?_; (focus (first | omega | decide | exact Int.natCast_nonneg _ | ((repeat' refine And.intro ?_ ?_) <;> first | omega | (simp only [i64max]; omega) | (simp only [u8max]; omega) | (simp [mulSz, Cont.len, bne]; done) | (simp [mulSz, Cont.len, bne]; omega)))); conv => whnf)
    | (refine tst_in ?_ ?_; (focus (intro h_; exfalso; first | omega | ((try simp only [decide_eq_true_eq, decide_eq_false_iff_not] at h_); omega) | (simp [mulSz, Cont.len, bne] at h_; done) | (simp [mulSz, Cont.len, bne] at h_; omega))); intro _; conv => whnf)
    | (refine tst_in ?_ ?_; rotate_left; (focus (intro h_; exfalso; first | omega | ((try simp only [decide_eq_true_eq, decide_eq_false_iff_not] at h_); omega) | (simp [mulSz, Cont.len, bne] at h_; done) | (simp [mulSz, Cont.len, bne] at h_; omega))); intro _; conv => whnf))
  refine ⟨_, [1], NU, ?_⟩
  conv => whnf
  refine ⟨?_, ?_, ?_⟩
  · conv => whnf
    repeat' (first | exact True.intro | rfl | refine And.intro ?_ ?_ | omega)
    all_goals (conv => whnf)
    all_goals (try (first | rfl | omega | (simp; done)))
  · conv => whnf
    repeat' (first | exact True.intro | rfl | refine And.intro ?_ ?_ | omega)
    all_goals (conv => whnf)
    all_goals (try (first | rfl | omega | (simp; done)))
  conv => whnf
  refine ⟨?_, True.intro⟩
  intro _ _
  conv => whnf
  refine .inl ⟨(), [0], ?_⟩
  conv => whnf
  repeat' (first | exact True.intro | rfl | refine And.intro ?_ ?_)
  all_goals (conv => whnf)
  repeat' (first | exact True.intro | rfl | refine And.intro ?_ ?_)
  all_goals (try (first | omega | exact True.intro | rfl | assumption | (change LE.le (α := Nat) _ _; first | omega | (simp only []; omega)) | (simp only []; done) | (simp only []; omega) | (simp; done) | (simp; omega)))
theorem rTold_far (W : Nat) (A : List Bool) (n ca : Nat) (hN : 32768 < n) (hN2 : n ≤ 4611686018427387904) :
    Fits Try.prog 40 ⟨[.int .i64 W, .slice 0 0 n ca], [.seg false (.bools A)], [numOut [.dead] (.tup [.int .u32 (0 : Nat), .int .i64 1])]⟩ := by
  refine fits_of_body (C := cfg3 1) (c := c40) (ts := [4, 5]) wtok3 wmixed (fun _ => none) (fun _ => none)
    Try.func40 (by kernel_rfl) (by kernel_rfl) (by kernel_rfl) (by kernel_rfl) rfl ?_
  conv => whnf
  repeat (first
    | (refine And.intro ?_ ?_; (focus (first | omega | decide | exact Int.natCast_nonneg _ | ((repeat' refine And.intro ?_ ?_) <;> first | omega | (simp only [i64max]; omega) | (simp only [u8max]; omega) | (simp [mulSz, Cont.len, bne]; done) | (simp [mulSz, Cont.len, bne]; omega)))); conv => whnf)
    | (refine tst_in ?_ ?_; (focus (intro h_; exfalso; first | omega | ((try simp only [decide_eq_true_eq, decide_eq_false_iff_not] at h_); omega) | (simp [mulSz, Cont.len, bne] at h_; done) | (simp [mulSz, Cont.len, bne] at h_; omega))); intro _; conv => whnf)
    | (refine tst_in ?_ ?_; rotate_left; (focus (intro h_; exfalso; first | omega | ((try simp only [decide_eq_true_eq, decide_eq_false_iff_not] at h_); omega) | (simp [mulSz, Cont.len, bne] at h_; done) | (simp [mulSz, Cont.len, bne] at h_; omega))); intro _; conv => whnf))
  refine .inl ⟨(), [0], ?_⟩
  conv => whnf
  repeat' (first | exact True.intro | rfl | refine And.intro ?_ ?_)
  all_goals (conv => whnf)
  repeat' (first | exact True.intro | rfl | refine And.intro ?_ ?_)
  all_goals (try (first | omega | exact True.intro | rfl | assumption | (change LE.le (α := Nat) _ _; first | omega | (simp only []; omega)) | (simp only []; done) | (simp only []; omega) | (simp; done) | (simp; omega)))
theorem rOn_far (W s : Nat) (A : List Bool) (n ca : Nat) (hN : 32768 < n) (hN2 : n ≤ 4611686018427387904) :
    Fits Try.prog 41 ⟨[.int .i64 W, .int .u32 s, .slice 0 0 n ca], [.seg false (.bools A)], [numOut [.dead] (.tup [.int .u32 (0 : Nat), .int .i64 1])]⟩ := by
  refine fits_of_body (C := cfg3 1) (c := c41) (ts := [6, 7]) wtok3 wmixed (fun _ => none) (fun _ => none)
    Try.func41 (by kernel_rfl) (by kernel_rfl) (by kernel_rfl) (by kernel_rfl) rfl ?_
  conv => whnf
  repeat (first
    | (refine And.intro ?_ ?_; (focus (first | omega | decide | exact Int.natCast_nonneg _ | ((repeat' refine And.intro ?_ ?_) <;> first | omega | (simp only [i64max]; omega) | (simp only [u8max]; omega) | (simp [mulSz, Cont.len, bne]; done) | (simp [mulSz, Cont.len, bne]; omega)))); conv => whnf)
    | (refine tst_in ?_ ?_; (focus (intro h_; exfalso; first | omega | ((try simp only [decide_eq_true_eq, decide_eq_false_iff_not] at h_); omega) | (simp [mulSz, Cont.len, bne] at h_; done) | (simp [mulSz, Cont.len, bne] at h_; omega))); intro _; conv => whnf)
    | (refine tst_in ?_ ?_; rotate_left; (focus (intro h_; exfalso; first | omega | ((try simp only [decide_eq_true_eq, decide_eq_false_iff_not] at h_); omega) | (simp [mulSz, Cont.len, bne] at h_; done) | (simp [mulSz, Cont.len, bne] at h_; omega))); intro _; conv => whnf))
  refine .inl ⟨(), [0], ?_⟩
  conv => whnf
  repeat' (first | exact True.intro | rfl | refine And.intro ?_ ?_)
  all_goals (conv => whnf)
  repeat' (first | exact True.intro | rfl | refine And.intro ?_ ?_)
  all_goals (try (first | omega | exact True.intro | rfl | assumption | (change LE.le (α := Nat) _ _; first | omega | (simp only []; omega)) | (simp only []; done) | (simp only []; omega) | (simp; done) | (simp; omega)))
end Go.Proofs.Ytkffpcifkeaabaa

set_option linter.unusedVariables false
set_option linter.unusedSimpArgs false
namespace Go.Proofs.Ytkffpcifkeaabaa
open Go Go.Fw
/-- Two rows' parts, alike. -/
def eqO (A : List Bool) (o : Nat) (B : List Bool) (p : Nat) : Nat → Bool
  | 0 => true
  | k + 1 => eqO A o B p k && (A.getD (o + k) false == B.getD (p + k) false)
theorem eqO_iff (A : List Bool) (o : Nat) (B : List Bool) (p : Nat) : ∀ k, eqO A o B p k = true ↔ ∀ i, i < k → A.getD (o + i) false = B.getD (p + i) false
  | 0 => by simp [eqO]
  | k + 1 => by
    simp only [eqO, Bool.and_eq_true, beq_iff_eq, eqO_iff A o B p k]
    constructor
    · rintro ⟨h1, h2⟩ i hi
      rcases Nat.lt_or_ge i k with h | h
      · exact h1 i h
      · have : i = k := by omega
        subst this; exact h2
    · intro h
      exact ⟨fun i hi => h i (by omega), h k (by omega)⟩
theorem eqO_false {A : List Bool} {o : Nat} {B : List Bool} {p i k : Nat} (h : ¬ A.getD (o + i) false = B.getD (p + i) false) (hi : i < k) : eqO A o B p k = false := by
  rw [← Bool.not_eq_true, eqO_iff]
  exact fun h2 => h (h2 i hi)
noncomputable def c43 : Code := (Try.f43.body).getD .skip
def inv43 (A B : List Bool) (o n ca p cb : Nat) : LInv := ⟨Nat, fun k => ⟨anyTo 26 [.slice 0 o n ca, .slice 1 p n cb, .any, .any, .any, .int .i64 k], [.seg false (.bools A), .seg false (.bools B)]⟩, fun k => k ≤ n ∧ eqO A o B p k = true, fun k => n - k⟩
set_option maxHeartbeats 0 in
set_option maxRecDepth 100000 in
theorem Same_q (A B : List Bool) (o n ca p m cb : Nat) (hA : o + n ≤ A.length) (hB : p + m ≤ B.length) (hN : n ≤ 4611686018427387904) :
    QFits Try.prog 43 ⟨[.slice 0 o n ca, .slice 1 p m cb], [.seg false (.bools A), .seg false (.bools B)], .bool (decide (n = m) && eqO A o B p n)⟩ := by
  refine qfits_of_body (C := cfg3 2) (c := c43) (ts := [4]) wtok3 wmixed (fun | 4 => some (inv43 A B o n ca p cb) | _ => none) (fun _ => none)
    Try.func43 (by kernel_rfl) (by kernel_rfl) (by kernel_rfl) (by kernel_rfl) (by kernel_rfl) rfl rfl ?_
  conv => whnf
  refine tst_in (fun hnm => ?_) (fun hnm => ?_)
  · skip
    have hnm : n ≠ m := by simp at hnm; omega
    conv => whnf
    repeat (first
      | (refine And.intro ?_ ?_; (focus (first | omega | decide | exact Int.natCast_nonneg _ | ((repeat' refine And.intro ?_ ?_) <;> first | omega | (simp only [i64max]; omega) | (simp only [u8max]; omega) | (simp [mulSz, Cont.len, bne]; done) | (simp [mulSz, Cont.len, bne]; omega)))); conv => whnf)
      | (refine tst_in ?_ ?_; (focus (intro h_; exfalso; first | omega | ((try simp only [decide_eq_true_eq, decide_eq_false_iff_not] at h_); omega) | (simp [mulSz, Cont.len, bne] at h_; done) | (simp [mulSz, Cont.len, bne] at h_; omega))); intro _; conv => whnf)
      | (refine tst_in ?_ ?_; rotate_left; (focus (intro h_; exfalso; first | omega | ((try simp only [decide_eq_true_eq, decide_eq_false_iff_not] at h_); omega) | (simp [mulSz, Cont.len, bne] at h_; done) | (simp [mulSz, Cont.len, bne] at h_; omega))); intro _; conv => whnf))
    rw [decide_eq_false hnm]
    conv => whnf
    repeat' (first | exact True.intro | rfl | refine And.intro ?_ ?_)
    all_goals (conv => whnf)
    repeat' (first | exact True.intro | rfl | refine And.intro ?_ ?_)
    all_goals (try (first | omega | exact True.intro | rfl | assumption | (change LE.le (α := Nat) _ _; first | omega | (simp only []; omega)) | (simp only []; done) | (simp only []; omega) | (simp; done) | (simp; omega)))
  · skip
    have hnm : n = m := by simp at hnm; omega
    subst hnm
    conv => whnf
    repeat (first
      | (refine And.intro ?_ ?_; (focus (first | omega | decide | exact Int.natCast_nonneg _ | ((repeat' refine And.intro ?_ ?_) <;> first | omega | (simp only [i64max]; omega) | (simp only [u8max]; omega) | (simp [mulSz, Cont.len, bne]; done) | (simp [mulSz, Cont.len, bne]; omega)))); conv => whnf)
      | (refine tst_in ?_ ?_; (focus (intro h_; exfalso; first | omega | ((try simp only [decide_eq_true_eq, decide_eq_false_iff_not] at h_); omega) | (simp [mulSz, Cont.len, bne] at h_; done) | (simp [mulSz, Cont.len, bne] at h_; omega))); intro _; conv => whnf)
      | (refine tst_in ?_ ?_; rotate_left; (focus (intro h_; exfalso; first | omega | ((try simp only [decide_eq_true_eq, decide_eq_false_iff_not] at h_); omega) | (simp [mulSz, Cont.len, bne] at h_; done) | (simp [mulSz, Cont.len, bne] at h_; omega))); intro _; conv => whnf))
    refine ⟨⟨[0, 1], (0 : Nat), ?_, ⟨Nat.zero_le _, rfl⟩⟩, ?_⟩
    · conv => whnf
      repeat' (first | exact True.intro | rfl | refine And.intro ?_ ?_)
      all_goals (conv => whnf)
      repeat' (first | exact True.intro | rfl | refine And.intro ?_ ?_)
      all_goals (try (first | omega | exact True.intro | rfl | assumption | (change LE.le (α := Nat) _ _; first | omega | (simp only []; omega)) | (simp only []; done) | (simp only []; omega) | (simp; done) | (simp; omega)))
    · rintro (k : Nat) ⟨hk, he⟩
      have hk : k ≤ n := hk
      have he : eqO A o B p k = true := he
      conv => whnf
      refine tst_in (fun hlt => ?_) (fun hge => ?_)
      · skip
        have hlt : k < n := by simp at hlt; omega
        conv => whnf
        repeat (first
          | (refine And.intro ?_ ?_; (focus (first | omega | decide | exact Int.natCast_nonneg _ | ((repeat' refine And.intro ?_ ?_) <;> first | omega | (simp only [i64max]; omega) | (simp only [u8max]; omega) | (simp [mulSz, Cont.len, bne]; done) | (simp [mulSz, Cont.len, bne]; omega)))); conv => whnf)
          | (refine tst_in ?_ ?_; (focus (intro h_; exfalso; first | omega | ((try simp only [decide_eq_true_eq, decide_eq_false_iff_not] at h_); omega) | (simp [mulSz, Cont.len, bne] at h_; done) | (simp [mulSz, Cont.len, bne] at h_; omega))); intro _; conv => whnf)
          | (refine tst_in ?_ ?_; rotate_left; (focus (intro h_; exfalso; first | omega | ((try simp only [decide_eq_true_eq, decide_eq_false_iff_not] at h_); omega) | (simp [mulSz, Cont.len, bne] at h_; done) | (simp [mulSz, Cont.len, bne] at h_; omega))); intro _; conv => whnf))
        rw [show o + ((k : Int)).toNat = o + k by omega, show p + ((k : Int)).toNat = p + k by omega]
        refine tst_in (fun hd => ?_) (fun hd => ?_)
        · skip
          have hd : ¬ A.getD (o + k) false = B.getD (p + k) false := by simpa using hd
          conv => whnf
          repeat (first
            | (refine And.intro ?_ ?_; (focus (first | omega | decide | exact Int.natCast_nonneg _ | ((repeat' refine And.intro ?_ ?_) <;> first | omega | (simp only [i64max]; omega) | (simp only [u8max]; omega) | (simp [mulSz, Cont.len, bne]; done) | (simp [mulSz, Cont.len, bne]; omega)))); conv => whnf)
            | (refine tst_in ?_ ?_; (focus (intro h_; exfalso; first | omega | ((try simp only [decide_eq_true_eq, decide_eq_false_iff_not] at h_); omega) | (simp [mulSz, Cont.len, bne] at h_; done) | (simp [mulSz, Cont.len, bne] at h_; omega))); intro _; conv => whnf)
            | (refine tst_in ?_ ?_; rotate_left; (focus (intro h_; exfalso; first | omega | ((try simp only [decide_eq_true_eq, decide_eq_false_iff_not] at h_); omega) | (simp [mulSz, Cont.len, bne] at h_; done) | (simp [mulSz, Cont.len, bne] at h_; omega))); intro _; conv => whnf))
          rw [eqO_false hd hlt]
          conv => whnf
          repeat' (first | exact True.intro | rfl | refine And.intro ?_ ?_)
          all_goals (conv => whnf)
          repeat' (first | exact True.intro | rfl | refine And.intro ?_ ?_)
          all_goals (try (first | omega | exact True.intro | rfl | assumption | (change LE.le (α := Nat) _ _; first | omega | (simp only []; omega)) | (simp only []; done) | (simp only []; omega) | (simp; done) | (simp; omega)))
        · skip
          have hd : A.getD (o + k) false = B.getD (p + k) false := by simpa using hd
          conv => whnf
          repeat (first
            | (refine And.intro ?_ ?_; (focus (first | omega | decide | exact Int.natCast_nonneg _ | ((repeat' refine And.intro ?_ ?_) <;> first | omega | (simp only [i64max]; omega) | (simp only [u8max]; omega) | (simp [mulSz, Cont.len, bne]; done) | (simp [mulSz, Cont.len, bne]; omega)))); conv => whnf)
            | (refine tst_in ?_ ?_; (focus (intro h_; exfalso; first | omega | ((try simp only [decide_eq_true_eq, decide_eq_false_iff_not] at h_); omega) | (simp [mulSz, Cont.len, bne] at h_; done) | (simp [mulSz, Cont.len, bne] at h_; omega))); intro _; conv => whnf)
            | (refine tst_in ?_ ?_; rotate_left; (focus (intro h_; exfalso; first | omega | ((try simp only [decide_eq_true_eq, decide_eq_false_iff_not] at h_); omega) | (simp [mulSz, Cont.len, bne] at h_; done) | (simp [mulSz, Cont.len, bne] at h_; omega))); intro _; conv => whnf))
          refine ⟨[0, 1], k + 1, ?_, ⟨hlt, by show (eqO A o B p k && (A.getD (o + k) false == B.getD (p + k) false)) = true; rw [he, hd]; simp⟩, (by show n - (k + 1) < n - k; omega)⟩
          conv => whnf
          repeat' (first | exact True.intro | rfl | refine And.intro ?_ ?_)
          all_goals (conv => whnf)
          repeat' (first | exact True.intro | rfl | refine And.intro ?_ ?_)
          all_goals (try (first | omega | exact True.intro | rfl | assumption | (change LE.le (α := Nat) _ _; first | omega | (simp only []; omega)) | (simp only []; done) | (simp only []; omega) | (simp; done) | (simp; omega)))
      · skip
        have hge : k = n := by simp at hge; omega
        subst hge
        conv => whnf
        repeat (first
          | (refine And.intro ?_ ?_; (focus (first | omega | decide | exact Int.natCast_nonneg _ | ((repeat' refine And.intro ?_ ?_) <;> first | omega | (simp only [i64max]; omega) | (simp only [u8max]; omega) | (simp [mulSz, Cont.len, bne]; done) | (simp [mulSz, Cont.len, bne]; omega)))); conv => whnf)
          | (refine tst_in ?_ ?_; (focus (intro h_; exfalso; first | omega | ((try simp only [decide_eq_true_eq, decide_eq_false_iff_not] at h_); omega) | (simp [mulSz, Cont.len, bne] at h_; done) | (simp [mulSz, Cont.len, bne] at h_; omega))); intro _; conv => whnf)
          | (refine tst_in ?_ ?_; rotate_left; (focus (intro h_; exfalso; first | omega | ((try simp only [decide_eq_true_eq, decide_eq_false_iff_not] at h_); omega) | (simp [mulSz, Cont.len, bne] at h_; done) | (simp [mulSz, Cont.len, bne] at h_; omega))); intro _; conv => whnf))
        rw [he]
        conv => whnf
        repeat' (first | exact True.intro | rfl | refine And.intro ?_ ?_)
        all_goals (conv => whnf)
        repeat' (first | exact True.intro | rfl | refine And.intro ?_ ?_)
        all_goals (try (first | omega | exact True.intro | rfl | assumption | (change LE.le (α := Nat) _ _; first | omega | (simp only []; omega)) | (simp only []; done) | (simp only []; omega) | (simp; done) | (simp; omega)))
/-- Row: P24.1. -/
def qf4 : Nat → Bool := fun f => match f with | 50 => true | 56 => true | 57 => true | 43 => true | _ => false
def cfg4 (k : Nat) : Cfg := { T := wtys3, sgn := fun _ => false, wr := fun _ => false, k := k, q := qf4 }
def rowOut (X : List Bool) (e : Nat) : FOut := ⟨List Bool, fun _ => True, fun t => .tup [.slice 1 0 X.length (X.length + t.length), .int .i64 e], fun t => [.dead, .seg true (.bools (X ++ t))]⟩
noncomputable def c42 : Code := (Try.f42.body).getD .skip
set_option maxHeartbeats 0 in
set_option maxRecDepth 100000 in
theorem rRow_f (W p : Nat) (A : List Bool) (n ca : Nat) (hA : n ≤ A.length) (hN : n + W ≤ 32768) (h0 : 0 < W) (hW : W ≤ 32) (hD : ∀ k, 1 ≤ k → k ≤ W → (dvd W).getD k false = p.testBit (W - k)) (hp : p < 2 ^ W) (hDl : (dvd W).length = W + 1)
    (DIV : Fits Try.prog 46 ⟨[.int .i64 W], [], [⟨Unit, fun _ => True, fun _ => .slice 0 0 (W + 1) (W + 1), fun _ => [.seg true (.bools (dvd W))]⟩]⟩) :
    Fits Try.prog 42 ⟨[.int .i64 W, .slice 0 0 n ca], [.seg false (.bools A)], [rowOut (A.take n ++ bt W (crc W p 0 (part A 0 n)) W) 0]⟩ := by
  have SU := rSum_f W p A n ca hA (by omega) h0 hW hD hp hDl DIV
  have hl1 : (A.take n).length = n := by simp; omega
  have hl : (A.take n ++ bt W (crc W p 0 (part A 0 n)) W).length = n + W := by rw [List.length_append, bt_len, hl1]
  refine fits_of_body (C := cfg4 1) (c := c42) (ts := [4, 5]) wtok3 wmixed (fun _ => none) (fun _ => none)
    Try.func42 (by kernel_rfl) (by kernel_rfl) (by kernel_rfl) (by kernel_rfl) rfl ?_
  conv => whnf
  repeat (first
    | (refine And.intro ?_ ?_; (focus (first | omega | decide | exact Int.natCast_nonneg _ | ((repeat' refine And.intro ?_ ?_) <;> first | omega | (simp only [i64max]; omega) | (simp only [u8max]; omega) | (simp [mulSz, Cont.len, bne]; done) | (simp [mulSz, Cont.len, bne]; omega)))); conv => whnf)
    | (refine tst_in ?_ ?_; (focus (intro h_; exfalso; first | omega | ((try simp only [decide_eq_true_eq, decide_eq_false_iff_not] at h_); omega) | (simp [mulSz, Cont.len, bne] at h_; done) | (simp [mulSz, Cont.len, bne] at h_; omega))); intro _; conv => whnf)
    | (refine tst_in ?_ ?_; rotate_left; (focus (intro h_; exfalso; first | omega | ((try simp only [decide_eq_true_eq, decide_eq_false_iff_not] at h_); omega) | (simp [mulSz, Cont.len, bne] at h_; done) | (simp [mulSz, Cont.len, bne] at h_; omega))); intro _; conv => whnf))
  intro (t1 : List Bool)
  conv => whnf
  repeat (first
    | (refine And.intro ?_ ?_; (focus (first | omega | decide | exact Int.natCast_nonneg _ | ((repeat' refine And.intro ?_ ?_) <;> first | omega | (simp only [i64max]; omega) | (simp only [u8max]; omega) | (simp [mulSz, Cont.len, bne]; done) | (simp [mulSz, Cont.len, bne]; omega)))); conv => whnf)
    | (refine tst_in ?_ ?_; (focus (intro h_; exfalso; first | omega | ((try simp only [decide_eq_true_eq, decide_eq_false_iff_not] at h_); omega) | (simp [mulSz, Cont.len, bne] at h_; done) | (simp [mulSz, Cont.len, bne] at h_; omega))); intro _; conv => whnf)
    | (refine tst_in ?_ ?_; rotate_left; (focus (intro h_; exfalso; first | omega | ((try simp only [decide_eq_true_eq, decide_eq_false_iff_not] at h_); omega) | (simp [mulSz, Cont.len, bne] at h_; done) | (simp [mulSz, Cont.len, bne] at h_; omega))); intro _; conv => whnf))
  refine ⟨_, [0], SU, ?_⟩
  conv => whnf
  refine ⟨?_, ?_, ?_⟩
  · conv => whnf
    repeat' (first | exact True.intro | rfl | refine And.intro ?_ ?_)
    all_goals (conv => whnf)
    repeat' (first | exact True.intro | rfl | refine And.intro ?_ ?_)
    all_goals (try (first | rfl | omega | (simp; done) | (simp; omega)))
  · conv => whnf
    repeat' (first | exact True.intro | rfl | refine And.intro ?_ ?_)
    all_goals (conv => whnf)
    repeat' (first | exact True.intro | rfl | refine And.intro ?_ ?_)
    all_goals (try (first | rfl | omega | (simp; done) | (simp; omega)))
  conv => whnf
  refine ⟨?_, True.intro⟩
  rintro (Z : List Bool) ⟨z1, z2⟩
  conv => whnf
  have z1 : (Z.drop n).take W = bt W (crc W p 0 (part A 0 n)) W := z1
  have z2 : n + W ≤ Z.length := z2
  conv => whnf
  repeat (first
    | (refine And.intro ?_ ?_; (focus (first | omega | decide | exact Int.natCast_nonneg _ | ((repeat' refine And.intro ?_ ?_) <;> first | omega | (simp only [i64max]; omega) | (simp only [u8max]; omega) | (simp [mulSz, Cont.len, bne, hl1]; done) | (simp [mulSz, Cont.len, bne, hl1]; omega)))); conv => whnf)
    | (refine tst_in ?_ ?_; (focus (intro h_; exfalso; first | omega | ((try simp only [decide_eq_true_eq, decide_eq_false_iff_not] at h_); omega) | (simp [mulSz, Cont.len, bne, hl1] at h_; done) | (simp [mulSz, Cont.len, bne, hl1] at h_; omega))); intro _; conv => whnf)
    | (refine tst_in ?_ ?_; rotate_left; (focus (intro h_; exfalso; first | omega | ((try simp only [decide_eq_true_eq, decide_eq_false_iff_not] at h_); omega) | (simp [mulSz, Cont.len, bne, hl1] at h_; done) | (simp [mulSz, Cont.len, bne, hl1] at h_; omega))); intro _; conv => whnf))
  intro (t2 : List Bool)
  conv => whnf
  repeat (first
    | (refine And.intro ?_ ?_; (focus (first | omega | decide | exact Int.natCast_nonneg _ | ((repeat' refine And.intro ?_ ?_) <;> first | omega | (simp only [i64max]; omega) | (simp only [u8max]; omega) | (simp [mulSz, Cont.len, bne]; done) | (simp [mulSz, Cont.len, bne]; omega)))); conv => whnf)
    | (refine tst_in ?_ ?_; (focus (intro h_; exfalso; first | omega | ((try simp only [decide_eq_true_eq, decide_eq_false_iff_not] at h_); omega) | (simp [mulSz, Cont.len, bne] at h_; done) | (simp [mulSz, Cont.len, bne] at h_; omega))); intro _; conv => whnf)
    | (refine tst_in ?_ ?_; rotate_left; (focus (intro h_; exfalso; first | omega | ((try simp only [decide_eq_true_eq, decide_eq_false_iff_not] at h_); omega) | (simp [mulSz, Cont.len, bne] at h_; done) | (simp [mulSz, Cont.len, bne] at h_; omega))); intro _; conv => whnf))
  refine .inl ⟨t2, [0, 4], ?_⟩
  conv => whnf
  repeat' (first | exact True.intro | rfl | refine And.intro ?_ ?_)
  all_goals (conv => whnf)
  repeat' (first | exact True.intro | rfl | refine And.intro ?_ ?_)
  all_goals (try (first | omega | exact True.intro | rfl | assumption | (change LE.le (α := Nat) _ _; first | omega | (simp only [hl]; omega)) | (simp only [hl]; done) | (simp only [hl]; omega) | (simp [hl]; done) | (simp [hl]; omega)))
  all_goals (show A.take n ++ bt W (crc W p 0 (part A 0 n)) W ++ t2 = _; simp [mulSz, List.take_append, List.take_take, Nat.min_eq_left hA, z1])
theorem rRow_far (W : Nat) (A : List Bool) (n ca : Nat) (hN : 32768 < n + W) (hW : W ≤ 32) (hN2 : n ≤ 4611686018427387904) :
    Fits Try.prog 42 ⟨[.int .i64 W, .slice 0 0 n ca], [.seg false (.bools A)], [rowOut [] 1]⟩ := by
  refine fits_of_body (C := cfg4 1) (c := c42) (ts := [4, 5]) wtok3 wmixed (fun _ => none) (fun _ => none)
    Try.func42 (by kernel_rfl) (by kernel_rfl) (by kernel_rfl) (by kernel_rfl) rfl ?_
  conv => whnf
  repeat (first
    | (refine And.intro ?_ ?_; (focus (first | omega | decide | exact Int.natCast_nonneg _ | ((repeat' refine And.intro ?_ ?_) <;> first | omega | (simp only [i64max]; omega) | (simp only [u8max]; omega) | (simp [mulSz, Cont.len, bne]; done) | (simp [mulSz, Cont.len, bne]; omega)))); conv => whnf)
    | (refine tst_in ?_ ?_; (focus (intro h_; exfalso; first | omega | ((try simp only [decide_eq_true_eq, decide_eq_false_iff_not] at h_); omega) | (simp [mulSz, Cont.len, bne] at h_; done) | (simp [mulSz, Cont.len, bne] at h_; omega))); intro _; conv => whnf)
    | (refine tst_in ?_ ?_; rotate_left; (focus (intro h_; exfalso; first | omega | ((try simp only [decide_eq_true_eq, decide_eq_false_iff_not] at h_); omega) | (simp [mulSz, Cont.len, bne] at h_; done) | (simp [mulSz, Cont.len, bne] at h_; omega))); intro _; conv => whnf))
  refine .inl ⟨[], [0, 1], ?_⟩
  conv => whnf
  repeat' (first | exact True.intro | rfl | refine And.intro ?_ ?_)
  all_goals (conv => whnf)
  repeat' (first | exact True.intro | rfl | refine And.intro ?_ ?_)
  all_goals (try (first | omega | exact True.intro | rfl | assumption | (change LE.le (α := Nat) _ _; first | omega | (simp only []; omega)) | (simp only []; done) | (simp only []; omega) | (simp; done) | (simp; omega)))
noncomputable def c44 : Code := (Try.f44.body).getD .skip
def plan44 : PlanL := .lin [0, 1, 2, 3, 4, 5, 6, 7, 8, 9, 10, 11, 13, 14] (.alt 12 (.lin [15, 16, 17, 18] .done) (.alt 15 (.lin [12, 16, 17, 18] .done) .fin))
def cfg44 (k : Nat) : Cfg := { T := wtys3, sgn := fun _ => false, wr := fun _ => false, k := k, q := qf4, plan := fun i => match Nat.beq i 2 with | true => some plan44 | false => none }
set_option maxHeartbeats 0 in
set_option maxRecDepth 100000 in
theorem rFits_f (W p : Nat) (A : List Bool) (n ca : Nat) (hA : n ≤ A.length) (hca : n ≤ ca) (hnW : W ≤ n) (hN : n ≤ 32768) (h0 : 0 < W) (hW : W ≤ 32) (hD : ∀ k, 1 ≤ k → k ≤ W → (dvd W).getD k false = p.testBit (W - k)) (hp : p < 2 ^ W) (hDl : (dvd W).length = W + 1)
    (DIV : Fits Try.prog 46 ⟨[.int .i64 W], [], [⟨Unit, fun _ => True, fun _ => .slice 0 0 (W + 1) (W + 1), fun _ => [.seg true (.bools (dvd W))]⟩]⟩) (f : Bool)
    (hf : ∀ Z : List Bool, part Z (n - W) W = bt W (crc W p 0 (part A 0 (n - W))) W → n - W + W ≤ Z.length → eqO Z (n - W) A (n - W) W = f) :
    Fits Try.prog 44 ⟨[.int .i64 W, .slice 0 0 n ca], [.seg false (.bools A)], [numOut [.dead] (.bool f)]⟩ := by
  have SU := rSum_f W p A (n - W) ca (by omega) (by omega) h0 hW hD hp hDl DIV
  refine fits_of_body (C := cfg44 1) (c := c44) (ts := [4]) wtok3 wmixed (fun _ => none) (fun _ => none)
    Try.func44 (by kernel_rfl) (by kernel_rfl) (by kernel_rfl) (by kernel_rfl) rfl ?_
  conv => whnf
  repeat (first
    | (refine And.intro ?_ ?_; (focus (first | omega | decide | exact Int.natCast_nonneg _ | ((repeat' refine And.intro ?_ ?_) <;> first | omega | (simp only [i64max]; omega) | (simp only [u8max]; omega) | (simp [mulSz, Cont.len, bne]; done) | (simp [mulSz, Cont.len, bne]; omega)))); conv => whnf)
    | (refine tst_in ?_ ?_; (focus (intro h_; exfalso; first | omega | ((try simp only [decide_eq_true_eq, decide_eq_false_iff_not] at h_); omega) | (simp [mulSz, Cont.len, bne] at h_; done) | (simp [mulSz, Cont.len, bne] at h_; omega))); intro _; conv => whnf)
    | (refine tst_in ?_ ?_; rotate_left; (focus (intro h_; exfalso; first | omega | ((try simp only [decide_eq_true_eq, decide_eq_false_iff_not] at h_); omega) | (simp [mulSz, Cont.len, bne] at h_; done) | (simp [mulSz, Cont.len, bne] at h_; omega))); intro _; conv => whnf))
  have key : ∀ Z : List Bool, part Z (n - W) W = bt W (crc W p 0 (part A 0 (n - W))) W → n - W + W ≤ Z.length → QFits Try.prog 43 ⟨[.slice 0 (n - W) W (Z.length - (n - W)), .slice 1 (n - W) W (ca - (n - W))], [.seg false (.bools Z), .seg false (.bools A)], .bool f⟩ := by
    intro Z z1 z2
    have := Same_q Z A (n - W) W (Z.length - (n - W)) (n - W) W (ca - (n - W)) (by omega) (by omega) (by omega)
    rwa [hf Z z1 z2, decide_eq_true rfl, Bool.true_and] at this
  refine ⟨?_, ?_⟩
  · conv => whnf
    repeat (first
      | (refine And.intro ?_ ?_; (focus (first | omega | decide | exact Int.natCast_nonneg _ | ((repeat' refine And.intro ?_ ?_) <;> first | omega | (simp only [i64max]; omega) | (simp only [u8max]; omega) | (simp [mulSz, Cont.len, bne]; done) | (simp [mulSz, Cont.len, bne]; omega)))); conv => whnf)
      | (refine tst_in ?_ ?_; (focus (intro h_; exfalso; first | omega | ((try simp only [decide_eq_true_eq, decide_eq_false_iff_not] at h_); omega) | (simp [mulSz, Cont.len, bne] at h_; done) | (simp [mulSz, Cont.len, bne] at h_; omega))); intro _; conv => whnf)
      | (refine tst_in ?_ ?_; rotate_left; (focus (intro h_; exfalso; first | omega | ((try simp only [decide_eq_true_eq, decide_eq_false_iff_not] at h_); omega) | (simp [mulSz, Cont.len, bne] at h_; done) | (simp [mulSz, Cont.len, bne] at h_; omega))); intro _; conv => whnf))
    refine ⟨_, [0], SU, ?_⟩
    conv => whnf
    refine ⟨?_, ?_, ?_⟩
    · conv => whnf
      repeat' (first | exact True.intro | rfl | refine And.intro ?_ ?_)
      all_goals (conv => whnf)
      repeat' (first | exact True.intro | rfl | refine And.intro ?_ ?_)
      all_goals (try (first | rfl | omega | (simp; done) | (simp; omega)))
    · conv => whnf
      repeat' (first | exact True.intro | rfl | refine And.intro ?_ ?_)
      all_goals (conv => whnf)
      repeat' (first | exact True.intro | rfl | refine And.intro ?_ ?_)
      all_goals (try (first | rfl | omega | (simp; done) | (simp; omega)))
    conv => whnf
    refine ⟨?_, True.intro⟩
    rintro (Z : List Bool) ⟨z1, z2⟩
    conv => whnf
    have SA := key Z z1 z2
    conv => whnf
    repeat (first
      | (refine And.intro ?_ ?_; (focus (first | omega | decide | exact Int.natCast_nonneg _ | ((repeat' refine And.intro ?_ ?_) <;> first | omega | (simp only [i64max]; omega) | (simp only [u8max]; omega) | (simp [mulSz, Cont.len, bne]; done) | (simp [mulSz, Cont.len, bne]; omega)))); conv => whnf)
      | (refine tst_in ?_ ?_; (focus (intro h_; exfalso; first | omega | ((try simp only [decide_eq_true_eq, decide_eq_false_iff_not] at h_); omega) | (simp [mulSz, Cont.len, bne] at h_; done) | (simp [mulSz, Cont.len, bne] at h_; omega))); intro _; conv => whnf)
      | (refine tst_in ?_ ?_; rotate_left; (focus (intro h_; exfalso; first | omega | ((try simp only [decide_eq_true_eq, decide_eq_false_iff_not] at h_); omega) | (simp [mulSz, Cont.len, bne] at h_; done) | (simp [mulSz, Cont.len, bne] at h_; omega))); intro _; conv => whnf))
    refine ⟨_, [1, 0], SA, ?_⟩
    conv => whnf
    refine ⟨?_, ?_, ?_⟩
    · conv => whnf
      repeat' (first | exact True.intro | rfl | refine And.intro ?_ ?_)
      all_goals (conv => whnf)
      repeat' (first | exact True.intro | rfl | refine And.intro ?_ ?_)
      all_goals (try (first | omega | exact True.intro | rfl | assumption | (change LE.le (α := Nat) _ _; first | omega | (simp only []; omega)) | (simp only []; done) | (simp only []; omega) | (simp; done) | (simp; omega)))
    · conv => whnf
      repeat' (first | exact True.intro | rfl | refine And.intro ?_ ?_)
      all_goals (conv => whnf)
      repeat' (first | exact True.intro | rfl | refine And.intro ?_ ?_)
      all_goals (try (first | omega | exact True.intro | rfl | assumption | (change LE.le (α := Nat) _ _; first | omega | (simp only []; omega)) | (simp only []; done) | (simp only []; omega) | (simp; done) | (simp; omega)))
    conv => whnf
    repeat (first
      | (refine And.intro ?_ ?_; (focus (first | omega | decide | exact Int.natCast_nonneg _ | ((repeat' refine And.intro ?_ ?_) <;> first | omega | (simp only [i64max]; omega) | (simp only [u8max]; omega) | (simp [mulSz, Cont.len, bne]; done) | (simp [mulSz, Cont.len, bne]; omega)))); conv => whnf)
      | (refine tst_in ?_ ?_; (focus (intro h_; exfalso; first | omega | ((try simp only [decide_eq_true_eq, decide_eq_false_iff_not] at h_); omega) | (simp [mulSz, Cont.len, bne] at h_; done) | (simp [mulSz, Cont.len, bne] at h_; omega))); intro _; conv => whnf)
      | (refine tst_in ?_ ?_; rotate_left; (focus (intro h_; exfalso; first | omega | ((try simp only [decide_eq_true_eq, decide_eq_false_iff_not] at h_); omega) | (simp [mulSz, Cont.len, bne] at h_; done) | (simp [mulSz, Cont.len, bne] at h_; omega))); intro _; conv => whnf))
    refine .inl ⟨(), [0], ?_⟩
    conv => whnf
    repeat' (first | exact True.intro | rfl | refine And.intro ?_ ?_)
    all_goals (conv => whnf)
    repeat' (first | exact True.intro | rfl | refine And.intro ?_ ?_)
    all_goals (try (first | omega | exact True.intro | rfl | assumption | (change LE.le (α := Nat) _ _; first | omega | (simp only []; omega)) | (simp only []; done) | (simp only []; omega) | (simp; done) | (simp; omega)))
  · conv => whnf
    refine ⟨?_, True.intro⟩
    conv => whnf
    repeat (first
      | (refine And.intro ?_ ?_; (focus (first | omega | decide | exact Int.natCast_nonneg _ | ((repeat' refine And.intro ?_ ?_) <;> first | omega | (simp only [i64max]; omega) | (simp only [u8max]; omega) | (simp [mulSz, Cont.len, bne]; done) | (simp [mulSz, Cont.len, bne]; omega)))); conv => whnf)
      | (refine tst_in ?_ ?_; (focus (intro h_; exfalso; first | omega | ((try simp only [decide_eq_true_eq, decide_eq_false_iff_not] at h_); omega) | (simp [mulSz, Cont.len, bne] at h_; done) | (simp [mulSz, Cont.len, bne] at h_; omega))); intro _; conv => whnf)
      | (refine tst_in ?_ ?_; rotate_left; (focus (intro h_; exfalso; first | omega | ((try simp only [decide_eq_true_eq, decide_eq_false_iff_not] at h_); omega) | (simp [mulSz, Cont.len, bne] at h_; done) | (simp [mulSz, Cont.len, bne] at h_; omega))); intro _; conv => whnf))
    refine ⟨_, [0], SU, ?_⟩
    conv => whnf
    refine ⟨?_, ?_, ?_⟩
    · conv => whnf
      repeat' (first | exact True.intro | rfl | refine And.intro ?_ ?_)
      all_goals (conv => whnf)
      repeat' (first | exact True.intro | rfl | refine And.intro ?_ ?_)
      all_goals (try (first | rfl | omega | (simp; done) | (simp; omega)))
    · conv => whnf
      repeat' (first | exact True.intro | rfl | refine And.intro ?_ ?_)
      all_goals (conv => whnf)
      repeat' (first | exact True.intro | rfl | refine And.intro ?_ ?_)
      all_goals (try (first | rfl | omega | (simp; done) | (simp; omega)))
    conv => whnf
    refine ⟨?_, True.intro⟩
    rintro (Z : List Bool) ⟨z1, z2⟩
    conv => whnf
    have SA := key Z z1 z2
    conv => whnf
    repeat (first
      | (refine And.intro ?_ ?_; (focus (first | omega | decide | exact Int.natCast_nonneg _ | ((repeat' refine And.intro ?_ ?_) <;> first | omega | (simp only [i64max]; omega) | (simp only [u8max]; omega) | (simp [mulSz, Cont.len, bne]; done) | (simp [mulSz, Cont.len, bne]; omega)))); conv => whnf)
      | (refine tst_in ?_ ?_; (focus (intro h_; exfalso; first | omega | ((try simp only [decide_eq_true_eq, decide_eq_false_iff_not] at h_); omega) | (simp [mulSz, Cont.len, bne] at h_; done) | (simp [mulSz, Cont.len, bne] at h_; omega))); intro _; conv => whnf)
      | (refine tst_in ?_ ?_; rotate_left; (focus (intro h_; exfalso; first | omega | ((try simp only [decide_eq_true_eq, decide_eq_false_iff_not] at h_); omega) | (simp [mulSz, Cont.len, bne] at h_; done) | (simp [mulSz, Cont.len, bne] at h_; omega))); intro _; conv => whnf))
    refine ⟨_, [1, 0], SA, ?_⟩
    conv => whnf
    refine ⟨?_, ?_, ?_⟩
    · conv => whnf
      repeat' (first | exact True.intro | rfl | refine And.intro ?_ ?_)
      all_goals (conv => whnf)
      repeat' (first | exact True.intro | rfl | refine And.intro ?_ ?_)
      all_goals (try (first | omega | exact True.intro | rfl | assumption | (change LE.le (α := Nat) _ _; first | omega | (simp only []; omega)) | (simp only []; done) | (simp only []; omega) | (simp; done) | (simp; omega)))
    · conv => whnf
      repeat' (first | exact True.intro | rfl | refine And.intro ?_ ?_)
      all_goals (conv => whnf)
      repeat' (first | exact True.intro | rfl | refine And.intro ?_ ?_)
      all_goals (try (first | omega | exact True.intro | rfl | assumption | (change LE.le (α := Nat) _ _; first | omega | (simp only []; omega)) | (simp only []; done) | (simp only []; omega) | (simp; done) | (simp; omega)))
    conv => whnf
    repeat (first
      | (refine And.intro ?_ ?_; (focus (first | omega | decide | exact Int.natCast_nonneg _ | ((repeat' refine And.intro ?_ ?_) <;> first | omega | (simp only [i64max]; omega) | (simp only [u8max]; omega) | (simp [mulSz, Cont.len, bne]; done) | (simp [mulSz, Cont.len, bne]; omega)))); conv => whnf)
      | (refine tst_in ?_ ?_; (focus (intro h_; exfalso; first | omega | ((try simp only [decide_eq_true_eq, decide_eq_false_iff_not] at h_); omega) | (simp [mulSz, Cont.len, bne] at h_; done) | (simp [mulSz, Cont.len, bne] at h_; omega))); intro _; conv => whnf)
      | (refine tst_in ?_ ?_; rotate_left; (focus (intro h_; exfalso; first | omega | ((try simp only [decide_eq_true_eq, decide_eq_false_iff_not] at h_); omega) | (simp [mulSz, Cont.len, bne] at h_; done) | (simp [mulSz, Cont.len, bne] at h_; omega))); intro _; conv => whnf))
    refine .inl ⟨(), [0], ?_⟩
    conv => whnf
    repeat' (first | exact True.intro | rfl | refine And.intro ?_ ?_)
    all_goals (conv => whnf)
    repeat' (first | exact True.intro | rfl | refine And.intro ?_ ?_)
    all_goals (try (first | omega | exact True.intro | rfl | assumption | (change LE.le (α := Nat) _ _; first | omega | (simp only []; omega)) | (simp only []; done) | (simp only []; omega) | (simp; done) | (simp; omega)))
set_option maxHeartbeats 0 in
set_option maxRecDepth 100000 in
theorem rFits_s (W : Nat) (A : List Bool) (n ca : Nat) (hN : n < W ∨ 32768 < n) (hW : W ≤ 32) (hN2 : n ≤ 4611686018427387904) :
    Fits Try.prog 44 ⟨[.int .i64 W, .slice 0 0 n ca], [.seg false (.bools A)], [numOut [.dead] (.bool false)]⟩ := by
  refine fits_of_body (C := cfg44 1) (c := c44) (ts := [4]) wtok3 wmixed (fun _ => none) (fun _ => none)
    Try.func44 (by kernel_rfl) (by kernel_rfl) (by kernel_rfl) (by kernel_rfl) rfl ?_
  rcases hN with h | h
  · conv => whnf
    repeat (first
      | (refine And.intro ?_ ?_; (focus (first | omega | decide | exact Int.natCast_nonneg _ | ((repeat' refine And.intro ?_ ?_) <;> first | omega | (simp only [i64max]; omega) | (simp only [u8max]; omega) | (simp [mulSz, Cont.len, bne]; done) | (simp [mulSz, Cont.len, bne]; omega)))); conv => whnf)
      | (refine tst_in ?_ ?_; (focus (intro h_; exfalso; first | omega | ((try simp only [decide_eq_true_eq, decide_eq_false_iff_not] at h_); omega) | (simp [mulSz, Cont.len, bne] at h_; done) | (simp [mulSz, Cont.len, bne] at h_; omega))); intro _; conv => whnf)
      | (refine tst_in ?_ ?_; rotate_left; (focus (intro h_; exfalso; first | omega | ((try simp only [decide_eq_true_eq, decide_eq_false_iff_not] at h_); omega) | (simp [mulSz, Cont.len, bne] at h_; done) | (simp [mulSz, Cont.len, bne] at h_; omega))); intro _; conv => whnf))
    refine ⟨?_, ?_⟩
    · conv => whnf
      repeat (first
        | (refine And.intro ?_ ?_; (focus (first | omega | decide | exact Int.natCast_nonneg _ | ((repeat' refine And.intro ?_ ?_) <;> first | omega | (simp only [i64max]; omega) | (simp only [u8max]; omega) | (simp [mulSz, Cont.len, bne]; done) | (simp [mulSz, Cont.len, bne]; omega)))); conv => whnf)
        | (refine tst_in ?_ ?_; (focus (intro h_; exfalso; first | omega | ((try simp only [decide_eq_true_eq, decide_eq_false_iff_not] at h_); omega) | (simp [mulSz, Cont.len, bne] at h_; done) | (simp [mulSz, Cont.len, bne] at h_; omega))); intro _; conv => whnf)
        | (refine tst_in ?_ ?_; rotate_left; (focus (intro h_; exfalso; first | omega | ((try simp only [decide_eq_true_eq, decide_eq_false_iff_not] at h_); omega) | (simp [mulSz, Cont.len, bne] at h_; done) | (simp [mulSz, Cont.len, bne] at h_; omega))); intro _; conv => whnf))
      refine .inl ⟨(), [0], ?_⟩
      conv => whnf
      repeat' (first | exact True.intro | rfl | refine And.intro ?_ ?_)
      all_goals (conv => whnf)
      repeat' (first | exact True.intro | rfl | refine And.intro ?_ ?_)
      all_goals (try (first | omega | exact True.intro | rfl | assumption | (change LE.le (α := Nat) _ _; first | omega | (simp only []; omega)) | (simp only []; done) | (simp only []; omega) | (simp; done) | (simp; omega)))
    · conv => whnf
      refine ⟨?_, True.intro⟩
      conv => whnf
      repeat (first
        | (refine And.intro ?_ ?_; (focus (first | omega | decide | exact Int.natCast_nonneg _ | ((repeat' refine And.intro ?_ ?_) <;> first | omega | (simp only [i64max]; omega) | (simp only [u8max]; omega) | (simp [mulSz, Cont.len, bne]; done) | (simp [mulSz, Cont.len, bne]; omega)))); conv => whnf)
        | (refine tst_in ?_ ?_; (focus (intro h_; exfalso; first | omega | ((try simp only [decide_eq_true_eq, decide_eq_false_iff_not] at h_); omega) | (simp [mulSz, Cont.len, bne] at h_; done) | (simp [mulSz, Cont.len, bne] at h_; omega))); intro _; conv => whnf)
        | (refine tst_in ?_ ?_; rotate_left; (focus (intro h_; exfalso; first | omega | ((try simp only [decide_eq_true_eq, decide_eq_false_iff_not] at h_); omega) | (simp [mulSz, Cont.len, bne] at h_; done) | (simp [mulSz, Cont.len, bne] at h_; omega))); intro _; conv => whnf))
      refine .inl ⟨(), [0], ?_⟩
      conv => whnf
      repeat' (first | exact True.intro | rfl | refine And.intro ?_ ?_)
      all_goals (conv => whnf)
      repeat' (first | exact True.intro | rfl | refine And.intro ?_ ?_)
      all_goals (try (first | omega | exact True.intro | rfl | assumption | (change LE.le (α := Nat) _ _; first | omega | (simp only []; omega)) | (simp only []; done) | (simp only []; omega) | (simp; done) | (simp; omega)))
  · by_cases hw : W ≤ n
    · conv => whnf
      repeat (first
        | (refine And.intro ?_ ?_; (focus (first | omega | decide | exact Int.natCast_nonneg _ | ((repeat' refine And.intro ?_ ?_) <;> first | omega | (simp only [i64max]; omega) | (simp only [u8max]; omega) | (simp [mulSz, Cont.len, bne]; done) | (simp [mulSz, Cont.len, bne]; omega)))); conv => whnf)
        | (refine tst_in ?_ ?_; (focus (intro h_; exfalso; first | omega | ((try simp only [decide_eq_true_eq, decide_eq_false_iff_not] at h_); omega) | (simp [mulSz, Cont.len, bne] at h_; done) | (simp [mulSz, Cont.len, bne] at h_; omega))); intro _; conv => whnf)
        | (refine tst_in ?_ ?_; rotate_left; (focus (intro h_; exfalso; first | omega | ((try simp only [decide_eq_true_eq, decide_eq_false_iff_not] at h_); omega) | (simp [mulSz, Cont.len, bne] at h_; done) | (simp [mulSz, Cont.len, bne] at h_; omega))); intro _; conv => whnf))
      refine ⟨?_, ?_⟩
      · conv => whnf
        repeat (first
          | (refine And.intro ?_ ?_; (focus (first | omega | decide | exact Int.natCast_nonneg _ | ((repeat' refine And.intro ?_ ?_) <;> first | omega | (simp only [i64max]; omega) | (simp only [u8max]; omega) | (simp [mulSz, Cont.len, bne]; done) | (simp [mulSz, Cont.len, bne]; omega)))); conv => whnf)
          | (refine tst_in ?_ ?_; (focus (intro h_; exfalso; first | omega | ((try simp only [decide_eq_true_eq, decide_eq_false_iff_not] at h_); omega) | (simp [mulSz, Cont.len, bne] at h_; done) | (simp [mulSz, Cont.len, bne] at h_; omega))); intro _; conv => whnf)
          | (refine tst_in ?_ ?_; rotate_left; (focus (intro h_; exfalso; first | omega | ((try simp only [decide_eq_true_eq, decide_eq_false_iff_not] at h_); omega) | (simp [mulSz, Cont.len, bne] at h_; done) | (simp [mulSz, Cont.len, bne] at h_; omega))); intro _; conv => whnf))
        refine .inl ⟨(), [0], ?_⟩
        conv => whnf
        repeat' (first | exact True.intro | rfl | refine And.intro ?_ ?_)
        all_goals (conv => whnf)
        repeat' (first | exact True.intro | rfl | refine And.intro ?_ ?_)
        all_goals (try (first | omega | exact True.intro | rfl | assumption | (change LE.le (α := Nat) _ _; first | omega | (simp only []; omega)) | (simp only []; done) | (simp only []; omega) | (simp; done) | (simp; omega)))
      · conv => whnf
        refine ⟨?_, True.intro⟩
        conv => whnf
        repeat (first
          | (refine And.intro ?_ ?_; (focus (first | omega | decide | exact Int.natCast_nonneg _ | ((repeat' refine And.intro ?_ ?_) <;> first | omega | (simp only [i64max]; omega) | (simp only [u8max]; omega) | (simp [mulSz, Cont.len, bne]; done) | (simp [mulSz, Cont.len, bne]; omega)))); conv => whnf)
          | (refine tst_in ?_ ?_; (focus (intro h_; exfalso; first | omega | ((try simp only [decide_eq_true_eq, decide_eq_false_iff_not] at h_); omega) | (simp [mulSz, Cont.len, bne] at h_; done) | (simp [mulSz, Cont.len, bne] at h_; omega))); intro _; conv => whnf)
          | (refine tst_in ?_ ?_; rotate_left; (focus (intro h_; exfalso; first | omega | ((try simp only [decide_eq_true_eq, decide_eq_false_iff_not] at h_); omega) | (simp [mulSz, Cont.len, bne] at h_; done) | (simp [mulSz, Cont.len, bne] at h_; omega))); intro _; conv => whnf))
        refine .inl ⟨(), [0], ?_⟩
        conv => whnf
        repeat' (first | exact True.intro | rfl | refine And.intro ?_ ?_)
        all_goals (conv => whnf)
        repeat' (first | exact True.intro | rfl | refine And.intro ?_ ?_)
        all_goals (try (first | omega | exact True.intro | rfl | assumption | (change LE.le (α := Nat) _ _; first | omega | (simp only []; omega)) | (simp only []; done) | (simp only []; omega) | (simp; done) | (simp; omega)))
    · omega
end Go.Proofs.Ytkffpcifkeaabaa
