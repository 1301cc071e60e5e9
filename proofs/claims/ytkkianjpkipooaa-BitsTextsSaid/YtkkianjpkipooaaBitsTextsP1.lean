/-
  What the functions that are called give: for BitsTexts.
-/
import Derived.Test.YtkkianjpkipooaaRows
import Derived.Test.YtkkianjpkipooaaFv
set_option linter.unusedSimpArgs false
set_option linter.unusedVariables false
set_option linter.unusedVariables false
set_option linter.unusedSimpArgs false
namespace Go.Proofs.Ytkkianjpkipooaa
open Go Go.Fw
def tys0 : List (Nat × TyI) := [
  (3, ⟨.int .i64, 1, 8, .int .i64 0⟩),
  (4, ⟨.bool, 1, 1, .bool false⟩),
  (5, ⟨.int .u8, 1, 1, .int .u8 0⟩),
  (9, ⟨.str, 1, 16, .string (ByteArray.mk #[])⟩),
  (21, ⟨.int .i32, 1, 4, .int .i32 0⟩),
  (22, ⟨.slice 4, 1, 24, .slice none 0 0⟩),
  (23, ⟨.slice 3, 1, 24, .slice none 0 0⟩),
  (26, ⟨.int .i64, 1, 8, .int .i64 0⟩),
  (58, ⟨.slice 5, 1, 24, .slice none 0 0⟩),
  (61, ⟨.int .u64, 1, 8, .int .u64 0⟩)]
theorem tok0 : TOk Try.prog tys0 := by
  intro p hp
  simp only [tys0, List.mem_cons, List.not_mem_nil, or_false] at hp
  rcases hp with rfl | rfl | rfl | rfl | rfl | rfl | rfl | rfl | rfl | rfl
  all_goals exact ⟨by kernel_rfl, by kernel_rfl⟩
theorem mixed0 : Try.prog.follows .mixedOrders = true := by kernel_rfl
def qf : Nat → Bool := fun f => match f with | 32 => true | 33 => true | 34 => true | 17 => true | 18 => true | 19 => true | 25 => true | _ => false
def cfgs (k : Nat) : Cfg := { T := tys0, sgn := fun _ => false, wr := fun _ => false, k := k, q := qf }
theorem i64max : IntKind.i64.max = 9223372036854775807 := rfl
theorem u8max : IntKind.u8.max = 255 := rfl
theorem u16max : IntKind.u16.max = 65535 := rfl
theorem u32max : IntKind.u32.max = 4294967295 := rfl
theorem u64max : IntKind.u64.max = 18446744073709551615 := rfl
theorem u8wrap (n : Int) : IntKind.u8.wrap n = n % 256 := by
  unfold IntKind.wrap
  simp [IntKind.bits, IntKind.signed]
def numOut (D : List Seg) (x : AV) : FOut := ⟨Unit, fun _ => True, fun _ => x, fun _ => D⟩
theorem sh_eq (C j m : Nat) (b : Int) (hb : b.toNat = j) (hj : j ≤ m) : (C : Int) / 2 ^ (min b.toNat m) = ((C >>> j : Nat) : Int) := by
  rw [hb, Nat.min_eq_left hj, Nat.shiftRight_eq_div_pow]; simp
theorem bit_eq (C j : Nat) : (!decide (((((C >>> j : Nat) : Int).toNat &&& (1 : Int).toNat : Nat) : Int) = 0)) = C.testBit j := by
  rw [Int.toNat_natCast, show (1 : Int).toNat = 1 from rfl, Nat.and_one_is_mod, Nat.testBit_eq_decide_div_mod_eq, Nat.shiftRight_eq_div_pow]
  have := Nat.mod_two_eq_zero_or_one (C / 2 ^ j)
  rcases this with h | h <;> rw [h] <;> rfl
theorem shr_le (C j : Nat) : C >>> j ≤ C := by rw [Nat.shiftRight_eq_div_pow]; exact Nat.div_le_self _ _
/-- A number's bits, the highest first. -/
def bt (W s : Nat) : Nat → List Bool
  | 0 => []
  | k + 1 => bt W s k ++ [s.testBit (W - 1 - k)]
theorem bt_len (W s : Nat) : ∀ k, (bt W s k).length = k
  | 0 => rfl
  | k + 1 => by simp [bt, bt_len W s k]
noncomputable def c33 : Code := (Try.f33.body).getD .skip
set_option maxHeartbeats 0 in
set_option maxRecDepth 100000 in
theorem isWidth_q (n : Int) : QFits Try.prog 33 ⟨[.int .i64 n], [], .bool (decide (1 ≤ n) && decide (n ≤ 16))⟩ := by
  refine qfits_of_body (C := cfgs 0) (c := c33) (ts := [2]) tok0 mixed0 (fun _ => none) (fun _ => none)
    Try.func33 (by kernel_rfl) (by kernel_rfl) (by kernel_rfl) (by kernel_rfl) (by kernel_rfl) rfl rfl ?_
  conv => whnf
  refine tst_in (fun h => ?_) (fun h => ?_)
  · conv => whnf
    have h : 1 ≤ n := by simpa using h
    rw [decide_eq_true h, Bool.true_and]
    conv => whnf
    repeat' (first | exact True.intro | rfl | refine And.intro ?_ ?_)
    all_goals (conv => whnf)
    repeat' (first | exact True.intro | rfl | refine And.intro ?_ ?_)
    all_goals (try (first | omega | exact True.intro | rfl | assumption | (change LE.le (α := Nat) _ _; first | omega | (simp only [dLe_eq]; omega)) | (simp only [dLe_eq]; done) | (simp only [dLe_eq]; omega) | (simp [dLe_eq]; done) | (simp [dLe_eq]; omega)))
  · conv => whnf
    have h : ¬ 1 ≤ n := by simpa using h
    rw [decide_eq_false h, Bool.false_and]
noncomputable def c34 : Code := (Try.f34.body).getD .skip
set_option maxHeartbeats 0 in
set_option maxRecDepth 100000 in
theorem isRow_q (A : List Bool) (n ca : Nat) : QFits Try.prog 34 ⟨[.slice 0 0 n ca], [.seg false (.bools A)], .bool (decide ((n : Int) ≤ 32768))⟩ := by
  refine qfits_of_body (C := cfgs 1) (c := c34) (ts := [2]) tok0 mixed0 (fun _ => none) (fun _ => none)
    Try.func34 (by kernel_rfl) (by kernel_rfl) (by kernel_rfl) (by kernel_rfl) (by kernel_rfl) rfl rfl ?_
  conv => whnf
  repeat (first
    | (refine And.intro ?_ ?_; (focus (first | omega | decide | exact Int.natCast_nonneg _ | ((repeat' refine And.intro ?_ ?_) <;> first | omega | exact Int.natCast_nonneg _ | (simp only [i64max]; omega) | (simp only [u8max]; omega) | (simp only [i64max, u8max, u16max, u32max, u64max]; omega) | (simp [mulSz, Cont.len, bne]; done) | (simp [mulSz, Cont.len, bne]; omega)))); conv => whnf)
    | (refine tst_in ?_ ?_; (focus (intro h_; exfalso; first | omega | ((try simp only [decide_eq_true_eq, decide_eq_false_iff_not] at h_); omega) | (simp [mulSz, Cont.len, bne] at h_; done) | (simp [mulSz, Cont.len, bne] at h_; omega))); intro _; conv => whnf)
    | (refine tst_in ?_ ?_; rotate_left; (focus (intro h_; exfalso; first | omega | ((try simp only [decide_eq_true_eq, decide_eq_false_iff_not] at h_); omega) | (simp [mulSz, Cont.len, bne] at h_; done) | (simp [mulSz, Cont.len, bne] at h_; omega))); intro _; conv => whnf))
  conv => whnf
  repeat' (first | exact True.intro | rfl | refine And.intro ?_ ?_)
  all_goals (conv => whnf)
  repeat' (first | exact True.intro | rfl | refine And.intro ?_ ?_)
  all_goals (try (first | omega | exact True.intro | rfl | assumption | (change LE.le (α := Nat) _ _; first | omega | (simp only [dLe_eq]; omega)) | (simp only [dLe_eq]; done) | (simp only [dLe_eq]; omega) | (simp [dLe_eq]; done) | (simp [dLe_eq]; omega)))
noncomputable def c32 : Code := (Try.f32.body).getD .skip
def inv32 (n : Nat) : LInv := ⟨Nat, fun k => ⟨anyTo 13 [.int .i64 n, .any, .any, .int .i64 (2 ^ k : Nat), .int .i64 k], []⟩, fun k => k ≤ n, fun k => n - k⟩
set_option maxHeartbeats 0 in
set_option maxRecDepth 100000 in
theorem power_q (n : Nat) (hn : n ≤ 40) : QFits Try.prog 32 ⟨[.int .i64 n], [], .int .i64 (2 ^ n : Nat)⟩ := by
  refine qfits_of_body (C := cfgs 0) (c := c32) (ts := [2]) tok0 mixed0 (fun | 3 => some (inv32 n) | _ => none) (fun _ => none)
    Try.func32 (by kernel_rfl) (by kernel_rfl) (by kernel_rfl) (by kernel_rfl) (by kernel_rfl) rfl rfl ?_
  conv => whnf
  repeat (first
    | (refine And.intro ?_ ?_; (focus (first | omega | decide | exact Int.natCast_nonneg _ | ((repeat' refine And.intro ?_ ?_) <;> first | omega | exact Int.natCast_nonneg _ | (simp only [i64max]; omega) | (simp only [u8max]; omega) | (simp only [i64max, u8max, u16max, u32max, u64max]; omega) | (simp [mulSz, Cont.len, bne]; done) | (simp [mulSz, Cont.len, bne]; omega)))); conv => whnf)
    | (refine tst_in ?_ ?_; (focus (intro h_; exfalso; first | omega | ((try simp only [decide_eq_true_eq, decide_eq_false_iff_not] at h_); omega) | (simp [mulSz, Cont.len, bne] at h_; done) | (simp [mulSz, Cont.len, bne] at h_; omega))); intro _; conv => whnf)
    | (refine tst_in ?_ ?_; rotate_left; (focus (intro h_; exfalso; first | omega | ((try simp only [decide_eq_true_eq, decide_eq_false_iff_not] at h_); omega) | (simp [mulSz, Cont.len, bne] at h_; done) | (simp [mulSz, Cont.len, bne] at h_; omega))); intro _; conv => whnf))
  refine ⟨⟨[], (0 : Nat), ?_, Nat.zero_le _⟩, ?_⟩
  · conv => whnf
    repeat' (first | exact True.intro | rfl | refine And.intro ?_ ?_)
    all_goals (conv => whnf)
    repeat' (first | exact True.intro | rfl | refine And.intro ?_ ?_)
    all_goals (try (first | omega | exact True.intro | rfl | assumption | (change LE.le (α := Nat) _ _; first | omega | (simp only []; omega)) | (simp only []; done) | (simp only []; omega) | (simp; done) | (simp; omega)))
  · intro (k : Nat) (hk : k ≤ n)
    have hp : 2 ^ k ≤ 2 ^ 40 := Nat.pow_le_pow_right (by decide) (by omega)
    have hs : 2 ^ (k + 1) = 2 * 2 ^ k := by rw [Nat.pow_succ]; omega
    generalize hx : 2 ^ k = x at *
    show forceSt ⟨anyTo 13 [.int .i64 n, .any, .any, .int .i64 (2 ^ k : Nat), .int .i64 k], []⟩ _
    rw [hx]
    conv => whnf
    refine tst_in (fun hlt => ?_) (fun hge => ?_)
    · skip
      have hlt : k < n := by simp at hlt; omega
      conv => whnf
      repeat (first
        | (refine And.intro ?_ ?_; (focus (first | omega | decide | exact Int.natCast_nonneg _ | ((repeat' refine And.intro ?_ ?_) <;> first | omega | exact Int.natCast_nonneg _ | (simp only [i64max]; omega) | (simp only [u8max]; omega) | (simp only [i64max, u8max, u16max, u32max, u64max]; omega) | (simp [mulSz, Cont.len, bne]; done) | (simp [mulSz, Cont.len, bne]; omega)))); conv => whnf)
        | (refine tst_in ?_ ?_; (focus (intro h_; exfalso; first | omega | ((try simp only [decide_eq_true_eq, decide_eq_false_iff_not] at h_); omega) | (simp [mulSz, Cont.len, bne] at h_; done) | (simp [mulSz, Cont.len, bne] at h_; omega))); intro _; conv => whnf)
        | (refine tst_in ?_ ?_; rotate_left; (focus (intro h_; exfalso; first | omega | ((try simp only [decide_eq_true_eq, decide_eq_false_iff_not] at h_); omega) | (simp [mulSz, Cont.len, bne] at h_; done) | (simp [mulSz, Cont.len, bne] at h_; omega))); intro _; conv => whnf))
      refine ⟨[], k + 1, ?_, (by show k + 1 ≤ n; omega), (by show n - (k + 1) < n - k; omega)⟩
      conv => whnf
      repeat' (first | exact True.intro | rfl | refine And.intro ?_ ?_)
      all_goals (conv => whnf)
      repeat' (first | exact True.intro | rfl | refine And.intro ?_ ?_)
      all_goals (try (first | omega | exact True.intro | rfl | assumption | (change LE.le (α := Nat) _ _; first | omega | (simp only [hs]; omega)) | (simp only [hs]; done) | (simp only [hs]; omega) | (simp [hs]; done) | (simp [hs]; omega)))
    · skip
      have hge : k = n := by simp at hge; omega
      subst hge
      conv => whnf
      repeat (first
        | (refine And.intro ?_ ?_; (focus (first | omega | decide | exact Int.natCast_nonneg _ | ((repeat' refine And.intro ?_ ?_) <;> first | omega | exact Int.natCast_nonneg _ | (simp only [i64max]; omega) | (simp only [u8max]; omega) | (simp only [i64max, u8max, u16max, u32max, u64max]; omega) | (simp [mulSz, Cont.len, bne]; done) | (simp [mulSz, Cont.len, bne]; omega)))); conv => whnf)
        | (refine tst_in ?_ ?_; (focus (intro h_; exfalso; first | omega | ((try simp only [decide_eq_true_eq, decide_eq_false_iff_not] at h_); omega) | (simp [mulSz, Cont.len, bne] at h_; done) | (simp [mulSz, Cont.len, bne] at h_; omega))); intro _; conv => whnf)
        | (refine tst_in ?_ ?_; rotate_left; (focus (intro h_; exfalso; first | omega | ((try simp only [decide_eq_true_eq, decide_eq_false_iff_not] at h_); omega) | (simp [mulSz, Cont.len, bne] at h_; done) | (simp [mulSz, Cont.len, bne] at h_; omega))); intro _; conv => whnf))
      conv => whnf
      repeat' (first | exact True.intro | rfl | refine And.intro ?_ ?_)
      all_goals (conv => whnf)
      repeat' (first | exact True.intro | rfl | refine And.intro ?_ ?_)
      all_goals (try (first | omega | exact True.intro | rfl | assumption | (change LE.le (α := Nat) _ _; first | omega | (simp only [hx]; omega)) | (simp only [hx]; done) | (simp only [hx]; omega) | (simp [hx]; done) | (simp [hx]; omega)))
noncomputable def c31 : Code := (Try.f31.body).getD .skip
def st31 (l tl0 : List Bool) (w W n : Nat) : Nat → List Bool → St
  | 0, _ => ⟨anyTo 25 [.slice 0 0 n (n + tl0.length), .int .i64 w, .int .i64 W, .any, .any, .any, .any, .any, .int .i64 W, .int .i64 (0 : Nat)], [.seg true (.bools (l ++ tl0))]⟩
  | k + 1, tl => ⟨anyTo 25 [.slice 1 0 (n + (k + 1)) (n + (k + 1) + tl.length), .int .i64 w, .int .i64 W, .any, .any, .any, .any, .any, .int .i64 W, .int .i64 (k + 1 : Nat)], [.dead, .seg true (.bools (l ++ bt W w (k + 1) ++ tl))]⟩
def inv31 (l tl0 : List Bool) (w W n : Nat) : LInv := ⟨Nat × List Bool, fun p => st31 l tl0 w W n p.1 p.2, fun p => p.1 ≤ W, fun p => W - p.1⟩
set_option maxHeartbeats 0 in
set_option maxRecDepth 100000 in
theorem appendWord_f (l tl0 : List Bool) (w W n : Nat) (hl : l.length = n) (hw : w < 65536) (h1 : 1 ≤ W) (h2 : W ≤ 16) (hn : n ≤ 1000000) :
    Fits Try.prog 31 ⟨[.slice 0 0 n (n + tl0.length), .int .i64 w, .int .i64 W], [.seg true (.bools (l ++ tl0))], [⟨List Bool, fun _ => True, fun t => .slice 1 0 (n + W) (n + W + t.length), fun t => [.dead, .seg true (.bools (l ++ bt W w W ++ t))]⟩]⟩ := by
  have hbl := bt_len W w
  have hY := fun j => shr_le w j
  refine fits_of_body (C := cfgs 1) (c := c31) (ts := [6]) tok0 mixed0 (fun | 2 => some (inv31 l tl0 w W n) | _ => none) (fun _ => none)
    Try.func31 (by kernel_rfl) (by kernel_rfl) (by kernel_rfl) (by kernel_rfl) rfl ?_
  conv => whnf
  repeat (first
    | (refine And.intro ?_ ?_; (focus (first | omega | decide | exact Int.natCast_nonneg _ | ((repeat' refine And.intro ?_ ?_) <;> first | omega | exact Int.natCast_nonneg _ | (simp only [i64max]; omega) | (simp only [u8max]; omega) | (simp only [i64max, u8max, u16max, u32max, u64max]; omega) | (simp [mulSz, Cont.len, bne]; done) | (simp [mulSz, Cont.len, bne]; omega)))); conv => whnf)
    | (refine tst_in ?_ ?_; (focus (intro h_; exfalso; first | omega | ((try simp only [decide_eq_true_eq, decide_eq_false_iff_not] at h_); omega) | (simp [mulSz, Cont.len, bne] at h_; done) | (simp [mulSz, Cont.len, bne] at h_; omega))); intro _; conv => whnf)
    | (refine tst_in ?_ ?_; rotate_left; (focus (intro h_; exfalso; first | omega | ((try simp only [decide_eq_true_eq, decide_eq_false_iff_not] at h_); omega) | (simp [mulSz, Cont.len, bne] at h_; done) | (simp [mulSz, Cont.len, bne] at h_; omega))); intro _; conv => whnf))
  refine ⟨⟨[0], ((0, []) : Nat × List Bool), ?_, Nat.zero_le _⟩, ?_⟩
  · conv => whnf
    repeat' (first | exact True.intro | rfl | refine And.intro ?_ ?_)
    all_goals (conv => whnf)
    repeat' (first | exact True.intro | rfl | refine And.intro ?_ ?_)
    all_goals (try (first | omega | exact True.intro | rfl | assumption | (change LE.le (α := Nat) _ _; first | omega | (simp only []; omega)) | (simp only []; done) | (simp only []; omega) | (simp; done) | (simp; omega)))
  · rintro ⟨k, tl⟩ hk
    have hk : k ≤ W := hk
    cases k with
    | zero =>
      show forceSt (st31 l tl0 w W n 0 tl) _
      have h3 := hY (W - 1 - 0)
      conv => whnf
      repeat (first
        | (refine And.intro ?_ ?_; (focus (first | omega | decide | exact Int.natCast_nonneg _ | ((repeat' refine And.intro ?_ ?_) <;> first | omega | exact Int.natCast_nonneg _ | (simp only [i64max]; omega) | (simp only [u8max]; omega) | (simp only [i64max, u8max, u16max, u32max, u64max]; omega) | (simp [mulSz, Cont.len, bne]; done) | (simp [mulSz, Cont.len, bne]; omega)))); conv => whnf)
        | (refine tst_in ?_ ?_; (focus (intro h_; exfalso; first | omega | ((try simp only [decide_eq_true_eq, decide_eq_false_iff_not] at h_); omega) | (simp [mulSz, Cont.len, bne] at h_; done) | (simp [mulSz, Cont.len, bne] at h_; omega))); intro _; conv => whnf)
        | (refine tst_in ?_ ?_; rotate_left; (focus (intro h_; exfalso; first | omega | ((try simp only [decide_eq_true_eq, decide_eq_false_iff_not] at h_); omega) | (simp [mulSz, Cont.len, bne] at h_; done) | (simp [mulSz, Cont.len, bne] at h_; omega))); intro _; conv => whnf))
      rw [sh_eq w (W - 1 - 0) (IntKind.bits .i64) ((W : Int) - 1 - ((0 : Nat) : Int)) (by omega) (by show W - 1 - 0 ≤ 64; omega)]
      conv => whnf
      repeat (first
        | (refine And.intro ?_ ?_; (focus (first | omega | decide | exact Int.natCast_nonneg _ | ((repeat' refine And.intro ?_ ?_) <;> first | omega | exact Int.natCast_nonneg _ | (simp only [i64max]; omega) | (simp only [u8max]; omega) | (simp only [i64max, u8max, u16max, u32max, u64max]; omega) | (simp [mulSz, Cont.len, bne]; done) | (simp [mulSz, Cont.len, bne]; omega)))); conv => whnf)
        | (refine tst_in ?_ ?_; (focus (intro h_; exfalso; first | omega | ((try simp only [decide_eq_true_eq, decide_eq_false_iff_not] at h_); omega) | (simp [mulSz, Cont.len, bne] at h_; done) | (simp [mulSz, Cont.len, bne] at h_; omega))); intro _; conv => whnf)
        | (refine tst_in ?_ ?_; rotate_left; (focus (intro h_; exfalso; first | omega | ((try simp only [decide_eq_true_eq, decide_eq_false_iff_not] at h_); omega) | (simp [mulSz, Cont.len, bne] at h_; done) | (simp [mulSz, Cont.len, bne] at h_; omega))); intro _; conv => whnf))
      rw [bit_eq]
      conv => whnf
      repeat (first
        | (refine And.intro ?_ ?_; (focus (first | omega | decide | exact Int.natCast_nonneg _ | ((repeat' refine And.intro ?_ ?_) <;> first | omega | exact Int.natCast_nonneg _ | (simp only [i64max]; omega) | (simp only [u8max]; omega) | (simp only [i64max, u8max, u16max, u32max, u64max]; omega) | (simp [mulSz, Cont.len, bne, hl]; done) | (simp [mulSz, Cont.len, bne, hl]; omega)))); conv => whnf)
        | (refine tst_in ?_ ?_; (focus (intro h_; exfalso; first | omega | ((try simp only [decide_eq_true_eq, decide_eq_false_iff_not] at h_); omega) | (simp [mulSz, Cont.len, bne, hl] at h_; done) | (simp [mulSz, Cont.len, bne, hl] at h_; omega))); intro _; conv => whnf)
        | (refine tst_in ?_ ?_; rotate_left; (focus (intro h_; exfalso; first | omega | ((try simp only [decide_eq_true_eq, decide_eq_false_iff_not] at h_); omega) | (simp [mulSz, Cont.len, bne, hl] at h_; done) | (simp [mulSz, Cont.len, bne, hl] at h_; omega))); intro _; conv => whnf))
      intro (tl2 : List Bool)
      conv => whnf
      repeat (first
        | (refine And.intro ?_ ?_; (focus (first | omega | decide | exact Int.natCast_nonneg _ | ((repeat' refine And.intro ?_ ?_) <;> first | omega | exact Int.natCast_nonneg _ | (simp only [i64max]; omega) | (simp only [u8max]; omega) | (simp only [i64max, u8max, u16max, u32max, u64max]; omega) | (simp [mulSz, Cont.len, bne]; done) | (simp [mulSz, Cont.len, bne]; omega)))); conv => whnf)
        | (refine tst_in ?_ ?_; (focus (intro h_; exfalso; first | omega | ((try simp only [decide_eq_true_eq, decide_eq_false_iff_not] at h_); omega) | (simp [mulSz, Cont.len, bne] at h_; done) | (simp [mulSz, Cont.len, bne] at h_; omega))); intro _; conv => whnf)
        | (refine tst_in ?_ ?_; rotate_left; (focus (intro h_; exfalso; first | omega | ((try simp only [decide_eq_true_eq, decide_eq_false_iff_not] at h_); omega) | (simp [mulSz, Cont.len, bne] at h_; done) | (simp [mulSz, Cont.len, bne] at h_; omega))); intro _; conv => whnf))
      refine ⟨[0, 2], ((1, tl2) : Nat × List Bool), ?_, h1, (by show W - 1 < W - 0; omega)⟩
      conv => whnf
      repeat' (first | exact True.intro | rfl | refine And.intro ?_ ?_)
      all_goals (conv => whnf)
      repeat' (first | exact True.intro | rfl | refine And.intro ?_ ?_)
      all_goals (try (first | omega | exact True.intro | rfl | assumption | (change LE.le (α := Nat) _ _; first | omega | (simp only []; omega)) | (simp only []; done) | (simp only []; omega) | (simp; done) | (simp; omega)))
      all_goals (show l ++ [w.testBit (W - 1 - 0)] ++ tl2 = _; simp [mulSz, List.take_append, hl, List.take_of_length_le (Nat.le_of_eq hl)])
    | succ k =>
      show forceSt (st31 l tl0 w W n (k + 1) tl) _
      have h3 := hY (W - 1 - (k + 1))
      have h4 := hbl (k + 1)
      conv => whnf
      refine tst_in (fun hlt => ?_) (fun hge => ?_)
      · skip
        have hlt : k + 1 < W := by simp at hlt; omega
        conv => whnf
        repeat (first
          | (refine And.intro ?_ ?_; (focus (first | omega | decide | exact Int.natCast_nonneg _ | ((repeat' refine And.intro ?_ ?_) <;> first | omega | exact Int.natCast_nonneg _ | (simp only [i64max]; omega) | (simp only [u8max]; omega) | (simp only [i64max, u8max, u16max, u32max, u64max]; omega) | (simp [mulSz, Cont.len, bne]; done) | (simp [mulSz, Cont.len, bne]; omega)))); conv => whnf)
          | (refine tst_in ?_ ?_; (focus (intro h_; exfalso; first | omega | ((try simp only [decide_eq_true_eq, decide_eq_false_iff_not] at h_); omega) | (simp [mulSz, Cont.len, bne] at h_; done) | (simp [mulSz, Cont.len, bne] at h_; omega))); intro _; conv => whnf)
          | (refine tst_in ?_ ?_; rotate_left; (focus (intro h_; exfalso; first | omega | ((try simp only [decide_eq_true_eq, decide_eq_false_iff_not] at h_); omega) | (simp [mulSz, Cont.len, bne] at h_; done) | (simp [mulSz, Cont.len, bne] at h_; omega))); intro _; conv => whnf))
        rw [sh_eq w (W - 1 - (k + 1)) (IntKind.bits .i64) ((W : Int) - 1 - ((k + 1 : Nat) : Int)) (by omega) (by show W - 1 - (k + 1) ≤ 64; omega)]
        conv => whnf
        repeat (first
          | (refine And.intro ?_ ?_; (focus (first | omega | decide | exact Int.natCast_nonneg _ | ((repeat' refine And.intro ?_ ?_) <;> first | omega | exact Int.natCast_nonneg _ | (simp only [i64max]; omega) | (simp only [u8max]; omega) | (simp only [i64max, u8max, u16max, u32max, u64max]; omega) | (simp [mulSz, Cont.len, bne]; done) | (simp [mulSz, Cont.len, bne]; omega)))); conv => whnf)
          | (refine tst_in ?_ ?_; (focus (intro h_; exfalso; first | omega | ((try simp only [decide_eq_true_eq, decide_eq_false_iff_not] at h_); omega) | (simp [mulSz, Cont.len, bne] at h_; done) | (simp [mulSz, Cont.len, bne] at h_; omega))); intro _; conv => whnf)
          | (refine tst_in ?_ ?_; rotate_left; (focus (intro h_; exfalso; first | omega | ((try simp only [decide_eq_true_eq, decide_eq_false_iff_not] at h_); omega) | (simp [mulSz, Cont.len, bne] at h_; done) | (simp [mulSz, Cont.len, bne] at h_; omega))); intro _; conv => whnf))
        rw [bit_eq]
        conv => whnf
        repeat (first
          | (refine And.intro ?_ ?_; (focus (first | omega | decide | exact Int.natCast_nonneg _ | ((repeat' refine And.intro ?_ ?_) <;> first | omega | exact Int.natCast_nonneg _ | (simp only [i64max]; omega) | (simp only [u8max]; omega) | (simp only [i64max, u8max, u16max, u32max, u64max]; omega) | (simp [mulSz, Cont.len, bne, hl, h4]; done) | (simp [mulSz, Cont.len, bne, hl, h4]; omega)))); conv => whnf)
          | (refine tst_in ?_ ?_; (focus (intro h_; exfalso; first | omega | ((try simp only [decide_eq_true_eq, decide_eq_false_iff_not] at h_); omega) | (simp [mulSz, Cont.len, bne, hl, h4] at h_; done) | (simp [mulSz, Cont.len, bne, hl, h4] at h_; omega))); intro _; conv => whnf)
          | (refine tst_in ?_ ?_; rotate_left; (focus (intro h_; exfalso; first | omega | ((try simp only [decide_eq_true_eq, decide_eq_false_iff_not] at h_); omega) | (simp [mulSz, Cont.len, bne, hl, h4] at h_; done) | (simp [mulSz, Cont.len, bne, hl, h4] at h_; omega))); intro _; conv => whnf))
        intro (tl2 : List Bool)
        conv => whnf
        repeat (first
          | (refine And.intro ?_ ?_; (focus (first | omega | decide | exact Int.natCast_nonneg _ | ((repeat' refine And.intro ?_ ?_) <;> first | omega | exact Int.natCast_nonneg _ | (simp only [i64max]; omega) | (simp only [u8max]; omega) | (simp only [i64max, u8max, u16max, u32max, u64max]; omega) | (simp [mulSz, Cont.len, bne]; done) | (simp [mulSz, Cont.len, bne]; omega)))); conv => whnf)
          | (refine tst_in ?_ ?_; (focus (intro h_; exfalso; first | omega | ((try simp only [decide_eq_true_eq, decide_eq_false_iff_not] at h_); omega) | (simp [mulSz, Cont.len, bne] at h_; done) | (simp [mulSz, Cont.len, bne] at h_; omega))); intro _; conv => whnf)
          | (refine tst_in ?_ ?_; rotate_left; (focus (intro h_; exfalso; first | omega | ((try simp only [decide_eq_true_eq, decide_eq_false_iff_not] at h_); omega) | (simp [mulSz, Cont.len, bne] at h_; done) | (simp [mulSz, Cont.len, bne] at h_; omega))); intro _; conv => whnf))
        refine ⟨[0, 3], ((k + 1 + 1, tl2) : Nat × List Bool), ?_, hlt, (by show W - (k + 1 + 1) < W - (k + 1); omega)⟩
        conv => whnf
        repeat' (first | exact True.intro | rfl | refine And.intro ?_ ?_)
        all_goals (conv => whnf)
        repeat' (first | exact True.intro | rfl | refine And.intro ?_ ?_)
        all_goals (try (first | omega | exact True.intro | rfl | assumption | (change LE.le (α := Nat) _ _; first | omega | (simp only []; omega)) | (simp only []; done) | (simp only []; omega) | (simp; done) | (simp; omega)))
        all_goals (show l ++ (bt W w (k + 1) ++ [w.testBit (W - 1 - (k + 1))]) ++ tl2 = _; rw [show List.take (mulSz 1 (n + (k + 1))) (List.drop 0 (l ++ bt W w (k + 1) ++ tl)) = l ++ bt W w (k + 1) from List.take_left' (by rw [List.length_append, hl, h4]; rfl)]; simp [mulSz])
      · skip
        have hge : k + 1 = W := by simp at hge; omega
        conv => whnf
        repeat (first
          | (refine And.intro ?_ ?_; (focus (first | omega | decide | exact Int.natCast_nonneg _ | ((repeat' refine And.intro ?_ ?_) <;> first | omega | exact Int.natCast_nonneg _ | (simp only [i64max]; omega) | (simp only [u8max]; omega) | (simp only [i64max, u8max, u16max, u32max, u64max]; omega) | (simp [mulSz, Cont.len, bne]; done) | (simp [mulSz, Cont.len, bne]; omega)))); conv => whnf)
          | (refine tst_in ?_ ?_; (focus (intro h_; exfalso; first | omega | ((try simp only [decide_eq_true_eq, decide_eq_false_iff_not] at h_); omega) | (simp [mulSz, Cont.len, bne] at h_; done) | (simp [mulSz, Cont.len, bne] at h_; omega))); intro _; conv => whnf)
          | (refine tst_in ?_ ?_; rotate_left; (focus (intro h_; exfalso; first | omega | ((try simp only [decide_eq_true_eq, decide_eq_false_iff_not] at h_); omega) | (simp [mulSz, Cont.len, bne] at h_; done) | (simp [mulSz, Cont.len, bne] at h_; omega))); intro _; conv => whnf))
        refine .inl ⟨tl, [0, 1], ?_⟩
        subst hge
        conv => whnf
        repeat' (first | exact True.intro | rfl | refine And.intro ?_ ?_)
        all_goals (conv => whnf)
        repeat' (first | exact True.intro | rfl | refine And.intro ?_ ?_)
        all_goals (try (first | omega | exact True.intro | rfl | assumption | (change LE.le (α := Nat) _ _; first | omega | (simp only []; omega)) | (simp only []; done) | (simp only []; omega) | (simp; done) | (simp; omega)))
end Go.Proofs.Ytkkianjpkipooaa

set_option linter.unusedVariables false
set_option linter.unusedSimpArgs false
namespace Go.Proofs.Ytkkianjpkipooaa
open Go Go.Fw
theorem byteAt_lt (s : ByteArray) (i : Nat) : byteAt s i < 256 := (s.data.toList.getD i 0).toNat_lt
def ofB (s : ByteArray) : Nat → List Bool
  | 0 => []
  | k + 1 => ofB s k ++ bt 8 (byteAt s k) 8
theorem ofB_len (s : ByteArray) : ∀ k, (ofB s k).length = 8 * k
  | 0 => rfl
  | k + 1 => by rw [ofB, List.length_append, ofB_len s k, bt_len]; omega
theorem dm_bit (x j : Nat) : decide (((x : Int) / ((2 ^ j : Nat) : Int)) % 2 = 1) = x.testBit j := by
  rw [Nat.testBit_eq_decide_div_mod_eq]
  apply decide_eq_decide.2
  rw [← Int.natCast_ediv]
  omega
def rowO (X : List Bool) (e : Nat) : FOut := ⟨List Bool, fun _ => True, fun t => .tup [.slice 0 0 X.length (X.length + t.length), .int .i64 e], fun t => [.seg true (.bools (X ++ t))]⟩
noncomputable def c9 : Code := (Try.f9.body).getD .skip
def st9 (s : ByteArray) (n k : Nat) (t : List Bool) : St := ⟨anyTo 26 [.str s, .any, .any, .any, .slice 0 0 (8 * k) (8 * k + t.length), .any, .any, .any, .any, .any, .any, .any, .any, .any, .int .i64 n, .int .i64 k], [.seg true (.bools (ofB s k ++ t))]⟩
def inv9 (s : ByteArray) (n : Nat) : LInv := ⟨Nat × List Bool, fun p => st9 s n p.1 p.2, fun p => p.1 ≤ n, fun p => n - p.1⟩
set_option maxHeartbeats 0 in
set_option maxRecDepth 100000 in
theorem Of_f (s : ByteArray) (n : Nat) (hs : s.size = n) (hn : n ≤ 4096) : Fits Try.prog 9 ⟨[.str s], [], [rowO (ofB s n) 0]⟩ := by
  have hl := ofB_len s
  have hb := byteAt_lt s
  refine fits_of_body (C := cfgs 0) (c := c9) (ts := [2, 3]) tok0 mixed0 (fun | 5 => some (inv9 s n) | _ => none) (fun _ => none)
    Try.func9 (by kernel_rfl) (by kernel_rfl) (by kernel_rfl) (by kernel_rfl) rfl ?_
  conv => whnf
  rw [hs]
  conv => whnf
  repeat (first
    | (refine And.intro ?_ ?_; (focus (first | omega | decide | exact Int.natCast_nonneg _ | ((repeat' refine And.intro ?_ ?_) <;> first | omega | exact Int.natCast_nonneg _ | (simp only [i64max]; omega) | (simp only [u8max]; omega) | (simp only [i64max, u8max, u16max, u32max, u64max]; omega) | (simp [mulSz, Cont.len, bne]; done) | (simp [mulSz, Cont.len, bne]; omega)))); conv => whnf)
    | (refine tst_in ?_ ?_; (focus (intro h_; exfalso; first | omega | ((try simp only [decide_eq_true_eq, decide_eq_false_iff_not] at h_); omega) | (simp [mulSz, Cont.len, bne] at h_; done) | (simp [mulSz, Cont.len, bne] at h_; omega))); intro _; conv => whnf)
    | (refine tst_in ?_ ?_; rotate_left; (focus (intro h_; exfalso; first | omega | ((try simp only [decide_eq_true_eq, decide_eq_false_iff_not] at h_); omega) | (simp [mulSz, Cont.len, bne] at h_; done) | (simp [mulSz, Cont.len, bne] at h_; omega))); intro _; conv => whnf))
  refine ⟨⟨[0], ((0, List.replicate (8 * n) false) : Nat × List Bool), ?_, Nat.zero_le _⟩, ?_⟩
  · conv => whnf
    repeat' (first | exact True.intro | rfl | refine And.intro ?_ ?_)
    all_goals (conv => whnf)
    repeat' (first | exact True.intro | rfl | refine And.intro ?_ ?_)
    all_goals (try (first | omega | exact True.intro | rfl | assumption | (change LE.le (α := Nat) _ _; first | omega | (simp only []; omega)) | (simp only []; done) | (simp only []; omega) | (simp; done) | (simp; omega)))
    all_goals first | (show 8 * 0 + (List.replicate (8 * n) false).length = (8 * (n : Int)).toNat; rw [List.length_replicate]; omega) | (show [] ++ List.replicate (8 * n) false = List.replicate (8 * (n : Int)).toNat false; rw [show (8 * (n : Int)).toNat = 8 * n by omega]; rfl) | (show [] ++ List.replicate (8 * n) false = List.replicate (8 * ((s.size : Nat) : Int)).toNat false; rw [hs, show (8 * (n : Int)).toNat = 8 * n by omega]; rfl)
  · rintro ⟨k, t⟩ hk
    have hk : k ≤ n := hk
    have hlk := hl k
    have hbk := hb k
    have AW := appendWord_f (ofB s k) t (byteAt s k) 8 (8 * k) hlk (by omega) (by decide) (by decide) (by omega)
    show forceSt (st9 s n k t) _
    conv => whnf
    refine tst_in (fun hlt => ?_) (fun hge => ?_)
    · skip
      have hlt : k < n := by simp at hlt; omega
      conv => whnf
      refine ⟨⟨by omega, by rw [hs]; omega⟩, ?_⟩
      rw [show ((k : Int)).toNat = k from Int.toNat_natCast k]
      conv => whnf
      rw [show IntKind.i64.wrap ((byteAt s k : Nat) : Int) = ((byteAt s k : Nat) : Int) from wrap_i64 (by omega)]
      refine ⟨_, [0], AW, ?_⟩
      conv => whnf
      refine ⟨?_, ?_, ?_⟩
      · conv => whnf
        repeat' (first | exact True.intro | rfl | refine And.intro ?_ ?_)
        all_goals (conv => whnf)
        repeat' (first | exact True.intro | rfl | refine And.intro ?_ ?_)
        all_goals (try (first | rfl | omega | (simp; done) | (simp; omega)))
      · conv => whnf
        repeat' (first | exact True.intro | rfl | refine And.intro ?_ ?_)
        all_goals (conv => whnf)
        repeat' (first | exact True.intro | rfl | refine And.intro ?_ ?_)
        all_goals (try (first | rfl | omega | (simp; done) | (simp; omega)))
      conv => whnf
      refine ⟨?_, True.intro⟩
      rintro (t2 : List Bool) -
      conv => whnf
      conv => whnf
      repeat (first
        | (refine And.intro ?_ ?_; (focus (first | omega | decide | exact Int.natCast_nonneg _ | ((repeat' refine And.intro ?_ ?_) <;> first | omega | exact Int.natCast_nonneg _ | (simp only [i64max]; omega) | (simp only [u8max]; omega) | (simp only [i64max, u8max, u16max, u32max, u64max]; omega) | (simp [mulSz, Cont.len, bne]; done) | (simp [mulSz, Cont.len, bne]; omega)))); conv => whnf)
        | (refine tst_in ?_ ?_; (focus (intro h_; exfalso; first | omega | ((try simp only [decide_eq_true_eq, decide_eq_false_iff_not] at h_); omega) | (simp [mulSz, Cont.len, bne] at h_; done) | (simp [mulSz, Cont.len, bne] at h_; omega))); intro _; conv => whnf)
        | (refine tst_in ?_ ?_; rotate_left; (focus (intro h_; exfalso; first | omega | ((try simp only [decide_eq_true_eq, decide_eq_false_iff_not] at h_); omega) | (simp [mulSz, Cont.len, bne] at h_; done) | (simp [mulSz, Cont.len, bne] at h_; omega))); intro _; conv => whnf))
      refine ⟨[1], ((k + 1, t2) : Nat × List Bool), ?_, (by show k + 1 ≤ n; omega), (by show n - (k + 1) < n - k; omega)⟩
      conv => whnf
      repeat' (first | exact True.intro | rfl | refine And.intro ?_ ?_)
      all_goals (conv => whnf)
      repeat' (first | exact True.intro | rfl | refine And.intro ?_ ?_)
      all_goals (try (first | omega | exact True.intro | rfl | assumption | (change LE.le (α := Nat) _ _; first | omega | (simp only []; omega)) | (simp only []; done) | (simp only []; omega) | (simp; done) | (simp; omega)))
    · skip
      have hge : k = n := by simp at hge; omega
      subst hge
      conv => whnf
      repeat (first
        | (refine And.intro ?_ ?_; (focus (first | omega | decide | exact Int.natCast_nonneg _ | ((repeat' refine And.intro ?_ ?_) <;> first | omega | exact Int.natCast_nonneg _ | (simp only [i64max]; omega) | (simp only [u8max]; omega) | (simp only [i64max, u8max, u16max, u32max, u64max]; omega) | (simp [mulSz, Cont.len, bne]; done) | (simp [mulSz, Cont.len, bne]; omega)))); conv => whnf)
        | (refine tst_in ?_ ?_; (focus (intro h_; exfalso; first | omega | ((try simp only [decide_eq_true_eq, decide_eq_false_iff_not] at h_); omega) | (simp [mulSz, Cont.len, bne] at h_; done) | (simp [mulSz, Cont.len, bne] at h_; omega))); intro _; conv => whnf)
        | (refine tst_in ?_ ?_; rotate_left; (focus (intro h_; exfalso; first | omega | ((try simp only [decide_eq_true_eq, decide_eq_false_iff_not] at h_); omega) | (simp [mulSz, Cont.len, bne] at h_; done) | (simp [mulSz, Cont.len, bne] at h_; omega))); intro _; conv => whnf))
      refine .inl ⟨t, [0], ?_⟩
      conv => whnf
      repeat' (first | exact True.intro | rfl | refine And.intro ?_ ?_)
      all_goals (conv => whnf)
      repeat' (first | exact True.intro | rfl | refine And.intro ?_ ?_)
      all_goals (try (first | omega | exact True.intro | rfl | assumption | (change LE.le (α := Nat) _ _; first | omega | (simp only [hl]; omega)) | (simp only [hl]; done) | (simp only [hl]; omega) | (simp [hl]; done) | (simp [hl]; omega)))
theorem Of_far (s : ByteArray) (hn : 4096 < s.size) : Fits Try.prog 9 ⟨[.str s], [], [rowO [] 1]⟩ := by
  refine fits_of_body (C := cfgs 0) (c := c9) (ts := [2, 3]) tok0 mixed0 (fun _ => none) (fun _ => none)
    Try.func9 (by kernel_rfl) (by kernel_rfl) (by kernel_rfl) (by kernel_rfl) rfl ?_
  conv => whnf
  repeat (first
    | (refine And.intro ?_ ?_; (focus (first | omega | decide | exact Int.natCast_nonneg _ | ((repeat' refine And.intro ?_ ?_) <;> first | omega | exact Int.natCast_nonneg _ | (simp only [i64max]; omega) | (simp only [u8max]; omega) | (simp only [i64max, u8max, u16max, u32max, u64max]; omega) | (simp [mulSz, Cont.len, bne]; done) | (simp [mulSz, Cont.len, bne]; omega)))); conv => whnf)
    | (refine tst_in ?_ ?_; (focus (intro h_; exfalso; first | omega | ((try simp only [decide_eq_true_eq, decide_eq_false_iff_not] at h_); omega) | (simp [mulSz, Cont.len, bne] at h_; done) | (simp [mulSz, Cont.len, bne] at h_; omega))); intro _; conv => whnf)
    | (refine tst_in ?_ ?_; rotate_left; (focus (intro h_; exfalso; first | omega | ((try simp only [decide_eq_true_eq, decide_eq_false_iff_not] at h_); omega) | (simp [mulSz, Cont.len, bne] at h_; done) | (simp [mulSz, Cont.len, bne] at h_; omega))); intro _; conv => whnf))
  refine .inl ⟨[], [0], ?_⟩
  conv => whnf
  repeat' (first | exact True.intro | rfl | refine And.intro ?_ ?_)
  all_goals (conv => whnf)
  repeat' (first | exact True.intro | rfl | refine And.intro ?_ ?_)
  all_goals (try (first | omega | exact True.intro | rfl | assumption | (change LE.le (α := Nat) _ _; first | omega | (simp only []; omega)) | (simp only []; done) | (simp only []; omega) | (simp; done) | (simp; omega)))
noncomputable def c10 : Code := (Try.f10.body).getD .skip
def natAt (st : St) (t : Nat) : Nat := match slot st.sl t with | .int _ n => n.toNat | _ => 0
def st10 (s : ByteArray) (k m : Nat) (b : AV) (X : List Bool) (t : List Bool) : St := ⟨anyTo 33 [.str s, .any, .any, .any, .slice 0 0 m (m + t.length), .int .i64 k, b], [.seg true (.bools (X ++ t))]⟩
def inv10 (s : ByteArray) (n : Nat) : LInv := ⟨Nat × List Bool, fun p => st10 s p.1 (8 * p.1) .any (ofB s p.1) p.2, fun p => p.1 ≤ n, fun p => n - p.1⟩
def inv10b (s : ByteArray) (st : St) : LInv := ⟨Nat × List Bool, fun p => st10 s (natAt st 5) (8 * natAt st 5 + p.1) (.int .i64 (7 - (p.1 : Int))) (ofB s (natAt st 5) ++ bt 8 (byteAt s (natAt st 5)) p.1) p.2, fun p => p.1 ≤ 8, fun p => 8 - p.1⟩
def plan10 : PlanL := .lin [0, 1, 2, 5] (.alt 3 (.alt 4 (.lin [6, 7, 8, 9, 10, 11, 12] .done) (.alt 6 (.lin [4, 7, 8, 9, 10, 11, 12] .done) .fin)) (.alt 6 (.lin [3, 4, 7, 8, 9, 10, 11, 12] .done) .fin))
def cfg10 (s : ByteArray) : Cfg := { T := tys0, sgn := fun _ => false, wr := fun _ => false, k := 0, q := qf, plan := fun i => match Nat.beq i 10 with | true => some plan10 | false => none, dep := fun | 8 => some (inv10b s) | _ => none }
set_option maxHeartbeats 0 in
set_option maxRecDepth 100000 in
theorem rOf_f (s : ByteArray) (n : Nat) (hs : s.size = n) (hn : n ≤ 4096) : Fits Try.prog 10 ⟨[.str s], [], [rowO (ofB s n) 0]⟩ := by
  have hl := ofB_len s
  have hb := byteAt_lt s
  refine fits_of_body (C := cfg10 s) (c := c10) (ts := [2, 3]) tok0 mixed0 (fun | 5 => some (inv10 s n) | _ => none) (fun _ => none)
    Try.func10 (by kernel_rfl) (by kernel_rfl) (by kernel_rfl) (by kernel_rfl) rfl ?_
  conv => whnf
  rw [hs]
  conv => whnf
  repeat (first
    | (refine And.intro ?_ ?_; (focus (first | omega | decide | exact Int.natCast_nonneg _ | ((repeat' refine And.intro ?_ ?_) <;> first | omega | exact Int.natCast_nonneg _ | (simp only [i64max]; omega) | (simp only [u8max]; omega) | (simp only [i64max, u8max, u16max, u32max, u64max]; omega) | (simp [mulSz, Cont.len, bne]; done) | (simp [mulSz, Cont.len, bne]; omega)))); conv => whnf)
    | (refine tst_in ?_ ?_; (focus (intro h_; exfalso; first | omega | ((try simp only [decide_eq_true_eq, decide_eq_false_iff_not] at h_); omega) | (simp [mulSz, Cont.len, bne] at h_; done) | (simp [mulSz, Cont.len, bne] at h_; omega))); intro _; conv => whnf)
    | (refine tst_in ?_ ?_; rotate_left; (focus (intro h_; exfalso; first | omega | ((try simp only [decide_eq_true_eq, decide_eq_false_iff_not] at h_); omega) | (simp [mulSz, Cont.len, bne] at h_; done) | (simp [mulSz, Cont.len, bne] at h_; omega))); intro _; conv => whnf))
  refine ⟨⟨[0], ((0, []) : Nat × List Bool), ?_, Nat.zero_le _⟩, ?_⟩
  · conv => whnf
    repeat' (first | exact True.intro | rfl | refine And.intro ?_ ?_)
    all_goals (conv => whnf)
    repeat' (first | exact True.intro | rfl | refine And.intro ?_ ?_)
    all_goals (try (first | omega | exact True.intro | rfl | assumption | (change LE.le (α := Nat) _ _; first | omega | (simp only []; omega)) | (simp only []; done) | (simp only []; omega) | (simp; done) | (simp; omega)))
  · rintro ⟨k, t⟩ hk
    have hk : k ≤ n := hk
    have hlk := hl k
    have hbk := hb k
    show forceSt (st10 s k (8 * k) .any (ofB s k) t) _
    conv => whnf
    rw [hs]
    refine tst_in (fun hlt => ?_) (fun hge => ?_)
    · skip
      have hlt : k < n := by simp at hlt; omega
      conv => whnf
      repeat (first
        | (refine And.intro ?_ ?_; (focus (first | omega | decide | exact Int.natCast_nonneg _ | ((repeat' refine And.intro ?_ ?_) <;> first | omega | exact Int.natCast_nonneg _ | (simp only [i64max]; omega) | (simp only [u8max]; omega) | (simp only [i64max, u8max, u16max, u32max, u64max]; omega) | (simp [mulSz, Cont.len, bne]; done) | (simp [mulSz, Cont.len, bne]; omega)))); conv => whnf)
        | (refine tst_in ?_ ?_; (focus (intro h_; exfalso; first | omega | ((try simp only [decide_eq_true_eq, decide_eq_false_iff_not] at h_); omega) | (simp [mulSz, Cont.len, bne] at h_; done) | (simp [mulSz, Cont.len, bne] at h_; omega))); intro _; conv => whnf)
        | (refine tst_in ?_ ?_; rotate_left; (focus (intro h_; exfalso; first | omega | ((try simp only [decide_eq_true_eq, decide_eq_false_iff_not] at h_); omega) | (simp [mulSz, Cont.len, bne] at h_; done) | (simp [mulSz, Cont.len, bne] at h_; omega))); intro _; conv => whnf))
      refine ⟨⟨[0], ((0, t) : Nat × List Bool), ?_, Nat.zero_le _⟩, ?_⟩
      · conv => whnf
        repeat' (first | exact True.intro | rfl | refine And.intro ?_ ?_)
        all_goals (conv => whnf)
        repeat' (first | exact True.intro | rfl | refine And.intro ?_ ?_)
        all_goals (try (first | omega | exact True.intro | rfl | assumption | (change LE.le (α := Nat) _ _; first | omega | (simp only [bt]; omega)) | (simp only [bt]; done) | (simp only [bt]; omega) | (simp [bt]; done) | (simp [bt]; omega)))
        all_goals (show ofB s k ++ [] ++ t = ofB s k ++ t; simp)
      · rintro ⟨j, t⟩ hj
        have hj : j ≤ 8 := hj
        show forceSt (st10 s k (8 * k + j) (.int .i64 (7 - (j : Int))) (ofB s k ++ bt 8 (byteAt s k) j) t) _
        have hbj := bt_len 8 (byteAt s k) j
        conv => whnf
        refine tst_in (fun hjt => ?_) (fun hjt => ?_)
        · skip
          have hjt : j < 8 := by simp at hjt; omega
          have PW := power_q (8 - 1 - j) (by omega)
          have hpp : 1 ≤ 2 ^ (8 - 1 - j) := Nat.one_le_two_pow
          conv => whnf
          refine ⟨?_, ?_⟩
          · skip
            conv => whnf
            refine ⟨⟨by omega, by rw [hs]; omega⟩, ?_⟩
            rw [show ((k : Int)).toNat = k from Int.toNat_natCast k]
            conv => whnf
            refine ⟨?_, ?_⟩
            · skip
              conv => whnf
              rw [show IntKind.i64.wrap ((byteAt s k : Nat) : Int) = ((byteAt s k : Nat) : Int) from wrap_i64 (by omega)]
              conv => whnf
              refine ⟨_, [], PW, ?_⟩
              conv => whnf
              refine ⟨?_, ?_, ?_⟩
              · conv => whnf
                repeat' (first | exact True.intro | rfl | refine And.intro ?_ ?_)
                all_goals (conv => whnf)
                repeat' (first | exact True.intro | rfl | refine And.intro ?_ ?_)
                all_goals (try (first | rfl | omega | (simp; done) | (simp; omega)))
              · conv => whnf
                repeat' (first | exact True.intro | rfl | refine And.intro ?_ ?_)
                all_goals (conv => whnf)
                repeat' (first | exact True.intro | rfl | refine And.intro ?_ ?_)
                all_goals (try (first | rfl | omega | (simp; done) | (simp; omega)))
              conv => whnf
              refine ⟨⟨by omega, by omega, by rw [i64max]; omega⟩, ?_⟩
              conv => whnf
              refine ⟨⟨Int.ediv_nonneg (by omega) (by omega), by decide⟩, ?_⟩
              conv => whnf
              rw [dm_bit]
              conv => whnf
              repeat (first
                | (refine And.intro ?_ ?_; (focus (first | omega | decide | exact Int.natCast_nonneg _ | ((repeat' refine And.intro ?_ ?_) <;> first | omega | exact Int.natCast_nonneg _ | (simp only [i64max]; omega) | (simp only [u8max]; omega) | (simp only [i64max, u8max, u16max, u32max, u64max]; omega) | (simp [mulSz, Cont.len, bne, hlk, hbj]; done) | (simp [mulSz, Cont.len, bne, hlk, hbj]; omega)))); conv => whnf)
                | (refine tst_in ?_ ?_; (focus (intro h_; exfalso; first | omega | ((try simp only [decide_eq_true_eq, decide_eq_false_iff_not] at h_); omega) | (simp [mulSz, Cont.len, bne, hlk, hbj] at h_; done) | (simp [mulSz, Cont.len, bne, hlk, hbj] at h_; omega))); intro _; conv => whnf)
                | (refine tst_in ?_ ?_; rotate_left; (focus (intro h_; exfalso; first | omega | ((try simp only [decide_eq_true_eq, decide_eq_false_iff_not] at h_); omega) | (simp [mulSz, Cont.len, bne, hlk, hbj] at h_; done) | (simp [mulSz, Cont.len, bne, hlk, hbj] at h_; omega))); intro _; conv => whnf))
              intro (t2 : List Bool)
              conv => whnf
              repeat (first
                | (refine And.intro ?_ ?_; (focus (first | omega | decide | exact Int.natCast_nonneg _ | ((repeat' refine And.intro ?_ ?_) <;> first | omega | exact Int.natCast_nonneg _ | (simp only [i64max]; omega) | (simp only [u8max]; omega) | (simp only [i64max, u8max, u16max, u32max, u64max]; omega) | (simp [mulSz, Cont.len, bne]; done) | (simp [mulSz, Cont.len, bne]; omega)))); conv => whnf)
                | (refine tst_in ?_ ?_; (focus (intro h_; exfalso; first | omega | ((try simp only [decide_eq_true_eq, decide_eq_false_iff_not] at h_); omega) | (simp [mulSz, Cont.len, bne] at h_; done) | (simp [mulSz, Cont.len, bne] at h_; omega))); intro _; conv => whnf)
                | (refine tst_in ?_ ?_; rotate_left; (focus (intro h_; exfalso; first | omega | ((try simp only [decide_eq_true_eq, decide_eq_false_iff_not] at h_); omega) | (simp [mulSz, Cont.len, bne] at h_; done) | (simp [mulSz, Cont.len, bne] at h_; omega))); intro _; conv => whnf))
              refine ⟨[2], ((j + 1, t2) : Nat × List Bool), ?_, (by show j + 1 ≤ 8; omega), (by show 8 - (j + 1) < 8 - j; omega)⟩
              conv => whnf
              repeat' (first | exact True.intro | rfl | refine And.intro ?_ ?_)
              all_goals (conv => whnf)
              repeat' (first | exact True.intro | rfl | refine And.intro ?_ ?_)
              all_goals (try (first | omega | exact True.intro | rfl | assumption | (change LE.le (α := Nat) _ _; first | omega | (simp only []; omega)) | (simp only []; done) | (simp only []; omega) | (simp; done) | (simp; omega)))
              all_goals (show ofB s k ++ (bt 8 (byteAt s k) j ++ [(byteAt s k).testBit (8 - 1 - j)]) ++ t2 = _; rw [show List.take (mulSz 1 (8 * k + j)) (List.drop 0 (ofB s k ++ bt 8 (byteAt s k) j ++ t)) = ofB s k ++ bt 8 (byteAt s k) j from List.take_left' (by rw [List.length_append, hlk, hbj]; rfl)]; simp [mulSz])
            · skip
              conv => whnf
              refine ⟨?_, True.intro⟩
              conv => whnf
              refine ⟨_, [], PW, ?_⟩
              conv => whnf
              refine ⟨?_, ?_, ?_⟩
              · conv => whnf
                repeat' (first | exact True.intro | rfl | refine And.intro ?_ ?_)
                all_goals (conv => whnf)
                repeat' (first | exact True.intro | rfl | refine And.intro ?_ ?_)
                all_goals (try (first | rfl | omega | (simp; done) | (simp; omega)))
              · conv => whnf
                repeat' (first | exact True.intro | rfl | refine And.intro ?_ ?_)
                all_goals (conv => whnf)
                repeat' (first | exact True.intro | rfl | refine And.intro ?_ ?_)
                all_goals (try (first | rfl | omega | (simp; done) | (simp; omega)))
              conv => whnf
              conv => whnf
              rw [show IntKind.i64.wrap ((byteAt s k : Nat) : Int) = ((byteAt s k : Nat) : Int) from wrap_i64 (by omega)]
              conv => whnf
              refine ⟨⟨by omega, by omega, by rw [i64max]; omega⟩, ?_⟩
              conv => whnf
              refine ⟨⟨Int.ediv_nonneg (by omega) (by omega), by decide⟩, ?_⟩
              conv => whnf
              rw [dm_bit]
              conv => whnf
              repeat (first
                | (refine And.intro ?_ ?_; (focus (first | omega | decide | exact Int.natCast_nonneg _ | ((repeat' refine And.intro ?_ ?_) <;> first | omega | exact Int.natCast_nonneg _ | (simp only [i64max]; omega) | (simp only [u8max]; omega) | (simp only [i64max, u8max, u16max, u32max, u64max]; omega) | (simp [mulSz, Cont.len, bne, hlk, hbj]; done) | (simp [mulSz, Cont.len, bne, hlk, hbj]; omega)))); conv => whnf)
                | (refine tst_in ?_ ?_; (focus (intro h_; exfalso; first | omega | ((try simp only [decide_eq_true_eq, decide_eq_false_iff_not] at h_); omega) | (simp [mulSz, Cont.len, bne, hlk, hbj] at h_; done) | (simp [mulSz, Cont.len, bne, hlk, hbj] at h_; omega))); intro _; conv => whnf)
                | (refine tst_in ?_ ?_; rotate_left; (focus (intro h_; exfalso; first | omega | ((try simp only [decide_eq_true_eq, decide_eq_false_iff_not] at h_); omega) | (simp [mulSz, Cont.len, bne, hlk, hbj] at h_; done) | (simp [mulSz, Cont.len, bne, hlk, hbj] at h_; omega))); intro _; conv => whnf))
              intro (t2 : List Bool)
              conv => whnf
              repeat (first
                | (refine And.intro ?_ ?_; (focus (first | omega | decide | exact Int.natCast_nonneg _ | ((repeat' refine And.intro ?_ ?_) <;> first | omega | exact Int.natCast_nonneg _ | (simp only [i64max]; omega) | (simp only [u8max]; omega) | (simp only [i64max, u8max, u16max, u32max, u64max]; omega) | (simp [mulSz, Cont.len, bne]; done) | (simp [mulSz, Cont.len, bne]; omega)))); conv => whnf)
                | (refine tst_in ?_ ?_; (focus (intro h_; exfalso; first | omega | ((try simp only [decide_eq_true_eq, decide_eq_false_iff_not] at h_); omega) | (simp [mulSz, Cont.len, bne] at h_; done) | (simp [mulSz, Cont.len, bne] at h_; omega))); intro _; conv => whnf)
                | (refine tst_in ?_ ?_; rotate_left; (focus (intro h_; exfalso; first | omega | ((try simp only [decide_eq_true_eq, decide_eq_false_iff_not] at h_); omega) | (simp [mulSz, Cont.len, bne] at h_; done) | (simp [mulSz, Cont.len, bne] at h_; omega))); intro _; conv => whnf))
              refine ⟨[2], ((j + 1, t2) : Nat × List Bool), ?_, (by show j + 1 ≤ 8; omega), (by show 8 - (j + 1) < 8 - j; omega)⟩
              conv => whnf
              repeat' (first | exact True.intro | rfl | refine And.intro ?_ ?_)
              all_goals (conv => whnf)
              repeat' (first | exact True.intro | rfl | refine And.intro ?_ ?_)
              all_goals (try (first | omega | exact True.intro | rfl | assumption | (change LE.le (α := Nat) _ _; first | omega | (simp only []; omega)) | (simp only []; done) | (simp only []; omega) | (simp; done) | (simp; omega)))
              all_goals (show ofB s k ++ (bt 8 (byteAt s k) j ++ [(byteAt s k).testBit (8 - 1 - j)]) ++ t2 = _; rw [show List.take (mulSz 1 (8 * k + j)) (List.drop 0 (ofB s k ++ bt 8 (byteAt s k) j ++ t)) = ofB s k ++ bt 8 (byteAt s k) j from List.take_left' (by rw [List.length_append, hlk, hbj]; rfl)]; simp [mulSz])
          · skip
            conv => whnf
            refine ⟨?_, True.intro⟩
            conv => whnf
            refine ⟨_, [], PW, ?_⟩
            conv => whnf
            refine ⟨?_, ?_, ?_⟩
            · conv => whnf
              repeat' (first | exact True.intro | rfl | refine And.intro ?_ ?_)
              all_goals (conv => whnf)
              repeat' (first | exact True.intro | rfl | refine And.intro ?_ ?_)
              all_goals (try (first | rfl | omega | (simp; done) | (simp; omega)))
            · conv => whnf
              repeat' (first | exact True.intro | rfl | refine And.intro ?_ ?_)
              all_goals (conv => whnf)
              repeat' (first | exact True.intro | rfl | refine And.intro ?_ ?_)
              all_goals (try (first | rfl | omega | (simp; done) | (simp; omega)))
            conv => whnf
            conv => whnf
            refine ⟨⟨by omega, by rw [hs]; omega⟩, ?_⟩
            rw [show ((k : Int)).toNat = k from Int.toNat_natCast k]
            conv => whnf
            conv => whnf
            rw [show IntKind.i64.wrap ((byteAt s k : Nat) : Int) = ((byteAt s k : Nat) : Int) from wrap_i64 (by omega)]
            conv => whnf
            refine ⟨⟨by omega, by omega, by rw [i64max]; omega⟩, ?_⟩
            conv => whnf
            refine ⟨⟨Int.ediv_nonneg (by omega) (by omega), by decide⟩, ?_⟩
            conv => whnf
            rw [dm_bit]
            conv => whnf
            repeat (first
              | (refine And.intro ?_ ?_; (focus (first | omega | decide | exact Int.natCast_nonneg _ | ((repeat' refine And.intro ?_ ?_) <;> first | omega | exact Int.natCast_nonneg _ | (simp only [i64max]; omega) | (simp only [u8max]; omega) | (simp only [i64max, u8max, u16max, u32max, u64max]; omega) | (simp [mulSz, Cont.len, bne, hlk, hbj]; done) | (simp [mulSz, Cont.len, bne, hlk, hbj]; omega)))); conv => whnf)
              | (refine tst_in ?_ ?_; (focus (intro h_; exfalso; first | omega | ((try simp only [decide_eq_true_eq, decide_eq_false_iff_not] at h_); omega) | (simp [mulSz, Cont.len, bne, hlk, hbj] at h_; done) | (simp [mulSz, Cont.len, bne, hlk, hbj] at h_; omega))); intro _; conv => whnf)
              | (refine tst_in ?_ ?_; rotate_left; (focus (intro h_; exfalso; first | omega | ((try simp only [decide_eq_true_eq, decide_eq_false_iff_not] at h_); omega) | (simp [mulSz, Cont.len, bne, hlk, hbj] at h_; done) | (simp [mulSz, Cont.len, bne, hlk, hbj] at h_; omega))); intro _; conv => whnf))
            intro (t2 : List Bool)
            conv => whnf
            repeat (first
              | (refine And.intro ?_ ?_; (focus (first | omega | decide | exact Int.natCast_nonneg _ | ((repeat' refine And.intro ?_ ?_) <;> first | omega | exact Int.natCast_nonneg _ | (simp only [i64max]; omega) | (simp only [u8max]; omega) | (simp only [i64max, u8max, u16max, u32max, u64max]; omega) | (simp [mulSz, Cont.len, bne]; done) | (simp [mulSz, Cont.len, bne]; omega)))); conv => whnf)
              | (refine tst_in ?_ ?_; (focus (intro h_; exfalso; first | omega | ((try simp only [decide_eq_true_eq, decide_eq_false_iff_not] at h_); omega) | (simp [mulSz, Cont.len, bne] at h_; done) | (simp [mulSz, Cont.len, bne] at h_; omega))); intro _; conv => whnf)
              | (refine tst_in ?_ ?_; rotate_left; (focus (intro h_; exfalso; first | omega | ((try simp only [decide_eq_true_eq, decide_eq_false_iff_not] at h_); omega) | (simp [mulSz, Cont.len, bne] at h_; done) | (simp [mulSz, Cont.len, bne] at h_; omega))); intro _; conv => whnf))
            refine ⟨[2], ((j + 1, t2) : Nat × List Bool), ?_, (by show j + 1 ≤ 8; omega), (by show 8 - (j + 1) < 8 - j; omega)⟩
            conv => whnf
            repeat' (first | exact True.intro | rfl | refine And.intro ?_ ?_)
            all_goals (conv => whnf)
            repeat' (first | exact True.intro | rfl | refine And.intro ?_ ?_)
            all_goals (try (first | omega | exact True.intro | rfl | assumption | (change LE.le (α := Nat) _ _; first | omega | (simp only []; omega)) | (simp only []; done) | (simp only []; omega) | (simp; done) | (simp; omega)))
            all_goals (show ofB s k ++ (bt 8 (byteAt s k) j ++ [(byteAt s k).testBit (8 - 1 - j)]) ++ t2 = _; rw [show List.take (mulSz 1 (8 * k + j)) (List.drop 0 (ofB s k ++ bt 8 (byteAt s k) j ++ t)) = ofB s k ++ bt 8 (byteAt s k) j from List.take_left' (by rw [List.length_append, hlk, hbj]; rfl)]; simp [mulSz])
        · skip
          have hjt : j = 8 := by simp at hjt; omega
          subst hjt
          conv => whnf
          repeat (first
            | (refine And.intro ?_ ?_; (focus (first | omega | decide | exact Int.natCast_nonneg _ | ((repeat' refine And.intro ?_ ?_) <;> first | omega | exact Int.natCast_nonneg _ | (simp only [i64max]; omega) | (simp only [u8max]; omega) | (simp only [i64max, u8max, u16max, u32max, u64max]; omega) | (simp [mulSz, Cont.len, bne]; done) | (simp [mulSz, Cont.len, bne]; omega)))); conv => whnf)
            | (refine tst_in ?_ ?_; (focus (intro h_; exfalso; first | omega | ((try simp only [decide_eq_true_eq, decide_eq_false_iff_not] at h_); omega) | (simp [mulSz, Cont.len, bne] at h_; done) | (simp [mulSz, Cont.len, bne] at h_; omega))); intro _; conv => whnf)
            | (refine tst_in ?_ ?_; rotate_left; (focus (intro h_; exfalso; first | omega | ((try simp only [decide_eq_true_eq, decide_eq_false_iff_not] at h_); omega) | (simp [mulSz, Cont.len, bne] at h_; done) | (simp [mulSz, Cont.len, bne] at h_; omega))); intro _; conv => whnf))
          refine ⟨[0], ((k + 1, t) : Nat × List Bool), ?_, (by show k + 1 ≤ n; omega), (by show n - (k + 1) < n - k; omega)⟩
          conv => whnf
          repeat' (first | exact True.intro | rfl | refine And.intro ?_ ?_)
          all_goals (conv => whnf)
          repeat' (first | exact True.intro | rfl | refine And.intro ?_ ?_)
          all_goals (try (first | omega | exact True.intro | rfl | assumption | (change LE.le (α := Nat) _ _; first | omega | (simp only []; omega)) | (simp only []; done) | (simp only []; omega) | (simp; done) | (simp; omega)))
    · skip
      have hge : k = n := by simp at hge; omega
      subst hge
      conv => whnf
      repeat (first
        | (refine And.intro ?_ ?_; (focus (first | omega | decide | exact Int.natCast_nonneg _ | ((repeat' refine And.intro ?_ ?_) <;> first | omega | exact Int.natCast_nonneg _ | (simp only [i64max]; omega) | (simp only [u8max]; omega) | (simp only [i64max, u8max, u16max, u32max, u64max]; omega) | (simp [mulSz, Cont.len, bne]; done) | (simp [mulSz, Cont.len, bne]; omega)))); conv => whnf)
        | (refine tst_in ?_ ?_; (focus (intro h_; exfalso; first | omega | ((try simp only [decide_eq_true_eq, decide_eq_false_iff_not] at h_); omega) | (simp [mulSz, Cont.len, bne] at h_; done) | (simp [mulSz, Cont.len, bne] at h_; omega))); intro _; conv => whnf)
        | (refine tst_in ?_ ?_; rotate_left; (focus (intro h_; exfalso; first | omega | ((try simp only [decide_eq_true_eq, decide_eq_false_iff_not] at h_); omega) | (simp [mulSz, Cont.len, bne] at h_; done) | (simp [mulSz, Cont.len, bne] at h_; omega))); intro _; conv => whnf))
      refine .inl ⟨t, [0], ?_⟩
      conv => whnf
      repeat' (first | exact True.intro | rfl | refine And.intro ?_ ?_)
      all_goals (conv => whnf)
      repeat' (first | exact True.intro | rfl | refine And.intro ?_ ?_)
      all_goals (try (first | omega | exact True.intro | rfl | assumption | (change LE.le (α := Nat) _ _; first | omega | (simp only [hl]; omega)) | (simp only [hl]; done) | (simp only [hl]; omega) | (simp [hl]; done) | (simp [hl]; omega)))
theorem rOf_far (s : ByteArray) (hn : 4096 < s.size) : Fits Try.prog 10 ⟨[.str s], [], [rowO [] 1]⟩ := by
  refine fits_of_body (C := cfg10 s) (c := c10) (ts := [2, 3]) tok0 mixed0 (fun _ => none) (fun _ => none)
    Try.func10 (by kernel_rfl) (by kernel_rfl) (by kernel_rfl) (by kernel_rfl) rfl ?_
  conv => whnf
  repeat (first
    | (refine And.intro ?_ ?_; (focus (first | omega | decide | exact Int.natCast_nonneg _ | ((repeat' refine And.intro ?_ ?_) <;> first | omega | exact Int.natCast_nonneg _ | (simp only [i64max]; omega) | (simp only [u8max]; omega) | (simp only [i64max, u8max, u16max, u32max, u64max]; omega) | (simp [mulSz, Cont.len, bne]; done) | (simp [mulSz, Cont.len, bne]; omega)))); conv => whnf)
    | (refine tst_in ?_ ?_; (focus (intro h_; exfalso; first | omega | ((try simp only [decide_eq_true_eq, decide_eq_false_iff_not] at h_); omega) | (simp [mulSz, Cont.len, bne] at h_; done) | (simp [mulSz, Cont.len, bne] at h_; omega))); intro _; conv => whnf)
    | (refine tst_in ?_ ?_; rotate_left; (focus (intro h_; exfalso; first | omega | ((try simp only [decide_eq_true_eq, decide_eq_false_iff_not] at h_); omega) | (simp [mulSz, Cont.len, bne] at h_; done) | (simp [mulSz, Cont.len, bne] at h_; omega))); intro _; conv => whnf))
  refine .inl ⟨[], [0], ?_⟩
  conv => whnf
  repeat' (first | exact True.intro | rfl | refine And.intro ?_ ?_)
  all_goals (conv => whnf)
  repeat' (first | exact True.intro | rfl | refine And.intro ?_ ?_)
  all_goals (try (first | omega | exact True.intro | rfl | assumption | (change LE.le (α := Nat) _ _; first | omega | (simp only []; omega)) | (simp only []; done) | (simp only []; omega) | (simp; done) | (simp; omega)))
theorem pOf (s : ByteArray) : ∃ (X : List Bool) (e : Nat), X.length ≤ 32768 ∧ Fits Try.prog 9 ⟨[.str s], [], [rowO X e]⟩ ∧ Fits Try.prog 10 ⟨[.str s], [], [rowO X e]⟩ := by
  rcases Nat.lt_or_ge 4096 s.size with h | h
  · exact ⟨[], 1, by decide, Of_far s h, rOf_far s h⟩
  · exact ⟨ofB s s.size, 0, by rw [ofB_len]; omega, Of_f s _ rfl h, rOf_f s _ rfl h⟩
end Go.Proofs.Ytkkianjpkipooaa

set_option linter.unusedVariables false
set_option linter.unusedSimpArgs false
namespace Go.Proofs.Ytkkianjpkipooaa
open Go Go.Fw
/-- A row's part. -/
def part (A : List Bool) (off n : Nat) : List Bool := (A.drop off).take n
theorem part_len {A : List Bool} {off n : Nat} (h : off + n ≤ A.length) : (part A off n).length = n := by simp [part]; omega
theorem part_get {A : List Bool} {off n k : Nat} (hk : k < n) : (part A off n).getD k false = A.getD (off + k) false := by
  unfold part
  rw [List.getD_eq_getElem?_getD, List.getElem?_take, if_pos hk, List.getElem?_drop, List.getD_eq_getElem?_getD]
theorem part_succ {A : List Bool} {off k : Nat} (h : off + k < A.length) : part A off (k + 1) = part A off k ++ [A.getD (off + k) false] := by
  unfold part
  rw [List.take_succ_eq_append_getElem (by simp; omega)]
  simp [List.getD, h]
def numB : List Bool → Nat → Nat
  | [], s => s
  | b :: l, s => numB l (2 * s + b.toNat)
theorem numB_append : ∀ (l m : List Bool) (s : Nat), numB (l ++ m) s = numB m (numB l s)
  | [], _, _ => rfl
  | b :: l, m, s => by simp only [List.cons_append, numB, numB_append l m]
theorem numB_lt : ∀ (l : List Bool) (s : Nat), numB l s < 2 ^ l.length * (s + 1)
  | [], s => by simp [numB]
  | b :: l, s => by
    have := numB_lt l (2 * s + b.toNat)
    have hb : b.toNat ≤ 1 := by cases b <;> simp
    simp only [numB, List.length_cons]
    refine Nat.lt_of_lt_of_le this ?_
    rw [Nat.pow_succ, Nat.mul_assoc]
    exact Nat.mul_le_mul_left _ (by omega)
/-- The word at a place. -/
def nw (A : List Bool) (o j : Nat) : Nat := numB (part A o j) 0
theorem nw_succ {A : List Bool} {o j : Nat} (h : o + j < A.length) : nw A o (j + 1) = 2 * nw A o j + (A.getD (o + j) false).toNat := by
  unfold nw; rw [part_succ h, numB_append]; rfl
theorem nw_lt {A : List Bool} {o j : Nat} (h : o + j ≤ A.length) (hj : j ≤ 16) : nw A o j < 65536 := by
  have := numB_lt (part A o j) 0
  rw [part_len h] at this
  have hp : 2 ^ j ≤ 2 ^ 16 := Nat.pow_le_pow_right (by decide) hj
  unfold nw; omega
def wl (A : List Bool) (W : Nat) : Nat → List Int
  | 0 => []
  | k + 1 => wl A W k ++ [((nw A (W * k) W : Nat) : Int)]
theorem wl_len (A : List Bool) (W : Nat) : ∀ k, (wl A W k).length = k
  | 0 => rfl
  | k + 1 => by simp [wl, wl_len A W k]
theorem set_mid {α : Type} (l r : List α) (n : Nat) (x y : α) (h : l.length = n) : (l ++ y :: r).set n x = l ++ x :: r := by
  subst h; simp
theorem get_mid (l r : List Int) (n : Nat) (y : Int) (h : l.length = n) : (l ++ y :: r).getD n 0 = y := by
  subst h; simp [List.getD]
def lenAt (st : St) (t : Nat) : Nat := match slot st.sl t with | .slice _ _ l _ => l | _ => 0
def rowI (X : List Int) (e : Nat) : FOut := ⟨List Int, fun _ => True, fun t => .tup [.slice 1 0 X.length (X.length + t.length), .int .i64 e], fun t => [.dead, .seg true (.ints .i64 (X ++ t))]⟩
noncomputable def c13 : Code := (Try.f13.body).getD .skip
def st13 (A : List Bool) (W n ca q k : Nat) (X : List Int) (r : List AV) : St := ⟨anyTo 65 ([.slice 0 0 n ca, .int .i64 W, .any, .any, .any, .any, .slice 1 0 q q, .int .i64 k, .any, .any, .any, .any, .any, .any, .any, .any, .any, .any, .any, .any, .any, .any, .any, .any, .any, .any, .any, .any, .any, .any, .any, .int .i64 q, .int .i64 k] ++ r), [.seg false (.bools A), .seg true (.ints .i64 X)]⟩
def st13a (A : List Bool) (W n ca q k : Nat) : St := ⟨anyTo 65 [.slice 0 0 n ca, .int .i64 W, .any, .any, .any, .any, .slice 1 0 q q, .any, .any, .any, .any, .any, .any, .any, .any, .any, .any, .any, .any, .any, .any, .any, .any, .any, .any, .any, .any, .any, .any, .any, .any, .int .i64 q, .int .i64 k], [.seg false (.bools A), .seg true (.ints .i64 (wl A W k ++ List.replicate (q - k) 0))]⟩
def inv13 (A : List Bool) (W n ca q : Nat) : LInv := ⟨Nat, fun k => st13a A W n ca q k, fun k => k ≤ q, fun k => q - k⟩
def rest13 (W ca k j : Nat) : List AV := [.any, .any, .any, .any, .any, .any, .any, .any, .any, .any, .slice 0 (W * k) W (ca - W * k), .int .i64 W, .int .i64 j]
def inv13b (A : List Bool) (W n ca q : Nat) (st : St) : LInv := ⟨Nat, fun j => st13 A W n ca q (natAt st 32) (wl A W (natAt st 32) ++ ((nw A (W * natAt st 32) j : Nat) : Int) :: List.replicate (q - natAt st 32 - 1) 0) (rest13 W ca (natAt st 32) j), fun j => j ≤ W, fun j => W - j⟩
def cfg13 (A : List Bool) (W n ca q : Nat) : Cfg := { T := tys0, sgn := fun _ => false, wr := fun _ => false, k := 1, q := qf, dep := fun | 8 => some (inv13b A W n ca q) | _ => none }
set_option maxHeartbeats 0 in
set_option maxRecDepth 100000 in
theorem Words_f (A : List Bool) (W n ca q : Nat) (hA : n ≤ A.length) (hca : n ≤ ca) (h1 : 1 ≤ W) (h2 : W ≤ 16) (hn : n ≤ 32768) (hq : n = W * q) :
    Fits Try.prog 13 ⟨[.slice 0 0 n ca, .int .i64 W], [.seg false (.bools A)], [rowI (wl A W q) 0]⟩ := by
  have hl := wl_len A W
  have IW := isWidth_q (W : Int)
  rw [decide_eq_true (show (1 : Int) ≤ W by omega), decide_eq_true (show (W : Int) ≤ 16 by omega)] at IW
  have IR := isRow_q A n ca
  rw [decide_eq_true (show (n : Int) ≤ 32768 by omega)] at IR
  have hr : (n : Int) % (W : Int) = 0 := by rw [hq]; simp
  have hd : (n : Int) / (W : Int) = q := by rw [hq]; simp [Int.mul_ediv_cancel_left _ (show (W : Int) ≠ 0 by omega)]
  have hqn : q ≤ n := by rw [hq]; exact Nat.le_mul_of_pos_left q (by omega)
  refine fits_of_body (C := cfg13 A W n ca q) (c := c13) (ts := [4, 5]) tok0 mixed0 (fun | 5 => some (inv13 A W n ca q) | _ => none) (fun _ => none)
    Try.func13 (by kernel_rfl) (by kernel_rfl) (by kernel_rfl) (by kernel_rfl) rfl ?_
  conv => whnf
  repeat (first
    | (refine And.intro ?_ ?_; (focus (first | omega | decide | exact Int.natCast_nonneg _ | ((repeat' refine And.intro ?_ ?_) <;> first | omega | exact Int.natCast_nonneg _ | (simp only [i64max]; omega) | (simp only [u8max]; omega) | (simp only [i64max, u8max, u16max, u32max, u64max]; omega) | (simp [mulSz, Cont.len, bne]; done) | (simp [mulSz, Cont.len, bne]; omega)))); conv => whnf)
    | (refine tst_in ?_ ?_; (focus (intro h_; exfalso; first | omega | ((try simp only [decide_eq_true_eq, decide_eq_false_iff_not] at h_); omega) | (simp [mulSz, Cont.len, bne] at h_; done) | (simp [mulSz, Cont.len, bne] at h_; omega))); intro _; conv => whnf)
    | (refine tst_in ?_ ?_; rotate_left; (focus (intro h_; exfalso; first | omega | ((try simp only [decide_eq_true_eq, decide_eq_false_iff_not] at h_); omega) | (simp [mulSz, Cont.len, bne] at h_; done) | (simp [mulSz, Cont.len, bne] at h_; omega))); intro _; conv => whnf))
  refine ⟨_, [], IW, ?_⟩
  conv => whnf
  refine ⟨?_, ?_, ?_⟩
  · conv => whnf
    repeat' (first | exact True.intro | rfl | refine And.intro ?_ ?_)
    all_goals (conv => whnf)
    repeat' (first | exact True.intro | rfl | refine And.intro ?_ ?_)
    all_goals (try (first | rfl | omega | (simp; done) | (simp; omega)))
  · conv => whnf
    repeat' (first | exact True.intro | rfl | refine And.intro ?_ ?_)
    all_goals (conv => whnf)
    repeat' (first | exact True.intro | rfl | refine And.intro ?_ ?_)
    all_goals (try (first | rfl | omega | (simp; done) | (simp; omega)))
  conv => whnf
  conv => whnf
  repeat (first
    | (refine And.intro ?_ ?_; (focus (first | omega | decide | exact Int.natCast_nonneg _ | ((repeat' refine And.intro ?_ ?_) <;> first | omega | exact Int.natCast_nonneg _ | (simp only [i64max]; omega) | (simp only [u8max]; omega) | (simp only [i64max, u8max, u16max, u32max, u64max]; omega) | (simp [mulSz, Cont.len, bne]; done) | (simp [mulSz, Cont.len, bne]; omega)))); conv => whnf)
    | (refine tst_in ?_ ?_; (focus (intro h_; exfalso; first | omega | ((try simp only [decide_eq_true_eq, decide_eq_false_iff_not] at h_); omega) | (simp [mulSz, Cont.len, bne] at h_; done) | (simp [mulSz, Cont.len, bne] at h_; omega))); intro _; conv => whnf)
    | (refine tst_in ?_ ?_; rotate_left; (focus (intro h_; exfalso; first | omega | ((try simp only [decide_eq_true_eq, decide_eq_false_iff_not] at h_); omega) | (simp [mulSz, Cont.len, bne] at h_; done) | (simp [mulSz, Cont.len, bne] at h_; omega))); intro _; conv => whnf))
  refine ⟨_, [0], IR, ?_⟩
  conv => whnf
  refine ⟨?_, ?_, ?_⟩
  · conv => whnf
    repeat' (first | exact True.intro | rfl | refine And.intro ?_ ?_)
    all_goals (conv => whnf)
    repeat' (first | exact True.intro | rfl | refine And.intro ?_ ?_)
    all_goals (try (first | rfl | omega | (simp; done) | (simp; omega)))
  · conv => whnf
    repeat' (first | exact True.intro | rfl | refine And.intro ?_ ?_)
    all_goals (conv => whnf)
    repeat' (first | exact True.intro | rfl | refine And.intro ?_ ?_)
    all_goals (try (first | rfl | omega | (simp; done) | (simp; omega)))
  conv => whnf
  conv => whnf
  repeat (first
    | (refine And.intro ?_ ?_; (focus (first | omega | decide | exact Int.natCast_nonneg _ | ((repeat' refine And.intro ?_ ?_) <;> first | omega | exact Int.natCast_nonneg _ | (simp only [i64max]; omega) | (simp only [u8max]; omega) | (simp only [i64max, u8max, u16max, u32max, u64max]; omega) | (simp [mulSz, Cont.len, bne, hr]; done) | (simp [mulSz, Cont.len, bne, hr]; omega)))); conv => whnf)
    | (refine tst_in ?_ ?_; (focus (intro h_; exfalso; first | omega | ((try simp only [decide_eq_true_eq, decide_eq_false_iff_not] at h_); omega) | (simp [mulSz, Cont.len, bne, hr] at h_; done) | (simp [mulSz, Cont.len, bne, hr] at h_; omega))); intro _; conv => whnf)
    | (refine tst_in ?_ ?_; rotate_left; (focus (intro h_; exfalso; first | omega | ((try simp only [decide_eq_true_eq, decide_eq_false_iff_not] at h_); omega) | (simp [mulSz, Cont.len, bne, hr] at h_; done) | (simp [mulSz, Cont.len, bne, hr] at h_; omega))); intro _; conv => whnf))
  rw [hd]
  conv => whnf
  repeat (first
    | (refine And.intro ?_ ?_; (focus (first | omega | decide | exact Int.natCast_nonneg _ | ((repeat' refine And.intro ?_ ?_) <;> first | omega | exact Int.natCast_nonneg _ | (simp only [i64max]; omega) | (simp only [u8max]; omega) | (simp only [i64max, u8max, u16max, u32max, u64max]; omega) | (simp [mulSz, Cont.len, bne]; done) | (simp [mulSz, Cont.len, bne]; omega)))); conv => whnf)
    | (refine tst_in ?_ ?_; (focus (intro h_; exfalso; first | omega | ((try simp only [decide_eq_true_eq, decide_eq_false_iff_not] at h_); omega) | (simp [mulSz, Cont.len, bne] at h_; done) | (simp [mulSz, Cont.len, bne] at h_; omega))); intro _; conv => whnf)
    | (refine tst_in ?_ ?_; rotate_left; (focus (intro h_; exfalso; first | omega | ((try simp only [decide_eq_true_eq, decide_eq_false_iff_not] at h_); omega) | (simp [mulSz, Cont.len, bne] at h_; done) | (simp [mulSz, Cont.len, bne] at h_; omega))); intro _; conv => whnf))
  refine ⟨⟨[0, 1], (0 : Nat), ?_, Nat.zero_le _⟩, ?_⟩
  · conv => whnf
    repeat' (first | exact True.intro | rfl | refine And.intro ?_ ?_)
    all_goals (conv => whnf)
    repeat' (first | exact True.intro | rfl | refine And.intro ?_ ?_)
    all_goals (try (first | omega | exact True.intro | rfl | assumption | (change LE.le (α := Nat) _ _; first | omega | (simp only [wl]; omega)) | (simp only [wl]; done) | (simp only [wl]; omega) | (simp [wl]; done) | (simp [wl]; omega)))
  · intro (k : Nat) (hk : k ≤ q)
    have hlk := hl k
    show forceSt (st13a A W n ca q k) _
    conv => whnf
    refine tst_in (fun hlt => ?_) (fun hge => ?_)
    · skip
      have hlt : k < q := by simp at hlt; omega
      have e1 : (k : Int) * (W : Int) = ((W * k : Nat) : Int) := by rw [Int.natCast_mul, Int.mul_comm]
      have e2 : ((k : Int) + 1) * (W : Int) = ((W * (k + 1) : Nat) : Int) := by rw [Int.natCast_mul, Int.mul_comm]; congr 1
      have hm1 : W * (k + 1) ≤ W * q := Nat.mul_le_mul_left _ hlt
      have hm2 : W * (k + 1) = W * k + W := Nat.mul_succ _ _
      conv => whnf
      rw [e1]
      conv => whnf
      repeat (first
        | (refine And.intro ?_ ?_; (focus (first | omega | decide | exact Int.natCast_nonneg _ | ((repeat' refine And.intro ?_ ?_) <;> first | omega | exact Int.natCast_nonneg _ | (simp only [i64max]; omega) | (simp only [u8max]; omega) | (simp only [i64max, u8max, u16max, u32max, u64max]; omega) | (simp [mulSz, Cont.len, bne]; done) | (simp [mulSz, Cont.len, bne]; omega)))); conv => whnf)
        | (refine tst_in ?_ ?_; (focus (intro h_; exfalso; first | omega | ((try simp only [decide_eq_true_eq, decide_eq_false_iff_not] at h_); omega) | (simp [mulSz, Cont.len, bne] at h_; done) | (simp [mulSz, Cont.len, bne] at h_; omega))); intro _; conv => whnf)
        | (refine tst_in ?_ ?_; rotate_left; (focus (intro h_; exfalso; first | omega | ((try simp only [decide_eq_true_eq, decide_eq_false_iff_not] at h_); omega) | (simp [mulSz, Cont.len, bne] at h_; done) | (simp [mulSz, Cont.len, bne] at h_; omega))); intro _; conv => whnf))
      rw [e2]
      conv => whnf
      repeat (first
        | (refine And.intro ?_ ?_; (focus (first | omega | decide | exact Int.natCast_nonneg _ | ((repeat' refine And.intro ?_ ?_) <;> first | omega | exact Int.natCast_nonneg _ | (simp only [i64max]; omega) | (simp only [u8max]; omega) | (simp only [i64max, u8max, u16max, u32max, u64max]; omega) | (simp [mulSz, Cont.len, bne]; done) | (simp [mulSz, Cont.len, bne]; omega)))); conv => whnf)
        | (refine tst_in ?_ ?_; (focus (intro h_; exfalso; first | omega | ((try simp only [decide_eq_true_eq, decide_eq_false_iff_not] at h_); omega) | (simp [mulSz, Cont.len, bne] at h_; done) | (simp [mulSz, Cont.len, bne] at h_; omega))); intro _; conv => whnf)
        | (refine tst_in ?_ ?_; rotate_left; (focus (intro h_; exfalso; first | omega | ((try simp only [decide_eq_true_eq, decide_eq_false_iff_not] at h_); omega) | (simp [mulSz, Cont.len, bne] at h_; done) | (simp [mulSz, Cont.len, bne] at h_; omega))); intro _; conv => whnf))
      rw [show ((W * (k + 1) : Nat) : Int).toNat = W * (k + 1) from Int.toNat_natCast _, show ((W * k : Nat) : Int).toNat = W * k from Int.toNat_natCast _]
      conv => whnf
      repeat (first
        | (refine And.intro ?_ ?_; (focus (first | omega | decide | exact Int.natCast_nonneg _ | ((repeat' refine And.intro ?_ ?_) <;> first | omega | exact Int.natCast_nonneg _ | (simp only [i64max]; omega) | (simp only [u8max]; omega) | (simp only [i64max, u8max, u16max, u32max, u64max]; omega) | (simp [mulSz, Cont.len, bne]; done) | (simp [mulSz, Cont.len, bne]; omega)))); conv => whnf)
        | (refine tst_in ?_ ?_; (focus (intro h_; exfalso; first | omega | ((try simp only [decide_eq_true_eq, decide_eq_false_iff_not] at h_); omega) | (simp [mulSz, Cont.len, bne] at h_; done) | (simp [mulSz, Cont.len, bne] at h_; omega))); intro _; conv => whnf)
        | (refine tst_in ?_ ?_; rotate_left; (focus (intro h_; exfalso; first | omega | ((try simp only [decide_eq_true_eq, decide_eq_false_iff_not] at h_); omega) | (simp [mulSz, Cont.len, bne] at h_; done) | (simp [mulSz, Cont.len, bne] at h_; omega))); intro _; conv => whnf))
      refine ⟨⟨[0, 1], (0 : Nat), ?_, Nat.zero_le _⟩, ?_⟩
      · show stLe _ _ (st13 A W n ca q k (wl A W k ++ ((nw A (W * k) 0 : Nat) : Int) :: List.replicate (q - k - 1) 0) (rest13 W ca k 0)) _
        conv => whnf
        repeat' (first | exact True.intro | rfl | refine And.intro ?_ ?_)
        all_goals (conv => whnf)
        repeat' (first | exact True.intro | rfl | refine And.intro ?_ ?_)
        all_goals (try (first | omega | exact True.intro | rfl | assumption | (change LE.le (α := Nat) _ _; first | omega | (simp only []; omega)) | (simp only []; done) | (simp only []; omega) | (simp; done) | (simp; omega)))
        all_goals (show wl A W k ++ (0 : Int) :: List.replicate (q - k - 1) 0 = wl A W k ++ List.replicate (q - k) 0; rw [← List.replicate_succ, show q - k - 1 + 1 = q - k by omega])
      · intro (j : Nat) (hj : j ≤ W)
        show forceSt (st13 A W n ca q k (wl A W k ++ ((nw A (W * k) j : Nat) : Int) :: List.replicate (q - k - 1) 0) (rest13 W ca k j)) _
        have hg := get_mid (wl A W k) (List.replicate (q - k - 1) 0) k ((nw A (W * k) j : Nat) : Int) hlk
        have hset := fun x => set_mid (wl A W k) (List.replicate (q - k - 1) 0) k x ((nw A (W * k) j : Nat) : Int) hlk
        have hlen : (wl A W k ++ ((nw A (W * k) j : Nat) : Int) :: List.replicate (q - k - 1) 0).length = q := by simp [hlk]; omega
        have hnl := nw_lt (A := A) (o := W * k) (j := j) (by omega) (by omega)
        conv => whnf
        refine tst_in (fun hjt => ?_) (fun hjt => ?_)
        · skip
          have hjt : j < W := by simp at hjt; omega
          have hns := nw_succ (A := A) (o := W * k) (j := j) (by omega)
          generalize nw A (W * k) j = v at *
          conv => whnf
          repeat (first
            | (refine And.intro ?_ ?_; (focus (first | omega | decide | exact Int.natCast_nonneg _ | ((repeat' refine And.intro ?_ ?_) <;> first | omega | exact Int.natCast_nonneg _ | (simp only [i64max]; omega) | (simp only [u8max]; omega) | (simp only [i64max, u8max, u16max, u32max, u64max]; omega) | (simp [mulSz, Cont.len, bne]; done) | (simp [mulSz, Cont.len, bne]; omega)))); conv => whnf)
            | (refine tst_in ?_ ?_; (focus (intro h_; exfalso; first | omega | ((try simp only [decide_eq_true_eq, decide_eq_false_iff_not] at h_); omega) | (simp [mulSz, Cont.len, bne] at h_; done) | (simp [mulSz, Cont.len, bne] at h_; omega))); intro _; conv => whnf)
            | (refine tst_in ?_ ?_; rotate_left; (focus (intro h_; exfalso; first | omega | ((try simp only [decide_eq_true_eq, decide_eq_false_iff_not] at h_); omega) | (simp [mulSz, Cont.len, bne] at h_; done) | (simp [mulSz, Cont.len, bne] at h_; omega))); intro _; conv => whnf))
          rw [show 0 + ((k : Int)).toNat = k by omega, hg]
          conv => whnf
          repeat (first
            | (refine And.intro ?_ ?_; (focus (first | omega | decide | exact Int.natCast_nonneg _ | ((repeat' refine And.intro ?_ ?_) <;> first | omega | exact Int.natCast_nonneg _ | (simp only [i64max]; omega) | (simp only [u8max]; omega) | (simp only [i64max, u8max, u16max, u32max, u64max]; omega) | (simp [mulSz, Cont.len, bne]; done) | (simp [mulSz, Cont.len, bne]; omega)))); conv => whnf)
            | (refine tst_in ?_ ?_; (focus (intro h_; exfalso; first | omega | ((try simp only [decide_eq_true_eq, decide_eq_false_iff_not] at h_); omega) | (simp [mulSz, Cont.len, bne] at h_; done) | (simp [mulSz, Cont.len, bne] at h_; omega))); intro _; conv => whnf)
            | (refine tst_in ?_ ?_; rotate_left; (focus (intro h_; exfalso; first | omega | ((try simp only [decide_eq_true_eq, decide_eq_false_iff_not] at h_); omega) | (simp [mulSz, Cont.len, bne] at h_; done) | (simp [mulSz, Cont.len, bne] at h_; omega))); intro _; conv => whnf))
          rw [show (v : Int) * 2 ^ (min (Int.toNat 1) (IntKind.bits .i64)) = ((2 * v : Nat) : Int) by show (v : Int) * 2 = _; omega]
          conv => whnf
          repeat (first
            | (refine And.intro ?_ ?_; (focus (first | omega | decide | exact Int.natCast_nonneg _ | ((repeat' refine And.intro ?_ ?_) <;> first | omega | exact Int.natCast_nonneg _ | (simp only [i64max]; omega) | (simp only [u8max]; omega) | (simp only [i64max, u8max, u16max, u32max, u64max]; omega) | (simp [mulSz, Cont.len, bne]; done) | (simp [mulSz, Cont.len, bne]; omega)))); conv => whnf)
            | (refine tst_in ?_ ?_; (focus (intro h_; exfalso; first | omega | ((try simp only [decide_eq_true_eq, decide_eq_false_iff_not] at h_); omega) | (simp [mulSz, Cont.len, bne] at h_; done) | (simp [mulSz, Cont.len, bne] at h_; omega))); intro _; conv => whnf)
            | (refine tst_in ?_ ?_; rotate_left; (focus (intro h_; exfalso; first | omega | ((try simp only [decide_eq_true_eq, decide_eq_false_iff_not] at h_); omega) | (simp [mulSz, Cont.len, bne] at h_; done) | (simp [mulSz, Cont.len, bne] at h_; omega))); intro _; conv => whnf))
          rw [show 0 + ((k : Int)).toNat = k by omega, hset]
          have hg2 := get_mid (wl A W k) (List.replicate (q - k - 1) 0) k ((2 * v : Nat) : Int) hlk
          have hset2 := fun x => set_mid (wl A W k) (List.replicate (q - k - 1) 0) k x ((2 * v : Nat) : Int) hlk
          have hlen2 : (wl A W k ++ ((2 * v : Nat) : Int) :: List.replicate (q - k - 1) 0).length = q := by simp [hlk]; omega
          conv => whnf
          repeat (first
            | (refine And.intro ?_ ?_; (focus (first | omega | decide | exact Int.natCast_nonneg _ | ((repeat' refine And.intro ?_ ?_) <;> first | omega | exact Int.natCast_nonneg _ | (simp only [i64max]; omega) | (simp only [u8max]; omega) | (simp only [i64max, u8max, u16max, u32max, u64max]; omega) | (simp [mulSz, Cont.len, bne]; done) | (simp [mulSz, Cont.len, bne]; omega)))); conv => whnf)
            | (refine tst_in ?_ ?_; (focus (intro h_; exfalso; first | omega | ((try simp only [decide_eq_true_eq, decide_eq_false_iff_not] at h_); omega) | (simp [mulSz, Cont.len, bne] at h_; done) | (simp [mulSz, Cont.len, bne] at h_; omega))); intro _; conv => whnf)
            | (refine tst_in ?_ ?_; rotate_left; (focus (intro h_; exfalso; first | omega | ((try simp only [decide_eq_true_eq, decide_eq_false_iff_not] at h_); omega) | (simp [mulSz, Cont.len, bne] at h_; done) | (simp [mulSz, Cont.len, bne] at h_; omega))); intro _; conv => whnf))
          rw [show W * k + ((j : Int)).toNat = W * k + j by omega]
          refine tst_in (fun hb => ?_) (fun hb => ?_)
          · skip
            rw [hb] at hns
            conv => whnf
            repeat (first
              | (refine And.intro ?_ ?_; (focus (first | omega | decide | exact Int.natCast_nonneg _ | ((repeat' refine And.intro ?_ ?_) <;> first | omega | exact Int.natCast_nonneg _ | (simp only [i64max]; omega) | (simp only [u8max]; omega) | (simp only [i64max, u8max, u16max, u32max, u64max]; omega) | (simp [mulSz, Cont.len, bne]; done) | (simp [mulSz, Cont.len, bne]; omega)))); conv => whnf)
              | (refine tst_in ?_ ?_; (focus (intro h_; exfalso; first | omega | ((try simp only [decide_eq_true_eq, decide_eq_false_iff_not] at h_); omega) | (simp [mulSz, Cont.len, bne] at h_; done) | (simp [mulSz, Cont.len, bne] at h_; omega))); intro _; conv => whnf)
              | (refine tst_in ?_ ?_; rotate_left; (focus (intro h_; exfalso; first | omega | ((try simp only [decide_eq_true_eq, decide_eq_false_iff_not] at h_); omega) | (simp [mulSz, Cont.len, bne] at h_; done) | (simp [mulSz, Cont.len, bne] at h_; omega))); intro _; conv => whnf))
            rw [show 0 + ((k : Int)).toNat = k by omega, hg2]
            conv => whnf
            repeat (first
              | (refine And.intro ?_ ?_; (focus (first | omega | decide | exact Int.natCast_nonneg _ | ((repeat' refine And.intro ?_ ?_) <;> first | omega | exact Int.natCast_nonneg _ | (simp only [i64max]; omega) | (simp only [u8max]; omega) | (simp only [i64max, u8max, u16max, u32max, u64max]; omega) | (simp [mulSz, Cont.len, bne]; done) | (simp [mulSz, Cont.len, bne]; omega)))); conv => whnf)
              | (refine tst_in ?_ ?_; (focus (intro h_; exfalso; first | omega | ((try simp only [decide_eq_true_eq, decide_eq_false_iff_not] at h_); omega) | (simp [mulSz, Cont.len, bne] at h_; done) | (simp [mulSz, Cont.len, bne] at h_; omega))); intro _; conv => whnf)
              | (refine tst_in ?_ ?_; rotate_left; (focus (intro h_; exfalso; first | omega | ((try simp only [decide_eq_true_eq, decide_eq_false_iff_not] at h_); omega) | (simp [mulSz, Cont.len, bne] at h_; done) | (simp [mulSz, Cont.len, bne] at h_; omega))); intro _; conv => whnf))
            rw [Int.toNat_natCast, show (1 : Int).toNat = 1 from rfl, show 2 * v ||| 1 = 2 * v + 1 from by rw [← Nat.two_pow_add_eq_or_of_lt (i := 1) (by decide) v]]
            conv => whnf
            repeat (first
              | (refine And.intro ?_ ?_; (focus (first | omega | decide | exact Int.natCast_nonneg _ | ((repeat' refine And.intro ?_ ?_) <;> first | omega | exact Int.natCast_nonneg _ | (simp only [i64max]; omega) | (simp only [u8max]; omega) | (simp only [i64max, u8max, u16max, u32max, u64max]; omega) | (simp [mulSz, Cont.len, bne]; done) | (simp [mulSz, Cont.len, bne]; omega)))); conv => whnf)
              | (refine tst_in ?_ ?_; (focus (intro h_; exfalso; first | omega | ((try simp only [decide_eq_true_eq, decide_eq_false_iff_not] at h_); omega) | (simp [mulSz, Cont.len, bne] at h_; done) | (simp [mulSz, Cont.len, bne] at h_; omega))); intro _; conv => whnf)
              | (refine tst_in ?_ ?_; rotate_left; (focus (intro h_; exfalso; first | omega | ((try simp only [decide_eq_true_eq, decide_eq_false_iff_not] at h_); omega) | (simp [mulSz, Cont.len, bne] at h_; done) | (simp [mulSz, Cont.len, bne] at h_; omega))); intro _; conv => whnf))
            rw [show 0 + ((k : Int)).toNat = k by omega, hset2]
            conv => whnf
            repeat (first
              | (refine And.intro ?_ ?_; (focus (first | omega | decide | exact Int.natCast_nonneg _ | ((repeat' refine And.intro ?_ ?_) <;> first | omega | exact Int.natCast_nonneg _ | (simp only [i64max]; omega) | (simp only [u8max]; omega) | (simp only [i64max, u8max, u16max, u32max, u64max]; omega) | (simp [mulSz, Cont.len, bne]; done) | (simp [mulSz, Cont.len, bne]; omega)))); conv => whnf)
              | (refine tst_in ?_ ?_; (focus (intro h_; exfalso; first | omega | ((try simp only [decide_eq_true_eq, decide_eq_false_iff_not] at h_); omega) | (simp [mulSz, Cont.len, bne] at h_; done) | (simp [mulSz, Cont.len, bne] at h_; omega))); intro _; conv => whnf)
              | (refine tst_in ?_ ?_; rotate_left; (focus (intro h_; exfalso; first | omega | ((try simp only [decide_eq_true_eq, decide_eq_false_iff_not] at h_); omega) | (simp [mulSz, Cont.len, bne] at h_; done) | (simp [mulSz, Cont.len, bne] at h_; omega))); intro _; conv => whnf))
            refine ⟨[0, 1], j + 1, ?_, (by show j + 1 ≤ W; omega), (by show W - (j + 1) < W - j; omega)⟩
            show stLe _ _ (st13 A W n ca q k (wl A W k ++ ((nw A (W * k) (j + 1) : Nat) : Int) :: List.replicate (q - k - 1) 0) (rest13 W ca k (j + 1))) _
            rw [hns]
            conv => whnf
            repeat' (first | exact True.intro | rfl | refine And.intro ?_ ?_)
            all_goals (conv => whnf)
            repeat' (first | exact True.intro | rfl | refine And.intro ?_ ?_)
            all_goals (try (first | omega | exact True.intro | rfl | assumption | (change LE.le (α := Nat) _ _; first | omega | (simp only []; omega)) | (simp only []; done) | (simp only []; omega) | (simp; done) | (simp; omega)))
          · skip
            rw [hb] at hns
            conv => whnf
            repeat (first
              | (refine And.intro ?_ ?_; (focus (first | omega | decide | exact Int.natCast_nonneg _ | ((repeat' refine And.intro ?_ ?_) <;> first | omega | exact Int.natCast_nonneg _ | (simp only [i64max]; omega) | (simp only [u8max]; omega) | (simp only [i64max, u8max, u16max, u32max, u64max]; omega) | (simp [mulSz, Cont.len, bne]; done) | (simp [mulSz, Cont.len, bne]; omega)))); conv => whnf)
              | (refine tst_in ?_ ?_; (focus (intro h_; exfalso; first | omega | ((try simp only [decide_eq_true_eq, decide_eq_false_iff_not] at h_); omega) | (simp [mulSz, Cont.len, bne] at h_; done) | (simp [mulSz, Cont.len, bne] at h_; omega))); intro _; conv => whnf)
              | (refine tst_in ?_ ?_; rotate_left; (focus (intro h_; exfalso; first | omega | ((try simp only [decide_eq_true_eq, decide_eq_false_iff_not] at h_); omega) | (simp [mulSz, Cont.len, bne] at h_; done) | (simp [mulSz, Cont.len, bne] at h_; omega))); intro _; conv => whnf))
            refine ⟨[0, 1], j + 1, ?_, (by show j + 1 ≤ W; omega), (by show W - (j + 1) < W - j; omega)⟩
            show stLe _ _ (st13 A W n ca q k (wl A W k ++ ((nw A (W * k) (j + 1) : Nat) : Int) :: List.replicate (q - k - 1) 0) (rest13 W ca k (j + 1))) _
            rw [hns]
            conv => whnf
            repeat' (first | exact True.intro | rfl | refine And.intro ?_ ?_)
            all_goals (conv => whnf)
            repeat' (first | exact True.intro | rfl | refine And.intro ?_ ?_)
            all_goals (try (first | omega | exact True.intro | rfl | assumption | (change LE.le (α := Nat) _ _; first | omega | (simp only []; omega)) | (simp only []; done) | (simp only []; omega) | (simp; done) | (simp; omega)))
        · skip
          have hjt : j = W := by simp at hjt; omega
          subst hjt
          conv => whnf
          repeat (first
            | (refine And.intro ?_ ?_; (focus (first | omega | decide | exact Int.natCast_nonneg _ | ((repeat' refine And.intro ?_ ?_) <;> first | omega | exact Int.natCast_nonneg _ | (simp only [i64max]; omega) | (simp only [u8max]; omega) | (simp only [i64max, u8max, u16max, u32max, u64max]; omega) | (simp [mulSz, Cont.len, bne]; done) | (simp [mulSz, Cont.len, bne]; omega)))); conv => whnf)
            | (refine tst_in ?_ ?_; (focus (intro h_; exfalso; first | omega | ((try simp only [decide_eq_true_eq, decide_eq_false_iff_not] at h_); omega) | (simp [mulSz, Cont.len, bne] at h_; done) | (simp [mulSz, Cont.len, bne] at h_; omega))); intro _; conv => whnf)
            | (refine tst_in ?_ ?_; rotate_left; (focus (intro h_; exfalso; first | omega | ((try simp only [decide_eq_true_eq, decide_eq_false_iff_not] at h_); omega) | (simp [mulSz, Cont.len, bne] at h_; done) | (simp [mulSz, Cont.len, bne] at h_; omega))); intro _; conv => whnf))
          refine ⟨[0, 1], k + 1, ?_, (by show k + 1 ≤ q; omega), (by show q - (k + 1) < q - k; omega)⟩
          conv => whnf
          repeat' (first | exact True.intro | rfl | refine And.intro ?_ ?_)
          all_goals (conv => whnf)
          repeat' (first | exact True.intro | rfl | refine And.intro ?_ ?_)
          all_goals (try (first | omega | exact True.intro | rfl | assumption | (change LE.le (α := Nat) _ _; first | omega | (simp only []; omega)) | (simp only []; done) | (simp only []; omega) | (simp; done) | (simp; omega)))
          all_goals (show wl A j k ++ [((nw A (j * k) j : Nat) : Int)] ++ List.replicate (q - (k + 1)) 0 = wl A j k ++ ((nw A (j * k) j : Nat) : Int) :: List.replicate (q - k - 1) 0; rw [show q - (k + 1) = q - k - 1 by omega]; simp)
    · skip
      have hge : k = q := by simp at hge; omega
      subst hge
      conv => whnf
      repeat (first
        | (refine And.intro ?_ ?_; (focus (first | omega | decide | exact Int.natCast_nonneg _ | ((repeat' refine And.intro ?_ ?_) <;> first | omega | exact Int.natCast_nonneg _ | (simp only [i64max]; omega) | (simp only [u8max]; omega) | (simp only [i64max, u8max, u16max, u32max, u64max]; omega) | (simp [mulSz, Cont.len, bne]; done) | (simp [mulSz, Cont.len, bne]; omega)))); conv => whnf)
        | (refine tst_in ?_ ?_; (focus (intro h_; exfalso; first | omega | ((try simp only [decide_eq_true_eq, decide_eq_false_iff_not] at h_); omega) | (simp [mulSz, Cont.len, bne] at h_; done) | (simp [mulSz, Cont.len, bne] at h_; omega))); intro _; conv => whnf)
        | (refine tst_in ?_ ?_; rotate_left; (focus (intro h_; exfalso; first | omega | ((try simp only [decide_eq_true_eq, decide_eq_false_iff_not] at h_); omega) | (simp [mulSz, Cont.len, bne] at h_; done) | (simp [mulSz, Cont.len, bne] at h_; omega))); intro _; conv => whnf))
      refine .inl ⟨[], [0, 1], ?_⟩
      conv => whnf
      repeat' (first | exact True.intro | rfl | refine And.intro ?_ ?_)
      all_goals (conv => whnf)
      repeat' (first | exact True.intro | rfl | refine And.intro ?_ ?_)
      all_goals (try (first | omega | exact True.intro | rfl | assumption | (change LE.le (α := Nat) _ _; first | omega | (simp only [hl]; omega)) | (simp only [hl]; done) | (simp only [hl]; omega) | (simp [hl]; done) | (simp [hl]; omega)))
end Go.Proofs.Ytkkianjpkipooaa

set_option linter.unusedVariables false
set_option linter.unusedSimpArgs false
namespace Go.Proofs.Ytkkianjpkipooaa
open Go Go.Fw
def badW (w : Int) (n : Nat) : Prop := w < 1 ∨ 16 < w ∨ (1 ≤ w ∧ w ≤ 16 ∧ 32768 < n) ∨ (1 ≤ w ∧ w ≤ 16 ∧ n ≤ 32768 ∧ (n : Int) % w ≠ 0)
set_option maxHeartbeats 0 in
set_option maxRecDepth 100000 in
theorem Words_far (A : List Bool) (w : Int) (n ca : Nat) (h : badW w n) (hN : n ≤ 140737488355328) :
    Fits Try.prog 13 ⟨[.slice 0 0 n ca, .int .i64 w], [.seg false (.bools A)], [rowI [] 1]⟩ := by
  have IW := isWidth_q w
  have IR := isRow_q A n ca
  refine fits_of_body (C := cfgs 1) (c := c13) (ts := [4, 5]) tok0 mixed0 (fun _ => none) (fun _ => none)
    Try.func13 (by kernel_rfl) (by kernel_rfl) (by kernel_rfl) (by kernel_rfl) rfl ?_
  rcases h with h | h | ⟨h1, h2, h⟩ | ⟨h1, h2, h3, h⟩
  · rw [decide_eq_false (show ¬ 1 ≤ w by omega), Bool.false_and] at IW
    conv => whnf
    repeat (first
      | (refine And.intro ?_ ?_; (focus (first | omega | decide | exact Int.natCast_nonneg _ | ((repeat' refine And.intro ?_ ?_) <;> first | omega | exact Int.natCast_nonneg _ | (simp only [i64max]; omega) | (simp only [u8max]; omega) | (simp only [i64max, u8max, u16max, u32max, u64max]; omega) | (simp [mulSz, Cont.len, bne]; done) | (simp [mulSz, Cont.len, bne]; omega)))); conv => whnf)
      | (refine tst_in ?_ ?_; (focus (intro h_; exfalso; first | omega | ((try simp only [decide_eq_true_eq, decide_eq_false_iff_not] at h_); omega) | (simp [mulSz, Cont.len, bne] at h_; done) | (simp [mulSz, Cont.len, bne] at h_; omega))); intro _; conv => whnf)
      | (refine tst_in ?_ ?_; rotate_left; (focus (intro h_; exfalso; first | omega | ((try simp only [decide_eq_true_eq, decide_eq_false_iff_not] at h_); omega) | (simp [mulSz, Cont.len, bne] at h_; done) | (simp [mulSz, Cont.len, bne] at h_; omega))); intro _; conv => whnf))
    refine ⟨_, [], IW, ?_⟩
    conv => whnf
    refine ⟨?_, ?_, ?_⟩
    · conv => whnf
      repeat' (first | exact True.intro | rfl | refine And.intro ?_ ?_)
      all_goals (conv => whnf)
      repeat' (first | exact True.intro | rfl | refine And.intro ?_ ?_)
      all_goals (try (first | rfl | omega | (simp; done) | (simp; omega)))
    · conv => whnf
      repeat' (first | exact True.intro | rfl | refine And.intro ?_ ?_)
      all_goals (conv => whnf)
      repeat' (first | exact True.intro | rfl | refine And.intro ?_ ?_)
      all_goals (try (first | rfl | omega | (simp; done) | (simp; omega)))
    conv => whnf
    conv => whnf
    repeat (first
      | (refine And.intro ?_ ?_; (focus (first | omega | decide | exact Int.natCast_nonneg _ | ((repeat' refine And.intro ?_ ?_) <;> first | omega | exact Int.natCast_nonneg _ | (simp only [i64max]; omega) | (simp only [u8max]; omega) | (simp only [i64max, u8max, u16max, u32max, u64max]; omega) | (simp [mulSz, Cont.len, bne]; done) | (simp [mulSz, Cont.len, bne]; omega)))); conv => whnf)
      | (refine tst_in ?_ ?_; (focus (intro h_; exfalso; first | omega | ((try simp only [decide_eq_true_eq, decide_eq_false_iff_not] at h_); omega) | (simp [mulSz, Cont.len, bne] at h_; done) | (simp [mulSz, Cont.len, bne] at h_; omega))); intro _; conv => whnf)
      | (refine tst_in ?_ ?_; rotate_left; (focus (intro h_; exfalso; first | omega | ((try simp only [decide_eq_true_eq, decide_eq_false_iff_not] at h_); omega) | (simp [mulSz, Cont.len, bne] at h_; done) | (simp [mulSz, Cont.len, bne] at h_; omega))); intro _; conv => whnf))
    refine .inl ⟨[], [0, 1], ?_⟩
    conv => whnf
    repeat' (first | exact True.intro | rfl | refine And.intro ?_ ?_)
    all_goals (conv => whnf)
    repeat' (first | exact True.intro | rfl | refine And.intro ?_ ?_)
    all_goals (try (first | omega | exact True.intro | rfl | assumption | (change LE.le (α := Nat) _ _; first | omega | (simp only []; omega)) | (simp only []; done) | (simp only []; omega) | (simp; done) | (simp; omega)))
  · rw [decide_eq_false (show ¬ w ≤ 16 by omega), Bool.and_false] at IW
    conv => whnf
    repeat (first
      | (refine And.intro ?_ ?_; (focus (first | omega | decide | exact Int.natCast_nonneg _ | ((repeat' refine And.intro ?_ ?_) <;> first | omega | exact Int.natCast_nonneg _ | (simp only [i64max]; omega) | (simp only [u8max]; omega) | (simp only [i64max, u8max, u16max, u32max, u64max]; omega) | (simp [mulSz, Cont.len, bne]; done) | (simp [mulSz, Cont.len, bne]; omega)))); conv => whnf)
      | (refine tst_in ?_ ?_; (focus (intro h_; exfalso; first | omega | ((try simp only [decide_eq_true_eq, decide_eq_false_iff_not] at h_); omega) | (simp [mulSz, Cont.len, bne] at h_; done) | (simp [mulSz, Cont.len, bne] at h_; omega))); intro _; conv => whnf)
      | (refine tst_in ?_ ?_; rotate_left; (focus (intro h_; exfalso; first | omega | ((try simp only [decide_eq_true_eq, decide_eq_false_iff_not] at h_); omega) | (simp [mulSz, Cont.len, bne] at h_; done) | (simp [mulSz, Cont.len, bne] at h_; omega))); intro _; conv => whnf))
    refine ⟨_, [], IW, ?_⟩
    conv => whnf
    refine ⟨?_, ?_, ?_⟩
    · conv => whnf
      repeat' (first | exact True.intro | rfl | refine And.intro ?_ ?_)
      all_goals (conv => whnf)
      repeat' (first | exact True.intro | rfl | refine And.intro ?_ ?_)
      all_goals (try (first | rfl | omega | (simp; done) | (simp; omega)))
    · conv => whnf
      repeat' (first | exact True.intro | rfl | refine And.intro ?_ ?_)
      all_goals (conv => whnf)
      repeat' (first | exact True.intro | rfl | refine And.intro ?_ ?_)
      all_goals (try (first | rfl | omega | (simp; done) | (simp; omega)))
    conv => whnf
    conv => whnf
    repeat (first
      | (refine And.intro ?_ ?_; (focus (first | omega | decide | exact Int.natCast_nonneg _ | ((repeat' refine And.intro ?_ ?_) <;> first | omega | exact Int.natCast_nonneg _ | (simp only [i64max]; omega) | (simp only [u8max]; omega) | (simp only [i64max, u8max, u16max, u32max, u64max]; omega) | (simp [mulSz, Cont.len, bne]; done) | (simp [mulSz, Cont.len, bne]; omega)))); conv => whnf)
      | (refine tst_in ?_ ?_; (focus (intro h_; exfalso; first | omega | ((try simp only [decide_eq_true_eq, decide_eq_false_iff_not] at h_); omega) | (simp [mulSz, Cont.len, bne] at h_; done) | (simp [mulSz, Cont.len, bne] at h_; omega))); intro _; conv => whnf)
      | (refine tst_in ?_ ?_; rotate_left; (focus (intro h_; exfalso; first | omega | ((try simp only [decide_eq_true_eq, decide_eq_false_iff_not] at h_); omega) | (simp [mulSz, Cont.len, bne] at h_; done) | (simp [mulSz, Cont.len, bne] at h_; omega))); intro _; conv => whnf))
    refine .inl ⟨[], [0, 1], ?_⟩
    conv => whnf
    repeat' (first | exact True.intro | rfl | refine And.intro ?_ ?_)
    all_goals (conv => whnf)
    repeat' (first | exact True.intro | rfl | refine And.intro ?_ ?_)
    all_goals (try (first | omega | exact True.intro | rfl | assumption | (change LE.le (α := Nat) _ _; first | omega | (simp only []; omega)) | (simp only []; done) | (simp only []; omega) | (simp; done) | (simp; omega)))
  · rw [decide_eq_true h1, decide_eq_true h2] at IW
    rw [decide_eq_false (show ¬ (n : Int) ≤ 32768 by omega)] at IR
    conv => whnf
    repeat (first
      | (refine And.intro ?_ ?_; (focus (first | omega | decide | exact Int.natCast_nonneg _ | ((repeat' refine And.intro ?_ ?_) <;> first | omega | exact Int.natCast_nonneg _ | (simp only [i64max]; omega) | (simp only [u8max]; omega) | (simp only [i64max, u8max, u16max, u32max, u64max]; omega) | (simp [mulSz, Cont.len, bne]; done) | (simp [mulSz, Cont.len, bne]; omega)))); conv => whnf)
      | (refine tst_in ?_ ?_; (focus (intro h_; exfalso; first | omega | ((try simp only [decide_eq_true_eq, decide_eq_false_iff_not] at h_); omega) | (simp [mulSz, Cont.len, bne] at h_; done) | (simp [mulSz, Cont.len, bne] at h_; omega))); intro _; conv => whnf)
      | (refine tst_in ?_ ?_; rotate_left; (focus (intro h_; exfalso; first | omega | ((try simp only [decide_eq_true_eq, decide_eq_false_iff_not] at h_); omega) | (simp [mulSz, Cont.len, bne] at h_; done) | (simp [mulSz, Cont.len, bne] at h_; omega))); intro _; conv => whnf))
    refine ⟨_, [], IW, ?_⟩
    conv => whnf
    refine ⟨?_, ?_, ?_⟩
    · conv => whnf
      repeat' (first | exact True.intro | rfl | refine And.intro ?_ ?_)
      all_goals (conv => whnf)
      repeat' (first | exact True.intro | rfl | refine And.intro ?_ ?_)
      all_goals (try (first | rfl | omega | (simp; done) | (simp; omega)))
    · conv => whnf
      repeat' (first | exact True.intro | rfl | refine And.intro ?_ ?_)
      all_goals (conv => whnf)
      repeat' (first | exact True.intro | rfl | refine And.intro ?_ ?_)
      all_goals (try (first | rfl | omega | (simp; done) | (simp; omega)))
    conv => whnf
    conv => whnf
    repeat (first
      | (refine And.intro ?_ ?_; (focus (first | omega | decide | exact Int.natCast_nonneg _ | ((repeat' refine And.intro ?_ ?_) <;> first | omega | exact Int.natCast_nonneg _ | (simp only [i64max]; omega) | (simp only [u8max]; omega) | (simp only [i64max, u8max, u16max, u32max, u64max]; omega) | (simp [mulSz, Cont.len, bne]; done) | (simp [mulSz, Cont.len, bne]; omega)))); conv => whnf)
      | (refine tst_in ?_ ?_; (focus (intro h_; exfalso; first | omega | ((try simp only [decide_eq_true_eq, decide_eq_false_iff_not] at h_); omega) | (simp [mulSz, Cont.len, bne] at h_; done) | (simp [mulSz, Cont.len, bne] at h_; omega))); intro _; conv => whnf)
      | (refine tst_in ?_ ?_; rotate_left; (focus (intro h_; exfalso; first | omega | ((try simp only [decide_eq_true_eq, decide_eq_false_iff_not] at h_); omega) | (simp [mulSz, Cont.len, bne] at h_; done) | (simp [mulSz, Cont.len, bne] at h_; omega))); intro _; conv => whnf))
    refine ⟨_, [0], IR, ?_⟩
    conv => whnf
    refine ⟨?_, ?_, ?_⟩
    · conv => whnf
      repeat' (first | exact True.intro | rfl | refine And.intro ?_ ?_)
      all_goals (conv => whnf)
      repeat' (first | exact True.intro | rfl | refine And.intro ?_ ?_)
      all_goals (try (first | rfl | omega | (simp; done) | (simp; omega)))
    · conv => whnf
      repeat' (first | exact True.intro | rfl | refine And.intro ?_ ?_)
      all_goals (conv => whnf)
      repeat' (first | exact True.intro | rfl | refine And.intro ?_ ?_)
      all_goals (try (first | rfl | omega | (simp; done) | (simp; omega)))
    conv => whnf
    conv => whnf
    repeat (first
      | (refine And.intro ?_ ?_; (focus (first | omega | decide | exact Int.natCast_nonneg _ | ((repeat' refine And.intro ?_ ?_) <;> first | omega | exact Int.natCast_nonneg _ | (simp only [i64max]; omega) | (simp only [u8max]; omega) | (simp only [i64max, u8max, u16max, u32max, u64max]; omega) | (simp [mulSz, Cont.len, bne]; done) | (simp [mulSz, Cont.len, bne]; omega)))); conv => whnf)
      | (refine tst_in ?_ ?_; (focus (intro h_; exfalso; first | omega | ((try simp only [decide_eq_true_eq, decide_eq_false_iff_not] at h_); omega) | (simp [mulSz, Cont.len, bne] at h_; done) | (simp [mulSz, Cont.len, bne] at h_; omega))); intro _; conv => whnf)
      | (refine tst_in ?_ ?_; rotate_left; (focus (intro h_; exfalso; first | omega | ((try simp only [decide_eq_true_eq, decide_eq_false_iff_not] at h_); omega) | (simp [mulSz, Cont.len, bne] at h_; done) | (simp [mulSz, Cont.len, bne] at h_; omega))); intro _; conv => whnf))
    refine .inl ⟨[], [0, 1], ?_⟩
    conv => whnf
    repeat' (first | exact True.intro | rfl | refine And.intro ?_ ?_)
    all_goals (conv => whnf)
    repeat' (first | exact True.intro | rfl | refine And.intro ?_ ?_)
    all_goals (try (first | omega | exact True.intro | rfl | assumption | (change LE.le (α := Nat) _ _; first | omega | (simp only []; omega)) | (simp only []; done) | (simp only []; omega) | (simp; done) | (simp; omega)))
  · rw [decide_eq_true h1, decide_eq_true h2] at IW
    rw [decide_eq_true (show (n : Int) ≤ 32768 by omega)] at IR
    conv => whnf
    repeat (first
      | (refine And.intro ?_ ?_; (focus (first | omega | decide | exact Int.natCast_nonneg _ | ((repeat' refine And.intro ?_ ?_) <;> first | omega | exact Int.natCast_nonneg _ | (simp only [i64max]; omega) | (simp only [u8max]; omega) | (simp only [i64max, u8max, u16max, u32max, u64max]; omega) | (simp [mulSz, Cont.len, bne]; done) | (simp [mulSz, Cont.len, bne]; omega)))); conv => whnf)
      | (refine tst_in ?_ ?_; (focus (intro h_; exfalso; first | omega | ((try simp only [decide_eq_true_eq, decide_eq_false_iff_not] at h_); omega) | (simp [mulSz, Cont.len, bne] at h_; done) | (simp [mulSz, Cont.len, bne] at h_; omega))); intro _; conv => whnf)
      | (refine tst_in ?_ ?_; rotate_left; (focus (intro h_; exfalso; first | omega | ((try simp only [decide_eq_true_eq, decide_eq_false_iff_not] at h_); omega) | (simp [mulSz, Cont.len, bne] at h_; done) | (simp [mulSz, Cont.len, bne] at h_; omega))); intro _; conv => whnf))
    refine ⟨_, [], IW, ?_⟩
    conv => whnf
    refine ⟨?_, ?_, ?_⟩
    · conv => whnf
      repeat' (first | exact True.intro | rfl | refine And.intro ?_ ?_)
      all_goals (conv => whnf)
      repeat' (first | exact True.intro | rfl | refine And.intro ?_ ?_)
      all_goals (try (first | rfl | omega | (simp; done) | (simp; omega)))
    · conv => whnf
      repeat' (first | exact True.intro | rfl | refine And.intro ?_ ?_)
      all_goals (conv => whnf)
      repeat' (first | exact True.intro | rfl | refine And.intro ?_ ?_)
      all_goals (try (first | rfl | omega | (simp; done) | (simp; omega)))
    conv => whnf
    conv => whnf
    repeat (first
      | (refine And.intro ?_ ?_; (focus (first | omega | decide | exact Int.natCast_nonneg _ | ((repeat' refine And.intro ?_ ?_) <;> first | omega | exact Int.natCast_nonneg _ | (simp only [i64max]; omega) | (simp only [u8max]; omega) | (simp only [i64max, u8max, u16max, u32max, u64max]; omega) | (simp [mulSz, Cont.len, bne]; done) | (simp [mulSz, Cont.len, bne]; omega)))); conv => whnf)
      | (refine tst_in ?_ ?_; (focus (intro h_; exfalso; first | omega | ((try simp only [decide_eq_true_eq, decide_eq_false_iff_not] at h_); omega) | (simp [mulSz, Cont.len, bne] at h_; done) | (simp [mulSz, Cont.len, bne] at h_; omega))); intro _; conv => whnf)
      | (refine tst_in ?_ ?_; rotate_left; (focus (intro h_; exfalso; first | omega | ((try simp only [decide_eq_true_eq, decide_eq_false_iff_not] at h_); omega) | (simp [mulSz, Cont.len, bne] at h_; done) | (simp [mulSz, Cont.len, bne] at h_; omega))); intro _; conv => whnf))
    refine ⟨_, [0], IR, ?_⟩
    conv => whnf
    refine ⟨?_, ?_, ?_⟩
    · conv => whnf
      repeat' (first | exact True.intro | rfl | refine And.intro ?_ ?_)
      all_goals (conv => whnf)
      repeat' (first | exact True.intro | rfl | refine And.intro ?_ ?_)
      all_goals (try (first | rfl | omega | (simp; done) | (simp; omega)))
    · conv => whnf
      repeat' (first | exact True.intro | rfl | refine And.intro ?_ ?_)
      all_goals (conv => whnf)
      repeat' (first | exact True.intro | rfl | refine And.intro ?_ ?_)
      all_goals (try (first | rfl | omega | (simp; done) | (simp; omega)))
    conv => whnf
    conv => whnf
    repeat (first
      | (refine And.intro ?_ ?_; (focus (first | omega | decide | exact Int.natCast_nonneg _ | ((repeat' refine And.intro ?_ ?_) <;> first | omega | exact Int.natCast_nonneg _ | (simp only [i64max]; omega) | (simp only [u8max]; omega) | (simp only [i64max, u8max, u16max, u32max, u64max]; omega) | (simp [mulSz, Cont.len, bne, h]; done) | (simp [mulSz, Cont.len, bne, h]; omega)))); conv => whnf)
      | (refine tst_in ?_ ?_; (focus (intro h_; exfalso; first | omega | ((try simp only [decide_eq_true_eq, decide_eq_false_iff_not] at h_); omega) | (simp [mulSz, Cont.len, bne, h] at h_; done) | (simp [mulSz, Cont.len, bne, h] at h_; omega))); intro _; conv => whnf)
      | (refine tst_in ?_ ?_; rotate_left; (focus (intro h_; exfalso; first | omega | ((try simp only [decide_eq_true_eq, decide_eq_false_iff_not] at h_); omega) | (simp [mulSz, Cont.len, bne, h] at h_; done) | (simp [mulSz, Cont.len, bne, h] at h_; omega))); intro _; conv => whnf))
    refine .inl ⟨[], [0, 1], ?_⟩
    conv => whnf
    repeat' (first | exact True.intro | rfl | refine And.intro ?_ ?_)
    all_goals (conv => whnf)
    repeat' (first | exact True.intro | rfl | refine And.intro ?_ ?_)
    all_goals (try (first | omega | exact True.intro | rfl | assumption | (change LE.le (α := Nat) _ _; first | omega | (simp only []; omega)) | (simp only []; done) | (simp only []; omega) | (simp; done) | (simp; omega)))
noncomputable def c14 : Code := (Try.f14.body).getD .skip
set_option maxHeartbeats 0 in
set_option maxRecDepth 100000 in
theorem rWords_far (A : List Bool) (w : Int) (n ca : Nat) (h : badW w n) (hN : n ≤ 140737488355328) :
    Fits Try.prog 14 ⟨[.slice 0 0 n ca, .int .i64 w], [.seg false (.bools A)], [rowI [] 1]⟩ := by
  refine fits_of_body (C := cfgs 1) (c := c14) (ts := [4, 5]) tok0 mixed0 (fun _ => none) (fun _ => none)
    Try.func14 (by kernel_rfl) (by kernel_rfl) (by kernel_rfl) (by kernel_rfl) rfl ?_
  rcases h with h | h | ⟨h1, h2, h⟩ | ⟨h1, h2, h3, h⟩
  · conv => whnf
    repeat (first
      | (refine And.intro ?_ ?_; (focus (first | omega | decide | exact Int.natCast_nonneg _ | ((repeat' refine And.intro ?_ ?_) <;> first | omega | exact Int.natCast_nonneg _ | (simp only [i64max]; omega) | (simp only [u8max]; omega) | (simp only [i64max, u8max, u16max, u32max, u64max]; omega) | (simp [mulSz, Cont.len, bne]; done) | (simp [mulSz, Cont.len, bne]; omega)))); conv => whnf)
      | (refine tst_in ?_ ?_; (focus (intro h_; exfalso; first | omega | ((try simp only [decide_eq_true_eq, decide_eq_false_iff_not] at h_); omega) | (simp [mulSz, Cont.len, bne] at h_; done) | (simp [mulSz, Cont.len, bne] at h_; omega))); intro _; conv => whnf)
      | (refine tst_in ?_ ?_; rotate_left; (focus (intro h_; exfalso; first | omega | ((try simp only [decide_eq_true_eq, decide_eq_false_iff_not] at h_); omega) | (simp [mulSz, Cont.len, bne] at h_; done) | (simp [mulSz, Cont.len, bne] at h_; omega))); intro _; conv => whnf))
    refine .inl ⟨[], [0, 1], ?_⟩
    conv => whnf
    repeat' (first | exact True.intro | rfl | refine And.intro ?_ ?_)
    all_goals (conv => whnf)
    repeat' (first | exact True.intro | rfl | refine And.intro ?_ ?_)
    all_goals (try (first | omega | exact True.intro | rfl | assumption | (change LE.le (α := Nat) _ _; first | omega | (simp only []; omega)) | (simp only []; done) | (simp only []; omega) | (simp; done) | (simp; omega)))
  · conv => whnf
    repeat (first
      | (refine And.intro ?_ ?_; (focus (first | omega | decide | exact Int.natCast_nonneg _ | ((repeat' refine And.intro ?_ ?_) <;> first | omega | exact Int.natCast_nonneg _ | (simp only [i64max]; omega) | (simp only [u8max]; omega) | (simp only [i64max, u8max, u16max, u32max, u64max]; omega) | (simp [mulSz, Cont.len, bne]; done) | (simp [mulSz, Cont.len, bne]; omega)))); conv => whnf)
      | (refine tst_in ?_ ?_; (focus (intro h_; exfalso; first | omega | ((try simp only [decide_eq_true_eq, decide_eq_false_iff_not] at h_); omega) | (simp [mulSz, Cont.len, bne] at h_; done) | (simp [mulSz, Cont.len, bne] at h_; omega))); intro _; conv => whnf)
      | (refine tst_in ?_ ?_; rotate_left; (focus (intro h_; exfalso; first | omega | ((try simp only [decide_eq_true_eq, decide_eq_false_iff_not] at h_); omega) | (simp [mulSz, Cont.len, bne] at h_; done) | (simp [mulSz, Cont.len, bne] at h_; omega))); intro _; conv => whnf))
    refine .inl ⟨[], [0, 1], ?_⟩
    conv => whnf
    repeat' (first | exact True.intro | rfl | refine And.intro ?_ ?_)
    all_goals (conv => whnf)
    repeat' (first | exact True.intro | rfl | refine And.intro ?_ ?_)
    all_goals (try (first | omega | exact True.intro | rfl | assumption | (change LE.le (α := Nat) _ _; first | omega | (simp only []; omega)) | (simp only []; done) | (simp only []; omega) | (simp; done) | (simp; omega)))
  · conv => whnf
    repeat (first
      | (refine And.intro ?_ ?_; (focus (first | omega | decide | exact Int.natCast_nonneg _ | ((repeat' refine And.intro ?_ ?_) <;> first | omega | exact Int.natCast_nonneg _ | (simp only [i64max]; omega) | (simp only [u8max]; omega) | (simp only [i64max, u8max, u16max, u32max, u64max]; omega) | (simp [mulSz, Cont.len, bne]; done) | (simp [mulSz, Cont.len, bne]; omega)))); conv => whnf)
      | (refine tst_in ?_ ?_; (focus (intro h_; exfalso; first | omega | ((try simp only [decide_eq_true_eq, decide_eq_false_iff_not] at h_); omega) | (simp [mulSz, Cont.len, bne] at h_; done) | (simp [mulSz, Cont.len, bne] at h_; omega))); intro _; conv => whnf)
      | (refine tst_in ?_ ?_; rotate_left; (focus (intro h_; exfalso; first | omega | ((try simp only [decide_eq_true_eq, decide_eq_false_iff_not] at h_); omega) | (simp [mulSz, Cont.len, bne] at h_; done) | (simp [mulSz, Cont.len, bne] at h_; omega))); intro _; conv => whnf))
    refine .inl ⟨[], [0, 1], ?_⟩
    conv => whnf
    repeat' (first | exact True.intro | rfl | refine And.intro ?_ ?_)
    all_goals (conv => whnf)
    repeat' (first | exact True.intro | rfl | refine And.intro ?_ ?_)
    all_goals (try (first | omega | exact True.intro | rfl | assumption | (change LE.le (α := Nat) _ _; first | omega | (simp only []; omega)) | (simp only []; done) | (simp only []; omega) | (simp; done) | (simp; omega)))
  · conv => whnf
    repeat (first
      | (refine And.intro ?_ ?_; (focus (first | omega | decide | exact Int.natCast_nonneg _ | ((repeat' refine And.intro ?_ ?_) <;> first | omega | exact Int.natCast_nonneg _ | (simp only [i64max]; omega) | (simp only [u8max]; omega) | (simp only [i64max, u8max, u16max, u32max, u64max]; omega) | (simp [mulSz, Cont.len, bne, h]; done) | (simp [mulSz, Cont.len, bne, h]; omega)))); conv => whnf)
      | (refine tst_in ?_ ?_; (focus (intro h_; exfalso; first | omega | ((try simp only [decide_eq_true_eq, decide_eq_false_iff_not] at h_); omega) | (simp [mulSz, Cont.len, bne, h] at h_; done) | (simp [mulSz, Cont.len, bne, h] at h_; omega))); intro _; conv => whnf)
      | (refine tst_in ?_ ?_; rotate_left; (focus (intro h_; exfalso; first | omega | ((try simp only [decide_eq_true_eq, decide_eq_false_iff_not] at h_); omega) | (simp [mulSz, Cont.len, bne, h] at h_; done) | (simp [mulSz, Cont.len, bne, h] at h_; omega))); intro _; conv => whnf))
    refine .inl ⟨[], [0, 1], ?_⟩
    conv => whnf
    repeat' (first | exact True.intro | rfl | refine And.intro ?_ ?_)
    all_goals (conv => whnf)
    repeat' (first | exact True.intro | rfl | refine And.intro ?_ ?_)
    all_goals (try (first | omega | exact True.intro | rfl | assumption | (change LE.le (α := Nat) _ _; first | omega | (simp only []; omega)) | (simp only []; done) | (simp only []; omega) | (simp; done) | (simp; omega)))
def st14 (A : List Bool) (W n ca k : Nat) (x j : AV) (t : List Int) : St := ⟨anyTo 58 [.slice 0 0 n ca, .int .i64 W, .any, .any, .any, .any, .slice 1 0 k (k + t.length), .int .i64 (W * k : Nat), x, j], [.seg false (.bools A), .seg true (.ints .i64 (wl A W k ++ t))]⟩
def inv14 (A : List Bool) (W n ca q : Nat) : LInv := ⟨Nat × List Int, fun p => st14 A W n ca p.1 .any .any p.2, fun p => p.1 ≤ q, fun p => q - p.1⟩
def inv14b (A : List Bool) (W n ca : Nat) (st : St) : LInv := ⟨Nat × List Int, fun p => st14 A W n ca (lenAt st 6) (.int .i64 (nw A (W * lenAt st 6) p.1 * 2 ^ (W - p.1) : Nat)) (.int .i64 p.1) p.2, fun p => p.1 ≤ W, fun p => W - p.1⟩
def cfg14 (A : List Bool) (W n ca : Nat) : Cfg := { T := tys0, sgn := fun _ => false, wr := fun _ => false, k := 1, q := qf, dep := fun | 9 => some (inv14b A W n ca) | _ => none }
set_option maxHeartbeats 0 in
set_option maxRecDepth 100000 in
theorem rWords_f (A : List Bool) (W n ca q : Nat) (hA : n ≤ A.length) (hca : n ≤ ca) (h1 : 1 ≤ W) (h2 : W ≤ 16) (hn : n ≤ 32768) (hq : n = W * q) :
    Fits Try.prog 14 ⟨[.slice 0 0 n ca, .int .i64 W], [.seg false (.bools A)], [rowI (wl A W q) 0]⟩ := by
  have hl := wl_len A W
  have hr : (n : Int) % (W : Int) = 0 := by rw [hq]; simp
  have hqn : q ≤ n := by rw [hq]; exact Nat.le_mul_of_pos_left q (by omega)
  refine fits_of_body (C := cfg14 A W n ca) (c := c14) (ts := [4, 5]) tok0 mixed0 (fun | 5 => some (inv14 A W n ca q) | _ => none) (fun _ => none)
    Try.func14 (by kernel_rfl) (by kernel_rfl) (by kernel_rfl) (by kernel_rfl) rfl ?_
  conv => whnf
  repeat (first
    | (refine And.intro ?_ ?_; (focus (first | omega | decide | exact Int.natCast_nonneg _ | ((repeat' refine And.intro ?_ ?_) <;> first | omega | exact Int.natCast_nonneg _ | (simp only [i64max]; omega) | (simp only [u8max]; omega) | (simp only [i64max, u8max, u16max, u32max, u64max]; omega) | (simp [mulSz, Cont.len, bne, hr]; done) | (simp [mulSz, Cont.len, bne, hr]; omega)))); conv => whnf)
    | (refine tst_in ?_ ?_; (focus (intro h_; exfalso; first | omega | ((try simp only [decide_eq_true_eq, decide_eq_false_iff_not] at h_); omega) | (simp [mulSz, Cont.len, bne, hr] at h_; done) | (simp [mulSz, Cont.len, bne, hr] at h_; omega))); intro _; conv => whnf)
    | (refine tst_in ?_ ?_; rotate_left; (focus (intro h_; exfalso; first | omega | ((try simp only [decide_eq_true_eq, decide_eq_false_iff_not] at h_); omega) | (simp [mulSz, Cont.len, bne, hr] at h_; done) | (simp [mulSz, Cont.len, bne, hr] at h_; omega))); intro _; conv => whnf))
  refine ⟨⟨[0, 1], ((0, []) : Nat × List Int), ?_, Nat.zero_le _⟩, ?_⟩
  · conv => whnf
    repeat' (first | exact True.intro | rfl | refine And.intro ?_ ?_)
    all_goals (conv => whnf)
    repeat' (first | exact True.intro | rfl | refine And.intro ?_ ?_)
    all_goals (try (first | omega | exact True.intro | rfl | assumption | (change LE.le (α := Nat) _ _; first | omega | (simp only [wl]; omega)) | (simp only [wl]; done) | (simp only [wl]; omega) | (simp [wl]; done) | (simp [wl]; omega)))
  · rintro ⟨k, t⟩ hk
    have hk : k ≤ q := hk
    have hlk := hl k
    have hm0 : W * k ≤ W * q := Nat.mul_le_mul_left _ hk
    show forceSt (st14 A W n ca k .any .any t) _
    conv => whnf
    refine tst_in (fun hlt => ?_) (fun hge => ?_)
    · skip
      have hlt : k < q := by
        have : W * k < n := by simp at hlt; omega
        rw [hq] at this
        exact Nat.lt_of_mul_lt_mul_left this
      have hm1 : W * (k + 1) ≤ W * q := Nat.mul_le_mul_left _ hlt
      have hm2 : W * (k + 1) = W * k + W := Nat.mul_succ _ _
      conv => whnf
      repeat (first
        | (refine And.intro ?_ ?_; (focus (first | omega | decide | exact Int.natCast_nonneg _ | ((repeat' refine And.intro ?_ ?_) <;> first | omega | exact Int.natCast_nonneg _ | (simp only [i64max]; omega) | (simp only [u8max]; omega) | (simp only [i64max, u8max, u16max, u32max, u64max]; omega) | (simp [mulSz, Cont.len, bne]; done) | (simp [mulSz, Cont.len, bne]; omega)))); conv => whnf)
        | (refine tst_in ?_ ?_; (focus (intro h_; exfalso; first | omega | ((try simp only [decide_eq_true_eq, decide_eq_false_iff_not] at h_); omega) | (simp [mulSz, Cont.len, bne] at h_; done) | (simp [mulSz, Cont.len, bne] at h_; omega))); intro _; conv => whnf)
        | (refine tst_in ?_ ?_; rotate_left; (focus (intro h_; exfalso; first | omega | ((try simp only [decide_eq_true_eq, decide_eq_false_iff_not] at h_); omega) | (simp [mulSz, Cont.len, bne] at h_; done) | (simp [mulSz, Cont.len, bne] at h_; omega))); intro _; conv => whnf))
      refine ⟨⟨[0, 1], ((0, t) : Nat × List Int), ?_, Nat.zero_le _⟩, ?_⟩
      · show stLe _ _ (st14 A W n ca k (.int .i64 (nw A (W * k) 0 * 2 ^ (W - 0) : Nat)) (.int .i64 (0 : Nat)) t) _
        conv => whnf
        repeat' (first | exact True.intro | rfl | refine And.intro ?_ ?_)
        all_goals (conv => whnf)
        repeat' (first | exact True.intro | rfl | refine And.intro ?_ ?_)
        all_goals (try (first | omega | exact True.intro | rfl | assumption | (change LE.le (α := Nat) _ _; first | omega | (simp only []; omega)) | (simp only []; done) | (simp only []; omega) | (simp; done) | (simp; omega)))
        all_goals (show ((nw A (W * k) 0 * 2 ^ (W - 0) : Nat) : Int) = 0; simp [nw, part, numB])
      · rintro ⟨j, t⟩ hj
        have hj : j ≤ W := hj
        show forceSt (st14 A W n ca k (.int .i64 (nw A (W * k) j * 2 ^ (W - j) : Nat)) (.int .i64 j) t) _
        have hnl := nw_lt (A := A) (o := W * k) (j := j) (by omega) (by omega)
        conv => whnf
        refine tst_in (fun hjt => ?_) (fun hjt => ?_)
        · skip
          have hjt : j < W := by simp at hjt; omega
          have hns := nw_succ (A := A) (o := W * k) (j := j) (by omega)
          have PW := power_q (W - 1 - j) (by omega)
          have hp1 : 2 ^ (W - j) = 2 * 2 ^ (W - 1 - j) := by rw [← Nat.pow_succ']; congr 1; omega
          have hp2 : 2 ^ (W - 1 - j) ≤ 2 ^ 16 := Nat.pow_le_pow_right (by decide) (by omega)
          have hv : nw A (W * k) j * 2 ^ (W - j) ≤ 65536 * 65536 * 2 := by
            rw [hp1]
            calc nw A (W * k) j * (2 * 2 ^ (W - 1 - j)) ≤ 65536 * (2 * 65536) := Nat.mul_le_mul (by omega) (by omega)
              _ = _ := by decide
          have hnv : nw A (W * k) (j + 1) * 2 ^ (W - (j + 1)) = nw A (W * k) j * 2 ^ (W - j) + (A.getD (W * k + j) false).toNat * 2 ^ (W - 1 - j) := by
            rw [hns, hp1, show W - (j + 1) = W - 1 - j by omega, Nat.add_mul]
            congr 1
            rw [Nat.mul_comm 2, Nat.mul_assoc]
          generalize nw A (W * k) j * 2 ^ (W - j) = v at *
          conv => whnf
          repeat (first
            | (refine And.intro ?_ ?_; (focus (first | omega | decide | exact Int.natCast_nonneg _ | ((repeat' refine And.intro ?_ ?_) <;> first | omega | exact Int.natCast_nonneg _ | (simp only [i64max]; omega) | (simp only [u8max]; omega) | (simp only [i64max, u8max, u16max, u32max, u64max]; omega) | (simp [mulSz, Cont.len, bne]; done) | (simp [mulSz, Cont.len, bne]; omega)))); conv => whnf)
            | (refine tst_in ?_ ?_; (focus (intro h_; exfalso; first | omega | ((try simp only [decide_eq_true_eq, decide_eq_false_iff_not] at h_); omega) | (simp [mulSz, Cont.len, bne] at h_; done) | (simp [mulSz, Cont.len, bne] at h_; omega))); intro _; conv => whnf)
            | (refine tst_in ?_ ?_; rotate_left; (focus (intro h_; exfalso; first | omega | ((try simp only [decide_eq_true_eq, decide_eq_false_iff_not] at h_); omega) | (simp [mulSz, Cont.len, bne] at h_; done) | (simp [mulSz, Cont.len, bne] at h_; omega))); intro _; conv => whnf))
          rw [show 0 + (((W * k : Nat) : Int) + (j : Int)).toNat = W * k + j by omega]
          refine tst_in (fun hb => ?_) (fun hb => ?_)
          · skip
            rw [hb] at hnv
            conv => whnf
            repeat (first
              | (refine And.intro ?_ ?_; (focus (first | omega | decide | exact Int.natCast_nonneg _ | ((repeat' refine And.intro ?_ ?_) <;> first | omega | exact Int.natCast_nonneg _ | (simp only [i64max]; omega) | (simp only [u8max]; omega) | (simp only [i64max, u8max, u16max, u32max, u64max]; omega) | (simp [mulSz, Cont.len, bne]; done) | (simp [mulSz, Cont.len, bne]; omega)))); conv => whnf)
              | (refine tst_in ?_ ?_; (focus (intro h_; exfalso; first | omega | ((try simp only [decide_eq_true_eq, decide_eq_false_iff_not] at h_); omega) | (simp [mulSz, Cont.len, bne] at h_; done) | (simp [mulSz, Cont.len, bne] at h_; omega))); intro _; conv => whnf)
              | (refine tst_in ?_ ?_; rotate_left; (focus (intro h_; exfalso; first | omega | ((try simp only [decide_eq_true_eq, decide_eq_false_iff_not] at h_); omega) | (simp [mulSz, Cont.len, bne] at h_; done) | (simp [mulSz, Cont.len, bne] at h_; omega))); intro _; conv => whnf))
            refine ⟨_, [], PW, ?_⟩
            conv => whnf
            refine ⟨?_, ?_, ?_⟩
            · conv => whnf
              repeat' (first | exact True.intro | rfl | refine And.intro ?_ ?_)
              all_goals (conv => whnf)
              repeat' (first | exact True.intro | rfl | refine And.intro ?_ ?_)
              all_goals (try (first | rfl | omega | (simp; done) | (simp; omega)))
            · conv => whnf
              repeat' (first | exact True.intro | rfl | refine And.intro ?_ ?_)
              all_goals (conv => whnf)
              repeat' (first | exact True.intro | rfl | refine And.intro ?_ ?_)
              all_goals (try (first | rfl | omega | (simp; done) | (simp; omega)))
            conv => whnf
            conv => whnf
            repeat (first
              | (refine And.intro ?_ ?_; (focus (first | omega | decide | exact Int.natCast_nonneg _ | ((repeat' refine And.intro ?_ ?_) <;> first | omega | exact Int.natCast_nonneg _ | (simp only [i64max]; omega) | (simp only [u8max]; omega) | (simp only [i64max, u8max, u16max, u32max, u64max]; omega) | (simp [mulSz, Cont.len, bne]; done) | (simp [mulSz, Cont.len, bne]; omega)))); conv => whnf)
              | (refine tst_in ?_ ?_; (focus (intro h_; exfalso; first | omega | ((try simp only [decide_eq_true_eq, decide_eq_false_iff_not] at h_); omega) | (simp [mulSz, Cont.len, bne] at h_; done) | (simp [mulSz, Cont.len, bne] at h_; omega))); intro _; conv => whnf)
              | (refine tst_in ?_ ?_; rotate_left; (focus (intro h_; exfalso; first | omega | ((try simp only [decide_eq_true_eq, decide_eq_false_iff_not] at h_); omega) | (simp [mulSz, Cont.len, bne] at h_; done) | (simp [mulSz, Cont.len, bne] at h_; omega))); intro _; conv => whnf))
            refine ⟨[0, 1], ((j + 1, t) : Nat × List Int), ?_, (by show j + 1 ≤ W; omega), (by show W - (j + 1) < W - j; omega)⟩
            show stLe _ _ (st14 A W n ca k (.int .i64 (nw A (W * k) (j + 1) * 2 ^ (W - (j + 1)) : Nat)) (.int .i64 (j + 1 : Nat)) t) _
            rw [hnv]
            conv => whnf
            repeat' (first | exact True.intro | rfl | refine And.intro ?_ ?_)
            all_goals (conv => whnf)
            repeat' (first | exact True.intro | rfl | refine And.intro ?_ ?_)
            all_goals (try (first | omega | exact True.intro | rfl | assumption | (change LE.le (α := Nat) _ _; first | omega | (simp only []; omega)) | (simp only []; done) | (simp only []; omega) | (simp; done) | (simp; omega)))
          · skip
            rw [hb] at hnv
            conv => whnf
            repeat (first
              | (refine And.intro ?_ ?_; (focus (first | omega | decide | exact Int.natCast_nonneg _ | ((repeat' refine And.intro ?_ ?_) <;> first | omega | exact Int.natCast_nonneg _ | (simp only [i64max]; omega) | (simp only [u8max]; omega) | (simp only [i64max, u8max, u16max, u32max, u64max]; omega) | (simp [mulSz, Cont.len, bne]; done) | (simp [mulSz, Cont.len, bne]; omega)))); conv => whnf)
              | (refine tst_in ?_ ?_; (focus (intro h_; exfalso; first | omega | ((try simp only [decide_eq_true_eq, decide_eq_false_iff_not] at h_); omega) | (simp [mulSz, Cont.len, bne] at h_; done) | (simp [mulSz, Cont.len, bne] at h_; omega))); intro _; conv => whnf)
              | (refine tst_in ?_ ?_; rotate_left; (focus (intro h_; exfalso; first | omega | ((try simp only [decide_eq_true_eq, decide_eq_false_iff_not] at h_); omega) | (simp [mulSz, Cont.len, bne] at h_; done) | (simp [mulSz, Cont.len, bne] at h_; omega))); intro _; conv => whnf))
            refine ⟨[0, 1], ((j + 1, t) : Nat × List Int), ?_, (by show j + 1 ≤ W; omega), (by show W - (j + 1) < W - j; omega)⟩
            show stLe _ _ (st14 A W n ca k (.int .i64 (nw A (W * k) (j + 1) * 2 ^ (W - (j + 1)) : Nat)) (.int .i64 (j + 1 : Nat)) t) _
            rw [hnv]
            conv => whnf
            repeat' (first | exact True.intro | rfl | refine And.intro ?_ ?_)
            all_goals (conv => whnf)
            repeat' (first | exact True.intro | rfl | refine And.intro ?_ ?_)
            all_goals (try (first | omega | exact True.intro | rfl | assumption | (change LE.le (α := Nat) _ _; first | omega | (simp only []; omega)) | (simp only []; done) | (simp only []; omega) | (simp; done) | (simp; omega)))
        · skip
          have hjt : j = W := by simp at hjt; omega
          subst hjt
          conv => whnf
          repeat (first
            | (refine And.intro ?_ ?_; (focus (first | omega | decide | exact Int.natCast_nonneg _ | ((repeat' refine And.intro ?_ ?_) <;> first | omega | exact Int.natCast_nonneg _ | (simp only [i64max]; omega) | (simp only [u8max]; omega) | (simp only [i64max, u8max, u16max, u32max, u64max]; omega) | (simp [mulSz, Cont.len, bne, hlk]; done) | (simp [mulSz, Cont.len, bne, hlk]; omega)))); conv => whnf)
            | (refine tst_in ?_ ?_; (focus (intro h_; exfalso; first | omega | ((try simp only [decide_eq_true_eq, decide_eq_false_iff_not] at h_); omega) | (simp [mulSz, Cont.len, bne, hlk] at h_; done) | (simp [mulSz, Cont.len, bne, hlk] at h_; omega))); intro _; conv => whnf)
            | (refine tst_in ?_ ?_; rotate_left; (focus (intro h_; exfalso; first | omega | ((try simp only [decide_eq_true_eq, decide_eq_false_iff_not] at h_); omega) | (simp [mulSz, Cont.len, bne, hlk] at h_; done) | (simp [mulSz, Cont.len, bne, hlk] at h_; omega))); intro _; conv => whnf))
          intro (t2 : List Int)
          conv => whnf
          repeat (first
            | (refine And.intro ?_ ?_; (focus (first | omega | decide | exact Int.natCast_nonneg _ | ((repeat' refine And.intro ?_ ?_) <;> first | omega | exact Int.natCast_nonneg _ | (simp only [i64max]; omega) | (simp only [u8max]; omega) | (simp only [i64max, u8max, u16max, u32max, u64max]; omega) | (simp [mulSz, Cont.len, bne]; done) | (simp [mulSz, Cont.len, bne]; omega)))); conv => whnf)
            | (refine tst_in ?_ ?_; (focus (intro h_; exfalso; first | omega | ((try simp only [decide_eq_true_eq, decide_eq_false_iff_not] at h_); omega) | (simp [mulSz, Cont.len, bne] at h_; done) | (simp [mulSz, Cont.len, bne] at h_; omega))); intro _; conv => whnf)
            | (refine tst_in ?_ ?_; rotate_left; (focus (intro h_; exfalso; first | omega | ((try simp only [decide_eq_true_eq, decide_eq_false_iff_not] at h_); omega) | (simp [mulSz, Cont.len, bne] at h_; done) | (simp [mulSz, Cont.len, bne] at h_; omega))); intro _; conv => whnf))
          refine ⟨[0, 3], ((k + 1, t2) : Nat × List Int), ?_, (by show k + 1 ≤ q; omega), (by show q - (k + 1) < q - k; omega)⟩
          show stLe _ _ (st14 A j n ca (k + 1) .any .any t2) _
          conv => whnf
          repeat' (first | exact True.intro | rfl | refine And.intro ?_ ?_)
          all_goals (conv => whnf)
          repeat' (first | exact True.intro | rfl | refine And.intro ?_ ?_)
          all_goals (try (first | omega | exact True.intro | rfl | assumption | (change LE.le (α := Nat) _ _; first | omega | (simp only []; omega)) | (simp only []; done) | (simp only []; omega) | (simp; done) | (simp; omega)))
          all_goals (show wl A j k ++ [((nw A (j * k) j : Nat) : Int)] ++ t2 = _; rw [show List.take (mulSz 1 k) (List.drop 0 (wl A j k ++ t)) = wl A j k from List.take_left' hlk]; simp [mulSz])
    · skip
      have hge : k = q := by
        have : ¬ W * k < n := by simp at hge; omega
        rw [hq] at this
        have := Nat.le_of_mul_le_mul_left (Nat.le_of_not_lt this) (by omega)
        omega
      subst hge
      conv => whnf
      repeat (first
        | (refine And.intro ?_ ?_; (focus (first | omega | decide | exact Int.natCast_nonneg _ | ((repeat' refine And.intro ?_ ?_) <;> first | omega | exact Int.natCast_nonneg _ | (simp only [i64max]; omega) | (simp only [u8max]; omega) | (simp only [i64max, u8max, u16max, u32max, u64max]; omega) | (simp [mulSz, Cont.len, bne]; done) | (simp [mulSz, Cont.len, bne]; omega)))); conv => whnf)
        | (refine tst_in ?_ ?_; (focus (intro h_; exfalso; first | omega | ((try simp only [decide_eq_true_eq, decide_eq_false_iff_not] at h_); omega) | (simp [mulSz, Cont.len, bne] at h_; done) | (simp [mulSz, Cont.len, bne] at h_; omega))); intro _; conv => whnf)
        | (refine tst_in ?_ ?_; rotate_left; (focus (intro h_; exfalso; first | omega | ((try simp only [decide_eq_true_eq, decide_eq_false_iff_not] at h_); omega) | (simp [mulSz, Cont.len, bne] at h_; done) | (simp [mulSz, Cont.len, bne] at h_; omega))); intro _; conv => whnf))
      refine .inl ⟨t, [0, 1], ?_⟩
      conv => whnf
      repeat' (first | exact True.intro | rfl | refine And.intro ?_ ?_)
      all_goals (conv => whnf)
      repeat' (first | exact True.intro | rfl | refine And.intro ?_ ?_)
      all_goals (try (first | omega | exact True.intro | rfl | assumption | (change LE.le (α := Nat) _ _; first | omega | (simp only [hl]; omega)) | (simp only [hl]; done) | (simp only [hl]; omega) | (simp [hl]; done) | (simp [hl]; omega)))
theorem pWords (A B : List Bool) (w : Int) (n ca cb : Nat) (hA : n ≤ A.length) (hca : n ≤ ca) (hB : n ≤ B.length) (hcb : n ≤ cb) (hAB : part A 0 n = part B 0 n) (hN : n ≤ 140737488355328) :
    ∃ (X : List Int) (e : Nat), X.length ≤ 32768 ∧ (∀ x ∈ X, 0 ≤ x ∧ x < 65536) ∧ (e = 0 ∨ e = 1 ∧ X = []) ∧ Fits Try.prog 13 ⟨[.slice 0 0 n ca, .int .i64 w], [.seg false (.bools A)], [rowI X e]⟩ ∧ Fits Try.prog 14 ⟨[.slice 0 0 n cb, .int .i64 w], [.seg false (.bools B)], [rowI X e]⟩ := by
  by_cases h : badW w n
  · exact ⟨[], 1, by decide, by simp, .inr ⟨rfl, rfl⟩, Words_far A w n ca h hN, rWords_far B w n cb h hN⟩
  · unfold badW at h
    obtain ⟨W, rfl⟩ : ∃ W : Nat, w = W := ⟨w.toNat, by omega⟩
    have h1 : 1 ≤ W := by omega
    have h2 : W ≤ 16 := by omega
    have h3 : n ≤ 32768 := by omega
    have h4 : (n : Int) % (W : Int) = 0 := by
      by_cases e : (n : Int) % (W : Int) = 0
      · exact e
      · exact absurd (.inr (.inr (.inr ⟨by omega, by omega, h3, e⟩))) h
    have h5 : n % W = 0 := by exact_mod_cast h4
    obtain ⟨q, hq⟩ := Nat.dvd_of_mod_eq_zero h5
    have hqn : q ≤ n := by rw [hq]; exact Nat.le_mul_of_pos_left q (by omega)
    have key : ∀ k, k ≤ q → wl A W k = wl B W k ∧ ∀ x ∈ wl A W k, 0 ≤ x ∧ x < 65536 := by
      intro k
      induction k with
      | zero => intro _; exact ⟨rfl, by simp [wl]⟩
      | succ k ih =>
        intro hk
        have hm : W * (k + 1) ≤ W * q := Nat.mul_le_mul_left _ hk
        rw [Nat.mul_succ] at hm
        have e : nw A (W * k) W = nw B (W * k) W := by
          unfold nw
          congr 1
          apply List.ext_getElem (by rw [part_len (by omega), part_len (by omega)])
          intro i a b
          rw [part_len (by omega)] at a
          have x1 := part_get (A := A) (off := W * k) a
          have x2 := part_get (A := B) (off := W * k) a
          have x3 := part_get (A := A) (off := 0) (n := n) (k := W * k + i) (by omega)
          have x4 := part_get (A := B) (off := 0) (n := n) (k := W * k + i) (by omega)
          rw [hAB, x4, Nat.zero_add] at x3
          have : (part A (W * k) W).getD i false = (part B (W * k) W).getD i false := by rw [x1, x2, x3]
          have l1 : i < (part A (W * k) W).length := by rw [part_len (by omega)]; exact a
          simpa [List.getD, l1, b] using this
        have hlt := nw_lt (A := A) (o := W * k) (j := W) (by omega) h2
        obtain ⟨i1, i2⟩ := ih (by omega)
        refine ⟨by simp only [wl, i1, e], ?_⟩
        intro x hx
        simp only [wl, List.mem_append, List.mem_singleton] at hx
        rcases hx with hx | rfl
        · exact i2 x hx
        · omega
    obtain ⟨k1, k2⟩ := key q (Nat.le_refl _)
    refine ⟨wl A W q, 0, by rw [wl_len]; omega, k2, .inl rfl, Words_f A W n ca q hA hca h1 h2 h3 hq, ?_⟩
    rw [k1]
    exact rWords_f B W n cb q hB hcb h1 h2 h3 hq
end Go.Proofs.Ytkkianjpkipooaa

set_option linter.unusedVariables false
set_option linter.unusedSimpArgs false
namespace Go.Proofs.Ytkkianjpkipooaa
open Go Go.Fw
def bx (X : List Int) : Nat → List Int
  | 0 => []
  | k + 1 => bx X k ++ [IntKind.u8.wrap (X.getD k 0)]
theorem bx_len (X : List Int) : ∀ k, (bx X k).length = k
  | 0 => rfl
  | k + 1 => by simp [bx, bx_len X k]
def txt (X : List Int) : ByteArray := ⟨⟨(bx X X.length).map fun n => UInt8.ofNat n.toNat⟩⟩
noncomputable def c11 : Code := (Try.f11.body).getD .skip
def st11 (n ca m k : Nat) (A : List Bool) (X t : List Int) : St := ⟨anyTo 35 [.slice 0 0 n ca, .any, .any, .any, .slice 1 0 m (m + t.length), .any, .slice 2 0 m m, .any, .any, .any, .any, .any, .any, .any, .any, .any, .any, .any, .any, .any, .slice 1 0 m (m + t.length), .int .i64 m, .int .i64 k], [.seg false (.bools A), .seg false (.ints .i64 (X ++ t)), .seg true (.ints .u8 (bx X k ++ List.replicate (m - k) 0))]⟩
def inv11 (n ca m : Nat) (A : List Bool) (X : List Int) : LInv := ⟨Nat × List Int, fun p => st11 n ca m p.1 A X p.2, fun p => p.1 ≤ m, fun p => m - p.1⟩
set_option maxHeartbeats 0 in
set_option maxRecDepth 100000 in
theorem Bytes_f (A : List Bool) (n ca : Nat) (X : List Int) (m : Nat) (hm : X.length = m) (hX : m ≤ 32768) (WO : Fits Try.prog 13 ⟨[.slice 0 0 n ca, .int .i64 (8 : Nat)], [.seg false (.bools A)], [rowI X 0]⟩) :
    Fits Try.prog 11 ⟨[.slice 0 0 n ca], [.seg false (.bools A)], [numOut [.dead] (.tup [.str (txt X), .int .i64 0])]⟩ := by
  have hl := bx_len X
  have htx : txt X = ⟨⟨(bx X m).map fun n => UInt8.ofNat n.toNat⟩⟩ := by unfold txt; rw [hm]
  unfold rowI at WO
  rw [hm] at WO
  refine fits_of_body (C := cfgs 1) (c := c11) (ts := [2, 3]) tok0 mixed0 (fun | 6 => some (inv11 n ca m A X) | _ => none) (fun _ => none)
    Try.func11 (by kernel_rfl) (by kernel_rfl) (by kernel_rfl) (by kernel_rfl) rfl ?_
  conv => whnf
  repeat (first
    | (refine And.intro ?_ ?_; (focus (first | omega | decide | exact Int.natCast_nonneg _ | ((repeat' refine And.intro ?_ ?_) <;> first | omega | exact Int.natCast_nonneg _ | (simp only [i64max]; omega) | (simp only [u8max]; omega) | (simp only [i64max, u8max, u16max, u32max, u64max]; omega) | (simp [mulSz, Cont.len, bne]; done) | (simp [mulSz, Cont.len, bne]; omega)))); conv => whnf)
    | (refine tst_in ?_ ?_; (focus (intro h_; exfalso; first | omega | ((try simp only [decide_eq_true_eq, decide_eq_false_iff_not] at h_); omega) | (simp [mulSz, Cont.len, bne] at h_; done) | (simp [mulSz, Cont.len, bne] at h_; omega))); intro _; conv => whnf)
    | (refine tst_in ?_ ?_; rotate_left; (focus (intro h_; exfalso; first | omega | ((try simp only [decide_eq_true_eq, decide_eq_false_iff_not] at h_); omega) | (simp [mulSz, Cont.len, bne] at h_; done) | (simp [mulSz, Cont.len, bne] at h_; omega))); intro _; conv => whnf))
  refine ⟨_, [0], WO, ?_⟩
  conv => whnf
  refine ⟨?_, ?_, ?_⟩
  · conv => whnf
    repeat' (first | exact True.intro | rfl | refine And.intro ?_ ?_)
    all_goals (conv => whnf)
    repeat' (first | exact True.intro | rfl | refine And.intro ?_ ?_)
    all_goals (try (first | rfl | omega | (simp; done) | (simp; omega)))
  · conv => whnf
    repeat' (first | exact True.intro | rfl | refine And.intro ?_ ?_)
    all_goals (conv => whnf)
    repeat' (first | exact True.intro | rfl | refine And.intro ?_ ?_)
    all_goals (try (first | rfl | omega | (simp; done) | (simp; omega)))
  conv => whnf
  refine ⟨?_, True.intro⟩
  rintro (t : List Int) -
  conv => whnf
  conv => whnf
  repeat (first
    | (refine And.intro ?_ ?_; (focus (first | omega | decide | exact Int.natCast_nonneg _ | ((repeat' refine And.intro ?_ ?_) <;> first | omega | exact Int.natCast_nonneg _ | (simp only [i64max]; omega) | (simp only [u8max]; omega) | (simp only [i64max, u8max, u16max, u32max, u64max]; omega) | (simp [mulSz, Cont.len, bne]; done) | (simp [mulSz, Cont.len, bne]; omega)))); conv => whnf)
    | (refine tst_in ?_ ?_; (focus (intro h_; exfalso; first | omega | ((try simp only [decide_eq_true_eq, decide_eq_false_iff_not] at h_); omega) | (simp [mulSz, Cont.len, bne] at h_; done) | (simp [mulSz, Cont.len, bne] at h_; omega))); intro _; conv => whnf)
    | (refine tst_in ?_ ?_; rotate_left; (focus (intro h_; exfalso; first | omega | ((try simp only [decide_eq_true_eq, decide_eq_false_iff_not] at h_); omega) | (simp [mulSz, Cont.len, bne] at h_; done) | (simp [mulSz, Cont.len, bne] at h_; omega))); intro _; conv => whnf))
  refine ⟨⟨[0, 1, 2], ((0, t) : Nat × List Int), ?_, Nat.zero_le _⟩, ?_⟩
  · conv => whnf
    repeat' (first | exact True.intro | rfl | refine And.intro ?_ ?_)
    all_goals (conv => whnf)
    repeat' (first | exact True.intro | rfl | refine And.intro ?_ ?_)
    all_goals (try (first | omega | exact True.intro | rfl | assumption | (change LE.le (α := Nat) _ _; first | omega | (simp only [bx]; omega)) | (simp only [bx]; done) | (simp only [bx]; omega) | (simp [bx]; done) | (simp [bx]; omega)))
  · rintro ⟨k, t⟩ hk
    have hk : k ≤ m := hk
    have hlk := hl k
    show forceSt (st11 n ca m k A X t) _
    conv => whnf
    refine tst_in (fun hlt => ?_) (fun hge => ?_)
    · skip
      have hlt : k < m := by simp at hlt; omega
      have hg : (X ++ t).getD k 0 = X.getD k 0 := by
        rw [List.getD_eq_getElem?_getD, List.getElem?_append_left (by omega), ← List.getD_eq_getElem?_getD]
      have hset : (bx X k ++ List.replicate (m - k) 0).set k (IntKind.u8.wrap (X.getD k 0)) = bx X (k + 1) ++ List.replicate (m - (k + 1)) 0 := by
        rw [show m - k = (m - (k + 1)) + 1 by omega, List.replicate_succ, set_mid _ _ _ _ _ hlk]; simp [bx]
      conv => whnf
      repeat (first
        | (refine And.intro ?_ ?_; (focus (first | omega | decide | exact Int.natCast_nonneg _ | ((repeat' refine And.intro ?_ ?_) <;> first | omega | exact Int.natCast_nonneg _ | (simp only [i64max]; omega) | (simp only [u8max]; omega) | (simp only [i64max, u8max, u16max, u32max, u64max]; omega) | (simp [mulSz, Cont.len, bne, hm]; done) | (simp [mulSz, Cont.len, bne, hm]; omega)))); conv => whnf)
        | (refine tst_in ?_ ?_; (focus (intro h_; exfalso; first | omega | ((try simp only [decide_eq_true_eq, decide_eq_false_iff_not] at h_); omega) | (simp [mulSz, Cont.len, bne, hm] at h_; done) | (simp [mulSz, Cont.len, bne, hm] at h_; omega))); intro _; conv => whnf)
        | (refine tst_in ?_ ?_; rotate_left; (focus (intro h_; exfalso; first | omega | ((try simp only [decide_eq_true_eq, decide_eq_false_iff_not] at h_); omega) | (simp [mulSz, Cont.len, bne, hm] at h_; done) | (simp [mulSz, Cont.len, bne, hm] at h_; omega))); intro _; conv => whnf))
      rw [show 0 + ((k : Int)).toNat = k by omega, hg]
      conv => whnf
      repeat (first
        | (refine And.intro ?_ ?_; (focus (first | omega | decide | exact Int.natCast_nonneg _ | ((repeat' refine And.intro ?_ ?_) <;> first | omega | exact Int.natCast_nonneg _ | (simp only [i64max]; omega) | (simp only [u8max]; omega) | (simp only [i64max, u8max, u16max, u32max, u64max]; omega) | (simp [mulSz, Cont.len, bne, hlk]; done) | (simp [mulSz, Cont.len, bne, hlk]; omega)))); conv => whnf)
        | (refine tst_in ?_ ?_; (focus (intro h_; exfalso; first | omega | ((try simp only [decide_eq_true_eq, decide_eq_false_iff_not] at h_); omega) | (simp [mulSz, Cont.len, bne, hlk] at h_; done) | (simp [mulSz, Cont.len, bne, hlk] at h_; omega))); intro _; conv => whnf)
        | (refine tst_in ?_ ?_; rotate_left; (focus (intro h_; exfalso; first | omega | ((try simp only [decide_eq_true_eq, decide_eq_false_iff_not] at h_); omega) | (simp [mulSz, Cont.len, bne, hlk] at h_; done) | (simp [mulSz, Cont.len, bne, hlk] at h_; omega))); intro _; conv => whnf))
      rw [hset]
      conv => whnf
      repeat (first
        | (refine And.intro ?_ ?_; (focus (first | omega | decide | exact Int.natCast_nonneg _ | ((repeat' refine And.intro ?_ ?_) <;> first | omega | exact Int.natCast_nonneg _ | (simp only [i64max]; omega) | (simp only [u8max]; omega) | (simp only [i64max, u8max, u16max, u32max, u64max]; omega) | (simp [mulSz, Cont.len, bne]; done) | (simp [mulSz, Cont.len, bne]; omega)))); conv => whnf)
        | (refine tst_in ?_ ?_; (focus (intro h_; exfalso; first | omega | ((try simp only [decide_eq_true_eq, decide_eq_false_iff_not] at h_); omega) | (simp [mulSz, Cont.len, bne] at h_; done) | (simp [mulSz, Cont.len, bne] at h_; omega))); intro _; conv => whnf)
        | (refine tst_in ?_ ?_; rotate_left; (focus (intro h_; exfalso; first | omega | ((try simp only [decide_eq_true_eq, decide_eq_false_iff_not] at h_); omega) | (simp [mulSz, Cont.len, bne] at h_; done) | (simp [mulSz, Cont.len, bne] at h_; omega))); intro _; conv => whnf))
      refine ⟨[0, 1, 2], ((k + 1, t) : Nat × List Int), ?_, (by show k + 1 ≤ m; omega), (by show m - (k + 1) < m - k; omega)⟩
      conv => whnf
      repeat' (first | exact True.intro | rfl | refine And.intro ?_ ?_)
      all_goals (conv => whnf)
      repeat' (first | exact True.intro | rfl | refine And.intro ?_ ?_)
      all_goals (try (first | omega | exact True.intro | rfl | assumption | (change LE.le (α := Nat) _ _; first | omega | (simp only []; omega)) | (simp only []; done) | (simp only []; omega) | (simp; done) | (simp; omega)))
    · skip
      have hge : k = m := by simp at hge; omega
      subst hge
      conv => whnf
      repeat (first
        | (refine And.intro ?_ ?_; (focus (first | omega | decide | exact Int.natCast_nonneg _ | ((repeat' refine And.intro ?_ ?_) <;> first | omega | exact Int.natCast_nonneg _ | (simp only [i64max]; omega) | (simp only [u8max]; omega) | (simp only [i64max, u8max, u16max, u32max, u64max]; omega) | (simp [mulSz, Cont.len, bne, hlk]; done) | (simp [mulSz, Cont.len, bne, hlk]; omega)))); conv => whnf)
        | (refine tst_in ?_ ?_; (focus (intro h_; exfalso; first | omega | ((try simp only [decide_eq_true_eq, decide_eq_false_iff_not] at h_); omega) | (simp [mulSz, Cont.len, bne, hlk] at h_; done) | (simp [mulSz, Cont.len, bne, hlk] at h_; omega))); intro _; conv => whnf)
        | (refine tst_in ?_ ?_; rotate_left; (focus (intro h_; exfalso; first | omega | ((try simp only [decide_eq_true_eq, decide_eq_false_iff_not] at h_); omega) | (simp [mulSz, Cont.len, bne, hlk] at h_; done) | (simp [mulSz, Cont.len, bne, hlk] at h_; omega))); intro _; conv => whnf))
      refine .inl ⟨(), [0], ?_⟩
      conv => whnf
      repeat' (first | exact True.intro | rfl | refine And.intro ?_ ?_)
      all_goals (conv => whnf)
      repeat' (first | exact True.intro | rfl | refine And.intro ?_ ?_)
      all_goals (try (first | omega | exact True.intro | rfl | assumption | (change LE.le (α := Nat) _ _; first | omega | (simp only []; omega)) | (simp only []; done) | (simp only []; omega) | (simp; done) | (simp; omega)))
      all_goals (show txt X = _; rw [htx]; simp [List.take_of_length_le (Nat.le_of_eq hlk)])
noncomputable def c12 : Code := (Try.f12.body).getD .skip
def st12 (n ca m k : Nat) (A : List Bool) (X t u : List Int) : St := ⟨anyTo 32 [.slice 0 0 n ca, .any, .any, .any, .slice 1 0 m (m + t.length), .any, .slice 2 0 k (k + u.length), .int .i64 k], [.seg false (.bools A), .seg false (.ints .i64 (X ++ t)), .seg true (.ints .u8 (bx X k ++ u))]⟩
def inv12 (n ca m : Nat) (A : List Bool) (X : List Int) : LInv := ⟨Nat × List Int × List Int, fun p => st12 n ca m p.1 A X p.2.1 p.2.2, fun p => p.1 ≤ m, fun p => m - p.1⟩
set_option maxHeartbeats 0 in
set_option maxRecDepth 100000 in
theorem rBytes_f (A : List Bool) (n ca : Nat) (X : List Int) (m : Nat) (hm : X.length = m) (hX : m ≤ 32768) (WO : Fits Try.prog 14 ⟨[.slice 0 0 n ca, .int .i64 (8 : Nat)], [.seg false (.bools A)], [rowI X 0]⟩) :
    Fits Try.prog 12 ⟨[.slice 0 0 n ca], [.seg false (.bools A)], [numOut [.dead] (.tup [.str (txt X), .int .i64 0])]⟩ := by
  have hl := bx_len X
  have htx : txt X = ⟨⟨(bx X m).map fun n => UInt8.ofNat n.toNat⟩⟩ := by unfold txt; rw [hm]
  unfold rowI at WO
  rw [hm] at WO
  refine fits_of_body (C := cfgs 1) (c := c12) (ts := [2, 3]) tok0 mixed0 (fun | 6 => some (inv12 n ca m A X) | _ => none) (fun _ => none)
    Try.func12 (by kernel_rfl) (by kernel_rfl) (by kernel_rfl) (by kernel_rfl) rfl ?_
  conv => whnf
  repeat (first
    | (refine And.intro ?_ ?_; (focus (first | omega | decide | exact Int.natCast_nonneg _ | ((repeat' refine And.intro ?_ ?_) <;> first | omega | exact Int.natCast_nonneg _ | (simp only [i64max]; omega) | (simp only [u8max]; omega) | (simp only [i64max, u8max, u16max, u32max, u64max]; omega) | (simp [mulSz, Cont.len, bne]; done) | (simp [mulSz, Cont.len, bne]; omega)))); conv => whnf)
    | (refine tst_in ?_ ?_; (focus (intro h_; exfalso; first | omega | ((try simp only [decide_eq_true_eq, decide_eq_false_iff_not] at h_); omega) | (simp [mulSz, Cont.len, bne] at h_; done) | (simp [mulSz, Cont.len, bne] at h_; omega))); intro _; conv => whnf)
    | (refine tst_in ?_ ?_; rotate_left; (focus (intro h_; exfalso; first | omega | ((try simp only [decide_eq_true_eq, decide_eq_false_iff_not] at h_); omega) | (simp [mulSz, Cont.len, bne] at h_; done) | (simp [mulSz, Cont.len, bne] at h_; omega))); intro _; conv => whnf))
  refine ⟨_, [0], WO, ?_⟩
  conv => whnf
  refine ⟨?_, ?_, ?_⟩
  · conv => whnf
    repeat' (first | exact True.intro | rfl | refine And.intro ?_ ?_)
    all_goals (conv => whnf)
    repeat' (first | exact True.intro | rfl | refine And.intro ?_ ?_)
    all_goals (try (first | rfl | omega | (simp; done) | (simp; omega)))
  · conv => whnf
    repeat' (first | exact True.intro | rfl | refine And.intro ?_ ?_)
    all_goals (conv => whnf)
    repeat' (first | exact True.intro | rfl | refine And.intro ?_ ?_)
    all_goals (try (first | rfl | omega | (simp; done) | (simp; omega)))
  conv => whnf
  refine ⟨?_, True.intro⟩
  rintro (t : List Int) -
  conv => whnf
  conv => whnf
  repeat (first
    | (refine And.intro ?_ ?_; (focus (first | omega | decide | exact Int.natCast_nonneg _ | ((repeat' refine And.intro ?_ ?_) <;> first | omega | exact Int.natCast_nonneg _ | (simp only [i64max]; omega) | (simp only [u8max]; omega) | (simp only [i64max, u8max, u16max, u32max, u64max]; omega) | (simp [mulSz, Cont.len, bne]; done) | (simp [mulSz, Cont.len, bne]; omega)))); conv => whnf)
    | (refine tst_in ?_ ?_; (focus (intro h_; exfalso; first | omega | ((try simp only [decide_eq_true_eq, decide_eq_false_iff_not] at h_); omega) | (simp [mulSz, Cont.len, bne] at h_; done) | (simp [mulSz, Cont.len, bne] at h_; omega))); intro _; conv => whnf)
    | (refine tst_in ?_ ?_; rotate_left; (focus (intro h_; exfalso; first | omega | ((try simp only [decide_eq_true_eq, decide_eq_false_iff_not] at h_); omega) | (simp [mulSz, Cont.len, bne] at h_; done) | (simp [mulSz, Cont.len, bne] at h_; omega))); intro _; conv => whnf))
  refine ⟨⟨[0, 1, 2], ((0, t, []) : Nat × List Int × List Int), ?_, Nat.zero_le _⟩, ?_⟩
  · conv => whnf
    repeat' (first | exact True.intro | rfl | refine And.intro ?_ ?_)
    all_goals (conv => whnf)
    repeat' (first | exact True.intro | rfl | refine And.intro ?_ ?_)
    all_goals (try (first | omega | exact True.intro | rfl | assumption | (change LE.le (α := Nat) _ _; first | omega | (simp only [bx]; omega)) | (simp only [bx]; done) | (simp only [bx]; omega) | (simp [bx]; done) | (simp [bx]; omega)))
  · rintro ⟨k, t, u⟩ hk
    have hk : k ≤ m := hk
    have hlk := hl k
    show forceSt (st12 n ca m k A X t u) _
    conv => whnf
    refine tst_in (fun hlt => ?_) (fun hge => ?_)
    · skip
      have hlt : k < m := by simp at hlt; omega
      have hg : (X ++ t).getD k 0 = X.getD k 0 := by
        rw [List.getD_eq_getElem?_getD, List.getElem?_append_left (by omega), ← List.getD_eq_getElem?_getD]
      conv => whnf
      repeat (first
        | (refine And.intro ?_ ?_; (focus (first | omega | decide | exact Int.natCast_nonneg _ | ((repeat' refine And.intro ?_ ?_) <;> first | omega | exact Int.natCast_nonneg _ | (simp only [i64max]; omega) | (simp only [u8max]; omega) | (simp only [i64max, u8max, u16max, u32max, u64max]; omega) | (simp [mulSz, Cont.len, bne, hm]; done) | (simp [mulSz, Cont.len, bne, hm]; omega)))); conv => whnf)
        | (refine tst_in ?_ ?_; (focus (intro h_; exfalso; first | omega | ((try simp only [decide_eq_true_eq, decide_eq_false_iff_not] at h_); omega) | (simp [mulSz, Cont.len, bne, hm] at h_; done) | (simp [mulSz, Cont.len, bne, hm] at h_; omega))); intro _; conv => whnf)
        | (refine tst_in ?_ ?_; rotate_left; (focus (intro h_; exfalso; first | omega | ((try simp only [decide_eq_true_eq, decide_eq_false_iff_not] at h_); omega) | (simp [mulSz, Cont.len, bne, hm] at h_; done) | (simp [mulSz, Cont.len, bne, hm] at h_; omega))); intro _; conv => whnf))
      rw [show 0 + ((k : Int)).toNat = k by omega, hg]
      conv => whnf
      repeat (first
        | (refine And.intro ?_ ?_; (focus (first | omega | decide | exact Int.natCast_nonneg _ | ((repeat' refine And.intro ?_ ?_) <;> first | omega | exact Int.natCast_nonneg _ | (simp only [i64max]; omega) | (simp only [u8max]; omega) | (simp only [i64max, u8max, u16max, u32max, u64max]; omega) | (simp [mulSz, Cont.len, bne, hlk]; done) | (simp [mulSz, Cont.len, bne, hlk]; omega)))); conv => whnf)
        | (refine tst_in ?_ ?_; (focus (intro h_; exfalso; first | omega | ((try simp only [decide_eq_true_eq, decide_eq_false_iff_not] at h_); omega) | (simp [mulSz, Cont.len, bne, hlk] at h_; done) | (simp [mulSz, Cont.len, bne, hlk] at h_; omega))); intro _; conv => whnf)
        | (refine tst_in ?_ ?_; rotate_left; (focus (intro h_; exfalso; first | omega | ((try simp only [decide_eq_true_eq, decide_eq_false_iff_not] at h_); omega) | (simp [mulSz, Cont.len, bne, hlk] at h_; done) | (simp [mulSz, Cont.len, bne, hlk] at h_; omega))); intro _; conv => whnf))
      intro (u2 : List Int)
      conv => whnf
      repeat (first
        | (refine And.intro ?_ ?_; (focus (first | omega | decide | exact Int.natCast_nonneg _ | ((repeat' refine And.intro ?_ ?_) <;> first | omega | exact Int.natCast_nonneg _ | (simp only [i64max]; omega) | (simp only [u8max]; omega) | (simp only [i64max, u8max, u16max, u32max, u64max]; omega) | (simp [mulSz, Cont.len, bne]; done) | (simp [mulSz, Cont.len, bne]; omega)))); conv => whnf)
        | (refine tst_in ?_ ?_; (focus (intro h_; exfalso; first | omega | ((try simp only [decide_eq_true_eq, decide_eq_false_iff_not] at h_); omega) | (simp [mulSz, Cont.len, bne] at h_; done) | (simp [mulSz, Cont.len, bne] at h_; omega))); intro _; conv => whnf)
        | (refine tst_in ?_ ?_; rotate_left; (focus (intro h_; exfalso; first | omega | ((try simp only [decide_eq_true_eq, decide_eq_false_iff_not] at h_); omega) | (simp [mulSz, Cont.len, bne] at h_; done) | (simp [mulSz, Cont.len, bne] at h_; omega))); intro _; conv => whnf))
      refine ⟨[0, 1, 4], ((k + 1, t, u2) : Nat × List Int × List Int), ?_, (by show k + 1 ≤ m; omega), (by show m - (k + 1) < m - k; omega)⟩
      conv => whnf
      repeat' (first | exact True.intro | rfl | refine And.intro ?_ ?_)
      all_goals (conv => whnf)
      repeat' (first | exact True.intro | rfl | refine And.intro ?_ ?_)
      all_goals (try (first | omega | exact True.intro | rfl | assumption | (change LE.le (α := Nat) _ _; first | omega | (simp only []; omega)) | (simp only []; done) | (simp only []; omega) | (simp; done) | (simp; omega)))
      all_goals (show bx X k ++ [IntKind.u8.wrap (X.getD k 0)] ++ u2 = _; rw [show List.take (mulSz 1 k) (List.drop 0 (bx X k ++ u)) = bx X k from List.take_left' hlk]; simp [mulSz])
    · skip
      have hge : k = m := by simp at hge; omega
      subst hge
      conv => whnf
      repeat (first
        | (refine And.intro ?_ ?_; (focus (first | omega | decide | exact Int.natCast_nonneg _ | ((repeat' refine And.intro ?_ ?_) <;> first | omega | exact Int.natCast_nonneg _ | (simp only [i64max]; omega) | (simp only [u8max]; omega) | (simp only [i64max, u8max, u16max, u32max, u64max]; omega) | (simp [mulSz, Cont.len, bne, hlk]; done) | (simp [mulSz, Cont.len, bne, hlk]; omega)))); conv => whnf)
        | (refine tst_in ?_ ?_; (focus (intro h_; exfalso; first | omega | ((try simp only [decide_eq_true_eq, decide_eq_false_iff_not] at h_); omega) | (simp [mulSz, Cont.len, bne, hlk] at h_; done) | (simp [mulSz, Cont.len, bne, hlk] at h_; omega))); intro _; conv => whnf)
        | (refine tst_in ?_ ?_; rotate_left; (focus (intro h_; exfalso; first | omega | ((try simp only [decide_eq_true_eq, decide_eq_false_iff_not] at h_); omega) | (simp [mulSz, Cont.len, bne, hlk] at h_; done) | (simp [mulSz, Cont.len, bne, hlk] at h_; omega))); intro _; conv => whnf))
      refine .inl ⟨(), [0], ?_⟩
      conv => whnf
      repeat' (first | exact True.intro | rfl | refine And.intro ?_ ?_)
      all_goals (conv => whnf)
      repeat' (first | exact True.intro | rfl | refine And.intro ?_ ?_)
      all_goals (try (first | omega | exact True.intro | rfl | assumption | (change LE.le (α := Nat) _ _; first | omega | (simp only []; omega)) | (simp only []; done) | (simp only []; omega) | (simp; done) | (simp; omega)))
      all_goals (show txt X = _; rw [htx]; simp [List.take_left' hlk])
set_option maxHeartbeats 0 in
set_option maxRecDepth 100000 in
theorem Bytes_far (A : List Bool) (n ca : Nat) (WO : Fits Try.prog 13 ⟨[.slice 0 0 n ca, .int .i64 (8 : Nat)], [.seg false (.bools A)], [rowI [] 1]⟩) :
    Fits Try.prog 11 ⟨[.slice 0 0 n ca], [.seg false (.bools A)], [numOut [.dead] (.tup [.str ⟨#[]⟩, .int .i64 1])]⟩ := by
  refine fits_of_body (C := cfgs 1) (c := c11) (ts := [2, 3]) tok0 mixed0 (fun _ => none) (fun _ => none)
    Try.func11 (by kernel_rfl) (by kernel_rfl) (by kernel_rfl) (by kernel_rfl) rfl ?_
  conv => whnf
  repeat (first
    | (refine And.intro ?_ ?_; (focus (first | omega | decide | exact Int.natCast_nonneg _ | ((repeat' refine And.intro ?_ ?_) <;> first | omega | exact Int.natCast_nonneg _ | (simp only [i64max]; omega) | (simp only [u8max]; omega) | (simp only [i64max, u8max, u16max, u32max, u64max]; omega) | (simp [mulSz, Cont.len, bne]; done) | (simp [mulSz, Cont.len, bne]; omega)))); conv => whnf)
    | (refine tst_in ?_ ?_; (focus (intro h_; exfalso; first | omega | ((try simp only [decide_eq_true_eq, decide_eq_false_iff_not] at h_); omega) | (simp [mulSz, Cont.len, bne] at h_; done) | (simp [mulSz, Cont.len, bne] at h_; omega))); intro _; conv => whnf)
    | (refine tst_in ?_ ?_; rotate_left; (focus (intro h_; exfalso; first | omega | ((try simp only [decide_eq_true_eq, decide_eq_false_iff_not] at h_); omega) | (simp [mulSz, Cont.len, bne] at h_; done) | (simp [mulSz, Cont.len, bne] at h_; omega))); intro _; conv => whnf))
  refine ⟨_, [0], WO, ?_⟩
  conv => whnf
  refine ⟨?_, ?_, ?_⟩
  · conv => whnf
    repeat' (first | exact True.intro | rfl | refine And.intro ?_ ?_)
    all_goals (conv => whnf)
    repeat' (first | exact True.intro | rfl | refine And.intro ?_ ?_)
    all_goals (try (first | rfl | omega | (simp; done) | (simp; omega)))
  · conv => whnf
    repeat' (first | exact True.intro | rfl | refine And.intro ?_ ?_)
    all_goals (conv => whnf)
    repeat' (first | exact True.intro | rfl | refine And.intro ?_ ?_)
    all_goals (try (first | rfl | omega | (simp; done) | (simp; omega)))
  conv => whnf
  refine ⟨?_, True.intro⟩
  rintro (t : List Int) -
  conv => whnf
  conv => whnf
  repeat (first
    | (refine And.intro ?_ ?_; (focus (first | omega | decide | exact Int.natCast_nonneg _ | ((repeat' refine And.intro ?_ ?_) <;> first | omega | exact Int.natCast_nonneg _ | (simp only [i64max]; omega) | (simp only [u8max]; omega) | (simp only [i64max, u8max, u16max, u32max, u64max]; omega) | (simp [mulSz, Cont.len, bne]; done) | (simp [mulSz, Cont.len, bne]; omega)))); conv => whnf)
    | (refine tst_in ?_ ?_; (focus (intro h_; exfalso; first | omega | ((try simp only [decide_eq_true_eq, decide_eq_false_iff_not] at h_); omega) | (simp [mulSz, Cont.len, bne] at h_; done) | (simp [mulSz, Cont.len, bne] at h_; omega))); intro _; conv => whnf)
    | (refine tst_in ?_ ?_; rotate_left; (focus (intro h_; exfalso; first | omega | ((try simp only [decide_eq_true_eq, decide_eq_false_iff_not] at h_); omega) | (simp [mulSz, Cont.len, bne] at h_; done) | (simp [mulSz, Cont.len, bne] at h_; omega))); intro _; conv => whnf))
  refine .inl ⟨(), [0], ?_⟩
  conv => whnf
  repeat' (first | exact True.intro | rfl | refine And.intro ?_ ?_)
  all_goals (conv => whnf)
  repeat' (first | exact True.intro | rfl | refine And.intro ?_ ?_)
  all_goals (try (first | omega | exact True.intro | rfl | assumption | (change LE.le (α := Nat) _ _; first | omega | (simp only []; omega)) | (simp only []; done) | (simp only []; omega) | (simp; done) | (simp; omega)))
set_option maxHeartbeats 0 in
set_option maxRecDepth 100000 in
theorem rBytes_far (A : List Bool) (n ca : Nat) (WO : Fits Try.prog 14 ⟨[.slice 0 0 n ca, .int .i64 (8 : Nat)], [.seg false (.bools A)], [rowI [] 1]⟩) :
    Fits Try.prog 12 ⟨[.slice 0 0 n ca], [.seg false (.bools A)], [numOut [.dead] (.tup [.str ⟨#[]⟩, .int .i64 1])]⟩ := by
  refine fits_of_body (C := cfgs 1) (c := c12) (ts := [2, 3]) tok0 mixed0 (fun _ => none) (fun _ => none)
    Try.func12 (by kernel_rfl) (by kernel_rfl) (by kernel_rfl) (by kernel_rfl) rfl ?_
  conv => whnf
  repeat (first
    | (refine And.intro ?_ ?_; (focus (first | omega | decide | exact Int.natCast_nonneg _ | ((repeat' refine And.intro ?_ ?_) <;> first | omega | exact Int.natCast_nonneg _ | (simp only [i64max]; omega) | (simp only [u8max]; omega) | (simp only [i64max, u8max, u16max, u32max, u64max]; omega) | (simp [mulSz, Cont.len, bne]; done) | (simp [mulSz, Cont.len, bne]; omega)))); conv => whnf)
    | (refine tst_in ?_ ?_; (focus (intro h_; exfalso; first | omega | ((try simp only [decide_eq_true_eq, decide_eq_false_iff_not] at h_); omega) | (simp [mulSz, Cont.len, bne] at h_; done) | (simp [mulSz, Cont.len, bne] at h_; omega))); intro _; conv => whnf)
    | (refine tst_in ?_ ?_; rotate_left; (focus (intro h_; exfalso; first | omega | ((try simp only [decide_eq_true_eq, decide_eq_false_iff_not] at h_); omega) | (simp [mulSz, Cont.len, bne] at h_; done) | (simp [mulSz, Cont.len, bne] at h_; omega))); intro _; conv => whnf))
  refine ⟨_, [0], WO, ?_⟩
  conv => whnf
  refine ⟨?_, ?_, ?_⟩
  · conv => whnf
    repeat' (first | exact True.intro | rfl | refine And.intro ?_ ?_)
    all_goals (conv => whnf)
    repeat' (first | exact True.intro | rfl | refine And.intro ?_ ?_)
    all_goals (try (first | rfl | omega | (simp; done) | (simp; omega)))
  · conv => whnf
    repeat' (first | exact True.intro | rfl | refine And.intro ?_ ?_)
    all_goals (conv => whnf)
    repeat' (first | exact True.intro | rfl | refine And.intro ?_ ?_)
    all_goals (try (first | rfl | omega | (simp; done) | (simp; omega)))
  conv => whnf
  refine ⟨?_, True.intro⟩
  rintro (t : List Int) -
  conv => whnf
  conv => whnf
  repeat (first
    | (refine And.intro ?_ ?_; (focus (first | omega | decide | exact Int.natCast_nonneg _ | ((repeat' refine And.intro ?_ ?_) <;> first | omega | exact Int.natCast_nonneg _ | (simp only [i64max]; omega) | (simp only [u8max]; omega) | (simp only [i64max, u8max, u16max, u32max, u64max]; omega) | (simp [mulSz, Cont.len, bne]; done) | (simp [mulSz, Cont.len, bne]; omega)))); conv => whnf)
    | (refine tst_in ?_ ?_; (focus (intro h_; exfalso; first | omega | ((try simp only [decide_eq_true_eq, decide_eq_false_iff_not] at h_); omega) | (simp [mulSz, Cont.len, bne] at h_; done) | (simp [mulSz, Cont.len, bne] at h_; omega))); intro _; conv => whnf)
    | (refine tst_in ?_ ?_; rotate_left; (focus (intro h_; exfalso; first | omega | ((try simp only [decide_eq_true_eq, decide_eq_false_iff_not] at h_); omega) | (simp [mulSz, Cont.len, bne] at h_; done) | (simp [mulSz, Cont.len, bne] at h_; omega))); intro _; conv => whnf))
  refine .inl ⟨(), [0], ?_⟩
  conv => whnf
  repeat' (first | exact True.intro | rfl | refine And.intro ?_ ?_)
  all_goals (conv => whnf)
  repeat' (first | exact True.intro | rfl | refine And.intro ?_ ?_)
  all_goals (try (first | omega | exact True.intro | rfl | assumption | (change LE.le (α := Nat) _ _; first | omega | (simp only []; omega)) | (simp only []; done) | (simp only []; omega) | (simp; done) | (simp; omega)))
theorem pBytes (A B : List Bool) (n ca cb : Nat) (hA : n ≤ A.length) (hca : n ≤ ca) (hB : n ≤ B.length) (hcb : n ≤ cb) (hAB : part A 0 n = part B 0 n) (hN : n ≤ 140737488355328) :
    ∃ (s : ByteArray) (e : Nat), Fits Try.prog 11 ⟨[.slice 0 0 n ca], [.seg false (.bools A)], [numOut [.dead] (.tup [.str s, .int .i64 e])]⟩ ∧ Fits Try.prog 12 ⟨[.slice 0 0 n cb], [.seg false (.bools B)], [numOut [.dead] (.tup [.str s, .int .i64 e])]⟩ := by
  obtain ⟨X, e, h1, h2, h3, h4, h5⟩ := pWords A B (8 : Nat) n ca cb hA hca hB hcb hAB hN
  rcases h3 with rfl | ⟨rfl, rfl⟩
  · exact ⟨txt X, 0, Bytes_f A n ca X _ rfl h1 h4, rBytes_f B n cb X _ rfl h1 h5⟩
  · exact ⟨⟨#[]⟩, 1, Bytes_far A n ca h4, rBytes_far B n cb h5⟩
end Go.Proofs.Ytkkianjpkipooaa
