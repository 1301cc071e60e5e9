/-
  For any three rows of bits the law BitsMetric answers true and leaves what it was handed as it was. Conditions: none beyond the row itself.
-/
import Derived.Test.YtagndcamfjikhaaRows
import Derived.Test.YtagndcamfjikhaaFw
import Derived.Test.YtagndcamfjikhaaFx
import Derived.Test.YtagndcamfjikhaaFa
import Derived.WalkKit
import Derived.ProofKit
import Derived.OpenShut
import Derived.SizedLaws
set_option linter.unusedSimpArgs false
set_option linter.unusedVariables false
namespace Go.Proofs.Ytagndcamfjikhaa
open Go Go.Fw
def tys : List (Nat × TyI) := [
  (1, ⟨.func, 1, 8, .nilFunc⟩),
  (2, ⟨.int .i64, 1, 8, .int .i64 0⟩),
  (3, ⟨.int .i64, 1, 8, .int .i64 0⟩),
  (4, ⟨.bool, 1, 1, .bool false⟩),
  (5, ⟨.int .u8, 1, 1, .int .u8 0⟩),
  (9, ⟨.str, 1, 16, .string (ByteArray.mk #[])⟩),
  (12, ⟨.int .u64, 1, 8, .int .u64 0⟩),
  (21, ⟨.int .i32, 1, 4, .int .i32 0⟩),
  (22, ⟨.func, 1, 8, .nilFunc⟩),
  (23, ⟨.slice 4, 1, 24, .slice none 0 0⟩),
  (24, ⟨.int .i64, 1, 8, .int .i64 0⟩),
  (26, ⟨.func, 1, 8, .nilFunc⟩),
  (28, ⟨.func, 1, 8, .nilFunc⟩),
  (29, ⟨.slice 3, 1, 24, .slice none 0 0⟩),
  (31, ⟨.func, 1, 8, .nilFunc⟩),
  (32, ⟨.func, 1, 8, .nilFunc⟩),
  (33, ⟨.func, 1, 8, .nilFunc⟩),
  (34, ⟨.func, 1, 8, .nilFunc⟩),
  (35, ⟨.func, 1, 8, .nilFunc⟩),
  (36, ⟨.func, 1, 8, .nilFunc⟩),
  (38, ⟨.func, 1, 8, .nilFunc⟩),
  (39, ⟨.func, 1, 8, .nilFunc⟩),
  (41, ⟨.func, 1, 8, .nilFunc⟩),
  (43, ⟨.func, 1, 8, .nilFunc⟩),
  (44, ⟨.func, 1, 8, .nilFunc⟩),
  (45, ⟨.func, 1, 8, .nilFunc⟩),
  (46, ⟨.func, 1, 8, .nilFunc⟩),
  (47, ⟨.func, 1, 8, .nilFunc⟩),
  (48, ⟨.func, 1, 8, .nilFunc⟩),
  (49, ⟨.func, 1, 8, .nilFunc⟩),
  (50, ⟨.slice 56, 1, 24, .slice none 0 0⟩),
  (51, ⟨.func, 1, 8, .nilFunc⟩),
  (52, ⟨.func, 1, 8, .nilFunc⟩),
  (53, ⟨.func, 1, 8, .nilFunc⟩),
  (54, ⟨.func, 1, 8, .nilFunc⟩),
  (55, ⟨.struct [(0, 3), (1, 23)], 2, 32, .agg #[.int .i64 0, .slice none 0 0]⟩),
  (56, ⟨.struct [(0, 3), (1, 23)], 2, 32, .agg #[.int .i64 0, .slice none 0 0]⟩),
  (57, ⟨.func, 1, 8, .nilFunc⟩),
  (58, ⟨.func, 1, 8, .nilFunc⟩),
  (59, ⟨.func, 1, 8, .nilFunc⟩),
  (60, ⟨.func, 1, 8, .nilFunc⟩),
  (61, ⟨.func, 1, 8, .nilFunc⟩),
  (62, ⟨.slice 5, 1, 24, .slice none 0 0⟩),
  (63, ⟨.func, 1, 8, .nilFunc⟩),
  (64, ⟨.func, 1, 8, .nilFunc⟩),
  (65, ⟨.int .u64, 1, 8, .int .u64 0⟩),
  (66, ⟨.func, 1, 8, .nilFunc⟩),
  (67, ⟨.func, 1, 8, .nilFunc⟩),
  (68, ⟨.func, 1, 8, .nilFunc⟩),
  (69, ⟨.func, 1, 8, .nilFunc⟩),
  (75, ⟨.func, 1, 8, .nilFunc⟩),
  (76, ⟨.int .u32, 1, 4, .int .u32 0⟩),
  (79, ⟨.func, 1, 8, .nilFunc⟩),
  (80, ⟨.ptr 5, 1, 8, .pointer none⟩)]

theorem tok : TOk Try.prog tys := by
  intro p hp
  simp only [tys, List.mem_cons, List.not_mem_nil, or_false] at hp
  rcases hp with rfl | rfl | rfl | rfl | rfl | rfl | rfl | rfl | rfl | rfl | rfl | rfl | rfl | rfl | rfl | rfl | rfl | rfl | rfl | rfl | rfl | rfl | rfl | rfl | rfl | rfl | rfl | rfl | rfl | rfl | rfl | rfl | rfl | rfl | rfl | rfl | rfl | rfl | rfl | rfl | rfl | rfl | rfl | rfl | rfl | rfl | rfl | rfl | rfl | rfl | rfl | rfl | rfl | rfl
  all_goals exact ⟨by kernel_rfl, by kernel_rfl⟩

theorem mixed : Try.prog.follows .mixedOrders = true := by kernel_rfl
def qf : Nat → Bool := fun f => match f with | 19 => true | 22 => true | 31 => true | 32 => true | 41 => true | 47 => true | 48 => true | 49 => true | 50 => true | 51 => true | 25 => true | 34 => true | 35 => true | 36 => true | _ => false
def cfg : Cfg := { T := tys, sgn := fun _ => false, wr := fun _ => false, k := 0, q := qf }
def cfgk (k : Nat) : Cfg := { T := tys, sgn := fun _ => false, wr := fun _ => false, k := k, q := qf }

theorem take_next {α : Type} (l : List α) (k : Nat) (d : α) (h : k < l.length) : l.take (k + 1) = l.take k ++ [l.getD k d] := by
  rw [List.take_succ_eq_append_getElem h]; simp [List.getD, h]

/-- How many are set. -/
def wt : List Bool → Nat
  | [] => 0
  | b :: r => (if b then 1 else 0) + wt r
theorem wt_append (a b : List Bool) : wt (a ++ b) = wt a + wt b := by
  induction a with
  | nil => simp [wt]
  | cons x a ih => simp only [List.cons_append, wt, ih]; omega
theorem wt_le (a : List Bool) : wt a ≤ a.length := by
  induction a with
  | nil => simp [wt]
  | cons x a ih => simp only [wt, List.length_cons]; split <;> omega
theorem wt_next (l : List Bool) (k : Nat) (h : k < l.length) : wt (l.take (k + 1)) = wt (l.take k) + (if l.getD k false then 1 else 0) := by
  rw [take_next l k false h, wt_append]; simp [wt]
theorem wt_take_le (l : List Bool) (k : Nat) : wt (l.take k) ≤ k := Nat.le_trans (wt_le _) (List.length_take_le _ _)

noncomputable def c48 : Code := (Try.f48.body).getD .skip
theorem isRow_q (n cap : Nat) : QFits Try.prog 48 ⟨[.slice 0 0 n cap], [.dead], .bool (@decide ((n : Int) ≤ 32768) (dLe n 32768))⟩ := by
  refine qfits_of_body (C := cfgk 1) (c := c48) (ts := [2]) tok mixed (fun _ => none) (fun _ => none)
    Try.func48 (by kernel_rfl) (by kernel_rfl) (by kernel_rfl) (by kernel_rfl) (by kernel_rfl) rfl rfl ?_
  conv => whnf

noncomputable def c22 : Code := (Try.f22.body).getD .skip
def inv22 (A : List Bool) (n cap : Nat) : LInv := ⟨Nat, fun k => ⟨anyTo 17 [.slice 0 0 n cap, .any, .any, .int .i64 (wt (A.take k)), .any, .any, .slice 0 0 n cap, .int .i64 n, .int .i64 k], [.seg false (.bools A)]⟩, fun k => k ≤ n, fun k => n - k⟩
theorem Weight_q (A : List Bool) (n cap : Nat) (hn : n ≤ A.length) (hm : n ≤ 4611686018427387904) : QFits Try.prog 22 ⟨[.slice 0 0 n cap], [.seg false (.bools A)], .int .i64 (wt (A.take n))⟩ := by
  refine qfits_of_body (C := cfgk 1) (c := c22) (ts := [2]) tok mixed (fun | 3 => some (inv22 A n cap) | _ => none) (fun _ => none)
    Try.func22 (by kernel_rfl) (by kernel_rfl) (by kernel_rfl) (by kernel_rfl) (by kernel_rfl) rfl rfl ?_
  conv => whnf
  refine ⟨⟨[0], (0 : Nat), ?_, Nat.zero_le _⟩, ?_⟩
  · conv => whnf
    repeat' (first | exact True.intro | rfl | refine And.intro ?_ ?_)
  · intro (k : Nat) (hk : k ≤ n)
    have hw := wt_take_le A k
    conv => whnf
    refine tst_in (fun hlt => ?_) (fun hge => ?_)
    · skip
      have hlt : k < n := by simp at hlt; omega
      have hnx := wt_next A k (by omega)
      conv => whnf
      refine ⟨by omega, ?_⟩
      conv => whnf
      refine ⟨by simp; omega, ?_⟩
      conv => whnf
      refine tst_in (fun hb => ?_) (fun hb => ?_)
      · skip
        have hb : A.getD k false = true := by simpa using hb
        rw [hb] at hnx
        conv => whnf
        refine ⟨by omega, ?_⟩
        conv => whnf
        refine ⟨by omega, ?_⟩
        conv => whnf
        refine ⟨[0], k + 1, ?_, ?_, ?_⟩
        · conv => whnf
          repeat' (first | exact True.intro | rfl | refine And.intro ?_ ?_)
          show ((wt (A.take (k + 1)) : Nat) : Int) = (wt (A.take k) : Int) + 1
          rw [hnx]; rfl
        · show k + 1 ≤ n
          omega
        · show n - (k + 1) < n - k
          omega
      · skip
        have hb : A.getD k false = false := by simpa using hb
        rw [hb] at hnx
        conv => whnf
        refine ⟨by omega, ?_⟩
        conv => whnf
        refine ⟨[0], k + 1, ?_, ?_, ?_⟩
        · conv => whnf
          repeat' (first | exact True.intro | rfl | refine And.intro ?_ ?_)
          show ((wt (A.take (k + 1)) : Nat) : Int) = (wt (A.take k) : Int)
          rw [hnx]; rfl
        · show k + 1 ≤ n
          omega
        · show n - (k + 1) < n - k
          omega
    · skip
      have hge : n ≤ k := by simp at hge; omega
      conv => whnf
      have : k = n := by omega
      rw [this]

noncomputable def c19 : Code := (Try.f19.body).getD .skip
def inv19 (A B : List Bool) (n ca cb : Nat) : LInv := ⟨Nat, fun k => ⟨anyTo 26 [.slice 0 0 n ca, .slice 1 0 n cb, .any, .any, .any, .int .i64 k], [.seg false (.bools A), .seg false (.bools B)]⟩, fun k => k ≤ n ∧ A.take k = B.take k, fun k => n - k⟩
theorem same_q (A B : List Bool) (n m ca cb : Nat) (hn : n ≤ A.length) (hm : m ≤ B.length) (hN : n ≤ 4611686018427387904) :
    QFits Try.prog 19 ⟨[.slice 0 0 n ca, .slice 1 0 m cb], [.seg false (.bools A), .seg false (.bools B)], .bool (decide (A.take n = B.take m))⟩ := by
  refine qfits_of_body (C := cfgk 2) (c := c19) (ts := [4]) tok mixed (fun | 4 => some (inv19 A B n ca cb) | _ => none) (fun _ => none)
    Try.func19 (by kernel_rfl) (by kernel_rfl) (by kernel_rfl) (by kernel_rfl) (by kernel_rfl) rfl rfl ?_
  conv => whnf
  refine tst_in (fun h => ?_) (fun h => ?_)
  · skip
    have hne : n ≠ m := by simp at h; omega
    conv => whnf
    symm
    have : A.take n ≠ B.take m := fun e => by have := congrArg List.length e; simp at this; omega
    simp [this]
  · skip
    have heq : n = m := by simp at h; omega
    subst heq
    conv => whnf
    refine ⟨⟨[0, 1], (0 : Nat), ?_, Nat.zero_le _, by simp⟩, ?_⟩
    · conv => whnf
      repeat' (first | exact True.intro | rfl | refine And.intro ?_ ?_)
    · intro (k : Nat) hk
      obtain ⟨hk, hAB⟩ := hk
      conv => whnf
      refine tst_in (fun hlt => ?_) (fun hge => ?_)
      · skip
        have hlt : k < n := by simp at hlt; omega
        have ha := take_next A k false (by omega)
        have hb := take_next B k false (by omega)
        conv => whnf
        refine ⟨by omega, ?_⟩
        conv => whnf
        refine ⟨by simp; omega, ?_⟩
        conv => whnf
        refine ⟨by omega, ?_⟩
        conv => whnf
        refine ⟨by simp; omega, ?_⟩
        conv => whnf
        refine tst_in (fun hne => ?_) (fun he => ?_)
        · skip
          have hne : A.getD k false ≠ B.getD k false := by simpa using hne
          conv => whnf
          symm
          have : A.take n ≠ B.take n := fun e => by
            have e2 := congrArg (fun l => l.take (k + 1)) e
            simp only [List.take_take, Nat.min_eq_left (show k + 1 ≤ n by omega)] at e2
            rw [ha, hb, hAB] at e2
            simp at e2
            exact hne (by simpa using e2)
          simp [this]
        · skip
          have he : A.getD k false = B.getD k false := by simpa using he
          conv => whnf
          refine ⟨by omega, ?_⟩
          conv => whnf
          refine ⟨[0, 1], k + 1, ?_, ?_, ?_⟩
          · conv => whnf
            repeat' (first | exact True.intro | rfl | refine And.intro ?_ ?_)
          · exact ⟨by show k + 1 ≤ n; omega, by show A.take (k + 1) = B.take (k + 1); rw [ha, hb, hAB, he]⟩
          · show n - (k + 1) < n - k
            omega
      · skip
        have hge : n ≤ k := by simp at hge; omega
        conv => whnf
        have : k = n := by omega
        subst this
        simp [hAB]

/-- One slice made anew, which holds xs: how much room is behind it is open. -/
def rowOut (k : Nat) (pre : List Seg) (xs : List Bool) (f : AV → AV) : FOut := ⟨List Bool, fun _ => True, fun tl => f (.slice k 0 xs.length (xs.length + tl.length)), fun tl => pre ++ [.seg true (.bools (xs ++ tl))]⟩

/-- What is set in just one. -/
def xr (a b : List Bool) : List Bool := List.zipWith (fun x y => x != y) a b
theorem xr_len (a b : List Bool) (h : a.length = b.length) : (xr a b).length = a.length := by simp [xr, h]
theorem xr_next (A B : List Bool) (k : Nat) (ha : k < A.length) (hb : k < B.length) : xr (A.take (k + 1)) (B.take (k + 1)) = xr (A.take k) (B.take k) ++ [A.getD k false != B.getD k false] := by
  rw [take_next A k false ha, take_next B k false hb]
  unfold xr
  rw [List.zipWith_append (by simp; omega)]
  rfl
theorem xr_take_len (A B : List Bool) (k : Nat) (ha : k ≤ A.length) (hb : k ≤ B.length) : (xr (A.take k) (B.take k)).length = k := by simp [xr]; omega

def xrOk (n m : Nat) (A B : List Bool) : List Bool := if n ≤ 32768 ∧ n = m then xr (A.take n) (B.take n) else []
def erOk (n m : Nat) : Int := if n ≤ 32768 ∧ n = m then 0 else 1
def xrSpec (n m ca cb : Nat) (A B : List Bool) : FSpec := ⟨[.slice 0 0 n ca, .slice 1 0 m cb], [.seg false (.bools A), .seg false (.bools B)],
  [rowOut 2 [.dead, .dead] (xrOk n m A B) fun s => .tup [s, .int .i64 (erOk n m)]]⟩

noncomputable def c20 : Code := (Try.f20.body).getD .skip
def inv20 (A B : List Bool) (n ca cb : Nat) : LInv := ⟨Nat, fun k => ⟨anyTo 40 [.slice 0 0 n ca, .slice 1 0 n cb, .any, .any, .any, .any, .slice 2 0 n n, .any, .any, .any, .any, .any, .any, .any, .any, .any, .any, .any, .any, .any, .any, .any, .int .i64 n, .int .i64 k],
  [.seg false (.bools A), .seg false (.bools B), .seg true (.bools (xr (A.take k) (B.take k) ++ List.replicate (n - k) false))]⟩, fun k => k ≤ n, fun k => n - k⟩

theorem set_fill (l : List Bool) (k r : Nat) (x : Bool) (hl : l.length = k) : (l ++ List.replicate (r + 1) false).set k x = l ++ [x] ++ List.replicate r false := by
  subst hl
  simp [List.replicate_succ]

set_option maxRecDepth 100000 in
theorem Xor_f (A B : List Bool) (n m ca cb : Nat) (hn : n ≤ A.length) (hm : m ≤ B.length) : Fits Try.prog 20 (xrSpec n m ca cb A B) := by
  refine fits_of_body (C := cfgk 2) (c := c20) (ts := [4, 5]) tok mixed (fun | 5 => some (inv20 A B n ca cb) | _ => none) (fun _ => none)
    Try.func20 (by kernel_rfl) (by kernel_rfl) (by kernel_rfl) (by kernel_rfl) rfl ?_
  conv => whnf
  refine ⟨_, [0], isRow_q n ca, ?_⟩
  conv => whnf
  refine ⟨⟨?_, True.intro⟩, ⟨True.intro, True.intro⟩, ?_⟩
  · conv => whnf
    repeat' (first | exact True.intro | rfl | refine And.intro ?_ ?_)
  conv => whnf
  have no : ¬ (n ≤ 32768 ∧ n = m) → xrOk n m A B = [] ∧ erOk n m = 1 := fun h => by simp only [xrOk, erOk, if_neg h, and_self]
  have yes : (n ≤ 32768 ∧ n = m) → xrOk n m A B = xr (A.take n) (B.take n) ∧ erOk n m = 0 := fun h => by simp only [xrOk, erOk, if_pos h, and_self]
  refine tst_in (fun h => ?_) (fun h => ?_)
  · skip
    have h : ¬ (n : Int) ≤ 32768 := by simpa using h
    obtain ⟨e1, e2⟩ := no (by omega)
    conv => whnf
    refine .inl ⟨([] : List Bool), [0, 1, 9], ?_⟩
    conv => whnf
    rw [e1, e2]
    repeat' (first | exact True.intro | rfl | refine And.intro ?_ ?_)
  · skip
    have h : (n : Int) ≤ 32768 := by simpa using h
    conv => whnf
    refine tst_in (fun h2 => ?_) (fun h2 => ?_)
    · skip
      have h2 : ¬ n = m := by simp at h2; omega
      obtain ⟨e1, e2⟩ := no (by omega)
      conv => whnf
      refine .inl ⟨([] : List Bool), [0, 1, 9], ?_⟩
      conv => whnf
      rw [e1, e2]
      repeat' (first | exact True.intro | rfl | refine And.intro ?_ ?_)
    · skip
      have h2 : n = m := by simp at h2; omega
      subst h2
      obtain ⟨e1, e2⟩ := yes ⟨by omega, rfl⟩
      conv => whnf
      refine ⟨⟨by omega, by omega, by show (1 : Int) * n ≤ 281474976710656; omega, by omega⟩, ?_⟩
      conv => whnf
      refine ⟨⟨[0, 1, 2], (0 : Nat), ?_, Nat.zero_le _⟩, ?_⟩
      · conv => whnf
        repeat' (first | exact True.intro | rfl | refine And.intro ?_ ?_)
      · intro (k : Nat) (hk : k ≤ n)
        conv => whnf
        refine tst_in (fun hlt => ?_) (fun hge => ?_)
        · skip
          have hlt : k < n := by simp at hlt; omega
          have hx := xr_take_len A B k (by omega) (by omega)
          have hxn := xr_next A B k (by omega) (by omega)
          conv => whnf
          refine ⟨by omega, ?_⟩
          conv => whnf
          refine ⟨by simp; omega, ?_⟩
          conv => whnf
          refine ⟨by omega, ?_⟩
          conv => whnf
          refine ⟨by simp; omega, ?_⟩
          conv => whnf
          refine ⟨by omega, ?_⟩
          conv => whnf
          refine ⟨by simp [hx]; omega, ?_⟩
          conv => whnf
          refine ⟨by omega, ?_⟩
          conv => whnf
          refine ⟨[0, 1, 2], (k + 1 : Nat), ?_, ?_, ?_⟩
          · conv => whnf
            repeat' (first | exact True.intro | rfl | refine And.intro ?_ ?_)
            conv => whnf
            rw [Nat.zero_add, Int.toNat_natCast, hxn, show n - k = (n - (k + 1)) + 1 by omega, set_fill _ k _ _ hx]
          · show k + 1 ≤ n
            omega
          · show n - (k + 1) < n - k
            omega
        · skip
          have hge : n ≤ k := by simp at hge; omega
          have : k = n := by omega
          subst this
          conv => whnf
          refine .inl ⟨([] : List Bool), [0, 1, 2], ?_⟩
          conv => whnf
          rw [e1, e2]
          repeat' (first | exact True.intro | rfl | refine And.intro ?_ ?_)
          · exact xr_take_len A B k (by omega) (by omega)
          · exact xr_take_len A B k (by omega) (by omega)
          · conv => whnf
            simp

def wtSpec (n m ca cb : Nat) (A B : List Bool) : FSpec := ⟨[.slice 0 0 n ca, .slice 1 0 m cb], [.seg false (.bools A), .seg false (.bools B)],
  [⟨Unit, fun _ => True, fun _ => .tup [.int .i64 (wt (xrOk n m A B)), .int .i64 (erOk n m)], fun _ => [.dead, .dead]⟩]⟩

theorem xrOk_len (n m : Nat) (A B : List Bool) : (xrOk n m A B).length ≤ 32768 := by
  unfold xrOk; split
  · simp [xr]; omega
  · simp

noncomputable def c38 : Code := (Try.f38.body).getD .skip
theorem Distance_f (A B : List Bool) (n m ca cb : Nat) (hn : n ≤ A.length) (hm : m ≤ B.length) : Fits Try.prog 38 (wtSpec n m ca cb A B) := by
  refine fits_of_body (C := cfgk 2) (c := c38) (ts := [4, 5]) tok mixed (fun _ => none) (fun _ => none)
    Try.func38 (by kernel_rfl) (by kernel_rfl) (by kernel_rfl) (by kernel_rfl) rfl ?_
  have hl := xrOk_len n m A B
  conv => whnf
  refine ⟨_, [0, 1], Xor_f A B n m ca cb hn hm, ?_⟩
  conv => whnf
  refine ⟨?_, ?_, ?_⟩
  · conv => whnf
    repeat' (first | exact True.intro | rfl | refine And.intro ?_ ?_)
  · conv => whnf
    repeat' (first | exact True.intro | rfl | refine And.intro ?_ ?_)
  conv => whnf
  refine ⟨?_, True.intro⟩
  intro (tl : List Bool) _
  conv => whnf
  refine ⟨_, [2], Weight_q (xrOk n m A B ++ tl) (xrOk n m A B).length ((xrOk n m A B).length + tl.length) (by simp) (by omega), ?_⟩
  conv => whnf
  refine ⟨?_, ?_, ?_⟩
  · conv => whnf
    repeat' (first | exact True.intro | rfl | refine And.intro ?_ ?_)
  · conv => whnf
    repeat' (first | exact True.intro | rfl | refine And.intro ?_ ?_)
  conv => whnf
  refine .inl ⟨(), [0, 1], ?_⟩
  conv => whnf
  repeat' (first | exact True.intro | rfl | refine And.intro ?_ ?_)
  · show ((wt (xrOk n m A B) : Nat) : Int) = (wt ((xrOk n m A B ++ tl).take (xrOk n m A B).length) : Nat)
    rw [List.take_left]

noncomputable def c41 : Code := (Try.f41.body).getD .skip
def inv41 (A : List Bool) (n cap : Nat) : LInv := ⟨Nat, fun k => ⟨anyTo 18 [.slice 0 0 n cap, .any, .any, .int .i64 (wt (A.take k)), .int .i64 k], [.seg false (.bools A)]⟩, fun k => k ≤ n, fun k => n - k⟩
theorem refWeight_q (A : List Bool) (n cap : Nat) (hn : n ≤ A.length) (hm : n ≤ 4611686018427387904) : QFits Try.prog 41 ⟨[.slice 0 0 n cap], [.seg false (.bools A)], .int .i64 (wt (A.take n))⟩ := by
  refine qfits_of_body (C := cfgk 1) (c := c41) (ts := [2]) tok mixed (fun | 3 => some (inv41 A n cap) | _ => none) (fun _ => none)
    Try.func41 (by kernel_rfl) (by kernel_rfl) (by kernel_rfl) (by kernel_rfl) (by kernel_rfl) rfl rfl ?_
  conv => whnf
  refine ⟨⟨[0], (0 : Nat), ?_, Nat.zero_le _⟩, ?_⟩
  · conv => whnf
    repeat' (first | exact True.intro | rfl | refine And.intro ?_ ?_)
  · intro (k : Nat) (hk : k ≤ n)
    have hw := wt_take_le A k
    conv => whnf
    refine tst_in (fun hlt => ?_) (fun hge => ?_)
    · skip
      have hlt : k < n := by simp at hlt; omega
      have hnx := wt_next A k (by omega)
      conv => whnf
      refine ⟨by omega, ?_⟩
      conv => whnf
      refine ⟨by simp; omega, ?_⟩
      conv => whnf
      refine tst_in (fun hb => ?_) (fun hb => ?_)
      · skip
        have hb : A.getD k false = true := by simpa using hb
        rw [hb] at hnx
        conv => whnf
        refine ⟨by omega, ?_⟩
        conv => whnf
        refine ⟨by omega, ?_⟩
        conv => whnf
        refine ⟨[0], (k + 1 : Nat), ?_, ?_, ?_⟩
        · conv => whnf
          repeat' (first | exact True.intro | rfl | refine And.intro ?_ ?_)
          show ((wt (A.take (k + 1)) : Nat) : Int) = (wt (A.take k) : Int) + 1
          rw [hnx]; rfl
        · show k + 1 ≤ n
          omega
        · show n - (k + 1) < n - k
          omega
      · skip
        have hb : A.getD k false = false := by simpa using hb
        rw [hb] at hnx
        conv => whnf
        refine ⟨by omega, ?_⟩
        conv => whnf
        refine ⟨[0], (k + 1 : Nat), ?_, ?_, ?_⟩
        · conv => whnf
          repeat' (first | exact True.intro | rfl | refine And.intro ?_ ?_)
          show ((wt (A.take (k + 1)) : Nat) : Int) = (wt (A.take k) : Int)
          rw [hnx]; rfl
        · show k + 1 ≤ n
          omega
        · show n - (k + 1) < n - k
          omega
    · skip
      have hge : n ≤ k := by simp at hge; omega
      conv => whnf
      have : k = n := by omega
      rw [this]

def cfgp (k r : Nat) (p : List Nat) : Cfg := { T := tys, sgn := fun _ => false, wr := fun _ => false, k := k, q := qf, plan := fun i => match Nat.beq i r with | true => some (.lin p .done) | false => none }
noncomputable def c37 : Code := (Try.f37.body).getD .skip
def inv37 (A B : List Bool) (n ca cb : Nat) : LInv := ⟨Nat × List Bool, fun p => ⟨anyTo 42 [.slice 0 0 n ca, .slice 1 0 n cb, .any, .any, .any, .any, .slice 2 0 p.1 (p.1 + p.2.length), .int .i64 p.1],
  [.seg false (.bools A), .seg false (.bools B), .seg true (.bools (xr (A.take p.1) (B.take p.1) ++ p.2))]⟩, fun p => p.1 ≤ n, fun p => n - p.1⟩

set_option maxRecDepth 100000 in
theorem refXor_f (A B : List Bool) (n m ca cb : Nat) (hn : n ≤ A.length) (hm : m ≤ B.length) : Fits Try.prog 37 (xrSpec n m ca cb A B) := by
  refine fits_of_body (C := cfgp 2 7 [0, 1, 2, 3, 4, 5, 6, 7, 8, 9, 10, 11, 12]) (c := c37) (ts := [4, 5]) tok mixed (fun | 5 => some (inv37 A B n ca cb) | _ => none) (fun _ => none)
    Try.func37 (by kernel_rfl) (by kernel_rfl) (by kernel_rfl) (by kernel_rfl) rfl ?_
  have no : ¬ (n ≤ 32768 ∧ n = m) → xrOk n m A B = [] ∧ erOk n m = 1 := fun h => by simp only [xrOk, erOk, if_neg h, and_self]
  have yes : (n ≤ 32768 ∧ n = m) → xrOk n m A B = xr (A.take n) (B.take n) ∧ erOk n m = 0 := fun h => by simp only [xrOk, erOk, if_pos h, and_self]
  conv => whnf
  refine tst_in (fun h => ?_) (fun h => ?_)
  · skip
    have h : (32768 : Int) < n := by simpa using h
    obtain ⟨e1, e2⟩ := no (by omega)
    conv => whnf
    refine .inl ⟨([] : List Bool), [0, 1, 9], ?_⟩
    conv => whnf
    rw [e1, e2]
    repeat' (first | exact True.intro | rfl | refine And.intro ?_ ?_)
  · skip
    have h : ¬ (32768 : Int) < n := by simpa using h
    conv => whnf
    refine tst_in (fun h1 => ?_) (fun h1 => ?_)
    · skip
      have h1 : (32768 : Int) < m := by simpa using h1
      obtain ⟨e1, e2⟩ := no (by omega)
      conv => whnf
      refine .inl ⟨([] : List Bool), [0, 1, 9], ?_⟩
      conv => whnf
      rw [e1, e2]
      repeat' (first | exact True.intro | rfl | refine And.intro ?_ ?_)
    · skip
      conv => whnf
      refine tst_in (fun h2 => ?_) (fun h2 => ?_)
      · skip
        have h2 : ¬ n = m := by simp at h2; omega
        obtain ⟨e1, e2⟩ := no (by omega)
        conv => whnf
        refine .inl ⟨([] : List Bool), [0, 1, 9], ?_⟩
        conv => whnf
        rw [e1, e2]
        repeat' (first | exact True.intro | rfl | refine And.intro ?_ ?_)
      · skip
        have h2 : n = m := by simp at h2; omega
        subst h2
        obtain ⟨e1, e2⟩ := yes ⟨by omega, rfl⟩
        conv => whnf
        refine ⟨⟨[0, 1, 9], ((0, []) : Nat × List Bool), ?_, Nat.zero_le _⟩, ?_⟩
        · conv => whnf
          repeat' (first | exact True.intro | rfl | refine And.intro ?_ ?_)
        · rintro ⟨k, tl⟩ hk
          have hk : k ≤ n := hk
          conv => whnf
          refine tst_in (fun hlt => ?_) (fun hge => ?_)
          · skip
            have hlt : k < n := by simp at hlt; omega
            have hx := xr_take_len A B k (by omega) (by omega)
            have hxn := xr_next A B k (by omega) (by omega)
            conv => whnf
            refine ⟨by omega, ?_⟩
            conv => whnf
            refine ⟨by simp; omega, ?_⟩
            conv => whnf
            refine ⟨by omega, ?_⟩
            conv => whnf
            refine ⟨by simp; omega, ?_⟩
            conv => whnf
            refine ⟨by show 0 + 1 ≤ 1; omega, ?_⟩
            conv => whnf
            refine ⟨by show 0 + (k + tl.length) ≤ (xr (A.take k) (B.take k) ++ tl).length; simp [hx], ?_⟩
            conv => whnf
            refine ⟨⟨by omega, by show (k + 1) * 1 ≤ 140737488355328; omega⟩, ?_⟩
            conv => whnf
            intro tl2
            conv => whnf
            refine ⟨by omega, ?_⟩
            conv => whnf
            refine ⟨[0, 1, 4], ((k + 1, tl2) : Nat × List Bool), ?_, ?_, ?_⟩
            · conv => whnf
              repeat' (first | exact True.intro | rfl | refine And.intro ?_ ?_)
              conv => whnf
              show xr (A.take (k + 1)) (B.take (k + 1)) ++ tl2 = (((xr (A.take k) (B.take k) ++ tl).drop 0).take k ++ (([A.getD (0 + k) false != B.getD (0 + k) false]).drop 0).take 1) ++ tl2
              rw [hxn, Nat.zero_add, List.drop_zero, List.drop_zero, List.take_left' hx]
              rfl
            · show k + 1 ≤ n
              omega
            · show n - (k + 1) < n - k
              omega
          · skip
            have hge : n ≤ k := by simp at hge; omega
            have : k = n := by omega
            subst this
            conv => whnf
            refine .inl ⟨tl, [0, 1, 2], ?_⟩
            conv => whnf
            rw [e1, e2]
            repeat' (first | exact True.intro | rfl | refine And.intro ?_ ?_)
            · exact xr_take_len A B k (by omega) (by omega)
            · show (xr (A.take k) (B.take k)).length + tl.length = k + tl.length
              rw [xr_take_len A B k (by omega) (by omega)]

def marks : List Bool := [true, false, true, true]
def lentSpec (A : List Bool) (n ca : Nat) : FSpec := ⟨[.slice 0 0 n ca], [.seg false (.bools A)],
  [⟨List Bool, fun _ => True, fun tl => .tup [.slice 1 0 n (n + 4 + tl.length), .slice 1 0 (n + 4 : Nat) (n + 4 + tl.length)], fun tl => [.dead, .seg true (.bools (A.take n ++ marks ++ tl))]⟩]⟩
noncomputable def c26 : Code := (Try.f26.body).getD .skip
set_option maxRecDepth 100000 in
theorem lent_f (A : List Bool) (n ca : Nat) (hn : n ≤ A.length) (hN : n ≤ 140737488351232) : Fits Try.prog 26 (lentSpec A n ca) := by
  refine fits_of_body (C := cfgk 1) (c := c26) (ts := [2, 3]) tok mixed (fun _ => none) (fun _ => none)
    Try.func26 (by kernel_rfl) (by kernel_rfl) (by kernel_rfl) (by kernel_rfl) rfl ?_
  conv => whnf
  repeat (refine And.intro ?_ ?_; (focus (first | omega | ((conv => whnf); omega) | (simp [mulSz, Cont.len]; done) | (simp [mulSz, Cont.len]; omega))); conv => whnf)
  intro (tl : List Bool)
  conv => whnf
  repeat (refine And.intro ?_ ?_; (focus (first | omega | ((conv => whnf); omega) | (simp [mulSz, Cont.len]; done) | (simp [mulSz, Cont.len]; omega))); conv => whnf)
  intro (tl2 : List Bool)
  conv => whnf
  repeat (refine And.intro ?_ ?_; (focus (first | omega | ((conv => whnf); omega) | (simp [mulSz, Cont.len]; done) | (simp [mulSz, Cont.len]; omega))); conv => whnf)
  refine .inl ⟨tl2, [0, 4], ?_⟩
  conv => whnf
  repeat' (first | exact True.intro | rfl | refine And.intro ?_ ?_ | omega)
  all_goals (conv => whnf)
  all_goals (try (first | rfl | omega | (simp [mulSz, marks, List.take_append_of_le_length, hn]; done) | (simp [mulSz, marks, List.take_append_of_le_length, hn]; omega)))

def turnSpec (A : List Bool) (n ca : Nat) : FSpec := ⟨[.slice 0 0 n ca], [.seg true (.bools A)],
  [⟨Unit, fun _ => True, fun _ => .tup [], fun _ => [.seg true (.bools ((A.take n).map (!·) ++ A.drop n))]⟩]⟩
def inv33 (A : List Bool) (n ca : Nat) : LInv := ⟨Nat, fun k => ⟨anyTo 17 [.slice 0 0 n ca, .any, .int .i64 k], [.seg true (.bools ((A.take k).map (!·) ++ A.drop k))]⟩, fun k => k ≤ n, fun k => n - k⟩
noncomputable def c33 : Code := (Try.f33.body).getD .skip
theorem turn_next (A : List Bool) (k : Nat) (h : k < A.length) : ((A.take k).map (!·) ++ A.drop k).set k (!A.getD k false) = (A.take (k + 1)).map (!·) ++ A.drop (k + 1) := by
  have hl : ((A.take k).map (!·)).length = k := by simp; omega
  rw [take_next A k false h, List.set_append_right _ _ (by omega), hl, Nat.sub_self, List.drop_eq_getElem_cons h, List.set_cons_zero, List.map_append, List.append_assoc]
  rfl
theorem turn_get (A : List Bool) (k : Nat) (h : k < A.length) : ((A.take k).map (!·) ++ A.drop k).getD k false = A.getD k false := by
  have hl : ((A.take k).map (!·)).length = k := by simp; omega
  simp only [List.getD, List.getElem?_append_right (show ((A.take k).map (!·)).length ≤ k by omega), hl, Nat.sub_self, List.drop_eq_getElem_cons h]
  simp [h]
set_option maxRecDepth 100000 in
theorem turn_f (A : List Bool) (n ca : Nat) (hn : n ≤ A.length) (hN : n ≤ 4611686018427387904) : Fits Try.prog 33 (turnSpec A n ca) := by
  refine fits_of_body (C := cfgk 1) (c := c33) (ts := []) tok mixed (fun | 1 => some (inv33 A n ca) | _ => none) (fun _ => none)
    Try.func33 (by kernel_rfl) (by kernel_rfl) (by kernel_rfl) (by kernel_rfl) rfl ?_
  conv => whnf
  refine ⟨⟨[0], (0 : Nat), ?_, Nat.zero_le _⟩, ?_⟩
  · conv => whnf
    repeat' (first | exact True.intro | rfl | refine And.intro ?_ ?_ | omega)
    all_goals (conv => whnf)
    all_goals (try (first | rfl | omega | (simp; done) | (simp; omega)))
  · intro (k : Nat) (hk : k ≤ n)
    conv => whnf
    refine tst_in (fun hlt => ?_) (fun hge => ?_)
    · have hlt : k < n := by simp at hlt; omega
      conv => whnf
      repeat (refine And.intro ?_ ?_; (focus (first | omega | ((conv => whnf); omega) | (simp [mulSz, Cont.len]; done) | (simp [mulSz, Cont.len]; omega))); conv => whnf)
      refine ⟨[0], (k + 1 : Nat), ?_, (by omega : k + 1 ≤ n), (by omega : n - (k + 1) < n - k)⟩
      conv => whnf
      repeat' (first | exact True.intro | rfl | refine And.intro ?_ ?_ | omega)
      all_goals (conv => whnf)
      all_goals (try (first | rfl | omega | (simp; done) | (simp; omega)))
      conv => whnf
      rw [Nat.zero_add, Int.toNat_natCast, turn_get A k (by omega), turn_next A k (by omega)]
    · have hge : n ≤ k := by simp at hge; omega
      have : k = n := by omega
      subst this
      conv => whnf
      refine .inl ⟨(), [0], ?_⟩
      conv => whnf
      repeat' (first | exact True.intro | rfl | refine And.intro ?_ ?_ | omega)
      all_goals (conv => whnf)
      all_goals (try (first | rfl | omega | (simp; done) | (simp; omega)))

noncomputable def c32 : Code := (Try.f32.body).getD .skip
set_option maxRecDepth 100000 in
theorem unhurt_q (A tl : List Bool) (n ca c : Nat) (hn : n ≤ A.length) (hN : n ≤ 140737488351232) (hc : n + 4 ≤ c) : QFits Try.prog 32 ⟨[.slice 0 0 (n + 4 : Nat) c, .slice 1 0 n ca], [.seg true (.bools (A.take n ++ marks ++ tl)), .seg false (.bools A)], .bool true⟩ := by
  refine qfits_of_body (C := cfgk 2) (c := c32) (ts := [4]) tok mixed (fun _ => none) (fun _ => none)
    Try.func32 (by kernel_rfl) (by kernel_rfl) (by kernel_rfl) (by kernel_rfl) (by kernel_rfl) rfl rfl ?_
  have hl : (A.take n).length = n := by simp; omega
  have e : (A.take n ++ marks ++ tl).take n = A.take n := by rw [List.append_assoc, List.take_left' hl]
  have g : ∀ k b, marks[k]? = some b → (A.take n ++ marks ++ tl).getD (n + k) false = b := fun k b h => by
    have hk : k < marks.length := (List.getElem?_eq_some_iff.1 h).1
    rw [List.append_assoc, List.getD, List.getElem?_append_right (by omega), hl, Nat.add_sub_cancel_left, List.getElem?_append_left hk, h]
    rfl
  have g0 : (A.take n ++ marks ++ tl).getD (0 + ((n : Nat) : Int).toNat) false = true := by rw [Nat.zero_add, Int.toNat_natCast]; exact g 0 _ rfl
  have g1 : (A.take n ++ marks ++ tl).getD (0 + (((n : Nat) : Int) + 1).toNat) false = false := by rw [Nat.zero_add, show (((n : Nat) : Int) + 1).toNat = n + 1 by omega]; exact g 1 _ rfl
  have g2 : (A.take n ++ marks ++ tl).getD (0 + (((n : Nat) : Int) + 2).toNat) false = true := by rw [Nat.zero_add, show (((n : Nat) : Int) + 2).toNat = n + 2 by omega]; exact g 2 _ rfl
  have g3 : (A.take n ++ marks ++ tl).getD (0 + (((n : Nat) : Int) + 3).toNat) false = true := by rw [Nat.zero_add, show (((n : Nat) : Int) + 3).toNat = n + 3 by omega]; exact g 3 _ rfl
  have hlen : (A.take n ++ marks ++ tl).length = n + 4 + tl.length := by simp [marks]; omega
  conv => whnf
  repeat (refine And.intro ?_ ?_; (focus (first | omega | ((conv => whnf); omega) | (simp [mulSz, Cont.len]; done) | (simp [mulSz, Cont.len]; omega))); conv => whnf)
  refine tst_in (fun _ => ?_) (fun h_ => False.elim (by simp at h_ <;> omega))
  conv => whnf
  conv => whnf
  repeat (refine And.intro ?_ ?_; (focus (first | omega | ((conv => whnf); omega) | (simp [mulSz, Cont.len]; done) | (simp [mulSz, Cont.len]; omega))); conv => whnf)
  refine ⟨_, [0, 1], same_q (A.take n ++ marks ++ tl) A n n c ca (by omega) hn (by omega), ?_⟩
  conv => whnf
  refine ⟨?_, ?_, ?_⟩
  · conv => whnf
    repeat' (first | exact True.intro | rfl | refine And.intro ?_ ?_ | omega)
    all_goals (conv => whnf)
    all_goals (try (first | rfl | omega | (simp; done)))
  · conv => whnf
    repeat' (first | exact True.intro | rfl | refine And.intro ?_ ?_ | omega)
    all_goals (conv => whnf)
    all_goals (try (first | rfl | omega | (simp; done)))
  conv => whnf
  rw [e]
  conv => whnf
  repeat (refine And.intro ?_ ?_; (focus (first | omega | ((conv => whnf); omega) | (simp [mulSz, Cont.len]; done) | (simp [mulSz, Cont.len]; omega))); conv => whnf)
  refine tst_in (fun _ => ?_) (fun h_ => False.elim (by simp at h_ <;> omega))
  conv => whnf
  conv => whnf
  repeat (refine And.intro ?_ ?_; (focus (first | omega | ((conv => whnf); omega) | (simp [mulSz, Cont.len, hlen]; done) | (simp [mulSz, Cont.len, hlen]; omega))); conv => whnf)
  refine tst_in (fun _ => ?_) (fun h_ => absurd h_ (by rw [g0]; decide))
  conv => whnf
  conv => whnf
  repeat (refine And.intro ?_ ?_; (focus (first | omega | ((conv => whnf); omega) | (simp [mulSz, Cont.len, hlen]; done) | (simp [mulSz, Cont.len, hlen]; omega))); conv => whnf)
  refine tst_in (fun _ => ?_) (fun h_ => absurd h_ (by rw [g1]; decide))
  conv => whnf
  conv => whnf
  repeat (refine And.intro ?_ ?_; (focus (first | omega | ((conv => whnf); omega) | (simp [mulSz, Cont.len, hlen]; done) | (simp [mulSz, Cont.len, hlen]; omega))); conv => whnf)
  refine tst_in (fun _ => ?_) (fun h_ => absurd h_ (by rw [g2]; decide))
  conv => whnf
  conv => whnf
  repeat (refine And.intro ?_ ?_; (focus (first | omega | ((conv => whnf); omega) | (simp [mulSz, Cont.len, hlen]; done) | (simp [mulSz, Cont.len, hlen]; omega))); conv => whnf)
  rw [g3]

noncomputable def c39 : Code := (Try.f39.body).getD .skip
theorem refDistance_f (A B : List Bool) (n m ca cb : Nat) (hn : n ≤ A.length) (hm : m ≤ B.length) : Fits Try.prog 39 (wtSpec n m ca cb A B) := by
  refine fits_of_body (C := cfgk 2) (c := c39) (ts := [4, 5]) tok mixed (fun _ => none) (fun _ => none)
    Try.func39 (by kernel_rfl) (by kernel_rfl) (by kernel_rfl) (by kernel_rfl) rfl ?_
  have hl := xrOk_len n m A B
  conv => whnf
  refine ⟨_, [0, 1], refXor_f A B n m ca cb hn hm, ?_⟩
  conv => whnf
  refine ⟨?_, ?_, ?_⟩
  · conv => whnf
    repeat' (first | exact True.intro | rfl | refine And.intro ?_ ?_ | omega)
    all_goals (conv => whnf)
    all_goals (try (first | rfl | omega | (simp; done)))
  · conv => whnf
    repeat' (first | exact True.intro | rfl | refine And.intro ?_ ?_ | omega)
    all_goals (conv => whnf)
    all_goals (try (first | rfl | omega | (simp; done)))
  conv => whnf
  refine ⟨?_, True.intro⟩
  intro (tl : List Bool) _
  conv => whnf
  refine ⟨_, [2], refWeight_q (xrOk n m A B ++ tl) (xrOk n m A B).length ((xrOk n m A B).length + tl.length) (by simp) (by omega), ?_⟩
  conv => whnf
  refine ⟨?_, ?_, ?_⟩
  · conv => whnf
    repeat' (first | exact True.intro | rfl | refine And.intro ?_ ?_ | omega)
    all_goals (conv => whnf)
    all_goals (try (first | rfl | omega | (simp; done)))
  · conv => whnf
    repeat' (first | exact True.intro | rfl | refine And.intro ?_ ?_ | omega)
    all_goals (conv => whnf)
    all_goals (try (first | rfl | omega | (simp; done)))
  conv => whnf
  refine .inl ⟨(), [0, 1], ?_⟩
  conv => whnf
  repeat' (first | exact True.intro | rfl | refine And.intro ?_ ?_ | omega)
  all_goals (conv => whnf)
  all_goals (try (first | rfl | omega | (simp; done) | (simp; omega)))

def padLen (n m : Nat) : Nat := (n + m - 1) / m * m
def padOk (n : Nat) (m : Int) : Bool := decide (n ≤ 32768 ∧ 1 ≤ m ∧ m ≤ 4096 ∧ padLen n m.toNat ≤ 32768)
def padRow (A : List Bool) (n : Nat) (m : Int) : List Bool := if padOk n m then A.take n ++ List.replicate (padLen n m.toNat - n) false else []
def padErr (n : Nat) (m : Int) : Int := if padOk n m then 0 else 1
def padSpec (A : List Bool) (n ca : Nat) (m : Int) : FSpec := ⟨[.slice 0 0 n ca, .int .i64 m], [.seg false (.bools A)], [rowOut 1 [.dead] (padRow A n m) fun s => .tup [s, .int .i64 (padErr n m)]]⟩

theorem pad_ge (n m : Nat) (h : 1 ≤ m) : n ≤ padLen n m := by
  unfold padLen
  have := Nat.div_add_mod (n + m - 1) m
  have := Nat.mod_lt (n + m - 1) (show 0 < m by omega)
  rw [Nat.mul_comm]
  omega

noncomputable def c21 : Code := (Try.f21.body).getD .skip
set_option maxRecDepth 100000 in
theorem Pad_f (A : List Bool) (n ca : Nat) (m : Int) (hn : n ≤ A.length) : Fits Try.prog 21 (padSpec A n ca m) := by
  refine fits_of_body (C := cfgk 1) (c := c21) (ts := [4, 5]) tok mixed (fun _ => none) (fun _ => none)
    Try.func21 (by kernel_rfl) (by kernel_rfl) (by kernel_rfl) (by kernel_rfl) rfl ?_
  have no : ¬ (n ≤ 32768 ∧ 1 ≤ m ∧ m ≤ 4096 ∧ padLen n m.toNat ≤ 32768) → padRow A n m = [] ∧ padErr n m = 1 := fun h => by simp [padRow, padErr, padOk, h]
  have yes : (n ≤ 32768 ∧ 1 ≤ m ∧ m ≤ 4096 ∧ padLen n m.toNat ≤ 32768) → padRow A n m = A.take n ++ List.replicate (padLen n m.toNat - n) false ∧ padErr n m = 0 := fun h => by simp [padRow, padErr, padOk, h]
  conv => whnf
  refine ⟨_, [0], isRow_q n ca, ?_⟩
  conv => whnf
  refine ⟨?_, ?_, ?_⟩
  · conv => whnf
    repeat' (first | exact True.intro | rfl | refine And.intro ?_ ?_ | omega)
    all_goals (conv => whnf)
    all_goals (try (first | rfl | omega | (simp; done)))
  · conv => whnf
    repeat' (first | exact True.intro | rfl | refine And.intro ?_ ?_ | omega)
    all_goals (conv => whnf)
    all_goals (try (first | rfl | omega | (simp; done)))
  conv => whnf
  refine tst_in (fun h => ?_) (fun h => ?_)
  · have h : ¬ (n : Int) ≤ 32768 := by simpa using h
    obtain ⟨e1, e2⟩ := no (by omega)
    conv => whnf
    repeat (refine And.intro ?_ ?_; (focus (first | omega | ((conv => whnf); omega) | (simp [mulSz, Cont.len]; done) | (simp [mulSz, Cont.len]; omega))); conv => whnf)
    refine .inl ⟨([] : List Bool), [0, 9], ?_⟩
    conv => whnf
    rw [e1, e2]
    conv => whnf
    repeat' (first | exact True.intro | rfl | refine And.intro ?_ ?_ | omega)
    all_goals (conv => whnf)
    all_goals (try (first | rfl | omega | (simp; done) | (simp; omega)))
  · have h : (n : Int) ≤ 32768 := by simpa using h
    conv => whnf
    refine tst_in (fun h1 => ?_) (fun h1 => ?_)
    · have h1 : m < 1 := by simpa using h1
      obtain ⟨e1, e2⟩ := no (by omega)
      conv => whnf
      repeat (refine And.intro ?_ ?_; (focus (first | omega | ((conv => whnf); omega) | (simp [mulSz, Cont.len]; done) | (simp [mulSz, Cont.len]; omega))); conv => whnf)
      refine .inl ⟨([] : List Bool), [0, 9], ?_⟩
      conv => whnf
      rw [e1, e2]
      conv => whnf
      repeat' (first | exact True.intro | rfl | refine And.intro ?_ ?_ | omega)
      all_goals (conv => whnf)
      all_goals (try (first | rfl | omega | (simp; done) | (simp; omega)))
    · have h1 : ¬ m < 1 := by simpa using h1
      conv => whnf
      refine tst_in (fun h2 => ?_) (fun h2 => ?_)
      · have h2 : 4096 < m := by simpa using h2
        obtain ⟨e1, e2⟩ := no (by omega)
        conv => whnf
        repeat (refine And.intro ?_ ?_; (focus (first | omega | ((conv => whnf); omega) | (simp [mulSz, Cont.len]; done) | (simp [mulSz, Cont.len]; omega))); conv => whnf)
        refine .inl ⟨([] : List Bool), [0, 9], ?_⟩
        conv => whnf
        rw [e1, e2]
        conv => whnf
        repeat' (first | exact True.intro | rfl | refine And.intro ?_ ?_ | omega)
        all_goals (conv => whnf)
        all_goals (try (first | rfl | omega | (simp; done) | (simp; omega)))
      · have h2 : ¬ 4096 < m := by simpa using h2
        obtain ⟨k, rfl⟩ : ∃ k : Nat, m = k := ⟨m.toNat, by omega⟩
        have hp := pad_ge n k (by omega)
        have hk : (((n : Int) + k - 1) / k * k : Int) = (padLen n k : Nat) := by
          unfold padLen
          rw [Int.natCast_mul, Int.natCast_ediv]
          congr 2
          omega
        have hb : padLen n k ≤ n + k := by
          unfold padLen
          have := Nat.div_mul_le_self (n + k - 1) k
          omega
        rw [Int.toNat_natCast] at no yes
        conv => whnf
        repeat (refine And.intro ?_ ?_; (focus (first | omega | ((conv => whnf); omega) | (simp [mulSz, Cont.len, hk]; done) | (simp [mulSz, Cont.len, hk]; omega))); conv => whnf)
        rw [hk]
        refine tst_in (fun h3 => ?_) (fun h3 => ?_)
        · have h3 : ¬ padLen n k ≤ 32768 := by simp at h3; omega
          obtain ⟨e1, e2⟩ := no (by omega)
          conv => whnf
          repeat (refine And.intro ?_ ?_; (focus (first | omega | ((conv => whnf); omega) | (simp [mulSz, Cont.len]; done) | (simp [mulSz, Cont.len]; omega))); conv => whnf)
          refine .inl ⟨([] : List Bool), [0, 9], ?_⟩
          conv => whnf
          rw [e1, e2]
          conv => whnf
          repeat' (first | exact True.intro | rfl | refine And.intro ?_ ?_ | omega)
          all_goals (conv => whnf)
          all_goals (try (first | rfl | omega | (simp; done) | (simp; omega)))
        · have h3 : padLen n k ≤ 32768 := by simp at h3; omega
          obtain ⟨e1, e2⟩ := yes (by omega)
          conv => whnf
          repeat (refine And.intro ?_ ?_; (focus (first | omega | ((conv => whnf); omega) | (simp [mulSz, Cont.len]; done) | (simp [mulSz, Cont.len]; omega))); conv => whnf)
          refine .inl ⟨([] : List Bool), [0, 1], ?_⟩
          conv => whnf
          rw [e1, e2]
          conv => whnf
          repeat' (first | exact True.intro | rfl | refine And.intro ?_ ?_ | omega)
          all_goals (conv => whnf)
          all_goals (try (first | rfl | omega | (simp [hn, Nat.min_eq_left hp]; done) | (simp [hn, Nat.min_eq_left hp]; omega)))

/-- How far the row has come. -/
def padInv (A : List Bool) (n ca : Nat) (k : Nat) : LInv := ⟨Nat × List Bool, fun p => ⟨anyTo 32 [.slice 0 0 n ca, .int .i64 k, .any, .any, .any, .any, .slice 1 0 p.1 (p.1 + p.2.length)],
  [.seg false (.bools A), .seg true (.bools (A.take n ++ List.replicate (p.1 - n) false ++ p.2))]⟩, fun p => n ≤ p.1 ∧ p.1 ≤ padLen n k, fun p => padLen n k - p.1⟩
theorem pad_stop (n k i : Nat) (h0 : 1 ≤ k) (h1 : n ≤ i) (h2 : i ≤ padLen n k) (h : i % k = 0) : i = padLen n k := by
  unfold padLen at *
  obtain ⟨c, rfl⟩ : ∃ c, i = c * k := ⟨i / k, by have := Nat.div_add_mod i k; rw [h, Nat.mul_comm] at this; omega⟩
  congr 1
  have h3 : (n + k - 1) / k ≤ c := by
    rw [Nat.div_le_iff_le_mul_add_pred (by omega)]
    rw [Nat.mul_comm]; omega
  have h4 : c ≤ (n + k - 1) / k := Nat.le_of_mul_le_mul_right h2 (by omega)
  omega
noncomputable def c40 : Code := (Try.f40.body).getD .skip
set_option maxRecDepth 100000 in
theorem refPad_f (A : List Bool) (n ca : Nat) (m : Int) (hn : n ≤ A.length) : Fits Try.prog 40 (padSpec A n ca m) := by
  refine fits_of_body (C := cfgk 1) (c := c40) (ts := [4, 5]) tok mixed (fun | 4 => some (padInv A n ca m.toNat) | _ => none) (fun _ => none)
    Try.func40 (by kernel_rfl) (by kernel_rfl) (by kernel_rfl) (by kernel_rfl) rfl ?_
  have no : ¬ (n ≤ 32768 ∧ 1 ≤ m ∧ m ≤ 4096 ∧ padLen n m.toNat ≤ 32768) → padRow A n m = [] ∧ padErr n m = 1 := fun h => by simp [padRow, padErr, padOk, h]
  have yes : (n ≤ 32768 ∧ 1 ≤ m ∧ m ≤ 4096 ∧ padLen n m.toNat ≤ 32768) → padRow A n m = A.take n ++ List.replicate (padLen n m.toNat - n) false ∧ padErr n m = 0 := fun h => by simp [padRow, padErr, padOk, h]
  conv => whnf
  refine tst_in (fun h => ?_) (fun h => ?_)
  · have h : ¬ (n : Int) ≤ 32768 := by simpa using h
    obtain ⟨e1, e2⟩ := no (by omega)
    conv => whnf
    repeat (refine And.intro ?_ ?_; (focus (first | omega | ((conv => whnf); omega) | (simp [mulSz, Cont.len]; done) | (simp [mulSz, Cont.len]; omega))); conv => whnf)
    refine .inl ⟨([] : List Bool), [0, 9], ?_⟩
    conv => whnf
    rw [e1, e2]
    conv => whnf
    repeat' (first | exact True.intro | rfl | refine And.intro ?_ ?_ | omega)
    all_goals (conv => whnf)
    all_goals (try (first | rfl | omega | (simp; done) | (simp; omega)))
  · have h : (n : Int) ≤ 32768 := by simpa using h
    conv => whnf
    refine tst_in (fun h1 => ?_) (fun h1 => ?_)
    · have h1 : m < 1 := by simpa using h1
      obtain ⟨e1, e2⟩ := no (by omega)
      conv => whnf
      repeat (refine And.intro ?_ ?_; (focus (first | omega | ((conv => whnf); omega) | (simp [mulSz, Cont.len]; done) | (simp [mulSz, Cont.len]; omega))); conv => whnf)
      refine .inl ⟨([] : List Bool), [0, 9], ?_⟩
      conv => whnf
      rw [e1, e2]
      conv => whnf
      repeat' (first | exact True.intro | rfl | refine And.intro ?_ ?_ | omega)
      all_goals (conv => whnf)
      all_goals (try (first | rfl | omega | (simp; done) | (simp; omega)))
    · have h1 : ¬ m < 1 := by simpa using h1
      conv => whnf
      refine tst_in (fun h2 => ?_) (fun h2 => ?_)
      · have h2 : 4096 < m := by simpa using h2
        obtain ⟨e1, e2⟩ := no (by omega)
        conv => whnf
        repeat (refine And.intro ?_ ?_; (focus (first | omega | ((conv => whnf); omega) | (simp [mulSz, Cont.len]; done) | (simp [mulSz, Cont.len]; omega))); conv => whnf)
        refine .inl ⟨([] : List Bool), [0, 9], ?_⟩
        conv => whnf
        rw [e1, e2]
        conv => whnf
        repeat' (first | exact True.intro | rfl | refine And.intro ?_ ?_ | omega)
        all_goals (conv => whnf)
        all_goals (try (first | rfl | omega | (simp; done) | (simp; omega)))
      · have h2 : ¬ 4096 < m := by simpa using h2
        obtain ⟨k, rfl⟩ : ∃ k : Nat, m = k := ⟨m.toNat, by omega⟩
        have hp := pad_ge n k (by omega)
        have hb : padLen n k ≤ n + k := by
          unfold padLen
          have := Nat.div_mul_le_self (n + k - 1) k
          omega
        rw [Int.toNat_natCast] at no yes
        conv => whnf
        repeat (refine And.intro ?_ ?_; (focus (first | omega | ((conv => whnf); omega) | (simp [mulSz, Cont.len]; done) | (simp [mulSz, Cont.len]; omega))); conv => whnf)
        intro (tl : List Bool)
        conv => whnf
        repeat (refine And.intro ?_ ?_; (focus (first | omega | ((conv => whnf); omega) | (simp [mulSz, Cont.len]; done) | (simp [mulSz, Cont.len]; omega))); conv => whnf)
        refine ⟨⟨[0, 1], ((n, tl) : Nat × List Bool), ?_, Nat.le_refl _, hp⟩, ?_⟩
        · conv => whnf
          repeat' (first | exact True.intro | rfl | refine And.intro ?_ ?_ | omega)
          all_goals (conv => whnf)
          all_goals (try (first | rfl | omega | (simp [mulSz, hn]; done) | (simp [mulSz, hn]; omega)))
        · rintro ⟨i, tl⟩ hi
          obtain ⟨hi1, hi2⟩ : n ≤ i ∧ i ≤ padLen n k := hi
          conv => whnf
          repeat (refine And.intro ?_ ?_; (focus (first | omega | ((conv => whnf); omega) | (simp [mulSz, Cont.len]; done) | (simp [mulSz, Cont.len]; omega))); conv => whnf)
          refine tst_in (fun hq => ?_) (fun hq => ?_)
          · have hlt : i < padLen n k := by
              refine Nat.lt_of_le_of_ne hi2 fun e => ?_
              subst e
              simp at hq
              refine hq ?_
              rw [← Int.natCast_emod]
              unfold padLen
              simp
            conv => whnf
            repeat (refine And.intro ?_ ?_; (focus (first | omega | ((conv => whnf); omega) | (simp [mulSz, Cont.len]; done) | (simp [mulSz, Cont.len]; omega))); conv => whnf)
            intro (tl2 : List Bool)
            conv => whnf
            repeat (refine And.intro ?_ ?_; (focus (first | omega | ((conv => whnf); omega) | (simp [mulSz, Cont.len]; done) | (simp [mulSz, Cont.len]; omega))); conv => whnf)
            refine ⟨[0, 3], ((i + 1, tl2) : Nat × List Bool), ?_, ⟨(by omega : n ≤ i + 1), (by omega : i + 1 ≤ padLen n k)⟩, (by omega : padLen n k - (i + 1) < padLen n k - i)⟩
            conv => whnf
            repeat' (first | exact True.intro | rfl | refine And.intro ?_ ?_ | omega)
            all_goals (conv => whnf)
            all_goals (try (first | rfl | omega | (simp; done) | (simp; omega)))
            show A.take n ++ List.replicate (i + 1 - n) false ++ tl2 = ((A.take n ++ List.replicate (i - n) false ++ tl).drop 0).take i ++ [false] ++ tl2
            rw [List.drop_zero, List.take_left' (by simp; omega), show i + 1 - n = (i - n) + 1 by omega, List.replicate_succ', List.append_assoc]
            simp
          · have he : i = padLen n k := by
              refine pad_stop n k i (by omega) hi1 hi2 ?_
              simp at hq
              omega
            subst he
            conv => whnf
            repeat (refine And.intro ?_ ?_; (focus (first | omega | ((conv => whnf); omega) | (simp [mulSz, Cont.len]; done) | (simp [mulSz, Cont.len]; omega))); conv => whnf)
            refine tst_in (fun h3 => ?_) (fun h3 => ?_)
            · have h3 : ¬ padLen n k ≤ 32768 := by simp at h3; omega
              obtain ⟨e1, e2⟩ := no (by omega)
              conv => whnf
              repeat (refine And.intro ?_ ?_; (focus (first | omega | ((conv => whnf); omega) | (simp [mulSz, Cont.len]; done) | (simp [mulSz, Cont.len]; omega))); conv => whnf)
              refine .inl ⟨([] : List Bool), [0, 9], ?_⟩
              conv => whnf
              rw [e1, e2]
              conv => whnf
              repeat' (first | exact True.intro | rfl | refine And.intro ?_ ?_ | omega)
              all_goals (conv => whnf)
              all_goals (try (first | rfl | omega | (simp; done) | (simp; omega)))
            · have h3 : padLen n k ≤ 32768 := by simp at h3; omega
              obtain ⟨e1, e2⟩ := yes (by omega)
              conv => whnf
              repeat (refine And.intro ?_ ?_; (focus (first | omega | ((conv => whnf); omega) | (simp [mulSz, Cont.len]; done) | (simp [mulSz, Cont.len]; omega))); conv => whnf)
              refine .inl ⟨tl, [0, 1], ?_⟩
              conv => whnf
              rw [e1, e2]
              conv => whnf
              repeat' (first | exact True.intro | rfl | refine And.intro ?_ ?_ | omega)
              all_goals (conv => whnf)
              all_goals (try (first | rfl | omega | (simp [hn]; done) | (simp [hn]; omega)))
end Go.Proofs.Ytagndcamfjikhaa

set_option linter.unusedVariables false
namespace Go.Proofs.Ytagndcamfjikhaa.runT
open Go Go.Fw
def tys : List (Nat × TyI) := [
  (1, ⟨.func, 1, 8, .nilFunc⟩),
  (2, ⟨.int .i64, 1, 8, .int .i64 0⟩),
  (3, ⟨.int .i64, 1, 8, .int .i64 0⟩),
  (4, ⟨.bool, 1, 1, .bool false⟩),
  (5, ⟨.int .u8, 1, 1, .int .u8 0⟩),
  (9, ⟨.str, 1, 16, .string (ByteArray.mk #[])⟩),
  (12, ⟨.int .u64, 1, 8, .int .u64 0⟩),
  (21, ⟨.int .i32, 1, 4, .int .i32 0⟩),
  (22, ⟨.func, 1, 8, .nilFunc⟩),
  (23, ⟨.slice 4, 1, 24, .slice none 0 0⟩),
  (24, ⟨.int .i64, 1, 8, .int .i64 0⟩),
  (26, ⟨.func, 1, 8, .nilFunc⟩),
  (28, ⟨.func, 1, 8, .nilFunc⟩),
  (29, ⟨.slice 3, 1, 24, .slice none 0 0⟩),
  (31, ⟨.func, 1, 8, .nilFunc⟩),
  (32, ⟨.func, 1, 8, .nilFunc⟩),
  (33, ⟨.func, 1, 8, .nilFunc⟩),
  (34, ⟨.func, 1, 8, .nilFunc⟩),
  (35, ⟨.func, 1, 8, .nilFunc⟩),
  (36, ⟨.func, 1, 8, .nilFunc⟩),
  (38, ⟨.func, 1, 8, .nilFunc⟩),
  (39, ⟨.func, 1, 8, .nilFunc⟩),
  (41, ⟨.func, 1, 8, .nilFunc⟩),
  (43, ⟨.func, 1, 8, .nilFunc⟩),
  (44, ⟨.func, 1, 8, .nilFunc⟩),
  (45, ⟨.func, 1, 8, .nilFunc⟩),
  (46, ⟨.func, 1, 8, .nilFunc⟩),
  (47, ⟨.func, 1, 8, .nilFunc⟩),
  (48, ⟨.func, 1, 8, .nilFunc⟩),
  (49, ⟨.func, 1, 8, .nilFunc⟩),
  (50, ⟨.slice 56, 1, 24, .slice none 0 0⟩),
  (51, ⟨.func, 1, 8, .nilFunc⟩),
  (52, ⟨.func, 1, 8, .nilFunc⟩),
  (53, ⟨.func, 1, 8, .nilFunc⟩),
  (54, ⟨.func, 1, 8, .nilFunc⟩),
  (55, ⟨.struct [(0, 3), (1, 23)], 2, 32, .agg #[.int .i64 0, .slice none 0 0]⟩),
  (56, ⟨.struct [(0, 3), (1, 23)], 2, 32, .agg #[.int .i64 0, .slice none 0 0]⟩),
  (57, ⟨.func, 1, 8, .nilFunc⟩),
  (58, ⟨.func, 1, 8, .nilFunc⟩),
  (59, ⟨.func, 1, 8, .nilFunc⟩),
  (60, ⟨.func, 1, 8, .nilFunc⟩),
  (61, ⟨.func, 1, 8, .nilFunc⟩),
  (62, ⟨.slice 5, 1, 24, .slice none 0 0⟩),
  (63, ⟨.func, 1, 8, .nilFunc⟩),
  (64, ⟨.func, 1, 8, .nilFunc⟩),
  (65, ⟨.int .u64, 1, 8, .int .u64 0⟩),
  (66, ⟨.func, 1, 8, .nilFunc⟩),
  (67, ⟨.func, 1, 8, .nilFunc⟩),
  (68, ⟨.func, 1, 8, .nilFunc⟩),
  (69, ⟨.func, 1, 8, .nilFunc⟩),
  (75, ⟨.func, 1, 8, .nilFunc⟩),
  (76, ⟨.int .u32, 1, 4, .int .u32 0⟩),
  (79, ⟨.func, 1, 8, .nilFunc⟩),
  (80, ⟨.ptr 5, 1, 8, .pointer none⟩)]

set_option maxRecDepth 100000 in
theorem tok : TOk Try.prog tys := tok_of ⟨⟨by kernel_rfl, by kernel_rfl⟩, ⟨by kernel_rfl, by kernel_rfl⟩, ⟨by kernel_rfl, by kernel_rfl⟩, ⟨by kernel_rfl, by kernel_rfl⟩, ⟨by kernel_rfl, by kernel_rfl⟩, ⟨by kernel_rfl, by kernel_rfl⟩, ⟨by kernel_rfl, by kernel_rfl⟩, ⟨by kernel_rfl, by kernel_rfl⟩, ⟨by kernel_rfl, by kernel_rfl⟩, ⟨by kernel_rfl, by kernel_rfl⟩, ⟨by kernel_rfl, by kernel_rfl⟩, ⟨by kernel_rfl, by kernel_rfl⟩, ⟨by kernel_rfl, by kernel_rfl⟩, ⟨by kernel_rfl, by kernel_rfl⟩, ⟨by kernel_rfl, by kernel_rfl⟩, ⟨by kernel_rfl, by kernel_rfl⟩, ⟨by kernel_rfl, by kernel_rfl⟩, ⟨by kernel_rfl, by kernel_rfl⟩, ⟨by kernel_rfl, by kernel_rfl⟩, ⟨by kernel_rfl, by kernel_rfl⟩, ⟨by kernel_rfl, by kernel_rfl⟩, ⟨by kernel_rfl, by kernel_rfl⟩, ⟨by kernel_rfl, by kernel_rfl⟩, ⟨by kernel_rfl, by kernel_rfl⟩, ⟨by kernel_rfl, by kernel_rfl⟩, ⟨by kernel_rfl, by kernel_rfl⟩, ⟨by kernel_rfl, by kernel_rfl⟩, ⟨by kernel_rfl, by kernel_rfl⟩, ⟨by kernel_rfl, by kernel_rfl⟩, ⟨by kernel_rfl, by kernel_rfl⟩, ⟨by kernel_rfl, by kernel_rfl⟩, ⟨by kernel_rfl, by kernel_rfl⟩, ⟨by kernel_rfl, by kernel_rfl⟩, ⟨by kernel_rfl, by kernel_rfl⟩, ⟨by kernel_rfl, by kernel_rfl⟩, ⟨by kernel_rfl, by kernel_rfl⟩, ⟨by kernel_rfl, by kernel_rfl⟩, ⟨by kernel_rfl, by kernel_rfl⟩, ⟨by kernel_rfl, by kernel_rfl⟩, ⟨by kernel_rfl, by kernel_rfl⟩, ⟨by kernel_rfl, by kernel_rfl⟩, ⟨by kernel_rfl, by kernel_rfl⟩, ⟨by kernel_rfl, by kernel_rfl⟩, ⟨by kernel_rfl, by kernel_rfl⟩, ⟨by kernel_rfl, by kernel_rfl⟩, ⟨by kernel_rfl, by kernel_rfl⟩, ⟨by kernel_rfl, by kernel_rfl⟩, ⟨by kernel_rfl, by kernel_rfl⟩, ⟨by kernel_rfl, by kernel_rfl⟩, ⟨by kernel_rfl, by kernel_rfl⟩, ⟨by kernel_rfl, by kernel_rfl⟩, ⟨by kernel_rfl, by kernel_rfl⟩, ⟨by kernel_rfl, by kernel_rfl⟩, ⟨by kernel_rfl, by kernel_rfl⟩, True.intro⟩
theorem mixed : Try.prog.follows .mixedOrders = true := by kernel_rfl
def inL : List Nat → Nat → Bool
  | [], _ => false
  | a :: r, n => match Nat.beq a n with | true => true | false => inL r n
def stl : Nat → Bool := inL []
/- 3: foghorn/foghornlaw01.BitsNames -/
noncomputable def e3 : Ent := entOf Try.f3 (fun _ => none)
theorem g3 : EntOk Try.prog stl 3 e3 := ⟨Try.func3, by kernel_rfl, by kernel_rfl, by kernel_rfl, by kernel_rfl, by kernel_rfl, rfl⟩
/- 4: foghorn/foghornlaw01.BitsRing -/
noncomputable def e4 : Ent := entOf Try.f4 (fun _ => none)
theorem g4 : EntOk Try.prog stl 4 e4 := ⟨Try.func4, by kernel_rfl, by kernel_rfl, by kernel_rfl, by kernel_rfl, by kernel_rfl, rfl⟩
/- 5: foghorn/foghornlaw01.BitsRows -/
noncomputable def e5 : Ent := entOf Try.f5 (fun _ => none)
theorem g5 : EntOk Try.prog stl 5 e5 := ⟨Try.func5, by kernel_rfl, by kernel_rfl, by kernel_rfl, by kernel_rfl, by kernel_rfl, rfl⟩
/- 6: foghorn/foghornlaw01.BitsGray -/
noncomputable def e6 : Ent := entOf Try.f6 (fun _ => none)
theorem g6 : EntOk Try.prog stl 6 e6 := ⟨Try.func6, by kernel_rfl, by kernel_rfl, by kernel_rfl, by kernel_rfl, by kernel_rfl, rfl⟩
/- 7: foghorn/foghornlaw01.BitsPairs -/
noncomputable def e7 : Ent := entOf Try.f7 (fun _ => none)
theorem g7 : EntOk Try.prog stl 7 e7 := ⟨Try.func7, by kernel_rfl, by kernel_rfl, by kernel_rfl, by kernel_rfl, by kernel_rfl, rfl⟩
/- 8: foghorn/foghornlaw01.BitsPieces -/
noncomputable def e8 : Ent := entOf Try.f8 (fun _ => none)
theorem g8 : EntOk Try.prog stl 8 e8 := ⟨Try.func8, by kernel_rfl, by kernel_rfl, by kernel_rfl, by kernel_rfl, by kernel_rfl, rfl⟩
/- 9: foghorn/foghornlaw01.BitsTexts -/
noncomputable def e9 : Ent := entOf Try.f9 (fun _ => none)
theorem g9 : EntOk Try.prog stl 9 e9 := ⟨Try.func9, by kernel_rfl, by kernel_rfl, by kernel_rfl, by kernel_rfl, by kernel_rfl, rfl⟩
/- 10: foghorn/foghornlaw01.BitsBack -/
noncomputable def e10 : Ent := entOf Try.f10 (fun _ => none)
theorem g10 : EntOk Try.prog stl 10 e10 := ⟨Try.func10, by kernel_rfl, by kernel_rfl, by kernel_rfl, by kernel_rfl, by kernel_rfl, rfl⟩
/- 11: foghorn/foghornlaw01.BitsGrays -/
noncomputable def e11 : Ent := entOf Try.f11 (fun _ => none)
theorem g11 : EntOk Try.prog stl 11 e11 := ⟨Try.func11, by kernel_rfl, by kernel_rfl, by kernel_rfl, by kernel_rfl, by kernel_rfl, rfl⟩
/- 12: foghorn/foghornlaw01.BitsMetric -/
noncomputable def e12 : Ent := entOf Try.f12 (fun _ => none)
theorem g12 : EntOk Try.prog stl 12 e12 := ⟨Try.func12, by kernel_rfl, by kernel_rfl, by kernel_rfl, by kernel_rfl, by kernel_rfl, rfl⟩
/- 13: foghorn/foghornlaw01.BitsCuts -/
def p13 : Nat → Option PlanC := fun
  | 16 => some (.op 0 .false (.op 1 .false (.op 2 .false (.op 3 .false (.op 4 .false (.op 5 .false (.op 6 .false (.op 7 .false (.op 8 .false (.op 9 .false (.op 10 .false (.op 11 .false (.op 12 .false (.op 13 .false (.op 14 .false (.op 15 .false (.op 16 .false (.op 17 .false (.op 18 .false (.op 19 .false (.op 20 .false (.op 21 .false (.op 22 .false (.op 23 .false (.op 24 .false (.op 25 .false (.op 26 .false (.op 27 .false (.op 28 .false (.op 29 .false (.op 30 .false (.op 31 .false (.op 32 .false (.op 33 .false (.op 34 .false (.op 35 .false (.op 36 .false (.op 37 .false (.op 38 .false (.op 39 .false .done))))))))))))))))))))))))))))))))))))))))
  | 18 => some (.op 0 .false (.alt 1 (.op 2 .false (.op 3 .false (.op 4 .false (.op 5 .false .done)))) (.alt 2 (.op 1 .false (.op 3 .false (.op 4 .false (.op 5 .false .done)))) .fin)))
  | _ => none
noncomputable def e13 : Ent := entOf Try.f13 p13
theorem g13 : EntOk Try.prog stl 13 e13 := ⟨Try.func13, by kernel_rfl, by kernel_rfl, by kernel_rfl, by kernel_rfl, by kernel_rfl, rfl⟩
/- 14: foghorn/foghornlaw01.works -/
noncomputable def e14 : Ent := entOf Try.f14 (fun _ => none)
theorem g14 : EntOk Try.prog stl 14 e14 := ⟨Try.func14, by kernel_rfl, by kernel_rfl, by kernel_rfl, by kernel_rfl, by kernel_rfl, rfl⟩
/- 15: foghorn/bits.Bytes -/
noncomputable def e15 : Ent := entOf Try.f15 (fun _ => none)
theorem g15 : EntOk Try.prog stl 15 e15 := ⟨Try.func15, by kernel_rfl, by kernel_rfl, by kernel_rfl, by kernel_rfl, by kernel_rfl, rfl⟩
/- 16: foghorn/bits.Of -/
noncomputable def e16 : Ent := entOf Try.f16 (fun _ => none)
theorem g16 : EntOk Try.prog stl 16 e16 := ⟨Try.func16, by kernel_rfl, by kernel_rfl, by kernel_rfl, by kernel_rfl, by kernel_rfl, rfl⟩
/- 17: foghorn/bits.Words -/
noncomputable def e17 : Ent := entOf Try.f17 (fun _ => none)
theorem g17 : EntOk Try.prog stl 17 e17 := ⟨Try.func17, by kernel_rfl, by kernel_rfl, by kernel_rfl, by kernel_rfl, by kernel_rfl, rfl⟩
/- 18: foghorn/bits.Row -/
noncomputable def e18 : Ent := entOf Try.f18 (fun _ => none)
theorem g18 : EntOk Try.prog stl 18 e18 := ⟨Try.func18, by kernel_rfl, by kernel_rfl, by kernel_rfl, by kernel_rfl, by kernel_rfl, rfl⟩
/- 19: foghorn/foghornlaw01.sameBits -/
noncomputable def e19 : Ent := entOf Try.f19 (fun _ => none)
theorem g19 : EntOk Try.prog stl 19 e19 := ⟨Try.func19, by kernel_rfl, by kernel_rfl, by kernel_rfl, by kernel_rfl, by kernel_rfl, rfl⟩
/- 20: foghorn/bits.Xor -/
noncomputable def e20 : Ent := entOf Try.f20 (fun _ => none)
theorem g20 : EntOk Try.prog stl 20 e20 := ⟨Try.func20, by kernel_rfl, by kernel_rfl, by kernel_rfl, by kernel_rfl, by kernel_rfl, rfl⟩
/- 21: foghorn/bits.Pad -/
noncomputable def e21 : Ent := entOf Try.f21 (fun _ => none)
theorem g21 : EntOk Try.prog stl 21 e21 := ⟨Try.func21, by kernel_rfl, by kernel_rfl, by kernel_rfl, by kernel_rfl, by kernel_rfl, rfl⟩
/- 22: foghorn/bits.Weight -/
noncomputable def e22 : Ent := entOf Try.f22 (fun _ => none)
theorem g22 : EntOk Try.prog stl 22 e22 := ⟨Try.func22, by kernel_rfl, by kernel_rfl, by kernel_rfl, by kernel_rfl, by kernel_rfl, rfl⟩
/- 23: foghorn/bits.Parse -/
noncomputable def e23 : Ent := entOf Try.f23 (fun _ => none)
theorem g23 : EntOk Try.prog stl 23 e23 := ⟨Try.func23, by kernel_rfl, by kernel_rfl, by kernel_rfl, by kernel_rfl, by kernel_rfl, rfl⟩
/- 24: foghorn/bits.Text -/
noncomputable def e24 : Ent := entOf Try.f24 (fun _ => none)
theorem g24 : EntOk Try.prog stl 24 e24 := ⟨Try.func24, by kernel_rfl, by kernel_rfl, by kernel_rfl, by kernel_rfl, by kernel_rfl, rfl⟩
/- 25: foghorn/bits.Gray -/
noncomputable def e25 : Ent := entOf Try.f25 (fun _ => none)
theorem g25 : EntOk Try.prog stl 25 e25 := ⟨Try.func25, by kernel_rfl, by kernel_rfl, by kernel_rfl, by kernel_rfl, by kernel_rfl, rfl⟩
/- 26: foghorn/foghornlaw01.lent -/
noncomputable def e26 : Ent := entOf Try.f26 (fun _ => none)
theorem g26 : EntOk Try.prog stl 26 e26 := ⟨Try.func26, by kernel_rfl, by kernel_rfl, by kernel_rfl, by kernel_rfl, by kernel_rfl, rfl⟩
/- 27: foghorn/foghornref01.Of -/
def p27 : Nat → Option PlanC := fun
  | 10 => some (.op 5 .false (.op 0 .true (.op 1 .true (.op 2 .true (.op 3 .true (.alt 4 (.op 6 .false (.op 7 .false (.op 8 .false (.op 9 .false (.op 10 .false (.op 11 .false (.op 12 .false .done))))))) (.alt 6 (.op 4 .false (.op 7 .false (.op 8 .false (.op 9 .false (.op 10 .false (.op 11 .false (.op 12 .false .done))))))) .fin)))))))
  | _ => none
noncomputable def e27 : Ent := entOf Try.f27 p27
theorem g27 : EntOk Try.prog stl 27 e27 := ⟨Try.func27, by kernel_rfl, by kernel_rfl, by kernel_rfl, by kernel_rfl, by kernel_rfl, rfl⟩
/- 28: foghorn/foghornref01.Bytes -/
noncomputable def e28 : Ent := entOf Try.f28 (fun _ => none)
theorem g28 : EntOk Try.prog stl 28 e28 := ⟨Try.func28, by kernel_rfl, by kernel_rfl, by kernel_rfl, by kernel_rfl, by kernel_rfl, rfl⟩
/- 29: foghorn/foghornref01.Words -/
noncomputable def e29 : Ent := entOf Try.f29 (fun _ => none)
theorem g29 : EntOk Try.prog stl 29 e29 := ⟨Try.func29, by kernel_rfl, by kernel_rfl, by kernel_rfl, by kernel_rfl, by kernel_rfl, rfl⟩
/- 30: foghorn/foghornref01.Row -/
def p30 : Nat → Option PlanC := fun
  | 7 => some (.op 0 .false (.op 1 .false (.op 2 .false (.op 3 .false (.op 4 .false (.op 5 .false (.op 10 .false (.op 6 .true (.op 7 .true (.alt 8 (.alt 9 (.op 11 .false (.op 12 .false (.op 13 .false .done))) (.alt 11 (.op 9 .false (.op 12 .false (.op 13 .false .done))) .fin)) (.alt 11 (.op 8 .false (.op 9 .false (.op 12 .false (.op 13 .false .done)))) .fin)))))))))))
  | 12 => some (.op 5 .false (.op 6 .false (.op 7 .false (.op 8 .false (.op 0 .true (.op 1 .true (.op 2 .true (.op 3 .true (.alt 4 (.op 9 .false (.op 10 .false (.op 11 .false (.op 12 .false (.op 13 .false (.op 14 .false (.op 15 .false .done))))))) (.alt 9 (.op 4 .false (.op 10 .false (.op 11 .false (.op 12 .false (.op 13 .false (.op 14 .false (.op 15 .false .done))))))) .fin))))))))))
  | _ => none
noncomputable def e30 : Ent := entOf Try.f30 p30
theorem g30 : EntOk Try.prog stl 30 e30 := ⟨Try.func30, by kernel_rfl, by kernel_rfl, by kernel_rfl, by kernel_rfl, by kernel_rfl, rfl⟩
/- 31: foghorn/foghornlaw01.sameInts -/
noncomputable def e31 : Ent := entOf Try.f31 (fun _ => none)
theorem g31 : EntOk Try.prog stl 31 e31 := ⟨Try.func31, by kernel_rfl, by kernel_rfl, by kernel_rfl, by kernel_rfl, by kernel_rfl, rfl⟩
/- 32: foghorn/foghornlaw01.unhurt -/
noncomputable def e32 : Ent := entOf Try.f32 (fun _ => none)
theorem g32 : EntOk Try.prog stl 32 e32 := ⟨Try.func32, by kernel_rfl, by kernel_rfl, by kernel_rfl, by kernel_rfl, by kernel_rfl, rfl⟩
/- 33: foghorn/foghornlaw01.turn -/
noncomputable def e33 : Ent := entOf Try.f33 (fun _ => none)
theorem g33 : EntOk Try.prog stl 33 e33 := ⟨Try.func33, by kernel_rfl, by kernel_rfl, by kernel_rfl, by kernel_rfl, by kernel_rfl, rfl⟩
/- 34: foghorn/foghornref01.Gray -/
noncomputable def e34 : Ent := entOf Try.f34 (fun _ => none)
theorem g34 : EntOk Try.prog stl 34 e34 := ⟨Try.func34, by kernel_rfl, by kernel_rfl, by kernel_rfl, by kernel_rfl, by kernel_rfl, rfl⟩
/- 35: foghorn/bits.Ungray -/
noncomputable def e35 : Ent := entOf Try.f35 (fun _ => none)
theorem g35 : EntOk Try.prog stl 35 e35 := ⟨Try.func35, by kernel_rfl, by kernel_rfl, by kernel_rfl, by kernel_rfl, by kernel_rfl, rfl⟩
/- 36: foghorn/foghornref01.Ungray -/
noncomputable def e36 : Ent := entOf Try.f36 (fun _ => none)
theorem g36 : EntOk Try.prog stl 36 e36 := ⟨Try.func36, by kernel_rfl, by kernel_rfl, by kernel_rfl, by kernel_rfl, by kernel_rfl, rfl⟩
/- 37: foghorn/foghornref01.Xor -/
def p37 : Nat → Option PlanC := fun
  | 7 => some (.op 1 .false (.op 2 .false (.op 3 .false (.op 4 .false (.op 5 .false (.op 6 .false (.op 7 .false (.op 8 .false (.op 9 .false (.op 0 .true (.op 10 .false (.op 11 .false (.op 12 .false .done)))))))))))))
  | _ => none
noncomputable def e37 : Ent := entOf Try.f37 p37
theorem g37 : EntOk Try.prog stl 37 e37 := ⟨Try.func37, by kernel_rfl, by kernel_rfl, by kernel_rfl, by kernel_rfl, by kernel_rfl, rfl⟩
/- 38: foghorn/bits.Distance -/
noncomputable def e38 : Ent := entOf Try.f38 (fun _ => none)
theorem g38 : EntOk Try.prog stl 38 e38 := ⟨Try.func38, by kernel_rfl, by kernel_rfl, by kernel_rfl, by kernel_rfl, by kernel_rfl, rfl⟩
/- 39: foghorn/foghornref01.Distance -/
noncomputable def e39 : Ent := entOf Try.f39 (fun _ => none)
theorem g39 : EntOk Try.prog stl 39 e39 := ⟨Try.func39, by kernel_rfl, by kernel_rfl, by kernel_rfl, by kernel_rfl, by kernel_rfl, rfl⟩
/- 40: foghorn/foghornref01.Pad -/
noncomputable def e40 : Ent := entOf Try.f40 (fun _ => none)
theorem g40 : EntOk Try.prog stl 40 e40 := ⟨Try.func40, by kernel_rfl, by kernel_rfl, by kernel_rfl, by kernel_rfl, by kernel_rfl, rfl⟩
/- 41: foghorn/foghornref01.Weight -/
noncomputable def e41 : Ent := entOf Try.f41 (fun _ => none)
theorem g41 : EntOk Try.prog stl 41 e41 := ⟨Try.func41, by kernel_rfl, by kernel_rfl, by kernel_rfl, by kernel_rfl, by kernel_rfl, rfl⟩
/- 42: foghorn/foghornref01.Pieces -/
def p42 : Nat → Option PlanC := fun
  | 10 => some (.op 7 .false (.op 8 .false (.op 9 .false (.op 10 .false (.op 0 .true (.op 1 .true (.op 2 .true (.op 3 .true (.op 4 .true (.op 5 .true (.alt 6 (.op 11 .false (.op 12 .false (.op 13 .false (.op 14 .false (.op 15 .false .done))))) (.alt 11 (.op 6 .false (.op 12 .false (.op 13 .false (.op 14 .false (.op 15 .false .done))))) .fin))))))))))))
  | _ => none
noncomputable def e42 : Ent := entOf Try.f42 p42
theorem g42 : EntOk Try.prog stl 42 e42 := ⟨Try.func42, by kernel_rfl, by kernel_rfl, by kernel_rfl, by kernel_rfl, by kernel_rfl, rfl⟩
/- 43: foghorn/bits.Pieces -/
noncomputable def e43 : Ent := entOf Try.f43 (fun _ => none)
theorem g43 : EntOk Try.prog stl 43 e43 := ⟨Try.func43, by kernel_rfl, by kernel_rfl, by kernel_rfl, by kernel_rfl, by kernel_rfl, rfl⟩
/- 44: foghorn/foghornref01.Parse -/
noncomputable def e44 : Ent := entOf Try.f44 (fun _ => none)
theorem g44 : EntOk Try.prog stl 44 e44 := ⟨Try.func44, by kernel_rfl, by kernel_rfl, by kernel_rfl, by kernel_rfl, by kernel_rfl, rfl⟩
/- 45: foghorn/foghornref01.Text -/
noncomputable def e45 : Ent := entOf Try.f45 (fun _ => none)
theorem g45 : EntOk Try.prog stl 45 e45 := ⟨Try.func45, by kernel_rfl, by kernel_rfl, by kernel_rfl, by kernel_rfl, by kernel_rfl, rfl⟩
/- 46: foghorn/bits.appendWord -/
noncomputable def e46 : Ent := entOf Try.f46 (fun _ => none)
theorem g46 : EntOk Try.prog stl 46 e46 := ⟨Try.func46, by kernel_rfl, by kernel_rfl, by kernel_rfl, by kernel_rfl, by kernel_rfl, rfl⟩
/- 47: foghorn/bits.isWidth -/
noncomputable def e47 : Ent := entOf Try.f47 (fun _ => none)
theorem g47 : EntOk Try.prog stl 47 e47 := ⟨Try.func47, by kernel_rfl, by kernel_rfl, by kernel_rfl, by kernel_rfl, by kernel_rfl, rfl⟩
/- 48: foghorn/bits.isRow -/
noncomputable def e48 : Ent := entOf Try.f48 (fun _ => none)
theorem g48 : EntOk Try.prog stl 48 e48 := ⟨Try.func48, by kernel_rfl, by kernel_rfl, by kernel_rfl, by kernel_rfl, by kernel_rfl, rfl⟩
/- 49: foghorn/bits.isGray -/
noncomputable def e49 : Ent := entOf Try.f49 (fun _ => none)
theorem g49 : EntOk Try.prog stl 49 e49 := ⟨Try.func49, by kernel_rfl, by kernel_rfl, by kernel_rfl, by kernel_rfl, by kernel_rfl, rfl⟩
/- 50: foghorn/foghornref01.power -/
noncomputable def e50 : Ent := entOf Try.f50 (fun _ => none)
theorem g50 : EntOk Try.prog stl 50 e50 := ⟨Try.func50, by kernel_rfl, by kernel_rfl, by kernel_rfl, by kernel_rfl, by kernel_rfl, rfl⟩
/- 51: foghorn/foghornref01.gray -/
def p51 : Nat → Option PlanC := fun
  | 5 => some (.op 1 .false (.op 0 .true (.op 5 .true (.op 6 .true (.op 7 .true (.op 2 .false (.op 3 .true (.op 4 .true (.op 8 .false (.op 9 .false (.op 10 .false (.op 11 .false .done))))))))))))
  | _ => none
noncomputable def e51 : Ent := entOf Try.f51 p51
theorem g51 : EntOk Try.prog stl 51 e51 := ⟨Try.func51, by kernel_rfl, by kernel_rfl, by kernel_rfl, by kernel_rfl, by kernel_rfl, rfl⟩
/- 52: foghorn/bits.Pieces$1 -/
noncomputable def e52 : Ent := entOf Try.f52 (fun _ => none)
theorem g52 : EntOk Try.prog stl 52 e52 := ⟨Try.func52, by kernel_rfl, by kernel_rfl, by kernel_rfl, by kernel_rfl, by kernel_rfl, rfl⟩
/- 53: slices.Clone[[]bool,bool] -/
noncomputable def e53 : Ent := entOf Try.f53 (fun _ => none)
theorem g53 : EntOk Try.prog stl 53 e53 := ⟨Try.func53, by kernel_rfl, by kernel_rfl, by kernel_rfl, by kernel_rfl, by kernel_rfl, rfl⟩
/- 54: foghorn/bits.Pieces$2 -/
noncomputable def e54 : Ent := entOf Try.f54 (fun _ => none)
theorem g54 : EntOk Try.prog stl 54 e54 := ⟨Try.func54, by kernel_rfl, by kernel_rfl, by kernel_rfl, by kernel_rfl, by kernel_rfl, rfl⟩
noncomputable def ents : List (Nat × Ent) := [(3, e3), (4, e4), (5, e5), (6, e6), (7, e7), (8, e8), (9, e9), (10, e10), (11, e11), (12, e12), (13, e13), (14, e14), (15, e15), (16, e16), (17, e17), (18, e18), (19, e19), (20, e20), (21, e21), (22, e22), (23, e23), (24, e24), (25, e25), (26, e26), (27, e27), (28, e28), (29, e29), (30, e30), (31, e31), (32, e32), (33, e33), (34, e34), (35, e35), (36, e36), (37, e37), (38, e38), (39, e39), (40, e40), (41, e41), (42, e42), (43, e43), (44, e44), (45, e45), (46, e46), (47, e47), (48, e48), (49, e49), (50, e50), (51, e51), (52, e52), (53, e53), (54, e54)]
theorem goods : EntsOk Try.prog stl ents := ⟨g3, g4, g5, g6, g7, g8, g9, g10, g11, g12, g13, g14, g15, g16, g17, g18, g19, g20, g21, g22, g23, g24, g25, g26, g27, g28, g29, g30, g31, g32, g33, g34, g35, g36, g37, g38, g39, g40, g41, g42, g43, g44, g45, g46, g47, g48, g49, g50, g51, g52, g53, g54, True.intro⟩
noncomputable def tab : Nat → Option Ent := (tabOf ents).get
theorem fok : FOk Try.prog stl tab := fok_of goods
end Go.Proofs.Ytagndcamfjikhaa.runT

namespace Go.Proofs.Ytagndcamfjikhaa.runT
open Go Go.Fw
set_option maxRecDepth 1000000 in
theorem works_run : runTrue Try.prog tys stl tab 100000 14 = true := by kernel_rfl
theorem works_f : Fits Try.prog 14 ⟨[], [], [⟨Unit, fun _ => True, fun _ => .bool true, fun _ => []⟩]⟩ := fits_of_run tok mixed fok works_run
end Go.Proofs.Ytagndcamfjikhaa.runT

namespace Go.Proofs.Ytagndcamfjikhaa
open Go Go.Fw

def metSpec (A B C : List Bool) (n m l ca cb cc : Nat) : FSpec := ⟨[.slice 0 0 n ca, .slice 1 0 m cb, .slice 2 0 l cc], [.seg false (.bools A), .seg false (.bools B), .seg false (.bools C)], [⟨Unit, fun _ => True, fun _ => .bool true, fun _ => [.dead, .dead, .dead]⟩]⟩
theorem wt_xr_comm : ∀ a b : List Bool, wt (xr a b) = wt (xr b a)
  | [], b => by cases b <;> rfl
  | a :: x, [] => rfl
  | a :: x, b :: y => by
    have ih := wt_xr_comm x y
    unfold xr at ih ⊢
    simp only [List.zipWith_cons_cons, wt, ih]
    cases a <;> cases b <;> rfl
theorem wt_xr_tri : ∀ a b c : List Bool, a.length = b.length → b.length = c.length → wt (xr a c) ≤ wt (xr a b) + wt (xr b c) ∧ (wt (xr a b) + wt (xr b c) + wt (xr a c)) % 2 = 0
  | [], [], [], _, _ => ⟨by simp [xr, wt], by simp [xr, wt]⟩
  | a :: x, b :: y, c :: z, h1, h2 => by
    obtain ⟨i1, i2⟩ := wt_xr_tri x y z (by simpa using h1) (by simpa using h2)
    unfold xr at i1 i2 ⊢
    simp only [List.zipWith_cons_cons, wt]
    cases a <;> cases b <;> cases c <;> simp <;> omega
  | [], [], _ :: _, _, h => by simp at h
  | [], _ :: _, _, h, _ => by simp at h
  | _ :: _, [], _, h, _ => by simp at h
  | _ :: _, _ :: _, [], _, h => by simp at h
theorem wt_xr_zero : ∀ a b : List Bool, a.length = b.length → (wt (xr a b) = 0 ↔ a = b)
  | [], [], _ => by simp [xr, wt]
  | a :: x, b :: y, h => by
    have ih := wt_xr_zero x y (by simpa using h)
    unfold xr at ih ⊢
    simp only [List.zipWith_cons_cons, wt, List.cons.injEq, ← ih]
    cases a <;> cases b <;> simp
  | [], _ :: _, h => by simp at h
  | _ :: _, [], h => by simp at h
noncomputable def c12 : Code := (Try.f12.body).getD .skip
set_option maxRecDepth 100000 in
set_option maxHeartbeats 8000000 in
theorem law12_f (A B C : List Bool) (n m l ca cb cc : Nat) (hn : n ≤ A.length) (hm : m ≤ B.length) (hl : l ≤ C.length) (hca : n ≤ ca) (hcb : m ≤ cb) (hcc : l ≤ cc) : Fits Try.prog 12 (metSpec A B C n m l ca cb cc) := by
  refine fits_of_body (C := cfgk 3) (c := c12) (ts := [6]) tok mixed (fun _ => none) (fun _ => none)
    Try.func12 (by kernel_rfl) (by kernel_rfl) (by kernel_rfl) (by kernel_rfl) rfl ?_
  obtain ⟨K, hK, k1, k2, k3, k4⟩ : ∃ K : Nat, min (min (min (n : Int) (m : Int)) (l : Int)) 32768 = (K : Int) ∧ K ≤ n ∧ K ≤ m ∧ K ≤ l ∧ K ≤ 32768 := ⟨min (min (min n m) l) 32768, by omega, by omega, by omega, by omega, by omega⟩
  conv => whnf
  refine ⟨_, [], runT.works_f, ?_⟩
  conv => whnf
  refine ⟨?_, ?_, ?_⟩
  · conv => whnf
    repeat' (first | exact True.intro | rfl | refine And.intro ?_ ?_ | omega)
    all_goals (conv => whnf)
    all_goals (try (first | rfl | omega | (simp; done)))
  · conv => whnf
    repeat' (first | exact True.intro | rfl | refine And.intro ?_ ?_ | omega)
    all_goals (conv => whnf)
    all_goals (try (first | rfl | omega | (simp; done)))
  conv => whnf
  refine ⟨?_, True.intro⟩
  intro _ _
  conv => whnf
  have ex : ∀ (a b t1 t2 : List Bool), a.length = K → b.length = K → xrOk K K (a ++ t1) (b ++ t2) = xr a b ∧ erOk K K = 0 := fun a b t1 t2 ha hb => by
    simp only [xrOk, erOk, k4, and_self, if_true]
    rw [List.take_left' ha, List.take_left' hb]
    exact ⟨rfl, trivial⟩
  have fD : ∀ (a b t1 t2 : List Bool) (c1 c2 : Nat), a.length = K → b.length = K → Fits Try.prog 38 ⟨[.slice 0 0 (0 + K) c1, .slice 1 0 (0 + K) c2], [.seg false (.bools (a ++ t1)), .seg false (.bools (b ++ t2))], [⟨Unit, fun _ => True, fun _ => .tup [.int .i64 (wt (xr a b)), .int .i64 0], fun _ => [.dead, .dead]⟩]⟩ := fun a b t1 t2 c1 c2 ha hb => by
    have := Distance_f (a ++ t1) (b ++ t2) K K c1 c2 (by simp; omega) (by simp; omega)
    unfold wtSpec at this
    rw [Nat.zero_add]
    rwa [(ex a b t1 t2 ha hb).1, (ex a b t1 t2 ha hb).2] at this
  have fX : ∀ (a b t1 t2 : List Bool) (c1 c2 : Nat), a.length = K → b.length = K → Fits Try.prog 20 ⟨[.slice 0 0 (0 + K) c1, .slice 1 0 (0 + K) c2], [.seg false (.bools (a ++ t1)), .seg false (.bools (b ++ t2))], [rowOut 2 [.dead, .dead] (xr a b) fun s => .tup [s, .int .i64 0]]⟩ := fun a b t1 t2 c1 c2 ha hb => by
    have := Xor_f (a ++ t1) (b ++ t2) K K c1 c2 (by simp; omega) (by simp; omega)
    unfold xrSpec at this
    rw [Nat.zero_add]
    rwa [(ex a b t1 t2 ha hb).1, (ex a b t1 t2 ha hb).2] at this
  have lA : (A.take K).length = K := by simp; omega
  have lB : (B.take K).length = K := by simp; omega
  have lC : (C.take K).length = K := by simp; omega
  have wl : ∀ a b : List Bool, a.length = K → b.length = K → wt (xr a b) ≤ K := fun a b ha hb => by
    have := wt_le (xr a b)
    have h2 := xr_len a b (by omega)
    omega
  have hc := wt_xr_comm (A.take K) (B.take K)
  obtain ⟨ht, he⟩ := wt_xr_tri (A.take K) (B.take K) (C.take K) (by omega) (by omega)
  have hz := wt_xr_zero (A.take K) (B.take K) (by omega)
  have w1 := wl _ _ lA lB
  have w2 := wl _ _ lB lC
  have w3 := wl _ _ lA lC
  have hx := xr_len (A.take K) (B.take K) (by omega)
  have fW : ∀ x1 : List Bool, QFits Try.prog 22 ⟨[.slice 0 0 (xr (A.take K) (B.take K)).length ((xr (A.take K) (B.take K)).length + x1.length)], [.seg false (.bools (xr (A.take K) (B.take K) ++ x1))], .int .i64 (wt (xr (A.take K) (B.take K)))⟩ := fun x1 => by
    have := Weight_q (xr (A.take K) (B.take K) ++ x1) (xr (A.take K) (B.take K)).length ((xr (A.take K) (B.take K)).length + x1.length) (by simp) (by omega)
    rwa [List.take_left] at this
  have fS : ∀ (t1 t2 : List Bool) (c1 c2 : Nat), QFits Try.prog 19 ⟨[.slice 0 0 (0 + K) c1, .slice 1 0 (0 + K) c2], [.seg false (.bools (A.take K ++ t1)), .seg false (.bools (B.take K ++ t2))], .bool (decide (A.take K = B.take K))⟩ := fun t1 t2 c1 c2 => by
    have := same_q (A.take K ++ t1) (B.take K ++ t2) K K c1 c2 (by simp; omega) (by simp; omega) (by omega)
    rw [Nat.zero_add]
    rwa [List.take_left' lA, List.take_left' lB] at this
  rw [hK]
  refine ⟨⟨by omega, by omega⟩, ?_⟩
  conv => whnf
  repeat (refine And.intro ?_ ?_; (focus (first | omega | ((conv => whnf); omega) | (simp [mulSz, Cont.len]; done) | (simp [mulSz, Cont.len]; omega))); conv => whnf)
  intro (t1 : List Bool)
  refine ⟨⟨by omega, by omega⟩, ?_⟩
  conv => whnf
  repeat (refine And.intro ?_ ?_; (focus (first | omega | ((conv => whnf); omega) | (simp [mulSz, Cont.len]; done) | (simp [mulSz, Cont.len]; omega))); conv => whnf)
  intro (t2 : List Bool)
  refine ⟨⟨by omega, by omega⟩, ?_⟩
  conv => whnf
  repeat (refine And.intro ?_ ?_; (focus (first | omega | ((conv => whnf); omega) | (simp [mulSz, Cont.len]; done) | (simp [mulSz, Cont.len]; omega))); conv => whnf)
  intro (t3 : List Bool)
  refine ⟨_, [4, 6], fD (A.take K) (B.take K) t1 t2 (0 + K + t1.length) (0 + K + t2.length) lA lB, ?_⟩
  conv => whnf
  refine ⟨?_, ?_, ?_⟩
  · conv => whnf
    repeat' (first | exact True.intro | rfl | refine And.intro ?_ ?_ | omega)
    all_goals (conv => whnf)
    all_goals (try (first | rfl | omega | (simp [mulSz]; done)))
  · conv => whnf
    repeat' (first | exact True.intro | rfl | refine And.intro ?_ ?_ | omega)
    all_goals (conv => whnf)
    all_goals (try (first | rfl | omega | (simp [mulSz]; done)))
  conv => whnf
  refine ⟨?_, True.intro⟩
  intro _ _
  conv => whnf
  refine ⟨_, [6, 8], fD (B.take K) (C.take K) t2 t3 (0 + K + t2.length) (0 + K + t3.length) lB lC, ?_⟩
  conv => whnf
  refine ⟨?_, ?_, ?_⟩
  · conv => whnf
    repeat' (first | exact True.intro | rfl | refine And.intro ?_ ?_ | omega)
    all_goals (conv => whnf)
    all_goals (try (first | rfl | omega | (simp [mulSz]; done)))
  · conv => whnf
    repeat' (first | exact True.intro | rfl | refine And.intro ?_ ?_ | omega)
    all_goals (conv => whnf)
    all_goals (try (first | rfl | omega | (simp [mulSz]; done)))
  conv => whnf
  refine ⟨?_, True.intro⟩
  intro _ _
  conv => whnf
  refine ⟨_, [4, 8], fD (A.take K) (C.take K) t1 t3 (0 + K + t1.length) (0 + K + t3.length) lA lC, ?_⟩
  conv => whnf
  refine ⟨?_, ?_, ?_⟩
  · conv => whnf
    repeat' (first | exact True.intro | rfl | refine And.intro ?_ ?_ | omega)
    all_goals (conv => whnf)
    all_goals (try (first | rfl | omega | (simp [mulSz]; done)))
  · conv => whnf
    repeat' (first | exact True.intro | rfl | refine And.intro ?_ ?_ | omega)
    all_goals (conv => whnf)
    all_goals (try (first | rfl | omega | (simp [mulSz]; done)))
  conv => whnf
  refine ⟨?_, True.intro⟩
  intro _ _
  conv => whnf
  refine ⟨_, [6, 4], fD (B.take K) (A.take K) t2 t1 (0 + K + t2.length) (0 + K + t1.length) lB lA, ?_⟩
  conv => whnf
  refine ⟨?_, ?_, ?_⟩
  · conv => whnf
    repeat' (first | exact True.intro | rfl | refine And.intro ?_ ?_ | omega)
    all_goals (conv => whnf)
    all_goals (try (first | rfl | omega | (simp [mulSz]; done)))
  · conv => whnf
    repeat' (first | exact True.intro | rfl | refine And.intro ?_ ?_ | omega)
    all_goals (conv => whnf)
    all_goals (try (first | rfl | omega | (simp [mulSz]; done)))
  conv => whnf
  refine ⟨?_, True.intro⟩
  intro _ _
  conv => whnf
  refine ⟨_, [4, 6], fX (A.take K) (B.take K) t1 t2 (0 + K + t1.length) (0 + K + t2.length) lA lB, ?_⟩
  conv => whnf
  refine ⟨?_, ?_, ?_⟩
  · conv => whnf
    repeat' (first | exact True.intro | rfl | refine And.intro ?_ ?_ | omega)
    all_goals (conv => whnf)
    all_goals (try (first | rfl | omega | (simp [mulSz]; done)))
  · conv => whnf
    repeat' (first | exact True.intro | rfl | refine And.intro ?_ ?_ | omega)
    all_goals (conv => whnf)
    all_goals (try (first | rfl | omega | (simp [mulSz]; done)))
  conv => whnf
  refine ⟨?_, True.intro⟩
  intro (x1 : List Bool) _
  conv => whnf
  refine tst_in (fun _ => ?_) (fun h_ => False.elim (by simp at h_ <;> omega))
  conv => whnf
  refine ⟨_, [9], fW x1, ?_⟩
  conv => whnf
  refine ⟨?_, ?_, ?_⟩
  · conv => whnf
    repeat' (first | exact True.intro | rfl | refine And.intro ?_ ?_ | omega)
    all_goals (conv => whnf)
    all_goals (try (first | rfl | omega | (simp; done)))
  · conv => whnf
    repeat' (first | exact True.intro | rfl | refine And.intro ?_ ?_ | omega)
    all_goals (conv => whnf)
    all_goals (try (first | rfl | omega | (simp; done)))
  conv => whnf
  refine tst_in (fun _ => ?_) (fun h_ => False.elim (by simp at h_ <;> omega))
  conv => whnf
  refine ⟨⟨by omega, by omega⟩, ?_⟩
  conv => whnf
  refine tst_in (fun _ => ?_) (fun h_ => False.elim (by simp at h_ <;> omega))
  conv => whnf
  refine ⟨_, [4, 6], fS t1 t2 (0 + K + t1.length) (0 + K + t2.length), ?_⟩
  conv => whnf
  refine ⟨?_, ?_, ?_⟩
  · conv => whnf
    repeat' (first | exact True.intro | rfl | refine And.intro ?_ ?_ | omega)
    all_goals (conv => whnf)
    all_goals (try (first | rfl | omega | (simp; done)))
  · conv => whnf
    repeat' (first | exact True.intro | rfl | refine And.intro ?_ ?_ | omega)
    all_goals (conv => whnf)
    all_goals (try (first | rfl | omega | (simp; done)))
  conv => whnf
  refine tst_in (fun _ => ?_) (fun h_ => False.elim ?_)
  rotate_left
  · have hq : decide ((wt (xr (A.take K) (B.take K)) : Int) = 0) = decide (A.take K = B.take K) := decide_eq_decide.mpr (by rw [← hz]; omega)
    rw [hq] at h_
    simp at h_
  conv => whnf
  refine tst_in (fun _ => ?_) (fun h_ => False.elim (by simp at h_ <;> omega))
  conv => whnf
  refine ⟨⟨by omega, by omega⟩, ?_⟩
  conv => whnf
  refine ⟨⟨by omega, by omega⟩, ?_⟩
  conv => whnf
  refine ⟨⟨by omega, by omega⟩, ?_⟩
  conv => whnf
  refine .inl ⟨(), [0, 1, 2], ?_⟩
  conv => whnf
  repeat' (first | exact True.intro | rfl | refine And.intro ?_ ?_ | omega)
  all_goals (conv => whnf)
  all_goals (try (first | rfl | omega | (simp; done) | (simp; omega)))
end Go.Proofs.Ytagndcamfjikhaa

namespace Go.Proofs.Ytagndcamfjikhaa
open Go Go.Fw
namespace bitsMetric
open Go.ChangeShapes Go.WideShapes Go.ChangeAt Go.RowKit
theorem own : ownKnob Try.prog.godebug = none := by kernel_rfl
theorem laid : laidOutB Try.prog = true := by kernel_rfl

set_option maxRecDepth 100000 in
theorem lifted (os : Os) (started : os.Started) (H : Type) (enc : TypeId × Value → H) :
    ReturnsInHanded {} Try.checked os 12 .any (Rows.bitsMetricSpec.pre6 enc Try.prog Try.f12 Rows.bitsMetricRow.domain false) (Rows.bitsMetricSpec.post enc Try.prog Try.f12 false true false false) := by
  refine returnsInHanded_of_change_sized (C := Try.checked) own started (by kernel_rfl) Try.func12
    (ChangeSpec.witness6 (enc := enc) (C := Try.checked) false ⟨#[], #[.slice none 0 0, .slice none 0 0, .slice none 0 0], []⟩ 8 (by kernel_rfl) (by kernel_rfl) (by kernel_rfl) (by kernel_rfl)) ?_
  intro W base args ds gs before hval0 hW _ hsz0 _
  have hsz : (DataW.weightsEach Try.prog (Try.f12.params.toList ++ Rows.bitsMetricSpec.plain.varTypes Try.prog) (ds ++ gs)).all (· ≤ reachBytes) = true := hsz0
  clear hsz0
  have hval : ∀ (j : Nat) t v, Try.f12.params[j]? = some t → args[j]? = some v → Value.okWide Try.prog W .any base t v := hval0
  have hW' := hW
  obtain ⟨p, q, hA0, hV, rfl, hfz, hnd⟩ := hW
  have hA : DataW.TrodAll enc Try.prog W 0 (fun _ => true) true Try.f12.params.toList args.toList ds p := hA0
  rw [Try.params12] at hA hval hsz
  obtain ⟨v0, vs0, d0, ds0, p0, q0, hargs, rfl, rfl, h0, r0⟩ := trodAll_cons hA
  obtain ⟨v1, vs1, d1, ds1, p1, q1, rfl, rfl, rfl, h1, r1⟩ := trodAll_cons r0
  obtain ⟨v2, vs2, d2, ds2, p2, q2, rfl, rfl, rfl, h2, r2⟩ := trodAll_cons r1
  obtain ⟨rfl, rfl, rfl⟩ := trodAll_nil r2
  obtain rfl : args = #[v0, v1, v2] := by cases args; simp_all
  obtain ⟨rfl, rfl⟩ := trodVars_none hV
  obtain ⟨a0, l0, c0, hv0⟩ := okWide_slice Try.underlying23 (hval 0 23 v0 rfl rfl)
  obtain ⟨a1, l1, c1, hv1⟩ := okWide_slice Try.underlying23 (hval 1 23 v1 rfl rfl)
  obtain ⟨a2, l2, c2, hv2⟩ := okWide_slice Try.underlying23 (hval 2 23 v2 rfl rfl)
  obtain ⟨n, ca, A, pA, hA1, hA2, hA3, hA4⟩ := arg_bools Try.underlying23 Try.underlying4 (by kernel_rfl) hv0 h0
  obtain ⟨m, cb, B, pB, hB1, hB2, hB3, hB4⟩ := arg_bools Try.underlying23 Try.underlying4 (by kernel_rfl) hv1 h1
  obtain ⟨l, cc, E, pC, hC1, hC2, hC3, hC4⟩ := arg_bools Try.underlying23 Try.underlying4 (by kernel_rfl) hv2 h2
  clear hA0 hval0
  obtain ⟨dA, cA⟩ := hA4 [pA, pB, pC] 0 (by simp) rfl
  obtain ⟨dB, cB⟩ := hB4 [pA, pB, pC] 1 (by simp) rfl
  obtain ⟨dC, cC⟩ := hC4 [pA, pB, pC] 2 (by simp) rfl
  have walk := (law12_f A B E n m l ca cb cc (by omega) (by omega) (by omega) (by omega) (by omega) (by omega)).calls W [pA, pB, pC] [v0, v1, v2] (heap_args rfl fun i s hs => by
      match i, hs with
      | 0, hs => simp only [metSpec, List.getElem?_cons_zero, Option.some.injEq] at hs; subst hs; exact ⟨_, rfl, cA⟩
      | 1, hs => simp only [metSpec, List.getElem?_cons_succ, List.getElem?_cons_zero, Option.some.injEq] at hs; subst hs; exact ⟨_, rfl, cB⟩
      | 2, hs => simp only [metSpec, List.getElem?_cons_succ, List.getElem?_cons_zero, Option.some.injEq] at hs; subst hs; exact ⟨_, rfl, cC⟩
      | i + 3, hs => simp [metSpec] at hs) (by simp only [metSpec, Dens]; exact ⟨_, _, rfl, dA, _, _, rfl, dB, _, _, rfl, dC, rfl⟩) (x := .bool true) (v := .bool true) rfl (by
      intro o ho y hy
      simp [metSpec] at ho
      subst ho; rfl)
  refine walk.mono fun e W' ⟨he, hg⟩ => ?_
  subst he
  exact ⟨_, rfl, law_done laid rfl rfl Try.underlying4 (by kernel_rfl) hW' rfl hg⟩

theorem over : Rows.bitsMetricRow.holds Try.pinned (OpenSpec.ofChange Rows.bitsMetricSpec) :=
  OpenClaim.holds_of_wide 12 Try.f12 rfl rfl rfl rfl rfl rfl rfl ⟨rfl, rfl, rfl, rfl, rfl⟩ rfl rfl rfl rfl rfl (by kernel_rfl) Try.func12 (by kernel_rfl)
    (of_decide_eq_true (by kernel_rfl)) (by unfold Func.isWrapper; first | (rw [if_pos (by decide +kernel)]; kernel_rfl) | (rw [if_neg (by decide +kernel)]; exact ⟨rfl, rfl⟩))
    (fun os started H enc _ => lifted os started H enc)

theorem proved : Rows.BitsMetricSaid := over
end bitsMetric
end Go.Proofs.Ytagndcamfjikhaa
