/-
  For any number the law BitsGrays answers true and leaves what it was handed as it was. Conditions: none beyond the row itself.
-/
import Derived.Test.YtagndcamfjikhaaRows
import Derived.Test.YtagndcamfjikhaaFw
import Derived.Test.YtagndcamfjikhaaFx
import Derived.Test.YtagndcamfjikhaaFa
import Derived.WalkKit
import Derived.ProofKit
import Derived.OpenShut
import Derived.SizedLaws
set_option linter.unusedSimpArgs false
set_option linter.unusedVariables false
namespace Go.Proofs.Ytagndcamfjikhaa
open Go Go.Fw
def tys : List (Nat × TyI) := [
  (1, ⟨.func, 1, 8, .nilFunc⟩),
  (2, ⟨.int .i64, 1, 8, .int .i64 0⟩),
  (3, ⟨.int .i64, 1, 8, .int .i64 0⟩),
  (4, ⟨.bool, 1, 1, .bool false⟩),
  (5, ⟨.int .u8, 1, 1, .int .u8 0⟩),
  (9, ⟨.str, 1, 16, .string (ByteArray.mk #[])⟩),
  (12, ⟨.int .u64, 1, 8, .int .u64 0⟩),
  (21, ⟨.int .i32, 1, 4, .int .i32 0⟩),
  (22, ⟨.func, 1, 8, .nilFunc⟩),
  (23, ⟨.slice 4, 1, 24, .slice none 0 0⟩),
  (24, ⟨.int .i64, 1, 8, .int .i64 0⟩),
  (26, ⟨.func, 1, 8, .nilFunc⟩),
  (28, ⟨.func, 1, 8, .nilFunc⟩),
  (29, ⟨.slice 3, 1, 24, .slice none 0 0⟩),
  (31, ⟨.func, 1, 8, .nilFunc⟩),
  (32, ⟨.func, 1, 8, .nilFunc⟩),
  (33, ⟨.func, 1, 8, .nilFunc⟩),
  (34, ⟨.func, 1, 8, .nilFunc⟩),
  (35, ⟨.func, 1, 8, .nilFunc⟩),
  (36, ⟨.func, 1, 8, .nilFunc⟩),
  (38, ⟨.func, 1, 8, .nilFunc⟩),
  (39, ⟨.func, 1, 8, .nilFunc⟩),
  (41, ⟨.func, 1, 8, .nilFunc⟩),
  (43, ⟨.func, 1, 8, .nilFunc⟩),
  (44, ⟨.func, 1, 8, .nilFunc⟩),
  (45, ⟨.func, 1, 8, .nilFunc⟩),
  (46, ⟨.func, 1, 8, .nilFunc⟩),
  (47, ⟨.func, 1, 8, .nilFunc⟩),
  (48, ⟨.func, 1, 8, .nilFunc⟩),
  (49, ⟨.func, 1, 8, .nilFunc⟩),
  (50, ⟨.slice 56, 1, 24, .slice none 0 0⟩),
  (51, ⟨.func, 1, 8, .nilFunc⟩),
  (52, ⟨.func, 1, 8, .nilFunc⟩),
  (53, ⟨.func, 1, 8, .nilFunc⟩),
  (54, ⟨.func, 1, 8, .nilFunc⟩),
  (55, ⟨.struct [(0, 3), (1, 23)], 2, 32, .agg #[.int .i64 0, .slice none 0 0]⟩),
  (56, ⟨.struct [(0, 3), (1, 23)], 2, 32, .agg #[.int .i64 0, .slice none 0 0]⟩),
  (57, ⟨.func, 1, 8, .nilFunc⟩),
  (58, ⟨.func, 1, 8, .nilFunc⟩),
  (59, ⟨.func, 1, 8, .nilFunc⟩),
  (60, ⟨.func, 1, 8, .nilFunc⟩),
  (61, ⟨.func, 1, 8, .nilFunc⟩),
  (62, ⟨.slice 5, 1, 24, .slice none 0 0⟩),
  (63, ⟨.func, 1, 8, .nilFunc⟩),
  (64, ⟨.func, 1, 8, .nilFunc⟩),
  (65, ⟨.int .u64, 1, 8, .int .u64 0⟩),
  (66, ⟨.func, 1, 8, .nilFunc⟩),
  (67, ⟨.func, 1, 8, .nilFunc⟩),
  (68, ⟨.func, 1, 8, .nilFunc⟩),
  (69, ⟨.func, 1, 8, .nilFunc⟩),
  (75, ⟨.func, 1, 8, .nilFunc⟩),
  (76, ⟨.int .u32, 1, 4, .int .u32 0⟩),
  (79, ⟨.func, 1, 8, .nilFunc⟩),
  (80, ⟨.ptr 5, 1, 8, .pointer none⟩)]

theorem tok : TOk Try.prog tys := by
  intro p hp
  simp only [tys, List.mem_cons, List.not_mem_nil, or_false] at hp
  rcases hp with rfl | rfl | rfl | rfl | rfl | rfl | rfl | rfl | rfl | rfl | rfl | rfl | rfl | rfl | rfl | rfl | rfl | rfl | rfl | rfl | rfl | rfl | rfl | rfl | rfl | rfl | rfl | rfl | rfl | rfl | rfl | rfl | rfl | rfl | rfl | rfl | rfl | rfl | rfl | rfl | rfl | rfl | rfl | rfl | rfl | rfl | rfl | rfl | rfl | rfl | rfl | rfl | rfl | rfl
  all_goals exact ⟨by kernel_rfl, by kernel_rfl⟩

theorem mixed : Try.prog.follows .mixedOrders = true := by kernel_rfl
def qf : Nat → Bool := fun f => match f with | 19 => true | 22 => true | 31 => true | 32 => true | 41 => true | 47 => true | 48 => true | 49 => true | 50 => true | 51 => true | 25 => true | 34 => true | 35 => true | 36 => true | _ => false
def cfg : Cfg := { T := tys, sgn := fun _ => false, wr := fun _ => false, k := 0, q := qf }
def cfgk (k : Nat) : Cfg := { T := tys, sgn := fun _ => false, wr := fun _ => false, k := k, q := qf }

theorem take_next {α : Type} (l : List α) (k : Nat) (d : α) (h : k < l.length) : l.take (k + 1) = l.take k ++ [l.getD k d] := by
  rw [List.take_succ_eq_append_getElem h]; simp [List.getD, h]

/-- How many are set. -/
def wt : List Bool → Nat
  | [] => 0
  | b :: r => (if b then 1 else 0) + wt r
theorem wt_append (a b : List Bool) : wt (a ++ b) = wt a + wt b := by
  induction a with
  | nil => simp [wt]
  | cons x a ih => simp only [List.cons_append, wt, ih]; omega
theorem wt_le (a : List Bool) : wt a ≤ a.length := by
  induction a with
  | nil => simp [wt]
  | cons x a ih => simp only [wt, List.length_cons]; split <;> omega
theorem wt_next (l : List Bool) (k : Nat) (h : k < l.length) : wt (l.take (k + 1)) = wt (l.take k) + (if l.getD k false then 1 else 0) := by
  rw [take_next l k false h, wt_append]; simp [wt]
theorem wt_take_le (l : List Bool) (k : Nat) : wt (l.take k) ≤ k := Nat.le_trans (wt_le _) (List.length_take_le _ _)

noncomputable def c48 : Code := (Try.f48.body).getD .skip
theorem isRow_q (n cap : Nat) : QFits Try.prog 48 ⟨[.slice 0 0 n cap], [.dead], .bool (@decide ((n : Int) ≤ 32768) (dLe n 32768))⟩ := by
  refine qfits_of_body (C := cfgk 1) (c := c48) (ts := [2]) tok mixed (fun _ => none) (fun _ => none)
    Try.func48 (by kernel_rfl) (by kernel_rfl) (by kernel_rfl) (by kernel_rfl) (by kernel_rfl) rfl rfl ?_
  conv => whnf

noncomputable def c22 : Code := (Try.f22.body).getD .skip
def inv22 (A : List Bool) (n cap : Nat) : LInv := ⟨Nat, fun k => ⟨anyTo 17 [.slice 0 0 n cap, .any, .any, .int .i64 (wt (A.take k)), .any, .any, .slice 0 0 n cap, .int .i64 n, .int .i64 k], [.seg false (.bools A)]⟩, fun k => k ≤ n, fun k => n - k⟩
theorem Weight_q (A : List Bool) (n cap : Nat) (hn : n ≤ A.length) (hm : n ≤ 4611686018427387904) : QFits Try.prog 22 ⟨[.slice 0 0 n cap], [.seg false (.bools A)], .int .i64 (wt (A.take n))⟩ := by
  refine qfits_of_body (C := cfgk 1) (c := c22) (ts := [2]) tok mixed (fun | 3 => some (inv22 A n cap) | _ => none) (fun _ => none)
    Try.func22 (by kernel_rfl) (by kernel_rfl) (by kernel_rfl) (by kernel_rfl) (by kernel_rfl) rfl rfl ?_
  conv => whnf
  refine ⟨⟨[0], (0 : Nat), ?_, Nat.zero_le _⟩, ?_⟩
  · conv => whnf
    repeat' (first | exact True.intro | rfl | refine And.intro ?_ ?_)
  · intro (k : Nat) (hk : k ≤ n)
    have hw := wt_take_le A k
    conv => whnf
    refine tst_in (fun hlt => ?_) (fun hge => ?_)
    · skip
      have hlt : k < n := by simp at hlt; omega
      have hnx := wt_next A k (by omega)
      conv => whnf
      refine ⟨by omega, ?_⟩
      conv => whnf
      refine ⟨by simp; omega, ?_⟩
      conv => whnf
      refine tst_in (fun hb => ?_) (fun hb => ?_)
      · skip
        have hb : A.getD k false = true := by simpa using hb
        rw [hb] at hnx
        conv => whnf
        refine ⟨by omega, ?_⟩
        conv => whnf
        refine ⟨by omega, ?_⟩
        conv => whnf
        refine ⟨[0], k + 1, ?_, ?_, ?_⟩
        · conv => whnf
          repeat' (first | exact True.intro | rfl | refine And.intro ?_ ?_)
          show ((wt (A.take (k + 1)) : Nat) : Int) = (wt (A.take k) : Int) + 1
          rw [hnx]; rfl
        · show k + 1 ≤ n
          omega
        · show n - (k + 1) < n - k
          omega
      · skip
        have hb : A.getD k false = false := by simpa using hb
        rw [hb] at hnx
        conv => whnf
        refine ⟨by omega, ?_⟩
        conv => whnf
        refine ⟨[0], k + 1, ?_, ?_, ?_⟩
        · conv => whnf
          repeat' (first | exact True.intro | rfl | refine And.intro ?_ ?_)
          show ((wt (A.take (k + 1)) : Nat) : Int) = (wt (A.take k) : Int)
          rw [hnx]; rfl
        · show k + 1 ≤ n
          omega
        · show n - (k + 1) < n - k
          omega
    · skip
      have hge : n ≤ k := by simp at hge; omega
      conv => whnf
      have : k = n := by omega
      rw [this]

noncomputable def c19 : Code := (Try.f19.body).getD .skip
def inv19 (A B : List Bool) (n ca cb : Nat) : LInv := ⟨Nat, fun k => ⟨anyTo 26 [.slice 0 0 n ca, .slice 1 0 n cb, .any, .any, .any, .int .i64 k], [.seg false (.bools A), .seg false (.bools B)]⟩, fun k => k ≤ n ∧ A.take k = B.take k, fun k => n - k⟩
theorem same_q (A B : List Bool) (n m ca cb : Nat) (hn : n ≤ A.length) (hm : m ≤ B.length) (hN : n ≤ 4611686018427387904) :
    QFits Try.prog 19 ⟨[.slice 0 0 n ca, .slice 1 0 m cb], [.seg false (.bools A), .seg false (.bools B)], .bool (decide (A.take n = B.take m))⟩ := by
  refine qfits_of_body (C := cfgk 2) (c := c19) (ts := [4]) tok mixed (fun | 4 => some (inv19 A B n ca cb) | _ => none) (fun _ => none)
    Try.func19 (by kernel_rfl) (by kernel_rfl) (by kernel_rfl) (by kernel_rfl) (by kernel_rfl) rfl rfl ?_
  conv => whnf
  refine tst_in (fun h => ?_) (fun h => ?_)
  · skip
    have hne : n ≠ m := by simp at h; omega
    conv => whnf
    symm
    have : A.take n ≠ B.take m := fun e => by have := congrArg List.length e; simp at this; omega
    simp [this]
  · skip
    have heq : n = m := by simp at h; omega
    subst heq
    conv => whnf
    refine ⟨⟨[0, 1], (0 : Nat), ?_, Nat.zero_le _, by simp⟩, ?_⟩
    · conv => whnf
      repeat' (first | exact True.intro | rfl | refine And.intro ?_ ?_)
    · intro (k : Nat) hk
      obtain ⟨hk, hAB⟩ := hk
      conv => whnf
      refine tst_in (fun hlt => ?_) (fun hge => ?_)
      · skip
        have hlt : k < n := by simp at hlt; omega
        have ha := take_next A k false (by omega)
        have hb := take_next B k false (by omega)
        conv => whnf
        refine ⟨by omega, ?_⟩
        conv => whnf
        refine ⟨by simp; omega, ?_⟩
        conv => whnf
        refine ⟨by omega, ?_⟩
        conv => whnf
        refine ⟨by simp; omega, ?_⟩
        conv => whnf
        refine tst_in (fun hne => ?_) (fun he => ?_)
        · skip
          have hne : A.getD k false ≠ B.getD k false := by simpa using hne
          conv => whnf
          symm
          have : A.take n ≠ B.take n := fun e => by
            have e2 := congrArg (fun l => l.take (k + 1)) e
            simp only [List.take_take, Nat.min_eq_left (show k + 1 ≤ n by omega)] at e2
            rw [ha, hb, hAB] at e2
            simp at e2
            exact hne (by simpa using e2)
          simp [this]
        · skip
          have he : A.getD k false = B.getD k false := by simpa using he
          conv => whnf
          refine ⟨by omega, ?_⟩
          conv => whnf
          refine ⟨[0, 1], k + 1, ?_, ?_, ?_⟩
          · conv => whnf
            repeat' (first | exact True.intro | rfl | refine And.intro ?_ ?_)
          · exact ⟨by show k + 1 ≤ n; omega, by show A.take (k + 1) = B.take (k + 1); rw [ha, hb, hAB, he]⟩
          · show n - (k + 1) < n - k
            omega
      · skip
        have hge : n ≤ k := by simp at hge; omega
        conv => whnf
        have : k = n := by omega
        subst this
        simp [hAB]

/-- One slice made anew, which holds xs: how much room is behind it is open. -/
def rowOut (k : Nat) (pre : List Seg) (xs : List Bool) (f : AV → AV) : FOut := ⟨List Bool, fun _ => True, fun tl => f (.slice k 0 xs.length (xs.length + tl.length)), fun tl => pre ++ [.seg true (.bools (xs ++ tl))]⟩

/-- What is set in just one. -/
def xr (a b : List Bool) : List Bool := List.zipWith (fun x y => x != y) a b
theorem xr_len (a b : List Bool) (h : a.length = b.length) : (xr a b).length = a.length := by simp [xr, h]
theorem xr_next (A B : List Bool) (k : Nat) (ha : k < A.length) (hb : k < B.length) : xr (A.take (k + 1)) (B.take (k + 1)) = xr (A.take k) (B.take k) ++ [A.getD k false != B.getD k false] := by
  rw [take_next A k false ha, take_next B k false hb]
  unfold xr
  rw [List.zipWith_append (by simp; omega)]
  rfl
theorem xr_take_len (A B : List Bool) (k : Nat) (ha : k ≤ A.length) (hb : k ≤ B.length) : (xr (A.take k) (B.take k)).length = k := by simp [xr]; omega

def xrOk (n m : Nat) (A B : List Bool) : List Bool := if n ≤ 32768 ∧ n = m then xr (A.take n) (B.take n) else []
def erOk (n m : Nat) : Int := if n ≤ 32768 ∧ n = m then 0 else 1
def xrSpec (n m ca cb : Nat) (A B : List Bool) : FSpec := ⟨[.slice 0 0 n ca, .slice 1 0 m cb], [.seg false (.bools A), .seg false (.bools B)],
  [rowOut 2 [.dead, .dead] (xrOk n m A B) fun s => .tup [s, .int .i64 (erOk n m)]]⟩

noncomputable def c20 : Code := (Try.f20.body).getD .skip
def inv20 (A B : List Bool) (n ca cb : Nat) : LInv := ⟨Nat, fun k => ⟨anyTo 40 [.slice 0 0 n ca, .slice 1 0 n cb, .any, .any, .any, .any, .slice 2 0 n n, .any, .any, .any, .any, .any, .any, .any, .any, .any, .any, .any, .any, .any, .any, .any, .int .i64 n, .int .i64 k],
  [.seg false (.bools A), .seg false (.bools B), .seg true (.bools (xr (A.take k) (B.take k) ++ List.replicate (n - k) false))]⟩, fun k => k ≤ n, fun k => n - k⟩

theorem set_fill (l : List Bool) (k r : Nat) (x : Bool) (hl : l.length = k) : (l ++ List.replicate (r + 1) false).set k x = l ++ [x] ++ List.replicate r false := by
  subst hl
  simp [List.replicate_succ]

set_option maxRecDepth 100000 in
theorem Xor_f (A B : List Bool) (n m ca cb : Nat) (hn : n ≤ A.length) (hm : m ≤ B.length) : Fits Try.prog 20 (xrSpec n m ca cb A B) := by
  refine fits_of_body (C := cfgk 2) (c := c20) (ts := [4, 5]) tok mixed (fun | 5 => some (inv20 A B n ca cb) | _ => none) (fun _ => none)
    Try.func20 (by kernel_rfl) (by kernel_rfl) (by kernel_rfl) (by kernel_rfl) rfl ?_
  conv => whnf
  refine ⟨_, [0], isRow_q n ca, ?_⟩
  conv => whnf
  refine ⟨⟨?_, True.intro⟩, ⟨True.intro, True.intro⟩, ?_⟩
  · conv => whnf
    repeat' (first | exact True.intro | rfl | refine And.intro ?_ ?_)
  conv => whnf
  have no : ¬ (n ≤ 32768 ∧ n = m) → xrOk n m A B = [] ∧ erOk n m = 1 := fun h => by simp only [xrOk, erOk, if_neg h, and_self]
  have yes : (n ≤ 32768 ∧ n = m) → xrOk n m A B = xr (A.take n) (B.take n) ∧ erOk n m = 0 := fun h => by simp only [xrOk, erOk, if_pos h, and_self]
  refine tst_in (fun h => ?_) (fun h => ?_)
  · skip
    have h : ¬ (n : Int) ≤ 32768 := by simpa using h
    obtain ⟨e1, e2⟩ := no (by omega)
    conv => whnf
    refine .inl ⟨([] : List Bool), [0, 1, 9], ?_⟩
    conv => whnf
    rw [e1, e2]
    repeat' (first | exact True.intro | rfl | refine And.intro ?_ ?_)
  · skip
    have h : (n : Int) ≤ 32768 := by simpa using h
    conv => whnf
    refine tst_in (fun h2 => ?_) (fun h2 => ?_)
    · skip
      have h2 : ¬ n = m := by simp at h2; omega
      obtain ⟨e1, e2⟩ := no (by omega)
      conv => whnf
      refine .inl ⟨([] : List Bool), [0, 1, 9], ?_⟩
      conv => whnf
      rw [e1, e2]
      repeat' (first | exact True.intro | rfl | refine And.intro ?_ ?_)
    · skip
      have h2 : n = m := by simp at h2; omega
      subst h2
      obtain ⟨e1, e2⟩ := yes ⟨by omega, rfl⟩
      conv => whnf
      refine ⟨⟨by omega, by omega, by show (1 : Int) * n ≤ 281474976710656; omega, by omega⟩, ?_⟩
      conv => whnf
      refine ⟨⟨[0, 1, 2], (0 : Nat), ?_, Nat.zero_le _⟩, ?_⟩
      · conv => whnf
        repeat' (first | exact True.intro | rfl | refine And.intro ?_ ?_)
      · intro (k : Nat) (hk : k ≤ n)
        conv => whnf
        refine tst_in (fun hlt => ?_) (fun hge => ?_)
        · skip
          have hlt : k < n := by simp at hlt; omega
          have hx := xr_take_len A B k (by omega) (by omega)
          have hxn := xr_next A B k (by omega) (by omega)
          conv => whnf
          refine ⟨by omega, ?_⟩
          conv => whnf
          refine ⟨by simp; omega, ?_⟩
          conv => whnf
          refine ⟨by omega, ?_⟩
          conv => whnf
          refine ⟨by simp; omega, ?_⟩
          conv => whnf
          refine ⟨by omega, ?_⟩
          conv => whnf
          refine ⟨by simp [hx]; omega, ?_⟩
          conv => whnf
          refine ⟨by omega, ?_⟩
          conv => whnf
          refine ⟨[0, 1, 2], (k + 1 : Nat), ?_, ?_, ?_⟩
          · conv => whnf
            repeat' (first | exact True.intro | rfl | refine And.intro ?_ ?_)
            conv => whnf
            rw [Nat.zero_add, Int.toNat_natCast, hxn, show n - k = (n - (k + 1)) + 1 by omega, set_fill _ k _ _ hx]
          · show k + 1 ≤ n
            omega
          · show n - (k + 1) < n - k
            omega
        · skip
          have hge : n ≤ k := by simp at hge; omega
          have : k = n := by omega
          subst this
          conv => whnf
          refine .inl ⟨([] : List Bool), [0, 1, 2], ?_⟩
          conv => whnf
          rw [e1, e2]
          repeat' (first | exact True.intro | rfl | refine And.intro ?_ ?_)
          · exact xr_take_len A B k (by omega) (by omega)
          · exact xr_take_len A B k (by omega) (by omega)
          · conv => whnf
            simp

def wtSpec (n m ca cb : Nat) (A B : List Bool) : FSpec := ⟨[.slice 0 0 n ca, .slice 1 0 m cb], [.seg false (.bools A), .seg false (.bools B)],
  [⟨Unit, fun _ => True, fun _ => .tup [.int .i64 (wt (xrOk n m A B)), .int .i64 (erOk n m)], fun _ => [.dead, .dead]⟩]⟩

theorem xrOk_len (n m : Nat) (A B : List Bool) : (xrOk n m A B).length ≤ 32768 := by
  unfold xrOk; split
  · simp [xr]; omega
  · simp

noncomputable def c38 : Code := (Try.f38.body).getD .skip
theorem Distance_f (A B : List Bool) (n m ca cb : Nat) (hn : n ≤ A.length) (hm : m ≤ B.length) : Fits Try.prog 38 (wtSpec n m ca cb A B) := by
  refine fits_of_body (C := cfgk 2) (c := c38) (ts := [4, 5]) tok mixed (fun _ => none) (fun _ => none)
    Try.func38 (by kernel_rfl) (by kernel_rfl) (by kernel_rfl) (by kernel_rfl) rfl ?_
  have hl := xrOk_len n m A B
  conv => whnf
  refine ⟨_, [0, 1], Xor_f A B n m ca cb hn hm, ?_⟩
  conv => whnf
  refine ⟨?_, ?_, ?_⟩
  · conv => whnf
    repeat' (first | exact True.intro | rfl | refine And.intro ?_ ?_)
  · conv => whnf
    repeat' (first | exact True.intro | rfl | refine And.intro ?_ ?_)
  conv => whnf
  refine ⟨?_, True.intro⟩
  intro (tl : List Bool) _
  conv => whnf
  refine ⟨_, [2], Weight_q (xrOk n m A B ++ tl) (xrOk n m A B).length ((xrOk n m A B).length + tl.length) (by simp) (by omega), ?_⟩
  conv => whnf
  refine ⟨?_, ?_, ?_⟩
  · conv => whnf
    repeat' (first | exact True.intro | rfl | refine And.intro ?_ ?_)
  · conv => whnf
    repeat' (first | exact True.intro | rfl | refine And.intro ?_ ?_)
  conv => whnf
  refine .inl ⟨(), [0, 1], ?_⟩
  conv => whnf
  repeat' (first | exact True.intro | rfl | refine And.intro ?_ ?_)
  · show ((wt (xrOk n m A B) : Nat) : Int) = (wt ((xrOk n m A B ++ tl).take (xrOk n m A B).length) : Nat)
    rw [List.take_left]

noncomputable def c41 : Code := (Try.f41.body).getD .skip
def inv41 (A : List Bool) (n cap : Nat) : LInv := ⟨Nat, fun k => ⟨anyTo 18 [.slice 0 0 n cap, .any, .any, .int .i64 (wt (A.take k)), .int .i64 k], [.seg false (.bools A)]⟩, fun k => k ≤ n, fun k => n - k⟩
theorem refWeight_q (A : List Bool) (n cap : Nat) (hn : n ≤ A.length) (hm : n ≤ 4611686018427387904) : QFits Try.prog 41 ⟨[.slice 0 0 n cap], [.seg false (.bools A)], .int .i64 (wt (A.take n))⟩ := by
  refine qfits_of_body (C := cfgk 1) (c := c41) (ts := [2]) tok mixed (fun | 3 => some (inv41 A n cap) | _ => none) (fun _ => none)
    Try.func41 (by kernel_rfl) (by kernel_rfl) (by kernel_rfl) (by kernel_rfl) (by kernel_rfl) rfl rfl ?_
  conv => whnf
  refine ⟨⟨[0], (0 : Nat), ?_, Nat.zero_le _⟩, ?_⟩
  · conv => whnf
    repeat' (first | exact True.intro | rfl | refine And.intro ?_ ?_)
  · intro (k : Nat) (hk : k ≤ n)
    have hw := wt_take_le A k
    conv => whnf
    refine tst_in (fun hlt => ?_) (fun hge => ?_)
    · skip
      have hlt : k < n := by simp at hlt; omega
      have hnx := wt_next A k (by omega)
      conv => whnf
      refine ⟨by omega, ?_⟩
      conv => whnf
      refine ⟨by simp; omega, ?_⟩
      conv => whnf
      refine tst_in (fun hb => ?_) (fun hb => ?_)
      · skip
        have hb : A.getD k false = true := by simpa using hb
        rw [hb] at hnx
        conv => whnf
        refine ⟨by omega, ?_⟩
        conv => whnf
        refine ⟨by omega, ?_⟩
        conv => whnf
        refine ⟨[0], (k + 1 : Nat), ?_, ?_, ?_⟩
        · conv => whnf
          repeat' (first | exact True.intro | rfl | refine And.intro ?_ ?_)
          show ((wt (A.take (k + 1)) : Nat) : Int) = (wt (A.take k) : Int) + 1
          rw [hnx]; rfl
        · show k + 1 ≤ n
          omega
        · show n - (k + 1) < n - k
          omega
      · skip
        have hb : A.getD k false = false := by simpa using hb
        rw [hb] at hnx
        conv => whnf
        refine ⟨by omega, ?_⟩
        conv => whnf
        refine ⟨[0], (k + 1 : Nat), ?_, ?_, ?_⟩
        · conv => whnf
          repeat' (first | exact True.intro | rfl | refine And.intro ?_ ?_)
          show ((wt (A.take (k + 1)) : Nat) : Int) = (wt (A.take k) : Int)
          rw [hnx]; rfl
        · show k + 1 ≤ n
          omega
        · show n - (k + 1) < n - k
          omega
    · skip
      have hge : n ≤ k := by simp at hge; omega
      conv => whnf
      have : k = n := by omega
      rw [this]

def cfgp (k r : Nat) (p : List Nat) : Cfg := { T := tys, sgn := fun _ => false, wr := fun _ => false, k := k, q := qf, plan := fun i => match Nat.beq i r with | true => some (.lin p .done) | false => none }
noncomputable def c37 : Code := (Try.f37.body).getD .skip
def inv37 (A B : List Bool) (n ca cb : Nat) : LInv := ⟨Nat × List Bool, fun p => ⟨anyTo 42 [.slice 0 0 n ca, .slice 1 0 n cb, .any, .any, .any, .any, .slice 2 0 p.1 (p.1 + p.2.length), .int .i64 p.1],
  [.seg false (.bools A), .seg false (.bools B), .seg true (.bools (xr (A.take p.1) (B.take p.1) ++ p.2))]⟩, fun p => p.1 ≤ n, fun p => n - p.1⟩

set_option maxRecDepth 100000 in
theorem refXor_f (A B : List Bool) (n m ca cb : Nat) (hn : n ≤ A.length) (hm : m ≤ B.length) : Fits Try.prog 37 (xrSpec n m ca cb A B) := by
  refine fits_of_body (C := cfgp 2 7 [0, 1, 2, 3, 4, 5, 6, 7, 8, 9, 10, 11, 12]) (c := c37) (ts := [4, 5]) tok mixed (fun | 5 => some (inv37 A B n ca cb) | _ => none) (fun _ => none)
    Try.func37 (by kernel_rfl) (by kernel_rfl) (by kernel_rfl) (by kernel_rfl) rfl ?_
  have no : ¬ (n ≤ 32768 ∧ n = m) → xrOk n m A B = [] ∧ erOk n m = 1 := fun h => by simp only [xrOk, erOk, if_neg h, and_self]
  have yes : (n ≤ 32768 ∧ n = m) → xrOk n m A B = xr (A.take n) (B.take n) ∧ erOk n m = 0 := fun h => by simp only [xrOk, erOk, if_pos h, and_self]
  conv => whnf
  refine tst_in (fun h => ?_) (fun h => ?_)
  · skip
    have h : (32768 : Int) < n := by simpa using h
    obtain ⟨e1, e2⟩ := no (by omega)
    conv => whnf
    refine .inl ⟨([] : List Bool), [0, 1, 9], ?_⟩
    conv => whnf
    rw [e1, e2]
    repeat' (first | exact True.intro | rfl | refine And.intro ?_ ?_)
  · skip
    have h : ¬ (32768 : Int) < n := by simpa using h
    conv => whnf
    refine tst_in (fun h1 => ?_) (fun h1 => ?_)
    · skip
      have h1 : (32768 : Int) < m := by simpa using h1
      obtain ⟨e1, e2⟩ := no (by omega)
      conv => whnf
      refine .inl ⟨([] : List Bool), [0, 1, 9], ?_⟩
      conv => whnf
      rw [e1, e2]
      repeat' (first | exact True.intro | rfl | refine And.intro ?_ ?_)
    · skip
      conv => whnf
      refine tst_in (fun h2 => ?_) (fun h2 => ?_)
      · skip
        have h2 : ¬ n = m := by simp at h2; omega
        obtain ⟨e1, e2⟩ := no (by omega)
        conv => whnf
        refine .inl ⟨([] : List Bool), [0, 1, 9], ?_⟩
        conv => whnf
        rw [e1, e2]
        repeat' (first | exact True.intro | rfl | refine And.intro ?_ ?_)
      · skip
        have h2 : n = m := by simp at h2; omega
        subst h2
        obtain ⟨e1, e2⟩ := yes ⟨by omega, rfl⟩
        conv => whnf
        refine ⟨⟨[0, 1, 9], ((0, []) : Nat × List Bool), ?_, Nat.zero_le _⟩, ?_⟩
        · conv => whnf
          repeat' (first | exact True.intro | rfl | refine And.intro ?_ ?_)
        · rintro ⟨k, tl⟩ hk
          have hk : k ≤ n := hk
          conv => whnf
          refine tst_in (fun hlt => ?_) (fun hge => ?_)
          · skip
            have hlt : k < n := by simp at hlt; omega
            have hx := xr_take_len A B k (by omega) (by omega)
            have hxn := xr_next A B k (by omega) (by omega)
            conv => whnf
            refine ⟨by omega, ?_⟩
            conv => whnf
            refine ⟨by simp; omega, ?_⟩
            conv => whnf
            refine ⟨by omega, ?_⟩
            conv => whnf
            refine ⟨by simp; omega, ?_⟩
            conv => whnf
            refine ⟨by show 0 + 1 ≤ 1; omega, ?_⟩
            conv => whnf
            refine ⟨by show 0 + (k + tl.length) ≤ (xr (A.take k) (B.take k) ++ tl).length; simp [hx], ?_⟩
            conv => whnf
            refine ⟨⟨by omega, by show (k + 1) * 1 ≤ 140737488355328; omega⟩, ?_⟩
            conv => whnf
            intro tl2
            conv => whnf
            refine ⟨by omega, ?_⟩
            conv => whnf
            refine ⟨[0, 1, 4], ((k + 1, tl2) : Nat × List Bool), ?_, ?_, ?_⟩
            · conv => whnf
              repeat' (first | exact True.intro | rfl | refine And.intro ?_ ?_)
              conv => whnf
              show xr (A.take (k + 1)) (B.take (k + 1)) ++ tl2 = (((xr (A.take k) (B.take k) ++ tl).drop 0).take k ++ (([A.getD (0 + k) false != B.getD (0 + k) false]).drop 0).take 1) ++ tl2
              rw [hxn, Nat.zero_add, List.drop_zero, List.drop_zero, List.take_left' hx]
              rfl
            · show k + 1 ≤ n
              omega
            · show n - (k + 1) < n - k
              omega
          · skip
            have hge : n ≤ k := by simp at hge; omega
            have : k = n := by omega
            subst this
            conv => whnf
            refine .inl ⟨tl, [0, 1, 2], ?_⟩
            conv => whnf
            rw [e1, e2]
            repeat' (first | exact True.intro | rfl | refine And.intro ?_ ?_)
            · exact xr_take_len A B k (by omega) (by omega)
            · show (xr (A.take k) (B.take k)).length + tl.length = k + tl.length
              rw [xr_take_len A B k (by omega) (by omega)]

def marks : List Bool := [true, false, true, true]
def lentSpec (A : List Bool) (n ca : Nat) : FSpec := ⟨[.slice 0 0 n ca], [.seg false (.bools A)],
  [⟨List Bool, fun _ => True, fun tl => .tup [.slice 1 0 n (n + 4 + tl.length), .slice 1 0 (n + 4 : Nat) (n + 4 + tl.length)], fun tl => [.dead, .seg true (.bools (A.take n ++ marks ++ tl))]⟩]⟩
noncomputable def c26 : Code := (Try.f26.body).getD .skip
set_option maxRecDepth 100000 in
theorem lent_f (A : List Bool) (n ca : Nat) (hn : n ≤ A.length) (hN : n ≤ 140737488351232) : Fits Try.prog 26 (lentSpec A n ca) := by
  refine fits_of_body (C := cfgk 1) (c := c26) (ts := [2, 3]) tok mixed (fun _ => none) (fun _ => none)
    Try.func26 (by kernel_rfl) (by kernel_rfl) (by kernel_rfl) (by kernel_rfl) rfl ?_
  conv => whnf
  repeat (refine And.intro ?_ ?_; (focus (first | omega | ((conv => whnf); omega) | (simp [mulSz, Cont.len]; done) | (simp [mulSz, Cont.len]; omega))); conv => whnf)
  intro (tl : List Bool)
  conv => whnf
  repeat (refine And.intro ?_ ?_; (focus (first | omega | ((conv => whnf); omega) | (simp [mulSz, Cont.len]; done) | (simp [mulSz, Cont.len]; omega))); conv => whnf)
  intro (tl2 : List Bool)
  conv => whnf
  repeat (refine And.intro ?_ ?_; (focus (first | omega | ((conv => whnf); omega) | (simp [mulSz, Cont.len]; done) | (simp [mulSz, Cont.len]; omega))); conv => whnf)
  refine .inl ⟨tl2, [0, 4], ?_⟩
  conv => whnf
  repeat' (first | exact True.intro | rfl | refine And.intro ?_ ?_ | omega)
  all_goals (conv => whnf)
  all_goals (try (first | rfl | omega | (simp [mulSz, marks, List.take_append_of_le_length, hn]; done) | (simp [mulSz, marks, List.take_append_of_le_length, hn]; omega)))

def turnSpec (A : List Bool) (n ca : Nat) : FSpec := ⟨[.slice 0 0 n ca], [.seg true (.bools A)],
  [⟨Unit, fun _ => True, fun _ => .tup [], fun _ => [.seg true (.bools ((A.take n).map (!·) ++ A.drop n))]⟩]⟩
def inv33 (A : List Bool) (n ca : Nat) : LInv := ⟨Nat, fun k => ⟨anyTo 17 [.slice 0 0 n ca, .any, .int .i64 k], [.seg true (.bools ((A.take k).map (!·) ++ A.drop k))]⟩, fun k => k ≤ n, fun k => n - k⟩
noncomputable def c33 : Code := (Try.f33.body).getD .skip
theorem turn_next (A : List Bool) (k : Nat) (h : k < A.length) : ((A.take k).map (!·) ++ A.drop k).set k (!A.getD k false) = (A.take (k + 1)).map (!·) ++ A.drop (k + 1) := by
  have hl : ((A.take k).map (!·)).length = k := by simp; omega
  rw [take_next A k false h, List.set_append_right _ _ (by omega), hl, Nat.sub_self, List.drop_eq_getElem_cons h, List.set_cons_zero, List.map_append, List.append_assoc]
  rfl
theorem turn_get (A : List Bool) (k : Nat) (h : k < A.length) : ((A.take k).map (!·) ++ A.drop k).getD k false = A.getD k false := by
  have hl : ((A.take k).map (!·)).length = k := by simp; omega
  simp only [List.getD, List.getElem?_append_right (show ((A.take k).map (!·)).length ≤ k by omega), hl, Nat.sub_self, List.drop_eq_getElem_cons h]
  simp [h]
set_option maxRecDepth 100000 in
theorem turn_f (A : List Bool) (n ca : Nat) (hn : n ≤ A.length) (hN : n ≤ 4611686018427387904) : Fits Try.prog 33 (turnSpec A n ca) := by
  refine fits_of_body (C := cfgk 1) (c := c33) (ts := []) tok mixed (fun | 1 => some (inv33 A n ca) | _ => none) (fun _ => none)
    Try.func33 (by kernel_rfl) (by kernel_rfl) (by kernel_rfl) (by kernel_rfl) rfl ?_
  conv => whnf
  refine ⟨⟨[0], (0 : Nat), ?_, Nat.zero_le _⟩, ?_⟩
  · conv => whnf
    repeat' (first | exact True.intro | rfl | refine And.intro ?_ ?_ | omega)
    all_goals (conv => whnf)
    all_goals (try (first | rfl | omega | (simp; done) | (simp; omega)))
  · intro (k : Nat) (hk : k ≤ n)
    conv => whnf
    refine tst_in (fun hlt => ?_) (fun hge => ?_)
    · have hlt : k < n := by simp at hlt; omega
      conv => whnf
      repeat (refine And.intro ?_ ?_; (focus (first | omega | ((conv => whnf); omega) | (simp [mulSz, Cont.len]; done) | (simp [mulSz, Cont.len]; omega))); conv => whnf)
      refine ⟨[0], (k + 1 : Nat), ?_, (by omega : k + 1 ≤ n), (by omega : n - (k + 1) < n - k)⟩
      conv => whnf
      repeat' (first | exact True.intro | rfl | refine And.intro ?_ ?_ | omega)
      all_goals (conv => whnf)
      all_goals (try (first | rfl | omega | (simp; done) | (simp; omega)))
      conv => whnf
      rw [Nat.zero_add, Int.toNat_natCast, turn_get A k (by omega), turn_next A k (by omega)]
    · have hge : n ≤ k := by simp at hge; omega
      have : k = n := by omega
      subst this
      conv => whnf
      refine .inl ⟨(), [0], ?_⟩
      conv => whnf
      repeat' (first | exact True.intro | rfl | refine And.intro ?_ ?_ | omega)
      all_goals (conv => whnf)
      all_goals (try (first | rfl | omega | (simp; done) | (simp; omega)))

noncomputable def c32 : Code := (Try.f32.body).getD .skip
set_option maxRecDepth 100000 in
theorem unhurt_q (A tl : List Bool) (n ca c : Nat) (hn : n ≤ A.length) (hN : n ≤ 140737488351232) (hc : n + 4 ≤ c) : QFits Try.prog 32 ⟨[.slice 0 0 (n + 4 : Nat) c, .slice 1 0 n ca], [.seg true (.bools (A.take n ++ marks ++ tl)), .seg false (.bools A)], .bool true⟩ := by
  refine qfits_of_body (C := cfgk 2) (c := c32) (ts := [4]) tok mixed (fun _ => none) (fun _ => none)
    Try.func32 (by kernel_rfl) (by kernel_rfl) (by kernel_rfl) (by kernel_rfl) (by kernel_rfl) rfl rfl ?_
  have hl : (A.take n).length = n := by simp; omega
  have e : (A.take n ++ marks ++ tl).take n = A.take n := by rw [List.append_assoc, List.take_left' hl]
  have g : ∀ k b, marks[k]? = some b → (A.take n ++ marks ++ tl).getD (n + k) false = b := fun k b h => by
    have hk : k < marks.length := (List.getElem?_eq_some_iff.1 h).1
    rw [List.append_assoc, List.getD, List.getElem?_append_right (by omega), hl, Nat.add_sub_cancel_left, List.getElem?_append_left hk, h]
    rfl
  have g0 : (A.take n ++ marks ++ tl).getD (0 + ((n : Nat) : Int).toNat) false = true := by rw [Nat.zero_add, Int.toNat_natCast]; exact g 0 _ rfl
  have g1 : (A.take n ++ marks ++ tl).getD (0 + (((n : Nat) : Int) + 1).toNat) false = false := by rw [Nat.zero_add, show (((n : Nat) : Int) + 1).toNat = n + 1 by omega]; exact g 1 _ rfl
  have g2 : (A.take n ++ marks ++ tl).getD (0 + (((n : Nat) : Int) + 2).toNat) false = true := by rw [Nat.zero_add, show (((n : Nat) : Int) + 2).toNat = n + 2 by omega]; exact g 2 _ rfl
  have g3 : (A.take n ++ marks ++ tl).getD (0 + (((n : Nat) : Int) + 3).toNat) false = true := by rw [Nat.zero_add, show (((n : Nat) : Int) + 3).toNat = n + 3 by omega]; exact g 3 _ rfl
  have hlen : (A.take n ++ marks ++ tl).length = n + 4 + tl.length := by simp [marks]; omega
  conv => whnf
  repeat (refine And.intro ?_ ?_; (focus (first | omega | ((conv => whnf); omega) | (simp [mulSz, Cont.len]; done) | (simp [mulSz, Cont.len]; omega))); conv => whnf)
  refine tst_in (fun _ => ?_) (fun h_ => False.elim (by simp at h_ <;> omega))
  conv => whnf
  conv => whnf
  repeat (refine And.intro ?_ ?_; (focus (first | omega | ((conv => whnf); omega) | (simp [mulSz, Cont.len]; done) | (simp [mulSz, Cont.len]; omega))); conv => whnf)
  refine ⟨_, [0, 1], same_q (A.take n ++ marks ++ tl) A n n c ca (by omega) hn (by omega), ?_⟩
  conv => whnf
  refine ⟨?_, ?_, ?_⟩
  · conv => whnf
    repeat' (first | exact True.intro | rfl | refine And.intro ?_ ?_ | omega)
    all_goals (conv => whnf)
    all_goals (try (first | rfl | omega | (simp; done)))
  · conv => whnf
    repeat' (first | exact True.intro | rfl | refine And.intro ?_ ?_ | omega)
    all_goals (conv => whnf)
    all_goals (try (first | rfl | omega | (simp; done)))
  conv => whnf
  rw [e]
  conv => whnf
  repeat (refine And.intro ?_ ?_; (focus (first | omega | ((conv => whnf); omega) | (simp [mulSz, Cont.len]; done) | (simp [mulSz, Cont.len]; omega))); conv => whnf)
  refine tst_in (fun _ => ?_) (fun h_ => False.elim (by simp at h_ <;> omega))
  conv => whnf
  conv => whnf
  repeat (refine And.intro ?_ ?_; (focus (first | omega | ((conv => whnf); omega) | (simp [mulSz, Cont.len, hlen]; done) | (simp [mulSz, Cont.len, hlen]; omega))); conv => whnf)
  refine tst_in (fun _ => ?_) (fun h_ => absurd h_ (by rw [g0]; decide))
  conv => whnf
  conv => whnf
  repeat (refine And.intro ?_ ?_; (focus (first | omega | ((conv => whnf); omega) | (simp [mulSz, Cont.len, hlen]; done) | (simp [mulSz, Cont.len, hlen]; omega))); conv => whnf)
  refine tst_in (fun _ => ?_) (fun h_ => absurd h_ (by rw [g1]; decide))
  conv => whnf
  conv => whnf
  repeat (refine And.intro ?_ ?_; (focus (first | omega | ((conv => whnf); omega) | (simp [mulSz, Cont.len, hlen]; done) | (simp [mulSz, Cont.len, hlen]; omega))); conv => whnf)
  refine tst_in (fun _ => ?_) (fun h_ => absurd h_ (by rw [g2]; decide))
  conv => whnf
  conv => whnf
  repeat (refine And.intro ?_ ?_; (focus (first | omega | ((conv => whnf); omega) | (simp [mulSz, Cont.len, hlen]; done) | (simp [mulSz, Cont.len, hlen]; omega))); conv => whnf)
  rw [g3]

noncomputable def c39 : Code := (Try.f39.body).getD .skip
theorem refDistance_f (A B : List Bool) (n m ca cb : Nat) (hn : n ≤ A.length) (hm : m ≤ B.length) : Fits Try.prog 39 (wtSpec n m ca cb A B) := by
  refine fits_of_body (C := cfgk 2) (c := c39) (ts := [4, 5]) tok mixed (fun _ => none) (fun _ => none)
    Try.func39 (by kernel_rfl) (by kernel_rfl) (by kernel_rfl) (by kernel_rfl) rfl ?_
  have hl := xrOk_len n m A B
  conv => whnf
  refine ⟨_, [0, 1], refXor_f A B n m ca cb hn hm, ?_⟩
  conv => whnf
  refine ⟨?_, ?_, ?_⟩
  · conv => whnf
    repeat' (first | exact True.intro | rfl | refine And.intro ?_ ?_ | omega)
    all_goals (conv => whnf)
    all_goals (try (first | rfl | omega | (simp; done)))
  · conv => whnf
    repeat' (first | exact True.intro | rfl | refine And.intro ?_ ?_ | omega)
    all_goals (conv => whnf)
    all_goals (try (first | rfl | omega | (simp; done)))
  conv => whnf
  refine ⟨?_, True.intro⟩
  intro (tl : List Bool) _
  conv => whnf
  refine ⟨_, [2], refWeight_q (xrOk n m A B ++ tl) (xrOk n m A B).length ((xrOk n m A B).length + tl.length) (by simp) (by omega), ?_⟩
  conv => whnf
  refine ⟨?_, ?_, ?_⟩
  · conv => whnf
    repeat' (first | exact True.intro | rfl | refine And.intro ?_ ?_ | omega)
    all_goals (conv => whnf)
    all_goals (try (first | rfl | omega | (simp; done)))
  · conv => whnf
    repeat' (first | exact True.intro | rfl | refine And.intro ?_ ?_ | omega)
    all_goals (conv => whnf)
    all_goals (try (first | rfl | omega | (simp; done)))
  conv => whnf
  refine .inl ⟨(), [0, 1], ?_⟩
  conv => whnf
  repeat' (first | exact True.intro | rfl | refine And.intro ?_ ?_ | omega)
  all_goals (conv => whnf)
  all_goals (try (first | rfl | omega | (simp; done) | (simp; omega)))

def padLen (n m : Nat) : Nat := (n + m - 1) / m * m
def padOk (n : Nat) (m : Int) : Bool := decide (n ≤ 32768 ∧ 1 ≤ m ∧ m ≤ 4096 ∧ padLen n m.toNat ≤ 32768)
def padRow (A : List Bool) (n : Nat) (m : Int) : List Bool := if padOk n m then A.take n ++ List.replicate (padLen n m.toNat - n) false else []
def padErr (n : Nat) (m : Int) : Int := if padOk n m then 0 else 1
def padSpec (A : List Bool) (n ca : Nat) (m : Int) : FSpec := ⟨[.slice 0 0 n ca, .int .i64 m], [.seg false (.bools A)], [rowOut 1 [.dead] (padRow A n m) fun s => .tup [s, .int .i64 (padErr n m)]]⟩

theorem pad_ge (n m : Nat) (h : 1 ≤ m) : n ≤ padLen n m := by
  unfold padLen
  have := Nat.div_add_mod (n + m - 1) m
  have := Nat.mod_lt (n + m - 1) (show 0 < m by omega)
  rw [Nat.mul_comm]
  omega

noncomputable def c21 : Code := (Try.f21.body).getD .skip
set_option maxRecDepth 100000 in
theorem Pad_f (A : List Bool) (n ca : Nat) (m : Int) (hn : n ≤ A.length) : Fits Try.prog 21 (padSpec A n ca m) := by
  refine fits_of_body (C := cfgk 1) (c := c21) (ts := [4, 5]) tok mixed (fun _ => none) (fun _ => none)
    Try.func21 (by kernel_rfl) (by kernel_rfl) (by kernel_rfl) (by kernel_rfl) rfl ?_
  have no : ¬ (n ≤ 32768 ∧ 1 ≤ m ∧ m ≤ 4096 ∧ padLen n m.toNat ≤ 32768) → padRow A n m = [] ∧ padErr n m = 1 := fun h => by simp [padRow, padErr, padOk, h]
  have yes : (n ≤ 32768 ∧ 1 ≤ m ∧ m ≤ 4096 ∧ padLen n m.toNat ≤ 32768) → padRow A n m = A.take n ++ List.replicate (padLen n m.toNat - n) false ∧ padErr n m = 0 := fun h => by simp [padRow, padErr, padOk, h]
  conv => whnf
  refine ⟨_, [0], isRow_q n ca, ?_⟩
  conv => whnf
  refine ⟨?_, ?_, ?_⟩
  · conv => whnf
    repeat' (first | exact True.intro | rfl | refine And.intro ?_ ?_ | omega)
    all_goals (conv => whnf)
    all_goals (try (first | rfl | omega | (simp; done)))
  · conv => whnf
    repeat' (first | exact True.intro | rfl | refine And.intro ?_ ?_ | omega)
    all_goals (conv => whnf)
    all_goals (try (first | rfl | omega | (simp; done)))
  conv => whnf
  refine tst_in (fun h => ?_) (fun h => ?_)
  · have h : ¬ (n : Int) ≤ 32768 := by simpa using h
    obtain ⟨e1, e2⟩ := no (by omega)
    conv => whnf
    repeat (refine And.intro ?_ ?_; (focus (first | omega | ((conv => whnf); omega) | (simp [mulSz, Cont.len]; done) | (simp [mulSz, Cont.len]; omega))); conv => whnf)
    refine .inl ⟨([] : List Bool), [0, 9], ?_⟩
    conv => whnf
    rw [e1, e2]
    conv => whnf
    repeat' (first | exact True.intro | rfl | refine And.intro ?_ ?_ | omega)
    all_goals (conv => whnf)
    all_goals (try (first | rfl | omega | (simp; done) | (simp; omega)))
  · have h : (n : Int) ≤ 32768 := by simpa using h
    conv => whnf
    refine tst_in (fun h1 => ?_) (fun h1 => ?_)
    · have h1 : m < 1 := by simpa using h1
      obtain ⟨e1, e2⟩ := no (by omega)
      conv => whnf
      repeat (refine And.intro ?_ ?_; (focus (first | omega | ((conv => whnf); omega) | (simp [mulSz, Cont.len]; done) | (simp [mulSz, Cont.len]; omega))); conv => whnf)
      refine .inl ⟨([] : List Bool), [0, 9], ?_⟩
      conv => whnf
      rw [e1, e2]
      conv => whnf
      repeat' (first | exact True.intro | rfl | refine And.intro ?_ ?_ | omega)
      all_goals (conv => whnf)
      all_goals (try (first | rfl | omega | (simp; done) | (simp; omega)))
    · have h1 : ¬ m < 1 := by simpa using h1
      conv => whnf
      refine tst_in (fun h2 => ?_) (fun h2 => ?_)
      · have h2 : 4096 < m := by simpa using h2
        obtain ⟨e1, e2⟩ := no (by omega)
        conv => whnf
        repeat (refine And.intro ?_ ?_; (focus (first | omega | ((conv => whnf); omega) | (simp [mulSz, Cont.len]; done) | (simp [mulSz, Cont.len]; omega))); conv => whnf)
        refine .inl ⟨([] : List Bool), [0, 9], ?_⟩
        conv => whnf
        rw [e1, e2]
        conv => whnf
        repeat' (first | exact True.intro | rfl | refine And.intro ?_ ?_ | omega)
        all_goals (conv => whnf)
        all_goals (try (first | rfl | omega | (simp; done) | (simp; omega)))
      · have h2 : ¬ 4096 < m := by simpa using h2
        obtain ⟨k, rfl⟩ : ∃ k : Nat, m = k := ⟨m.toNat, by omega⟩
        have hp := pad_ge n k (by omega)
        have hk : (((n : Int) + k - 1) / k * k : Int) = (padLen n k : Nat) := by
          unfold padLen
          rw [Int.natCast_mul, Int.natCast_ediv]
          congr 2
          omega
        have hb : padLen n k ≤ n + k := by
          unfold padLen
          have := Nat.div_mul_le_self (n + k - 1) k
          omega
        rw [Int.toNat_natCast] at no yes
        conv => whnf
        repeat (refine And.intro ?_ ?_; (focus (first | omega | ((conv => whnf); omega) | (simp [mulSz, Cont.len, hk]; done) | (simp [mulSz, Cont.len, hk]; omega))); conv => whnf)
        rw [hk]
        refine tst_in (fun h3 => ?_) (fun h3 => ?_)
        · have h3 : ¬ padLen n k ≤ 32768 := by simp at h3; omega
          obtain ⟨e1, e2⟩ := no (by omega)
          conv => whnf
          repeat (refine And.intro ?_ ?_; (focus (first | omega | ((conv => whnf); omega) | (simp [mulSz, Cont.len]; done) | (simp [mulSz, Cont.len]; omega))); conv => whnf)
          refine .inl ⟨([] : List Bool), [0, 9], ?_⟩
          conv => whnf
          rw [e1, e2]
          conv => whnf
          repeat' (first | exact True.intro | rfl | refine And.intro ?_ ?_ | omega)
          all_goals (conv => whnf)
          all_goals (try (first | rfl | omega | (simp; done) | (simp; omega)))
        · have h3 : padLen n k ≤ 32768 := by simp at h3; omega
          obtain ⟨e1, e2⟩ := yes (by omega)
          conv => whnf
          repeat (refine And.intro ?_ ?_; (focus (first | omega | ((conv => whnf); omega) | (simp [mulSz, Cont.len]; done) | (simp [mulSz, Cont.len]; omega))); conv => whnf)
          refine .inl ⟨([] : List Bool), [0, 1], ?_⟩
          conv => whnf
          rw [e1, e2]
          conv => whnf
          repeat' (first | exact True.intro | rfl | refine And.intro ?_ ?_ | omega)
          all_goals (conv => whnf)
          all_goals (try (first | rfl | omega | (simp [hn, Nat.min_eq_left hp]; done) | (simp [hn, Nat.min_eq_left hp]; omega)))

/-- How far the row has come. -/
def padInv (A : List Bool) (n ca : Nat) (k : Nat) : LInv := ⟨Nat × List Bool, fun p => ⟨anyTo 32 [.slice 0 0 n ca, .int .i64 k, .any, .any, .any, .any, .slice 1 0 p.1 (p.1 + p.2.length)],
  [.seg false (.bools A), .seg true (.bools (A.take n ++ List.replicate (p.1 - n) false ++ p.2))]⟩, fun p => n ≤ p.1 ∧ p.1 ≤ padLen n k, fun p => padLen n k - p.1⟩
theorem pad_stop (n k i : Nat) (h0 : 1 ≤ k) (h1 : n ≤ i) (h2 : i ≤ padLen n k) (h : i % k = 0) : i = padLen n k := by
  unfold padLen at *
  obtain ⟨c, rfl⟩ : ∃ c, i = c * k := ⟨i / k, by have := Nat.div_add_mod i k; rw [h, Nat.mul_comm] at this; omega⟩
  congr 1
  have h3 : (n + k - 1) / k ≤ c := by
    rw [Nat.div_le_iff_le_mul_add_pred (by omega)]
    rw [Nat.mul_comm]; omega
  have h4 : c ≤ (n + k - 1) / k := Nat.le_of_mul_le_mul_right h2 (by omega)
  omega
noncomputable def c40 : Code := (Try.f40.body).getD .skip
set_option maxRecDepth 100000 in
theorem refPad_f (A : List Bool) (n ca : Nat) (m : Int) (hn : n ≤ A.length) : Fits Try.prog 40 (padSpec A n ca m) := by
  refine fits_of_body (C := cfgk 1) (c := c40) (ts := [4, 5]) tok mixed (fun | 4 => some (padInv A n ca m.toNat) | _ => none) (fun _ => none)
    Try.func40 (by kernel_rfl) (by kernel_rfl) (by kernel_rfl) (by kernel_rfl) rfl ?_
  have no : ¬ (n ≤ 32768 ∧ 1 ≤ m ∧ m ≤ 4096 ∧ padLen n m.toNat ≤ 32768) → padRow A n m = [] ∧ padErr n m = 1 := fun h => by simp [padRow, padErr, padOk, h]
  have yes : (n ≤ 32768 ∧ 1 ≤ m ∧ m ≤ 4096 ∧ padLen n m.toNat ≤ 32768) → padRow A n m = A.take n ++ List.replicate (padLen n m.toNat - n) false ∧ padErr n m = 0 := fun h => by simp [padRow, padErr, padOk, h]
  conv => whnf
  refine tst_in (fun h => ?_) (fun h => ?_)
  · have h : ¬ (n : Int) ≤ 32768 := by simpa using h
    obtain ⟨e1, e2⟩ := no (by omega)
    conv => whnf
    repeat (refine And.intro ?_ ?_; (focus (first | omega | ((conv => whnf); omega) | (simp [mulSz, Cont.len]; done) | (simp [mulSz, Cont.len]; omega))); conv => whnf)
    refine .inl ⟨([] : List Bool), [0, 9], ?_⟩
    conv => whnf
    rw [e1, e2]
    conv => whnf
    repeat' (first | exact True.intro | rfl | refine And.intro ?_ ?_ | omega)
    all_goals (conv => whnf)
    all_goals (try (first | rfl | omega | (simp; done) | (simp; omega)))
  · have h : (n : Int) ≤ 32768 := by simpa using h
    conv => whnf
    refine tst_in (fun h1 => ?_) (fun h1 => ?_)
    · have h1 : m < 1 := by simpa using h1
      obtain ⟨e1, e2⟩ := no (by omega)
      conv => whnf
      repeat (refine And.intro ?_ ?_; (focus (first | omega | ((conv => whnf); omega) | (simp [mulSz, Cont.len]; done) | (simp [mulSz, Cont.len]; omega))); conv => whnf)
      refine .inl ⟨([] : List Bool), [0, 9], ?_⟩
      conv => whnf
      rw [e1, e2]
      conv => whnf
      repeat' (first | exact True.intro | rfl | refine And.intro ?_ ?_ | omega)
      all_goals (conv => whnf)
      all_goals (try (first | rfl | omega | (simp; done) | (simp; omega)))
    · have h1 : ¬ m < 1 := by simpa using h1
      conv => whnf
      refine tst_in (fun h2 => ?_) (fun h2 => ?_)
      · have h2 : 4096 < m := by simpa using h2
        obtain ⟨e1, e2⟩ := no (by omega)
        conv => whnf
        repeat (refine And.intro ?_ ?_; (focus (first | omega | ((conv => whnf); omega) | (simp [mulSz, Cont.len]; done) | (simp [mulSz, Cont.len]; omega))); conv => whnf)
        refine .inl ⟨([] : List Bool), [0, 9], ?_⟩
        conv => whnf
        rw [e1, e2]
        conv => whnf
        repeat' (first | exact True.intro | rfl | refine And.intro ?_ ?_ | omega)
        all_goals (conv => whnf)
        all_goals (try (first | rfl | omega | (simp; done) | (simp; omega)))
      · have h2 : ¬ 4096 < m := by simpa using h2
        obtain ⟨k, rfl⟩ : ∃ k : Nat, m = k := ⟨m.toNat, by omega⟩
        have hp := pad_ge n k (by omega)
        have hb : padLen n k ≤ n + k := by
          unfold padLen
          have := Nat.div_mul_le_self (n + k - 1) k
          omega
        rw [Int.toNat_natCast] at no yes
        conv => whnf
        repeat (refine And.intro ?_ ?_; (focus (first | omega | ((conv => whnf); omega) | (simp [mulSz, Cont.len]; done) | (simp [mulSz, Cont.len]; omega))); conv => whnf)
        intro (tl : List Bool)
        conv => whnf
        repeat (refine And.intro ?_ ?_; (focus (first | omega | ((conv => whnf); omega) | (simp [mulSz, Cont.len]; done) | (simp [mulSz, Cont.len]; omega))); conv => whnf)
        refine ⟨⟨[0, 1], ((n, tl) : Nat × List Bool), ?_, Nat.le_refl _, hp⟩, ?_⟩
        · conv => whnf
          repeat' (first | exact True.intro | rfl | refine And.intro ?_ ?_ | omega)
          all_goals (conv => whnf)
          all_goals (try (first | rfl | omega | (simp [mulSz, hn]; done) | (simp [mulSz, hn]; omega)))
        · rintro ⟨i, tl⟩ hi
          obtain ⟨hi1, hi2⟩ : n ≤ i ∧ i ≤ padLen n k := hi
          conv => whnf
          repeat (refine And.intro ?_ ?_; (focus (first | omega | ((conv => whnf); omega) | (simp [mulSz, Cont.len]; done) | (simp [mulSz, Cont.len]; omega))); conv => whnf)
          refine tst_in (fun hq => ?_) (fun hq => ?_)
          · have hlt : i < padLen n k := by
              refine Nat.lt_of_le_of_ne hi2 fun e => ?_
              subst e
              simp at hq
              refine hq ?_
              rw [← Int.natCast_emod]
              unfold padLen
              simp
            conv => whnf
            repeat (refine And.intro ?_ ?_; (focus (first | omega | ((conv => whnf); omega) | (simp [mulSz, Cont.len]; done) | (simp [mulSz, Cont.len]; omega))); conv => whnf)
            intro (tl2 : List Bool)
            conv => whnf
            repeat (refine And.intro ?_ ?_; (focus (first | omega | ((conv => whnf); omega) | (simp [mulSz, Cont.len]; done) | (simp [mulSz, Cont.len]; omega))); conv => whnf)
            refine ⟨[0, 3], ((i + 1, tl2) : Nat × List Bool), ?_, ⟨(by omega : n ≤ i + 1), (by omega : i + 1 ≤ padLen n k)⟩, (by omega : padLen n k - (i + 1) < padLen n k - i)⟩
            conv => whnf
            repeat' (first | exact True.intro | rfl | refine And.intro ?_ ?_ | omega)
            all_goals (conv => whnf)
            all_goals (try (first | rfl | omega | (simp; done) | (simp; omega)))
            show A.take n ++ List.replicate (i + 1 - n) false ++ tl2 = ((A.take n ++ List.replicate (i - n) false ++ tl).drop 0).take i ++ [false] ++ tl2
            rw [List.drop_zero, List.take_left' (by simp; omega), show i + 1 - n = (i - n) + 1 by omega, List.replicate_succ', List.append_assoc]
            simp
          · have he : i = padLen n k := by
              refine pad_stop n k i (by omega) hi1 hi2 ?_
              simp at hq
              omega
            subst he
            conv => whnf
            repeat (refine And.intro ?_ ?_; (focus (first | omega | ((conv => whnf); omega) | (simp [mulSz, Cont.len]; done) | (simp [mulSz, Cont.len]; omega))); conv => whnf)
            refine tst_in (fun h3 => ?_) (fun h3 => ?_)
            · have h3 : ¬ padLen n k ≤ 32768 := by simp at h3; omega
              obtain ⟨e1, e2⟩ := no (by omega)
              conv => whnf
              repeat (refine And.intro ?_ ?_; (focus (first | omega | ((conv => whnf); omega) | (simp [mulSz, Cont.len]; done) | (simp [mulSz, Cont.len]; omega))); conv => whnf)
              refine .inl ⟨([] : List Bool), [0, 9], ?_⟩
              conv => whnf
              rw [e1, e2]
              conv => whnf
              repeat' (first | exact True.intro | rfl | refine And.intro ?_ ?_ | omega)
              all_goals (conv => whnf)
              all_goals (try (first | rfl | omega | (simp; done) | (simp; omega)))
            · have h3 : padLen n k ≤ 32768 := by simp at h3; omega
              obtain ⟨e1, e2⟩ := yes (by omega)
              conv => whnf
              repeat (refine And.intro ?_ ?_; (focus (first | omega | ((conv => whnf); omega) | (simp [mulSz, Cont.len]; done) | (simp [mulSz, Cont.len]; omega))); conv => whnf)
              refine .inl ⟨tl, [0, 1], ?_⟩
              conv => whnf
              rw [e1, e2]
              conv => whnf
              repeat' (first | exact True.intro | rfl | refine And.intro ?_ ?_ | omega)
              all_goals (conv => whnf)
              all_goals (try (first | rfl | omega | (simp [hn]; done) | (simp [hn]; omega)))
end Go.Proofs.Ytagndcamfjikhaa

set_option linter.unusedVariables false
namespace Go.Proofs.Ytagndcamfjikhaa.runT
open Go Go.Fw
def tys : List (Nat × TyI) := [
  (1, ⟨.func, 1, 8, .nilFunc⟩),
  (2, ⟨.int .i64, 1, 8, .int .i64 0⟩),
  (3, ⟨.int .i64, 1, 8, .int .i64 0⟩),
  (4, ⟨.bool, 1, 1, .bool false⟩),
  (5, ⟨.int .u8, 1, 1, .int .u8 0⟩),
  (9, ⟨.str, 1, 16, .string (ByteArray.mk #[])⟩),
  (12, ⟨.int .u64, 1, 8, .int .u64 0⟩),
  (21, ⟨.int .i32, 1, 4, .int .i32 0⟩),
  (22, ⟨.func, 1, 8, .nilFunc⟩),
  (23, ⟨.slice 4, 1, 24, .slice none 0 0⟩),
  (24, ⟨.int .i64, 1, 8, .int .i64 0⟩),
  (26, ⟨.func, 1, 8, .nilFunc⟩),
  (28, ⟨.func, 1, 8, .nilFunc⟩),
  (29, ⟨.slice 3, 1, 24, .slice none 0 0⟩),
  (31, ⟨.func, 1, 8, .nilFunc⟩),
  (32, ⟨.func, 1, 8, .nilFunc⟩),
  (33, ⟨.func, 1, 8, .nilFunc⟩),
  (34, ⟨.func, 1, 8, .nilFunc⟩),
  (35, ⟨.func, 1, 8, .nilFunc⟩),
  (36, ⟨.func, 1, 8, .nilFunc⟩),
  (38, ⟨.func, 1, 8, .nilFunc⟩),
  (39, ⟨.func, 1, 8, .nilFunc⟩),
  (41, ⟨.func, 1, 8, .nilFunc⟩),
  (43, ⟨.func, 1, 8, .nilFunc⟩),
  (44, ⟨.func, 1, 8, .nilFunc⟩),
  (45, ⟨.func, 1, 8, .nilFunc⟩),
  (46, ⟨.func, 1, 8, .nilFunc⟩),
  (47, ⟨.func, 1, 8, .nilFunc⟩),
  (48, ⟨.func, 1, 8, .nilFunc⟩),
  (49, ⟨.func, 1, 8, .nilFunc⟩),
  (50, ⟨.slice 56, 1, 24, .slice none 0 0⟩),
  (51, ⟨.func, 1, 8, .nilFunc⟩),
  (52, ⟨.func, 1, 8, .nilFunc⟩),
  (53, ⟨.func, 1, 8, .nilFunc⟩),
  (54, ⟨.func, 1, 8, .nilFunc⟩),
  (55, ⟨.struct [(0, 3), (1, 23)], 2, 32, .agg #[.int .i64 0, .slice none 0 0]⟩),
  (56, ⟨.struct [(0, 3), (1, 23)], 2, 32, .agg #[.int .i64 0, .slice none 0 0]⟩),
  (57, ⟨.func, 1, 8, .nilFunc⟩),
  (58, ⟨.func, 1, 8, .nilFunc⟩),
  (59, ⟨.func, 1, 8, .nilFunc⟩),
  (60, ⟨.func, 1, 8, .nilFunc⟩),
  (61, ⟨.func, 1, 8, .nilFunc⟩),
  (62, ⟨.slice 5, 1, 24, .slice none 0 0⟩),
  (63, ⟨.func, 1, 8, .nilFunc⟩),
  (64, ⟨.func, 1, 8, .nilFunc⟩),
  (65, ⟨.int .u64, 1, 8, .int .u64 0⟩),
  (66, ⟨.func, 1, 8, .nilFunc⟩),
  (67, ⟨.func, 1, 8, .nilFunc⟩),
  (68, ⟨.func, 1, 8, .nilFunc⟩),
  (69, ⟨.func, 1, 8, .nilFunc⟩),
  (75, ⟨.func, 1, 8, .nilFunc⟩),
  (76, ⟨.int .u32, 1, 4, .int .u32 0⟩),
  (79, ⟨.func, 1, 8, .nilFunc⟩),
  (80, ⟨.ptr 5, 1, 8, .pointer none⟩)]

set_option maxRecDepth 100000 in
theorem tok : TOk Try.prog tys := tok_of ⟨⟨by kernel_rfl, by kernel_rfl⟩, ⟨by kernel_rfl, by kernel_rfl⟩, ⟨by kernel_rfl, by kernel_rfl⟩, ⟨by kernel_rfl, by kernel_rfl⟩, ⟨by kernel_rfl, by kernel_rfl⟩, ⟨by kernel_rfl, by kernel_rfl⟩, ⟨by kernel_rfl, by kernel_rfl⟩, ⟨by kernel_rfl, by kernel_rfl⟩, ⟨by kernel_rfl, by kernel_rfl⟩, ⟨by kernel_rfl, by kernel_rfl⟩, ⟨by kernel_rfl, by kernel_rfl⟩, ⟨by kernel_rfl, by kernel_rfl⟩, ⟨by kernel_rfl, by kernel_rfl⟩, ⟨by kernel_rfl, by kernel_rfl⟩, ⟨by kernel_rfl, by kernel_rfl⟩, ⟨by kernel_rfl, by kernel_rfl⟩, ⟨by kernel_rfl, by kernel_rfl⟩, ⟨by kernel_rfl, by kernel_rfl⟩, ⟨by kernel_rfl, by kernel_rfl⟩, ⟨by kernel_rfl, by kernel_rfl⟩, ⟨by kernel_rfl, by kernel_rfl⟩, ⟨by kernel_rfl, by kernel_rfl⟩, ⟨by kernel_rfl, by kernel_rfl⟩, ⟨by kernel_rfl, by kernel_rfl⟩, ⟨by kernel_rfl, by kernel_rfl⟩, ⟨by kernel_rfl, by kernel_rfl⟩, ⟨by kernel_rfl, by kernel_rfl⟩, ⟨by kernel_rfl, by kernel_rfl⟩, ⟨by kernel_rfl, by kernel_rfl⟩, ⟨by kernel_rfl, by kernel_rfl⟩, ⟨by kernel_rfl, by kernel_rfl⟩, ⟨by kernel_rfl, by kernel_rfl⟩, ⟨by kernel_rfl, by kernel_rfl⟩, ⟨by kernel_rfl, by kernel_rfl⟩, ⟨by kernel_rfl, by kernel_rfl⟩, ⟨by kernel_rfl, by kernel_rfl⟩, ⟨by kernel_rfl, by kernel_rfl⟩, ⟨by kernel_rfl, by kernel_rfl⟩, ⟨by kernel_rfl, by kernel_rfl⟩, ⟨by kernel_rfl, by kernel_rfl⟩, ⟨by kernel_rfl, by kernel_rfl⟩, ⟨by kernel_rfl, by kernel_rfl⟩, ⟨by kernel_rfl, by kernel_rfl⟩, ⟨by kernel_rfl, by kernel_rfl⟩, ⟨by kernel_rfl, by kernel_rfl⟩, ⟨by kernel_rfl, by kernel_rfl⟩, ⟨by kernel_rfl, by kernel_rfl⟩, ⟨by kernel_rfl, by kernel_rfl⟩, ⟨by kernel_rfl, by kernel_rfl⟩, ⟨by kernel_rfl, by kernel_rfl⟩, ⟨by kernel_rfl, by kernel_rfl⟩, ⟨by kernel_rfl, by kernel_rfl⟩, ⟨by kernel_rfl, by kernel_rfl⟩, ⟨by kernel_rfl, by kernel_rfl⟩, True.intro⟩
theorem mixed : Try.prog.follows .mixedOrders = true := by kernel_rfl
def inL : List Nat → Nat → Bool
  | [], _ => false
  | a :: r, n => match Nat.beq a n with | true => true | false => inL r n
def stl : Nat → Bool := inL []
/- 3: foghorn/foghornlaw01.BitsNames -/
noncomputable def e3 : Ent := entOf Try.f3 (fun _ => none)
theorem g3 : EntOk Try.prog stl 3 e3 := ⟨Try.func3, by kernel_rfl, by kernel_rfl, by kernel_rfl, by kernel_rfl, by kernel_rfl, rfl⟩
/- 4: foghorn/foghornlaw01.BitsRing -/
noncomputable def e4 : Ent := entOf Try.f4 (fun _ => none)
theorem g4 : EntOk Try.prog stl 4 e4 := ⟨Try.func4, by kernel_rfl, by kernel_rfl, by kernel_rfl, by kernel_rfl, by kernel_rfl, rfl⟩
/- 5: foghorn/foghornlaw01.BitsRows -/
noncomputable def e5 : Ent := entOf Try.f5 (fun _ => none)
theorem g5 : EntOk Try.prog stl 5 e5 := ⟨Try.func5, by kernel_rfl, by kernel_rfl, by kernel_rfl, by kernel_rfl, by kernel_rfl, rfl⟩
/- 6: foghorn/foghornlaw01.BitsGray -/
noncomputable def e6 : Ent := entOf Try.f6 (fun _ => none)
theorem g6 : EntOk Try.prog stl 6 e6 := ⟨Try.func6, by kernel_rfl, by kernel_rfl, by kernel_rfl, by kernel_rfl, by kernel_rfl, rfl⟩
/- 7: foghorn/foghornlaw01.BitsPairs -/
noncomputable def e7 : Ent := entOf Try.f7 (fun _ => none)
theorem g7 : EntOk Try.prog stl 7 e7 := ⟨Try.func7, by kernel_rfl, by kernel_rfl, by kernel_rfl, by kernel_rfl, by kernel_rfl, rfl⟩
/- 8: foghorn/foghornlaw01.BitsPieces -/
noncomputable def e8 : Ent := entOf Try.f8 (fun _ => none)
theorem g8 : EntOk Try.prog stl 8 e8 := ⟨Try.func8, by kernel_rfl, by kernel_rfl, by kernel_rfl, by kernel_rfl, by kernel_rfl, rfl⟩
/- 9: foghorn/foghornlaw01.BitsTexts -/
noncomputable def e9 : Ent := entOf Try.f9 (fun _ => none)
theorem g9 : EntOk Try.prog stl 9 e9 := ⟨Try.func9, by kernel_rfl, by kernel_rfl, by kernel_rfl, by kernel_rfl, by kernel_rfl, rfl⟩
/- 10: foghorn/foghornlaw01.BitsBack -/
noncomputable def e10 : Ent := entOf Try.f10 (fun _ => none)
theorem g10 : EntOk Try.prog stl 10 e10 := ⟨Try.func10, by kernel_rfl, by kernel_rfl, by kernel_rfl, by kernel_rfl, by kernel_rfl, rfl⟩
/- 11: foghorn/foghornlaw01.BitsGrays -/
noncomputable def e11 : Ent := entOf Try.f11 (fun _ => none)
theorem g11 : EntOk Try.prog stl 11 e11 := ⟨Try.func11, by kernel_rfl, by kernel_rfl, by kernel_rfl, by kernel_rfl, by kernel_rfl, rfl⟩
/- 12: foghorn/foghornlaw01.BitsMetric -/
noncomputable def e12 : Ent := entOf Try.f12 (fun _ => none)
theorem g12 : EntOk Try.prog stl 12 e12 := ⟨Try.func12, by kernel_rfl, by kernel_rfl, by kernel_rfl, by kernel_rfl, by kernel_rfl, rfl⟩
/- 13: foghorn/foghornlaw01.BitsCuts -/
def p13 : Nat → Option PlanC := fun
  | 16 => some (.op 0 .false (.op 1 .false (.op 2 .false (.op 3 .false (.op 4 .false (.op 5 .false (.op 6 .false (.op 7 .false (.op 8 .false (.op 9 .false (.op 10 .false (.op 11 .false (.op 12 .false (.op 13 .false (.op 14 .false (.op 15 .false (.op 16 .false (.op 17 .false (.op 18 .false (.op 19 .false (.op 20 .false (.op 21 .false (.op 22 .false (.op 23 .false (.op 24 .false (.op 25 .false (.op 26 .false (.op 27 .false (.op 28 .false (.op 29 .false (.op 30 .false (.op 31 .false (.op 32 .false (.op 33 .false (.op 34 .false (.op 35 .false (.op 36 .false (.op 37 .false (.op 38 .false (.op 39 .false .done))))))))))))))))))))))))))))))))))))))))
  | 18 => some (.op 0 .false (.alt 1 (.op 2 .false (.op 3 .false (.op 4 .false (.op 5 .false .done)))) (.alt 2 (.op 1 .false (.op 3 .false (.op 4 .false (.op 5 .false .done)))) .fin)))
  | _ => none
noncomputable def e13 : Ent := entOf Try.f13 p13
theorem g13 : EntOk Try.prog stl 13 e13 := ⟨Try.func13, by kernel_rfl, by kernel_rfl, by kernel_rfl, by kernel_rfl, by kernel_rfl, rfl⟩
/- 14: foghorn/foghornlaw01.works -/
noncomputable def e14 : Ent := entOf Try.f14 (fun _ => none)
theorem g14 : EntOk Try.prog stl 14 e14 := ⟨Try.func14, by kernel_rfl, by kernel_rfl, by kernel_rfl, by kernel_rfl, by kernel_rfl, rfl⟩
/- 15: foghorn/bits.Bytes -/
noncomputable def e15 : Ent := entOf Try.f15 (fun _ => none)
theorem g15 : EntOk Try.prog stl 15 e15 := ⟨Try.func15, by kernel_rfl, by kernel_rfl, by kernel_rfl, by kernel_rfl, by kernel_rfl, rfl⟩
/- 16: foghorn/bits.Of -/
noncomputable def e16 : Ent := entOf Try.f16 (fun _ => none)
theorem g16 : EntOk Try.prog stl 16 e16 := ⟨Try.func16, by kernel_rfl, by kernel_rfl, by kernel_rfl, by kernel_rfl, by kernel_rfl, rfl⟩
/- 17: foghorn/bits.Words -/
noncomputable def e17 : Ent := entOf Try.f17 (fun _ => none)
theorem g17 : EntOk Try.prog stl 17 e17 := ⟨Try.func17, by kernel_rfl, by kernel_rfl, by kernel_rfl, by kernel_rfl, by kernel_rfl, rfl⟩
/- 18: foghorn/bits.Row -/
noncomputable def e18 : Ent := entOf Try.f18 (fun _ => none)
theorem g18 : EntOk Try.prog stl 18 e18 := ⟨Try.func18, by kernel_rfl, by kernel_rfl, by kernel_rfl, by kernel_rfl, by kernel_rfl, rfl⟩
/- 19: foghorn/foghornlaw01.sameBits -/
noncomputable def e19 : Ent := entOf Try.f19 (fun _ => none)
theorem g19 : EntOk Try.prog stl 19 e19 := ⟨Try.func19, by kernel_rfl, by kernel_rfl, by kernel_rfl, by kernel_rfl, by kernel_rfl, rfl⟩
/- 20: foghorn/bits.Xor -/
noncomputable def e20 : Ent := entOf Try.f20 (fun _ => none)
theorem g20 : EntOk Try.prog stl 20 e20 := ⟨Try.func20, by kernel_rfl, by kernel_rfl, by kernel_rfl, by kernel_rfl, by kernel_rfl, rfl⟩
/- 21: foghorn/bits.Pad -/
noncomputable def e21 : Ent := entOf Try.f21 (fun _ => none)
theorem g21 : EntOk Try.prog stl 21 e21 := ⟨Try.func21, by kernel_rfl, by kernel_rfl, by kernel_rfl, by kernel_rfl, by kernel_rfl, rfl⟩
/- 22: foghorn/bits.Weight -/
noncomputable def e22 : Ent := entOf Try.f22 (fun _ => none)
theorem g22 : EntOk Try.prog stl 22 e22 := ⟨Try.func22, by kernel_rfl, by kernel_rfl, by kernel_rfl, by kernel_rfl, by kernel_rfl, rfl⟩
/- 23: foghorn/bits.Parse -/
noncomputable def e23 : Ent := entOf Try.f23 (fun _ => none)
theorem g23 : EntOk Try.prog stl 23 e23 := ⟨Try.func23, by kernel_rfl, by kernel_rfl, by kernel_rfl, by kernel_rfl, by kernel_rfl, rfl⟩
/- 24: foghorn/bits.Text -/
noncomputable def e24 : Ent := entOf Try.f24 (fun _ => none)
theorem g24 : EntOk Try.prog stl 24 e24 := ⟨Try.func24, by kernel_rfl, by kernel_rfl, by kernel_rfl, by kernel_rfl, by kernel_rfl, rfl⟩
/- 25: foghorn/bits.Gray -/
noncomputable def e25 : Ent := entOf Try.f25 (fun _ => none)
theorem g25 : EntOk Try.prog stl 25 e25 := ⟨Try.func25, by kernel_rfl, by kernel_rfl, by kernel_rfl, by kernel_rfl, by kernel_rfl, rfl⟩
/- 26: foghorn/foghornlaw01.lent -/
noncomputable def e26 : Ent := entOf Try.f26 (fun _ => none)
theorem g26 : EntOk Try.prog stl 26 e26 := ⟨Try.func26, by kernel_rfl, by kernel_rfl, by kernel_rfl, by kernel_rfl, by kernel_rfl, rfl⟩
/- 27: foghorn/foghornref01.Of -/
def p27 : Nat → Option PlanC := fun
  | 10 => some (.op 5 .false (.op 0 .true (.op 1 .true (.op 2 .true (.op 3 .true (.alt 4 (.op 6 .false (.op 7 .false (.op 8 .false (.op 9 .false (.op 10 .false (.op 11 .false (.op 12 .false .done))))))) (.alt 6 (.op 4 .false (.op 7 .false (.op 8 .false (.op 9 .false (.op 10 .false (.op 11 .false (.op 12 .false .done))))))) .fin)))))))
  | _ => none
noncomputable def e27 : Ent := entOf Try.f27 p27
theorem g27 : EntOk Try.prog stl 27 e27 := ⟨Try.func27, by kernel_rfl, by kernel_rfl, by kernel_rfl, by kernel_rfl, by kernel_rfl, rfl⟩
/- 28: foghorn/foghornref01.Bytes -/
noncomputable def e28 : Ent := entOf Try.f28 (fun _ => none)
theorem g28 : EntOk Try.prog stl 28 e28 := ⟨Try.func28, by kernel_rfl, by kernel_rfl, by kernel_rfl, by kernel_rfl, by kernel_rfl, rfl⟩
/- 29: foghorn/foghornref01.Words -/
noncomputable def e29 : Ent := entOf Try.f29 (fun _ => none)
theorem g29 : EntOk Try.prog stl 29 e29 := ⟨Try.func29, by kernel_rfl, by kernel_rfl, by kernel_rfl, by kernel_rfl, by kernel_rfl, rfl⟩
/- 30: foghorn/foghornref01.Row -/
def p30 : Nat → Option PlanC := fun
  | 7 => some (.op 0 .false (.op 1 .false (.op 2 .false (.op 3 .false (.op 4 .false (.op 5 .false (.op 10 .false (.op 6 .true (.op 7 .true (.alt 8 (.alt 9 (.op 11 .false (.op 12 .false (.op 13 .false .done))) (.alt 11 (.op 9 .false (.op 12 .false (.op 13 .false .done))) .fin)) (.alt 11 (.op 8 .false (.op 9 .false (.op 12 .false (.op 13 .false .done)))) .fin)))))))))))
  | 12 => some (.op 5 .false (.op 6 .false (.op 7 .false (.op 8 .false (.op 0 .true (.op 1 .true (.op 2 .true (.op 3 .true (.alt 4 (.op 9 .false (.op 10 .false (.op 11 .false (.op 12 .false (.op 13 .false (.op 14 .false (.op 15 .false .done))))))) (.alt 9 (.op 4 .false (.op 10 .false (.op 11 .false (.op 12 .false (.op 13 .false (.op 14 .false (.op 15 .false .done))))))) .fin))))))))))
  | _ => none
noncomputable def e30 : Ent := entOf Try.f30 p30
theorem g30 : EntOk Try.prog stl 30 e30 := ⟨Try.func30, by kernel_rfl, by kernel_rfl, by kernel_rfl, by kernel_rfl, by kernel_rfl, rfl⟩
/- 31: foghorn/foghornlaw01.sameInts -/
noncomputable def e31 : Ent := entOf Try.f31 (fun _ => none)
theorem g31 : EntOk Try.prog stl 31 e31 := ⟨Try.func31, by kernel_rfl, by kernel_rfl, by kernel_rfl, by kernel_rfl, by kernel_rfl, rfl⟩
/- 32: foghorn/foghornlaw01.unhurt -/
noncomputable def e32 : Ent := entOf Try.f32 (fun _ => none)
theorem g32 : EntOk Try.prog stl 32 e32 := ⟨Try.func32, by kernel_rfl, by kernel_rfl, by kernel_rfl, by kernel_rfl, by kernel_rfl, rfl⟩
/- 33: foghorn/foghornlaw01.turn -/
noncomputable def e33 : Ent := entOf Try.f33 (fun _ => none)
theorem g33 : EntOk Try.prog stl 33 e33 := ⟨Try.func33, by kernel_rfl, by kernel_rfl, by kernel_rfl, by kernel_rfl, by kernel_rfl, rfl⟩
/- 34: foghorn/foghornref01.Gray -/
noncomputable def e34 : Ent := entOf Try.f34 (fun _ => none)
theorem g34 : EntOk Try.prog stl 34 e34 := ⟨Try.func34, by kernel_rfl, by kernel_rfl, by kernel_rfl, by kernel_rfl, by kernel_rfl, rfl⟩
/- 35: foghorn/bits.Ungray -/
noncomputable def e35 : Ent := entOf Try.f35 (fun _ => none)
theorem g35 : EntOk Try.prog stl 35 e35 := ⟨Try.func35, by kernel_rfl, by kernel_rfl, by kernel_rfl, by kernel_rfl, by kernel_rfl, rfl⟩
/- 36: foghorn/foghornref01.Ungray -/
noncomputable def e36 : Ent := entOf Try.f36 (fun _ => none)
theorem g36 : EntOk Try.prog stl 36 e36 := ⟨Try.func36, by kernel_rfl, by kernel_rfl, by kernel_rfl, by kernel_rfl, by kernel_rfl, rfl⟩
/- 37: foghorn/foghornref01.Xor -/
def p37 : Nat → Option PlanC := fun
  | 7 => some (.op 1 .false (.op 2 .false (.op 3 .false (.op 4 .false (.op 5 .false (.op 6 .false (.op 7 .false (.op 8 .false (.op 9 .false (.op 0 .true (.op 10 .false (.op 11 .false (.op 12 .false .done)))))))))))))
  | _ => none
noncomputable def e37 : Ent := entOf Try.f37 p37
theorem g37 : EntOk Try.prog stl 37 e37 := ⟨Try.func37, by kernel_rfl, by kernel_rfl, by kernel_rfl, by kernel_rfl, by kernel_rfl, rfl⟩
/- 38: foghorn/bits.Distance -/
noncomputable def e38 : Ent := entOf Try.f38 (fun _ => none)
theorem g38 : EntOk Try.prog stl 38 e38 := ⟨Try.func38, by kernel_rfl, by kernel_rfl, by kernel_rfl, by kernel_rfl, by kernel_rfl, rfl⟩
/- 39: foghorn/foghornref01.Distance -/
noncomputable def e39 : Ent := entOf Try.f39 (fun _ => none)
theorem g39 : EntOk Try.prog stl 39 e39 := ⟨Try.func39, by kernel_rfl, by kernel_rfl, by kernel_rfl, by kernel_rfl, by kernel_rfl, rfl⟩
/- 40: foghorn/foghornref01.Pad -/
noncomputable def e40 : Ent := entOf Try.f40 (fun _ => none)
theorem g40 : EntOk Try.prog stl 40 e40 := ⟨Try.func40, by kernel_rfl, by kernel_rfl, by kernel_rfl, by kernel_rfl, by kernel_rfl, rfl⟩
/- 41: foghorn/foghornref01.Weight -/
noncomputable def e41 : Ent := entOf Try.f41 (fun _ => none)
theorem g41 : EntOk Try.prog stl 41 e41 := ⟨Try.func41, by kernel_rfl, by kernel_rfl, by kernel_rfl, by kernel_rfl, by kernel_rfl, rfl⟩
/- 42: foghorn/foghornref01.Pieces -/
def p42 : Nat → Option PlanC := fun
  | 10 => some (.op 7 .false (.op 8 .false (.op 9 .false (.op 10 .false (.op 0 .true (.op 1 .true (.op 2 .true (.op 3 .true (.op 4 .true (.op 5 .true (.alt 6 (.op 11 .false (.op 12 .false (.op 13 .false (.op 14 .false (.op 15 .false .done))))) (.alt 11 (.op 6 .false (.op 12 .false (.op 13 .false (.op 14 .false (.op 15 .false .done))))) .fin))))))))))))
  | _ => none
noncomputable def e42 : Ent := entOf Try.f42 p42
theorem g42 : EntOk Try.prog stl 42 e42 := ⟨Try.func42, by kernel_rfl, by kernel_rfl, by kernel_rfl, by kernel_rfl, by kernel_rfl, rfl⟩
/- 43: foghorn/bits.Pieces -/
noncomputable def e43 : Ent := entOf Try.f43 (fun _ => none)
theorem g43 : EntOk Try.prog stl 43 e43 := ⟨Try.func43, by kernel_rfl, by kernel_rfl, by kernel_rfl, by kernel_rfl, by kernel_rfl, rfl⟩
/- 44: foghorn/foghornref01.Parse -/
noncomputable def e44 : Ent := entOf Try.f44 (fun _ => none)
theorem g44 : EntOk Try.prog stl 44 e44 := ⟨Try.func44, by kernel_rfl, by kernel_rfl, by kernel_rfl, by kernel_rfl, by kernel_rfl, rfl⟩
/- 45: foghorn/foghornref01.Text -/
noncomputable def e45 : Ent := entOf Try.f45 (fun _ => none)
theorem g45 : EntOk Try.prog stl 45 e45 := ⟨Try.func45, by kernel_rfl, by kernel_rfl, by kernel_rfl, by kernel_rfl, by kernel_rfl, rfl⟩
/- 46: foghorn/bits.appendWord -/
noncomputable def e46 : Ent := entOf Try.f46 (fun _ => none)
theorem g46 : EntOk Try.prog stl 46 e46 := ⟨Try.func46, by kernel_rfl, by kernel_rfl, by kernel_rfl, by kernel_rfl, by kernel_rfl, rfl⟩
/- 47: foghorn/bits.isWidth -/
noncomputable def e47 : Ent := entOf Try.f47 (fun _ => none)
theorem g47 : EntOk Try.prog stl 47 e47 := ⟨Try.func47, by kernel_rfl, by kernel_rfl, by kernel_rfl, by kernel_rfl, by kernel_rfl, rfl⟩
/- 48: foghorn/bits.isRow -/
noncomputable def e48 : Ent := entOf Try.f48 (fun _ => none)
theorem g48 : EntOk Try.prog stl 48 e48 := ⟨Try.func48, by kernel_rfl, by kernel_rfl, by kernel_rfl, by kernel_rfl, by kernel_rfl, rfl⟩
/- 49: foghorn/bits.isGray -/
noncomputable def e49 : Ent := entOf Try.f49 (fun _ => none)
theorem g49 : EntOk Try.prog stl 49 e49 := ⟨Try.func49, by kernel_rfl, by kernel_rfl, by kernel_rfl, by kernel_rfl, by kernel_rfl, rfl⟩
/- 50: foghorn/foghornref01.power -/
noncomputable def e50 : Ent := entOf Try.f50 (fun _ => none)
theorem g50 : EntOk Try.prog stl 50 e50 := ⟨Try.func50, by kernel_rfl, by kernel_rfl, by kernel_rfl, by kernel_rfl, by kernel_rfl, rfl⟩
/- 51: foghorn/foghornref01.gray -/
def p51 : Nat → Option PlanC := fun
  | 5 => some (.op 1 .false (.op 0 .true (.op 5 .true (.op 6 .true (.op 7 .true (.op 2 .false (.op 3 .true (.op 4 .true (.op 8 .false (.op 9 .false (.op 10 .false (.op 11 .false .done))))))))))))
  | _ => none
noncomputable def e51 : Ent := entOf Try.f51 p51
theorem g51 : EntOk Try.prog stl 51 e51 := ⟨Try.func51, by kernel_rfl, by kernel_rfl, by kernel_rfl, by kernel_rfl, by kernel_rfl, rfl⟩
/- 52: foghorn/bits.Pieces$1 -/
noncomputable def e52 : Ent := entOf Try.f52 (fun _ => none)
theorem g52 : EntOk Try.prog stl 52 e52 := ⟨Try.func52, by kernel_rfl, by kernel_rfl, by kernel_rfl, by kernel_rfl, by kernel_rfl, rfl⟩
/- 53: slices.Clone[[]bool,bool] -/
noncomputable def e53 : Ent := entOf Try.f53 (fun _ => none)
theorem g53 : EntOk Try.prog stl 53 e53 := ⟨Try.func53, by kernel_rfl, by kernel_rfl, by kernel_rfl, by kernel_rfl, by kernel_rfl, rfl⟩
/- 54: foghorn/bits.Pieces$2 -/
noncomputable def e54 : Ent := entOf Try.f54 (fun _ => none)
theorem g54 : EntOk Try.prog stl 54 e54 := ⟨Try.func54, by kernel_rfl, by kernel_rfl, by kernel_rfl, by kernel_rfl, by kernel_rfl, rfl⟩
noncomputable def ents : List (Nat × Ent) := [(3, e3), (4, e4), (5, e5), (6, e6), (7, e7), (8, e8), (9, e9), (10, e10), (11, e11), (12, e12), (13, e13), (14, e14), (15, e15), (16, e16), (17, e17), (18, e18), (19, e19), (20, e20), (21, e21), (22, e22), (23, e23), (24, e24), (25, e25), (26, e26), (27, e27), (28, e28), (29, e29), (30, e30), (31, e31), (32, e32), (33, e33), (34, e34), (35, e35), (36, e36), (37, e37), (38, e38), (39, e39), (40, e40), (41, e41), (42, e42), (43, e43), (44, e44), (45, e45), (46, e46), (47, e47), (48, e48), (49, e49), (50, e50), (51, e51), (52, e52), (53, e53), (54, e54)]
theorem goods : EntsOk Try.prog stl ents := ⟨g3, g4, g5, g6, g7, g8, g9, g10, g11, g12, g13, g14, g15, g16, g17, g18, g19, g20, g21, g22, g23, g24, g25, g26, g27, g28, g29, g30, g31, g32, g33, g34, g35, g36, g37, g38, g39, g40, g41, g42, g43, g44, g45, g46, g47, g48, g49, g50, g51, g52, g53, g54, True.intro⟩
noncomputable def tab : Nat → Option Ent := (tabOf ents).get
theorem fok : FOk Try.prog stl tab := fok_of goods
end Go.Proofs.Ytagndcamfjikhaa.runT

namespace Go.Proofs.Ytagndcamfjikhaa.runT
open Go Go.Fw
set_option maxRecDepth 1000000 in
theorem works_run : runTrue Try.prog tys stl tab 100000 14 = true := by kernel_rfl
theorem works_f : Fits Try.prog 14 ⟨[], [], [⟨Unit, fun _ => True, fun _ => .bool true, fun _ => []⟩]⟩ := fits_of_run tok mixed fok works_run
end Go.Proofs.Ytagndcamfjikhaa.runT

namespace Go.Proofs.Ytagndcamfjikhaa
open Go Go.Fw

noncomputable def c47 : Code := (Try.f47.body).getD .skip
theorem isWidth_q (n : Int) : QFits Try.prog 47 ⟨[.int .i64 n], [], .bool (decide (1 ≤ n ∧ n ≤ 16))⟩ := by
  refine qfits_of_body (C := cfg) (c := c47) (ts := [2]) tok mixed (fun _ => none) (fun _ => none)
    Try.func47 (by kernel_rfl) (by kernel_rfl) (by kernel_rfl) (by kernel_rfl) (by kernel_rfl) rfl rfl ?_
  conv => whnf
  refine tst_in (fun h => ?_) (fun h => ?_)
  · conv => whnf
    have h : 1 ≤ n := by simpa using h
    repeat' (first | exact True.intro | rfl | refine And.intro ?_ ?_)
    exact decide_eq_decide.mpr ⟨fun h => h.2, fun h2 => ⟨h, h2⟩⟩
  · conv => whnf
    have h : ¬ 1 ≤ n := by simpa using h
    repeat' (first | exact True.intro | rfl | refine And.intro ?_ ?_)
    exact decide_eq_false (fun h1 => h h1.1)

/-- A word's bit at a place from its top. -/
def wbit (w W j : Nat) : Bool := decide (¬ w / 2 ^ (W - 1 - j) % 2 = 0)
def wbs (w W k : Nat) : List Bool := (List.range k).map (wbit w W)
theorem wbs_len (w W k : Nat) : (wbs w W k).length = k := by simp [wbs]
theorem wbs_next (w W k : Nat) : wbs w W (k + 1) = wbs w W k ++ [wbit w W k] := by simp [wbs, List.range_succ]
noncomputable def c46 : Code := (Try.f46.body).getD .skip
def st46 (l tl0 : List Bool) (w W n c : Nat) : Nat → List Bool → St
  | 0, _ => ⟨anyTo 25 [.slice 0 0 n c, .int .i64 w, .int .i64 W, .any, .any, .any, .any, .any, .int .i64 W, .int .i64 0], [.seg true (.bools (l ++ tl0))]⟩
  | k + 1, tl => ⟨anyTo 25 [.slice 1 0 (n + (k + 1)) (n + (k + 1) + tl.length), .int .i64 w, .int .i64 W, .any, .any, .any, .any, .any, .int .i64 W, .int .i64 (k + 1 : Nat)], [.dead, .seg true (.bools (l ++ wbs w W (k + 1) ++ tl))]⟩
def inv46 (l tl0 : List Bool) (w W n c : Nat) : LInv := ⟨Nat × List Bool, fun p => st46 l tl0 w W n c p.1 p.2, fun p => p.1 ≤ W, fun p => W - p.1⟩

set_option maxRecDepth 100000 in
theorem appendWord_f (l tl0 : List Bool) (w W n c : Nat) (hl : l.length = n) (hc : c = n + tl0.length) (hw : w < 65536) (h1 : 1 ≤ W) (h2 : W ≤ 16) (hn : n ≤ 1000000) :
    Fits Try.prog 46 ⟨[.slice 0 0 n c, .int .i64 w, .int .i64 W], [.seg true (.bools (l ++ tl0))], [rowOut 1 [.dead] (l ++ wbs w W W) fun s => s]⟩ := by
  refine fits_of_body (C := cfgk 1) (c := c46) (ts := [6]) tok mixed (fun | 2 => some (inv46 l tl0 w W n c) | _ => none) (fun _ => none)
    Try.func46 (by kernel_rfl) (by kernel_rfl) (by kernel_rfl) (by kernel_rfl) rfl ?_
  have hX : ∀ (j : Nat) (J : Int), J = j → j < W → (w : Int) / 2 ^ (min ((W : Int) - 1 - J).toNat IntKind.i64.bits) = ((w / 2 ^ (W - 1 - j) : Nat) : Int) := fun j J hJ hj => by
    have e : min ((W : Int) - 1 - J).toNat IntKind.i64.bits = W - 1 - j := by simp only [IntKind.bits]; omega
    rw [e]
    simp
  have hb : ∀ j : Nat, (!decide ((((((w / 2 ^ (W - 1 - j) : Nat) : Int).toNat &&& Int.toNat 1 : Nat)) : Int) = 0)) = wbit w W j := fun j => by
    unfold wbit
    generalize w / 2 ^ (W - 1 - j) = x
    rw [show Int.toNat 1 = 1 from rfl, Int.toNat_natCast, Nat.and_one_is_mod]
    by_cases h : x % 2 = 0
    · simp [h]
    · have : x % 2 = 1 := by omega
      simp [this]
  have hY : ∀ j : Nat, ((w / 2 ^ (W - 1 - j) : Nat) : Int) ≤ 9223372036854775807 := fun j => by
    have := Nat.div_le_self w (2 ^ (W - 1 - j))
    omega
  conv => whnf
  refine ⟨⟨[0], ((0, []) : Nat × List Bool), ?_, Nat.zero_le _⟩, ?_⟩
  · conv => whnf
    repeat' (first | exact True.intro | rfl | refine And.intro ?_ ?_)
  · rintro ⟨k, tl⟩ hk
    have hk : k ≤ W := hk
    cases k with
    | zero =>
      conv => whnf
      refine tst_in (fun hlt => ?_) (fun hge => ?_)
      · skip
        conv => whnf
        repeat (refine And.intro ?_ ?_; (focus (first | omega | ((conv => whnf); omega) | (simp [mulSz, Cont.len]; done) | (simp [mulSz, Cont.len]; omega))); conv => whnf)
        rw [hX 0 0 rfl (by omega)]
        refine ⟨⟨Int.natCast_nonneg _, by omega, by rw [i64max]; exact hY _, by rw [i64max]; omega⟩, ?_⟩
        conv => whnf
        repeat (refine And.intro ?_ ?_; (focus (first | omega | ((conv => whnf); omega) | (simp [mulSz, Cont.len]; done) | (simp [mulSz, Cont.len]; omega))); conv => whnf)
        intro (tl2 : List Bool)
        conv => whnf
        repeat (refine And.intro ?_ ?_; (focus (first | omega | ((conv => whnf); omega) | (simp [mulSz, Cont.len]; done) | (simp [mulSz, Cont.len]; omega))); conv => whnf)
        refine ⟨[0, 2], ((1, tl2) : Nat × List Bool), ?_, ?_, ?_⟩
        · conv => whnf
          repeat' (first | exact True.intro | rfl | refine And.intro ?_ ?_)
          conv => whnf
          show l ++ wbs w W 1 ++ tl2 = (((l ++ tl0).drop 0).take n ++ (([!decide ((((((w / 2 ^ (W - 1 - 0) : Nat) : Int).toNat &&& Int.toNat 1 : Nat)) : Int) = 0)]).drop 0).take 1) ++ tl2
          rw [hb, List.drop_zero, List.take_left' hl]
          rfl
        · exact h1
        · show W - 1 < W - 0
          omega
      · simp at hge; omega
    | succ k =>
      conv => whnf
      refine tst_in (fun hlt => ?_) (fun hge => ?_)
      · skip
        have hlt : k + 1 < W := by simp at hlt; omega
        conv => whnf
        repeat (refine And.intro ?_ ?_; (focus (first | omega | ((conv => whnf); omega) | (simp [mulSz, Cont.len]; done) | (simp [mulSz, Cont.len]; omega))); conv => whnf)
        rw [hX (k + 1) _ rfl (by omega)]
        refine ⟨⟨Int.natCast_nonneg _, by omega, by rw [i64max]; exact hY _, by rw [i64max]; omega⟩, ?_⟩
        conv => whnf
        repeat (refine And.intro ?_ ?_; (focus (first | omega | ((conv => whnf); omega) | (simp [mulSz, Cont.len]; done) | (simp [mulSz, Cont.len]; omega))); conv => whnf)
        refine ⟨by show 0 + (n + (k + 1) + tl.length) ≤ (l ++ wbs w W (k + 1) ++ tl).length; simp [wbs_len]; omega, ?_⟩
        conv => whnf
        refine ⟨⟨by omega, by show (n + (k + 1) + 1) * 1 ≤ 140737488355328; omega⟩, ?_⟩
        conv => whnf
        intro (tl2 : List Bool)
        conv => whnf
        repeat (refine And.intro ?_ ?_; (focus (first | omega | ((conv => whnf); omega) | (simp [mulSz, Cont.len]; done) | (simp [mulSz, Cont.len]; omega))); conv => whnf)
        refine ⟨[0, 3], ((k + 1 + 1, tl2) : Nat × List Bool), ?_, ?_, ?_⟩
        · conv => whnf
          repeat' (first | exact True.intro | rfl | refine And.intro ?_ ?_)
          conv => whnf
          show l ++ wbs w W (k + 1 + 1) ++ tl2 = (((l ++ wbs w W (k + 1) ++ tl).drop 0).take (n + (k + 1)) ++ (([!decide ((((((w / 2 ^ (W - 1 - (k + 1)) : Nat) : Int).toNat &&& Int.toNat 1 : Nat)) : Int) = 0)]).drop 0).take 1) ++ tl2
          rw [hb, wbs_next, List.drop_zero, List.take_left' (by simp [wbs_len, hl])]
          simp
        · exact hlt
        · show W - (k + 1 + 1) < W - (k + 1)
          omega
      · skip
        have hk2 : k + 1 = W := by simp at hge; omega
        subst hk2
        conv => whnf
        refine .inl ⟨tl, [0, 1], ?_⟩
        conv => whnf
        repeat' (first | exact True.intro | rfl | refine And.intro ?_ ?_)
        all_goals (show _ = _; simp [wbs_len, hl])
end Go.Proofs.Ytagndcamfjikhaa

namespace Go.Proofs.Ytagndcamfjikhaa
open Go Go.Fw

/-- The bits of words. -/
def rws (A : List Int) (W k : Nat) : List Bool := (A.take k).flatMap fun x => wbs x.toNat W W
theorem rws_next (A : List Int) (W k : Nat) (h : k < A.length) : rws A W (k + 1) = rws A W k ++ wbs (A.getD k 0).toNat W W := by
  unfold rws
  rw [take_next A k 0 h]
  simp
theorem rws_len (A : List Int) (W : Nat) : ∀ k, k ≤ A.length → (rws A W k).length = W * k
  | 0, _ => by simp [rws]
  | k + 1, h => by rw [rws_next A W k (by omega), List.length_append, rws_len A W k (by omega), wbs_len, Nat.mul_succ]
noncomputable def c18 : Code := (Try.f18.body).getD .skip
def inv18 (A : List Int) (W n ca : Nat) : LInv := ⟨Nat × List Bool, fun p => ⟨anyTo 44 [.slice 0 0 n ca, .int .i64 W, .any, .any, .any, .any, .slice 1 0 (W * p.1) (W * p.1 + p.2.length), .any, .any, .any, .any, .any, .any, .any, .any, .any, .any, .any, .any, .any, .any, .any, .any, .any, .slice 0 0 n ca, .int .i64 n, .int .i64 p.1],
  [.seg false (.ints .i64 A), .seg true (.bools (rws A W p.1 ++ p.2))]⟩, fun p => p.1 ≤ n, fun p => n - p.1⟩

set_option maxRecDepth 100000 in
theorem Row_f (A : List Int) (W n ca : Nat) (hn : n ≤ A.length) (h1 : 1 ≤ W) (h2 : W ≤ 16) (hN : W * n ≤ 32768) (hv : ∀ i, i < n → 0 ≤ A.getD i 0 ∧ A.getD i 0 < 2 ^ W) :
    Fits Try.prog 18 ⟨[.slice 0 0 n ca, .int .i64 W], [.seg false (.ints .i64 A)], [rowOut 1 [.dead] (rws A W n) fun s => .tup [s, .int .i64 0]]⟩ := by
  refine fits_of_body (C := cfgk 1) (c := c18) (ts := [4, 5]) tok mixed (fun | 5 => some (inv18 A W n ca) | _ => none) (fun _ => none)
    Try.func18 (by kernel_rfl) (by kernel_rfl) (by kernel_rfl) (by kernel_rfl) rfl ?_
  conv => whnf
  refine ⟨_, [], isWidth_q (W : Int), ?_⟩
  conv => whnf
  refine ⟨?_, ?_, ?_⟩
  · conv => whnf
    repeat' (first | exact True.intro | rfl | refine And.intro ?_ ?_ | omega)
    all_goals (conv => whnf)
    all_goals (try (first | rfl | omega | (simp; done)))
  · conv => whnf
    repeat' (first | exact True.intro | rfl | refine And.intro ?_ ?_ | omega)
    all_goals (conv => whnf)
    all_goals (try (first | rfl | omega | (simp; done)))
  conv => whnf
  refine tst_in (fun h_ => False.elim (by simp at h_ <;> omega)) (fun _ => ?_)
  conv => whnf
  have hq : (n : Int) ≤ 32768 / (W : Int) := by
    apply Int.le_ediv_of_mul_le (by omega)
    have : ((W * n : Nat) : Int) ≤ 32768 := by omega
    rw [Int.natCast_mul, Int.mul_comm] at this
    exact this
  conv => whnf
  repeat (refine And.intro ?_ ?_; (focus (first | omega | ((conv => whnf); omega) | (simp [mulSz, Cont.len]; done) | (simp [mulSz, Cont.len]; omega))); conv => whnf)
  refine tst_in (fun h_ => (Int.not_lt.mpr hq (by simpa using h_)).elim) (fun _ => ?_)
  have hnn : n ≤ W * n := Nat.le_mul_of_pos_left n (by omega)
  have hm : (n : Int) * (W : Int) = ((W * n : Nat) : Int) := by rw [Int.natCast_mul, Int.mul_comm]
  conv => whnf
  rw [hm]
  refine ⟨⟨by omega, by omega⟩, ?_⟩
  conv => whnf
  refine ⟨⟨by omega, by omega, by show (1 : Int) * ((W * n : Nat) : Int) ≤ 281474976710656; omega, by omega⟩, ?_⟩
  conv => whnf
  refine ⟨⟨[0, 1], ((0, List.replicate (W * n) false) : Nat × List Bool), ?_, Nat.zero_le _⟩, ?_⟩
  · conv => whnf
    repeat' (first | exact True.intro | rfl | refine And.intro ?_ ?_)
    show W * 0 + (List.replicate (W * n) false).length = ((W * n : Nat) : Int).toNat
    rw [Nat.mul_zero, Nat.zero_add, List.length_replicate, Int.toNat_natCast]
  · rintro ⟨k, tl⟩ hk
    have hk : k ≤ n := hk
    have hx := rws_len A W k (by omega)
    conv => whnf
    refine tst_in (fun hlt => ?_) (fun hge => ?_)
    · skip
      have hlt : k < n := by simp at hlt; omega
      have hxn := rws_next A W k (by omega)
      obtain ⟨v1, v2⟩ := hv k hlt
      obtain ⟨w, hw⟩ : ∃ w : Nat, A.getD k 0 = w := ⟨(A.getD k 0).toNat, by omega⟩
      have e0 : A.getD (0 + ((((k, tl) : Nat × List Bool).1 : Nat) : Int).toNat) 0 = (w : Int) := by show A.getD (0 + k) 0 = _; rw [Nat.zero_add]; exact hw
      conv => whnf
      repeat (refine And.intro ?_ ?_; (focus (first | omega | ((conv => whnf); omega) | (simp [mulSz, Cont.len]; done) | (simp [mulSz, Cont.len]; omega))); conv => whnf)
      have hw2 : w < 2 ^ W := by
        rw [hw] at v2
        have : ((w : Nat) : Int) < ((2 ^ W : Nat) : Int) := by simpa using v2
        omega
      have hpw : 2 ^ W ≤ 2 ^ 16 := Nat.pow_le_pow_right (by decide) h2
      have hP : (1 : Int) * 2 ^ min (W : Int).toNat IntKind.i64.bits = ((2 ^ W : Nat) : Int) := by
        have e : min ((W : Int)).toNat IntKind.i64.bits = W := by simp only [IntKind.bits]; omega
        rw [e]
        simp
      have hf := appendWord_f (rws A W k) tl w W (W * k) (W * k + tl.length) hx rfl (by omega) h1 h2 (by
        have : W * k ≤ W * n := Nat.mul_le_mul_left _ hk
        omega)
      rw [e0]
      conv => whnf
      repeat (refine And.intro ?_ ?_; (focus (first | omega | ((conv => whnf); omega) | (simp [mulSz, Cont.len]; done) | (simp [mulSz, Cont.len]; omega))); conv => whnf)
      rw [hP]
      refine tst_in (fun h_ => absurd (show ((2 ^ W : Nat) : Int) ≤ (w : Int) by simpa using h_) (by omega)) (fun _ => ?_)
      conv => whnf
      repeat (refine And.intro ?_ ?_; (focus (first | omega | ((conv => whnf); omega) | (simp [mulSz, Cont.len]; done) | (simp [mulSz, Cont.len]; omega))); conv => whnf)
      refine ⟨_, [1], hf, ?_⟩
      conv => whnf
      refine ⟨?_, ?_, ?_⟩
      · conv => whnf
        repeat' (first | exact True.intro | rfl | refine And.intro ?_ ?_ | omega)
      · conv => whnf
        repeat' (first | exact True.intro | rfl | refine And.intro ?_ ?_ | omega)
      conv => whnf
      refine ⟨?_, True.intro⟩
      intro (tl2 : List Bool) _
      conv => whnf
      repeat (refine And.intro ?_ ?_; (focus (first | omega | ((conv => whnf); omega) | (simp [mulSz, Cont.len]; done) | (simp [mulSz, Cont.len]; omega))); conv => whnf)
      refine ⟨[0, 2], ((k + 1, tl2) : Nat × List Bool), ?_, ?_, ?_⟩
      · conv => whnf
        repeat' (first | exact True.intro | rfl | refine And.intro ?_ ?_)
        · show W * (k + 1) = _
          simp [hx, wbs_len, Nat.mul_succ]
        · show W * (k + 1) + tl2.length = _
          simp [hx, wbs_len, Nat.mul_succ]
        all_goals (try (conv => whnf))
        all_goals (try (first | rfl | exact True.intro))
        show rws A W (k + 1) ++ tl2 = (rws A W k ++ wbs w W W) ++ tl2
        rw [hxn, hw, Int.toNat_natCast]
      · exact hlt
      · show n - (k + 1) < n - k
        omega
    · skip
      have hge : n ≤ k := by simp at hge; omega
      have hkn : k = n := by omega
      subst hkn
      conv => whnf
      refine .inl ⟨tl, [0, 1], ?_⟩
      conv => whnf
      repeat' (first | exact True.intro | rfl | refine And.intro ?_ ?_)
      all_goals (show _ = _; simp [hx])
end Go.Proofs.Ytagndcamfjikhaa

namespace Go.Proofs.Ytagndcamfjikhaa
open Go Go.Fw

def T (k n : Nat) : Nat := n ^^^ (n >>> k)
theorem T_T (k n : Nat) : T k (T k n) = T (k + k) n := by
  unfold T
  rw [Nat.shiftRight_xor_distrib, ← Nat.shiftRight_add, Nat.xor_assoc, ← Nat.xor_assoc (n >>> k), Nat.xor_self, Nat.zero_xor]
theorem T_comm (k m n : Nat) : T k (T m n) = T m (T k n) := by
  unfold T
  simp only [Nat.shiftRight_xor_distrib, ← Nat.shiftRight_add, Nat.add_comm k m, Nat.xor_assoc]
  congr 1
  rw [← Nat.xor_assoc, Nat.xor_comm (n >>> m), Nat.xor_assoc]
theorem T_lt {k n : Nat} (h : n < 65536) : T k n < 65536 := Nat.xor_lt_two_pow (n := 16) h (Nat.lt_of_le_of_lt (by rw [Nat.shiftRight_eq_div_pow]; exact Nat.div_le_self _ _) h)
theorem T_16 {n : Nat} (h : n < 65536) : T 16 n = n := by
  unfold T
  rw [Nat.shiftRight_eq_div_pow, Nat.div_eq_of_lt (by simpa using h), Nat.xor_zero]

/-- Ungray, round by round. -/
def it (n : Nat) : Nat → Nat
  | 0 => n
  | j + 1 => T (2 ^ j) (it n j)
theorem it_lt {n : Nat} (h : n < 65536) : ∀ j, it n j < 65536
  | 0 => h
  | j + 1 => T_lt (it_lt h j)
theorem gray_ungray {n : Nat} (h : n < 65536) : T 1 (it n 4) = n := by
  simp only [it]
  rw [T_comm 1, T_comm 1, T_comm 1, T_T, T_T, T_T, T_T]
  exact T_16 h
theorem ungray_gray {n : Nat} (h : n < 65536) : it (T 1 n) 4 = n := by
  simp only [it]
  rw [T_T, T_T, T_T, T_T]
  exact T_16 h


noncomputable def c49 : Code := (Try.f49.body).getD .skip
theorem isGray_q (n : Int) : QFits Try.prog 49 ⟨[.int .i64 n], [], .bool (decide (0 ≤ n ∧ n < 65536))⟩ := by
  refine qfits_of_body (C := cfg) (c := c49) (ts := [2]) tok mixed (fun _ => none) (fun _ => none)
    Try.func49 (by kernel_rfl) (by kernel_rfl) (by kernel_rfl) (by kernel_rfl) (by kernel_rfl) rfl rfl ?_
  conv => whnf
  refine tst_in (fun h => ?_) (fun h => ?_)
  · conv => whnf
    have h : 0 ≤ n := by simpa using h
    repeat' (first | exact True.intro | rfl | refine And.intro ?_ ?_)
    exact decide_eq_decide.mpr ⟨fun h => h.2, fun h2 => ⟨h, h2⟩⟩
  · conv => whnf
    have h : ¬ 0 ≤ n := by simpa using h
    repeat' (first | exact True.intro | rfl | refine And.intro ?_ ?_)
    exact decide_eq_false (fun h1 => h h1.1)
noncomputable def c35 : Code := (Try.f35.body).getD .skip
def inv35 (n : Nat) : LInv := ⟨Nat, fun j => ⟨anyTo 18 [.int .i64 (it n j), .any, .any, .any, .int .i64 (2 ^ j)], []⟩, fun j => j ≤ 4, fun j => 4 - j⟩

theorem shr_nat (x j : Nat) (h : 2 ^ j < 64) : ((x : Int) / 2 ^ (min ((2 : Int) ^ j).toNat IntKind.i64.bits)).toNat = x >>> (2 ^ j) := by
  have e : ((2 : Int) ^ j).toNat = 2 ^ j := by
    have : ((2 : Int) ^ j) = ((2 ^ j : Nat) : Int) := by simp
    rw [this, Int.toNat_natCast]
  have e2 : min (2 ^ j) IntKind.i64.bits = 2 ^ j := Nat.min_eq_left (by simp only [IntKind.bits]; omega)
  rw [e, e2, Nat.shiftRight_eq_div_pow]
  have : (x : Int) / 2 ^ 2 ^ j = ((x / 2 ^ 2 ^ j : Nat) : Int) := by simp
  rw [this, Int.toNat_natCast]

theorem Ungray_in (n : Int) (m : Nat) (hn : n = m) (hm : m < 65536) : QFits Try.prog 35 ⟨[.int .i64 n], [], .tup [.int .i64 (it m 4), .int .i64 0]⟩ := by
  refine qfits_of_body (C := cfg) (c := c35) (ts := [2, 3]) tok mixed (fun | 4 => some (inv35 m) | _ => none) (fun _ => none)
    Try.func35 (by kernel_rfl) (by kernel_rfl) (by kernel_rfl) (by kernel_rfl) (by kernel_rfl) rfl rfl ?_
  conv => whnf
  refine ⟨_, [], isGray_q n, ?_⟩
  conv => whnf
  refine ⟨⟨rfl, True.intro⟩, True.intro, ?_⟩
  conv => whnf
  refine tst_in (fun h_ => False.elim (by simp at h_ <;> omega)) (fun _ => ?_)
  conv => whnf
  · skip
    refine ⟨⟨[], (0 : Nat), ?_, Nat.zero_le _⟩, ?_⟩
    · conv => whnf
      repeat' (first | exact True.intro | refine And.intro ?_ ?_)
      · show ((it m 0 : Nat) : Int) = n
        exact hn.symm
      · rfl
    · intro (j : Nat) (hj : j ≤ 4)
      have hlt := it_lt (n := m) (by omega) j
      conv => whnf
      refine tst_in (fun hc => ?_) (fun hc => ?_)
      · skip
        have hj4 : j < 4 := by
          rcases Nat.lt_or_ge j 4 with h | h
          · exact h
          · have : j = 4 := by omega
            subst this; simp at hc
        have hp : (2 : Int) ^ j ≤ 2 ^ 3 := two_pow_le (by omega)
        have hp0 := two_pow_pos j
        have hpn : 2 ^ j < 64 := by have : (2 : Nat) ^ j ≤ 2 ^ 3 := Nat.pow_le_pow_right (by decide) (by omega); omega
        have hs := shr_nat (it m j) j hpn
        have hle : ((it m j : Nat) : Int) / 2 ^ (min ((2 : Int) ^ j).toNat IntKind.i64.bits) ≤ it m j := Int.ediv_le_self _ (by omega)
        have hge : (0 : Int) ≤ ((it m j : Nat) : Int) / 2 ^ (min ((2 : Int) ^ j).toNat IntKind.i64.bits) := Int.ediv_nonneg (by omega) (Int.le_of_lt (two_pow_pos _))
        conv => whnf
        refine ⟨by omega, ?_⟩
        conv => whnf
        refine ⟨⟨by omega, hge, by rw [i64max]; omega, by rw [i64max]; exact Int.le_trans hle (by omega)⟩, ?_⟩
        conv => whnf
        refine ⟨by omega, ?_⟩
        conv => whnf
        refine ⟨?_, ?_⟩
        · have : (2 : Int) ^ (min (1 : Int).toNat IntKind.i64.bits) = 2 := rfl
          rw [this]; omega
        conv => whnf
        refine ⟨[], j + 1, ?_, ?_, ?_⟩
        · conv => whnf
          refine ⟨⟨?_, ?_⟩, True.intro⟩
          · have e : it m (j + 1) = ((it m j : Nat) : Int).toNat ^^^ (((it m j : Nat) : Int) / 2 ^ (min ((2 : Int) ^ j).toNat IntKind.i64.bits)).toNat := by rw [hs, Int.toNat_natCast]; rfl
            exact congrArg (fun x : Nat => (x : Int)) e
          repeat' (first | exact True.intro | refine And.intro ?_ ?_)
          show (2 : Int) ^ (j + 1) = 2 ^ j * 2
          rw [Int.pow_succ]
        · show j + 1 ≤ 4
          omega
        · show 4 - (j + 1) < 4 - j
          omega
      · skip
        have hj4 : j = 4 := by
          rcases Nat.lt_or_ge j 4 with h | h
          · have : (2 : Int) ^ j ≤ 2 ^ 3 := two_pow_le (by omega)
            simp at hc; omega
          · omega
        subst hj4
        conv => whnf
        repeat' (first | exact True.intro | rfl | refine And.intro ?_ ?_)


noncomputable def c25 : Code := (Try.f25.body).getD .skip
theorem Gray_in (n : Int) (m : Nat) (hn : n = m) (hm : m < 65536) : QFits Try.prog 25 ⟨[.int .i64 n], [], .tup [.int .i64 (T 1 m : Nat), .int .i64 0]⟩ := by
  refine qfits_of_body (C := cfg) (c := c25) (ts := [2, 3]) tok mixed (fun _ => none) (fun _ => none)
    Try.func25 (by kernel_rfl) (by kernel_rfl) (by kernel_rfl) (by kernel_rfl) (by kernel_rfl) rfl rfl ?_
  conv => whnf
  refine ⟨_, [], isGray_q n, ?_⟩
  conv => whnf
  refine ⟨⟨rfl, True.intro⟩, True.intro, ?_⟩
  conv => whnf
  refine tst_in (fun h_ => False.elim (by simp at h_ <;> omega)) (fun _ => ?_)
  conv => whnf
  refine ⟨by omega, ?_⟩
  conv => whnf
  refine ⟨⟨by omega, Int.ediv_nonneg (by omega) (by decide), by rw [i64max]; omega, by rw [i64max]; have : n / 2 ^ (min (1 : Int).toNat IntKind.i64.bits) ≤ n := Int.ediv_le_self _ (by omega); omega⟩, ?_⟩
  conv => whnf
  subst hn
  have e : T 1 m = ((m : Int).toNat ^^^ ((m : Int) / 2 ^ (min (1 : Int).toNat IntKind.i64.bits)).toNat) := by
    unfold T
    rw [Int.toNat_natCast, Nat.shiftRight_eq_div_pow]
    congr 1
  refine ⟨?_, ?_, True.intro⟩
  · conv => whnf
    exact congrArg (fun x : Nat => (x : Int)) e
  · conv => whnf
end Go.Proofs.Ytagndcamfjikhaa

namespace Go.Proofs.Ytagndcamfjikhaa
open Go Go.Fw

theorem xor2 (a b : Nat) : (a ^^^ b) % 2 = (a + b) % 2 := by
  have h := Nat.testBit_xor a b 0
  simp only [Nat.testBit_zero] at h
  rcases Nat.mod_two_eq_zero_or_one a with ha | ha <;> rcases Nat.mod_two_eq_zero_or_one b with hb | hb <;> rcases Nat.mod_two_eq_zero_or_one (a ^^^ b) with hx | hx <;> rw [ha, hb, hx] at h <;> first | omega | (simp at h)


theorem wbit_xor (a b W j : Nat) : (wbit a W j != wbit b W j) = wbit (a ^^^ b) W j := by
  unfold wbit
  have e : (a ^^^ b) / 2 ^ (W - 1 - j) = a / 2 ^ (W - 1 - j) ^^^ b / 2 ^ (W - 1 - j) := by
    rw [← Nat.shiftRight_eq_div_pow, ← Nat.shiftRight_eq_div_pow, ← Nat.shiftRight_eq_div_pow, Nat.shiftRight_xor_distrib]
  rw [e]
  generalize a / 2 ^ (W - 1 - j) = x
  generalize b / 2 ^ (W - 1 - j) = y
  have h := xor2 x y
  rcases Nat.mod_two_eq_zero_or_one x with hx | hx <;> rcases Nat.mod_two_eq_zero_or_one y with hy | hy
  · have : (x ^^^ y) % 2 = 0 := by omega
    simp [hx, hy, this]
  · have : (x ^^^ y) % 2 = 1 := by omega
    simp [hx, hy, this]
  · have : (x ^^^ y) % 2 = 1 := by omega
    simp [hx, hy, this]
  · have : (x ^^^ y) % 2 = 0 := by omega
    simp [hx, hy, this]
theorem xr_wbs (a b W : Nat) : ∀ k, xr (wbs a W k) (wbs b W k) = wbs (a ^^^ b) W k
  | 0 => by simp [xr, wbs]
  | k + 1 => by
    have ih := xr_wbs a b W k
    rw [wbs_next, wbs_next, wbs_next, ← ih]
    unfold xr
    rw [List.zipWith_append (by simp [wbs_len])]
    simp only [List.zipWith_cons_cons, List.zipWith_nil_left]
    rw [wbit_xor]
theorem step_bits : ∀ m : Nat, ∃ t, m ^^^ (m + 1) = 2 ^ (t + 1) - 1 ∧ 2 ^ t ≤ m + 1 := by
  intro m
  induction m using Nat.strongRecOn with
  | ind m ih =>
    have hd := Nat.div_add_mod (m ^^^ (m + 1)) 2
    have h2 := xor2 m (m + 1)
    have hx : (m ^^^ (m + 1)) / 2 = m / 2 ^^^ (m + 1) / 2 := Nat.xor_div_two
    rcases Nat.mod_two_eq_zero_or_one m with h | h
    · refine ⟨0, ?_, by omega⟩
      have e : (m + 1) / 2 = m / 2 := by omega
      rw [e, Nat.xor_self] at hx
      omega
    · obtain ⟨t, i1, i2⟩ := ih (m / 2) (by omega)
      refine ⟨t + 1, ?_, ?_⟩
      · have e : (m + 1) / 2 = m / 2 + 1 := by omega
        rw [e, i1] at hx
        have := Nat.two_pow_pos (t + 1)
        rw [Nat.pow_succ 2 (t + 1)]
        omega
      · rw [Nat.pow_succ]; omega
theorem T_ones : ∀ t : Fin 16, T 1 (2 ^ (t.1 + 1) - 1) = 2 ^ t.1 := by decide
theorem wt_one : ∀ t : Fin 16, wt (wbs (2 ^ t.1) 16 16) = 1 := by decide
theorem T_xor (a b : Nat) : T 1 a ^^^ T 1 b = T 1 (a ^^^ b) := by
  unfold T
  rw [Nat.shiftRight_xor_distrib, Nat.xor_assoc, Nat.xor_assoc, ← Nat.xor_assoc (a >>> 1), Nat.xor_comm (a >>> 1) b, Nat.xor_assoc b]
theorem near_one (m : Nat) (h : m < 65536) : wt (xr (wbs (T 1 m) 16 16) (wbs (T 1 ((m + 1) % 65536)) 16 16)) = 1 := by
  rw [xr_wbs, T_xor]
  rcases Nat.lt_or_ge (m + 1) 65536 with h1 | h1
  · rw [Nat.mod_eq_of_lt h1]
    obtain ⟨t, e1, e2⟩ := step_bits m
    have ht : t < 16 := by
      rcases Nat.lt_or_ge t 16 with h | h
      · exact h
      · have : 2 ^ 16 ≤ 2 ^ t := Nat.pow_le_pow_right (by decide) h
        omega
    rw [e1, T_ones ⟨t, ht⟩]
    exact wt_one ⟨t, ht⟩
  · have : m = 65535 := by omega
    subst this
    have e : T 1 (65535 ^^^ (65535 + 1) % 65536) = 2 ^ 15 := by decide
    rw [e]
    exact wt_one ⟨15, by decide⟩
theorem low16 (n : Int) : ∃ m : Nat, rawBits .and .i64 n 65535 = m ∧ m < 65536 := by
  have h : (BitVec.ofInt 64 n &&& BitVec.ofInt 64 65535).toNat < 65536 := by
    rw [BitVec.toNat_and]
    exact Nat.and_lt_two_pow _ (n := 16) (by decide)
  refine ⟨(BitVec.ofInt 64 n &&& BitVec.ofInt 64 65535).toNat, ?_, h⟩
  have h' : (((BitVec.ofInt 64 n &&& BitVec.ofInt 64 65535).toNat : Nat) : Int) ≤ 9223372036854775807 := by omega
  exact wrap_nonneg .i64 (Int.natCast_nonneg _) (by rw [i64max]; exact h')
end Go.Proofs.Ytagndcamfjikhaa

namespace Go.Proofs.Ytagndcamfjikhaa
open Go Go.Fw

def cfgs (k r : Nat) : Cfg := { T := tys, sgn := fun i => Nat.beq i r, wr := fun _ => false, k := k, q := qf }
theorem Row_one (v : Nat) (h : v < 65536) : Fits Try.prog 18 ⟨[.slice 0 0 1 1, .int .i64 16], [.seg false (.ints .i64 [(v : Int)])], [rowOut 1 [.dead] (wbs v 16 16) fun s => .tup [s, .int .i64 0]]⟩ := by
  have := Row_f [(v : Int)] 16 1 1 (by simp) (by omega) (by omega) (by omega) (fun i hi => by
    have : i = 0 := by omega
    subst this
    show (0 : Int) ≤ v ∧ (v : Int) < 2 ^ 16
    constructor
    · omega
    · rw [show (2 : Int) ^ 16 = 65536 from rfl]; omega)
  have e : rws [(v : Int)] 16 1 = wbs v 16 16 := by simp [rws]
  rw [e] at this
  exact this
noncomputable def c11 : Code := (Try.f11.body).getD .skip
set_option maxRecDepth 100000 in
set_option maxHeartbeats 8000000 in
theorem law11_f (n : Int) : Fits Try.prog 11 ⟨[.int .i64 n], [], [⟨Unit, fun _ => True, fun _ => .bool true, fun _ => []⟩]⟩ := by
  refine fits_of_body (C := cfgs 0 3) (c := c11) (ts := [2]) tok mixed (fun _ => none) (fun _ => none)
    Try.func11 (by kernel_rfl) (by kernel_rfl) (by kernel_rfl) (by kernel_rfl) rfl ?_
  obtain ⟨m, hm, hlt⟩ := low16 n
  have u1 := it_lt hlt 4
  have g1 : T 1 m < 65536 := T_lt hlt
  conv => whnf
  refine ⟨_, [], runT.works_f, ?_⟩
  conv => whnf
  refine ⟨?_, ?_, ?_⟩
  · conv => whnf
    repeat' (first | exact True.intro | rfl | refine And.intro ?_ ?_ | omega)
    all_goals (conv => whnf)
    all_goals (try (first | rfl | omega | (simp; done)))
  · conv => whnf
    repeat' (first | exact True.intro | rfl | refine And.intro ?_ ?_ | omega)
    all_goals (conv => whnf)
    all_goals (try (first | rfl | omega | (simp; done)))
  conv => whnf
  refine ⟨?_, True.intro⟩
  intro _ _
  conv => whnf
  rw [hm]
  refine ⟨_, [], Gray_in m m rfl hlt, ?_⟩
  conv => whnf
  refine ⟨?_, ?_, ?_⟩
  · conv => whnf
    repeat' (first | exact True.intro | rfl | refine And.intro ?_ ?_ | omega)
    all_goals (conv => whnf)
    all_goals (try (first | rfl | omega | (simp; done)))
  · conv => whnf
    repeat' (first | exact True.intro | rfl | refine And.intro ?_ ?_ | omega)
    all_goals (conv => whnf)
    all_goals (try (first | rfl | omega | (simp; done)))
  conv => whnf
  have fU := Ungray_in (T 1 m : Nat) (T 1 m) rfl g1
  rw [ungray_gray hlt] at fU
  refine ⟨_, [], fU, ?_⟩
  conv => whnf
  refine ⟨?_, ?_, ?_⟩
  · conv => whnf
    repeat' (first | exact True.intro | rfl | refine And.intro ?_ ?_ | omega)
    all_goals (conv => whnf)
    all_goals (try (first | rfl | omega | (simp; done)))
  · conv => whnf
    repeat' (first | exact True.intro | rfl | refine And.intro ?_ ?_ | omega)
    all_goals (conv => whnf)
    all_goals (try (first | rfl | omega | (simp; done)))
  conv => whnf
  refine ⟨_, [], Ungray_in m m rfl hlt, ?_⟩
  conv => whnf
  refine ⟨?_, ?_, ?_⟩
  · conv => whnf
    repeat' (first | exact True.intro | rfl | refine And.intro ?_ ?_ | omega)
    all_goals (conv => whnf)
    all_goals (try (first | rfl | omega | (simp; done)))
  · conv => whnf
    repeat' (first | exact True.intro | rfl | refine And.intro ?_ ?_ | omega)
    all_goals (conv => whnf)
    all_goals (try (first | rfl | omega | (simp; done)))
  conv => whnf
  have fG := Gray_in (it m 4 : Nat) (it m 4) rfl u1
  rw [gray_ungray hlt] at fG
  refine ⟨_, [], fG, ?_⟩
  conv => whnf
  refine ⟨?_, ?_, ?_⟩
  · conv => whnf
    repeat' (first | exact True.intro | rfl | refine And.intro ?_ ?_ | omega)
    all_goals (conv => whnf)
    all_goals (try (first | rfl | omega | (simp; done)))
  · conv => whnf
    repeat' (first | exact True.intro | rfl | refine And.intro ?_ ?_ | omega)
    all_goals (conv => whnf)
    all_goals (try (first | rfl | omega | (simp; done)))
  conv => whnf
  have hp : (((m : Int) + 1).toNat &&& Int.toNat 65535) = (m + 1) % 65536 := by
    have e : ((m : Int) + 1).toNat = m + 1 := by omega
    rw [e]
    exact Nat.and_two_pow_sub_one_eq_mod (m + 1) 16
  have hp2 : (m + 1) % 65536 < 65536 := Nat.mod_lt _ (by omega)
  have g2 : T 1 ((m + 1) % 65536) < 65536 := T_lt hp2
  have lw : ∀ v : Nat, v < 65536 → ((v : Int).toNat &&& Int.toNat 65535) = v := fun v hv => by
    rw [Int.toNat_natCast]
    exact (Nat.and_two_pow_sub_one_eq_mod v 16).trans (Nat.mod_eq_of_lt hv)
  have near := near_one m hlt
  generalize hq : (m + 1) % 65536 = q at *
  have l1 := lw _ g1
  have l2 := lw _ g2
  have a1 : (wbs (T 1 m) 16 16).length = 16 := wbs_len _ _ _
  have a2 : (wbs (T 1 q) 16 16).length = 16 := wbs_len _ _ _
  have fD : ∀ (x1 x2 : List Bool) (c1 c2 : Nat), Fits Try.prog 38 ⟨[.slice 0 0 (wbs (T 1 m) 16 16).length c1, .slice 1 0 (wbs (T 1 q) 16 16).length c2], [.seg false (.bools (wbs (T 1 m) 16 16 ++ x1)), .seg false (.bools (wbs (T 1 q) 16 16 ++ x2))], [⟨Unit, fun _ => True, fun _ => .tup [.int .i64 1, .int .i64 0], fun _ => [.dead, .dead]⟩]⟩ := fun x1 x2 c1 c2 => by
    have := Distance_f (wbs (T 1 m) 16 16 ++ x1) (wbs (T 1 q) 16 16 ++ x2) (wbs (T 1 m) 16 16).length (wbs (T 1 q) 16 16).length c1 c2 (by simp) (by simp)
    unfold wtSpec at this
    have e : xrOk (wbs (T 1 m) 16 16).length (wbs (T 1 q) 16 16).length (wbs (T 1 m) 16 16 ++ x1) (wbs (T 1 q) 16 16 ++ x2) = xr (wbs (T 1 m) 16 16) (wbs (T 1 q) 16 16) ∧ erOk (wbs (T 1 m) 16 16).length (wbs (T 1 q) 16 16).length = 0 := by
      simp only [xrOk, erOk, List.take_left]
      rw [if_pos ⟨by omega, by omega⟩, if_pos ⟨by omega, by omega⟩]
      exact ⟨rfl, rfl⟩
    rw [e.1, e.2, near] at this
    exact this
  conv => whnf
  repeat (refine And.intro ?_ ?_; (focus (first | omega | ((conv => whnf); omega) | (simp [mulSz, Cont.len]; done) | (simp [mulSz, Cont.len]; omega))); conv => whnf)
  rw [hp]
  refine ⟨_, [], Gray_in q q rfl hp2, ?_⟩
  conv => whnf
  refine ⟨?_, ?_, ?_⟩
  · conv => whnf
    repeat' (first | exact True.intro | rfl | refine And.intro ?_ ?_ | omega)
    all_goals (conv => whnf)
    all_goals (try (first | rfl | omega | (simp; done)))
  · conv => whnf
    repeat' (first | exact True.intro | rfl | refine And.intro ?_ ?_ | omega)
    all_goals (conv => whnf)
    all_goals (try (first | rfl | omega | (simp; done)))
  conv => whnf
  conv => whnf
  repeat (refine And.intro ?_ ?_; (focus (first | omega | ((conv => whnf); omega) | (simp [mulSz, Cont.len]; done) | (simp [mulSz, Cont.len]; omega))); conv => whnf)
  rw [l1]
  refine ⟨_, [0], Row_one (T 1 m) g1, ?_⟩
  conv => whnf
  refine ⟨?_, ?_, ?_⟩
  · conv => whnf
    repeat' (first | exact True.intro | rfl | refine And.intro ?_ ?_ | omega)
  · conv => whnf
    repeat' (first | exact True.intro | rfl | refine And.intro ?_ ?_ | omega)
  conv => whnf
  refine ⟨?_, True.intro⟩
  intro (x1 : List Bool) _
  conv => whnf
  repeat (refine And.intro ?_ ?_; (focus (first | omega | ((conv => whnf); omega) | (simp [mulSz, Cont.len]; done) | (simp [mulSz, Cont.len]; omega))); conv => whnf)
  rw [l2]
  refine ⟨_, [2], Row_one (T 1 q) g2, ?_⟩
  conv => whnf
  refine ⟨?_, ?_, ?_⟩
  · conv => whnf
    repeat' (first | exact True.intro | rfl | refine And.intro ?_ ?_ | omega)
  · conv => whnf
    repeat' (first | exact True.intro | rfl | refine And.intro ?_ ?_ | omega)
  conv => whnf
  refine ⟨?_, True.intro⟩
  intro (x2 : List Bool) _
  conv => whnf
  repeat (refine And.intro ?_ ?_; (focus (first | omega | ((conv => whnf); omega) | (simp [mulSz, Cont.len]; done) | (simp [mulSz, Cont.len]; omega))); conv => whnf)
  refine ⟨_, [1, 3], fD x1 x2 ((wbs (T 1 m) 16 16).length + x1.length) ((wbs (T 1 q) 16 16).length + x2.length), ?_⟩
  conv => whnf
  refine ⟨?_, ?_, ?_⟩
  · conv => whnf
    repeat' (first | exact True.intro | rfl | refine And.intro ?_ ?_ | omega)
  · conv => whnf
    repeat' (first | exact True.intro | rfl | refine And.intro ?_ ?_ | omega)
  conv => whnf
  refine ⟨?_, True.intro⟩
  intro _ _
  conv => whnf
  repeat (refine And.intro ?_ ?_; (focus (first | omega | ((conv => whnf); omega) | (simp [mulSz, Cont.len]; done) | (simp [mulSz, Cont.len]; omega))); conv => whnf)
  refine tst_in (fun _ => ?_) (fun h_ => False.elim (by simp at h_ <;> omega))
  conv => whnf
  refine tst_in (fun _ => ?_) (fun h_ => False.elim (by simp at h_ <;> omega))
  conv => whnf
  refine .inl ⟨(), [], ?_⟩
  conv => whnf
  repeat' (first | exact True.intro | rfl | refine And.intro ?_ ?_ | omega)
  all_goals (conv => whnf)
  all_goals (try (first | rfl | omega | (simp; done) | (simp; omega)))
end Go.Proofs.Ytagndcamfjikhaa

namespace Go.Proofs.Ytagndcamfjikhaa
open Go Go.Fw
namespace bitsGrays
open Go.ChangeShapes Go.WideShapes Go.ChangeAt Go.RowKit
theorem own : ownKnob Try.prog.godebug = none := by kernel_rfl
theorem laid : laidOutB Try.prog = true := by kernel_rfl

set_option maxRecDepth 100000 in
theorem lifted (os : Os) (started : os.Started) (H : Type) (enc : TypeId × Value → H) :
    ReturnsInHanded {} Try.checked os 11 .any (Rows.bitsGraysSpec.pre6 enc Try.prog Try.f11 Rows.bitsGraysRow.domain false) (Rows.bitsGraysSpec.post enc Try.prog Try.f11 false true false false) := by
  refine returnsInHanded_of_change_sized (C := Try.checked) own started (by kernel_rfl) Try.func11
    (ChangeSpec.witness6 (enc := enc) (C := Try.checked) false ⟨#[], #[.int .i64 0], []⟩ 8 (by kernel_rfl) (by kernel_rfl) (by kernel_rfl) (by kernel_rfl)) ?_
  intro W base args ds gs before hval0 hW _ hsz0 _
  have hsz : (DataW.weightsEach Try.prog (Try.f11.params.toList ++ Rows.bitsGraysSpec.plain.varTypes Try.prog) (ds ++ gs)).all (· ≤ reachBytes) = true := hsz0
  clear hsz0
  have hval : ∀ (j : Nat) t v, Try.f11.params[j]? = some t → args[j]? = some v → Value.okWide Try.prog W .any base t v := hval0
  have hW' := hW
  obtain ⟨p, q, hA0, hV, rfl, hfz, hnd⟩ := hW
  have hA : DataW.TrodAll enc Try.prog W 0 (fun _ => true) true Try.f11.params.toList args.toList ds p := hA0
  rw [Try.params11] at hA hval hsz
  obtain ⟨v0, vs0, d0, ds0, p0, q0, hargs, rfl, rfl, h0, r0⟩ := trodAll_cons hA
  obtain ⟨rfl, rfl, rfl⟩ := trodAll_nil r0
  obtain rfl : args = #[v0] := by cases args; simp_all
  obtain ⟨rfl, rfl⟩ := trodVars_none hV
  obtain ⟨k, rfl, rfl, rfl, wk⟩ := open_int Try.underlying3 (hval 0 3 v0 rfl rfl) h0
  clear hA0 hval0
  have walk := (law11_f k).calls W [] [.int .i64 k] (heap_args rfl fun i s hs => by simp at hs) (by simp only [Dens]; exact ⟨_, _, rfl, by simp [Den], rfl⟩) (x := .bool true) (v := .bool true) rfl (by
      intro o ho y hy
      simp at ho
      subst ho; rfl)
  refine walk.mono fun e W' ⟨he, hg⟩ => ?_
  subst he
  exact ⟨_, rfl, law_done laid rfl rfl Try.underlying4 (by kernel_rfl) hW' rfl hg⟩

theorem over : Rows.bitsGraysRow.holds Try.pinned (OpenSpec.ofChange Rows.bitsGraysSpec) :=
  OpenClaim.holds_of_wide 11 Try.f11 rfl rfl rfl rfl rfl rfl rfl ⟨rfl, rfl, rfl, rfl, rfl⟩ rfl rfl rfl rfl rfl (by kernel_rfl) Try.func11 (by kernel_rfl)
    (of_decide_eq_true (by kernel_rfl)) (by unfold Func.isWrapper; first | (rw [if_pos (by decide +kernel)]; kernel_rfl) | (rw [if_neg (by decide +kernel)]; exact ⟨rfl, rfl⟩))
    (fun os started H enc _ => lifted os started H enc)

theorem proved : Rows.BitsGraysSaid := over
end bitsGrays
end Go.Proofs.Ytagndcamfjikhaa
