/-
  For any two rows of bits and any number the law BitsPairs answers true and leaves what it was handed as it was. Conditions: none beyond the row itself.
-/
import Derived.Test.YtagndcamfjikhaaRows
import Derived.Test.YtagndcamfjikhaaFw
import Derived.Test.YtagndcamfjikhaaFa
import Derived.WalkKit
import Derived.ProofKit
import Derived.OpenShut
import Derived.SizedLaws
namespace Go.Proofs.Ytagndcamfjikhaa
open Go Go.Fw
def tys : List (Nat × TyI) := [
  (1, ⟨.func, 1, 8, .nilFunc⟩),
  (2, ⟨.int .i64, 1, 8, .int .i64 0⟩),
  (3, ⟨.int .i64, 1, 8, .int .i64 0⟩),
  (4, ⟨.bool, 1, 1, .bool false⟩),
  (5, ⟨.int .u8, 1, 1, .int .u8 0⟩),
  (9, ⟨.str, 1, 16, .string (ByteArray.mk #[])⟩),
  (12, ⟨.int .u64, 1, 8, .int .u64 0⟩),
  (21, ⟨.int .i32, 1, 4, .int .i32 0⟩),
  (22, ⟨.func, 1, 8, .nilFunc⟩),
  (23, ⟨.slice 4, 1, 24, .slice none 0 0⟩),
  (24, ⟨.int .i64, 1, 8, .int .i64 0⟩),
  (26, ⟨.func, 1, 8, .nilFunc⟩),
  (28, ⟨.func, 1, 8, .nilFunc⟩),
  (29, ⟨.slice 3, 1, 24, .slice none 0 0⟩),
  (31, ⟨.func, 1, 8, .nilFunc⟩),
  (32, ⟨.func, 1, 8, .nilFunc⟩),
  (33, ⟨.func, 1, 8, .nilFunc⟩),
  (34, ⟨.func, 1, 8, .nilFunc⟩),
  (35, ⟨.func, 1, 8, .nilFunc⟩),
  (36, ⟨.func, 1, 8, .nilFunc⟩),
  (38, ⟨.func, 1, 8, .nilFunc⟩),
  (39, ⟨.func, 1, 8, .nilFunc⟩),
  (41, ⟨.func, 1, 8, .nilFunc⟩),
  (43, ⟨.func, 1, 8, .nilFunc⟩),
  (44, ⟨.func, 1, 8, .nilFunc⟩),
  (45, ⟨.func, 1, 8, .nilFunc⟩),
  (46, ⟨.func, 1, 8, .nilFunc⟩),
  (47, ⟨.func, 1, 8, .nilFunc⟩),
  (48, ⟨.func, 1, 8, .nilFunc⟩),
  (49, ⟨.func, 1, 8, .nilFunc⟩),
  (50, ⟨.slice 56, 1, 24, .slice none 0 0⟩),
  (51, ⟨.func, 1, 8, .nilFunc⟩),
  (52, ⟨.func, 1, 8, .nilFunc⟩),
  (53, ⟨.func, 1, 8, .nilFunc⟩),
  (54, ⟨.func, 1, 8, .nilFunc⟩),
  (55, ⟨.struct [(0, 3), (1, 23)], 2, 32, .agg #[.int .i64 0, .slice none 0 0]⟩),
  (56, ⟨.struct [(0, 3), (1, 23)], 2, 32, .agg #[.int .i64 0, .slice none 0 0]⟩),
  (57, ⟨.func, 1, 8, .nilFunc⟩),
  (58, ⟨.func, 1, 8, .nilFunc⟩),
  (59, ⟨.func, 1, 8, .nilFunc⟩),
  (60, ⟨.func, 1, 8, .nilFunc⟩),
  (61, ⟨.func, 1, 8, .nilFunc⟩),
  (62, ⟨.slice 5, 1, 24, .slice none 0 0⟩),
  (63, ⟨.func, 1, 8, .nilFunc⟩),
  (64, ⟨.func, 1, 8, .nilFunc⟩),
  (65, ⟨.int .u64, 1, 8, .int .u64 0⟩),
  (66, ⟨.func, 1, 8, .nilFunc⟩),
  (67, ⟨.func, 1, 8, .nilFunc⟩),
  (68, ⟨.func, 1, 8, .nilFunc⟩),
  (69, ⟨.func, 1, 8, .nilFunc⟩),
  (75, ⟨.func, 1, 8, .nilFunc⟩),
  (76, ⟨.int .u32, 1, 4, .int .u32 0⟩),
  (79, ⟨.func, 1, 8, .nilFunc⟩),
  (80, ⟨.ptr 5, 1, 8, .pointer none⟩)]

theorem tok : TOk Try.prog tys := by
  intro p hp
  simp only [tys, List.mem_cons, List.not_mem_nil, or_false] at hp
  rcases hp with rfl | rfl | rfl | rfl | rfl | rfl | rfl | rfl | rfl | rfl | rfl | rfl | rfl | rfl | rfl | rfl | rfl | rfl | rfl | rfl | rfl | rfl | rfl | rfl | rfl | rfl | rfl | rfl | rfl | rfl | rfl | rfl | rfl | rfl | rfl | rfl | rfl | rfl | rfl | rfl | rfl | rfl | rfl | rfl | rfl | rfl | rfl | rfl | rfl | rfl | rfl | rfl | rfl | rfl
  all_goals exact ⟨by kernel_rfl, by kernel_rfl⟩

theorem mixed : Try.prog.follows .mixedOrders = true := by kernel_rfl
def qf : Nat → Bool := fun f => match f with | 19 => true | 22 => true | 31 => true | 32 => true | 41 => true | 47 => true | 48 => true | 49 => true | 50 => true | 51 => true | 25 => true | 34 => true | 35 => true | 36 => true | _ => false
def cfg : Cfg := { T := tys, sgn := fun _ => false, wr := fun _ => false, k := 0, q := qf }
def cfgk (k : Nat) : Cfg := { T := tys, sgn := fun _ => false, wr := fun _ => false, k := k, q := qf }

theorem take_next {α : Type} (l : List α) (k : Nat) (d : α) (h : k < l.length) : l.take (k + 1) = l.take k ++ [l.getD k d] := by
  rw [List.take_succ_eq_append_getElem h]; simp [List.getD, h]

/-- How many are set. -/
def wt : List Bool → Nat
  | [] => 0
  | b :: r => (if b then 1 else 0) + wt r
theorem wt_append (a b : List Bool) : wt (a ++ b) = wt a + wt b := by
  induction a with
  | nil => simp [wt]
  | cons x a ih => simp only [List.cons_append, wt, ih]; omega
theorem wt_le (a : List Bool) : wt a ≤ a.length := by
  induction a with
  | nil => simp [wt]
  | cons x a ih => simp only [wt, List.length_cons]; split <;> omega
theorem wt_next (l : List Bool) (k : Nat) (h : k < l.length) : wt (l.take (k + 1)) = wt (l.take k) + (if l.getD k false then 1 else 0) := by
  rw [take_next l k false h, wt_append]; simp [wt]
theorem wt_take_le (l : List Bool) (k : Nat) : wt (l.take k) ≤ k := Nat.le_trans (wt_le _) (List.length_take_le _ _)

noncomputable def c48 : Code := (Try.f48.body).getD .skip
theorem isRow_q (n cap : Nat) : QFits Try.prog 48 ⟨[.slice 0 0 n cap], [.dead], .bool (@decide ((n : Int) ≤ 32768) (dLe n 32768))⟩ := by
  refine qfits_of_body (C := cfgk 1) (c := c48) (ts := [2]) tok mixed (fun _ => none) (fun _ => none)
    Try.func48 (by kernel_rfl) (by kernel_rfl) (by kernel_rfl) (by kernel_rfl) (by kernel_rfl) rfl rfl ?_
  conv => whnf

noncomputable def c22 : Code := (Try.f22.body).getD .skip
def inv22 (A : List Bool) (n cap : Nat) : LInv := ⟨Nat, fun k => ⟨anyTo 17 [.slice 0 0 n cap, .any, .any, .int .i64 (wt (A.take k)), .any, .any, .slice 0 0 n cap, .int .i64 n, .int .i64 k], [.seg false (.bools A)]⟩, fun k => k ≤ n, fun k => n - k⟩
theorem Weight_q (A : List Bool) (n cap : Nat) (hn : n ≤ A.length) (hm : n ≤ 4611686018427387904) : QFits Try.prog 22 ⟨[.slice 0 0 n cap], [.seg false (.bools A)], .int .i64 (wt (A.take n))⟩ := by
  refine qfits_of_body (C := cfgk 1) (c := c22) (ts := [2]) tok mixed (fun | 3 => some (inv22 A n cap) | _ => none) (fun _ => none)
    Try.func22 (by kernel_rfl) (by kernel_rfl) (by kernel_rfl) (by kernel_rfl) (by kernel_rfl) rfl rfl ?_
  conv => whnf
  refine ⟨⟨[0], (0 : Nat), ?_, Nat.zero_le _⟩, ?_⟩
  · conv => whnf
    repeat' (first | exact True.intro | rfl | refine And.intro ?_ ?_)
  · intro (k : Nat) (hk : k ≤ n)
    have hw := wt_take_le A k
    conv => whnf
    refine tst_in (fun hlt => ?_) (fun hge => ?_)
    · skip
      have hlt : k < n := by simp at hlt; omega
      have hnx := wt_next A k (by omega)
      conv => whnf
      refine ⟨by omega, ?_⟩
      conv => whnf
      refine ⟨by simp; omega, ?_⟩
      conv => whnf
      refine tst_in (fun hb => ?_) (fun hb => ?_)
      · skip
        have hb : A.getD k false = true := by simpa using hb
        rw [hb] at hnx
        conv => whnf
        refine ⟨by omega, ?_⟩
        conv => whnf
        refine ⟨by omega, ?_⟩
        conv => whnf
        refine ⟨[0], k + 1, ?_, ?_, ?_⟩
        · conv => whnf
          repeat' (first | exact True.intro | rfl | refine And.intro ?_ ?_)
          show ((wt (A.take (k + 1)) : Nat) : Int) = (wt (A.take k) : Int) + 1
          rw [hnx]; rfl
        · show k + 1 ≤ n
          omega
        · show n - (k + 1) < n - k
          omega
      · skip
        have hb : A.getD k false = false := by simpa using hb
        rw [hb] at hnx
        conv => whnf
        refine ⟨by omega, ?_⟩
        conv => whnf
        refine ⟨[0], k + 1, ?_, ?_, ?_⟩
        · conv => whnf
          repeat' (first | exact True.intro | rfl | refine And.intro ?_ ?_)
          show ((wt (A.take (k + 1)) : Nat) : Int) = (wt (A.take k) : Int)
          rw [hnx]; rfl
        · show k + 1 ≤ n
          omega
        · show n - (k + 1) < n - k
          omega
    · skip
      have hge : n ≤ k := by simp at hge; omega
      conv => whnf
      have : k = n := by omega
      rw [this]

noncomputable def c19 : Code := (Try.f19.body).getD .skip
def inv19 (A B : List Bool) (n ca cb : Nat) : LInv := ⟨Nat, fun k => ⟨anyTo 26 [.slice 0 0 n ca, .slice 1 0 n cb, .any, .any, .any, .int .i64 k], [.seg false (.bools A), .seg false (.bools B)]⟩, fun k => k ≤ n ∧ A.take k = B.take k, fun k => n - k⟩
theorem same_q (A B : List Bool) (n m ca cb : Nat) (hn : n ≤ A.length) (hm : m ≤ B.length) (hN : n ≤ 4611686018427387904) :
    QFits Try.prog 19 ⟨[.slice 0 0 n ca, .slice 1 0 m cb], [.seg false (.bools A), .seg false (.bools B)], .bool (decide (A.take n = B.take m))⟩ := by
  refine qfits_of_body (C := cfgk 2) (c := c19) (ts := [4]) tok mixed (fun | 4 => some (inv19 A B n ca cb) | _ => none) (fun _ => none)
    Try.func19 (by kernel_rfl) (by kernel_rfl) (by kernel_rfl) (by kernel_rfl) (by kernel_rfl) rfl rfl ?_
  conv => whnf
  refine tst_in (fun h => ?_) (fun h => ?_)
  · skip
    have hne : n ≠ m := by simp at h; omega
    conv => whnf
    symm
    have : A.take n ≠ B.take m := fun e => by have := congrArg List.length e; simp at this; omega
    simp [this]
  · skip
    have heq : n = m := by simp at h; omega
    subst heq
    conv => whnf
    refine ⟨⟨[0, 1], (0 : Nat), ?_, Nat.zero_le _, by simp⟩, ?_⟩
    · conv => whnf
      repeat' (first | exact True.intro | rfl | refine And.intro ?_ ?_)
    · intro (k : Nat) hk
      obtain ⟨hk, hAB⟩ := hk
      conv => whnf
      refine tst_in (fun hlt => ?_) (fun hge => ?_)
      · skip
        have hlt : k < n := by simp at hlt; omega
        have ha := take_next A k false (by omega)
        have hb := take_next B k false (by omega)
        conv => whnf
        refine ⟨by omega, ?_⟩
        conv => whnf
        refine ⟨by simp; omega, ?_⟩
        conv => whnf
        refine ⟨by omega, ?_⟩
        conv => whnf
        refine ⟨by simp; omega, ?_⟩
        conv => whnf
        refine tst_in (fun hne => ?_) (fun he => ?_)
        · skip
          have hne : A.getD k false ≠ B.getD k false := by simpa using hne
          conv => whnf
          symm
          have : A.take n ≠ B.take n := fun e => by
            have e2 := congrArg (fun l => l.take (k + 1)) e
            simp only [List.take_take, Nat.min_eq_left (show k + 1 ≤ n by omega)] at e2
            rw [ha, hb, hAB] at e2
            simp at e2
            exact hne (by simpa using e2)
          simp [this]
        · skip
          have he : A.getD k false = B.getD k false := by simpa using he
          conv => whnf
          refine ⟨by omega, ?_⟩
          conv => whnf
          refine ⟨[0, 1], k + 1, ?_, ?_, ?_⟩
          · conv => whnf
            repeat' (first | exact True.intro | rfl | refine And.intro ?_ ?_)
          · exact ⟨by show k + 1 ≤ n; omega, by show A.take (k + 1) = B.take (k + 1); rw [ha, hb, hAB, he]⟩
          · show n - (k + 1) < n - k
            omega
      · skip
        have hge : n ≤ k := by simp at hge; omega
        conv => whnf
        have : k = n := by omega
        subst this
        simp [hAB]

/-- One slice made anew, which holds xs: how much room is behind it is open. -/
def rowOut (k : Nat) (pre : List Seg) (xs : List Bool) (f : AV → AV) : FOut := ⟨List Bool, fun _ => True, fun tl => f (.slice k 0 xs.length (xs.length + tl.length)), fun tl => pre ++ [.seg true (.bools (xs ++ tl))]⟩

/-- What is set in just one. -/
def xr (a b : List Bool) : List Bool := List.zipWith (fun x y => x != y) a b
theorem xr_len (a b : List Bool) (h : a.length = b.length) : (xr a b).length = a.length := by simp [xr, h]
theorem xr_next (A B : List Bool) (k : Nat) (ha : k < A.length) (hb : k < B.length) : xr (A.take (k + 1)) (B.take (k + 1)) = xr (A.take k) (B.take k) ++ [A.getD k false != B.getD k false] := by
  rw [take_next A k false ha, take_next B k false hb]
  unfold xr
  rw [List.zipWith_append (by simp; omega)]
  rfl
theorem xr_take_len (A B : List Bool) (k : Nat) (ha : k ≤ A.length) (hb : k ≤ B.length) : (xr (A.take k) (B.take k)).length = k := by simp [xr]; omega

def xrOk (n m : Nat) (A B : List Bool) : List Bool := if n ≤ 32768 ∧ n = m then xr (A.take n) (B.take n) else []
def erOk (n m : Nat) : Int := if n ≤ 32768 ∧ n = m then 0 else 1
def xrSpec (n m ca cb : Nat) (A B : List Bool) : FSpec := ⟨[.slice 0 0 n ca, .slice 1 0 m cb], [.seg false (.bools A), .seg false (.bools B)],
  [rowOut 2 [.dead, .dead] (xrOk n m A B) fun s => .tup [s, .int .i64 (erOk n m)]]⟩

noncomputable def c20 : Code := (Try.f20.body).getD .skip
def inv20 (A B : List Bool) (n ca cb : Nat) : LInv := ⟨Nat, fun k => ⟨anyTo 40 [.slice 0 0 n ca, .slice 1 0 n cb, .any, .any, .any, .any, .slice 2 0 n n, .any, .any, .any, .any, .any, .any, .any, .any, .any, .any, .any, .any, .any, .any, .any, .int .i64 n, .int .i64 k],
  [.seg false (.bools A), .seg false (.bools B), .seg true (.bools (xr (A.take k) (B.take k) ++ List.replicate (n - k) false))]⟩, fun k => k ≤ n, fun k => n - k⟩

theorem set_fill (l : List Bool) (k r : Nat) (x : Bool) (hl : l.length = k) : (l ++ List.replicate (r + 1) false).set k x = l ++ [x] ++ List.replicate r false := by
  subst hl
  simp [List.replicate_succ]

set_option maxRecDepth 100000 in
theorem Xor_f (A B : List Bool) (n m ca cb : Nat) (hn : n ≤ A.length) (hm : m ≤ B.length) : Fits Try.prog 20 (xrSpec n m ca cb A B) := by
  refine fits_of_body (C := cfgk 2) (c := c20) (ts := [4, 5]) tok mixed (fun | 5 => some (inv20 A B n ca cb) | _ => none) (fun _ => none)
    Try.func20 (by kernel_rfl) (by kernel_rfl) (by kernel_rfl) (by kernel_rfl) rfl ?_
  conv => whnf
  refine ⟨_, [0], isRow_q n ca, ?_⟩
  conv => whnf
  refine ⟨⟨?_, True.intro⟩, ⟨True.intro, True.intro⟩, ?_⟩
  · conv => whnf
    repeat' (first | exact True.intro | rfl | refine And.intro ?_ ?_)
  conv => whnf
  have no : ¬ (n ≤ 32768 ∧ n = m) → xrOk n m A B = [] ∧ erOk n m = 1 := fun h => by simp only [xrOk, erOk, if_neg h, and_self]
  have yes : (n ≤ 32768 ∧ n = m) → xrOk n m A B = xr (A.take n) (B.take n) ∧ erOk n m = 0 := fun h => by simp only [xrOk, erOk, if_pos h, and_self]
  refine tst_in (fun h => ?_) (fun h => ?_)
  · skip
    have h : ¬ (n : Int) ≤ 32768 := by simpa using h
    obtain ⟨e1, e2⟩ := no (by omega)
    conv => whnf
    refine .inl ⟨([] : List Bool), [0, 1, 9], ?_⟩
    conv => whnf
    rw [e1, e2]
    repeat' (first | exact True.intro | rfl | refine And.intro ?_ ?_)
  · skip
    have h : (n : Int) ≤ 32768 := by simpa using h
    conv => whnf
    refine tst_in (fun h2 => ?_) (fun h2 => ?_)
    · skip
      have h2 : ¬ n = m := by simp at h2; omega
      obtain ⟨e1, e2⟩ := no (by omega)
      conv => whnf
      refine .inl ⟨([] : List Bool), [0, 1, 9], ?_⟩
      conv => whnf
      rw [e1, e2]
      repeat' (first | exact True.intro | rfl | refine And.intro ?_ ?_)
    · skip
      have h2 : n = m := by simp at h2; omega
      subst h2
      obtain ⟨e1, e2⟩ := yes ⟨by omega, rfl⟩
      conv => whnf
      refine ⟨⟨by omega, by omega, by show (1 : Int) * n ≤ 281474976710656; omega, by omega⟩, ?_⟩
      conv => whnf
      refine ⟨⟨[0, 1, 2], (0 : Nat), ?_, Nat.zero_le _⟩, ?_⟩
      · conv => whnf
        repeat' (first | exact True.intro | rfl | refine And.intro ?_ ?_)
      · intro (k : Nat) (hk : k ≤ n)
        conv => whnf
        refine tst_in (fun hlt => ?_) (fun hge => ?_)
        · skip
          have hlt : k < n := by simp at hlt; omega
          have hx := xr_take_len A B k (by omega) (by omega)
          have hxn := xr_next A B k (by omega) (by omega)
          conv => whnf
          refine ⟨by omega, ?_⟩
          conv => whnf
          refine ⟨by simp; omega, ?_⟩
          conv => whnf
          refine ⟨by omega, ?_⟩
          conv => whnf
          refine ⟨by simp; omega, ?_⟩
          conv => whnf
          refine ⟨by omega, ?_⟩
          conv => whnf
          refine ⟨by simp [hx]; omega, ?_⟩
          conv => whnf
          refine ⟨by omega, ?_⟩
          conv => whnf
          refine ⟨[0, 1, 2], (k + 1 : Nat), ?_, ?_, ?_⟩
          · conv => whnf
            repeat' (first | exact True.intro | rfl | refine And.intro ?_ ?_)
            conv => whnf
            rw [Nat.zero_add, Int.toNat_natCast, hxn, show n - k = (n - (k + 1)) + 1 by omega, set_fill _ k _ _ hx]
          · show k + 1 ≤ n
            omega
          · show n - (k + 1) < n - k
            omega
        · skip
          have hge : n ≤ k := by simp at hge; omega
          have : k = n := by omega
          subst this
          conv => whnf
          refine .inl ⟨([] : List Bool), [0, 1, 2], ?_⟩
          conv => whnf
          rw [e1, e2]
          repeat' (first | exact True.intro | rfl | refine And.intro ?_ ?_)
          · exact xr_take_len A B k (by omega) (by omega)
          · exact xr_take_len A B k (by omega) (by omega)
          · conv => whnf
            simp

def wtSpec (n m ca cb : Nat) (A B : List Bool) : FSpec := ⟨[.slice 0 0 n ca, .slice 1 0 m cb], [.seg false (.bools A), .seg false (.bools B)],
  [⟨Unit, fun _ => True, fun _ => .tup [.int .i64 (wt (xrOk n m A B)), .int .i64 (erOk n m)], fun _ => [.dead, .dead]⟩]⟩

theorem xrOk_len (n m : Nat) (A B : List Bool) : (xrOk n m A B).length ≤ 32768 := by
  unfold xrOk; split
  · simp [xr]; omega
  · simp

noncomputable def c38 : Code := (Try.f38.body).getD .skip
theorem Distance_f (A B : List Bool) (n m ca cb : Nat) (hn : n ≤ A.length) (hm : m ≤ B.length) : Fits Try.prog 38 (wtSpec n m ca cb A B) := by
  refine fits_of_body (C := cfgk 2) (c := c38) (ts := [4, 5]) tok mixed (fun _ => none) (fun _ => none)
    Try.func38 (by kernel_rfl) (by kernel_rfl) (by kernel_rfl) (by kernel_rfl) rfl ?_
  have hl := xrOk_len n m A B
  conv => whnf
  refine ⟨_, [0, 1], Xor_f A B n m ca cb hn hm, ?_⟩
  conv => whnf
  refine ⟨?_, ?_, ?_⟩
  · conv => whnf
    repeat' (first | exact True.intro | rfl | refine And.intro ?_ ?_)
  · conv => whnf
    repeat' (first | exact True.intro | rfl | refine And.intro ?_ ?_)
  conv => whnf
  refine ⟨?_, True.intro⟩
  intro (tl : List Bool) _
  conv => whnf
  refine ⟨_, [2], Weight_q (xrOk n m A B ++ tl) (xrOk n m A B).length ((xrOk n m A B).length + tl.length) (by simp) (by omega), ?_⟩
  conv => whnf
  refine ⟨?_, ?_, ?_⟩
  · conv => whnf
    repeat' (first | exact True.intro | rfl | refine And.intro ?_ ?_)
  · conv => whnf
    repeat' (first | exact True.intro | rfl | refine And.intro ?_ ?_)
  conv => whnf
  refine .inl ⟨(), [0, 1], ?_⟩
  conv => whnf
  repeat' (first | exact True.intro | rfl | refine And.intro ?_ ?_)
  · show ((wt (xrOk n m A B) : Nat) : Int) = (wt ((xrOk n m A B ++ tl).take (xrOk n m A B).length) : Nat)
    rw [List.take_left]

noncomputable def c41 : Code := (Try.f41.body).getD .skip
def inv41 (A : List Bool) (n cap : Nat) : LInv := ⟨Nat, fun k => ⟨anyTo 18 [.slice 0 0 n cap, .any, .any, .int .i64 (wt (A.take k)), .int .i64 k], [.seg false (.bools A)]⟩, fun k => k ≤ n, fun k => n - k⟩
theorem refWeight_q (A : List Bool) (n cap : Nat) (hn : n ≤ A.length) (hm : n ≤ 4611686018427387904) : QFits Try.prog 41 ⟨[.slice 0 0 n cap], [.seg false (.bools A)], .int .i64 (wt (A.take n))⟩ := by
  refine qfits_of_body (C := cfgk 1) (c := c41) (ts := [2]) tok mixed (fun | 3 => some (inv41 A n cap) | _ => none) (fun _ => none)
    Try.func41 (by kernel_rfl) (by kernel_rfl) (by kernel_rfl) (by kernel_rfl) (by kernel_rfl) rfl rfl ?_
  conv => whnf
  refine ⟨⟨[0], (0 : Nat), ?_, Nat.zero_le _⟩, ?_⟩
  · conv => whnf
    repeat' (first | exact True.intro | rfl | refine And.intro ?_ ?_)
  · intro (k : Nat) (hk : k ≤ n)
    have hw := wt_take_le A k
    conv => whnf
    refine tst_in (fun hlt => ?_) (fun hge => ?_)
    · skip
      have hlt : k < n := by simp at hlt; omega
      have hnx := wt_next A k (by omega)
      conv => whnf
      refine ⟨by omega, ?_⟩
      conv => whnf
      refine ⟨by simp; omega, ?_⟩
      conv => whnf
      refine tst_in (fun hb => ?_) (fun hb => ?_)
      · skip
        have hb : A.getD k false = true := by simpa using hb
        rw [hb] at hnx
        conv => whnf
        refine ⟨by omega, ?_⟩
        conv => whnf
        refine ⟨by omega, ?_⟩
        conv => whnf
        refine ⟨[0], (k + 1 : Nat), ?_, ?_, ?_⟩
        · conv => whnf
          repeat' (first | exact True.intro | rfl | refine And.intro ?_ ?_)
          show ((wt (A.take (k + 1)) : Nat) : Int) = (wt (A.take k) : Int) + 1
          rw [hnx]; rfl
        · show k + 1 ≤ n
          omega
        · show n - (k + 1) < n - k
          omega
      · skip
        have hb : A.getD k false = false := by simpa using hb
        rw [hb] at hnx
        conv => whnf
        refine ⟨by omega, ?_⟩
        conv => whnf
        refine ⟨[0], (k + 1 : Nat), ?_, ?_, ?_⟩
        · conv => whnf
          repeat' (first | exact True.intro | rfl | refine And.intro ?_ ?_)
          show ((wt (A.take (k + 1)) : Nat) : Int) = (wt (A.take k) : Int)
          rw [hnx]; rfl
        · show k + 1 ≤ n
          omega
        · show n - (k + 1) < n - k
          omega
    · skip
      have hge : n ≤ k := by simp at hge; omega
      conv => whnf
      have : k = n := by omega
      rw [this]

def cfgp (k r : Nat) (p : List Nat) : Cfg := { T := tys, sgn := fun _ => false, wr := fun _ => false, k := k, q := qf, plan := fun i => match Nat.beq i r with | true => some (.lin p .done) | false => none }
noncomputable def c37 : Code := (Try.f37.body).getD .skip
def inv37 (A B : List Bool) (n ca cb : Nat) : LInv := ⟨Nat × List Bool, fun p => ⟨anyTo 42 [.slice 0 0 n ca, .slice 1 0 n cb, .any, .any, .any, .any, .slice 2 0 p.1 (p.1 + p.2.length), .int .i64 p.1],
  [.seg false (.bools A), .seg false (.bools B), .seg true (.bools (xr (A.take p.1) (B.take p.1) ++ p.2))]⟩, fun p => p.1 ≤ n, fun p => n - p.1⟩

set_option maxRecDepth 100000 in
theorem refXor_f (A B : List Bool) (n m ca cb : Nat) (hn : n ≤ A.length) (hm : m ≤ B.length) : Fits Try.prog 37 (xrSpec n m ca cb A B) := by
  refine fits_of_body (C := cfgp 2 7 [0, 1, 2, 3, 4, 5, 6, 7, 8, 9, 10, 11, 12]) (c := c37) (ts := [4, 5]) tok mixed (fun | 5 => some (inv37 A B n ca cb) | _ => none) (fun _ => none)
    Try.func37 (by kernel_rfl) (by kernel_rfl) (by kernel_rfl) (by kernel_rfl) rfl ?_
  have no : ¬ (n ≤ 32768 ∧ n = m) → xrOk n m A B = [] ∧ erOk n m = 1 := fun h => by simp only [xrOk, erOk, if_neg h, and_self]
  have yes : (n ≤ 32768 ∧ n = m) → xrOk n m A B = xr (A.take n) (B.take n) ∧ erOk n m = 0 := fun h => by simp only [xrOk, erOk, if_pos h, and_self]
  conv => whnf
  refine tst_in (fun h => ?_) (fun h => ?_)
  · skip
    have h : (32768 : Int) < n := by simpa using h
    obtain ⟨e1, e2⟩ := no (by omega)
    conv => whnf
    refine .inl ⟨([] : List Bool), [0, 1, 9], ?_⟩
    conv => whnf
    rw [e1, e2]
    repeat' (first | exact True.intro | rfl | refine And.intro ?_ ?_)
  · skip
    have h : ¬ (32768 : Int) < n := by simpa using h
    conv => whnf
    refine tst_in (fun h1 => ?_) (fun h1 => ?_)
    · skip
      have h1 : (32768 : Int) < m := by simpa using h1
      obtain ⟨e1, e2⟩ := no (by omega)
      conv => whnf
      refine .inl ⟨([] : List Bool), [0, 1, 9], ?_⟩
      conv => whnf
      rw [e1, e2]
      repeat' (first | exact True.intro | rfl | refine And.intro ?_ ?_)
    · skip
      conv => whnf
      refine tst_in (fun h2 => ?_) (fun h2 => ?_)
      · skip
        have h2 : ¬ n = m := by simp at h2; omega
        obtain ⟨e1, e2⟩ := no (by omega)
        conv => whnf
        refine .inl ⟨([] : List Bool), [0, 1, 9], ?_⟩
        conv => whnf
        rw [e1, e2]
        repeat' (first | exact True.intro | rfl | refine And.intro ?_ ?_)
      · skip
        have h2 : n = m := by simp at h2; omega
        subst h2
        obtain ⟨e1, e2⟩ := yes ⟨by omega, rfl⟩
        conv => whnf
        refine ⟨⟨[0, 1, 9], ((0, []) : Nat × List Bool), ?_, Nat.zero_le _⟩, ?_⟩
        · conv => whnf
          repeat' (first | exact True.intro | rfl | refine And.intro ?_ ?_)
        · rintro ⟨k, tl⟩ hk
          have hk : k ≤ n := hk
          conv => whnf
          refine tst_in (fun hlt => ?_) (fun hge => ?_)
          · skip
            have hlt : k < n := by simp at hlt; omega
            have hx := xr_take_len A B k (by omega) (by omega)
            have hxn := xr_next A B k (by omega) (by omega)
            conv => whnf
            refine ⟨by omega, ?_⟩
            conv => whnf
            refine ⟨by simp; omega, ?_⟩
            conv => whnf
            refine ⟨by omega, ?_⟩
            conv => whnf
            refine ⟨by simp; omega, ?_⟩
            conv => whnf
            refine ⟨by show 0 + 1 ≤ 1; omega, ?_⟩
            conv => whnf
            refine ⟨by show 0 + (k + tl.length) ≤ (xr (A.take k) (B.take k) ++ tl).length; simp [hx], ?_⟩
            conv => whnf
            refine ⟨⟨by omega, by show (k + 1) * 1 ≤ 140737488355328; omega⟩, ?_⟩
            conv => whnf
            intro tl2
            conv => whnf
            refine ⟨by omega, ?_⟩
            conv => whnf
            refine ⟨[0, 1, 4], ((k + 1, tl2) : Nat × List Bool), ?_, ?_, ?_⟩
            · conv => whnf
              repeat' (first | exact True.intro | rfl | refine And.intro ?_ ?_)
              conv => whnf
              show xr (A.take (k + 1)) (B.take (k + 1)) ++ tl2 = (((xr (A.take k) (B.take k) ++ tl).drop 0).take k ++ (([A.getD (0 + k) false != B.getD (0 + k) false]).drop 0).take 1) ++ tl2
              rw [hxn, Nat.zero_add, List.drop_zero, List.drop_zero, List.take_left' hx]
              rfl
            · show k + 1 ≤ n
              omega
            · show n - (k + 1) < n - k
              omega
          · skip
            have hge : n ≤ k := by simp at hge; omega
            have : k = n := by omega
            subst this
            conv => whnf
            refine .inl ⟨tl, [0, 1, 2], ?_⟩
            conv => whnf
            rw [e1, e2]
            repeat' (first | exact True.intro | rfl | refine And.intro ?_ ?_)
            · exact xr_take_len A B k (by omega) (by omega)
            · show (xr (A.take k) (B.take k)).length + tl.length = k + tl.length
              rw [xr_take_len A B k (by omega) (by omega)]

def marks : List Bool := [true, false, true, true]
def lentSpec (A : List Bool) (n ca : Nat) : FSpec := ⟨[.slice 0 0 n ca], [.seg false (.bools A)],
  [⟨List Bool, fun _ => True, fun tl => .tup [.slice 1 0 n (n + 4 + tl.length), .slice 1 0 (n + 4 : Nat) (n + 4 + tl.length)], fun tl => [.dead, .seg true (.bools (A.take n ++ marks ++ tl))]⟩]⟩
noncomputable def c26 : Code := (Try.f26.body).getD .skip
set_option maxRecDepth 100000 in
theorem lent_f (A : List Bool) (n ca : Nat) (hn : n ≤ A.length) (hN : n ≤ 140737488351232) : Fits Try.prog 26 (lentSpec A n ca) := by
  refine fits_of_body (C := cfgk 1) (c := c26) (ts := [2, 3]) tok mixed (fun _ => none) (fun _ => none)
    Try.func26 (by kernel_rfl) (by kernel_rfl) (by kernel_rfl) (by kernel_rfl) rfl ?_
  conv => whnf
  repeat (refine And.intro ?_ ?_; (focus (first | omega | ((conv => whnf); omega) | (simp [mulSz, Cont.len]; done) | (simp [mulSz, Cont.len]; omega))); conv => whnf)
  intro (tl : List Bool)
  conv => whnf
  repeat (refine And.intro ?_ ?_; (focus (first | omega | ((conv => whnf); omega) | (simp [mulSz, Cont.len]; done) | (simp [mulSz, Cont.len]; omega))); conv => whnf)
  intro (tl2 : List Bool)
  conv => whnf
  repeat (refine And.intro ?_ ?_; (focus (first | omega | ((conv => whnf); omega) | (simp [mulSz, Cont.len]; done) | (simp [mulSz, Cont.len]; omega))); conv => whnf)
  refine .inl ⟨tl2, [0, 4], ?_⟩
  conv => whnf
  repeat' (first | exact True.intro | rfl | refine And.intro ?_ ?_ | omega)
  all_goals (conv => whnf)
  all_goals (try (first | rfl | omega | (simp [mulSz, marks, List.take_append_of_le_length, hn]; done) | (simp [mulSz, marks, List.take_append_of_le_length, hn]; omega)))

def turnSpec (A : List Bool) (n ca : Nat) : FSpec := ⟨[.slice 0 0 n ca], [.seg true (.bools A)],
  [⟨Unit, fun _ => True, fun _ => .tup [], fun _ => [.seg true (.bools ((A.take n).map (!·) ++ A.drop n))]⟩]⟩
def inv33 (A : List Bool) (n ca : Nat) : LInv := ⟨Nat, fun k => ⟨anyTo 17 [.slice 0 0 n ca, .any, .int .i64 k], [.seg true (.bools ((A.take k).map (!·) ++ A.drop k))]⟩, fun k => k ≤ n, fun k => n - k⟩
noncomputable def c33 : Code := (Try.f33.body).getD .skip
theorem turn_next (A : List Bool) (k : Nat) (h : k < A.length) : ((A.take k).map (!·) ++ A.drop k).set k (!A.getD k false) = (A.take (k + 1)).map (!·) ++ A.drop (k + 1) := by
  have hl : ((A.take k).map (!·)).length = k := by simp; omega
  rw [take_next A k false h, List.set_append_right _ _ (by omega), hl, Nat.sub_self, List.drop_eq_getElem_cons h, List.set_cons_zero, List.map_append, List.append_assoc]
  rfl
theorem turn_get (A : List Bool) (k : Nat) (h : k < A.length) : ((A.take k).map (!·) ++ A.drop k).getD k false = A.getD k false := by
  have hl : ((A.take k).map (!·)).length = k := by simp; omega
  simp only [List.getD, List.getElem?_append_right (show ((A.take k).map (!·)).length ≤ k by omega), hl, Nat.sub_self, List.drop_eq_getElem_cons h]
  simp [h]
set_option maxRecDepth 100000 in
theorem turn_f (A : List Bool) (n ca : Nat) (hn : n ≤ A.length) (hN : n ≤ 4611686018427387904) : Fits Try.prog 33 (turnSpec A n ca) := by
  refine fits_of_body (C := cfgk 1) (c := c33) (ts := []) tok mixed (fun | 1 => some (inv33 A n ca) | _ => none) (fun _ => none)
    Try.func33 (by kernel_rfl) (by kernel_rfl) (by kernel_rfl) (by kernel_rfl) rfl ?_
  conv => whnf
  refine ⟨⟨[0], (0 : Nat), ?_, Nat.zero_le _⟩, ?_⟩
  · conv => whnf
    repeat' (first | exact True.intro | rfl | refine And.intro ?_ ?_ | omega)
    all_goals (conv => whnf)
    all_goals (try (first | rfl | omega | (simp; done) | (simp; omega)))
  · intro (k : Nat) (hk : k ≤ n)
    conv => whnf
    refine tst_in (fun hlt => ?_) (fun hge => ?_)
    · have hlt : k < n := by simp at hlt; omega
      conv => whnf
      repeat (refine And.intro ?_ ?_; (focus (first | omega | ((conv => whnf); omega) | (simp [mulSz, Cont.len]; done) | (simp [mulSz, Cont.len]; omega))); conv => whnf)
      refine ⟨[0], (k + 1 : Nat), ?_, (by omega : k + 1 ≤ n), (by omega : n - (k + 1) < n - k)⟩
      conv => whnf
      repeat' (first | exact True.intro | rfl | refine And.intro ?_ ?_ | omega)
      all_goals (conv => whnf)
      all_goals (try (first | rfl | omega | (simp; done) | (simp; omega)))
      conv => whnf
      rw [Nat.zero_add, Int.toNat_natCast, turn_get A k (by omega), turn_next A k (by omega)]
    · have hge : n ≤ k := by simp at hge; omega
      have : k = n := by omega
      subst this
      conv => whnf
      refine .inl ⟨(), [0], ?_⟩
      conv => whnf
      repeat' (first | exact True.intro | rfl | refine And.intro ?_ ?_ | omega)
      all_goals (conv => whnf)
      all_goals (try (first | rfl | omega | (simp; done) | (simp; omega)))

noncomputable def c32 : Code := (Try.f32.body).getD .skip
set_option maxRecDepth 100000 in
theorem unhurt_q (A tl : List Bool) (n ca c : Nat) (hn : n ≤ A.length) (hN : n ≤ 140737488351232) (hc : n + 4 ≤ c) : QFits Try.prog 32 ⟨[.slice 0 0 (n + 4 : Nat) c, .slice 1 0 n ca], [.seg true (.bools (A.take n ++ marks ++ tl)), .seg false (.bools A)], .bool true⟩ := by
  refine qfits_of_body (C := cfgk 2) (c := c32) (ts := [4]) tok mixed (fun _ => none) (fun _ => none)
    Try.func32 (by kernel_rfl) (by kernel_rfl) (by kernel_rfl) (by kernel_rfl) (by kernel_rfl) rfl rfl ?_
  have hl : (A.take n).length = n := by simp; omega
  have e : (A.take n ++ marks ++ tl).take n = A.take n := by rw [List.append_assoc, List.take_left' hl]
  have g : ∀ k b, marks[k]? = some b → (A.take n ++ marks ++ tl).getD (n + k) false = b := fun k b h => by
    have hk : k < marks.length := (List.getElem?_eq_some_iff.1 h).1
    rw [List.append_assoc, List.getD, List.getElem?_append_right (by omega), hl, Nat.add_sub_cancel_left, List.getElem?_append_left hk, h]
    rfl
  have g0 : (A.take n ++ marks ++ tl).getD (0 + ((n : Nat) : Int).toNat) false = true := by rw [Nat.zero_add, Int.toNat_natCast]; exact g 0 _ rfl
  have g1 : (A.take n ++ marks ++ tl).getD (0 + (((n : Nat) : Int) + 1).toNat) false = false := by rw [Nat.zero_add, show (((n : Nat) : Int) + 1).toNat = n + 1 by omega]; exact g 1 _ rfl
  have g2 : (A.take n ++ marks ++ tl).getD (0 + (((n : Nat) : Int) + 2).toNat) false = true := by rw [Nat.zero_add, show (((n : Nat) : Int) + 2).toNat = n + 2 by omega]; exact g 2 _ rfl
  have g3 : (A.take n ++ marks ++ tl).getD (0 + (((n : Nat) : Int) + 3).toNat) false = true := by rw [Nat.zero_add, show (((n : Nat) : Int) + 3).toNat = n + 3 by omega]; exact g 3 _ rfl
  have hlen : (A.take n ++ marks ++ tl).length = n + 4 + tl.length := by simp [marks]; omega
  conv => whnf
  repeat (refine And.intro ?_ ?_; (focus (first | omega | ((conv => whnf); omega) | (simp [mulSz, Cont.len]; done) | (simp [mulSz, Cont.len]; omega))); conv => whnf)
  refine tst_in (fun _ => ?_) (fun h_ => False.elim (by simp at h_ <;> omega))
  conv => whnf
  conv => whnf
  repeat (refine And.intro ?_ ?_; (focus (first | omega | ((conv => whnf); omega) | (simp [mulSz, Cont.len]; done) | (simp [mulSz, Cont.len]; omega))); conv => whnf)
  refine ⟨_, [0, 1], same_q (A.take n ++ marks ++ tl) A n n c ca (by omega) hn (by omega), ?_⟩
  conv => whnf
  refine ⟨?_, ?_, ?_⟩
  · conv => whnf
    repeat' (first | exact True.intro | rfl | refine And.intro ?_ ?_ | omega)
    all_goals (conv => whnf)
    all_goals (try (first | rfl | omega | (simp; done)))
  · conv => whnf
    repeat' (first | exact True.intro | rfl | refine And.intro ?_ ?_ | omega)
    all_goals (conv => whnf)
    all_goals (try (first | rfl | omega | (simp; done)))
  conv => whnf
  rw [e]
  conv => whnf
  repeat (refine And.intro ?_ ?_; (focus (first | omega | ((conv => whnf); omega) | (simp [mulSz, Cont.len]; done) | (simp [mulSz, Cont.len]; omega))); conv => whnf)
  refine tst_in (fun _ => ?_) (fun h_ => False.elim (by simp at h_ <;> omega))
  conv => whnf
  conv => whnf
  repeat (refine And.intro ?_ ?_; (focus (first | omega | ((conv => whnf); omega) | (simp [mulSz, Cont.len, hlen]; done) | (simp [mulSz, Cont.len, hlen]; omega))); conv => whnf)
  refine tst_in (fun _ => ?_) (fun h_ => absurd h_ (by rw [g0]; decide))
  conv => whnf
  conv => whnf
  repeat (refine And.intro ?_ ?_; (focus (first | omega | ((conv => whnf); omega) | (simp [mulSz, Cont.len, hlen]; done) | (simp [mulSz, Cont.len, hlen]; omega))); conv => whnf)
  refine tst_in (fun _ => ?_) (fun h_ => absurd h_ (by rw [g1]; decide))
  conv => whnf
  conv => whnf
  repeat (refine And.intro ?_ ?_; (focus (first | omega | ((conv => whnf); omega) | (simp [mulSz, Cont.len, hlen]; done) | (simp [mulSz, Cont.len, hlen]; omega))); conv => whnf)
  refine tst_in (fun _ => ?_) (fun h_ => absurd h_ (by rw [g2]; decide))
  conv => whnf
  conv => whnf
  repeat (refine And.intro ?_ ?_; (focus (first | omega | ((conv => whnf); omega) | (simp [mulSz, Cont.len, hlen]; done) | (simp [mulSz, Cont.len, hlen]; omega))); conv => whnf)
  rw [g3]

noncomputable def c39 : Code := (Try.f39.body).getD .skip
theorem refDistance_f (A B : List Bool) (n m ca cb : Nat) (hn : n ≤ A.length) (hm : m ≤ B.length) : Fits Try.prog 39 (wtSpec n m ca cb A B) := by
  refine fits_of_body (C := cfgk 2) (c := c39) (ts := [4, 5]) tok mixed (fun _ => none) (fun _ => none)
    Try.func39 (by kernel_rfl) (by kernel_rfl) (by kernel_rfl) (by kernel_rfl) rfl ?_
  have hl := xrOk_len n m A B
  conv => whnf
  refine ⟨_, [0, 1], refXor_f A B n m ca cb hn hm, ?_⟩
  conv => whnf
  refine ⟨?_, ?_, ?_⟩
  · conv => whnf
    repeat' (first | exact True.intro | rfl | refine And.intro ?_ ?_ | omega)
    all_goals (conv => whnf)
    all_goals (try (first | rfl | omega | (simp; done)))
  · conv => whnf
    repeat' (first | exact True.intro | rfl | refine And.intro ?_ ?_ | omega)
    all_goals (conv => whnf)
    all_goals (try (first | rfl | omega | (simp; done)))
  conv => whnf
  refine ⟨?_, True.intro⟩
  intro (tl : List Bool) _
  conv => whnf
  refine ⟨_, [2], refWeight_q (xrOk n m A B ++ tl) (xrOk n m A B).length ((xrOk n m A B).length + tl.length) (by simp) (by omega), ?_⟩
  conv => whnf
  refine ⟨?_, ?_, ?_⟩
  · conv => whnf
    repeat' (first | exact True.intro | rfl | refine And.intro ?_ ?_ | omega)
    all_goals (conv => whnf)
    all_goals (try (first | rfl | omega | (simp; done)))
  · conv => whnf
    repeat' (first | exact True.intro | rfl | refine And.intro ?_ ?_ | omega)
    all_goals (conv => whnf)
    all_goals (try (first | rfl | omega | (simp; done)))
  conv => whnf
  refine .inl ⟨(), [0, 1], ?_⟩
  conv => whnf
  repeat' (first | exact True.intro | rfl | refine And.intro ?_ ?_ | omega)
  all_goals (conv => whnf)
  all_goals (try (first | rfl | omega | (simp; done) | (simp; omega)))

def padLen (n m : Nat) : Nat := (n + m - 1) / m * m
def padOk (n : Nat) (m : Int) : Bool := decide (n ≤ 32768 ∧ 1 ≤ m ∧ m ≤ 4096 ∧ padLen n m.toNat ≤ 32768)
def padRow (A : List Bool) (n : Nat) (m : Int) : List Bool := if padOk n m then A.take n ++ List.replicate (padLen n m.toNat - n) false else []
def padErr (n : Nat) (m : Int) : Int := if padOk n m then 0 else 1
def padSpec (A : List Bool) (n ca : Nat) (m : Int) : FSpec := ⟨[.slice 0 0 n ca, .int .i64 m], [.seg false (.bools A)], [rowOut 1 [.dead] (padRow A n m) fun s => .tup [s, .int .i64 (padErr n m)]]⟩

theorem pad_ge (n m : Nat) (h : 1 ≤ m) : n ≤ padLen n m := by
  unfold padLen
  have := Nat.div_add_mod (n + m - 1) m
  have := Nat.mod_lt (n + m - 1) (show 0 < m by omega)
  rw [Nat.mul_comm]
  omega

noncomputable def c21 : Code := (Try.f21.body).getD .skip
set_option maxRecDepth 100000 in
theorem Pad_f (A : List Bool) (n ca : Nat) (m : Int) (hn : n ≤ A.length) : Fits Try.prog 21 (padSpec A n ca m) := by
  refine fits_of_body (C := cfgk 1) (c := c21) (ts := [4, 5]) tok mixed (fun _ => none) (fun _ => none)
    Try.func21 (by kernel_rfl) (by kernel_rfl) (by kernel_rfl) (by kernel_rfl) rfl ?_
  have no : ¬ (n ≤ 32768 ∧ 1 ≤ m ∧ m ≤ 4096 ∧ padLen n m.toNat ≤ 32768) → padRow A n m = [] ∧ padErr n m = 1 := fun h => by simp [padRow, padErr, padOk, h]
  have yes : (n ≤ 32768 ∧ 1 ≤ m ∧ m ≤ 4096 ∧ padLen n m.toNat ≤ 32768) → padRow A n m = A.take n ++ List.replicate (padLen n m.toNat - n) false ∧ padErr n m = 0 := fun h => by simp [padRow, padErr, padOk, h]
  conv => whnf
  refine ⟨_, [0], isRow_q n ca, ?_⟩
  conv => whnf
  refine ⟨?_, ?_, ?_⟩
  · conv => whnf
    repeat' (first | exact True.intro | rfl | refine And.intro ?_ ?_ | omega)
    all_goals (conv => whnf)
    all_goals (try (first | rfl | omega | (simp; done)))
  · conv => whnf
    repeat' (first | exact True.intro | rfl | refine And.intro ?_ ?_ | omega)
    all_goals (conv => whnf)
    all_goals (try (first | rfl | omega | (simp; done)))
  conv => whnf
  refine tst_in (fun h => ?_) (fun h => ?_)
  · have h : ¬ (n : Int) ≤ 32768 := by simpa using h
    obtain ⟨e1, e2⟩ := no (by omega)
    conv => whnf
    repeat (refine And.intro ?_ ?_; (focus (first | omega | ((conv => whnf); omega) | (simp [mulSz, Cont.len]; done) | (simp [mulSz, Cont.len]; omega))); conv => whnf)
    refine .inl ⟨([] : List Bool), [0, 9], ?_⟩
    conv => whnf
    rw [e1, e2]
    conv => whnf
    repeat' (first | exact True.intro | rfl | refine And.intro ?_ ?_ | omega)
    all_goals (conv => whnf)
    all_goals (try (first | rfl | omega | (simp; done) | (simp; omega)))
  · have h : (n : Int) ≤ 32768 := by simpa using h
    conv => whnf
    refine tst_in (fun h1 => ?_) (fun h1 => ?_)
    · have h1 : m < 1 := by simpa using h1
      obtain ⟨e1, e2⟩ := no (by omega)
      conv => whnf
      repeat (refine And.intro ?_ ?_; (focus (first | omega | ((conv => whnf); omega) | (simp [mulSz, Cont.len]; done) | (simp [mulSz, Cont.len]; omega))); conv => whnf)
      refine .inl ⟨([] : List Bool), [0, 9], ?_⟩
      conv => whnf
      rw [e1, e2]
      conv => whnf
      repeat' (first | exact True.intro | rfl | refine And.intro ?_ ?_ | omega)
      all_goals (conv => whnf)
      all_goals (try (first | rfl | omega | (simp; done) | (simp; omega)))
    · have h1 : ¬ m < 1 := by simpa using h1
      conv => whnf
      refine tst_in (fun h2 => ?_) (fun h2 => ?_)
      · have h2 : 4096 < m := by simpa using h2
        obtain ⟨e1, e2⟩ := no (by omega)
        conv => whnf
        repeat (refine And.intro ?_ ?_; (focus (first | omega | ((conv => whnf); omega) | (simp [mulSz, Cont.len]; done) | (simp [mulSz, Cont.len]; omega))); conv => whnf)
        refine .inl ⟨([] : List Bool), [0, 9], ?_⟩
        conv => whnf
        rw [e1, e2]
        conv => whnf
        repeat' (first | exact True.intro | rfl | refine And.intro ?_ ?_ | omega)
        all_goals (conv => whnf)
        all_goals (try (first | rfl | omega | (simp; done) | (simp; omega)))
      · have h2 : ¬ 4096 < m := by simpa using h2
        obtain ⟨k, rfl⟩ : ∃ k : Nat, m = k := ⟨m.toNat, by omega⟩
        have hp := pad_ge n k (by omega)
        have hk : (((n : Int) + k - 1) / k * k : Int) = (padLen n k : Nat) := by
          unfold padLen
          rw [Int.natCast_mul, Int.natCast_ediv]
          congr 2
          omega
        have hb : padLen n k ≤ n + k := by
          unfold padLen
          have := Nat.div_mul_le_self (n + k - 1) k
          omega
        rw [Int.toNat_natCast] at no yes
        conv => whnf
        repeat (refine And.intro ?_ ?_; (focus (first | omega | ((conv => whnf); omega) | (simp [mulSz, Cont.len, hk]; done) | (simp [mulSz, Cont.len, hk]; omega))); conv => whnf)
        rw [hk]
        refine tst_in (fun h3 => ?_) (fun h3 => ?_)
        · have h3 : ¬ padLen n k ≤ 32768 := by simp at h3; omega
          obtain ⟨e1, e2⟩ := no (by omega)
          conv => whnf
          repeat (refine And.intro ?_ ?_; (focus (first | omega | ((conv => whnf); omega) | (simp [mulSz, Cont.len]; done) | (simp [mulSz, Cont.len]; omega))); conv => whnf)
          refine .inl ⟨([] : List Bool), [0, 9], ?_⟩
          conv => whnf
          rw [e1, e2]
          conv => whnf
          repeat' (first | exact True.intro | rfl | refine And.intro ?_ ?_ | omega)
          all_goals (conv => whnf)
          all_goals (try (first | rfl | omega | (simp; done) | (simp; omega)))
        · have h3 : padLen n k ≤ 32768 := by simp at h3; omega
          obtain ⟨e1, e2⟩ := yes (by omega)
          conv => whnf
          repeat (refine And.intro ?_ ?_; (focus (first | omega | ((conv => whnf); omega) | (simp [mulSz, Cont.len]; done) | (simp [mulSz, Cont.len]; omega))); conv => whnf)
          refine .inl ⟨([] : List Bool), [0, 1], ?_⟩
          conv => whnf
          rw [e1, e2]
          conv => whnf
          repeat' (first | exact True.intro | rfl | refine And.intro ?_ ?_ | omega)
          all_goals (conv => whnf)
          all_goals (try (first | rfl | omega | (simp [hn, Nat.min_eq_left hp]; done) | (simp [hn, Nat.min_eq_left hp]; omega)))

/-- How far the row has come. -/
def padInv (A : List Bool) (n ca : Nat) (k : Nat) : LInv := ⟨Nat × List Bool, fun p => ⟨anyTo 32 [.slice 0 0 n ca, .int .i64 k, .any, .any, .any, .any, .slice 1 0 p.1 (p.1 + p.2.length)],
  [.seg false (.bools A), .seg true (.bools (A.take n ++ List.replicate (p.1 - n) false ++ p.2))]⟩, fun p => n ≤ p.1 ∧ p.1 ≤ padLen n k, fun p => padLen n k - p.1⟩
theorem pad_stop (n k i : Nat) (h0 : 1 ≤ k) (h1 : n ≤ i) (h2 : i ≤ padLen n k) (h : i % k = 0) : i = padLen n k := by
  unfold padLen at *
  obtain ⟨c, rfl⟩ : ∃ c, i = c * k := ⟨i / k, by have := Nat.div_add_mod i k; rw [h, Nat.mul_comm] at this; omega⟩
  congr 1
  have h3 : (n + k - 1) / k ≤ c := by
    rw [Nat.div_le_iff_le_mul_add_pred (by omega)]
    rw [Nat.mul_comm]; omega
  have h4 : c ≤ (n + k - 1) / k := Nat.le_of_mul_le_mul_right h2 (by omega)
  omega
noncomputable def c40 : Code := (Try.f40.body).getD .skip
set_option maxRecDepth 100000 in
theorem refPad_f (A : List Bool) (n ca : Nat) (m : Int) (hn : n ≤ A.length) : Fits Try.prog 40 (padSpec A n ca m) := by
  refine fits_of_body (C := cfgk 1) (c := c40) (ts := [4, 5]) tok mixed (fun | 4 => some (padInv A n ca m.toNat) | _ => none) (fun _ => none)
    Try.func40 (by kernel_rfl) (by kernel_rfl) (by kernel_rfl) (by kernel_rfl) rfl ?_
  have no : ¬ (n ≤ 32768 ∧ 1 ≤ m ∧ m ≤ 4096 ∧ padLen n m.toNat ≤ 32768) → padRow A n m = [] ∧ padErr n m = 1 := fun h => by simp [padRow, padErr, padOk, h]
  have yes : (n ≤ 32768 ∧ 1 ≤ m ∧ m ≤ 4096 ∧ padLen n m.toNat ≤ 32768) → padRow A n m = A.take n ++ List.replicate (padLen n m.toNat - n) false ∧ padErr n m = 0 := fun h => by simp [padRow, padErr, padOk, h]
  conv => whnf
  refine tst_in (fun h => ?_) (fun h => ?_)
  · have h : ¬ (n : Int) ≤ 32768 := by simpa using h
    obtain ⟨e1, e2⟩ := no (by omega)
    conv => whnf
    repeat (refine And.intro ?_ ?_; (focus (first | omega | ((conv => whnf); omega) | (simp [mulSz, Cont.len]; done) | (simp [mulSz, Cont.len]; omega))); conv => whnf)
    refine .inl ⟨([] : List Bool), [0, 9], ?_⟩
    conv => whnf
    rw [e1, e2]
    conv => whnf
    repeat' (first | exact True.intro | rfl | refine And.intro ?_ ?_ | omega)
    all_goals (conv => whnf)
    all_goals (try (first | rfl | omega | (simp; done) | (simp; omega)))
  · have h : (n : Int) ≤ 32768 := by simpa using h
    conv => whnf
    refine tst_in (fun h1 => ?_) (fun h1 => ?_)
    · have h1 : m < 1 := by simpa using h1
      obtain ⟨e1, e2⟩ := no (by omega)
      conv => whnf
      repeat (refine And.intro ?_ ?_; (focus (first | omega | ((conv => whnf); omega) | (simp [mulSz, Cont.len]; done) | (simp [mulSz, Cont.len]; omega))); conv => whnf)
      refine .inl ⟨([] : List Bool), [0, 9], ?_⟩
      conv => whnf
      rw [e1, e2]
      conv => whnf
      repeat' (first | exact True.intro | rfl | refine And.intro ?_ ?_ | omega)
      all_goals (conv => whnf)
      all_goals (try (first | rfl | omega | (simp; done) | (simp; omega)))
    · have h1 : ¬ m < 1 := by simpa using h1
      conv => whnf
      refine tst_in (fun h2 => ?_) (fun h2 => ?_)
      · have h2 : 4096 < m := by simpa using h2
        obtain ⟨e1, e2⟩ := no (by omega)
        conv => whnf
        repeat (refine And.intro ?_ ?_; (focus (first | omega | ((conv => whnf); omega) | (simp [mulSz, Cont.len]; done) | (simp [mulSz, Cont.len]; omega))); conv => whnf)
        refine .inl ⟨([] : List Bool), [0, 9], ?_⟩
        conv => whnf
        rw [e1, e2]
        conv => whnf
        repeat' (first | exact True.intro | rfl | refine And.intro ?_ ?_ | omega)
        all_goals (conv => whnf)
        all_goals (try (first | rfl | omega | (simp; done) | (simp; omega)))
      · have h2 : ¬ 4096 < m := by simpa using h2
        obtain ⟨k, rfl⟩ : ∃ k : Nat, m = k := ⟨m.toNat, by omega⟩
        have hp := pad_ge n k (by omega)
        have hb : padLen n k ≤ n + k := by
          unfold padLen
          have := Nat.div_mul_le_self (n + k - 1) k
          omega
        rw [Int.toNat_natCast] at no yes
        conv => whnf
        repeat (refine And.intro ?_ ?_; (focus (first | omega | ((conv => whnf); omega) | (simp [mulSz, Cont.len]; done) | (simp [mulSz, Cont.len]; omega))); conv => whnf)
        intro (tl : List Bool)
        conv => whnf
        repeat (refine And.intro ?_ ?_; (focus (first | omega | ((conv => whnf); omega) | (simp [mulSz, Cont.len]; done) | (simp [mulSz, Cont.len]; omega))); conv => whnf)
        refine ⟨⟨[0, 1], ((n, tl) : Nat × List Bool), ?_, Nat.le_refl _, hp⟩, ?_⟩
        · conv => whnf
          repeat' (first | exact True.intro | rfl | refine And.intro ?_ ?_ | omega)
          all_goals (conv => whnf)
          all_goals (try (first | rfl | omega | (simp [mulSz, hn]; done) | (simp [mulSz, hn]; omega)))
        · rintro ⟨i, tl⟩ hi
          obtain ⟨hi1, hi2⟩ : n ≤ i ∧ i ≤ padLen n k := hi
          conv => whnf
          repeat (refine And.intro ?_ ?_; (focus (first | omega | ((conv => whnf); omega) | (simp [mulSz, Cont.len]; done) | (simp [mulSz, Cont.len]; omega))); conv => whnf)
          refine tst_in (fun hq => ?_) (fun hq => ?_)
          · have hlt : i < padLen n k := by
              refine Nat.lt_of_le_of_ne hi2 fun e => ?_
              subst e
              simp at hq
              refine hq ?_
              rw [← Int.natCast_emod]
              unfold padLen
              simp
            conv => whnf
            repeat (refine And.intro ?_ ?_; (focus (first | omega | ((conv => whnf); omega) | (simp [mulSz, Cont.len]; done) | (simp [mulSz, Cont.len]; omega))); conv => whnf)
            intro (tl2 : List Bool)
            conv => whnf
            repeat (refine And.intro ?_ ?_; (focus (first | omega | ((conv => whnf); omega) | (simp [mulSz, Cont.len]; done) | (simp [mulSz, Cont.len]; omega))); conv => whnf)
            refine ⟨[0, 3], ((i + 1, tl2) : Nat × List Bool), ?_, ⟨(by omega : n ≤ i + 1), (by omega : i + 1 ≤ padLen n k)⟩, (by omega : padLen n k - (i + 1) < padLen n k - i)⟩
            conv => whnf
            repeat' (first | exact True.intro | rfl | refine And.intro ?_ ?_ | omega)
            all_goals (conv => whnf)
            all_goals (try (first | rfl | omega | (simp; done) | (simp; omega)))
            show A.take n ++ List.replicate (i + 1 - n) false ++ tl2 = ((A.take n ++ List.replicate (i - n) false ++ tl).drop 0).take i ++ [false] ++ tl2
            rw [List.drop_zero, List.take_left' (by simp; omega), show i + 1 - n = (i - n) + 1 by omega, List.replicate_succ', List.append_assoc]
            simp
          · have he : i = padLen n k := by
              refine pad_stop n k i (by omega) hi1 hi2 ?_
              simp at hq
              omega
            subst he
            conv => whnf
            repeat (refine And.intro ?_ ?_; (focus (first | omega | ((conv => whnf); omega) | (simp [mulSz, Cont.len]; done) | (simp [mulSz, Cont.len]; omega))); conv => whnf)
            refine tst_in (fun h3 => ?_) (fun h3 => ?_)
            · have h3 : ¬ padLen n k ≤ 32768 := by simp at h3; omega
              obtain ⟨e1, e2⟩ := no (by omega)
              conv => whnf
              repeat (refine And.intro ?_ ?_; (focus (first | omega | ((conv => whnf); omega) | (simp [mulSz, Cont.len]; done) | (simp [mulSz, Cont.len]; omega))); conv => whnf)
              refine .inl ⟨([] : List Bool), [0, 9], ?_⟩
              conv => whnf
              rw [e1, e2]
              conv => whnf
              repeat' (first | exact True.intro | rfl | refine And.intro ?_ ?_ | omega)
              all_goals (conv => whnf)
              all_goals (try (first | rfl | omega | (simp; done) | (simp; omega)))
            · have h3 : padLen n k ≤ 32768 := by simp at h3; omega
              obtain ⟨e1, e2⟩ := yes (by omega)
              conv => whnf
              repeat (refine And.intro ?_ ?_; (focus (first | omega | ((conv => whnf); omega) | (simp [mulSz, Cont.len]; done) | (simp [mulSz, Cont.len]; omega))); conv => whnf)
              refine .inl ⟨tl, [0, 1], ?_⟩
              conv => whnf
              rw [e1, e2]
              conv => whnf
              repeat' (first | exact True.intro | rfl | refine And.intro ?_ ?_ | omega)
              all_goals (conv => whnf)
              all_goals (try (first | rfl | omega | (simp [hn]; done) | (simp [hn]; omega)))

def law7Spec (A B : List Bool) (n m ca cb : Nat) (k : Int) : FSpec := ⟨[.slice 0 0 n ca, .slice 1 0 m cb, .int .i64 k], [.seg false (.bools A), .seg false (.bools B)], [⟨Unit, fun _ => True, fun _ => .bool true, fun _ => [.dead, .dead]⟩]⟩
noncomputable def c7 : Code := (Try.f7.body).getD .skip
set_option maxRecDepth 100000 in
set_option maxHeartbeats 8000000 in
theorem law7_f (A B : List Bool) (n m ca cb : Nat) (k : Int) (hn : n ≤ A.length) (hm : m ≤ B.length) (hN : n ≤ 140737488351232) (hM : m ≤ 140737488351232) : Fits Try.prog 7 (law7Spec A B n m ca cb k) := by
  refine fits_of_body (C := cfgk 2) (c := c7) (ts := [6]) tok mixed (fun _ => none) (fun _ => none)
    Try.func7 (by kernel_rfl) (by kernel_rfl) (by kernel_rfl) (by kernel_rfl) rfl ?_
  have hX := xrOk_len n m A B
  have hla : ∀ tl, (A.take n ++ marks ++ tl).length = n + 4 + tl.length := fun tl => by simp [marks]; omega
  have hlb : ∀ tl, (B.take m ++ marks ++ tl).length = m + 4 + tl.length := fun tl => by simp [marks]; omega
  have ta : ∀ tl, (A.take n ++ marks ++ tl).take n = A.take n := fun tl => by rw [List.append_assoc, List.take_left' (by simp; omega)]
  have tb : ∀ tl, (B.take m ++ marks ++ tl).take m = B.take m := fun tl => by rw [List.append_assoc, List.take_left' (by simp; omega)]
  have ex : ∀ t1 t2, xrOk n m (A.take n ++ marks ++ t1) (B.take m ++ marks ++ t2) = xrOk n m A B := fun t1 t2 => by
    unfold xrOk
    split
    · rename_i h
      rw [ta]
      rw [h.2, tb]
    · rfl
  have ep : ∀ t1, padRow (A.take n ++ marks ++ t1) n k = padRow A n k := fun t1 => by unfold padRow; rw [ta]
  have hP : (padRow A n k).length ≤ 32768 := by
    unfold padRow
    split
    · rename_i h
      simp only [padOk, decide_eq_true_eq] at h
      have := pad_ge n k.toNat (by omega)
      simp
      omega
    · simp
  have fX : ∀ t1 t2 c1 c2, Fits Try.prog 20 ⟨[.slice 0 0 n c1, .slice 1 0 m c2], [.seg false (.bools (A.take n ++ marks ++ t1)), .seg false (.bools (B.take m ++ marks ++ t2))], [rowOut 2 [.dead, .dead] (xrOk n m A B) fun s => .tup [s, .int .i64 (erOk n m)]]⟩ := fun t1 t2 c1 c2 => by
    have := Xor_f (A.take n ++ marks ++ t1) (B.take m ++ marks ++ t2) n m c1 c2 (by rw [hla]; omega) (by rw [hlb]; omega)
    unfold xrSpec at this
    rwa [ex] at this
  have fD : ∀ t1 t2 c1 c2, Fits Try.prog 38 ⟨[.slice 0 0 n c1, .slice 1 0 m c2], [.seg false (.bools (A.take n ++ marks ++ t1)), .seg false (.bools (B.take m ++ marks ++ t2))], [⟨Unit, fun _ => True, fun _ => .tup [.int .i64 (wt (xrOk n m A B)), .int .i64 (erOk n m)], fun _ => [.dead, .dead]⟩]⟩ := fun t1 t2 c1 c2 => by
    have := Distance_f (A.take n ++ marks ++ t1) (B.take m ++ marks ++ t2) n m c1 c2 (by rw [hla]; omega) (by rw [hlb]; omega)
    unfold wtSpec at this
    rwa [ex] at this
  have fP : ∀ t1 c1, Fits Try.prog 21 ⟨[.slice 0 0 n c1, .int .i64 k], [.seg false (.bools (A.take n ++ marks ++ t1))], [rowOut 1 [.dead] (padRow A n k) fun s => .tup [s, .int .i64 (padErr n k)]]⟩ := fun t1 c1 => by
    have := Pad_f (A.take n ++ marks ++ t1) n c1 k (by rw [hla]; omega)
    unfold padSpec at this
    rwa [ep] at this
  conv => whnf
  refine ⟨_, [0], lent_f A n ca hn hN, ?_⟩
  conv => whnf
  refine ⟨?_, ?_, ?_⟩
  · conv => whnf
    repeat' (first | exact True.intro | rfl | refine And.intro ?_ ?_ | omega)
    all_goals (conv => whnf)
    all_goals (try (first | rfl | omega | (simp; done)))
  · conv => whnf
    repeat' (first | exact True.intro | rfl | refine And.intro ?_ ?_ | omega)
    all_goals (conv => whnf)
    all_goals (try (first | rfl | omega | (simp; done)))
  conv => whnf
  refine ⟨?_, True.intro⟩
  intro (t1 : List Bool) _
  conv => whnf
  refine ⟨_, [1], lent_f B m cb hm hM, ?_⟩
  conv => whnf
  refine ⟨?_, ?_, ?_⟩
  · conv => whnf
    repeat' (first | exact True.intro | rfl | refine And.intro ?_ ?_ | omega)
    all_goals (conv => whnf)
    all_goals (try (first | rfl | omega | (simp; done)))
  · conv => whnf
    repeat' (first | exact True.intro | rfl | refine And.intro ?_ ?_ | omega)
    all_goals (conv => whnf)
    all_goals (try (first | rfl | omega | (simp; done)))
  conv => whnf
  refine ⟨?_, True.intro⟩
  intro (t2 : List Bool) _
  conv => whnf
  refine ⟨_, [2, 3], fX t1 t2 (n + 4 + t1.length) (m + 4 + t2.length), ?_⟩
  conv => whnf
  refine ⟨?_, ?_, ?_⟩
  · conv => whnf
    repeat' (first | exact True.intro | rfl | refine And.intro ?_ ?_ | omega)
    all_goals (conv => whnf)
    all_goals (try (first | rfl | omega | (simp; done)))
  · conv => whnf
    repeat' (first | exact True.intro | rfl | refine And.intro ?_ ?_ | omega)
    all_goals (conv => whnf)
    all_goals (try (first | rfl | omega | (simp; done)))
  conv => whnf
  refine ⟨?_, True.intro⟩
  intro (x1 : List Bool) _
  conv => whnf
  refine ⟨_, [0, 1], refXor_f A B n m ca cb hn hm, ?_⟩
  conv => whnf
  refine ⟨?_, ?_, ?_⟩
  · conv => whnf
    repeat' (first | exact True.intro | rfl | refine And.intro ?_ ?_ | omega)
    all_goals (conv => whnf)
    all_goals (try (first | rfl | omega | (simp; done)))
  · conv => whnf
    repeat' (first | exact True.intro | rfl | refine And.intro ?_ ?_ | omega)
    all_goals (conv => whnf)
    all_goals (try (first | rfl | omega | (simp; done)))
  conv => whnf
  refine ⟨?_, True.intro⟩
  intro (x2 : List Bool) _
  conv => whnf
  refine ⟨_, [2, 3], fD t1 t2 (n + 4 + t1.length) (m + 4 + t2.length), ?_⟩
  conv => whnf
  refine ⟨?_, ?_, ?_⟩
  · conv => whnf
    repeat' (first | exact True.intro | rfl | refine And.intro ?_ ?_ | omega)
    all_goals (conv => whnf)
    all_goals (try (first | rfl | omega | (simp; done)))
  · conv => whnf
    repeat' (first | exact True.intro | rfl | refine And.intro ?_ ?_ | omega)
    all_goals (conv => whnf)
    all_goals (try (first | rfl | omega | (simp; done)))
  conv => whnf
  refine ⟨?_, True.intro⟩
  intro _ _
  conv => whnf
  refine ⟨_, [0, 1], refDistance_f A B n m ca cb hn hm, ?_⟩
  conv => whnf
  refine ⟨?_, ?_, ?_⟩
  · conv => whnf
    repeat' (first | exact True.intro | rfl | refine And.intro ?_ ?_ | omega)
    all_goals (conv => whnf)
    all_goals (try (first | rfl | omega | (simp; done)))
  · conv => whnf
    repeat' (first | exact True.intro | rfl | refine And.intro ?_ ?_ | omega)
    all_goals (conv => whnf)
    all_goals (try (first | rfl | omega | (simp; done)))
  conv => whnf
  refine ⟨?_, True.intro⟩
  intro _ _
  conv => whnf
  refine ⟨_, [2], fP t1 (n + 4 + t1.length), ?_⟩
  conv => whnf
  refine ⟨?_, ?_, ?_⟩
  · conv => whnf
    repeat' (first | exact True.intro | rfl | refine And.intro ?_ ?_ | omega)
    all_goals (conv => whnf)
    all_goals (try (first | rfl | omega | (simp; done)))
  · conv => whnf
    repeat' (first | exact True.intro | rfl | refine And.intro ?_ ?_ | omega)
    all_goals (conv => whnf)
    all_goals (try (first | rfl | omega | (simp; done)))
  conv => whnf
  refine ⟨?_, True.intro⟩
  intro (p1 : List Bool) _
  conv => whnf
  refine ⟨_, [0], refPad_f A n ca k hn, ?_⟩
  conv => whnf
  refine ⟨?_, ?_, ?_⟩
  · conv => whnf
    repeat' (first | exact True.intro | rfl | refine And.intro ?_ ?_ | omega)
    all_goals (conv => whnf)
    all_goals (try (first | rfl | omega | (simp; done)))
  · conv => whnf
    repeat' (first | exact True.intro | rfl | refine And.intro ?_ ?_ | omega)
    all_goals (conv => whnf)
    all_goals (try (first | rfl | omega | (simp; done)))
  conv => whnf
  refine ⟨?_, True.intro⟩
  intro (p2 : List Bool) _
  conv => whnf
  refine ⟨_, [4, 5], same_q (xrOk n m A B ++ x1) (xrOk n m A B ++ x2) (xrOk n m A B).length (xrOk n m A B).length ((xrOk n m A B).length + x1.length) ((xrOk n m A B).length + x2.length) (by simp) (by simp) (by omega), ?_⟩
  conv => whnf
  refine ⟨?_, ?_, ?_⟩
  · conv => whnf
    repeat' (first | exact True.intro | rfl | refine And.intro ?_ ?_ | omega)
    all_goals (conv => whnf)
    all_goals (try (first | rfl | omega | (simp; done)))
  · conv => whnf
    repeat' (first | exact True.intro | rfl | refine And.intro ?_ ?_ | omega)
    all_goals (conv => whnf)
    all_goals (try (first | rfl | omega | (simp; done)))
  conv => whnf
  refine tst_in (fun h_ => False.elim (by simp at h_ <;> omega)) (fun _ => ?_)
  conv => whnf
  refine tst_in (fun h_ => False.elim (by simp at h_ <;> omega)) (fun _ => ?_)
  conv => whnf
  refine tst_in (fun h_ => False.elim (by simp at h_ <;> omega)) (fun _ => ?_)
  conv => whnf
  refine tst_in (fun h_ => False.elim (by simp at h_ <;> omega)) (fun _ => ?_)
  conv => whnf
  refine ⟨_, [6, 7], same_q (padRow A n k ++ p1) (padRow A n k ++ p2) (padRow A n k).length (padRow A n k).length ((padRow A n k).length + p1.length) ((padRow A n k).length + p2.length) (by simp) (by simp) (by omega), ?_⟩
  conv => whnf
  refine ⟨?_, ?_, ?_⟩
  · conv => whnf
    repeat' (first | exact True.intro | rfl | refine And.intro ?_ ?_ | omega)
    all_goals (conv => whnf)
    all_goals (try (first | rfl | omega | (simp; done)))
  · conv => whnf
    repeat' (first | exact True.intro | rfl | refine And.intro ?_ ?_ | omega)
    all_goals (conv => whnf)
    all_goals (try (first | rfl | omega | (simp; done)))
  conv => whnf
  refine tst_in (fun h_ => False.elim (by simp at h_ <;> omega)) (fun _ => ?_)
  conv => whnf
  refine tst_in (fun h_ => False.elim (by simp at h_ <;> omega)) (fun _ => ?_)
  conv => whnf
  refine ⟨_, [2], Weight_q (A.take n ++ marks ++ t1) n (n + 4 + t1.length) (by rw [hla]; omega) (by omega), ?_⟩
  conv => whnf
  refine ⟨?_, ?_, ?_⟩
  · conv => whnf
    repeat' (first | exact True.intro | rfl | refine And.intro ?_ ?_ | omega)
    all_goals (conv => whnf)
    all_goals (try (first | rfl | omega | (simp; done)))
  · conv => whnf
    repeat' (first | exact True.intro | rfl | refine And.intro ?_ ?_ | omega)
    all_goals (conv => whnf)
    all_goals (try (first | rfl | omega | (simp; done)))
  conv => whnf
  refine ⟨_, [0], refWeight_q A n ca hn (by omega), ?_⟩
  conv => whnf
  refine ⟨?_, ?_, ?_⟩
  · conv => whnf
    repeat' (first | exact True.intro | rfl | refine And.intro ?_ ?_ | omega)
    all_goals (conv => whnf)
    all_goals (try (first | rfl | omega | (simp; done)))
  · conv => whnf
    repeat' (first | exact True.intro | rfl | refine And.intro ?_ ?_ | omega)
    all_goals (conv => whnf)
    all_goals (try (first | rfl | omega | (simp; done)))
  conv => whnf
  rw [ta]
  refine tst_in (fun h_ => False.elim (by simp at h_ <;> omega)) (fun _ => ?_)
  conv => whnf
  refine ⟨_, [2, 0], unhurt_q A t1 n ca (n + 4 + t1.length) hn hN (by omega), ?_⟩
  conv => whnf
  refine ⟨?_, ?_, ?_⟩
  · conv => whnf
    repeat' (first | exact True.intro | rfl | refine And.intro ?_ ?_ | omega)
    all_goals (conv => whnf)
    all_goals (try (first | rfl | omega | (simp; done)))
  · conv => whnf
    repeat' (first | exact True.intro | rfl | refine And.intro ?_ ?_ | omega)
    all_goals (conv => whnf)
    all_goals (try (first | rfl | omega | (simp; done)))
  conv => whnf
  refine ⟨_, [3, 1], unhurt_q B t2 m cb (m + 4 + t2.length) hm hM (by omega), ?_⟩
  conv => whnf
  refine ⟨?_, ?_, ?_⟩
  · conv => whnf
    repeat' (first | exact True.intro | rfl | refine And.intro ?_ ?_ | omega)
    all_goals (conv => whnf)
    all_goals (try (first | rfl | omega | (simp; done)))
  · conv => whnf
    repeat' (first | exact True.intro | rfl | refine And.intro ?_ ?_ | omega)
    all_goals (conv => whnf)
    all_goals (try (first | rfl | omega | (simp; done)))
  conv => whnf
  refine ⟨_, [4], turn_f (xrOk n m A B ++ x1) (xrOk n m A B).length ((xrOk n m A B).length + x1.length) (by simp) (by omega), ?_⟩
  conv => whnf
  refine ⟨?_, ?_, ?_⟩
  · conv => whnf
    repeat' (first | exact True.intro | rfl | refine And.intro ?_ ?_ | omega)
    all_goals (conv => whnf)
    all_goals (try (first | rfl | omega | (simp; done)))
  · conv => whnf
    repeat' (first | exact True.intro | rfl | refine And.intro ?_ ?_ | omega)
    all_goals (conv => whnf)
    all_goals (try (first | rfl | omega | (simp; done)))
  conv => whnf
  refine ⟨?_, True.intro⟩
  intro _ _
  conv => whnf
  refine ⟨_, [6], turn_f (padRow A n k ++ p1) (padRow A n k).length ((padRow A n k).length + p1.length) (by simp) (by omega), ?_⟩
  conv => whnf
  refine ⟨?_, ?_, ?_⟩
  · conv => whnf
    repeat' (first | exact True.intro | rfl | refine And.intro ?_ ?_ | omega)
    all_goals (conv => whnf)
    all_goals (try (first | rfl | omega | (simp; done)))
  · conv => whnf
    repeat' (first | exact True.intro | rfl | refine And.intro ?_ ?_ | omega)
    all_goals (conv => whnf)
    all_goals (try (first | rfl | omega | (simp; done)))
  conv => whnf
  refine ⟨?_, True.intro⟩
  intro _ _
  conv => whnf
  refine ⟨_, [2, 0], unhurt_q A t1 n ca (n + 4 + t1.length) hn hN (by omega), ?_⟩
  conv => whnf
  refine ⟨?_, ?_, ?_⟩
  · conv => whnf
    repeat' (first | exact True.intro | rfl | refine And.intro ?_ ?_ | omega)
    all_goals (conv => whnf)
    all_goals (try (first | rfl | omega | (simp; done)))
  · conv => whnf
    repeat' (first | exact True.intro | rfl | refine And.intro ?_ ?_ | omega)
    all_goals (conv => whnf)
    all_goals (try (first | rfl | omega | (simp; done)))
  conv => whnf
  refine ⟨_, [3, 1], unhurt_q B t2 m cb (m + 4 + t2.length) hm hM (by omega), ?_⟩
  conv => whnf
  refine ⟨?_, ?_, ?_⟩
  · conv => whnf
    repeat' (first | exact True.intro | rfl | refine And.intro ?_ ?_ | omega)
    all_goals (conv => whnf)
    all_goals (try (first | rfl | omega | (simp; done)))
  · conv => whnf
    repeat' (first | exact True.intro | rfl | refine And.intro ?_ ?_ | omega)
    all_goals (conv => whnf)
    all_goals (try (first | rfl | omega | (simp; done)))
  conv => whnf
  refine .inl ⟨(), [0, 1], ?_⟩
  conv => whnf
  repeat' (first | exact True.intro | rfl | refine And.intro ?_ ?_ | omega)
  all_goals (conv => whnf)
  all_goals (try (first | rfl | omega | (simp; done) | (simp; omega)))
end Go.Proofs.Ytagndcamfjikhaa

namespace Go.Proofs.Ytagndcamfjikhaa
open Go Go.Fw
namespace bitsPairs
open Go.ChangeShapes Go.WideShapes Go.ChangeAt Go.RowKit
theorem own : ownKnob Try.prog.godebug = none := by kernel_rfl
theorem laid : laidOutB Try.prog = true := by kernel_rfl

set_option maxRecDepth 100000 in
theorem lifted (os : Os) (started : os.Started) (H : Type) (enc : TypeId × Value → H) :
    ReturnsInHanded {} Try.checked os 7 .any (Rows.bitsPairsSpec.pre6 enc Try.prog Try.f7 Rows.bitsPairsRow.domain false) (Rows.bitsPairsSpec.post enc Try.prog Try.f7 false true false false) := by
  refine returnsInHanded_of_change_sized (C := Try.checked) own started (by kernel_rfl) Try.func7
    (ChangeSpec.witness6 (enc := enc) (C := Try.checked) false ⟨#[], #[.slice none 0 0, .slice none 0 0, .int .i64 0], []⟩ 8 (by kernel_rfl) (by kernel_rfl) (by kernel_rfl) (by kernel_rfl)) ?_
  intro W base args ds gs before hval0 hW _ hsz0 _
  have hsz : (DataW.weightsEach Try.prog (Try.f7.params.toList ++ Rows.bitsPairsSpec.plain.varTypes Try.prog) (ds ++ gs)).all (· ≤ reachBytes) = true := hsz0
  clear hsz0
  have hval : ∀ (j : Nat) t v, Try.f7.params[j]? = some t → args[j]? = some v → Value.okWide Try.prog W .any base t v := hval0
  have hW' := hW
  obtain ⟨p, q, hA0, hV, rfl, hfz, hnd⟩ := hW
  have hA : DataW.TrodAll enc Try.prog W 0 (fun _ => true) true Try.f7.params.toList args.toList ds p := hA0
  rw [Try.params7] at hA hval hsz
  obtain ⟨v0, vs0, d0, ds0, p0, q0, hargs, rfl, rfl, h0, r0⟩ := trodAll_cons hA
  obtain ⟨v1, vs1, d1, ds1, p1, q1, rfl, rfl, rfl, h1, r1⟩ := trodAll_cons r0
  obtain ⟨v2, vs2, d2, ds2, p2, q2, rfl, rfl, rfl, h2, r2⟩ := trodAll_cons r1
  obtain ⟨rfl, rfl, rfl⟩ := trodAll_nil r2
  obtain rfl : args = #[v0, v1, v2] := by cases args; simp_all
  obtain ⟨rfl, rfl⟩ := trodVars_none hV
  obtain ⟨k, rfl, rfl, rfl, wk⟩ := open_int Try.underlying3 (hval 2 3 v2 rfl rfl) h2
  obtain ⟨a0, l0, c0, hv0⟩ := okWide_slice Try.underlying23 (hval 0 23 v0 rfl rfl)
  obtain ⟨a1, l1, c1, hv1⟩ := okWide_slice Try.underlying23 (hval 1 23 v1 rfl rfl)
  obtain ⟨n, ca, A, pA, hA1, hA2, hA3, hA4⟩ := arg_bools Try.underlying23 Try.underlying4 (by kernel_rfl) hv0 h0
  obtain ⟨m, cb, B, pB, hB1, hB2, hB3, hB4⟩ := arg_bools Try.underlying23 Try.underlying4 (by kernel_rfl) hv1 h1
  have bytes4 : Try.prog.bytesOf 4 = 1 := by kernel_rfl
  have hN : n ≤ 140737488351232 := by
    rcases hA3 with ⟨h, _⟩ | ⟨xs, ys, rfl, hx, hy⟩
    · omega
    · have := sized_slice hsz (j := 0) (t := 23) (e := 4) rfl rfl Try.underlying23
      rw [bytes4] at this
      simp only [reachBytes] at this
      omega
  have hM : m ≤ 140737488351232 := by
    rcases hB3 with ⟨h, _⟩ | ⟨xs, ys, rfl, hx, hy⟩
    · omega
    · have := sized_slice hsz (j := 1) (t := 23) (e := 4) rfl rfl Try.underlying23
      rw [bytes4] at this
      simp only [reachBytes] at this
      omega
  clear hA0 hval0
  obtain ⟨dA, cA⟩ := hA4 [pA, pB] 0 (by simp) rfl
  obtain ⟨dB, cB⟩ := hB4 [pA, pB] 1 (by simp) rfl
  have walk := (law7_f A B n m ca cb k (by omega) (by omega) hN hM).calls W [pA, pB] [v0, v1, .int .i64 k] (heap_args rfl fun i s hs => by
      match i, hs with
      | 0, hs => simp only [law7Spec, List.getElem?_cons_zero, Option.some.injEq] at hs; subst hs; exact ⟨_, rfl, cA⟩
      | 1, hs => simp only [law7Spec, List.getElem?_cons_succ, List.getElem?_cons_zero, Option.some.injEq] at hs; subst hs; exact ⟨_, rfl, cB⟩
      | i + 2, hs => simp [law7Spec] at hs) (by simp only [law7Spec, Dens]; exact ⟨_, _, rfl, dA, _, _, rfl, dB, _, _, rfl, by simp [Den], rfl⟩) (x := .bool true) (v := .bool true) rfl (by
      intro o ho y hy
      simp [law7Spec] at ho
      subst ho; rfl)
  refine walk.mono fun e W' ⟨he, hg⟩ => ?_
  subst he
  exact ⟨_, rfl, law_done laid rfl rfl Try.underlying4 (by kernel_rfl) hW' rfl hg⟩

theorem over : Rows.bitsPairsRow.holds Try.pinned (OpenSpec.ofChange Rows.bitsPairsSpec) :=
  OpenClaim.holds_of_wide 7 Try.f7 rfl rfl rfl rfl rfl rfl rfl ⟨rfl, rfl, rfl, rfl, rfl⟩ rfl rfl rfl rfl rfl (by kernel_rfl) Try.func7 (by kernel_rfl)
    (of_decide_eq_true (by kernel_rfl)) (by unfold Func.isWrapper; first | (rw [if_pos (by decide +kernel)]; kernel_rfl) | (rw [if_neg (by decide +kernel)]; exact ⟨rfl, rfl⟩))
    (fun os started H enc _ => lifted os started H enc)

theorem proved : Rows.BitsPairsSaid := over
end bitsPairs
end Go.Proofs.Ytagndcamfjikhaa
