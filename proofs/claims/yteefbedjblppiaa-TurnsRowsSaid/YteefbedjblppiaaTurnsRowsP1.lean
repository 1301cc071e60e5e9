/-
  What the functions that are called give: for TurnsRows.
-/
import Derived.Test.YteefbedjblppiaaRows
import Derived.Test.YteefbedjblppiaaFv
set_option linter.unusedSimpArgs false
set_option linter.unusedVariables false
set_option linter.unusedVariables false
set_option linter.unusedSimpArgs false
namespace Go.Proofs.Yteefbedjblppiaa
open Go Go.Fw
def tys : List (Nat × TyI) := [
  (3, ⟨.int .i64, 1, 8, .int .i64 0⟩),
  (4, ⟨.bool, 1, 1, .bool false⟩),
  (5, ⟨.int .u8, 1, 1, .int .u8 0⟩),
  (22, ⟨.slice 5, 1, 24, .slice none 0 0⟩),
  (23, ⟨.slice 4, 1, 24, .slice none 0 0⟩),
  (30, ⟨.int .i64, 1, 8, .int .i64 0⟩),
  (43, ⟨.func, 1, 8, .nilFunc⟩)]
theorem tok : TOk Try.prog tys := by
  intro p hp
  simp only [tys, List.mem_cons, List.not_mem_nil, or_false] at hp
  rcases hp with rfl | rfl | rfl | rfl | rfl | rfl | rfl
  all_goals exact ⟨by kernel_rfl, by kernel_rfl⟩
theorem mixed : Try.prog.follows .mixedOrders = true := by kernel_rfl
def qf : Nat → Bool := fun f => match f with | 6 => true | 7 => true | 23 => true | 25 => true | _ => false
def cfgs (k : Nat) : Cfg := { T := tys, sgn := fun _ => false, wr := fun _ => false, k := k, q := qf }
theorem i64max : IntKind.i64.max = 9223372036854775807 := rfl
theorem u8max : IntKind.u8.max = 255 := rfl
theorem u16max : IntKind.u16.max = 65535 := rfl
theorem u32max : IntKind.u32.max = 4294967295 := rfl
theorem u64max : IntKind.u64.max = 18446744073709551615 := rfl
theorem u8wrap (n : Int) : IntKind.u8.wrap n = n % 256 := by
  unfold IntKind.wrap
  simp [IntKind.bits, IntKind.signed]
def numOut (D : List Seg) (x : AV) : FOut := ⟨Unit, fun _ => True, fun _ => x, fun _ => D⟩
/-- A row by what stands at each place. -/
def tab {α : Type} (f : Nat → α) (n : Nat) : List α := (List.range n).map f
theorem tab_len {α : Type} (f : Nat → α) (n : Nat) : (tab f n).length = n := by simp [tab]
theorem tab_get {α : Type} (f : Nat → α) (d : α) {n i : Nat} (h : i < n) : (tab f n).getD i d = f i := by
  rw [List.getD_eq_getElem?_getD, tab, List.getElem?_map, List.getElem?_range h]; rfl
theorem tab_snoc {α : Type} (f : Nat → α) (n : Nat) : tab f n ++ [f n] = tab f (n + 1) := by simp [tab, List.range_succ]
theorem tab_app {α : Type} (f : Nat → α) (d : α) (t : List α) {n i : Nat} (h : i < n) : (tab f n ++ t).getD i d = f i := by
  rw [List.getD_eq_getElem?_getD, List.getElem?_append_left (by rw [tab_len]; exact h), ← List.getD_eq_getElem?_getD, tab_get f d h]
theorem tab_set {α : Type} (f : Nat → α) (z : α) (k r : Nat) : (tab f k ++ List.replicate (r + 1) z).set k (f k) = tab f (k + 1) ++ List.replicate r z := by
  have e := List.set_append_right k (f k) (s := tab f k) (t := List.replicate (r + 1) z) (by rw [tab_len]; exact Nat.le_refl _)
  rw [e, tab_len, Nat.sub_self, List.replicate_succ, List.set_cons_zero, ← tab_snoc, List.append_assoc]; rfl
theorem tab_congr {α : Type} {f g : Nat → α} {n : Nat} (h : ∀ i, i < n → f i = g i) : tab f n = tab g n := by
  unfold tab
  apply List.map_congr_left
  intro i hi
  exact h i (List.mem_range.1 hi)
theorem app_len {α : Type} (f : Nat → α) (n : Nat) (t : List α) : (tab f n ++ t).length = n + t.length := by rw [List.length_append, tab_len]
/-- The rows are alike at these places. -/
def q4 (a : Int) : Prop := 0 ≤ a ∧ a < 4
def sumq (A : Nat → Int) : Nat → Int
  | 0 => 0
  | k + 1 => (sumq A k + A k) % 4
def inq (A : Nat → Int) (k : Nat) : Int := sumq A (k + 1)
def outq (A : Nat → Int) (k : Nat) : Int := (A k - (if k = 0 then 0 else A (k - 1))) % 4
theorem sumq_in (A : Nat → Int) : ∀ k, q4 (sumq A k)
  | 0 => by show (0 : Int) ≤ 0 ∧ (0 : Int) < 4; omega
  | k + 1 => by unfold sumq q4; omega
theorem and3 (a : Int) (h : 0 ≤ a) : ((a.toNat &&& (3 : Int).toNat : Nat) : Int) = a % 4 := by
  rw [show (3 : Int).toNat = 2 ^ 2 - 1 from rfl, Nat.and_two_pow_sub_one_eq_mod]; omega
theorem on_eq {a b : Int} (ha : q4 a) (hb : q4 b) : (((IntKind.u8.wrap (a + b)).toNat &&& (3 : Int).toNat : Nat) : Int) = (a + b) % 4 := by
  unfold q4 at *
  rw [u8wrap, and3 _ (by omega)]; omega
theorem off_eq {a b : Int} (ha : q4 a) (hb : q4 b) : (((IntKind.u8.wrap (a - b)).toNat &&& (3 : Int).toNat : Nat) : Int) = (a - b) % 4 := by
  unfold q4 at *
  rw [u8wrap, and3 _ (by omega)]; omega
/-- Two bits a quarter. -/
def bitq (A : Nat → Int) (j : Nat) : Bool := if j % 2 = 0 then decide (2 ≤ A (j / 2)) else (decide (A (j / 2) = 1) || decide (A (j / 2) = 2))
def ofq (B : Nat → Bool) (k : Nat) : Int := if B (2 * k) then (if B (2 * k + 1) then 2 else 3) else (if B (2 * k + 1) then 1 else 0)
theorem bitq_even (A : Nat → Int) (k : Nat) : bitq A (2 * k) = decide (2 ≤ A k) := by
  unfold bitq; rw [if_pos (by omega), show 2 * k / 2 = k by omega]
theorem bitq_odd (A : Nat → Int) (k : Nat) : bitq A (2 * k + 1) = (decide (A k = 1) || decide (A k = 2)) := by
  unfold bitq; rw [if_neg (by omega), show (2 * k + 1) / 2 = k by omega]
theorem tab_two {α : Type} (f : Nat → α) (k : Nat) : tab f (2 * k) ++ [f (2 * k), f (2 * k + 1)] = tab f (2 * (k + 1)) := by
  rw [show 2 * (k + 1) = 2 * k + 1 + 1 by omega, ← tab_snoc, ← tab_snoc, List.append_assoc]; rfl
end Go.Proofs.Yteefbedjblppiaa

set_option linter.unusedVariables false
set_option linter.unusedSimpArgs false
namespace Go.Proofs.Yteefbedjblppiaa
open Go Go.Fw
noncomputable def c23 : Code := (Try.f23.body).getD .skip
def st23 (A : List Int) (o n ca k : Nat) : St := ⟨anyTo 17 [.slice 0 o n ca, .any, .any, .any, .any, .any, .any, .any, .slice 0 o n ca, .int .i64 n, .int .i64 k], [.seg false (.ints .u8 A)]⟩
def inv23 (A : List Int) (o n ca : Nat) : LInv := ⟨Nat, fun k => st23 A o n ca k, fun k => k ≤ n, fun k => n - k⟩
set_option maxHeartbeats 0 in
set_option maxRecDepth 100000 in
theorem isRow_y (A : List Int) (F : Nat → Int) (o n ca : Nat) (hA : o + n ≤ A.length) (hN : n ≤ 65536) (hF : ∀ i, i < n → A.getD (o + i) 0 = F i ∧ q4 (F i)) :
    QFits Try.prog 23 ⟨[.slice 0 o n ca], [.seg false (.ints .u8 A)], .bool true⟩ := by
  refine qfits_of_body (C := cfgs 1) (c := c23) (ts := [2]) tok mixed (fun | 4 => some (inv23 A o n ca) | _ => none) (fun _ => none)
    Try.func23 (by kernel_rfl) (by kernel_rfl) (by kernel_rfl) (by kernel_rfl) (by kernel_rfl) rfl rfl ?_
  conv => whnf
  repeat (first
    | (refine And.intro ?_ ?_; (focus (first | omega | decide | exact EqOk.mk (by kernel_rfl) (by kernel_rfl) (by kernel_rfl) | exact Int.natCast_nonneg _ | ((repeat' refine And.intro ?_ ?_) <;> first | omega | exact Int.natCast_nonneg _ | (simp only [i64max, u8max, u16max, u32max, u64max]; omega) | (simp only [mulSz_eq, Cont.len, colsLen, Col.len, List.length_cons, List.length_nil, List.length_replicate, List.length_append]; first | done | omega) | (simp [mulSz, Cont.len, bne]; first | done | omega)))); conv => whnf)
    | (refine tst_in ?_ ?_; (focus (intro h_; exfalso; first | omega | ((try simp only [decide_eq_true_eq, decide_eq_false_iff_not] at h_); omega) | (simp [mulSz, Cont.len, bne] at h_; first | done | omega))); intro _; conv => whnf)
    | (refine tst_in ?_ ?_; rotate_left; (focus (intro h_; exfalso; first | omega | ((try simp only [decide_eq_true_eq, decide_eq_false_iff_not] at h_); omega) | (simp [mulSz, Cont.len, bne] at h_; first | done | omega))); intro _; conv => whnf)
    | (refine ⟨0, (show _ = _ by omega), ?_⟩; conv => whnf))
  refine ⟨⟨[0], (0 : Nat), ?_, Nat.zero_le _⟩, ?_⟩
  · conv => whnf
    repeat' (first | exact True.intro | rfl | refine And.intro ?_ ?_)
    all_goals (conv => whnf)
    repeat' (first | exact True.intro | rfl | refine And.intro ?_ ?_)
    all_goals (try (first | omega | exact True.intro | rfl | assumption | (change LE.le (α := Nat) _ _; omega) | (simp; first | done | omega)))
  · intro (k : Nat) (hk : k ≤ n)
    show forceSt (st23 A o n ca k) _
    conv => whnf
    refine tst_in (fun hlt => ?_) (fun hge => ?_)
    · skip
      have hlt : k < n := by simp at hlt; omega
      have hX : o + ((k : Int)).toNat = o + k := by omega
      have hv := hF k hlt
      unfold q4 at hv
      conv => whnf
      repeat (first
        | (refine And.intro ?_ ?_; (focus (first | omega | decide | exact EqOk.mk (by kernel_rfl) (by kernel_rfl) (by kernel_rfl) | exact Int.natCast_nonneg _ | ((repeat' refine And.intro ?_ ?_) <;> first | omega | exact Int.natCast_nonneg _ | (simp only [i64max, u8max, u16max, u32max, u64max]; omega) | (simp only [mulSz_eq, Cont.len, colsLen, Col.len, List.length_cons, List.length_nil, List.length_replicate, List.length_append]; first | done | omega) | (simp [mulSz, Cont.len, bne]; first | done | omega)))); conv => whnf)
        | (refine tst_in ?_ ?_; (focus (intro h_; exfalso; first | omega | ((try simp only [decide_eq_true_eq, decide_eq_false_iff_not] at h_); omega) | (simp [mulSz, Cont.len, bne] at h_; first | done | omega))); intro _; conv => whnf)
        | (refine tst_in ?_ ?_; rotate_left; (focus (intro h_; exfalso; first | omega | ((try simp only [decide_eq_true_eq, decide_eq_false_iff_not] at h_); omega) | (simp [mulSz, Cont.len, bne] at h_; first | done | omega))); intro _; conv => whnf)
        | (refine ⟨0, (show _ = _ by omega), ?_⟩; conv => whnf))
      rw [hX, hv.1]
      conv => whnf
      repeat (first
        | (refine And.intro ?_ ?_; (focus (first | omega | decide | exact EqOk.mk (by kernel_rfl) (by kernel_rfl) (by kernel_rfl) | exact Int.natCast_nonneg _ | ((repeat' refine And.intro ?_ ?_) <;> first | omega | exact Int.natCast_nonneg _ | (simp only [i64max, u8max, u16max, u32max, u64max]; omega) | (simp only [mulSz_eq, Cont.len, colsLen, Col.len, List.length_cons, List.length_nil, List.length_replicate, List.length_append]; first | done | omega) | (simp [mulSz, Cont.len, bne]; first | done | omega)))); conv => whnf)
        | (refine tst_in ?_ ?_; (focus (intro h_; exfalso; first | omega | ((try simp only [decide_eq_true_eq, decide_eq_false_iff_not] at h_); omega) | (simp [mulSz, Cont.len, bne] at h_; first | done | omega))); intro _; conv => whnf)
        | (refine tst_in ?_ ?_; rotate_left; (focus (intro h_; exfalso; first | omega | ((try simp only [decide_eq_true_eq, decide_eq_false_iff_not] at h_); omega) | (simp [mulSz, Cont.len, bne] at h_; first | done | omega))); intro _; conv => whnf)
        | (refine ⟨0, (show _ = _ by omega), ?_⟩; conv => whnf))
      refine ⟨[0], k + 1, ?_, (by show k + 1 ≤ n; omega), (by show n - (k + 1) < n - k; omega)⟩
      conv => whnf
      repeat' (first | exact True.intro | rfl | refine And.intro ?_ ?_)
      all_goals (conv => whnf)
      repeat' (first | exact True.intro | rfl | refine And.intro ?_ ?_)
      all_goals (try (first | omega | exact True.intro | rfl | assumption | (change LE.le (α := Nat) _ _; omega) | (simp; first | done | omega)))
    · skip
      have hge : k = n := by simp at hge; omega
      conv => whnf
      repeat (first
        | (refine And.intro ?_ ?_; (focus (first | omega | decide | exact EqOk.mk (by kernel_rfl) (by kernel_rfl) (by kernel_rfl) | exact Int.natCast_nonneg _ | ((repeat' refine And.intro ?_ ?_) <;> first | omega | exact Int.natCast_nonneg _ | (simp only [i64max, u8max, u16max, u32max, u64max]; omega) | (simp only [mulSz_eq, Cont.len, colsLen, Col.len, List.length_cons, List.length_nil, List.length_replicate, List.length_append]; first | done | omega) | (simp [mulSz, Cont.len, bne]; first | done | omega)))); conv => whnf)
        | (refine tst_in ?_ ?_; (focus (intro h_; exfalso; first | omega | ((try simp only [decide_eq_true_eq, decide_eq_false_iff_not] at h_); omega) | (simp [mulSz, Cont.len, bne] at h_; first | done | omega))); intro _; conv => whnf)
        | (refine tst_in ?_ ?_; rotate_left; (focus (intro h_; exfalso; first | omega | ((try simp only [decide_eq_true_eq, decide_eq_false_iff_not] at h_); omega) | (simp [mulSz, Cont.len, bne] at h_; first | done | omega))); intro _; conv => whnf)
        | (refine ⟨0, (show _ = _ by omega), ?_⟩; conv => whnf))
      first | exact rfl | trace_state
noncomputable def c24 : Code := (Try.f24.body).getD .skip
set_option maxHeartbeats 0 in
set_option maxRecDepth 100000 in
theorem turning_f : Fits Try.prog 24 ⟨[], [], [⟨Unit, fun _ => True, fun _ => .fn 26 [.ptr 0 0], fun _ => [.seg true (.avs [.int .u8 0])]⟩]⟩ := by
  refine fits_of_body (C := cfgs 0) (c := c24) (ts := [0]) tok mixed (fun _ => none) (fun _ => none)
    Try.func24 (by kernel_rfl) (by kernel_rfl) (by kernel_rfl) (by kernel_rfl) rfl ?_
  conv => whnf
  repeat (first
    | (refine And.intro ?_ ?_; (focus (first | omega | decide | exact EqOk.mk (by kernel_rfl) (by kernel_rfl) (by kernel_rfl) | exact Int.natCast_nonneg _ | ((repeat' refine And.intro ?_ ?_) <;> first | omega | exact Int.natCast_nonneg _ | (simp only [i64max, u8max, u16max, u32max, u64max]; omega) | (simp only [mulSz_eq, Cont.len, colsLen, Col.len, List.length_cons, List.length_nil, List.length_replicate, List.length_append]; first | done | omega) | (simp [mulSz, Cont.len, bne]; first | done | omega)))); conv => whnf)
    | (refine tst_in ?_ ?_; (focus (intro h_; exfalso; first | omega | ((try simp only [decide_eq_true_eq, decide_eq_false_iff_not] at h_); omega) | (simp [mulSz, Cont.len, bne] at h_; first | done | omega))); intro _; conv => whnf)
    | (refine tst_in ?_ ?_; rotate_left; (focus (intro h_; exfalso; first | omega | ((try simp only [decide_eq_true_eq, decide_eq_false_iff_not] at h_); omega) | (simp [mulSz, Cont.len, bne] at h_; first | done | omega))); intro _; conv => whnf)
    | (refine ⟨0, (show _ = _ by omega), ?_⟩; conv => whnf))
  refine .inl ⟨(), [0], ?_⟩
  conv => whnf
  repeat' (first | exact True.intro | rfl | refine And.intro ?_ ?_)
  all_goals (conv => whnf)
  repeat' (first | exact True.intro | rfl | refine And.intro ?_ ?_)
  all_goals (try (first | omega | exact True.intro | rfl | assumption | (change LE.le (α := Nat) _ _; omega) | (simp; first | done | omega)))
noncomputable def c26 : Code := (Try.f26.body).getD .skip
set_option maxHeartbeats 0 in
set_option maxRecDepth 100000 in
theorem turn_f (a b : Int) (ha : q4 a) (hb : q4 b) : Fits Try.prog 26 ⟨[.int .u8 b, .ptr 0 0], [.seg true (.avs [.int .u8 a])], [numOut [.seg true (.avs [.int .u8 ((a + b) % 4)])] (.int .u8 ((a + b) % 4))]⟩ := by
  have e := on_eq ha hb
  have hw : 0 ≤ IntKind.u8.wrap (a + b) ∧ IntKind.u8.wrap (a + b) ≤ 255 := by rw [u8wrap]; omega
  refine fits_of_body (C := cfgs 1) (c := c26) (ts := [3]) tok mixed (fun _ => none) (fun _ => none)
    Try.func26 (by kernel_rfl) (by kernel_rfl) (by kernel_rfl) (by kernel_rfl) rfl ?_
  conv => whnf
  repeat (first
    | (refine And.intro ?_ ?_; (focus (first | omega | decide | exact EqOk.mk (by kernel_rfl) (by kernel_rfl) (by kernel_rfl) | exact Int.natCast_nonneg _ | ((repeat' refine And.intro ?_ ?_) <;> first | omega | exact Int.natCast_nonneg _ | (simp only [i64max, u8max, u16max, u32max, u64max]; omega) | (simp only [mulSz_eq, Cont.len, colsLen, Col.len, List.length_cons, List.length_nil, List.length_replicate, List.length_append, u8max]; first | done | omega) | (simp [mulSz, Cont.len, bne, u8max]; first | done | omega)))); conv => whnf)
    | (refine tst_in ?_ ?_; (focus (intro h_; exfalso; first | omega | ((try simp only [decide_eq_true_eq, decide_eq_false_iff_not] at h_); omega) | (simp [mulSz, Cont.len, bne, u8max] at h_; first | done | omega))); intro _; conv => whnf)
    | (refine tst_in ?_ ?_; rotate_left; (focus (intro h_; exfalso; first | omega | ((try simp only [decide_eq_true_eq, decide_eq_false_iff_not] at h_); omega) | (simp [mulSz, Cont.len, bne, u8max] at h_; first | done | omega))); intro _; conv => whnf)
    | (refine ⟨0, (show _ = _ by omega), ?_⟩; conv => whnf))
  rw [e]
  conv => whnf
  repeat (first
    | (refine And.intro ?_ ?_; (focus (first | omega | decide | exact EqOk.mk (by kernel_rfl) (by kernel_rfl) (by kernel_rfl) | exact Int.natCast_nonneg _ | ((repeat' refine And.intro ?_ ?_) <;> first | omega | exact Int.natCast_nonneg _ | (simp only [i64max, u8max, u16max, u32max, u64max]; omega) | (simp only [mulSz_eq, Cont.len, colsLen, Col.len, List.length_cons, List.length_nil, List.length_replicate, List.length_append]; first | done | omega) | (simp [mulSz, Cont.len, bne]; first | done | omega)))); conv => whnf)
    | (refine tst_in ?_ ?_; (focus (intro h_; exfalso; first | omega | ((try simp only [decide_eq_true_eq, decide_eq_false_iff_not] at h_); omega) | (simp [mulSz, Cont.len, bne] at h_; first | done | omega))); intro _; conv => whnf)
    | (refine tst_in ?_ ?_; rotate_left; (focus (intro h_; exfalso; first | omega | ((try simp only [decide_eq_true_eq, decide_eq_false_iff_not] at h_); omega) | (simp [mulSz, Cont.len, bne] at h_; first | done | omega))); intro _; conv => whnf)
    | (refine ⟨0, (show _ = _ by omega), ?_⟩; conv => whnf))
  refine .inl ⟨(), [0], ?_⟩
  conv => whnf
  repeat' (first | exact True.intro | rfl | refine And.intro ?_ ?_)
  all_goals (conv => whnf)
  repeat' (first | exact True.intro | rfl | refine And.intro ?_ ?_)
  all_goals (try (first | omega | exact True.intro | rfl | assumption | (change LE.le (α := Nat) _ _; omega) | (simp; first | done | omega)))
end Go.Proofs.Yteefbedjblppiaa

set_option linter.unusedVariables false
set_option linter.unusedSimpArgs false
namespace Go.Proofs.Yteefbedjblppiaa
open Go Go.Fw
noncomputable def c11 : Code := (Try.f11.body).getD .skip
def st11 (A : List Int) (F : Nat → Int) (o n ca k : Nat) : St := ⟨anyTo 30 [.slice 0 o n ca, .any, .any, .any, .slice 1 0 n n, .fn 26 [.ptr 2 0], .any, .any, .any, .any, .any, .any, .any, .any, .any, .slice 0 o n ca, .int .i64 n, .int .i64 k], [.seg false (.ints .u8 A), .seg true (.ints .u8 (tab (inq F) k ++ List.replicate (n - k) 0)), .seg true (.avs [.int .u8 (sumq F k)])]⟩
def inv11 (A : List Int) (F : Nat → Int) (o n ca : Nat) : LInv := ⟨Nat, fun k => st11 A F o n ca k, fun k => k ≤ n, fun k => n - k⟩
def rowOut (f : Nat → Int) (n : Nat) : FOut := ⟨Unit, fun _ => True, fun _ => .tup [.slice 1 0 n n, .int .i64 0], fun _ => [.dead, .seg true (.ints .u8 (tab f n))]⟩
set_option maxHeartbeats 0 in
set_option maxRecDepth 100000 in
theorem Into_f (A : List Int) (F : Nat → Int) (o n ca : Nat) (hA : o + n ≤ A.length) (hN : n ≤ 65536) (hF : ∀ i, i < n → A.getD (o + i) 0 = F i ∧ q4 (F i)) :
    Fits Try.prog 11 ⟨[.slice 0 o n ca], [.seg false (.ints .u8 A)], [rowOut (inq F) n]⟩ := by
  have IR := isRow_y A F o n ca hA hN hF
  refine fits_of_body (C := cfgs 1) (c := c11) (ts := [2, 3]) tok mixed (fun | 6 => some (inv11 A F o n ca) | _ => none) (fun _ => none)
    Try.func11 (by kernel_rfl) (by kernel_rfl) (by kernel_rfl) (by kernel_rfl) rfl ?_
  conv => whnf
  repeat (first
    | (refine And.intro ?_ ?_; (focus (first | omega | decide | exact EqOk.mk (by kernel_rfl) (by kernel_rfl) (by kernel_rfl) | exact Int.natCast_nonneg _ | ((repeat' refine And.intro ?_ ?_) <;> first | omega | exact Int.natCast_nonneg _ | (simp only [i64max, u8max, u16max, u32max, u64max]; omega) | (simp only [mulSz_eq, Cont.len, colsLen, Col.len, List.length_cons, List.length_nil, List.length_replicate, List.length_append]; first | done | omega) | (simp [mulSz, Cont.len, bne]; first | done | omega)))); conv => whnf)
    | (refine tst_in ?_ ?_; (focus (intro h_; exfalso; first | omega | ((try simp only [decide_eq_true_eq, decide_eq_false_iff_not] at h_); omega) | (simp [mulSz, Cont.len, bne] at h_; first | done | omega))); intro _; conv => whnf)
    | (refine tst_in ?_ ?_; rotate_left; (focus (intro h_; exfalso; first | omega | ((try simp only [decide_eq_true_eq, decide_eq_false_iff_not] at h_); omega) | (simp [mulSz, Cont.len, bne] at h_; first | done | omega))); intro _; conv => whnf)
    | (refine ⟨0, (show _ = _ by omega), ?_⟩; conv => whnf))
  refine ⟨_, [0], IR, ?_⟩
  conv => whnf
  iterate 2
   refine And.intro ?_ ?_
   focus
    conv => whnf
    repeat' (first | exact True.intro | rfl | refine And.intro ?_ ?_)
    all_goals (conv => whnf)
    repeat' (first | exact True.intro | rfl | refine And.intro ?_ ?_)
    all_goals (try (first | rfl | omega | (simp; first | done | omega)))
  conv => whnf
  conv => whnf
  repeat (first
    | (refine And.intro ?_ ?_; (focus (first | omega | decide | exact EqOk.mk (by kernel_rfl) (by kernel_rfl) (by kernel_rfl) | exact Int.natCast_nonneg _ | ((repeat' refine And.intro ?_ ?_) <;> first | omega | exact Int.natCast_nonneg _ | (simp only [i64max, u8max, u16max, u32max, u64max]; omega) | (simp only [mulSz_eq, Cont.len, colsLen, Col.len, List.length_cons, List.length_nil, List.length_replicate, List.length_append]; first | done | omega) | (simp [mulSz, Cont.len, bne]; first | done | omega)))); conv => whnf)
    | (refine tst_in ?_ ?_; (focus (intro h_; exfalso; first | omega | ((try simp only [decide_eq_true_eq, decide_eq_false_iff_not] at h_); omega) | (simp [mulSz, Cont.len, bne] at h_; first | done | omega))); intro _; conv => whnf)
    | (refine tst_in ?_ ?_; rotate_left; (focus (intro h_; exfalso; first | omega | ((try simp only [decide_eq_true_eq, decide_eq_false_iff_not] at h_); omega) | (simp [mulSz, Cont.len, bne] at h_; first | done | omega))); intro _; conv => whnf)
    | (refine ⟨0, (show _ = _ by omega), ?_⟩; conv => whnf))
  refine ⟨_, [], turning_f, ?_⟩
  conv => whnf
  iterate 2
   refine And.intro ?_ ?_
   focus
    conv => whnf
    repeat' (first | exact True.intro | rfl | refine And.intro ?_ ?_ | omega)
    all_goals (conv => whnf)
    all_goals (try (first | rfl | omega | (simp; done)))
  conv => whnf
  refine ⟨?_, True.intro⟩
  intro _ _
  conv => whnf
  conv => whnf
  repeat (first
    | (refine And.intro ?_ ?_; (focus (first | omega | decide | exact EqOk.mk (by kernel_rfl) (by kernel_rfl) (by kernel_rfl) | exact Int.natCast_nonneg _ | ((repeat' refine And.intro ?_ ?_) <;> first | omega | exact Int.natCast_nonneg _ | (simp only [i64max, u8max, u16max, u32max, u64max]; omega) | (simp only [mulSz_eq, Cont.len, colsLen, Col.len, List.length_cons, List.length_nil, List.length_replicate, List.length_append]; first | done | omega) | (simp [mulSz, Cont.len, bne]; first | done | omega)))); conv => whnf)
    | (refine tst_in ?_ ?_; (focus (intro h_; exfalso; first | omega | ((try simp only [decide_eq_true_eq, decide_eq_false_iff_not] at h_); omega) | (simp [mulSz, Cont.len, bne] at h_; first | done | omega))); intro _; conv => whnf)
    | (refine tst_in ?_ ?_; rotate_left; (focus (intro h_; exfalso; first | omega | ((try simp only [decide_eq_true_eq, decide_eq_false_iff_not] at h_); omega) | (simp [mulSz, Cont.len, bne] at h_; first | done | omega))); intro _; conv => whnf)
    | (refine ⟨0, (show _ = _ by omega), ?_⟩; conv => whnf))
  refine ⟨⟨[0, 1, 2], (0 : Nat), ?_, Nat.zero_le _⟩, ?_⟩
  · conv => whnf
    repeat' (first | exact True.intro | rfl | refine And.intro ?_ ?_)
    all_goals (conv => whnf)
    repeat' (first | exact True.intro | rfl | refine And.intro ?_ ?_)
    all_goals (try (first | omega | exact True.intro | rfl | assumption | (change LE.le (α := Nat) _ _; omega) | (simp; first | done | omega)))
  · intro (k : Nat) (hk : k ≤ n)
    show forceSt (st11 A F o n ca k) _
    conv => whnf
    refine tst_in (fun hlt => ?_) (fun hge => ?_)
    · skip
      have hlt : k < n := by simp at hlt; omega
      obtain ⟨r, hr⟩ : ∃ r, n - k = r + 1 := ⟨n - k - 1, by omega⟩
      have hX : o + ((k : Int)).toNat = o + k := by omega
      have hX0 : 0 + ((k : Int)).toNat = k := by omega
      have hv := hF k hlt
      have TU := turn_f (sumq F k) (F k) (sumq_in F k) hv.2
      have hlen := app_len (inq F) k (List.replicate (r + 1) (0 : Int))
      rw [List.length_replicate] at hlen
      rw [hr]
      conv => whnf
      repeat (first
        | (refine And.intro ?_ ?_; (focus (first | omega | decide | exact EqOk.mk (by kernel_rfl) (by kernel_rfl) (by kernel_rfl) | exact Int.natCast_nonneg _ | ((repeat' refine And.intro ?_ ?_) <;> first | omega | exact Int.natCast_nonneg _ | (simp only [i64max, u8max, u16max, u32max, u64max]; omega) | (simp only [mulSz_eq, Cont.len, colsLen, Col.len, List.length_cons, List.length_nil, List.length_replicate, List.length_append]; first | done | omega) | (simp [mulSz, Cont.len, bne]; first | done | omega)))); conv => whnf)
        | (refine tst_in ?_ ?_; (focus (intro h_; exfalso; first | omega | ((try simp only [decide_eq_true_eq, decide_eq_false_iff_not] at h_); omega) | (simp [mulSz, Cont.len, bne] at h_; first | done | omega))); intro _; conv => whnf)
        | (refine tst_in ?_ ?_; rotate_left; (focus (intro h_; exfalso; first | omega | ((try simp only [decide_eq_true_eq, decide_eq_false_iff_not] at h_); omega) | (simp [mulSz, Cont.len, bne] at h_; first | done | omega))); intro _; conv => whnf)
        | (refine ⟨0, (show _ = _ by omega), ?_⟩; conv => whnf))
      rw [hX, hv.1]
      conv => whnf
      repeat (first
        | (refine And.intro ?_ ?_; (focus (first | omega | decide | exact EqOk.mk (by kernel_rfl) (by kernel_rfl) (by kernel_rfl) | exact Int.natCast_nonneg _ | ((repeat' refine And.intro ?_ ?_) <;> first | omega | exact Int.natCast_nonneg _ | (simp only [i64max, u8max, u16max, u32max, u64max]; omega) | (simp only [mulSz_eq, Cont.len, colsLen, Col.len, List.length_cons, List.length_nil, List.length_replicate, List.length_append]; first | done | omega) | (simp [mulSz, Cont.len, bne]; first | done | omega)))); conv => whnf)
        | (refine tst_in ?_ ?_; (focus (intro h_; exfalso; first | omega | ((try simp only [decide_eq_true_eq, decide_eq_false_iff_not] at h_); omega) | (simp [mulSz, Cont.len, bne] at h_; first | done | omega))); intro _; conv => whnf)
        | (refine tst_in ?_ ?_; rotate_left; (focus (intro h_; exfalso; first | omega | ((try simp only [decide_eq_true_eq, decide_eq_false_iff_not] at h_); omega) | (simp [mulSz, Cont.len, bne] at h_; first | done | omega))); intro _; conv => whnf)
        | (refine ⟨0, (show _ = _ by omega), ?_⟩; conv => whnf))
      refine ⟨_, [2], TU, ?_⟩
      conv => whnf
      iterate 2
       refine And.intro ?_ ?_
       focus
        conv => whnf
        repeat' (first | exact True.intro | rfl | refine And.intro ?_ ?_ | omega)
        all_goals (conv => whnf)
        all_goals (try (first | rfl | omega | (simp; done)))
      conv => whnf
      refine ⟨?_, True.intro⟩
      intro _ _
      conv => whnf
      conv => whnf
      repeat (first
        | (refine And.intro ?_ ?_; (focus (first | omega | decide | exact EqOk.mk (by kernel_rfl) (by kernel_rfl) (by kernel_rfl) | exact Int.natCast_nonneg _ | ((repeat' refine And.intro ?_ ?_) <;> first | omega | exact Int.natCast_nonneg _ | (simp only [i64max, u8max, u16max, u32max, u64max]; omega) | (simp only [mulSz_eq, Cont.len, colsLen, Col.len, List.length_cons, List.length_nil, List.length_replicate, List.length_append, hlen]; first | done | omega) | (simp [mulSz, Cont.len, bne, hlen]; first | done | omega)))); conv => whnf)
        | (refine tst_in ?_ ?_; (focus (intro h_; exfalso; first | omega | ((try simp only [decide_eq_true_eq, decide_eq_false_iff_not] at h_); omega) | (simp [mulSz, Cont.len, bne, hlen] at h_; first | done | omega))); intro _; conv => whnf)
        | (refine tst_in ?_ ?_; rotate_left; (focus (intro h_; exfalso; first | omega | ((try simp only [decide_eq_true_eq, decide_eq_false_iff_not] at h_); omega) | (simp [mulSz, Cont.len, bne, hlen] at h_; first | done | omega))); intro _; conv => whnf)
        | (refine ⟨0, (show _ = _ by omega), ?_⟩; conv => whnf))
      rw [hX0, show ((sumq F k + F k) % 4) = inq F k from rfl, tab_set]
      conv => whnf
      repeat (first
        | (refine And.intro ?_ ?_; (focus (first | omega | decide | exact EqOk.mk (by kernel_rfl) (by kernel_rfl) (by kernel_rfl) | exact Int.natCast_nonneg _ | ((repeat' refine And.intro ?_ ?_) <;> first | omega | exact Int.natCast_nonneg _ | (simp only [i64max, u8max, u16max, u32max, u64max]; omega) | (simp only [mulSz_eq, Cont.len, colsLen, Col.len, List.length_cons, List.length_nil, List.length_replicate, List.length_append]; first | done | omega) | (simp [mulSz, Cont.len, bne]; first | done | omega)))); conv => whnf)
        | (refine tst_in ?_ ?_; (focus (intro h_; exfalso; first | omega | ((try simp only [decide_eq_true_eq, decide_eq_false_iff_not] at h_); omega) | (simp [mulSz, Cont.len, bne] at h_; first | done | omega))); intro _; conv => whnf)
        | (refine tst_in ?_ ?_; rotate_left; (focus (intro h_; exfalso; first | omega | ((try simp only [decide_eq_true_eq, decide_eq_false_iff_not] at h_); omega) | (simp [mulSz, Cont.len, bne] at h_; first | done | omega))); intro _; conv => whnf)
        | (refine ⟨0, (show _ = _ by omega), ?_⟩; conv => whnf))
      refine ⟨[0, 1, 2], k + 1, ?_, (by show k + 1 ≤ n; omega), (by show n - (k + 1) < n - k; omega)⟩
      show stLe _ _ (st11 A F o n ca (k + 1)) _
      unfold st11
      rw [show n - (k + 1) = r by omega]
      conv => whnf
      repeat' (first | exact True.intro | rfl | refine And.intro ?_ ?_)
      all_goals (conv => whnf)
      repeat' (first | exact True.intro | rfl | refine And.intro ?_ ?_)
      all_goals (try omega)
    · skip
      have hge : k = n := by simp at hge; omega
      subst hge
      rw [Nat.sub_self]
      conv => whnf
      repeat (first
        | (refine And.intro ?_ ?_; (focus (first | omega | decide | exact EqOk.mk (by kernel_rfl) (by kernel_rfl) (by kernel_rfl) | exact Int.natCast_nonneg _ | ((repeat' refine And.intro ?_ ?_) <;> first | omega | exact Int.natCast_nonneg _ | (simp only [i64max, u8max, u16max, u32max, u64max]; omega) | (simp only [mulSz_eq, Cont.len, colsLen, Col.len, List.length_cons, List.length_nil, List.length_replicate, List.length_append]; first | done | omega) | (simp [mulSz, Cont.len, bne]; first | done | omega)))); conv => whnf)
        | (refine tst_in ?_ ?_; (focus (intro h_; exfalso; first | omega | ((try simp only [decide_eq_true_eq, decide_eq_false_iff_not] at h_); omega) | (simp [mulSz, Cont.len, bne] at h_; first | done | omega))); intro _; conv => whnf)
        | (refine tst_in ?_ ?_; rotate_left; (focus (intro h_; exfalso; first | omega | ((try simp only [decide_eq_true_eq, decide_eq_false_iff_not] at h_); omega) | (simp [mulSz, Cont.len, bne] at h_; first | done | omega))); intro _; conv => whnf)
        | (refine ⟨0, (show _ = _ by omega), ?_⟩; conv => whnf))
      refine .inl ⟨(), [0, 1], ?_⟩
      conv => whnf
      repeat' (first | exact True.intro | rfl | refine And.intro ?_ ?_)
      all_goals (conv => whnf)
      repeat' (first | exact True.intro | rfl | refine And.intro ?_ ?_)
      all_goals (try omega)
      all_goals (show tab (inq F) k = tab (inq F) k ++ []; rw [List.append_nil])
noncomputable def c12 : Code := (Try.f12.body).getD .skip
def bef (F : Nat → Int) (k : Nat) : Int := if k = 0 then 0 else F (k - 1)
def st12 (A : List Int) (F : Nat → Int) (o n ca k : Nat) : St := ⟨anyTo 31 [.slice 0 o n ca, .any, .any, .any, .slice 1 0 n n, .int .u8 (bef F k), .any, .any, .any, .any, .any, .any, .any, .any, .slice 0 o n ca, .int .i64 n, .int .i64 k], [.seg false (.ints .u8 A), .seg true (.ints .u8 (tab (outq F) k ++ List.replicate (n - k) 0))]⟩
def inv12 (A : List Int) (F : Nat → Int) (o n ca : Nat) : LInv := ⟨Nat, fun k => st12 A F o n ca k, fun k => k ≤ n, fun k => n - k⟩
set_option maxHeartbeats 0 in
set_option maxRecDepth 100000 in
theorem Out_f (A : List Int) (F : Nat → Int) (o n ca : Nat) (hA : o + n ≤ A.length) (hN : n ≤ 65536) (hF : ∀ i, i < n → A.getD (o + i) 0 = F i ∧ q4 (F i)) :
    Fits Try.prog 12 ⟨[.slice 0 o n ca], [.seg false (.ints .u8 A)], [rowOut (outq F) n]⟩ := by
  have IR := isRow_y A F o n ca hA hN hF
  refine fits_of_body (C := cfgs 1) (c := c12) (ts := [2, 3]) tok mixed (fun | 6 => some (inv12 A F o n ca) | _ => none) (fun _ => none)
    Try.func12 (by kernel_rfl) (by kernel_rfl) (by kernel_rfl) (by kernel_rfl) rfl ?_
  conv => whnf
  repeat (first
    | (refine And.intro ?_ ?_; (focus (first | omega | decide | exact EqOk.mk (by kernel_rfl) (by kernel_rfl) (by kernel_rfl) | exact Int.natCast_nonneg _ | ((repeat' refine And.intro ?_ ?_) <;> first | omega | exact Int.natCast_nonneg _ | (simp only [i64max, u8max, u16max, u32max, u64max]; omega) | (simp only [mulSz_eq, Cont.len, colsLen, Col.len, List.length_cons, List.length_nil, List.length_replicate, List.length_append]; first | done | omega) | (simp [mulSz, Cont.len, bne]; first | done | omega)))); conv => whnf)
    | (refine tst_in ?_ ?_; (focus (intro h_; exfalso; first | omega | ((try simp only [decide_eq_true_eq, decide_eq_false_iff_not] at h_); omega) | (simp [mulSz, Cont.len, bne] at h_; first | done | omega))); intro _; conv => whnf)
    | (refine tst_in ?_ ?_; rotate_left; (focus (intro h_; exfalso; first | omega | ((try simp only [decide_eq_true_eq, decide_eq_false_iff_not] at h_); omega) | (simp [mulSz, Cont.len, bne] at h_; first | done | omega))); intro _; conv => whnf)
    | (refine ⟨0, (show _ = _ by omega), ?_⟩; conv => whnf))
  refine ⟨_, [0], IR, ?_⟩
  conv => whnf
  iterate 2
   refine And.intro ?_ ?_
   focus
    conv => whnf
    repeat' (first | exact True.intro | rfl | refine And.intro ?_ ?_)
    all_goals (conv => whnf)
    repeat' (first | exact True.intro | rfl | refine And.intro ?_ ?_)
    all_goals (try (first | rfl | omega | (simp; first | done | omega)))
  conv => whnf
  conv => whnf
  repeat (first
    | (refine And.intro ?_ ?_; (focus (first | omega | decide | exact EqOk.mk (by kernel_rfl) (by kernel_rfl) (by kernel_rfl) | exact Int.natCast_nonneg _ | ((repeat' refine And.intro ?_ ?_) <;> first | omega | exact Int.natCast_nonneg _ | (simp only [i64max, u8max, u16max, u32max, u64max]; omega) | (simp only [mulSz_eq, Cont.len, colsLen, Col.len, List.length_cons, List.length_nil, List.length_replicate, List.length_append]; first | done | omega) | (simp [mulSz, Cont.len, bne]; first | done | omega)))); conv => whnf)
    | (refine tst_in ?_ ?_; (focus (intro h_; exfalso; first | omega | ((try simp only [decide_eq_true_eq, decide_eq_false_iff_not] at h_); omega) | (simp [mulSz, Cont.len, bne] at h_; first | done | omega))); intro _; conv => whnf)
    | (refine tst_in ?_ ?_; rotate_left; (focus (intro h_; exfalso; first | omega | ((try simp only [decide_eq_true_eq, decide_eq_false_iff_not] at h_); omega) | (simp [mulSz, Cont.len, bne] at h_; first | done | omega))); intro _; conv => whnf)
    | (refine ⟨0, (show _ = _ by omega), ?_⟩; conv => whnf))
  refine ⟨⟨[0, 1], (0 : Nat), ?_, Nat.zero_le _⟩, ?_⟩
  · conv => whnf
    repeat' (first | exact True.intro | rfl | refine And.intro ?_ ?_)
    all_goals (conv => whnf)
    repeat' (first | exact True.intro | rfl | refine And.intro ?_ ?_)
    all_goals (try (first | omega | exact True.intro | rfl | assumption | (change LE.le (α := Nat) _ _; omega) | (simp; first | done | omega)))
  · intro (k : Nat) (hk : k ≤ n)
    show forceSt (st12 A F o n ca k) _
    conv => whnf
    refine tst_in (fun hlt => ?_) (fun hge => ?_)
    · skip
      have hlt : k < n := by simp at hlt; omega
      obtain ⟨r, hr⟩ : ∃ r, n - k = r + 1 := ⟨n - k - 1, by omega⟩
      have hX : o + ((k : Int)).toNat = o + k := by omega
      have hX0 : 0 + ((k : Int)).toNat = k := by omega
      have hv := hF k hlt
      have hb : q4 (bef F k) := by
        unfold bef
        split
        · show (0 : Int) ≤ 0 ∧ (0 : Int) < 4; omega
        · exact (hF (k - 1) (by omega)).2
      have e := off_eq hv.2 hb
      have hw : 0 ≤ IntKind.u8.wrap (F k - bef F k) ∧ IntKind.u8.wrap (F k - bef F k) ≤ 255 := by rw [u8wrap]; omega
      have hlen := app_len (outq F) k (List.replicate (r + 1) (0 : Int))
      rw [List.length_replicate] at hlen
      rw [hr]
      conv => whnf
      repeat (first
        | (refine And.intro ?_ ?_; (focus (first | omega | decide | exact EqOk.mk (by kernel_rfl) (by kernel_rfl) (by kernel_rfl) | exact Int.natCast_nonneg _ | ((repeat' refine And.intro ?_ ?_) <;> first | omega | exact Int.natCast_nonneg _ | (simp only [i64max, u8max, u16max, u32max, u64max]; omega) | (simp only [mulSz_eq, Cont.len, colsLen, Col.len, List.length_cons, List.length_nil, List.length_replicate, List.length_append]; first | done | omega) | (simp [mulSz, Cont.len, bne]; first | done | omega)))); conv => whnf)
        | (refine tst_in ?_ ?_; (focus (intro h_; exfalso; first | omega | ((try simp only [decide_eq_true_eq, decide_eq_false_iff_not] at h_); omega) | (simp [mulSz, Cont.len, bne] at h_; first | done | omega))); intro _; conv => whnf)
        | (refine tst_in ?_ ?_; rotate_left; (focus (intro h_; exfalso; first | omega | ((try simp only [decide_eq_true_eq, decide_eq_false_iff_not] at h_); omega) | (simp [mulSz, Cont.len, bne] at h_; first | done | omega))); intro _; conv => whnf)
        | (refine ⟨0, (show _ = _ by omega), ?_⟩; conv => whnf))
      rw [hX, hv.1]
      conv => whnf
      repeat (first
        | (refine And.intro ?_ ?_; (focus (first | omega | decide | exact EqOk.mk (by kernel_rfl) (by kernel_rfl) (by kernel_rfl) | exact Int.natCast_nonneg _ | ((repeat' refine And.intro ?_ ?_) <;> first | omega | exact Int.natCast_nonneg _ | (simp only [i64max, u8max, u16max, u32max, u64max]; omega) | (simp only [mulSz_eq, Cont.len, colsLen, Col.len, List.length_cons, List.length_nil, List.length_replicate, List.length_append, u8max, hlen]; first | done | omega) | (simp [mulSz, Cont.len, bne, u8max, hlen]; first | done | omega)))); conv => whnf)
        | (refine tst_in ?_ ?_; (focus (intro h_; exfalso; first | omega | ((try simp only [decide_eq_true_eq, decide_eq_false_iff_not] at h_); omega) | (simp [mulSz, Cont.len, bne, u8max, hlen] at h_; first | done | omega))); intro _; conv => whnf)
        | (refine tst_in ?_ ?_; rotate_left; (focus (intro h_; exfalso; first | omega | ((try simp only [decide_eq_true_eq, decide_eq_false_iff_not] at h_); omega) | (simp [mulSz, Cont.len, bne, u8max, hlen] at h_; first | done | omega))); intro _; conv => whnf)
        | (refine ⟨0, (show _ = _ by omega), ?_⟩; conv => whnf))
      rw [e]
      conv => whnf
      repeat (first
        | (refine And.intro ?_ ?_; (focus (first | omega | decide | exact EqOk.mk (by kernel_rfl) (by kernel_rfl) (by kernel_rfl) | exact Int.natCast_nonneg _ | ((repeat' refine And.intro ?_ ?_) <;> first | omega | exact Int.natCast_nonneg _ | (simp only [i64max, u8max, u16max, u32max, u64max]; omega) | (simp only [mulSz_eq, Cont.len, colsLen, Col.len, List.length_cons, List.length_nil, List.length_replicate, List.length_append, hlen]; first | done | omega) | (simp [mulSz, Cont.len, bne, hlen]; first | done | omega)))); conv => whnf)
        | (refine tst_in ?_ ?_; (focus (intro h_; exfalso; first | omega | ((try simp only [decide_eq_true_eq, decide_eq_false_iff_not] at h_); omega) | (simp [mulSz, Cont.len, bne, hlen] at h_; first | done | omega))); intro _; conv => whnf)
        | (refine tst_in ?_ ?_; rotate_left; (focus (intro h_; exfalso; first | omega | ((try simp only [decide_eq_true_eq, decide_eq_false_iff_not] at h_); omega) | (simp [mulSz, Cont.len, bne, hlen] at h_; first | done | omega))); intro _; conv => whnf)
        | (refine ⟨0, (show _ = _ by omega), ?_⟩; conv => whnf))
      rw [hX0, show ((F k - bef F k) % 4) = outq F k from rfl, tab_set]
      conv => whnf
      repeat (first
        | (refine And.intro ?_ ?_; (focus (first | omega | decide | exact EqOk.mk (by kernel_rfl) (by kernel_rfl) (by kernel_rfl) | exact Int.natCast_nonneg _ | ((repeat' refine And.intro ?_ ?_) <;> first | omega | exact Int.natCast_nonneg _ | (simp only [i64max, u8max, u16max, u32max, u64max]; omega) | (simp only [mulSz_eq, Cont.len, colsLen, Col.len, List.length_cons, List.length_nil, List.length_replicate, List.length_append]; first | done | omega) | (simp [mulSz, Cont.len, bne]; first | done | omega)))); conv => whnf)
        | (refine tst_in ?_ ?_; (focus (intro h_; exfalso; first | omega | ((try simp only [decide_eq_true_eq, decide_eq_false_iff_not] at h_); omega) | (simp [mulSz, Cont.len, bne] at h_; first | done | omega))); intro _; conv => whnf)
        | (refine tst_in ?_ ?_; rotate_left; (focus (intro h_; exfalso; first | omega | ((try simp only [decide_eq_true_eq, decide_eq_false_iff_not] at h_); omega) | (simp [mulSz, Cont.len, bne] at h_; first | done | omega))); intro _; conv => whnf)
        | (refine ⟨0, (show _ = _ by omega), ?_⟩; conv => whnf))
      refine ⟨[0, 1], k + 1, ?_, (by show k + 1 ≤ n; omega), (by show n - (k + 1) < n - k; omega)⟩
      show stLe _ _ (st12 A F o n ca (k + 1)) _
      unfold st12
      rw [show n - (k + 1) = r by omega, show bef F (k + 1) = F k by unfold bef; rw [if_neg (by omega), Nat.add_sub_cancel]]
      conv => whnf
      repeat' (first | exact True.intro | rfl | refine And.intro ?_ ?_)
      all_goals (conv => whnf)
      repeat' (first | exact True.intro | rfl | refine And.intro ?_ ?_)
      all_goals (try omega)
    · skip
      have hge : k = n := by simp at hge; omega
      subst hge
      rw [Nat.sub_self]
      conv => whnf
      repeat (first
        | (refine And.intro ?_ ?_; (focus (first | omega | decide | exact EqOk.mk (by kernel_rfl) (by kernel_rfl) (by kernel_rfl) | exact Int.natCast_nonneg _ | ((repeat' refine And.intro ?_ ?_) <;> first | omega | exact Int.natCast_nonneg _ | (simp only [i64max, u8max, u16max, u32max, u64max]; omega) | (simp only [mulSz_eq, Cont.len, colsLen, Col.len, List.length_cons, List.length_nil, List.length_replicate, List.length_append]; first | done | omega) | (simp [mulSz, Cont.len, bne]; first | done | omega)))); conv => whnf)
        | (refine tst_in ?_ ?_; (focus (intro h_; exfalso; first | omega | ((try simp only [decide_eq_true_eq, decide_eq_false_iff_not] at h_); omega) | (simp [mulSz, Cont.len, bne] at h_; first | done | omega))); intro _; conv => whnf)
        | (refine tst_in ?_ ?_; rotate_left; (focus (intro h_; exfalso; first | omega | ((try simp only [decide_eq_true_eq, decide_eq_false_iff_not] at h_); omega) | (simp [mulSz, Cont.len, bne] at h_; first | done | omega))); intro _; conv => whnf)
        | (refine ⟨0, (show _ = _ by omega), ?_⟩; conv => whnf))
      refine .inl ⟨(), [0, 1], ?_⟩
      conv => whnf
      repeat' (first | exact True.intro | rfl | refine And.intro ?_ ?_)
      all_goals (conv => whnf)
      repeat' (first | exact True.intro | rfl | refine And.intro ?_ ?_)
      all_goals (try omega)
      all_goals (show tab (outq F) k = tab (outq F) k ++ []; rw [List.append_nil])
end Go.Proofs.Yteefbedjblppiaa

set_option linter.unusedVariables false
set_option linter.unusedSimpArgs false
namespace Go.Proofs.Yteefbedjblppiaa
open Go Go.Fw
theorem bitq_even2 (A : Nat → Int) (k : Nat) : bitq A (2 * k) = @decide (2 ≤ A k) (dLe 2 (A k)) := by
  rw [bitq_even]; congr
noncomputable def c13 : Code := (Try.f13.body).getD .skip
def st13 (A : List Int) (F : Nat → Int) (o n ca k : Nat) (tl : List Bool) : St := ⟨anyTo 38 [.slice 0 o n ca, .any, .any, .any, .slice 1 0 (2 * k) (2 * k + tl.length), .any, .any, .any, .any, .any, .any, .any, .any, .any, .any, .any, .any, .any, .any, .slice 0 o n ca, .int .i64 n, .int .i64 k], [.seg false (.ints .u8 A), .seg true (.bools (tab (bitq F) (2 * k) ++ tl))]⟩
def inv13 (A : List Int) (F : Nat → Int) (o n ca : Nat) : LInv := ⟨Nat × List Bool, fun y => st13 A F o n ca y.1 y.2, fun y => y.1 ≤ n, fun y => n - y.1⟩
def bitOut (F : Nat → Int) (n : Nat) : FOut := ⟨List Bool, fun _ => True, fun tl => .tup [.slice 1 0 (2 * n) (2 * n + tl.length), .int .i64 0], fun tl => [.dead, .seg true (.bools (tab (bitq F) (2 * n) ++ tl))]⟩
set_option maxHeartbeats 0 in
set_option maxRecDepth 100000 in
theorem Bits_f (A : List Int) (F : Nat → Int) (o n ca : Nat) (hA : o + n ≤ A.length) (hN : n ≤ 16384) (hF : ∀ i, i < n → A.getD (o + i) 0 = F i ∧ q4 (F i)) :
    Fits Try.prog 13 ⟨[.slice 0 o n ca], [.seg false (.ints .u8 A)], [bitOut F n]⟩ := by
  have IR := isRow_y A F o n ca hA (by omega) hF
  refine fits_of_body (C := cfgs 1) (c := c13) (ts := [2, 3]) tok mixed (fun | 5 => some (inv13 A F o n ca) | _ => none) (fun _ => none)
    Try.func13 (by kernel_rfl) (by kernel_rfl) (by kernel_rfl) (by kernel_rfl) rfl ?_
  conv => whnf
  repeat (first
    | (refine And.intro ?_ ?_; (focus (first | omega | decide | exact EqOk.mk (by kernel_rfl) (by kernel_rfl) (by kernel_rfl) | exact Int.natCast_nonneg _ | ((repeat' refine And.intro ?_ ?_) <;> first | omega | exact Int.natCast_nonneg _ | (simp only [i64max, u8max, u16max, u32max, u64max]; omega) | (simp only [mulSz_eq, Cont.len, colsLen, Col.len, List.length_cons, List.length_nil, List.length_replicate, List.length_append]; first | done | omega) | (simp [mulSz, Cont.len, bne]; first | done | omega)))); conv => whnf)
    | (refine tst_in ?_ ?_; (focus (intro h_; exfalso; first | omega | ((try simp only [decide_eq_true_eq, decide_eq_false_iff_not] at h_); omega) | (simp [mulSz, Cont.len, bne] at h_; first | done | omega))); intro _; conv => whnf)
    | (refine tst_in ?_ ?_; rotate_left; (focus (intro h_; exfalso; first | omega | ((try simp only [decide_eq_true_eq, decide_eq_false_iff_not] at h_); omega) | (simp [mulSz, Cont.len, bne] at h_; first | done | omega))); intro _; conv => whnf)
    | (refine ⟨0, (show _ = _ by omega), ?_⟩; conv => whnf))
  refine ⟨_, [0], IR, ?_⟩
  conv => whnf
  iterate 2
   refine And.intro ?_ ?_
   focus
    conv => whnf
    repeat' (first | exact True.intro | rfl | refine And.intro ?_ ?_)
    all_goals (conv => whnf)
    repeat' (first | exact True.intro | rfl | refine And.intro ?_ ?_)
    all_goals (try (first | rfl | omega | (simp; first | done | omega)))
  conv => whnf
  conv => whnf
  repeat (first
    | (refine And.intro ?_ ?_; (focus (first | omega | decide | exact EqOk.mk (by kernel_rfl) (by kernel_rfl) (by kernel_rfl) | exact Int.natCast_nonneg _ | ((repeat' refine And.intro ?_ ?_) <;> first | omega | exact Int.natCast_nonneg _ | (simp only [i64max, u8max, u16max, u32max, u64max]; omega) | (simp only [mulSz_eq, Cont.len, colsLen, Col.len, List.length_cons, List.length_nil, List.length_replicate, List.length_append]; first | done | omega) | (simp [mulSz, Cont.len, bne]; first | done | omega)))); conv => whnf)
    | (refine tst_in ?_ ?_; (focus (intro h_; exfalso; first | omega | ((try simp only [decide_eq_true_eq, decide_eq_false_iff_not] at h_); omega) | (simp [mulSz, Cont.len, bne] at h_; first | done | omega))); intro _; conv => whnf)
    | (refine tst_in ?_ ?_; rotate_left; (focus (intro h_; exfalso; first | omega | ((try simp only [decide_eq_true_eq, decide_eq_false_iff_not] at h_); omega) | (simp [mulSz, Cont.len, bne] at h_; first | done | omega))); intro _; conv => whnf)
    | (refine ⟨0, (show _ = _ by omega), ?_⟩; conv => whnf))
  have h2n : ((2 : Int) * (n : Int)).toNat = 2 * n := by omega
  rw [h2n]
  refine ⟨⟨[0, 1], ((0, List.replicate (2 * n) false) : Nat × List Bool), ?_, Nat.zero_le _⟩, ?_⟩
  · conv => whnf
    repeat' (first | exact True.intro | rfl | refine And.intro ?_ ?_)
    all_goals (conv => whnf)
    repeat' (first | exact True.intro | rfl | refine And.intro ?_ ?_)
    all_goals (try (first | omega | exact True.intro | rfl | assumption | (change LE.le (α := Nat) _ _; omega) | (simp; first | done | omega)))
  · rintro ⟨k, tl⟩ hk
    have hk : k ≤ n := hk
    show forceSt (st13 A F o n ca k tl) _
    conv => whnf
    refine tst_in (fun hlt => ?_) (fun hge => ?_)
    · skip
      have hlt : k < n := by simp at hlt; omega
      have hX : o + ((k : Int)).toNat = o + k := by omega
      have hv := hF k hlt
      have hlen := app_len (bitq F) (2 * k) tl
      conv => whnf
      repeat (first
        | (refine And.intro ?_ ?_; (focus (first | omega | decide | exact EqOk.mk (by kernel_rfl) (by kernel_rfl) (by kernel_rfl) | exact Int.natCast_nonneg _ | ((repeat' refine And.intro ?_ ?_) <;> first | omega | exact Int.natCast_nonneg _ | (simp only [i64max, u8max, u16max, u32max, u64max]; omega) | (simp only [mulSz_eq, Cont.len, colsLen, Col.len, List.length_cons, List.length_nil, List.length_replicate, List.length_append]; first | done | omega) | (simp [mulSz, Cont.len, bne]; first | done | omega)))); conv => whnf)
        | (refine tst_in ?_ ?_; (focus (intro h_; exfalso; first | omega | ((try simp only [decide_eq_true_eq, decide_eq_false_iff_not] at h_); omega) | (simp [mulSz, Cont.len, bne] at h_; first | done | omega))); intro _; conv => whnf)
        | (refine tst_in ?_ ?_; rotate_left; (focus (intro h_; exfalso; first | omega | ((try simp only [decide_eq_true_eq, decide_eq_false_iff_not] at h_); omega) | (simp [mulSz, Cont.len, bne] at h_; first | done | omega))); intro _; conv => whnf)
        | (refine ⟨0, (show _ = _ by omega), ?_⟩; conv => whnf))
      rw [hX, hv.1]
      conv => whnf
      repeat (first
        | (refine And.intro ?_ ?_; (focus (first | omega | decide | exact EqOk.mk (by kernel_rfl) (by kernel_rfl) (by kernel_rfl) | exact Int.natCast_nonneg _ | ((repeat' refine And.intro ?_ ?_) <;> first | omega | exact Int.natCast_nonneg _ | (simp only [i64max, u8max, u16max, u32max, u64max]; omega) | (simp only [mulSz_eq, Cont.len, colsLen, Col.len, List.length_cons, List.length_nil, List.length_replicate, List.length_append]; first | done | omega) | (simp [mulSz, Cont.len, bne]; first | done | omega)))); conv => whnf)
        | (refine tst_in ?_ ?_; (focus (intro h_; exfalso; first | omega | ((try simp only [decide_eq_true_eq, decide_eq_false_iff_not] at h_); omega) | (simp [mulSz, Cont.len, bne] at h_; first | done | omega))); intro _; conv => whnf)
        | (refine tst_in ?_ ?_; rotate_left; (focus (intro h_; exfalso; first | omega | ((try simp only [decide_eq_true_eq, decide_eq_false_iff_not] at h_); omega) | (simp [mulSz, Cont.len, bne] at h_; first | done | omega))); intro _; conv => whnf)
        | (refine ⟨0, (show _ = _ by omega), ?_⟩; conv => whnf))
      refine tst_in (fun h1 => ?_) (fun h1 => ?_)
      · skip
        simp only [decide_eq_true_eq] at h1
        conv => whnf
        repeat (first
          | (refine And.intro ?_ ?_; (focus (first | omega | decide | exact EqOk.mk (by kernel_rfl) (by kernel_rfl) (by kernel_rfl) | exact Int.natCast_nonneg _ | ((repeat' refine And.intro ?_ ?_) <;> first | omega | exact Int.natCast_nonneg _ | (simp only [i64max, u8max, u16max, u32max, u64max]; omega) | (simp only [mulSz_eq, Cont.len, colsLen, Col.len, List.length_cons, List.length_nil, List.length_replicate, List.length_append, hlen]; first | done | omega) | (simp [mulSz, Cont.len, bne, hlen]; first | done | omega)))); conv => whnf)
          | (refine tst_in ?_ ?_; (focus (intro h_; exfalso; first | omega | ((try simp only [decide_eq_true_eq, decide_eq_false_iff_not] at h_); omega) | (simp [mulSz, Cont.len, bne, hlen] at h_; first | done | omega))); intro _; conv => whnf)
          | (refine tst_in ?_ ?_; rotate_left; (focus (intro h_; exfalso; first | omega | ((try simp only [decide_eq_true_eq, decide_eq_false_iff_not] at h_); omega) | (simp [mulSz, Cont.len, bne, hlen] at h_; first | done | omega))); intro _; conv => whnf)
          | (refine ⟨0, (show _ = _ by omega), ?_⟩; conv => whnf))
        intro (tl2 : List Bool)
        conv => whnf
        repeat (first
          | (refine And.intro ?_ ?_; (focus (first | omega | decide | exact EqOk.mk (by kernel_rfl) (by kernel_rfl) (by kernel_rfl) | exact Int.natCast_nonneg _ | ((repeat' refine And.intro ?_ ?_) <;> first | omega | exact Int.natCast_nonneg _ | (simp only [i64max, u8max, u16max, u32max, u64max]; omega) | (simp only [mulSz_eq, Cont.len, colsLen, Col.len, List.length_cons, List.length_nil, List.length_replicate, List.length_append]; first | done | omega) | (simp [mulSz, Cont.len, bne]; first | done | omega)))); conv => whnf)
          | (refine tst_in ?_ ?_; (focus (intro h_; exfalso; first | omega | ((try simp only [decide_eq_true_eq, decide_eq_false_iff_not] at h_); omega) | (simp [mulSz, Cont.len, bne] at h_; first | done | omega))); intro _; conv => whnf)
          | (refine tst_in ?_ ?_; rotate_left; (focus (intro h_; exfalso; first | omega | ((try simp only [decide_eq_true_eq, decide_eq_false_iff_not] at h_); omega) | (simp [mulSz, Cont.len, bne] at h_; first | done | omega))); intro _; conv => whnf)
          | (refine ⟨0, (show _ = _ by omega), ?_⟩; conv => whnf))
        refine ⟨[0, 3], ((k + 1, tl2) : Nat × List Bool), ?_, (by show k + 1 ≤ n; omega), (by show n - (k + 1) < n - k; omega)⟩
        show stLe _ _ (st13 A F o n ca (k + 1) tl2) _
        conv => whnf
        repeat' (first | exact True.intro | rfl | refine And.intro ?_ ?_)
        all_goals (conv => whnf)
        repeat' (first | exact True.intro | rfl | refine And.intro ?_ ?_)
        all_goals (try omega)
        · skip
          show tab (bitq F) (2 * (k + 1)) ++ tl2 = List.take (2 * k) (List.drop 0 (tab (bitq F) (2 * k) ++ tl)) ++ List.take 2 (List.drop 0 [@decide (2 ≤ F k) (dLe 2 (F k)), true]) ++ tl2
          rw [List.drop_zero, List.take_append_of_le_length (by rw [tab_len]; omega), List.take_of_length_le (by rw [tab_len]; omega), ← tab_two, bitq_even2, bitq_odd]
          rw [h1]; rfl
      · skip
        simp only [decide_eq_false_iff_not] at h1
        conv => whnf
        repeat (first
          | (refine And.intro ?_ ?_; (focus (first | omega | decide | exact EqOk.mk (by kernel_rfl) (by kernel_rfl) (by kernel_rfl) | exact Int.natCast_nonneg _ | ((repeat' refine And.intro ?_ ?_) <;> first | omega | exact Int.natCast_nonneg _ | (simp only [i64max, u8max, u16max, u32max, u64max]; omega) | (simp only [mulSz_eq, Cont.len, colsLen, Col.len, List.length_cons, List.length_nil, List.length_replicate, List.length_append, hlen]; first | done | omega) | (simp [mulSz, Cont.len, bne, hlen]; first | done | omega)))); conv => whnf)
          | (refine tst_in ?_ ?_; (focus (intro h_; exfalso; first | omega | ((try simp only [decide_eq_true_eq, decide_eq_false_iff_not] at h_); omega) | (simp [mulSz, Cont.len, bne, hlen] at h_; first | done | omega))); intro _; conv => whnf)
          | (refine tst_in ?_ ?_; rotate_left; (focus (intro h_; exfalso; first | omega | ((try simp only [decide_eq_true_eq, decide_eq_false_iff_not] at h_); omega) | (simp [mulSz, Cont.len, bne, hlen] at h_; first | done | omega))); intro _; conv => whnf)
          | (refine ⟨0, (show _ = _ by omega), ?_⟩; conv => whnf))
        intro (tl2 : List Bool)
        conv => whnf
        repeat (first
          | (refine And.intro ?_ ?_; (focus (first | omega | decide | exact EqOk.mk (by kernel_rfl) (by kernel_rfl) (by kernel_rfl) | exact Int.natCast_nonneg _ | ((repeat' refine And.intro ?_ ?_) <;> first | omega | exact Int.natCast_nonneg _ | (simp only [i64max, u8max, u16max, u32max, u64max]; omega) | (simp only [mulSz_eq, Cont.len, colsLen, Col.len, List.length_cons, List.length_nil, List.length_replicate, List.length_append]; first | done | omega) | (simp [mulSz, Cont.len, bne]; first | done | omega)))); conv => whnf)
          | (refine tst_in ?_ ?_; (focus (intro h_; exfalso; first | omega | ((try simp only [decide_eq_true_eq, decide_eq_false_iff_not] at h_); omega) | (simp [mulSz, Cont.len, bne] at h_; first | done | omega))); intro _; conv => whnf)
          | (refine tst_in ?_ ?_; rotate_left; (focus (intro h_; exfalso; first | omega | ((try simp only [decide_eq_true_eq, decide_eq_false_iff_not] at h_); omega) | (simp [mulSz, Cont.len, bne] at h_; first | done | omega))); intro _; conv => whnf)
          | (refine ⟨0, (show _ = _ by omega), ?_⟩; conv => whnf))
        refine ⟨[0, 3], ((k + 1, tl2) : Nat × List Bool), ?_, (by show k + 1 ≤ n; omega), (by show n - (k + 1) < n - k; omega)⟩
        show stLe _ _ (st13 A F o n ca (k + 1) tl2) _
        conv => whnf
        repeat' (first | exact True.intro | rfl | refine And.intro ?_ ?_)
        all_goals (conv => whnf)
        repeat' (first | exact True.intro | rfl | refine And.intro ?_ ?_)
        all_goals (try omega)
        · skip
          show tab (bitq F) (2 * (k + 1)) ++ tl2 = List.take (2 * k) (List.drop 0 (tab (bitq F) (2 * k) ++ tl)) ++ List.take 2 (List.drop 0 [@decide (2 ≤ F k) (dLe 2 (F k)), decide (F k = 2)]) ++ tl2
          rw [List.drop_zero, List.take_append_of_le_length (by rw [tab_len]; omega), List.take_of_length_le (by rw [tab_len]; omega), ← tab_two, bitq_even2, bitq_odd]
          rw [decide_eq_false h1]; rfl
    · skip
      have hge : k = n := by simp at hge; omega
      subst hge
      conv => whnf
      repeat (first
        | (refine And.intro ?_ ?_; (focus (first | omega | decide | exact EqOk.mk (by kernel_rfl) (by kernel_rfl) (by kernel_rfl) | exact Int.natCast_nonneg _ | ((repeat' refine And.intro ?_ ?_) <;> first | omega | exact Int.natCast_nonneg _ | (simp only [i64max, u8max, u16max, u32max, u64max]; omega) | (simp only [mulSz_eq, Cont.len, colsLen, Col.len, List.length_cons, List.length_nil, List.length_replicate, List.length_append]; first | done | omega) | (simp [mulSz, Cont.len, bne]; first | done | omega)))); conv => whnf)
        | (refine tst_in ?_ ?_; (focus (intro h_; exfalso; first | omega | ((try simp only [decide_eq_true_eq, decide_eq_false_iff_not] at h_); omega) | (simp [mulSz, Cont.len, bne] at h_; first | done | omega))); intro _; conv => whnf)
        | (refine tst_in ?_ ?_; rotate_left; (focus (intro h_; exfalso; first | omega | ((try simp only [decide_eq_true_eq, decide_eq_false_iff_not] at h_); omega) | (simp [mulSz, Cont.len, bne] at h_; first | done | omega))); intro _; conv => whnf)
        | (refine ⟨0, (show _ = _ by omega), ?_⟩; conv => whnf))
      refine .inl ⟨tl, [0, 1], ?_⟩
      conv => whnf
      repeat' (first | exact True.intro | rfl | refine And.intro ?_ ?_)
      all_goals (conv => whnf)
      repeat' (first | exact True.intro | rfl | refine And.intro ?_ ?_)
      all_goals (try omega)
noncomputable def c6 : Code := (Try.f6.body).getD .skip
def st6 (A B : List Int) (o n ca p cb k : Nat) : St := ⟨anyTo 26 [.slice 0 o n ca, .slice 1 p n cb, .any, .any, .any, .int .i64 k], [.seg false (.ints .u8 A), .seg false (.ints .u8 B)]⟩
def inv6 (A B : List Int) (o n ca p cb : Nat) : LInv := ⟨Nat, fun k => st6 A B o n ca p cb k, fun k => k ≤ n, fun k => n - k⟩
set_option maxHeartbeats 0 in
set_option maxRecDepth 100000 in
theorem quar_q (A B : List Int) (o n ca p cb : Nat) (hA : o + n ≤ A.length) (hB : p + n ≤ B.length) (hN : n ≤ 4611686018427387904) (hE : ∀ i, i < n → A.getD (o + i) 0 = B.getD (p + i) 0) :
    QFits Try.prog 6 ⟨[.slice 0 o n ca, .slice 1 p n cb], [.seg false (.ints .u8 A), .seg false (.ints .u8 B)], .bool true⟩ := by
  refine qfits_of_body (C := cfgs 2) (c := c6) (ts := [4]) tok mixed (fun | 4 => some (inv6 A B o n ca p cb) | _ => none) (fun _ => none)
    Try.func6 (by kernel_rfl) (by kernel_rfl) (by kernel_rfl) (by kernel_rfl) (by kernel_rfl) rfl rfl ?_
  conv => whnf
  repeat (first
    | (refine And.intro ?_ ?_; (focus (first | omega | decide | exact EqOk.mk (by kernel_rfl) (by kernel_rfl) (by kernel_rfl) | exact Int.natCast_nonneg _ | ((repeat' refine And.intro ?_ ?_) <;> first | omega | exact Int.natCast_nonneg _ | (simp only [i64max, u8max, u16max, u32max, u64max]; omega) | (simp only [mulSz_eq, Cont.len, colsLen, Col.len, List.length_cons, List.length_nil, List.length_replicate, List.length_append]; first | done | omega) | (simp [mulSz, Cont.len, bne]; first | done | omega)))); conv => whnf)
    | (refine tst_in ?_ ?_; (focus (intro h_; exfalso; first | omega | ((try simp only [decide_eq_true_eq, decide_eq_false_iff_not] at h_); omega) | (simp [mulSz, Cont.len, bne] at h_; first | done | omega))); intro _; conv => whnf)
    | (refine tst_in ?_ ?_; rotate_left; (focus (intro h_; exfalso; first | omega | ((try simp only [decide_eq_true_eq, decide_eq_false_iff_not] at h_); omega) | (simp [mulSz, Cont.len, bne] at h_; first | done | omega))); intro _; conv => whnf)
    | (refine ⟨0, (show _ = _ by omega), ?_⟩; conv => whnf))
  refine ⟨⟨[0, 1], (0 : Nat), ?_, Nat.zero_le _⟩, ?_⟩
  · conv => whnf
    repeat' (first | exact True.intro | rfl | refine And.intro ?_ ?_)
    all_goals (conv => whnf)
    repeat' (first | exact True.intro | rfl | refine And.intro ?_ ?_)
    all_goals (try (first | omega | exact True.intro | rfl | assumption | (change LE.le (α := Nat) _ _; omega) | (simp; first | done | omega)))
  · intro (k : Nat) (hk : k ≤ n)
    show forceSt (st6 A B o n ca p cb k) _
    conv => whnf
    refine tst_in (fun hlt => ?_) (fun hge => ?_)
    · skip
      have hlt : k < n := by simp at hlt; omega
      have hX : o + ((k : Int)).toNat = o + k := by omega
      have hY : p + ((k : Int)).toNat = p + k := by omega
      have hv := hE k hlt
      conv => whnf
      repeat (first
        | (refine And.intro ?_ ?_; (focus (first | omega | decide | exact EqOk.mk (by kernel_rfl) (by kernel_rfl) (by kernel_rfl) | exact Int.natCast_nonneg _ | ((repeat' refine And.intro ?_ ?_) <;> first | omega | exact Int.natCast_nonneg _ | (simp only [i64max, u8max, u16max, u32max, u64max]; omega) | (simp only [mulSz_eq, Cont.len, colsLen, Col.len, List.length_cons, List.length_nil, List.length_replicate, List.length_append]; first | done | omega) | (simp [mulSz, Cont.len, bne]; first | done | omega)))); conv => whnf)
        | (refine tst_in ?_ ?_; (focus (intro h_; exfalso; first | omega | ((try simp only [decide_eq_true_eq, decide_eq_false_iff_not] at h_); omega) | (simp [mulSz, Cont.len, bne] at h_; first | done | omega))); intro _; conv => whnf)
        | (refine tst_in ?_ ?_; rotate_left; (focus (intro h_; exfalso; first | omega | ((try simp only [decide_eq_true_eq, decide_eq_false_iff_not] at h_); omega) | (simp [mulSz, Cont.len, bne] at h_; first | done | omega))); intro _; conv => whnf)
        | (refine ⟨0, (show _ = _ by omega), ?_⟩; conv => whnf))
      rw [hX, hY, hv]
      conv => whnf
      repeat (first
        | (refine And.intro ?_ ?_; (focus (first | omega | decide | exact EqOk.mk (by kernel_rfl) (by kernel_rfl) (by kernel_rfl) | exact Int.natCast_nonneg _ | ((repeat' refine And.intro ?_ ?_) <;> first | omega | exact Int.natCast_nonneg _ | (simp only [i64max, u8max, u16max, u32max, u64max]; omega) | (simp only [mulSz_eq, Cont.len, colsLen, Col.len, List.length_cons, List.length_nil, List.length_replicate, List.length_append]; first | done | omega) | (simp [mulSz, Cont.len, bne]; first | done | omega)))); conv => whnf)
        | (refine tst_in ?_ ?_; (focus (intro h_; exfalso; first | omega | ((try simp only [decide_eq_true_eq, decide_eq_false_iff_not] at h_); omega) | (simp [mulSz, Cont.len, bne] at h_; first | done | omega))); intro _; conv => whnf)
        | (refine tst_in ?_ ?_; rotate_left; (focus (intro h_; exfalso; first | omega | ((try simp only [decide_eq_true_eq, decide_eq_false_iff_not] at h_); omega) | (simp [mulSz, Cont.len, bne] at h_; first | done | omega))); intro _; conv => whnf)
        | (refine ⟨0, (show _ = _ by omega), ?_⟩; conv => whnf))
      refine ⟨[0, 1], k + 1, ?_, (by show k + 1 ≤ n; omega), (by show n - (k + 1) < n - k; omega)⟩
      conv => whnf
      repeat' (first | exact True.intro | rfl | refine And.intro ?_ ?_)
      all_goals (conv => whnf)
      repeat' (first | exact True.intro | rfl | refine And.intro ?_ ?_)
      all_goals (try (first | omega | exact True.intro | rfl | assumption | (change LE.le (α := Nat) _ _; omega) | (simp; first | done | omega)))
    · skip
      have hge : k = n := by simp at hge; omega
      conv => whnf
      repeat (first
        | (refine And.intro ?_ ?_; (focus (first | omega | decide | exact EqOk.mk (by kernel_rfl) (by kernel_rfl) (by kernel_rfl) | exact Int.natCast_nonneg _ | ((repeat' refine And.intro ?_ ?_) <;> first | omega | exact Int.natCast_nonneg _ | (simp only [i64max, u8max, u16max, u32max, u64max]; omega) | (simp only [mulSz_eq, Cont.len, colsLen, Col.len, List.length_cons, List.length_nil, List.length_replicate, List.length_append]; first | done | omega) | (simp [mulSz, Cont.len, bne]; first | done | omega)))); conv => whnf)
        | (refine tst_in ?_ ?_; (focus (intro h_; exfalso; first | omega | ((try simp only [decide_eq_true_eq, decide_eq_false_iff_not] at h_); omega) | (simp [mulSz, Cont.len, bne] at h_; first | done | omega))); intro _; conv => whnf)
        | (refine tst_in ?_ ?_; rotate_left; (focus (intro h_; exfalso; first | omega | ((try simp only [decide_eq_true_eq, decide_eq_false_iff_not] at h_); omega) | (simp [mulSz, Cont.len, bne] at h_; first | done | omega))); intro _; conv => whnf)
        | (refine ⟨0, (show _ = _ by omega), ?_⟩; conv => whnf))
end Go.Proofs.Yteefbedjblppiaa

set_option linter.unusedVariables false
set_option linter.unusedSimpArgs false
namespace Go.Proofs.Yteefbedjblppiaa
open Go Go.Fw
theorem tab_sete {α : Type} {f : Nat → α} {z v : α} {k r : Nat} (h : v = f k) : (tab f k ++ List.replicate (r + 1) z).set k v = tab f (k + 1) ++ List.replicate r z := by rw [h, tab_set]
theorem tab_same {α : Type} {f : Nat → α} {z : α} {k r : Nat} (h : z = f k) : tab f k ++ List.replicate (r + 1) z = tab f (k + 1) ++ List.replicate r z := by
  rw [← tab_snoc, ← h, List.append_assoc]; rfl
noncomputable def c14 : Code := (Try.f14.body).getD .skip
def st14 (B : List Bool) (G : Nat → Bool) (n ca k : Nat) : St := ⟨anyTo 57 [.slice 0 0 (2 * n) ca, .any, .any, .any, .slice 1 0 n n, .any, .any, .any, .any, .any, .any, .any, .any, .any, .any, .any, .any, .any, .any, .any, .any, .any, .int .i64 n, .int .i64 k], [.seg false (.bools B), .seg true (.ints .u8 (tab (ofq G) k ++ List.replicate (n - k) 0))]⟩
def inv14 (B : List Bool) (G : Nat → Bool) (n ca : Nat) : LInv := ⟨Nat, fun k => st14 B G n ca k, fun k => k ≤ n, fun k => n - k⟩
def cfg14 : Cfg := { T := tys, sgn := fun _ => false, wr := fun _ => false, k := 1, q := qf, plan := fun i => match Nat.beq i 7 with | true => none | false => none }
set_option maxHeartbeats 0 in
set_option maxRecDepth 100000 in
theorem Of_f (B : List Bool) (G : Nat → Bool) (n ca : Nat) (hB : 2 * n ≤ B.length) (hN : n ≤ 16384) (hG : ∀ i, i < 2 * n → B.getD i false = G i) :
    Fits Try.prog 14 ⟨[.slice 0 0 (2 * n) ca], [.seg false (.bools B)], [rowOut (ofq G) n]⟩ := by
  refine fits_of_body (C := cfg14) (c := c14) (ts := [2, 3]) tok mixed (fun | 5 => some (inv14 B G n ca) | _ => none) (fun _ => none)
    Try.func14 (by kernel_rfl) (by kernel_rfl) (by kernel_rfl) (by kernel_rfl) rfl ?_
  have hmod : ((2 * n : Nat) : Int) % 2 = 0 := by omega
  have hdiv : ((2 * n : Nat) : Int) / 2 = (n : Int) := by omega
  have hto : ((n : Int)).toNat = n := by omega
  conv => whnf
  repeat (first
    | (refine And.intro ?_ ?_; (focus (first | omega | decide | exact EqOk.mk (by kernel_rfl) (by kernel_rfl) (by kernel_rfl) | exact Int.natCast_nonneg _ | ((repeat' refine And.intro ?_ ?_) <;> first | omega | exact Int.natCast_nonneg _ | (simp only [i64max, u8max, u16max, u32max, u64max]; omega) | (simp only [mulSz_eq, Cont.len, colsLen, Col.len, List.length_cons, List.length_nil, List.length_replicate, List.length_append]; first | done | omega) | (simp [mulSz, Cont.len, bne]; first | done | omega)))); conv => whnf)
    | (refine tst_in ?_ ?_; (focus (intro h_; exfalso; first | omega | ((try simp only [decide_eq_true_eq, decide_eq_false_iff_not] at h_); omega) | (simp [mulSz, Cont.len, bne] at h_; first | done | omega))); intro _; conv => whnf)
    | (refine tst_in ?_ ?_; rotate_left; (focus (intro h_; exfalso; first | omega | ((try simp only [decide_eq_true_eq, decide_eq_false_iff_not] at h_); omega) | (simp [mulSz, Cont.len, bne] at h_; first | done | omega))); intro _; conv => whnf)
    | (refine ⟨0, (show _ = _ by omega), ?_⟩; conv => whnf))
  rw [hdiv]
  conv => whnf
  repeat (first
    | (refine And.intro ?_ ?_; (focus (first | omega | decide | exact EqOk.mk (by kernel_rfl) (by kernel_rfl) (by kernel_rfl) | exact Int.natCast_nonneg _ | ((repeat' refine And.intro ?_ ?_) <;> first | omega | exact Int.natCast_nonneg _ | (simp only [i64max, u8max, u16max, u32max, u64max]; omega) | (simp only [mulSz_eq, Cont.len, colsLen, Col.len, List.length_cons, List.length_nil, List.length_replicate, List.length_append]; first | done | omega) | (simp [mulSz, Cont.len, bne]; first | done | omega)))); conv => whnf)
    | (refine tst_in ?_ ?_; (focus (intro h_; exfalso; first | omega | ((try simp only [decide_eq_true_eq, decide_eq_false_iff_not] at h_); omega) | (simp [mulSz, Cont.len, bne] at h_; first | done | omega))); intro _; conv => whnf)
    | (refine tst_in ?_ ?_; rotate_left; (focus (intro h_; exfalso; first | omega | ((try simp only [decide_eq_true_eq, decide_eq_false_iff_not] at h_); omega) | (simp [mulSz, Cont.len, bne] at h_; first | done | omega))); intro _; conv => whnf)
    | (refine ⟨0, (show _ = _ by omega), ?_⟩; conv => whnf))
  rw [hto]
  refine ⟨⟨[0, 1], (0 : Nat), ?_, Nat.zero_le _⟩, ?_⟩
  · conv => whnf
    repeat' (first | exact True.intro | rfl | refine And.intro ?_ ?_)
    all_goals (conv => whnf)
    repeat' (first | exact True.intro | rfl | refine And.intro ?_ ?_)
    all_goals (try (first | omega | exact True.intro | rfl | assumption | (change LE.le (α := Nat) _ _; omega) | (simp; first | done | omega)))
  · intro (k : Nat) (hk : k ≤ n)
    show forceSt (st14 B G n ca k) _
    conv => whnf
    refine tst_in (fun hlt => ?_) (fun hge => ?_)
    · skip
      have hlt : k < n := by simp at hlt; omega
      obtain ⟨r, hr⟩ : ∃ r, n - k = r + 1 := ⟨n - k - 1, by omega⟩
      have hX : 0 + ((2 : Int) * (k : Int)).toNat = 2 * k := by omega
      have hY : 0 + ((2 : Int) * (k : Int) + 1).toNat = 2 * k + 1 := by omega
      have hX0 : 0 + ((k : Int)).toNat = k := by omega
      have h1 := hG (2 * k) (by omega)
      have h2 := hG (2 * k + 1) (by omega)
      have hlen := app_len (ofq G) k (List.replicate (r + 1) (0 : Int))
      rw [List.length_replicate] at hlen
      rw [hr]
      conv => whnf
      repeat (first
        | (refine And.intro ?_ ?_; (focus (first | omega | decide | exact EqOk.mk (by kernel_rfl) (by kernel_rfl) (by kernel_rfl) | exact Int.natCast_nonneg _ | ((repeat' refine And.intro ?_ ?_) <;> first | omega | exact Int.natCast_nonneg _ | (simp only [i64max, u8max, u16max, u32max, u64max]; omega) | (simp only [mulSz_eq, Cont.len, colsLen, Col.len, List.length_cons, List.length_nil, List.length_replicate, List.length_append]; first | done | omega) | (simp [mulSz, Cont.len, bne]; first | done | omega)))); conv => whnf)
        | (refine tst_in ?_ ?_; (focus (intro h_; exfalso; first | omega | ((try simp only [decide_eq_true_eq, decide_eq_false_iff_not] at h_); omega) | (simp [mulSz, Cont.len, bne] at h_; first | done | omega))); intro _; conv => whnf)
        | (refine tst_in ?_ ?_; rotate_left; (focus (intro h_; exfalso; first | omega | ((try simp only [decide_eq_true_eq, decide_eq_false_iff_not] at h_); omega) | (simp [mulSz, Cont.len, bne] at h_; first | done | omega))); intro _; conv => whnf)
        | (refine ⟨0, (show _ = _ by omega), ?_⟩; conv => whnf))
      rw [hX, hY, h1, h2]
      cases e1 : G (2 * k) <;> cases e2 : G (2 * k + 1)
      · skip
        have hof : (0 : Int) = ofq G k := by unfold ofq; rw [e1, e2]; rfl
        conv => whnf
        repeat (first
          | (refine And.intro ?_ ?_; (focus (first | omega | decide | exact EqOk.mk (by kernel_rfl) (by kernel_rfl) (by kernel_rfl) | exact Int.natCast_nonneg _ | ((repeat' refine And.intro ?_ ?_) <;> first | omega | exact Int.natCast_nonneg _ | (simp only [i64max, u8max, u16max, u32max, u64max]; omega) | (simp only [mulSz_eq, Cont.len, colsLen, Col.len, List.length_cons, List.length_nil, List.length_replicate, List.length_append, hlen]; first | done | omega) | (simp [mulSz, Cont.len, bne, hlen]; first | done | omega)))); conv => whnf)
          | (refine tst_in ?_ ?_; (focus (intro h_; exfalso; first | omega | ((try simp only [decide_eq_true_eq, decide_eq_false_iff_not] at h_); omega) | (simp [mulSz, Cont.len, bne, hlen] at h_; first | done | omega))); intro _; conv => whnf)
          | (refine tst_in ?_ ?_; rotate_left; (focus (intro h_; exfalso; first | omega | ((try simp only [decide_eq_true_eq, decide_eq_false_iff_not] at h_); omega) | (simp [mulSz, Cont.len, bne, hlen] at h_; first | done | omega))); intro _; conv => whnf)
          | (refine ⟨0, (show _ = _ by omega), ?_⟩; conv => whnf))
        refine ⟨[0, 1], k + 1, ?_, (by show k + 1 ≤ n; omega), (by show n - (k + 1) < n - k; omega)⟩
        show stLe _ _ (st14 B G n ca (k + 1)) _
        unfold st14
        rw [show n - (k + 1) = r by omega]
        rw [← tab_same hof]
        conv => whnf
        repeat' (first | exact True.intro | rfl | refine And.intro ?_ ?_)
        all_goals (conv => whnf)
        repeat' (first | exact True.intro | rfl | refine And.intro ?_ ?_)
        all_goals (try omega)
      · skip
        have hof : (1 : Int) = ofq G k := by unfold ofq; rw [e1, e2]; rfl
        conv => whnf
        repeat (first
          | (refine And.intro ?_ ?_; (focus (first | omega | decide | exact EqOk.mk (by kernel_rfl) (by kernel_rfl) (by kernel_rfl) | exact Int.natCast_nonneg _ | ((repeat' refine And.intro ?_ ?_) <;> first | omega | exact Int.natCast_nonneg _ | (simp only [i64max, u8max, u16max, u32max, u64max]; omega) | (simp only [mulSz_eq, Cont.len, colsLen, Col.len, List.length_cons, List.length_nil, List.length_replicate, List.length_append, hlen]; first | done | omega) | (simp [mulSz, Cont.len, bne, hlen]; first | done | omega)))); conv => whnf)
          | (refine tst_in ?_ ?_; (focus (intro h_; exfalso; first | omega | ((try simp only [decide_eq_true_eq, decide_eq_false_iff_not] at h_); omega) | (simp [mulSz, Cont.len, bne, hlen] at h_; first | done | omega))); intro _; conv => whnf)
          | (refine tst_in ?_ ?_; rotate_left; (focus (intro h_; exfalso; first | omega | ((try simp only [decide_eq_true_eq, decide_eq_false_iff_not] at h_); omega) | (simp [mulSz, Cont.len, bne, hlen] at h_; first | done | omega))); intro _; conv => whnf)
          | (refine ⟨0, (show _ = _ by omega), ?_⟩; conv => whnf))
        rw [hX0, tab_sete hof]
        conv => whnf
        repeat (first
          | (refine And.intro ?_ ?_; (focus (first | omega | decide | exact EqOk.mk (by kernel_rfl) (by kernel_rfl) (by kernel_rfl) | exact Int.natCast_nonneg _ | ((repeat' refine And.intro ?_ ?_) <;> first | omega | exact Int.natCast_nonneg _ | (simp only [i64max, u8max, u16max, u32max, u64max]; omega) | (simp only [mulSz_eq, Cont.len, colsLen, Col.len, List.length_cons, List.length_nil, List.length_replicate, List.length_append]; first | done | omega) | (simp [mulSz, Cont.len, bne]; first | done | omega)))); conv => whnf)
          | (refine tst_in ?_ ?_; (focus (intro h_; exfalso; first | omega | ((try simp only [decide_eq_true_eq, decide_eq_false_iff_not] at h_); omega) | (simp [mulSz, Cont.len, bne] at h_; first | done | omega))); intro _; conv => whnf)
          | (refine tst_in ?_ ?_; rotate_left; (focus (intro h_; exfalso; first | omega | ((try simp only [decide_eq_true_eq, decide_eq_false_iff_not] at h_); omega) | (simp [mulSz, Cont.len, bne] at h_; first | done | omega))); intro _; conv => whnf)
          | (refine ⟨0, (show _ = _ by omega), ?_⟩; conv => whnf))
        refine ⟨[0, 1], k + 1, ?_, (by show k + 1 ≤ n; omega), (by show n - (k + 1) < n - k; omega)⟩
        show stLe _ _ (st14 B G n ca (k + 1)) _
        unfold st14
        rw [show n - (k + 1) = r by omega]
        conv => whnf
        repeat' (first | exact True.intro | rfl | refine And.intro ?_ ?_)
        all_goals (conv => whnf)
        repeat' (first | exact True.intro | rfl | refine And.intro ?_ ?_)
        all_goals (try omega)
      · skip
        have hof : (3 : Int) = ofq G k := by unfold ofq; rw [e1, e2]; rfl
        conv => whnf
        repeat (first
          | (refine And.intro ?_ ?_; (focus (first | omega | decide | exact EqOk.mk (by kernel_rfl) (by kernel_rfl) (by kernel_rfl) | exact Int.natCast_nonneg _ | ((repeat' refine And.intro ?_ ?_) <;> first | omega | exact Int.natCast_nonneg _ | (simp only [i64max, u8max, u16max, u32max, u64max]; omega) | (simp only [mulSz_eq, Cont.len, colsLen, Col.len, List.length_cons, List.length_nil, List.length_replicate, List.length_append, hlen]; first | done | omega) | (simp [mulSz, Cont.len, bne, hlen]; first | done | omega)))); conv => whnf)
          | (refine tst_in ?_ ?_; (focus (intro h_; exfalso; first | omega | ((try simp only [decide_eq_true_eq, decide_eq_false_iff_not] at h_); omega) | (simp [mulSz, Cont.len, bne, hlen] at h_; first | done | omega))); intro _; conv => whnf)
          | (refine tst_in ?_ ?_; rotate_left; (focus (intro h_; exfalso; first | omega | ((try simp only [decide_eq_true_eq, decide_eq_false_iff_not] at h_); omega) | (simp [mulSz, Cont.len, bne, hlen] at h_; first | done | omega))); intro _; conv => whnf)
          | (refine ⟨0, (show _ = _ by omega), ?_⟩; conv => whnf))
        rw [hX0, tab_sete hof]
        conv => whnf
        repeat (first
          | (refine And.intro ?_ ?_; (focus (first | omega | decide | exact EqOk.mk (by kernel_rfl) (by kernel_rfl) (by kernel_rfl) | exact Int.natCast_nonneg _ | ((repeat' refine And.intro ?_ ?_) <;> first | omega | exact Int.natCast_nonneg _ | (simp only [i64max, u8max, u16max, u32max, u64max]; omega) | (simp only [mulSz_eq, Cont.len, colsLen, Col.len, List.length_cons, List.length_nil, List.length_replicate, List.length_append]; first | done | omega) | (simp [mulSz, Cont.len, bne]; first | done | omega)))); conv => whnf)
          | (refine tst_in ?_ ?_; (focus (intro h_; exfalso; first | omega | ((try simp only [decide_eq_true_eq, decide_eq_false_iff_not] at h_); omega) | (simp [mulSz, Cont.len, bne] at h_; first | done | omega))); intro _; conv => whnf)
          | (refine tst_in ?_ ?_; rotate_left; (focus (intro h_; exfalso; first | omega | ((try simp only [decide_eq_true_eq, decide_eq_false_iff_not] at h_); omega) | (simp [mulSz, Cont.len, bne] at h_; first | done | omega))); intro _; conv => whnf)
          | (refine ⟨0, (show _ = _ by omega), ?_⟩; conv => whnf))
        refine ⟨[0, 1], k + 1, ?_, (by show k + 1 ≤ n; omega), (by show n - (k + 1) < n - k; omega)⟩
        show stLe _ _ (st14 B G n ca (k + 1)) _
        unfold st14
        rw [show n - (k + 1) = r by omega]
        conv => whnf
        repeat' (first | exact True.intro | rfl | refine And.intro ?_ ?_)
        all_goals (conv => whnf)
        repeat' (first | exact True.intro | rfl | refine And.intro ?_ ?_)
        all_goals (try omega)
      · skip
        have hof : (2 : Int) = ofq G k := by unfold ofq; rw [e1, e2]; rfl
        conv => whnf
        repeat (first
          | (refine And.intro ?_ ?_; (focus (first | omega | decide | exact EqOk.mk (by kernel_rfl) (by kernel_rfl) (by kernel_rfl) | exact Int.natCast_nonneg _ | ((repeat' refine And.intro ?_ ?_) <;> first | omega | exact Int.natCast_nonneg _ | (simp only [i64max, u8max, u16max, u32max, u64max]; omega) | (simp only [mulSz_eq, Cont.len, colsLen, Col.len, List.length_cons, List.length_nil, List.length_replicate, List.length_append, hlen]; first | done | omega) | (simp [mulSz, Cont.len, bne, hlen]; first | done | omega)))); conv => whnf)
          | (refine tst_in ?_ ?_; (focus (intro h_; exfalso; first | omega | ((try simp only [decide_eq_true_eq, decide_eq_false_iff_not] at h_); omega) | (simp [mulSz, Cont.len, bne, hlen] at h_; first | done | omega))); intro _; conv => whnf)
          | (refine tst_in ?_ ?_; rotate_left; (focus (intro h_; exfalso; first | omega | ((try simp only [decide_eq_true_eq, decide_eq_false_iff_not] at h_); omega) | (simp [mulSz, Cont.len, bne, hlen] at h_; first | done | omega))); intro _; conv => whnf)
          | (refine ⟨0, (show _ = _ by omega), ?_⟩; conv => whnf))
        rw [hX0, tab_sete hof]
        conv => whnf
        repeat (first
          | (refine And.intro ?_ ?_; (focus (first | omega | decide | exact EqOk.mk (by kernel_rfl) (by kernel_rfl) (by kernel_rfl) | exact Int.natCast_nonneg _ | ((repeat' refine And.intro ?_ ?_) <;> first | omega | exact Int.natCast_nonneg _ | (simp only [i64max, u8max, u16max, u32max, u64max]; omega) | (simp only [mulSz_eq, Cont.len, colsLen, Col.len, List.length_cons, List.length_nil, List.length_replicate, List.length_append]; first | done | omega) | (simp [mulSz, Cont.len, bne]; first | done | omega)))); conv => whnf)
          | (refine tst_in ?_ ?_; (focus (intro h_; exfalso; first | omega | ((try simp only [decide_eq_true_eq, decide_eq_false_iff_not] at h_); omega) | (simp [mulSz, Cont.len, bne] at h_; first | done | omega))); intro _; conv => whnf)
          | (refine tst_in ?_ ?_; rotate_left; (focus (intro h_; exfalso; first | omega | ((try simp only [decide_eq_true_eq, decide_eq_false_iff_not] at h_); omega) | (simp [mulSz, Cont.len, bne] at h_; first | done | omega))); intro _; conv => whnf)
          | (refine ⟨0, (show _ = _ by omega), ?_⟩; conv => whnf))
        refine ⟨[0, 1], k + 1, ?_, (by show k + 1 ≤ n; omega), (by show n - (k + 1) < n - k; omega)⟩
        show stLe _ _ (st14 B G n ca (k + 1)) _
        unfold st14
        rw [show n - (k + 1) = r by omega]
        conv => whnf
        repeat' (first | exact True.intro | rfl | refine And.intro ?_ ?_)
        all_goals (conv => whnf)
        repeat' (first | exact True.intro | rfl | refine And.intro ?_ ?_)
        all_goals (try omega)
    · skip
      have hge : k = n := by simp at hge; omega
      subst hge
      rw [Nat.sub_self]
      conv => whnf
      repeat (first
        | (refine And.intro ?_ ?_; (focus (first | omega | decide | exact EqOk.mk (by kernel_rfl) (by kernel_rfl) (by kernel_rfl) | exact Int.natCast_nonneg _ | ((repeat' refine And.intro ?_ ?_) <;> first | omega | exact Int.natCast_nonneg _ | (simp only [i64max, u8max, u16max, u32max, u64max]; omega) | (simp only [mulSz_eq, Cont.len, colsLen, Col.len, List.length_cons, List.length_nil, List.length_replicate, List.length_append]; first | done | omega) | (simp [mulSz, Cont.len, bne]; first | done | omega)))); conv => whnf)
        | (refine tst_in ?_ ?_; (focus (intro h_; exfalso; first | omega | ((try simp only [decide_eq_true_eq, decide_eq_false_iff_not] at h_); omega) | (simp [mulSz, Cont.len, bne] at h_; first | done | omega))); intro _; conv => whnf)
        | (refine tst_in ?_ ?_; rotate_left; (focus (intro h_; exfalso; first | omega | ((try simp only [decide_eq_true_eq, decide_eq_false_iff_not] at h_); omega) | (simp [mulSz, Cont.len, bne] at h_; first | done | omega))); intro _; conv => whnf)
        | (refine ⟨0, (show _ = _ by omega), ?_⟩; conv => whnf))
      refine .inl ⟨(), [0, 1], ?_⟩
      conv => whnf
      repeat' (first | exact True.intro | rfl | refine And.intro ?_ ?_)
      all_goals (conv => whnf)
      repeat' (first | exact True.intro | rfl | refine And.intro ?_ ?_)
      all_goals (try omega)
      all_goals (show tab (ofq G) k = tab (ofq G) k ++ []; rw [List.append_nil])
end Go.Proofs.Yteefbedjblppiaa

set_option linter.unusedVariables false
set_option linter.unusedSimpArgs false
namespace Go.Proofs.Yteefbedjblppiaa
open Go Go.Fw
noncomputable def c9 : Code := (Try.f9.body).getD .skip
def ls (l : List Int) (i : Nat) : Int := l.getD i 0
set_option maxHeartbeats 0 in
set_option maxRecDepth 100000 in
theorem awake_f : Fits Try.prog 9 ⟨[], [], [numOut [] (.bool true)]⟩ := by
  have hq1 : ∀ i, i < 4 → ([1, 1, 3, 2] : List Int).getD (0 + i) 0 = ls [1, 1, 3, 2] i ∧ q4 (ls [1, 1, 3, 2] i) := fun i h => by
    rcases (show i = 0 ∨ i = 1 ∨ i = 2 ∨ i = 3 by omega) with e | e | e | e <;> subst e <;> exact ⟨rfl, by unfold q4 ls; decide⟩
  have hq2 : ∀ i, i < 4 → ([1, 2, 1, 3] : List Int).getD (0 + i) 0 = ls [1, 2, 1, 3] i ∧ q4 (ls [1, 2, 1, 3] i) := fun i h => by
    rcases (show i = 0 ∨ i = 1 ∨ i = 2 ∨ i = 3 by omega) with e | e | e | e <;> subst e <;> exact ⟨rfl, by unfold q4 ls; decide⟩
  have IN := Into_f [1, 1, 3, 2] (ls [1, 1, 3, 2]) 0 4 4 (by decide) (by decide) hq1
  have OU := Out_f [1, 2, 1, 3] (ls [1, 2, 1, 3]) 0 4 4 (by decide) (by decide) hq2
  have Q1 := quar_q (tab (inq (ls [1, 1, 3, 2])) 4) [1, 2, 1, 3] 0 4 4 0 4 (by rw [tab_len]; decide) (by decide) (by decide) (fun i h => by
    rcases (show i = 0 ∨ i = 1 ∨ i = 2 ∨ i = 3 by omega) with e | e | e | e <;> subst e <;> decide)
  have Q2 := quar_q (tab (outq (ls [1, 2, 1, 3])) 4) [1, 1, 3, 2] 0 4 4 0 4 (by rw [tab_len]; decide) (by decide) (by decide) (fun i h => by
    rcases (show i = 0 ∨ i = 1 ∨ i = 2 ∨ i = 3 by omega) with e | e | e | e <;> subst e <;> decide)
  refine fits_of_body (C := cfgs 0) (c := c9) (ts := [0]) tok mixed (fun _ => none) (fun _ => none)
    Try.func9 (by kernel_rfl) (by kernel_rfl) (by kernel_rfl) (by kernel_rfl) rfl ?_
  conv => whnf
  repeat (first
    | (refine And.intro ?_ ?_; (focus (first | omega | decide | exact EqOk.mk (by kernel_rfl) (by kernel_rfl) (by kernel_rfl) | exact Int.natCast_nonneg _ | ((repeat' refine And.intro ?_ ?_) <;> first | omega | exact Int.natCast_nonneg _ | (simp only [i64max, u8max, u16max, u32max, u64max]; omega) | (simp only [mulSz_eq, Cont.len, colsLen, Col.len, List.length_cons, List.length_nil, List.length_replicate, List.length_append]; first | done | omega) | (simp [mulSz, Cont.len, bne]; first | done | omega)))); conv => whnf)
    | (refine tst_in ?_ ?_; (focus (intro h_; exfalso; first | omega | ((try simp only [decide_eq_true_eq, decide_eq_false_iff_not] at h_); omega) | (simp [mulSz, Cont.len, bne] at h_; first | done | omega))); intro _; conv => whnf)
    | (refine tst_in ?_ ?_; rotate_left; (focus (intro h_; exfalso; first | omega | ((try simp only [decide_eq_true_eq, decide_eq_false_iff_not] at h_); omega) | (simp [mulSz, Cont.len, bne] at h_; first | done | omega))); intro _; conv => whnf)
    | (refine ⟨0, (show _ = _ by omega), ?_⟩; conv => whnf))
  refine ⟨_, [0], IN, ?_⟩
  conv => whnf
  iterate 2
   refine And.intro ?_ ?_
   focus
    conv => whnf
    repeat' (first | exact True.intro | rfl | refine And.intro ?_ ?_ | omega)
    all_goals (conv => whnf)
    all_goals (try (first | rfl | omega | (simp; done)))
  conv => whnf
  refine ⟨?_, True.intro⟩
  intro _ _
  conv => whnf
  conv => whnf
  repeat (first
    | (refine And.intro ?_ ?_; (focus (first | omega | decide | exact EqOk.mk (by kernel_rfl) (by kernel_rfl) (by kernel_rfl) | exact Int.natCast_nonneg _ | ((repeat' refine And.intro ?_ ?_) <;> first | omega | exact Int.natCast_nonneg _ | (simp only [i64max, u8max, u16max, u32max, u64max]; omega) | (simp only [mulSz_eq, Cont.len, colsLen, Col.len, List.length_cons, List.length_nil, List.length_replicate, List.length_append]; first | done | omega) | (simp [mulSz, Cont.len, bne]; first | done | omega)))); conv => whnf)
    | (refine tst_in ?_ ?_; (focus (intro h_; exfalso; first | omega | ((try simp only [decide_eq_true_eq, decide_eq_false_iff_not] at h_); omega) | (simp [mulSz, Cont.len, bne] at h_; first | done | omega))); intro _; conv => whnf)
    | (refine tst_in ?_ ?_; rotate_left; (focus (intro h_; exfalso; first | omega | ((try simp only [decide_eq_true_eq, decide_eq_false_iff_not] at h_); omega) | (simp [mulSz, Cont.len, bne] at h_; first | done | omega))); intro _; conv => whnf)
    | (refine ⟨0, (show _ = _ by omega), ?_⟩; conv => whnf))
  refine ⟨_, [2], OU, ?_⟩
  conv => whnf
  iterate 2
   refine And.intro ?_ ?_
   focus
    conv => whnf
    repeat' (first | exact True.intro | rfl | refine And.intro ?_ ?_ | omega)
    all_goals (conv => whnf)
    all_goals (try (first | rfl | omega | (simp; done)))
  conv => whnf
  refine ⟨?_, True.intro⟩
  intro _ _
  conv => whnf
  conv => whnf
  repeat (first
    | (refine And.intro ?_ ?_; (focus (first | omega | decide | exact EqOk.mk (by kernel_rfl) (by kernel_rfl) (by kernel_rfl) | exact Int.natCast_nonneg _ | ((repeat' refine And.intro ?_ ?_) <;> first | omega | exact Int.natCast_nonneg _ | (simp only [i64max, u8max, u16max, u32max, u64max]; omega) | (simp only [mulSz_eq, Cont.len, colsLen, Col.len, List.length_cons, List.length_nil, List.length_replicate, List.length_append]; first | done | omega) | (simp [mulSz, Cont.len, bne]; first | done | omega)))); conv => whnf)
    | (refine tst_in ?_ ?_; (focus (intro h_; exfalso; first | omega | ((try simp only [decide_eq_true_eq, decide_eq_false_iff_not] at h_); omega) | (simp [mulSz, Cont.len, bne] at h_; first | done | omega))); intro _; conv => whnf)
    | (refine tst_in ?_ ?_; rotate_left; (focus (intro h_; exfalso; first | omega | ((try simp only [decide_eq_true_eq, decide_eq_false_iff_not] at h_); omega) | (simp [mulSz, Cont.len, bne] at h_; first | done | omega))); intro _; conv => whnf)
    | (refine ⟨0, (show _ = _ by omega), ?_⟩; conv => whnf))
  refine ⟨_, [1, 4], Q1, ?_⟩
  conv => whnf
  iterate 2
   refine And.intro ?_ ?_
   focus
    conv => whnf
    repeat' (first | exact True.intro | rfl | refine And.intro ?_ ?_)
    all_goals (conv => whnf)
    repeat' (first | exact True.intro | rfl | refine And.intro ?_ ?_)
    all_goals (try (first | rfl | omega | (simp; first | done | omega)))
  conv => whnf
  conv => whnf
  repeat (first
    | (refine And.intro ?_ ?_; (focus (first | omega | decide | exact EqOk.mk (by kernel_rfl) (by kernel_rfl) (by kernel_rfl) | exact Int.natCast_nonneg _ | ((repeat' refine And.intro ?_ ?_) <;> first | omega | exact Int.natCast_nonneg _ | (simp only [i64max, u8max, u16max, u32max, u64max]; omega) | (simp only [mulSz_eq, Cont.len, colsLen, Col.len, List.length_cons, List.length_nil, List.length_replicate, List.length_append]; first | done | omega) | (simp [mulSz, Cont.len, bne]; first | done | omega)))); conv => whnf)
    | (refine tst_in ?_ ?_; (focus (intro h_; exfalso; first | omega | ((try simp only [decide_eq_true_eq, decide_eq_false_iff_not] at h_); omega) | (simp [mulSz, Cont.len, bne] at h_; first | done | omega))); intro _; conv => whnf)
    | (refine tst_in ?_ ?_; rotate_left; (focus (intro h_; exfalso; first | omega | ((try simp only [decide_eq_true_eq, decide_eq_false_iff_not] at h_); omega) | (simp [mulSz, Cont.len, bne] at h_; first | done | omega))); intro _; conv => whnf)
    | (refine ⟨0, (show _ = _ by omega), ?_⟩; conv => whnf))
  refine ⟨_, [3, 5], Q2, ?_⟩
  conv => whnf
  iterate 2
   refine And.intro ?_ ?_
   focus
    conv => whnf
    repeat' (first | exact True.intro | rfl | refine And.intro ?_ ?_)
    all_goals (conv => whnf)
    repeat' (first | exact True.intro | rfl | refine And.intro ?_ ?_)
    all_goals (try (first | rfl | omega | (simp; first | done | omega)))
  conv => whnf
  conv => whnf
  repeat (first
    | (refine And.intro ?_ ?_; (focus (first | omega | decide | exact EqOk.mk (by kernel_rfl) (by kernel_rfl) (by kernel_rfl) | exact Int.natCast_nonneg _ | ((repeat' refine And.intro ?_ ?_) <;> first | omega | exact Int.natCast_nonneg _ | (simp only [i64max, u8max, u16max, u32max, u64max]; omega) | (simp only [mulSz_eq, Cont.len, colsLen, Col.len, List.length_cons, List.length_nil, List.length_replicate, List.length_append]; first | done | omega) | (simp [mulSz, Cont.len, bne]; first | done | omega)))); conv => whnf)
    | (refine tst_in ?_ ?_; (focus (intro h_; exfalso; first | omega | ((try simp only [decide_eq_true_eq, decide_eq_false_iff_not] at h_); omega) | (simp [mulSz, Cont.len, bne] at h_; first | done | omega))); intro _; conv => whnf)
    | (refine tst_in ?_ ?_; rotate_left; (focus (intro h_; exfalso; first | omega | ((try simp only [decide_eq_true_eq, decide_eq_false_iff_not] at h_); omega) | (simp [mulSz, Cont.len, bne] at h_; first | done | omega))); intro _; conv => whnf)
    | (refine ⟨0, (show _ = _ by omega), ?_⟩; conv => whnf))
  refine .inl ⟨(), [], ?_⟩
  conv => whnf
  repeat' (first | exact True.intro | rfl | refine And.intro ?_ ?_)
  all_goals (conv => whnf)
  repeat' (first | exact True.intro | rfl | refine And.intro ?_ ?_)
  all_goals (try (first | omega | exact True.intro | rfl | assumption | (change LE.le (α := Nat) _ _; omega) | (simp; first | done | omega)))
end Go.Proofs.Yteefbedjblppiaa

set_option linter.unusedVariables false
set_option linter.unusedSimpArgs false
namespace Go.Proofs.Yteefbedjblppiaa
open Go Go.Fw
def tyU : List (Nat × TyI) := [
  (3, ⟨.int .i64, 1, 8, .int .i64 0⟩),
  (4, ⟨.bool, 1, 1, .bool false⟩),
  (5, ⟨.int .u8, 1, 1, .int .u8 0⟩),
  (22, ⟨.slice 5, 1, 24, .slice none 0 0⟩),
  (23, ⟨.slice 4, 1, 24, .slice none 0 0⟩),
  (30, ⟨.int .i64, 1, 8, .int .i64 0⟩),
  (39, ⟨.array 4 3, 4, 32, .agg #[.int .i64 0, .int .i64 0, .int .i64 0, .int .i64 0]⟩),
  (43, ⟨.func, 1, 8, .nilFunc⟩)]
theorem tokU : TOk Try.prog tyU := by
  intro p hp
  simp only [tyU, List.mem_cons, List.not_mem_nil, or_false] at hp
  rcases hp with rfl | rfl | rfl | rfl | rfl | rfl | rfl | rfl
  all_goals exact ⟨by kernel_rfl, by kernel_rfl⟩
def cfgu (k : Nat) : Cfg := { T := tyU, sgn := fun _ => false, wr := fun _ => false, k := k, q := qf }
def u8S (o : Bool) (A : List Int) : Seg := .seg o (.ints .u8 A)
def boS (o : Bool) (A : List Bool) : Seg := .seg o (.bools A)
/-- A row of bytes. -/
def byt (a : Int) : Prop := 0 ≤ a ∧ a ≤ 255
def okR (F : Nat → Int) (n : Nat) : Prop := n ≤ 65536 ∧ ∀ i, i < n → q4 (F i)
def isU (A : List Int) (F : Nat → Int) (n : Nat) : Prop := n ≤ A.length ∧ ∀ i, i < n → A.getD i 0 = F i ∧ byt (F i)
def st23n (A : List Int) (n ca k : Nat) : St := ⟨anyTo 17 [.slice 0 0 n ca, .any, .any, .any, .any, .any, .any, .any, .slice 0 0 n ca, .int .i64 n, .int .i64 k], [u8S false A]⟩
def inv23n (A : List Int) (F : Nat → Int) (n ca : Nat) : LInv := ⟨Nat, fun k => st23n A n ca k, fun k => k ≤ n ∧ ∀ i, i < k → q4 (F i), fun k => n - k⟩
set_option maxHeartbeats 0 in
set_option maxRecDepth 100000 in
theorem isRow_n (A : List Int) (F : Nat → Int) (n ca : Nat) (hA : isU A F n) (hF : ¬ okR F n) (hN : n ≤ 140737488351232) :
    QFits Try.prog 23 ⟨[.slice 0 0 n ca], [u8S false A], .bool false⟩ := by
  have hl := hA.1
  by_cases h6 : n ≤ 65536
  · refine qfits_of_body (C := cfgu 1) (c := c23) (ts := [2]) tokU mixed (fun | 4 => some (inv23n A F n ca) | _ => none) (fun _ => none)
      Try.func23 (by kernel_rfl) (by kernel_rfl) (by kernel_rfl) (by kernel_rfl) (by kernel_rfl) rfl rfl ?_
    conv => whnf
    repeat (first
      | (refine And.intro ?_ ?_; (focus (first | omega | decide | exact EqOk.mk (by kernel_rfl) (by kernel_rfl) (by kernel_rfl) | exact Int.natCast_nonneg _ | ((repeat' refine And.intro ?_ ?_) <;> first | omega | exact Int.natCast_nonneg _ | (simp only [i64max, u8max, u16max, u32max, u64max]; omega) | (simp only [mulSz_eq, Cont.len, colsLen, Col.len, List.length_cons, List.length_nil, List.length_replicate, List.length_append]; first | done | omega) | (simp [mulSz, Cont.len, bne]; first | done | omega)))); conv => whnf)
      | (refine tst_in ?_ ?_; (focus (intro h_; exfalso; first | omega | ((try simp only [decide_eq_true_eq, decide_eq_false_iff_not] at h_); omega) | (simp [mulSz, Cont.len, bne] at h_; first | done | omega))); intro _; conv => whnf)
      | (refine tst_in ?_ ?_; rotate_left; (focus (intro h_; exfalso; first | omega | ((try simp only [decide_eq_true_eq, decide_eq_false_iff_not] at h_); omega) | (simp [mulSz, Cont.len, bne] at h_; first | done | omega))); intro _; conv => whnf)
      | (refine ⟨0, (show _ = _ by omega), ?_⟩; conv => whnf))
    refine ⟨⟨[0], (0 : Nat), ?_, Nat.zero_le _, fun i h => absurd h (by omega)⟩, ?_⟩
    · conv => whnf
      repeat' (first | exact True.intro | rfl | refine And.intro ?_ ?_)
      all_goals (conv => whnf)
      repeat' (first | exact True.intro | rfl | refine And.intro ?_ ?_)
      all_goals (try (first | omega | exact True.intro | rfl | assumption | (change LE.le (α := Nat) _ _; omega) | (simp; first | done | omega)))
    · intro (k : Nat) ⟨(hk : k ≤ n), (hq : ∀ i, i < k → q4 (F i))⟩
      show forceSt (st23n A n ca k) _
      conv => whnf
      refine tst_in (fun hlt => ?_) (fun hge => ?_)
      · skip
        have hlt : k < n := by simp at hlt; omega
        have hX : 0 + ((k : Int)).toNat = k := by omega
        obtain ⟨hv1, hv2, hv3⟩ := hA.2 k hlt
        by_cases h3 : F k < 4
        · skip
          conv => whnf
          repeat (first
            | (refine And.intro ?_ ?_; (focus (first | omega | decide | exact EqOk.mk (by kernel_rfl) (by kernel_rfl) (by kernel_rfl) | exact Int.natCast_nonneg _ | ((repeat' refine And.intro ?_ ?_) <;> first | omega | exact Int.natCast_nonneg _ | (simp only [i64max, u8max, u16max, u32max, u64max]; omega) | (simp only [mulSz_eq, Cont.len, colsLen, Col.len, List.length_cons, List.length_nil, List.length_replicate, List.length_append]; first | done | omega) | (simp [mulSz, Cont.len, bne]; first | done | omega)))); conv => whnf)
            | (refine tst_in ?_ ?_; (focus (intro h_; exfalso; first | omega | ((try simp only [decide_eq_true_eq, decide_eq_false_iff_not] at h_); omega) | (simp [mulSz, Cont.len, bne] at h_; first | done | omega))); intro _; conv => whnf)
            | (refine tst_in ?_ ?_; rotate_left; (focus (intro h_; exfalso; first | omega | ((try simp only [decide_eq_true_eq, decide_eq_false_iff_not] at h_); omega) | (simp [mulSz, Cont.len, bne] at h_; first | done | omega))); intro _; conv => whnf)
            | (refine ⟨0, (show _ = _ by omega), ?_⟩; conv => whnf))
          rw [hX, hv1]
          conv => whnf
          repeat (first
            | (refine And.intro ?_ ?_; (focus (first | omega | decide | exact EqOk.mk (by kernel_rfl) (by kernel_rfl) (by kernel_rfl) | exact Int.natCast_nonneg _ | ((repeat' refine And.intro ?_ ?_) <;> first | omega | exact Int.natCast_nonneg _ | (simp only [i64max, u8max, u16max, u32max, u64max]; omega) | (simp only [mulSz_eq, Cont.len, colsLen, Col.len, List.length_cons, List.length_nil, List.length_replicate, List.length_append]; first | done | omega) | (simp [mulSz, Cont.len, bne]; first | done | omega)))); conv => whnf)
            | (refine tst_in ?_ ?_; (focus (intro h_; exfalso; first | omega | ((try simp only [decide_eq_true_eq, decide_eq_false_iff_not] at h_); omega) | (simp [mulSz, Cont.len, bne] at h_; first | done | omega))); intro _; conv => whnf)
            | (refine tst_in ?_ ?_; rotate_left; (focus (intro h_; exfalso; first | omega | ((try simp only [decide_eq_true_eq, decide_eq_false_iff_not] at h_); omega) | (simp [mulSz, Cont.len, bne] at h_; first | done | omega))); intro _; conv => whnf)
            | (refine ⟨0, (show _ = _ by omega), ?_⟩; conv => whnf))
          refine ⟨[0], k + 1, ?_, ⟨(by show k + 1 ≤ n; omega), fun i hi => by by_cases h : i = k; subst h; exact ⟨hv2, h3⟩; exact hq i (by omega)⟩, (by show n - (k + 1) < n - k; omega)⟩
          conv => whnf
          repeat' (first | exact True.intro | rfl | refine And.intro ?_ ?_)
          all_goals (conv => whnf)
          repeat' (first | exact True.intro | rfl | refine And.intro ?_ ?_)
          all_goals (try (first | omega | exact True.intro | rfl | assumption | (change LE.le (α := Nat) _ _; omega) | (simp; first | done | omega)))
        · skip
          conv => whnf
          repeat (first
            | (refine And.intro ?_ ?_; (focus (first | omega | decide | exact EqOk.mk (by kernel_rfl) (by kernel_rfl) (by kernel_rfl) | exact Int.natCast_nonneg _ | ((repeat' refine And.intro ?_ ?_) <;> first | omega | exact Int.natCast_nonneg _ | (simp only [i64max, u8max, u16max, u32max, u64max]; omega) | (simp only [mulSz_eq, Cont.len, colsLen, Col.len, List.length_cons, List.length_nil, List.length_replicate, List.length_append]; first | done | omega) | (simp [mulSz, Cont.len, bne]; first | done | omega)))); conv => whnf)
            | (refine tst_in ?_ ?_; (focus (intro h_; exfalso; first | omega | ((try simp only [decide_eq_true_eq, decide_eq_false_iff_not] at h_); omega) | (simp [mulSz, Cont.len, bne] at h_; first | done | omega))); intro _; conv => whnf)
            | (refine tst_in ?_ ?_; rotate_left; (focus (intro h_; exfalso; first | omega | ((try simp only [decide_eq_true_eq, decide_eq_false_iff_not] at h_); omega) | (simp [mulSz, Cont.len, bne] at h_; first | done | omega))); intro _; conv => whnf)
            | (refine ⟨0, (show _ = _ by omega), ?_⟩; conv => whnf))
          rw [hX, hv1]
          conv => whnf
          repeat (first
            | (refine And.intro ?_ ?_; (focus (first | omega | decide | exact EqOk.mk (by kernel_rfl) (by kernel_rfl) (by kernel_rfl) | exact Int.natCast_nonneg _ | ((repeat' refine And.intro ?_ ?_) <;> first | omega | exact Int.natCast_nonneg _ | (simp only [i64max, u8max, u16max, u32max, u64max]; omega) | (simp only [mulSz_eq, Cont.len, colsLen, Col.len, List.length_cons, List.length_nil, List.length_replicate, List.length_append]; first | done | omega) | (simp [mulSz, Cont.len, bne]; first | done | omega)))); conv => whnf)
            | (refine tst_in ?_ ?_; (focus (intro h_; exfalso; first | omega | ((try simp only [decide_eq_true_eq, decide_eq_false_iff_not] at h_); omega) | (simp [mulSz, Cont.len, bne] at h_; first | done | omega))); intro _; conv => whnf)
            | (refine tst_in ?_ ?_; rotate_left; (focus (intro h_; exfalso; first | omega | ((try simp only [decide_eq_true_eq, decide_eq_false_iff_not] at h_); omega) | (simp [mulSz, Cont.len, bne] at h_; first | done | omega))); intro _; conv => whnf)
            | (refine ⟨0, (show _ = _ by omega), ?_⟩; conv => whnf))
      · skip
        have hge : k = n := by simp at hge; omega
        exact absurd ⟨h6, fun i hi => hq i (by omega)⟩ hF
  · refine qfits_of_body (C := cfgu 1) (c := c23) (ts := [2]) tokU mixed (fun _ => none) (fun _ => none)
      Try.func23 (by kernel_rfl) (by kernel_rfl) (by kernel_rfl) (by kernel_rfl) (by kernel_rfl) rfl rfl ?_
    conv => whnf
    repeat (first
      | (refine And.intro ?_ ?_; (focus (first | omega | decide | exact EqOk.mk (by kernel_rfl) (by kernel_rfl) (by kernel_rfl) | exact Int.natCast_nonneg _ | ((repeat' refine And.intro ?_ ?_) <;> first | omega | exact Int.natCast_nonneg _ | (simp only [i64max, u8max, u16max, u32max, u64max]; omega) | (simp only [mulSz_eq, Cont.len, colsLen, Col.len, List.length_cons, List.length_nil, List.length_replicate, List.length_append]; first | done | omega) | (simp [mulSz, Cont.len, bne]; first | done | omega)))); conv => whnf)
      | (refine tst_in ?_ ?_; (focus (intro h_; exfalso; first | omega | ((try simp only [decide_eq_true_eq, decide_eq_false_iff_not] at h_); omega) | (simp [mulSz, Cont.len, bne] at h_; first | done | omega))); intro _; conv => whnf)
      | (refine tst_in ?_ ?_; rotate_left; (focus (intro h_; exfalso; first | omega | ((try simp only [decide_eq_true_eq, decide_eq_false_iff_not] at h_); omega) | (simp [mulSz, Cont.len, bne] at h_; first | done | omega))); intro _; conv => whnf)
      | (refine ⟨0, (show _ = _ by omega), ?_⟩; conv => whnf))
noncomputable def c25 : Code := (Try.f25.body).getD .skip
def st25 (A : List Int) (n ca k : Nat) : St := ⟨anyTo 18 [.slice 0 0 n ca, .any, .any, .int .i64 k], [u8S false A]⟩
def inv25 (A : List Int) (F : Nat → Int) (n ca : Nat) : LInv := ⟨Nat, fun k => st25 A n ca k, fun k => k ≤ n ∧ ∀ i, i < k → q4 (F i), fun k => n - k⟩
set_option maxHeartbeats 0 in
set_option maxRecDepth 100000 in
theorem rrow_q (A : List Int) (F : Nat → Int) (n ca : Nat) (v : Bool) (hA : isU A F n) (hv : v = true ↔ okR F n) (hN : n ≤ 140737488351232) :
    QFits Try.prog 25 ⟨[.slice 0 0 n ca], [u8S false A], .bool v⟩ := by
  have hl := hA.1
  by_cases h6 : n ≤ 65536
  · refine qfits_of_body (C := cfgu 1) (c := c25) (ts := [2]) tokU mixed (fun | 4 => some (inv25 A F n ca) | _ => none) (fun _ => none)
      Try.func25 (by kernel_rfl) (by kernel_rfl) (by kernel_rfl) (by kernel_rfl) (by kernel_rfl) rfl rfl ?_
    conv => whnf
    repeat (first
      | (refine And.intro ?_ ?_; (focus (first | omega | decide | exact EqOk.mk (by kernel_rfl) (by kernel_rfl) (by kernel_rfl) | exact Int.natCast_nonneg _ | ((repeat' refine And.intro ?_ ?_) <;> first | omega | exact Int.natCast_nonneg _ | (simp only [i64max, u8max, u16max, u32max, u64max]; omega) | (simp only [mulSz_eq, Cont.len, colsLen, Col.len, List.length_cons, List.length_nil, List.length_replicate, List.length_append]; first | done | omega) | (simp [mulSz, Cont.len, bne]; first | done | omega)))); conv => whnf)
      | (refine tst_in ?_ ?_; (focus (intro h_; exfalso; first | omega | ((try simp only [decide_eq_true_eq, decide_eq_false_iff_not] at h_); omega) | (simp [mulSz, Cont.len, bne] at h_; first | done | omega))); intro _; conv => whnf)
      | (refine tst_in ?_ ?_; rotate_left; (focus (intro h_; exfalso; first | omega | ((try simp only [decide_eq_true_eq, decide_eq_false_iff_not] at h_); omega) | (simp [mulSz, Cont.len, bne] at h_; first | done | omega))); intro _; conv => whnf)
      | (refine ⟨0, (show _ = _ by omega), ?_⟩; conv => whnf))
    refine ⟨⟨[0], (0 : Nat), ?_, Nat.zero_le _, fun i h => absurd h (by omega)⟩, ?_⟩
    · conv => whnf
      repeat' (first | exact True.intro | rfl | refine And.intro ?_ ?_)
      all_goals (conv => whnf)
      repeat' (first | exact True.intro | rfl | refine And.intro ?_ ?_)
      all_goals (try (first | omega | exact True.intro | rfl | assumption | (change LE.le (α := Nat) _ _; omega) | (simp; first | done | omega)))
    · intro (k : Nat) ⟨(hk : k ≤ n), (hq : ∀ i, i < k → q4 (F i))⟩
      show forceSt (st25 A n ca k) _
      conv => whnf
      refine tst_in (fun hlt => ?_) (fun hge => ?_)
      · skip
        have hlt : k < n := by simp at hlt; omega
        have hX : 0 + ((k : Int)).toNat = k := by omega
        obtain ⟨hv1, hv2, hv3⟩ := hA.2 k hlt
        by_cases h3 : F k < 4
        · skip
          conv => whnf
          repeat (first
            | (refine And.intro ?_ ?_; (focus (first | omega | decide | exact EqOk.mk (by kernel_rfl) (by kernel_rfl) (by kernel_rfl) | exact Int.natCast_nonneg _ | ((repeat' refine And.intro ?_ ?_) <;> first | omega | exact Int.natCast_nonneg _ | (simp only [i64max, u8max, u16max, u32max, u64max]; omega) | (simp only [mulSz_eq, Cont.len, colsLen, Col.len, List.length_cons, List.length_nil, List.length_replicate, List.length_append]; first | done | omega) | (simp [mulSz, Cont.len, bne]; first | done | omega)))); conv => whnf)
            | (refine tst_in ?_ ?_; (focus (intro h_; exfalso; first | omega | ((try simp only [decide_eq_true_eq, decide_eq_false_iff_not] at h_); omega) | (simp [mulSz, Cont.len, bne] at h_; first | done | omega))); intro _; conv => whnf)
            | (refine tst_in ?_ ?_; rotate_left; (focus (intro h_; exfalso; first | omega | ((try simp only [decide_eq_true_eq, decide_eq_false_iff_not] at h_); omega) | (simp [mulSz, Cont.len, bne] at h_; first | done | omega))); intro _; conv => whnf)
            | (refine ⟨0, (show _ = _ by omega), ?_⟩; conv => whnf))
          rw [hX, hv1]
          conv => whnf
          repeat (first
            | (refine And.intro ?_ ?_; (focus (first | omega | decide | exact EqOk.mk (by kernel_rfl) (by kernel_rfl) (by kernel_rfl) | exact Int.natCast_nonneg _ | ((repeat' refine And.intro ?_ ?_) <;> first | omega | exact Int.natCast_nonneg _ | (simp only [i64max, u8max, u16max, u32max, u64max]; omega) | (simp only [mulSz_eq, Cont.len, colsLen, Col.len, List.length_cons, List.length_nil, List.length_replicate, List.length_append]; first | done | omega) | (simp [mulSz, Cont.len, bne]; first | done | omega)))); conv => whnf)
            | (refine tst_in ?_ ?_; (focus (intro h_; exfalso; first | omega | ((try simp only [decide_eq_true_eq, decide_eq_false_iff_not] at h_); omega) | (simp [mulSz, Cont.len, bne] at h_; first | done | omega))); intro _; conv => whnf)
            | (refine tst_in ?_ ?_; rotate_left; (focus (intro h_; exfalso; first | omega | ((try simp only [decide_eq_true_eq, decide_eq_false_iff_not] at h_); omega) | (simp [mulSz, Cont.len, bne] at h_; first | done | omega))); intro _; conv => whnf)
            | (refine ⟨0, (show _ = _ by omega), ?_⟩; conv => whnf))
          refine ⟨[0], k + 1, ?_, ⟨(by show k + 1 ≤ n; omega), fun i hi => by by_cases h : i = k; subst h; exact ⟨hv2, h3⟩; exact hq i (by omega)⟩, (by show n - (k + 1) < n - k; omega)⟩
          conv => whnf
          repeat' (first | exact True.intro | rfl | refine And.intro ?_ ?_)
          all_goals (conv => whnf)
          repeat' (first | exact True.intro | rfl | refine And.intro ?_ ?_)
          all_goals (try (first | omega | exact True.intro | rfl | assumption | (change LE.le (α := Nat) _ _; omega) | (simp; first | done | omega)))
        · skip
          have : v = false := by
            cases v
            · rfl
            · exact absurd ((hv.1 rfl).2 k hlt).2 h3
          subst this
          conv => whnf
          repeat (first
            | (refine And.intro ?_ ?_; (focus (first | omega | decide | exact EqOk.mk (by kernel_rfl) (by kernel_rfl) (by kernel_rfl) | exact Int.natCast_nonneg _ | ((repeat' refine And.intro ?_ ?_) <;> first | omega | exact Int.natCast_nonneg _ | (simp only [i64max, u8max, u16max, u32max, u64max]; omega) | (simp only [mulSz_eq, Cont.len, colsLen, Col.len, List.length_cons, List.length_nil, List.length_replicate, List.length_append]; first | done | omega) | (simp [mulSz, Cont.len, bne]; first | done | omega)))); conv => whnf)
            | (refine tst_in ?_ ?_; (focus (intro h_; exfalso; first | omega | ((try simp only [decide_eq_true_eq, decide_eq_false_iff_not] at h_); omega) | (simp [mulSz, Cont.len, bne] at h_; first | done | omega))); intro _; conv => whnf)
            | (refine tst_in ?_ ?_; rotate_left; (focus (intro h_; exfalso; first | omega | ((try simp only [decide_eq_true_eq, decide_eq_false_iff_not] at h_); omega) | (simp [mulSz, Cont.len, bne] at h_; first | done | omega))); intro _; conv => whnf)
            | (refine ⟨0, (show _ = _ by omega), ?_⟩; conv => whnf))
          rw [hX, hv1]
          conv => whnf
          repeat (first
            | (refine And.intro ?_ ?_; (focus (first | omega | decide | exact EqOk.mk (by kernel_rfl) (by kernel_rfl) (by kernel_rfl) | exact Int.natCast_nonneg _ | ((repeat' refine And.intro ?_ ?_) <;> first | omega | exact Int.natCast_nonneg _ | (simp only [i64max, u8max, u16max, u32max, u64max]; omega) | (simp only [mulSz_eq, Cont.len, colsLen, Col.len, List.length_cons, List.length_nil, List.length_replicate, List.length_append]; first | done | omega) | (simp [mulSz, Cont.len, bne]; first | done | omega)))); conv => whnf)
            | (refine tst_in ?_ ?_; (focus (intro h_; exfalso; first | omega | ((try simp only [decide_eq_true_eq, decide_eq_false_iff_not] at h_); omega) | (simp [mulSz, Cont.len, bne] at h_; first | done | omega))); intro _; conv => whnf)
            | (refine tst_in ?_ ?_; rotate_left; (focus (intro h_; exfalso; first | omega | ((try simp only [decide_eq_true_eq, decide_eq_false_iff_not] at h_); omega) | (simp [mulSz, Cont.len, bne] at h_; first | done | omega))); intro _; conv => whnf)
            | (refine ⟨0, (show _ = _ by omega), ?_⟩; conv => whnf))
      · skip
        have hge : k = n := by simp at hge; omega
        have : v = true := hv.2 ⟨h6, fun i hi => hq i (by omega)⟩
        subst this
        conv => whnf
        repeat (first
          | (refine And.intro ?_ ?_; (focus (first | omega | decide | exact EqOk.mk (by kernel_rfl) (by kernel_rfl) (by kernel_rfl) | exact Int.natCast_nonneg _ | ((repeat' refine And.intro ?_ ?_) <;> first | omega | exact Int.natCast_nonneg _ | (simp only [i64max, u8max, u16max, u32max, u64max]; omega) | (simp only [mulSz_eq, Cont.len, colsLen, Col.len, List.length_cons, List.length_nil, List.length_replicate, List.length_append]; first | done | omega) | (simp [mulSz, Cont.len, bne]; first | done | omega)))); conv => whnf)
          | (refine tst_in ?_ ?_; (focus (intro h_; exfalso; first | omega | ((try simp only [decide_eq_true_eq, decide_eq_false_iff_not] at h_); omega) | (simp [mulSz, Cont.len, bne] at h_; first | done | omega))); intro _; conv => whnf)
          | (refine tst_in ?_ ?_; rotate_left; (focus (intro h_; exfalso; first | omega | ((try simp only [decide_eq_true_eq, decide_eq_false_iff_not] at h_); omega) | (simp [mulSz, Cont.len, bne] at h_; first | done | omega))); intro _; conv => whnf)
          | (refine ⟨0, (show _ = _ by omega), ?_⟩; conv => whnf))
  · have : v = false := by
      cases v
      · rfl
      · exact absurd (hv.1 rfl).1 h6
    subst this
    refine qfits_of_body (C := cfgu 1) (c := c25) (ts := [2]) tokU mixed (fun _ => none) (fun _ => none)
      Try.func25 (by kernel_rfl) (by kernel_rfl) (by kernel_rfl) (by kernel_rfl) (by kernel_rfl) rfl rfl ?_
    conv => whnf
    repeat (first
      | (refine And.intro ?_ ?_; (focus (first | omega | decide | exact EqOk.mk (by kernel_rfl) (by kernel_rfl) (by kernel_rfl) | exact Int.natCast_nonneg _ | ((repeat' refine And.intro ?_ ?_) <;> first | omega | exact Int.natCast_nonneg _ | (simp only [i64max, u8max, u16max, u32max, u64max]; omega) | (simp only [mulSz_eq, Cont.len, colsLen, Col.len, List.length_cons, List.length_nil, List.length_replicate, List.length_append]; first | done | omega) | (simp [mulSz, Cont.len, bne]; first | done | omega)))); conv => whnf)
      | (refine tst_in ?_ ?_; (focus (intro h_; exfalso; first | omega | ((try simp only [decide_eq_true_eq, decide_eq_false_iff_not] at h_); omega) | (simp [mulSz, Cont.len, bne] at h_; first | done | omega))); intro _; conv => whnf)
      | (refine tst_in ?_ ?_; rotate_left; (focus (intro h_; exfalso; first | omega | ((try simp only [decide_eq_true_eq, decide_eq_false_iff_not] at h_); omega) | (simp [mulSz, Cont.len, bne] at h_; first | done | omega))); intro _; conv => whnf)
      | (refine ⟨0, (show _ = _ by omega), ?_⟩; conv => whnf))
end Go.Proofs.Yteefbedjblppiaa

set_option linter.unusedVariables false
set_option linter.unusedSimpArgs false
namespace Go.Proofs.Yteefbedjblppiaa
open Go Go.Fw
theorem fits_weak {P : Program} {f : FuncId} {a : List AV} {hp : List Seg} {o1 o2 : FOut} (h : Fits P f ⟨a, hp, [o1]⟩) (hw : ∀ y, o1.pp y → ∃ y2, o2.pp y2 ∧ o2.res y2 = o1.res y ∧ o2.segs y2 = o1.segs y) : Fits P f ⟨a, hp, [o2]⟩ :=
  ⟨h.1, fun w0 L ρ vs hh hd => (h.2 w0 L ρ vs hh hd).mono fun e w' ⟨o, ho, y, hy, v, ρ', e1, e2, e3, e4⟩ => by
    obtain rfl := List.mem_singleton.1 ho
    obtain ⟨y2, p, r, s⟩ := hw y hy
    exact ⟨o2, List.mem_singleton.2 rfl, y2, p, v, ρ', e1, by rw [r]; exact e2, by rw [s]; exact e3, e4⟩⟩
def nn (v : Bool) (n : Nat) : Nat := match v with | true => n | false => 0
def ee (v : Bool) : Int := match v with | true => 0 | false => 1
def uOut (D : List Seg) (k : Nat) (f : Nat → Int) (n : Nat) (e : Int) : FOut := ⟨List Int, fun _ => True, fun t => .tup [.slice k 0 n (n + t.length), .int .i64 e], fun t => D ++ [u8S true (tab f n ++ t)]⟩
def tOut (D : List Seg) (k : Nat) (f : Nat → Bool) (n : Nat) (e : Int) : FOut := ⟨List Bool, fun _ => True, fun t => .tup [.slice k 0 n (n + t.length), .int .i64 e], fun t => D ++ [boS true (tab f n ++ t)]⟩
theorem push_tab {α : Type} (F : Nat → α) (t t1 : List α) (i : Nat) (x : α) (hx : x = F i) : List.take i (List.drop 0 (tab F i ++ t)) ++ [x] ++ t1 = tab F (i + 1) ++ t1 := by
  rw [List.drop_zero, List.take_left' (tab_len F i), hx, tab_snoc]
theorem okF {A : List Int} {F : Nat → Int} {n : Nat} (hA : isU A F n) (h : okR F n) : ∀ i, i < n → A.getD (0 + i) 0 = F i ∧ q4 (F i) := fun i hi => ⟨by rw [Nat.zero_add]; exact (hA.2 i hi).1, h.2 i hi⟩
set_option maxHeartbeats 0 in
set_option maxRecDepth 100000 in
theorem Into_u (A : List Int) (F : Nat → Int) (n ca : Nat) (v : Bool) (hA : isU A F n) (hv : v = true ↔ okR F n) (hN : n ≤ 140737488351232) :
    Fits Try.prog 11 ⟨[.slice 0 0 n ca], [u8S false A], [uOut [.dead] 1 (inq F) (nn v n) (ee v)]⟩ := by
  cases v
  · have IR := isRow_n A F n ca hA (fun h => absurd (hv.2 h) (by decide)) hN
    refine fits_of_body (C := cfgu 1) (c := c11) (ts := [2, 3]) tokU mixed (fun _ => none) (fun _ => none)
      Try.func11 (by kernel_rfl) (by kernel_rfl) (by kernel_rfl) (by kernel_rfl) rfl ?_
    conv => whnf
    repeat (first
      | (refine And.intro ?_ ?_; (focus (first | omega | decide | exact EqOk.mk (by kernel_rfl) (by kernel_rfl) (by kernel_rfl) | exact Int.natCast_nonneg _ | ((repeat' refine And.intro ?_ ?_) <;> first | omega | exact Int.natCast_nonneg _ | (simp only [i64max, u8max, u16max, u32max, u64max]; omega) | (simp only [mulSz_eq, Cont.len, colsLen, Col.len, List.length_cons, List.length_nil, List.length_replicate, List.length_append]; first | done | omega) | (simp [mulSz, Cont.len, bne]; first | done | omega)))); conv => whnf)
      | (refine tst_in ?_ ?_; (focus (intro h_; exfalso; first | omega | ((try simp only [decide_eq_true_eq, decide_eq_false_iff_not] at h_); omega) | (simp [mulSz, Cont.len, bne] at h_; first | done | omega))); intro _; conv => whnf)
      | (refine tst_in ?_ ?_; rotate_left; (focus (intro h_; exfalso; first | omega | ((try simp only [decide_eq_true_eq, decide_eq_false_iff_not] at h_); omega) | (simp [mulSz, Cont.len, bne] at h_; first | done | omega))); intro _; conv => whnf)
      | (refine ⟨0, (show _ = _ by omega), ?_⟩; conv => whnf))
    refine ⟨_, [0], IR, ?_⟩
    conv => whnf
    iterate 2
     refine And.intro ?_ ?_
     focus
      conv => whnf
      repeat' (first | exact True.intro | rfl | refine And.intro ?_ ?_)
      all_goals (conv => whnf)
      repeat' (first | exact True.intro | rfl | refine And.intro ?_ ?_)
      all_goals (try (first | rfl | omega | (simp; first | done | omega)))
    conv => whnf
    conv => whnf
    repeat (first
      | (refine And.intro ?_ ?_; (focus (first | omega | decide | exact EqOk.mk (by kernel_rfl) (by kernel_rfl) (by kernel_rfl) | exact Int.natCast_nonneg _ | ((repeat' refine And.intro ?_ ?_) <;> first | omega | exact Int.natCast_nonneg _ | (simp only [i64max, u8max, u16max, u32max, u64max]; omega) | (simp only [mulSz_eq, Cont.len, colsLen, Col.len, List.length_cons, List.length_nil, List.length_replicate, List.length_append]; first | done | omega) | (simp [mulSz, Cont.len, bne]; first | done | omega)))); conv => whnf)
      | (refine tst_in ?_ ?_; (focus (intro h_; exfalso; first | omega | ((try simp only [decide_eq_true_eq, decide_eq_false_iff_not] at h_); omega) | (simp [mulSz, Cont.len, bne] at h_; first | done | omega))); intro _; conv => whnf)
      | (refine tst_in ?_ ?_; rotate_left; (focus (intro h_; exfalso; first | omega | ((try simp only [decide_eq_true_eq, decide_eq_false_iff_not] at h_); omega) | (simp [mulSz, Cont.len, bne] at h_; first | done | omega))); intro _; conv => whnf)
      | (refine ⟨0, (show _ = _ by omega), ?_⟩; conv => whnf))
    refine .inl ⟨[], [0, 9], ?_⟩
    conv => whnf
    repeat' (first | exact True.intro | rfl | refine And.intro ?_ ?_)
    all_goals (conv => whnf)
    repeat' (first | exact True.intro | rfl | refine And.intro ?_ ?_)
    all_goals (try omega)
  · have h := hv.1 rfl
    exact fits_weak (Into_f A F 0 n ca (by have := hA.1; omega) h.1 (okF hA h)) fun y _ => ⟨[], True.intro, rfl, by show [Seg.dead, Seg.seg true (.ints .u8 (tab (inq F) n ++ []))] = _; rw [List.append_nil]; rfl⟩
set_option maxHeartbeats 0 in
set_option maxRecDepth 100000 in
theorem Out_u (A : List Int) (F : Nat → Int) (n ca : Nat) (v : Bool) (hA : isU A F n) (hv : v = true ↔ okR F n) (hN : n ≤ 140737488351232) :
    Fits Try.prog 12 ⟨[.slice 0 0 n ca], [u8S false A], [uOut [.dead] 1 (outq F) (nn v n) (ee v)]⟩ := by
  cases v
  · have IR := isRow_n A F n ca hA (fun h => absurd (hv.2 h) (by decide)) hN
    refine fits_of_body (C := cfgu 1) (c := c12) (ts := [2, 3]) tokU mixed (fun _ => none) (fun _ => none)
      Try.func12 (by kernel_rfl) (by kernel_rfl) (by kernel_rfl) (by kernel_rfl) rfl ?_
    conv => whnf
    repeat (first
      | (refine And.intro ?_ ?_; (focus (first | omega | decide | exact EqOk.mk (by kernel_rfl) (by kernel_rfl) (by kernel_rfl) | exact Int.natCast_nonneg _ | ((repeat' refine And.intro ?_ ?_) <;> first | omega | exact Int.natCast_nonneg _ | (simp only [i64max, u8max, u16max, u32max, u64max]; omega) | (simp only [mulSz_eq, Cont.len, colsLen, Col.len, List.length_cons, List.length_nil, List.length_replicate, List.length_append]; first | done | omega) | (simp [mulSz, Cont.len, bne]; first | done | omega)))); conv => whnf)
      | (refine tst_in ?_ ?_; (focus (intro h_; exfalso; first | omega | ((try simp only [decide_eq_true_eq, decide_eq_false_iff_not] at h_); omega) | (simp [mulSz, Cont.len, bne] at h_; first | done | omega))); intro _; conv => whnf)
      | (refine tst_in ?_ ?_; rotate_left; (focus (intro h_; exfalso; first | omega | ((try simp only [decide_eq_true_eq, decide_eq_false_iff_not] at h_); omega) | (simp [mulSz, Cont.len, bne] at h_; first | done | omega))); intro _; conv => whnf)
      | (refine ⟨0, (show _ = _ by omega), ?_⟩; conv => whnf))
    refine ⟨_, [0], IR, ?_⟩
    conv => whnf
    iterate 2
     refine And.intro ?_ ?_
     focus
      conv => whnf
      repeat' (first | exact True.intro | rfl | refine And.intro ?_ ?_)
      all_goals (conv => whnf)
      repeat' (first | exact True.intro | rfl | refine And.intro ?_ ?_)
      all_goals (try (first | rfl | omega | (simp; first | done | omega)))
    conv => whnf
    conv => whnf
    repeat (first
      | (refine And.intro ?_ ?_; (focus (first | omega | decide | exact EqOk.mk (by kernel_rfl) (by kernel_rfl) (by kernel_rfl) | exact Int.natCast_nonneg _ | ((repeat' refine And.intro ?_ ?_) <;> first | omega | exact Int.natCast_nonneg _ | (simp only [i64max, u8max, u16max, u32max, u64max]; omega) | (simp only [mulSz_eq, Cont.len, colsLen, Col.len, List.length_cons, List.length_nil, List.length_replicate, List.length_append]; first | done | omega) | (simp [mulSz, Cont.len, bne]; first | done | omega)))); conv => whnf)
      | (refine tst_in ?_ ?_; (focus (intro h_; exfalso; first | omega | ((try simp only [decide_eq_true_eq, decide_eq_false_iff_not] at h_); omega) | (simp [mulSz, Cont.len, bne] at h_; first | done | omega))); intro _; conv => whnf)
      | (refine tst_in ?_ ?_; rotate_left; (focus (intro h_; exfalso; first | omega | ((try simp only [decide_eq_true_eq, decide_eq_false_iff_not] at h_); omega) | (simp [mulSz, Cont.len, bne] at h_; first | done | omega))); intro _; conv => whnf)
      | (refine ⟨0, (show _ = _ by omega), ?_⟩; conv => whnf))
    refine .inl ⟨[], [0, 9], ?_⟩
    conv => whnf
    repeat' (first | exact True.intro | rfl | refine And.intro ?_ ?_)
    all_goals (conv => whnf)
    repeat' (first | exact True.intro | rfl | refine And.intro ?_ ?_)
    all_goals (try omega)
  · have h := hv.1 rfl
    exact fits_weak (Out_f A F 0 n ca (by have := hA.1; omega) h.1 (okF hA h)) fun y _ => ⟨[], True.intro, rfl, by show [Seg.dead, Seg.seg true (.ints .u8 (tab (outq F) n ++ []))] = _; rw [List.append_nil]; rfl⟩
set_option maxHeartbeats 0 in
set_option maxRecDepth 100000 in
theorem Bits_u (A : List Int) (F : Nat → Int) (n ca : Nat) (v : Bool) (hA : isU A F n) (hv : v = true ↔ okR F n ∧ n ≤ 16384) (hN : n ≤ 140737488351232) :
    Fits Try.prog 13 ⟨[.slice 0 0 n ca], [u8S false A], [tOut [.dead] 1 (bitq F) (nn v (2 * n)) (ee v)]⟩ := by
  cases v
  · refine fits_of_body (C := cfgu 1) (c := c13) (ts := [2, 3]) tokU mixed (fun _ => none) (fun _ => none)
      Try.func13 (by kernel_rfl) (by kernel_rfl) (by kernel_rfl) (by kernel_rfl) rfl ?_
    by_cases hr : okR F n
    · have h1 : ¬ n ≤ 16384 := fun h => absurd (hv.2 ⟨hr, h⟩) (by decide)
      have IR := isRow_y A F 0 n ca (by have := hA.1; omega) hr.1 (okF hA hr)
      conv => whnf
      repeat (first
        | (refine And.intro ?_ ?_; (focus (first | omega | decide | exact EqOk.mk (by kernel_rfl) (by kernel_rfl) (by kernel_rfl) | exact Int.natCast_nonneg _ | ((repeat' refine And.intro ?_ ?_) <;> first | omega | exact Int.natCast_nonneg _ | (simp only [i64max, u8max, u16max, u32max, u64max]; omega) | (simp only [mulSz_eq, Cont.len, colsLen, Col.len, List.length_cons, List.length_nil, List.length_replicate, List.length_append]; first | done | omega) | (simp [mulSz, Cont.len, bne]; first | done | omega)))); conv => whnf)
        | (refine tst_in ?_ ?_; (focus (intro h_; exfalso; first | omega | ((try simp only [decide_eq_true_eq, decide_eq_false_iff_not] at h_); omega) | (simp [mulSz, Cont.len, bne] at h_; first | done | omega))); intro _; conv => whnf)
        | (refine tst_in ?_ ?_; rotate_left; (focus (intro h_; exfalso; first | omega | ((try simp only [decide_eq_true_eq, decide_eq_false_iff_not] at h_); omega) | (simp [mulSz, Cont.len, bne] at h_; first | done | omega))); intro _; conv => whnf)
        | (refine ⟨0, (show _ = _ by omega), ?_⟩; conv => whnf))
      refine ⟨_, [0], IR, ?_⟩
      conv => whnf
      iterate 2
       refine And.intro ?_ ?_
       focus
        conv => whnf
        repeat' (first | exact True.intro | rfl | refine And.intro ?_ ?_)
        all_goals (conv => whnf)
        repeat' (first | exact True.intro | rfl | refine And.intro ?_ ?_)
        all_goals (try (first | rfl | omega | (simp; first | done | omega)))
      conv => whnf
      conv => whnf
      repeat (first
        | (refine And.intro ?_ ?_; (focus (first | omega | decide | exact EqOk.mk (by kernel_rfl) (by kernel_rfl) (by kernel_rfl) | exact Int.natCast_nonneg _ | ((repeat' refine And.intro ?_ ?_) <;> first | omega | exact Int.natCast_nonneg _ | (simp only [i64max, u8max, u16max, u32max, u64max]; omega) | (simp only [mulSz_eq, Cont.len, colsLen, Col.len, List.length_cons, List.length_nil, List.length_replicate, List.length_append]; first | done | omega) | (simp [mulSz, Cont.len, bne]; first | done | omega)))); conv => whnf)
        | (refine tst_in ?_ ?_; (focus (intro h_; exfalso; first | omega | ((try simp only [decide_eq_true_eq, decide_eq_false_iff_not] at h_); omega) | (simp [mulSz, Cont.len, bne] at h_; first | done | omega))); intro _; conv => whnf)
        | (refine tst_in ?_ ?_; rotate_left; (focus (intro h_; exfalso; first | omega | ((try simp only [decide_eq_true_eq, decide_eq_false_iff_not] at h_); omega) | (simp [mulSz, Cont.len, bne] at h_; first | done | omega))); intro _; conv => whnf)
        | (refine ⟨0, (show _ = _ by omega), ?_⟩; conv => whnf))
      refine .inl ⟨[], [0, 9], ?_⟩
      conv => whnf
      repeat' (first | exact True.intro | rfl | refine And.intro ?_ ?_)
      all_goals (conv => whnf)
      repeat' (first | exact True.intro | rfl | refine And.intro ?_ ?_)
      all_goals (try omega)
    · have IR := isRow_n A F n ca hA hr hN
      conv => whnf
      repeat (first
        | (refine And.intro ?_ ?_; (focus (first | omega | decide | exact EqOk.mk (by kernel_rfl) (by kernel_rfl) (by kernel_rfl) | exact Int.natCast_nonneg _ | ((repeat' refine And.intro ?_ ?_) <;> first | omega | exact Int.natCast_nonneg _ | (simp only [i64max, u8max, u16max, u32max, u64max]; omega) | (simp only [mulSz_eq, Cont.len, colsLen, Col.len, List.length_cons, List.length_nil, List.length_replicate, List.length_append]; first | done | omega) | (simp [mulSz, Cont.len, bne]; first | done | omega)))); conv => whnf)
        | (refine tst_in ?_ ?_; (focus (intro h_; exfalso; first | omega | ((try simp only [decide_eq_true_eq, decide_eq_false_iff_not] at h_); omega) | (simp [mulSz, Cont.len, bne] at h_; first | done | omega))); intro _; conv => whnf)
        | (refine tst_in ?_ ?_; rotate_left; (focus (intro h_; exfalso; first | omega | ((try simp only [decide_eq_true_eq, decide_eq_false_iff_not] at h_); omega) | (simp [mulSz, Cont.len, bne] at h_; first | done | omega))); intro _; conv => whnf)
        | (refine ⟨0, (show _ = _ by omega), ?_⟩; conv => whnf))
      refine ⟨_, [0], IR, ?_⟩
      conv => whnf
      iterate 2
       refine And.intro ?_ ?_
       focus
        conv => whnf
        repeat' (first | exact True.intro | rfl | refine And.intro ?_ ?_)
        all_goals (conv => whnf)
        repeat' (first | exact True.intro | rfl | refine And.intro ?_ ?_)
        all_goals (try (first | rfl | omega | (simp; first | done | omega)))
      conv => whnf
      conv => whnf
      repeat (first
        | (refine And.intro ?_ ?_; (focus (first | omega | decide | exact EqOk.mk (by kernel_rfl) (by kernel_rfl) (by kernel_rfl) | exact Int.natCast_nonneg _ | ((repeat' refine And.intro ?_ ?_) <;> first | omega | exact Int.natCast_nonneg _ | (simp only [i64max, u8max, u16max, u32max, u64max]; omega) | (simp only [mulSz_eq, Cont.len, colsLen, Col.len, List.length_cons, List.length_nil, List.length_replicate, List.length_append]; first | done | omega) | (simp [mulSz, Cont.len, bne]; first | done | omega)))); conv => whnf)
        | (refine tst_in ?_ ?_; (focus (intro h_; exfalso; first | omega | ((try simp only [decide_eq_true_eq, decide_eq_false_iff_not] at h_); omega) | (simp [mulSz, Cont.len, bne] at h_; first | done | omega))); intro _; conv => whnf)
        | (refine tst_in ?_ ?_; rotate_left; (focus (intro h_; exfalso; first | omega | ((try simp only [decide_eq_true_eq, decide_eq_false_iff_not] at h_); omega) | (simp [mulSz, Cont.len, bne] at h_; first | done | omega))); intro _; conv => whnf)
        | (refine ⟨0, (show _ = _ by omega), ?_⟩; conv => whnf))
      refine .inl ⟨[], [0, 9], ?_⟩
      conv => whnf
      repeat' (first | exact True.intro | rfl | refine And.intro ?_ ?_)
      all_goals (conv => whnf)
      repeat' (first | exact True.intro | rfl | refine And.intro ?_ ?_)
      all_goals (try omega)
  · have h := hv.1 rfl
    exact fits_weak (Bits_f A F 0 n ca (by have := hA.1; omega) h.2 (okF hA h.1)) fun y _ => ⟨y, True.intro, rfl, rfl⟩
noncomputable def c15 : Code := (Try.f15.body).getD .skip
def st15 (A : List Int) (F : Nat → Int) (n ca k : Nat) (t : List Int) : St := ⟨anyTo 28 [.slice 0 0 n ca, .any, .any, .any, .slice 1 0 k (k + t.length), .int .u8 (sumq F k), .int .i64 k], [u8S false A, u8S true (tab (inq F) k ++ t)]⟩
def inv15 (A : List Int) (F : Nat → Int) (n ca : Nat) : LInv := ⟨Nat × List Int, fun y => st15 A F n ca y.1 y.2, fun y => y.1 ≤ n, fun y => n - y.1⟩
set_option maxHeartbeats 0 in
set_option maxRecDepth 100000 in
theorem rInto_u (A : List Int) (F : Nat → Int) (n ca : Nat) (v : Bool) (hA : isU A F n) (hv : v = true ↔ okR F n) (hN : n ≤ 140737488351232) :
    Fits Try.prog 15 ⟨[.slice 0 0 n ca], [u8S false A], [uOut [.dead] 1 (inq F) (nn v n) (ee v)]⟩ := by
  have RQ := rrow_q A F n ca v hA hv hN
  have hl := hA.1
  cases v
  · refine fits_of_body (C := cfgu 1) (c := c15) (ts := [2, 3]) tokU mixed (fun _ => none) (fun _ => none)
      Try.func15 (by kernel_rfl) (by kernel_rfl) (by kernel_rfl) (by kernel_rfl) rfl ?_
    conv => whnf
    repeat (first
      | (refine And.intro ?_ ?_; (focus (first | omega | decide | exact EqOk.mk (by kernel_rfl) (by kernel_rfl) (by kernel_rfl) | exact Int.natCast_nonneg _ | ((repeat' refine And.intro ?_ ?_) <;> first | omega | exact Int.natCast_nonneg _ | (simp only [i64max, u8max, u16max, u32max, u64max]; omega) | (simp only [mulSz_eq, Cont.len, colsLen, Col.len, List.length_cons, List.length_nil, List.length_replicate, List.length_append]; first | done | omega) | (simp [mulSz, Cont.len, bne]; first | done | omega)))); conv => whnf)
      | (refine tst_in ?_ ?_; (focus (intro h_; exfalso; first | omega | ((try simp only [decide_eq_true_eq, decide_eq_false_iff_not] at h_); omega) | (simp [mulSz, Cont.len, bne] at h_; first | done | omega))); intro _; conv => whnf)
      | (refine tst_in ?_ ?_; rotate_left; (focus (intro h_; exfalso; first | omega | ((try simp only [decide_eq_true_eq, decide_eq_false_iff_not] at h_); omega) | (simp [mulSz, Cont.len, bne] at h_; first | done | omega))); intro _; conv => whnf)
      | (refine ⟨0, (show _ = _ by omega), ?_⟩; conv => whnf))
    refine ⟨_, [0], RQ, ?_⟩
    conv => whnf
    iterate 2
     refine And.intro ?_ ?_
     focus
      conv => whnf
      repeat' (first | exact True.intro | rfl | refine And.intro ?_ ?_)
      all_goals (conv => whnf)
      repeat' (first | exact True.intro | rfl | refine And.intro ?_ ?_)
      all_goals (try (first | rfl | omega | (simp; first | done | omega)))
    conv => whnf
    conv => whnf
    repeat (first
      | (refine And.intro ?_ ?_; (focus (first | omega | decide | exact EqOk.mk (by kernel_rfl) (by kernel_rfl) (by kernel_rfl) | exact Int.natCast_nonneg _ | ((repeat' refine And.intro ?_ ?_) <;> first | omega | exact Int.natCast_nonneg _ | (simp only [i64max, u8max, u16max, u32max, u64max]; omega) | (simp only [mulSz_eq, Cont.len, colsLen, Col.len, List.length_cons, List.length_nil, List.length_replicate, List.length_append]; first | done | omega) | (simp [mulSz, Cont.len, bne]; first | done | omega)))); conv => whnf)
      | (refine tst_in ?_ ?_; (focus (intro h_; exfalso; first | omega | ((try simp only [decide_eq_true_eq, decide_eq_false_iff_not] at h_); omega) | (simp [mulSz, Cont.len, bne] at h_; first | done | omega))); intro _; conv => whnf)
      | (refine tst_in ?_ ?_; rotate_left; (focus (intro h_; exfalso; first | omega | ((try simp only [decide_eq_true_eq, decide_eq_false_iff_not] at h_); omega) | (simp [mulSz, Cont.len, bne] at h_; first | done | omega))); intro _; conv => whnf)
      | (refine ⟨0, (show _ = _ by omega), ?_⟩; conv => whnf))
    refine .inl ⟨[], [0, 9], ?_⟩
    conv => whnf
    repeat' (first | exact True.intro | rfl | refine And.intro ?_ ?_)
    all_goals (conv => whnf)
    repeat' (first | exact True.intro | rfl | refine And.intro ?_ ?_)
    all_goals (try omega)
  · have h := hv.1 rfl
    have h6 := h.1
    refine fits_of_body (C := cfgu 1) (c := c15) (ts := [2, 3]) tokU mixed (fun | 6 => some (inv15 A F n ca) | _ => none) (fun _ => none)
      Try.func15 (by kernel_rfl) (by kernel_rfl) (by kernel_rfl) (by kernel_rfl) rfl ?_
    conv => whnf
    repeat (first
      | (refine And.intro ?_ ?_; (focus (first | omega | decide | exact EqOk.mk (by kernel_rfl) (by kernel_rfl) (by kernel_rfl) | exact Int.natCast_nonneg _ | ((repeat' refine And.intro ?_ ?_) <;> first | omega | exact Int.natCast_nonneg _ | (simp only [i64max, u8max, u16max, u32max, u64max]; omega) | (simp only [mulSz_eq, Cont.len, colsLen, Col.len, List.length_cons, List.length_nil, List.length_replicate, List.length_append]; first | done | omega) | (simp [mulSz, Cont.len, bne]; first | done | omega)))); conv => whnf)
      | (refine tst_in ?_ ?_; (focus (intro h_; exfalso; first | omega | ((try simp only [decide_eq_true_eq, decide_eq_false_iff_not] at h_); omega) | (simp [mulSz, Cont.len, bne] at h_; first | done | omega))); intro _; conv => whnf)
      | (refine tst_in ?_ ?_; rotate_left; (focus (intro h_; exfalso; first | omega | ((try simp only [decide_eq_true_eq, decide_eq_false_iff_not] at h_); omega) | (simp [mulSz, Cont.len, bne] at h_; first | done | omega))); intro _; conv => whnf)
      | (refine ⟨0, (show _ = _ by omega), ?_⟩; conv => whnf))
    refine ⟨_, [0], RQ, ?_⟩
    conv => whnf
    iterate 2
     refine And.intro ?_ ?_
     focus
      conv => whnf
      repeat' (first | exact True.intro | rfl | refine And.intro ?_ ?_)
      all_goals (conv => whnf)
      repeat' (first | exact True.intro | rfl | refine And.intro ?_ ?_)
      all_goals (try (first | rfl | omega | (simp; first | done | omega)))
    conv => whnf
    conv => whnf
    repeat (first
      | (refine And.intro ?_ ?_; (focus (first | omega | decide | exact EqOk.mk (by kernel_rfl) (by kernel_rfl) (by kernel_rfl) | exact Int.natCast_nonneg _ | ((repeat' refine And.intro ?_ ?_) <;> first | omega | exact Int.natCast_nonneg _ | (simp only [i64max, u8max, u16max, u32max, u64max]; omega) | (simp only [mulSz_eq, Cont.len, colsLen, Col.len, List.length_cons, List.length_nil, List.length_replicate, List.length_append]; first | done | omega) | (simp [mulSz, Cont.len, bne]; first | done | omega)))); conv => whnf)
      | (refine tst_in ?_ ?_; (focus (intro h_; exfalso; first | omega | ((try simp only [decide_eq_true_eq, decide_eq_false_iff_not] at h_); omega) | (simp [mulSz, Cont.len, bne] at h_; first | done | omega))); intro _; conv => whnf)
      | (refine tst_in ?_ ?_; rotate_left; (focus (intro h_; exfalso; first | omega | ((try simp only [decide_eq_true_eq, decide_eq_false_iff_not] at h_); omega) | (simp [mulSz, Cont.len, bne] at h_; first | done | omega))); intro _; conv => whnf)
      | (refine ⟨0, (show _ = _ by omega), ?_⟩; conv => whnf))
    refine ⟨⟨[0, 9], (0, []), ?_, Nat.zero_le _⟩, ?_⟩
    · show stLe _ _ (st15 A F n ca 0 []) _
      conv => whnf
      repeat' (first | exact True.intro | rfl | refine And.intro ?_ ?_)
      all_goals (conv => whnf)
      repeat' (first | exact True.intro | rfl | refine And.intro ?_ ?_)
      all_goals (try omega)
    · rintro ⟨k, t⟩ (hk : k ≤ n)
      show forceSt (st15 A F n ca k t) _
      conv => whnf
      repeat (first
        | (refine And.intro ?_ ?_; (focus (first | omega | decide | exact EqOk.mk (by kernel_rfl) (by kernel_rfl) (by kernel_rfl) | exact Int.natCast_nonneg _ | ((repeat' refine And.intro ?_ ?_) <;> first | omega | exact Int.natCast_nonneg _ | (simp only [i64max, u8max, u16max, u32max, u64max]; omega) | (simp only [mulSz_eq, Cont.len, colsLen, Col.len, List.length_cons, List.length_nil, List.length_replicate, List.length_append]; first | done | omega) | (simp [mulSz, Cont.len, bne]; first | done | omega)))); conv => whnf)
        | (refine tst_in ?_ ?_; (focus (intro h_; exfalso; first | omega | ((try simp only [decide_eq_true_eq, decide_eq_false_iff_not] at h_); omega) | (simp [mulSz, Cont.len, bne] at h_; first | done | omega))); intro _; conv => whnf)
        | (refine tst_in ?_ ?_; rotate_left; (focus (intro h_; exfalso; first | omega | ((try simp only [decide_eq_true_eq, decide_eq_false_iff_not] at h_); omega) | (simp [mulSz, Cont.len, bne] at h_; first | done | omega))); intro _; conv => whnf)
        | (refine ⟨0, (show _ = _ by omega), ?_⟩; conv => whnf))
      refine tst_in (fun hlt => ?_) (fun hge => ?_)
      · skip
        have hlt : k < n := by simp at hlt; omega
        have hX : 0 + ((k : Int)).toNat = k := by omega
        obtain ⟨hv1, hv2, hv3⟩ := hA.2 k hlt
        obtain ⟨hq1, hq2⟩ := h.2 k hlt
        obtain ⟨hs1, hs2⟩ := sumq_in F k
        conv => whnf
        repeat (first
          | (refine And.intro ?_ ?_; (focus (first | omega | decide | exact EqOk.mk (by kernel_rfl) (by kernel_rfl) (by kernel_rfl) | exact Int.natCast_nonneg _ | ((repeat' refine And.intro ?_ ?_) <;> first | omega | exact Int.natCast_nonneg _ | (simp only [i64max, u8max, u16max, u32max, u64max]; omega) | (simp only [mulSz_eq, Cont.len, colsLen, Col.len, List.length_cons, List.length_nil, List.length_replicate, List.length_append]; first | done | omega) | (simp [mulSz, Cont.len, bne]; first | done | omega)))); conv => whnf)
          | (refine tst_in ?_ ?_; (focus (intro h_; exfalso; first | omega | ((try simp only [decide_eq_true_eq, decide_eq_false_iff_not] at h_); omega) | (simp [mulSz, Cont.len, bne] at h_; first | done | omega))); intro _; conv => whnf)
          | (refine tst_in ?_ ?_; rotate_left; (focus (intro h_; exfalso; first | omega | ((try simp only [decide_eq_true_eq, decide_eq_false_iff_not] at h_); omega) | (simp [mulSz, Cont.len, bne] at h_; first | done | omega))); intro _; conv => whnf)
          | (refine ⟨0, (show _ = _ by omega), ?_⟩; conv => whnf))
        rw [hX, hv1]
        conv => whnf
        repeat (first
          | (refine And.intro ?_ ?_; (focus (first | omega | decide | exact EqOk.mk (by kernel_rfl) (by kernel_rfl) (by kernel_rfl) | exact Int.natCast_nonneg _ | ((repeat' refine And.intro ?_ ?_) <;> first | omega | exact Int.natCast_nonneg _ | (simp only [i64max, u8max, u16max, u32max, u64max]; omega) | (simp only [mulSz_eq, Cont.len, colsLen, Col.len, List.length_cons, List.length_nil, List.length_replicate, List.length_append, u8max, tab_len]; first | done | omega) | (simp [mulSz, Cont.len, bne, u8max, tab_len]; first | done | omega)))); conv => whnf)
          | (refine tst_in ?_ ?_; (focus (intro h_; exfalso; first | omega | ((try simp only [decide_eq_true_eq, decide_eq_false_iff_not] at h_); omega) | (simp [mulSz, Cont.len, bne, u8max, tab_len] at h_; first | done | omega))); intro _; conv => whnf)
          | (refine tst_in ?_ ?_; rotate_left; (focus (intro h_; exfalso; first | omega | ((try simp only [decide_eq_true_eq, decide_eq_false_iff_not] at h_); omega) | (simp [mulSz, Cont.len, bne, u8max, tab_len] at h_; first | done | omega))); intro _; conv => whnf)
          | (refine ⟨0, (show _ = _ by omega), ?_⟩; conv => whnf))
        rw [show IntKind.u8.wrap (sumq F k + F k) = sumq F k + F k by rw [u8wrap]; omega]
        conv => whnf
        repeat (first
          | (refine And.intro ?_ ?_; (focus (first | omega | decide | exact EqOk.mk (by kernel_rfl) (by kernel_rfl) (by kernel_rfl) | exact Int.natCast_nonneg _ | ((repeat' refine And.intro ?_ ?_) <;> first | omega | exact Int.natCast_nonneg _ | (simp only [i64max, u8max, u16max, u32max, u64max]; omega) | (simp only [mulSz_eq, Cont.len, colsLen, Col.len, List.length_cons, List.length_nil, List.length_replicate, List.length_append, u8max, tab_len, List.length_take, List.length_drop]; first | done | omega) | (simp [mulSz, Cont.len, bne, u8max, tab_len, List.length_take, List.length_drop]; first | done | omega)))); conv => whnf)
          | (refine tst_in ?_ ?_; (focus (intro h_; exfalso; first | omega | ((try simp only [decide_eq_true_eq, decide_eq_false_iff_not] at h_); omega) | (simp [mulSz, Cont.len, bne, u8max, tab_len, List.length_take, List.length_drop] at h_; first | done | omega))); intro _; conv => whnf)
          | (refine tst_in ?_ ?_; rotate_left; (focus (intro h_; exfalso; first | omega | ((try simp only [decide_eq_true_eq, decide_eq_false_iff_not] at h_); omega) | (simp [mulSz, Cont.len, bne, u8max, tab_len, List.length_take, List.length_drop] at h_; first | done | omega))); intro _; conv => whnf)
          | (refine ⟨0, (show _ = _ by omega), ?_⟩; conv => whnf))
        intro (t1 : List Int)
        conv => whnf
        repeat (first
          | (refine And.intro ?_ ?_; (focus (first | omega | decide | exact EqOk.mk (by kernel_rfl) (by kernel_rfl) (by kernel_rfl) | exact Int.natCast_nonneg _ | ((repeat' refine And.intro ?_ ?_) <;> first | omega | exact Int.natCast_nonneg _ | (simp only [i64max, u8max, u16max, u32max, u64max]; omega) | (simp only [mulSz_eq, Cont.len, colsLen, Col.len, List.length_cons, List.length_nil, List.length_replicate, List.length_append]; first | done | omega) | (simp [mulSz, Cont.len, bne]; first | done | omega)))); conv => whnf)
          | (refine tst_in ?_ ?_; (focus (intro h_; exfalso; first | omega | ((try simp only [decide_eq_true_eq, decide_eq_false_iff_not] at h_); omega) | (simp [mulSz, Cont.len, bne] at h_; first | done | omega))); intro _; conv => whnf)
          | (refine tst_in ?_ ?_; rotate_left; (focus (intro h_; exfalso; first | omega | ((try simp only [decide_eq_true_eq, decide_eq_false_iff_not] at h_); omega) | (simp [mulSz, Cont.len, bne] at h_; first | done | omega))); intro _; conv => whnf)
          | (refine ⟨0, (show _ = _ by omega), ?_⟩; conv => whnf))
        refine ⟨[0, 3], (k + 1, t1), ?_, (by show k + 1 ≤ n; omega), (by show n - (k + 1) < n - k; omega)⟩
        show stLe _ _ (st15 A F n ca (k + 1) t1) _
        conv => whnf
        repeat' (first | exact True.intro | rfl | refine And.intro ?_ ?_)
        all_goals (conv => whnf)
        repeat' (first | exact True.intro | rfl | refine And.intro ?_ ?_)
        all_goals (try omega)
        all_goals (try exact (push_tab (inq F) t t1 k _ rfl).symm)
      · skip
        have hge : k = n := by simp at hge; omega
        subst hge
        conv => whnf
        repeat (first
          | (refine And.intro ?_ ?_; (focus (first | omega | decide | exact EqOk.mk (by kernel_rfl) (by kernel_rfl) (by kernel_rfl) | exact Int.natCast_nonneg _ | ((repeat' refine And.intro ?_ ?_) <;> first | omega | exact Int.natCast_nonneg _ | (simp only [i64max, u8max, u16max, u32max, u64max]; omega) | (simp only [mulSz_eq, Cont.len, colsLen, Col.len, List.length_cons, List.length_nil, List.length_replicate, List.length_append]; first | done | omega) | (simp [mulSz, Cont.len, bne]; first | done | omega)))); conv => whnf)
          | (refine tst_in ?_ ?_; (focus (intro h_; exfalso; first | omega | ((try simp only [decide_eq_true_eq, decide_eq_false_iff_not] at h_); omega) | (simp [mulSz, Cont.len, bne] at h_; first | done | omega))); intro _; conv => whnf)
          | (refine tst_in ?_ ?_; rotate_left; (focus (intro h_; exfalso; first | omega | ((try simp only [decide_eq_true_eq, decide_eq_false_iff_not] at h_); omega) | (simp [mulSz, Cont.len, bne] at h_; first | done | omega))); intro _; conv => whnf)
          | (refine ⟨0, (show _ = _ by omega), ?_⟩; conv => whnf))
        refine .inl ⟨t, [0, 1], ?_⟩
        conv => whnf
        repeat' (first | exact True.intro | rfl | refine And.intro ?_ ?_)
        all_goals (conv => whnf)
        repeat' (first | exact True.intro | rfl | refine And.intro ?_ ?_)
        all_goals (try omega)
end Go.Proofs.Yteefbedjblppiaa

set_option linter.unusedVariables false
set_option linter.unusedSimpArgs false
namespace Go.Proofs.Yteefbedjblppiaa
open Go Go.Fw
def cfg16 : Cfg := { cfgu 1 with plan := fun | 9 => some (.nn (.op 0 (.op 1 (.op 2 (.op 3 (.op 4 (.op 5 (.op 6 (.op 7 (.op 8 (.op 9 (.op 10 (.op 11 (.op 12 (.op 13 (.op 14 (.op 15 (.done)))))))))))))))))) | _ => none }
noncomputable def c16 : Code := (Try.f16.body).getD .skip
def st16 (A : List Int) (F : Nat → Int) (n ca k : Nat) (t : List Int) : St := ⟨anyTo 39 [.slice 0 0 n ca, .any, .any, .any, .slice 1 0 k (k + t.length), .int .i64 k], [u8S false A, u8S true (tab (outq F) k ++ t)]⟩
def inv16 (A : List Int) (F : Nat → Int) (n ca : Nat) : LInv := ⟨Nat × List Int, fun y => st16 A F n ca y.1 y.2, fun y => y.1 ≤ n, fun y => n - y.1⟩
set_option maxHeartbeats 0 in
set_option maxRecDepth 100000 in
theorem rOut_u (A : List Int) (F : Nat → Int) (n ca : Nat) (v : Bool) (hA : isU A F n) (hv : v = true ↔ okR F n) (hN : n ≤ 140737488351232) :
    Fits Try.prog 16 ⟨[.slice 0 0 n ca], [u8S false A], [uOut [.dead] 1 (outq F) (nn v n) (ee v)]⟩ := by
  have RQ := rrow_q A F n ca v hA hv hN
  have hl := hA.1
  cases v
  · refine fits_of_body (C := cfg16) (c := c16) (ts := [2, 3]) tokU mixed (fun _ => none) (fun _ => none)
      Try.func16 (by kernel_rfl) (by kernel_rfl) (by kernel_rfl) (by kernel_rfl) rfl ?_
    conv => whnf
    repeat (first
      | (refine And.intro ?_ ?_; (focus (first | omega | decide | exact EqOk.mk (by kernel_rfl) (by kernel_rfl) (by kernel_rfl) | exact Int.natCast_nonneg _ | ((repeat' refine And.intro ?_ ?_) <;> first | omega | exact Int.natCast_nonneg _ | (simp only [i64max, u8max, u16max, u32max, u64max]; omega) | (simp only [mulSz_eq, Cont.len, colsLen, Col.len, List.length_cons, List.length_nil, List.length_replicate, List.length_append]; first | done | omega) | (simp [mulSz, Cont.len, bne]; first | done | omega)))); conv => whnf)
      | (refine tst_in ?_ ?_; (focus (intro h_; exfalso; first | omega | ((try simp only [decide_eq_true_eq, decide_eq_false_iff_not] at h_); omega) | (simp [mulSz, Cont.len, bne] at h_; first | done | omega))); intro _; conv => whnf)
      | (refine tst_in ?_ ?_; rotate_left; (focus (intro h_; exfalso; first | omega | ((try simp only [decide_eq_true_eq, decide_eq_false_iff_not] at h_); omega) | (simp [mulSz, Cont.len, bne] at h_; first | done | omega))); intro _; conv => whnf)
      | (refine ⟨0, (show _ = _ by omega), ?_⟩; conv => whnf))
    refine ⟨_, [0], RQ, ?_⟩
    conv => whnf
    iterate 2
     refine And.intro ?_ ?_
     focus
      conv => whnf
      repeat' (first | exact True.intro | rfl | refine And.intro ?_ ?_)
      all_goals (conv => whnf)
      repeat' (first | exact True.intro | rfl | refine And.intro ?_ ?_)
      all_goals (try (first | rfl | omega | (simp; first | done | omega)))
    conv => whnf
    conv => whnf
    repeat (first
      | (refine And.intro ?_ ?_; (focus (first | omega | decide | exact EqOk.mk (by kernel_rfl) (by kernel_rfl) (by kernel_rfl) | exact Int.natCast_nonneg _ | ((repeat' refine And.intro ?_ ?_) <;> first | omega | exact Int.natCast_nonneg _ | (simp only [i64max, u8max, u16max, u32max, u64max]; omega) | (simp only [mulSz_eq, Cont.len, colsLen, Col.len, List.length_cons, List.length_nil, List.length_replicate, List.length_append]; first | done | omega) | (simp [mulSz, Cont.len, bne]; first | done | omega)))); conv => whnf)
      | (refine tst_in ?_ ?_; (focus (intro h_; exfalso; first | omega | ((try simp only [decide_eq_true_eq, decide_eq_false_iff_not] at h_); omega) | (simp [mulSz, Cont.len, bne] at h_; first | done | omega))); intro _; conv => whnf)
      | (refine tst_in ?_ ?_; rotate_left; (focus (intro h_; exfalso; first | omega | ((try simp only [decide_eq_true_eq, decide_eq_false_iff_not] at h_); omega) | (simp [mulSz, Cont.len, bne] at h_; first | done | omega))); intro _; conv => whnf)
      | (refine ⟨0, (show _ = _ by omega), ?_⟩; conv => whnf))
    refine .inl ⟨[], [0, 9], ?_⟩
    conv => whnf
    repeat' (first | exact True.intro | rfl | refine And.intro ?_ ?_)
    all_goals (conv => whnf)
    repeat' (first | exact True.intro | rfl | refine And.intro ?_ ?_)
    all_goals (try omega)
  · have h := hv.1 rfl
    have h6 := h.1
    refine fits_of_body (C := cfg16) (c := c16) (ts := [2, 3]) tokU mixed (fun | 5 => some (inv16 A F n ca) | _ => none) (fun _ => none)
      Try.func16 (by kernel_rfl) (by kernel_rfl) (by kernel_rfl) (by kernel_rfl) rfl ?_
    conv => whnf
    repeat (first
      | (refine And.intro ?_ ?_; (focus (first | omega | decide | exact EqOk.mk (by kernel_rfl) (by kernel_rfl) (by kernel_rfl) | exact Int.natCast_nonneg _ | ((repeat' refine And.intro ?_ ?_) <;> first | omega | exact Int.natCast_nonneg _ | (simp only [i64max, u8max, u16max, u32max, u64max]; omega) | (simp only [mulSz_eq, Cont.len, colsLen, Col.len, List.length_cons, List.length_nil, List.length_replicate, List.length_append]; first | done | omega) | (simp [mulSz, Cont.len, bne]; first | done | omega)))); conv => whnf)
      | (refine tst_in ?_ ?_; (focus (intro h_; exfalso; first | omega | ((try simp only [decide_eq_true_eq, decide_eq_false_iff_not] at h_); omega) | (simp [mulSz, Cont.len, bne] at h_; first | done | omega))); intro _; conv => whnf)
      | (refine tst_in ?_ ?_; rotate_left; (focus (intro h_; exfalso; first | omega | ((try simp only [decide_eq_true_eq, decide_eq_false_iff_not] at h_); omega) | (simp [mulSz, Cont.len, bne] at h_; first | done | omega))); intro _; conv => whnf)
      | (refine ⟨0, (show _ = _ by omega), ?_⟩; conv => whnf))
    refine ⟨_, [0], RQ, ?_⟩
    conv => whnf
    iterate 2
     refine And.intro ?_ ?_
     focus
      conv => whnf
      repeat' (first | exact True.intro | rfl | refine And.intro ?_ ?_)
      all_goals (conv => whnf)
      repeat' (first | exact True.intro | rfl | refine And.intro ?_ ?_)
      all_goals (try (first | rfl | omega | (simp; first | done | omega)))
    conv => whnf
    conv => whnf
    repeat (first
      | (refine And.intro ?_ ?_; (focus (first | omega | decide | exact EqOk.mk (by kernel_rfl) (by kernel_rfl) (by kernel_rfl) | exact Int.natCast_nonneg _ | ((repeat' refine And.intro ?_ ?_) <;> first | omega | exact Int.natCast_nonneg _ | (simp only [i64max, u8max, u16max, u32max, u64max]; omega) | (simp only [mulSz_eq, Cont.len, colsLen, Col.len, List.length_cons, List.length_nil, List.length_replicate, List.length_append]; first | done | omega) | (simp [mulSz, Cont.len, bne]; first | done | omega)))); conv => whnf)
      | (refine tst_in ?_ ?_; (focus (intro h_; exfalso; first | omega | ((try simp only [decide_eq_true_eq, decide_eq_false_iff_not] at h_); omega) | (simp [mulSz, Cont.len, bne] at h_; first | done | omega))); intro _; conv => whnf)
      | (refine tst_in ?_ ?_; rotate_left; (focus (intro h_; exfalso; first | omega | ((try simp only [decide_eq_true_eq, decide_eq_false_iff_not] at h_); omega) | (simp [mulSz, Cont.len, bne] at h_; first | done | omega))); intro _; conv => whnf)
      | (refine ⟨0, (show _ = _ by omega), ?_⟩; conv => whnf))
    refine ⟨⟨[0, 9], (0, []), ?_, Nat.zero_le _⟩, ?_⟩
    · show stLe _ _ (st16 A F n ca 0 []) _
      conv => whnf
      repeat' (first | exact True.intro | rfl | refine And.intro ?_ ?_)
      all_goals (conv => whnf)
      repeat' (first | exact True.intro | rfl | refine And.intro ?_ ?_)
      all_goals (try omega)
    · rintro ⟨k, t⟩ (hk : k ≤ n)
      show forceSt (st16 A F n ca k t) _
      conv => whnf
      repeat (first
        | (refine And.intro ?_ ?_; (focus (first | omega | decide | exact EqOk.mk (by kernel_rfl) (by kernel_rfl) (by kernel_rfl) | exact Int.natCast_nonneg _ | ((repeat' refine And.intro ?_ ?_) <;> first | omega | exact Int.natCast_nonneg _ | (simp only [i64max, u8max, u16max, u32max, u64max]; omega) | (simp only [mulSz_eq, Cont.len, colsLen, Col.len, List.length_cons, List.length_nil, List.length_replicate, List.length_append]; first | done | omega) | (simp [mulSz, Cont.len, bne]; first | done | omega)))); conv => whnf)
        | (refine tst_in ?_ ?_; (focus (intro h_; exfalso; first | omega | ((try simp only [decide_eq_true_eq, decide_eq_false_iff_not] at h_); omega) | (simp [mulSz, Cont.len, bne] at h_; first | done | omega))); intro _; conv => whnf)
        | (refine tst_in ?_ ?_; rotate_left; (focus (intro h_; exfalso; first | omega | ((try simp only [decide_eq_true_eq, decide_eq_false_iff_not] at h_); omega) | (simp [mulSz, Cont.len, bne] at h_; first | done | omega))); intro _; conv => whnf)
        | (refine ⟨0, (show _ = _ by omega), ?_⟩; conv => whnf))
      refine tst_in (fun hlt => ?_) (fun hge => ?_)
      · skip
        have hlt : k < n := by simp at hlt; omega
        have hX : 0 + ((k : Int)).toNat = k := by omega
        obtain ⟨hv1, hv2, hv3⟩ := hA.2 k hlt
        obtain ⟨hq1, hq2⟩ := h.2 k hlt
        by_cases h0 : k = 0
        · subst h0
          conv => whnf
          repeat (first
            | (refine And.intro ?_ ?_; (focus (first | omega | decide | exact EqOk.mk (by kernel_rfl) (by kernel_rfl) (by kernel_rfl) | exact Int.natCast_nonneg _ | ((repeat' refine And.intro ?_ ?_) <;> first | omega | exact Int.natCast_nonneg _ | (simp only [i64max, u8max, u16max, u32max, u64max]; omega) | (simp only [mulSz_eq, Cont.len, colsLen, Col.len, List.length_cons, List.length_nil, List.length_replicate, List.length_append, u8max, tab_len, List.length_take, List.length_drop]; first | done | omega) | (simp [mulSz, Cont.len, bne, u8max, tab_len, List.length_take, List.length_drop]; first | done | omega)))); conv => whnf)
            | (refine tst_in ?_ ?_; (focus (intro h_; exfalso; first | omega | ((try simp only [decide_eq_true_eq, decide_eq_false_iff_not] at h_); omega) | (simp [mulSz, Cont.len, bne, u8max, tab_len, List.length_take, List.length_drop] at h_; first | done | omega))); intro _; conv => whnf)
            | (refine tst_in ?_ ?_; rotate_left; (focus (intro h_; exfalso; first | omega | ((try simp only [decide_eq_true_eq, decide_eq_false_iff_not] at h_); omega) | (simp [mulSz, Cont.len, bne, u8max, tab_len, List.length_take, List.length_drop] at h_; first | done | omega))); intro _; conv => whnf)
            | (refine ⟨0, (show _ = _ by omega), ?_⟩; conv => whnf))
          intro (t1 : List Int)
          conv => whnf
          repeat (first
            | (refine And.intro ?_ ?_; (focus (first | omega | decide | exact EqOk.mk (by kernel_rfl) (by kernel_rfl) (by kernel_rfl) | exact Int.natCast_nonneg _ | ((repeat' refine And.intro ?_ ?_) <;> first | omega | exact Int.natCast_nonneg _ | (simp only [i64max, u8max, u16max, u32max, u64max]; omega) | (simp only [mulSz_eq, Cont.len, colsLen, Col.len, List.length_cons, List.length_nil, List.length_replicate, List.length_append]; first | done | omega) | (simp [mulSz, Cont.len, bne]; first | done | omega)))); conv => whnf)
            | (refine tst_in ?_ ?_; (focus (intro h_; exfalso; first | omega | ((try simp only [decide_eq_true_eq, decide_eq_false_iff_not] at h_); omega) | (simp [mulSz, Cont.len, bne] at h_; first | done | omega))); intro _; conv => whnf)
            | (refine tst_in ?_ ?_; rotate_left; (focus (intro h_; exfalso; first | omega | ((try simp only [decide_eq_true_eq, decide_eq_false_iff_not] at h_); omega) | (simp [mulSz, Cont.len, bne] at h_; first | done | omega))); intro _; conv => whnf)
            | (refine ⟨0, (show _ = _ by omega), ?_⟩; conv => whnf))
          refine ⟨[0, 3], (0 + 1, t1), ?_, (by show 0 + 1 ≤ n; omega), (by show n - (0 + 1) < n - 0; omega)⟩
          show stLe _ _ (st16 A F n ca (0 + 1) t1) _
          conv => whnf
          repeat' (first | exact True.intro | rfl | refine And.intro ?_ ?_)
          all_goals (conv => whnf)
          repeat' (first | exact True.intro | rfl | refine And.intro ?_ ?_)
          all_goals (try omega)
          all_goals (try exact (push_tab (outq F) t t1 0 _ (by show A.getD 0 0 = (F 0 - (if (0 : Nat) = 0 then 0 else F (0 - 1))) % 4; rw [hv1, if_pos rfl]; omega)).symm)
        · have hX2 : 0 + ((k : Int) - 1).toNat = k - 1 := by omega
          obtain ⟨hu1, hu2, hu3⟩ := hA.2 (k - 1) (by omega)
          obtain ⟨hr1, hr2⟩ := h.2 (k - 1) (by omega)
          conv => whnf
          repeat (first
            | (refine And.intro ?_ ?_; (focus (first | omega | decide | exact EqOk.mk (by kernel_rfl) (by kernel_rfl) (by kernel_rfl) | exact Int.natCast_nonneg _ | ((repeat' refine And.intro ?_ ?_) <;> first | omega | exact Int.natCast_nonneg _ | (simp only [i64max, u8max, u16max, u32max, u64max]; omega) | (simp only [mulSz_eq, Cont.len, colsLen, Col.len, List.length_cons, List.length_nil, List.length_replicate, List.length_append]; first | done | omega) | (simp [mulSz, Cont.len, bne]; first | done | omega)))); conv => whnf)
            | (refine tst_in ?_ ?_; (focus (intro h_; exfalso; first | omega | ((try simp only [decide_eq_true_eq, decide_eq_false_iff_not] at h_); omega) | (simp [mulSz, Cont.len, bne] at h_; first | done | omega))); intro _; conv => whnf)
            | (refine tst_in ?_ ?_; rotate_left; (focus (intro h_; exfalso; first | omega | ((try simp only [decide_eq_true_eq, decide_eq_false_iff_not] at h_); omega) | (simp [mulSz, Cont.len, bne] at h_; first | done | omega))); intro _; conv => whnf)
            | (refine ⟨0, (show _ = _ by omega), ?_⟩; conv => whnf))
          rw [hX, hX2, hv1, hu1]
          rw [show IntKind.u8.wrap (F k + 4) = F k + 4 by rw [u8wrap]; omega]
          conv => whnf
          repeat (first
            | (refine And.intro ?_ ?_; (focus (first | omega | decide | exact EqOk.mk (by kernel_rfl) (by kernel_rfl) (by kernel_rfl) | exact Int.natCast_nonneg _ | ((repeat' refine And.intro ?_ ?_) <;> first | omega | exact Int.natCast_nonneg _ | (simp only [i64max, u8max, u16max, u32max, u64max]; omega) | (simp only [mulSz_eq, Cont.len, colsLen, Col.len, List.length_cons, List.length_nil, List.length_replicate, List.length_append]; first | done | omega) | (simp [mulSz, Cont.len, bne]; first | done | omega)))); conv => whnf)
            | (refine tst_in ?_ ?_; (focus (intro h_; exfalso; first | omega | ((try simp only [decide_eq_true_eq, decide_eq_false_iff_not] at h_); omega) | (simp [mulSz, Cont.len, bne] at h_; first | done | omega))); intro _; conv => whnf)
            | (refine tst_in ?_ ?_; rotate_left; (focus (intro h_; exfalso; first | omega | ((try simp only [decide_eq_true_eq, decide_eq_false_iff_not] at h_); omega) | (simp [mulSz, Cont.len, bne] at h_; first | done | omega))); intro _; conv => whnf)
            | (refine ⟨0, (show _ = _ by omega), ?_⟩; conv => whnf))
          rw [show IntKind.u8.wrap (F k + 4 - F (k - 1)) = F k + 4 - F (k - 1) by rw [u8wrap]; omega]
          conv => whnf
          repeat (first
            | (refine And.intro ?_ ?_; (focus (first | omega | decide | exact EqOk.mk (by kernel_rfl) (by kernel_rfl) (by kernel_rfl) | exact Int.natCast_nonneg _ | ((repeat' refine And.intro ?_ ?_) <;> first | omega | exact Int.natCast_nonneg _ | (simp only [i64max, u8max, u16max, u32max, u64max]; omega) | (simp only [mulSz_eq, Cont.len, colsLen, Col.len, List.length_cons, List.length_nil, List.length_replicate, List.length_append, u8max, tab_len, List.length_take, List.length_drop]; first | done | omega) | (simp [mulSz, Cont.len, bne, u8max, tab_len, List.length_take, List.length_drop]; first | done | omega)))); conv => whnf)
            | (refine tst_in ?_ ?_; (focus (intro h_; exfalso; first | omega | ((try simp only [decide_eq_true_eq, decide_eq_false_iff_not] at h_); omega) | (simp [mulSz, Cont.len, bne, u8max, tab_len, List.length_take, List.length_drop] at h_; first | done | omega))); intro _; conv => whnf)
            | (refine tst_in ?_ ?_; rotate_left; (focus (intro h_; exfalso; first | omega | ((try simp only [decide_eq_true_eq, decide_eq_false_iff_not] at h_); omega) | (simp [mulSz, Cont.len, bne, u8max, tab_len, List.length_take, List.length_drop] at h_; first | done | omega))); intro _; conv => whnf)
            | (refine ⟨0, (show _ = _ by omega), ?_⟩; conv => whnf))
          intro (t1 : List Int)
          conv => whnf
          repeat (first
            | (refine And.intro ?_ ?_; (focus (first | omega | decide | exact EqOk.mk (by kernel_rfl) (by kernel_rfl) (by kernel_rfl) | exact Int.natCast_nonneg _ | ((repeat' refine And.intro ?_ ?_) <;> first | omega | exact Int.natCast_nonneg _ | (simp only [i64max, u8max, u16max, u32max, u64max]; omega) | (simp only [mulSz_eq, Cont.len, colsLen, Col.len, List.length_cons, List.length_nil, List.length_replicate, List.length_append]; first | done | omega) | (simp [mulSz, Cont.len, bne]; first | done | omega)))); conv => whnf)
            | (refine tst_in ?_ ?_; (focus (intro h_; exfalso; first | omega | ((try simp only [decide_eq_true_eq, decide_eq_false_iff_not] at h_); omega) | (simp [mulSz, Cont.len, bne] at h_; first | done | omega))); intro _; conv => whnf)
            | (refine tst_in ?_ ?_; rotate_left; (focus (intro h_; exfalso; first | omega | ((try simp only [decide_eq_true_eq, decide_eq_false_iff_not] at h_); omega) | (simp [mulSz, Cont.len, bne] at h_; first | done | omega))); intro _; conv => whnf)
            | (refine ⟨0, (show _ = _ by omega), ?_⟩; conv => whnf))
          refine ⟨[0, 3], (k + 1, t1), ?_, (by show k + 1 ≤ n; omega), (by show n - (k + 1) < n - k; omega)⟩
          show stLe _ _ (st16 A F n ca (k + 1) t1) _
          conv => whnf
          repeat' (first | exact True.intro | rfl | refine And.intro ?_ ?_)
          all_goals (conv => whnf)
          repeat' (first | exact True.intro | rfl | refine And.intro ?_ ?_)
          all_goals (try omega)
          all_goals (try exact (push_tab (outq F) t t1 k _ (by show _ = (F k - (if k = 0 then 0 else F (k - 1))) % 4; rw [if_neg h0]; omega)).symm)
      · skip
        have hge : k = n := by simp at hge; omega
        subst hge
        conv => whnf
        repeat (first
          | (refine And.intro ?_ ?_; (focus (first | omega | decide | exact EqOk.mk (by kernel_rfl) (by kernel_rfl) (by kernel_rfl) | exact Int.natCast_nonneg _ | ((repeat' refine And.intro ?_ ?_) <;> first | omega | exact Int.natCast_nonneg _ | (simp only [i64max, u8max, u16max, u32max, u64max]; omega) | (simp only [mulSz_eq, Cont.len, colsLen, Col.len, List.length_cons, List.length_nil, List.length_replicate, List.length_append]; first | done | omega) | (simp [mulSz, Cont.len, bne]; first | done | omega)))); conv => whnf)
          | (refine tst_in ?_ ?_; (focus (intro h_; exfalso; first | omega | ((try simp only [decide_eq_true_eq, decide_eq_false_iff_not] at h_); omega) | (simp [mulSz, Cont.len, bne] at h_; first | done | omega))); intro _; conv => whnf)
          | (refine tst_in ?_ ?_; rotate_left; (focus (intro h_; exfalso; first | omega | ((try simp only [decide_eq_true_eq, decide_eq_false_iff_not] at h_); omega) | (simp [mulSz, Cont.len, bne] at h_; first | done | omega))); intro _; conv => whnf)
          | (refine ⟨0, (show _ = _ by omega), ?_⟩; conv => whnf))
        refine .inl ⟨t, [0, 1], ?_⟩
        conv => whnf
        repeat' (first | exact True.intro | rfl | refine And.intro ?_ ?_)
        all_goals (conv => whnf)
        repeat' (first | exact True.intro | rfl | refine And.intro ?_ ?_)
        all_goals (try omega)
def cfg19 : Cfg := { cfgu 1 with plan := fun | 7 => some (.nn (.op 0 (.op 1 (.op 2 (.op 3 (.op 4 (.op 5 (.op 6 (.op 7 (.op 8 (.op 9 (.op 10 (.op 11 (.op 12 (.op 13 (.op 14 (.op 15 (.op 16 (.op 17 (.op 18 (.op 19 (.op 20 (.done))))))))))))))))))))))) | _ => none }
noncomputable def c19 : Code := (Try.f19.body).getD .skip
def st19 (A : List Int) (F : Nat → Int) (n ca k : Nat) (t : List Bool) : St := ⟨anyTo 42 [.slice 0 0 n ca, .any, .any, .any, .slice 1 0 (2 * k) (2 * k + t.length), .int .i64 k], [u8S false A, boS true (tab (bitq F) (2 * k) ++ t)]⟩
def inv19 (A : List Int) (F : Nat → Int) (n ca : Nat) : LInv := ⟨Nat × List Bool, fun y => st19 A F n ca y.1 y.2, fun y => y.1 ≤ n, fun y => n - y.1⟩
theorem push_two (f : Nat → Bool) (t t1 : List Bool) (k : Nat) (x y : Bool) (hx : x = f (2 * k)) (hy : y = f (2 * k + 1)) : List.take (2 * k) (List.drop 0 (tab f (2 * k) ++ t)) ++ [x, y] ++ t1 = tab f (2 * (k + 1)) ++ t1 := by
  rw [List.drop_zero, List.take_left' (tab_len f (2 * k)), hx, hy, tab_two]
set_option maxHeartbeats 0 in
set_option maxRecDepth 100000 in
theorem rBits_u (A : List Int) (F : Nat → Int) (n ca : Nat) (v : Bool) (hA : isU A F n) (hv : v = true ↔ okR F n ∧ n ≤ 16384) (hN : n ≤ 140737488351232) :
    Fits Try.prog 19 ⟨[.slice 0 0 n ca], [u8S false A], [tOut [.dead] 1 (bitq F) (nn v (2 * n)) (ee v)]⟩ := by
  have hl := hA.1
  by_cases hr : okR F n
  · have RQ := rrow_q A F n ca true hA ⟨fun _ => hr, fun _ => rfl⟩ hN
    by_cases h1 : n ≤ 16384
    · obtain rfl : v = true := hv.2 ⟨hr, h1⟩
      refine fits_of_body (C := cfg19) (c := c19) (ts := [2, 3]) tokU mixed (fun | 5 => some (inv19 A F n ca) | _ => none) (fun _ => none)
        Try.func19 (by kernel_rfl) (by kernel_rfl) (by kernel_rfl) (by kernel_rfl) rfl ?_
      conv => whnf
      repeat (first
        | (refine And.intro ?_ ?_; (focus (first | omega | decide | exact EqOk.mk (by kernel_rfl) (by kernel_rfl) (by kernel_rfl) | exact Int.natCast_nonneg _ | ((repeat' refine And.intro ?_ ?_) <;> first | omega | exact Int.natCast_nonneg _ | (simp only [i64max, u8max, u16max, u32max, u64max]; omega) | (simp only [mulSz_eq, Cont.len, colsLen, Col.len, List.length_cons, List.length_nil, List.length_replicate, List.length_append]; first | done | omega) | (simp [mulSz, Cont.len, bne]; first | done | omega)))); conv => whnf)
        | (refine tst_in ?_ ?_; (focus (intro h_; exfalso; first | omega | ((try simp only [decide_eq_true_eq, decide_eq_false_iff_not] at h_); omega) | (simp [mulSz, Cont.len, bne] at h_; first | done | omega))); intro _; conv => whnf)
        | (refine tst_in ?_ ?_; rotate_left; (focus (intro h_; exfalso; first | omega | ((try simp only [decide_eq_true_eq, decide_eq_false_iff_not] at h_); omega) | (simp [mulSz, Cont.len, bne] at h_; first | done | omega))); intro _; conv => whnf)
        | (refine ⟨0, (show _ = _ by omega), ?_⟩; conv => whnf))
      refine ⟨_, [0], RQ, ?_⟩
      conv => whnf
      iterate 2
       refine And.intro ?_ ?_
       focus
        conv => whnf
        repeat' (first | exact True.intro | rfl | refine And.intro ?_ ?_)
        all_goals (conv => whnf)
        repeat' (first | exact True.intro | rfl | refine And.intro ?_ ?_)
        all_goals (try (first | rfl | omega | (simp; first | done | omega)))
      conv => whnf
      conv => whnf
      repeat (first
        | (refine And.intro ?_ ?_; (focus (first | omega | decide | exact EqOk.mk (by kernel_rfl) (by kernel_rfl) (by kernel_rfl) | exact Int.natCast_nonneg _ | ((repeat' refine And.intro ?_ ?_) <;> first | omega | exact Int.natCast_nonneg _ | (simp only [i64max, u8max, u16max, u32max, u64max]; omega) | (simp only [mulSz_eq, Cont.len, colsLen, Col.len, List.length_cons, List.length_nil, List.length_replicate, List.length_append]; first | done | omega) | (simp [mulSz, Cont.len, bne]; first | done | omega)))); conv => whnf)
        | (refine tst_in ?_ ?_; (focus (intro h_; exfalso; first | omega | ((try simp only [decide_eq_true_eq, decide_eq_false_iff_not] at h_); omega) | (simp [mulSz, Cont.len, bne] at h_; first | done | omega))); intro _; conv => whnf)
        | (refine tst_in ?_ ?_; rotate_left; (focus (intro h_; exfalso; first | omega | ((try simp only [decide_eq_true_eq, decide_eq_false_iff_not] at h_); omega) | (simp [mulSz, Cont.len, bne] at h_; first | done | omega))); intro _; conv => whnf)
        | (refine ⟨0, (show _ = _ by omega), ?_⟩; conv => whnf))
      refine ⟨⟨[0, 9], (0, []), ?_, Nat.zero_le _⟩, ?_⟩
      · show stLe _ _ (st19 A F n ca 0 []) _
        conv => whnf
        repeat' (first | exact True.intro | rfl | refine And.intro ?_ ?_)
        all_goals (conv => whnf)
        repeat' (first | exact True.intro | rfl | refine And.intro ?_ ?_)
        all_goals (try omega)
      · rintro ⟨k, t⟩ (hk : k ≤ n)
        show forceSt (st19 A F n ca k t) _
        conv => whnf
        repeat (first
          | (refine And.intro ?_ ?_; (focus (first | omega | decide | exact EqOk.mk (by kernel_rfl) (by kernel_rfl) (by kernel_rfl) | exact Int.natCast_nonneg _ | ((repeat' refine And.intro ?_ ?_) <;> first | omega | exact Int.natCast_nonneg _ | (simp only [i64max, u8max, u16max, u32max, u64max]; omega) | (simp only [mulSz_eq, Cont.len, colsLen, Col.len, List.length_cons, List.length_nil, List.length_replicate, List.length_append]; first | done | omega) | (simp [mulSz, Cont.len, bne]; first | done | omega)))); conv => whnf)
          | (refine tst_in ?_ ?_; (focus (intro h_; exfalso; first | omega | ((try simp only [decide_eq_true_eq, decide_eq_false_iff_not] at h_); omega) | (simp [mulSz, Cont.len, bne] at h_; first | done | omega))); intro _; conv => whnf)
          | (refine tst_in ?_ ?_; rotate_left; (focus (intro h_; exfalso; first | omega | ((try simp only [decide_eq_true_eq, decide_eq_false_iff_not] at h_); omega) | (simp [mulSz, Cont.len, bne] at h_; first | done | omega))); intro _; conv => whnf)
          | (refine ⟨0, (show _ = _ by omega), ?_⟩; conv => whnf))
        refine tst_in (fun hlt => ?_) (fun hge => ?_)
        · skip
          have hlt : k < n := by simp at hlt; omega
          have hX : 0 + ((k : Int)).toNat = k := by omega
          obtain ⟨hv1, hv2, hv3⟩ := hA.2 k hlt
          obtain ⟨hq1, hq2⟩ := hr.2 k hlt
          have b1 := bitq_even F k
          have b2 := bitq_odd F k
          rcases (show F k = 0 ∨ F k = 1 ∨ F k = 2 ∨ F k = 3 by omega) with e | e | e | e
          all_goals (
            rw [e] at b1 b2 hv1
            conv => whnf
            repeat (first
              | (refine And.intro ?_ ?_; (focus (first | omega | decide | exact EqOk.mk (by kernel_rfl) (by kernel_rfl) (by kernel_rfl) | exact Int.natCast_nonneg _ | ((repeat' refine And.intro ?_ ?_) <;> first | omega | exact Int.natCast_nonneg _ | (simp only [i64max, u8max, u16max, u32max, u64max]; omega) | (simp only [mulSz_eq, Cont.len, colsLen, Col.len, List.length_cons, List.length_nil, List.length_replicate, List.length_append]; first | done | omega) | (simp [mulSz, Cont.len, bne]; first | done | omega)))); conv => whnf)
              | (refine tst_in ?_ ?_; (focus (intro h_; exfalso; first | omega | ((try simp only [decide_eq_true_eq, decide_eq_false_iff_not] at h_); omega) | (simp [mulSz, Cont.len, bne] at h_; first | done | omega))); intro _; conv => whnf)
              | (refine tst_in ?_ ?_; rotate_left; (focus (intro h_; exfalso; first | omega | ((try simp only [decide_eq_true_eq, decide_eq_false_iff_not] at h_); omega) | (simp [mulSz, Cont.len, bne] at h_; first | done | omega))); intro _; conv => whnf)
              | (refine ⟨0, (show _ = _ by omega), ?_⟩; conv => whnf))
            rw [hX, hv1]
            conv => whnf
            repeat (first
              | (refine And.intro ?_ ?_; (focus (first | omega | decide | exact EqOk.mk (by kernel_rfl) (by kernel_rfl) (by kernel_rfl) | exact Int.natCast_nonneg _ | ((repeat' refine And.intro ?_ ?_) <;> first | omega | exact Int.natCast_nonneg _ | (simp only [i64max, u8max, u16max, u32max, u64max]; omega) | (simp only [mulSz_eq, Cont.len, colsLen, Col.len, List.length_cons, List.length_nil, List.length_replicate, List.length_append, u8max, tab_len, List.length_take, List.length_drop]; first | done | omega) | (simp [mulSz, Cont.len, bne, u8max, tab_len, List.length_take, List.length_drop]; first | done | omega)))); conv => whnf)
              | (refine tst_in ?_ ?_; (focus (intro h_; exfalso; first | omega | ((try simp only [decide_eq_true_eq, decide_eq_false_iff_not] at h_); omega) | (simp [mulSz, Cont.len, bne, u8max, tab_len, List.length_take, List.length_drop] at h_; first | done | omega))); intro _; conv => whnf)
              | (refine tst_in ?_ ?_; rotate_left; (focus (intro h_; exfalso; first | omega | ((try simp only [decide_eq_true_eq, decide_eq_false_iff_not] at h_); omega) | (simp [mulSz, Cont.len, bne, u8max, tab_len, List.length_take, List.length_drop] at h_; first | done | omega))); intro _; conv => whnf)
              | (refine ⟨0, (show _ = _ by omega), ?_⟩; conv => whnf))
            intro (t1 : List Bool)
            conv => whnf
            repeat (first
              | (refine And.intro ?_ ?_; (focus (first | omega | decide | exact EqOk.mk (by kernel_rfl) (by kernel_rfl) (by kernel_rfl) | exact Int.natCast_nonneg _ | ((repeat' refine And.intro ?_ ?_) <;> first | omega | exact Int.natCast_nonneg _ | (simp only [i64max, u8max, u16max, u32max, u64max]; omega) | (simp only [mulSz_eq, Cont.len, colsLen, Col.len, List.length_cons, List.length_nil, List.length_replicate, List.length_append]; first | done | omega) | (simp [mulSz, Cont.len, bne]; first | done | omega)))); conv => whnf)
              | (refine tst_in ?_ ?_; (focus (intro h_; exfalso; first | omega | ((try simp only [decide_eq_true_eq, decide_eq_false_iff_not] at h_); omega) | (simp [mulSz, Cont.len, bne] at h_; first | done | omega))); intro _; conv => whnf)
              | (refine tst_in ?_ ?_; rotate_left; (focus (intro h_; exfalso; first | omega | ((try simp only [decide_eq_true_eq, decide_eq_false_iff_not] at h_); omega) | (simp [mulSz, Cont.len, bne] at h_; first | done | omega))); intro _; conv => whnf)
              | (refine ⟨0, (show _ = _ by omega), ?_⟩; conv => whnf))
            refine ⟨[0, 3], (k + 1, t1), ?_, (by show k + 1 ≤ n; omega), (by show n - (k + 1) < n - k; omega)⟩
            show stLe _ _ (st19 A F n ca (k + 1) t1) _
            conv => whnf
            repeat' (first | exact True.intro | rfl | refine And.intro ?_ ?_)
            all_goals (conv => whnf)
            repeat' (first | exact True.intro | rfl | refine And.intro ?_ ?_)
            all_goals (try omega)
            all_goals (try rw [hX, hv1])
            all_goals (try exact (push_two (bitq F) t t1 k _ _ b1.symm b2.symm).symm)
          )
        · skip
          have hge : k = n := by simp at hge; omega
          subst hge
          conv => whnf
          repeat (first
            | (refine And.intro ?_ ?_; (focus (first | omega | decide | exact EqOk.mk (by kernel_rfl) (by kernel_rfl) (by kernel_rfl) | exact Int.natCast_nonneg _ | ((repeat' refine And.intro ?_ ?_) <;> first | omega | exact Int.natCast_nonneg _ | (simp only [i64max, u8max, u16max, u32max, u64max]; omega) | (simp only [mulSz_eq, Cont.len, colsLen, Col.len, List.length_cons, List.length_nil, List.length_replicate, List.length_append]; first | done | omega) | (simp [mulSz, Cont.len, bne]; first | done | omega)))); conv => whnf)
            | (refine tst_in ?_ ?_; (focus (intro h_; exfalso; first | omega | ((try simp only [decide_eq_true_eq, decide_eq_false_iff_not] at h_); omega) | (simp [mulSz, Cont.len, bne] at h_; first | done | omega))); intro _; conv => whnf)
            | (refine tst_in ?_ ?_; rotate_left; (focus (intro h_; exfalso; first | omega | ((try simp only [decide_eq_true_eq, decide_eq_false_iff_not] at h_); omega) | (simp [mulSz, Cont.len, bne] at h_; first | done | omega))); intro _; conv => whnf)
            | (refine ⟨0, (show _ = _ by omega), ?_⟩; conv => whnf))
          refine .inl ⟨t, [0, 1], ?_⟩
          conv => whnf
          repeat' (first | exact True.intro | rfl | refine And.intro ?_ ?_)
          all_goals (conv => whnf)
          repeat' (first | exact True.intro | rfl | refine And.intro ?_ ?_)
          all_goals (try omega)
    · obtain rfl : v = false := by cases v; rfl; exact absurd (hv.1 rfl).2 h1
      refine fits_of_body (C := cfg19) (c := c19) (ts := [2, 3]) tokU mixed (fun _ => none) (fun _ => none)
        Try.func19 (by kernel_rfl) (by kernel_rfl) (by kernel_rfl) (by kernel_rfl) rfl ?_
      have h6 := hr.1
      conv => whnf
      repeat (first
        | (refine And.intro ?_ ?_; (focus (first | omega | decide | exact EqOk.mk (by kernel_rfl) (by kernel_rfl) (by kernel_rfl) | exact Int.natCast_nonneg _ | ((repeat' refine And.intro ?_ ?_) <;> first | omega | exact Int.natCast_nonneg _ | (simp only [i64max, u8max, u16max, u32max, u64max]; omega) | (simp only [mulSz_eq, Cont.len, colsLen, Col.len, List.length_cons, List.length_nil, List.length_replicate, List.length_append]; first | done | omega) | (simp [mulSz, Cont.len, bne]; first | done | omega)))); conv => whnf)
        | (refine tst_in ?_ ?_; (focus (intro h_; exfalso; first | omega | ((try simp only [decide_eq_true_eq, decide_eq_false_iff_not] at h_); omega) | (simp [mulSz, Cont.len, bne] at h_; first | done | omega))); intro _; conv => whnf)
        | (refine tst_in ?_ ?_; rotate_left; (focus (intro h_; exfalso; first | omega | ((try simp only [decide_eq_true_eq, decide_eq_false_iff_not] at h_); omega) | (simp [mulSz, Cont.len, bne] at h_; first | done | omega))); intro _; conv => whnf)
        | (refine ⟨0, (show _ = _ by omega), ?_⟩; conv => whnf))
      refine ⟨_, [0], RQ, ?_⟩
      conv => whnf
      iterate 2
       refine And.intro ?_ ?_
       focus
        conv => whnf
        repeat' (first | exact True.intro | rfl | refine And.intro ?_ ?_)
        all_goals (conv => whnf)
        repeat' (first | exact True.intro | rfl | refine And.intro ?_ ?_)
        all_goals (try (first | rfl | omega | (simp; first | done | omega)))
      conv => whnf
      conv => whnf
      repeat (first
        | (refine And.intro ?_ ?_; (focus (first | omega | decide | exact EqOk.mk (by kernel_rfl) (by kernel_rfl) (by kernel_rfl) | exact Int.natCast_nonneg _ | ((repeat' refine And.intro ?_ ?_) <;> first | omega | exact Int.natCast_nonneg _ | (simp only [i64max, u8max, u16max, u32max, u64max]; omega) | (simp only [mulSz_eq, Cont.len, colsLen, Col.len, List.length_cons, List.length_nil, List.length_replicate, List.length_append]; first | done | omega) | (simp [mulSz, Cont.len, bne]; first | done | omega)))); conv => whnf)
        | (refine tst_in ?_ ?_; (focus (intro h_; exfalso; first | omega | ((try simp only [decide_eq_true_eq, decide_eq_false_iff_not] at h_); omega) | (simp [mulSz, Cont.len, bne] at h_; first | done | omega))); intro _; conv => whnf)
        | (refine tst_in ?_ ?_; rotate_left; (focus (intro h_; exfalso; first | omega | ((try simp only [decide_eq_true_eq, decide_eq_false_iff_not] at h_); omega) | (simp [mulSz, Cont.len, bne] at h_; first | done | omega))); intro _; conv => whnf)
        | (refine ⟨0, (show _ = _ by omega), ?_⟩; conv => whnf))
      refine .inl ⟨[], [0, 9], ?_⟩
      conv => whnf
      repeat' (first | exact True.intro | rfl | refine And.intro ?_ ?_)
      all_goals (conv => whnf)
      repeat' (first | exact True.intro | rfl | refine And.intro ?_ ?_)
      all_goals (try omega)
  · have RQ := rrow_q A F n ca false hA ⟨fun h => absurd h (by decide), fun h => absurd h hr⟩ hN
    obtain rfl : v = false := by cases v; rfl; exact absurd (hv.1 rfl).1 hr
    refine fits_of_body (C := cfg19) (c := c19) (ts := [2, 3]) tokU mixed (fun _ => none) (fun _ => none)
      Try.func19 (by kernel_rfl) (by kernel_rfl) (by kernel_rfl) (by kernel_rfl) rfl ?_
    conv => whnf
    repeat (first
      | (refine And.intro ?_ ?_; (focus (first | omega | decide | exact EqOk.mk (by kernel_rfl) (by kernel_rfl) (by kernel_rfl) | exact Int.natCast_nonneg _ | ((repeat' refine And.intro ?_ ?_) <;> first | omega | exact Int.natCast_nonneg _ | (simp only [i64max, u8max, u16max, u32max, u64max]; omega) | (simp only [mulSz_eq, Cont.len, colsLen, Col.len, List.length_cons, List.length_nil, List.length_replicate, List.length_append]; first | done | omega) | (simp [mulSz, Cont.len, bne]; first | done | omega)))); conv => whnf)
      | (refine tst_in ?_ ?_; (focus (intro h_; exfalso; first | omega | ((try simp only [decide_eq_true_eq, decide_eq_false_iff_not] at h_); omega) | (simp [mulSz, Cont.len, bne] at h_; first | done | omega))); intro _; conv => whnf)
      | (refine tst_in ?_ ?_; rotate_left; (focus (intro h_; exfalso; first | omega | ((try simp only [decide_eq_true_eq, decide_eq_false_iff_not] at h_); omega) | (simp [mulSz, Cont.len, bne] at h_; first | done | omega))); intro _; conv => whnf)
      | (refine ⟨0, (show _ = _ by omega), ?_⟩; conv => whnf))
    refine ⟨_, [0], RQ, ?_⟩
    conv => whnf
    iterate 2
     refine And.intro ?_ ?_
     focus
      conv => whnf
      repeat' (first | exact True.intro | rfl | refine And.intro ?_ ?_)
      all_goals (conv => whnf)
      repeat' (first | exact True.intro | rfl | refine And.intro ?_ ?_)
      all_goals (try (first | rfl | omega | (simp; first | done | omega)))
    conv => whnf
    conv => whnf
    repeat (first
      | (refine And.intro ?_ ?_; (focus (first | omega | decide | exact EqOk.mk (by kernel_rfl) (by kernel_rfl) (by kernel_rfl) | exact Int.natCast_nonneg _ | ((repeat' refine And.intro ?_ ?_) <;> first | omega | exact Int.natCast_nonneg _ | (simp only [i64max, u8max, u16max, u32max, u64max]; omega) | (simp only [mulSz_eq, Cont.len, colsLen, Col.len, List.length_cons, List.length_nil, List.length_replicate, List.length_append]; first | done | omega) | (simp [mulSz, Cont.len, bne]; first | done | omega)))); conv => whnf)
      | (refine tst_in ?_ ?_; (focus (intro h_; exfalso; first | omega | ((try simp only [decide_eq_true_eq, decide_eq_false_iff_not] at h_); omega) | (simp [mulSz, Cont.len, bne] at h_; first | done | omega))); intro _; conv => whnf)
      | (refine tst_in ?_ ?_; rotate_left; (focus (intro h_; exfalso; first | omega | ((try simp only [decide_eq_true_eq, decide_eq_false_iff_not] at h_); omega) | (simp [mulSz, Cont.len, bne] at h_; first | done | omega))); intro _; conv => whnf)
      | (refine ⟨0, (show _ = _ by omega), ?_⟩; conv => whnf))
    refine .inl ⟨[], [0, 9], ?_⟩
    conv => whnf
    repeat' (first | exact True.intro | rfl | refine And.intro ?_ ?_)
    all_goals (conv => whnf)
    repeat' (first | exact True.intro | rfl | refine And.intro ?_ ?_)
    all_goals (try omega)
end Go.Proofs.Yteefbedjblppiaa

set_option linter.unusedVariables false
set_option linter.unusedSimpArgs false
namespace Go.Proofs.Yteefbedjblppiaa
open Go Go.Fw
def isB (B : List Bool) (G : Nat → Bool) (n : Nat) : Prop := n ≤ B.length ∧ ∀ i, i < n → B.getD i false = G i
set_option maxHeartbeats 0 in
set_option maxRecDepth 100000 in
theorem Of_u (B : List Bool) (G : Nat → Bool) (n ca : Nat) (v : Bool) (hB : isB B G n) (hv : v = true ↔ n ≤ 32768 ∧ n % 2 = 0) (hN : n ≤ 140737488351232) :
    Fits Try.prog 14 ⟨[.slice 0 0 n ca], [boS false B], [uOut [.dead] 1 (ofq G) (nn v (n / 2)) (ee v)]⟩ := by
  cases v
  · have h : ¬ (n ≤ 32768 ∧ n % 2 = 0) := fun h => absurd (hv.2 h) (by decide)
    refine fits_of_body (C := cfgu 1) (c := c14) (ts := [2, 3]) tokU mixed (fun _ => none) (fun _ => none)
      Try.func14 (by kernel_rfl) (by kernel_rfl) (by kernel_rfl) (by kernel_rfl) rfl ?_
    by_cases h1 : n ≤ 32768
    · have h2 : ¬ ((n : Int) % 2 = 0) := fun hh => h ⟨h1, by omega⟩
      conv => whnf
      repeat (first
        | (refine And.intro ?_ ?_; (focus (first | omega | decide | exact EqOk.mk (by kernel_rfl) (by kernel_rfl) (by kernel_rfl) | exact Int.natCast_nonneg _ | ((repeat' refine And.intro ?_ ?_) <;> first | omega | exact Int.natCast_nonneg _ | (simp only [i64max, u8max, u16max, u32max, u64max]; omega) | (simp only [mulSz_eq, Cont.len, colsLen, Col.len, List.length_cons, List.length_nil, List.length_replicate, List.length_append]; first | done | omega) | (simp [mulSz, Cont.len, bne]; first | done | omega)))); conv => whnf)
        | (refine tst_in ?_ ?_; (focus (intro h_; exfalso; first | omega | ((try simp only [decide_eq_true_eq, decide_eq_false_iff_not] at h_); omega) | (simp [mulSz, Cont.len, bne] at h_; first | done | omega))); intro _; conv => whnf)
        | (refine tst_in ?_ ?_; rotate_left; (focus (intro h_; exfalso; first | omega | ((try simp only [decide_eq_true_eq, decide_eq_false_iff_not] at h_); omega) | (simp [mulSz, Cont.len, bne] at h_; first | done | omega))); intro _; conv => whnf)
        | (refine ⟨0, (show _ = _ by omega), ?_⟩; conv => whnf))
      refine .inl ⟨[], [0, 9], ?_⟩
      conv => whnf
      repeat' (first | exact True.intro | rfl | refine And.intro ?_ ?_)
      all_goals (conv => whnf)
      repeat' (first | exact True.intro | rfl | refine And.intro ?_ ?_)
      all_goals (try omega)
    · skip
      conv => whnf
      repeat (first
        | (refine And.intro ?_ ?_; (focus (first | omega | decide | exact EqOk.mk (by kernel_rfl) (by kernel_rfl) (by kernel_rfl) | exact Int.natCast_nonneg _ | ((repeat' refine And.intro ?_ ?_) <;> first | omega | exact Int.natCast_nonneg _ | (simp only [i64max, u8max, u16max, u32max, u64max]; omega) | (simp only [mulSz_eq, Cont.len, colsLen, Col.len, List.length_cons, List.length_nil, List.length_replicate, List.length_append]; first | done | omega) | (simp [mulSz, Cont.len, bne]; first | done | omega)))); conv => whnf)
        | (refine tst_in ?_ ?_; (focus (intro h_; exfalso; first | omega | ((try simp only [decide_eq_true_eq, decide_eq_false_iff_not] at h_); omega) | (simp [mulSz, Cont.len, bne] at h_; first | done | omega))); intro _; conv => whnf)
        | (refine tst_in ?_ ?_; rotate_left; (focus (intro h_; exfalso; first | omega | ((try simp only [decide_eq_true_eq, decide_eq_false_iff_not] at h_); omega) | (simp [mulSz, Cont.len, bne] at h_; first | done | omega))); intro _; conv => whnf)
        | (refine ⟨0, (show _ = _ by omega), ?_⟩; conv => whnf))
      refine .inl ⟨[], [0, 9], ?_⟩
      conv => whnf
      repeat' (first | exact True.intro | rfl | refine And.intro ?_ ?_)
      all_goals (conv => whnf)
      repeat' (first | exact True.intro | rfl | refine And.intro ?_ ?_)
      all_goals (try omega)
  · have h := hv.1 rfl
    have h2 : n = 2 * (n / 2) := by omega
    have OF := Of_f B G (n / 2) ca (by have := hB.1; omega) (by omega) (fun i hi => hB.2 i (by omega))
    rw [← h2] at OF
    exact fits_weak OF fun y _ => ⟨[], True.intro, rfl, by show [Seg.dead, Seg.seg true (.ints .u8 (tab (ofq G) (n / 2) ++ []))] = _; rw [List.append_nil]; rfl⟩
noncomputable def c22 : Code := (Try.f22.body).getD .skip
def st22 (B : List Bool) (G : Nat → Bool) (h ca k : Nat) (t : List Int) : St := ⟨anyTo 60 [.slice 0 0 (2 * h) ca, .any, .any, .any, .slice 1 0 k (k + t.length), .int .i64 ((2 * k : Nat) : Int)], [boS false B, u8S true (tab (ofq G) k ++ t)]⟩
def inv22 (B : List Bool) (G : Nat → Bool) (h ca : Nat) : LInv := ⟨Nat × List Int, fun y => st22 B G h ca y.1 y.2, fun y => y.1 ≤ h, fun y => h - y.1⟩
set_option maxHeartbeats 0 in
set_option maxRecDepth 100000 in
theorem rOf_u (B : List Bool) (G : Nat → Bool) (n ca : Nat) (v : Bool) (hB : isB B G n) (hv : v = true ↔ n ≤ 32768 ∧ n % 2 = 0) (hN : n ≤ 140737488351232) :
    Fits Try.prog 22 ⟨[.slice 0 0 n ca], [boS false B], [uOut [.dead] 1 (ofq G) (nn v (n / 2)) (ee v)]⟩ := by
  cases v
  · have h : ¬ (n ≤ 32768 ∧ n % 2 = 0) := fun h => absurd (hv.2 h) (by decide)
    refine fits_of_body (C := cfgu 1) (c := c22) (ts := [2, 3]) tokU mixed (fun _ => none) (fun _ => none)
      Try.func22 (by kernel_rfl) (by kernel_rfl) (by kernel_rfl) (by kernel_rfl) rfl ?_
    by_cases h1 : n ≤ 32768
    · have h2 : (n : Int) % 2 = 1 := by have : ¬ n % 2 = 0 := fun hh => h ⟨h1, hh⟩; omega
      conv => whnf
      repeat (first
        | (refine And.intro ?_ ?_; (focus (first | omega | decide | exact EqOk.mk (by kernel_rfl) (by kernel_rfl) (by kernel_rfl) | exact Int.natCast_nonneg _ | ((repeat' refine And.intro ?_ ?_) <;> first | omega | exact Int.natCast_nonneg _ | (simp only [i64max, u8max, u16max, u32max, u64max]; omega) | (simp only [mulSz_eq, Cont.len, colsLen, Col.len, List.length_cons, List.length_nil, List.length_replicate, List.length_append]; first | done | omega) | (simp [mulSz, Cont.len, bne]; first | done | omega)))); conv => whnf)
        | (refine tst_in ?_ ?_; (focus (intro h_; exfalso; first | omega | ((try simp only [decide_eq_true_eq, decide_eq_false_iff_not] at h_); omega) | (simp [mulSz, Cont.len, bne] at h_; first | done | omega))); intro _; conv => whnf)
        | (refine tst_in ?_ ?_; rotate_left; (focus (intro h_; exfalso; first | omega | ((try simp only [decide_eq_true_eq, decide_eq_false_iff_not] at h_); omega) | (simp [mulSz, Cont.len, bne] at h_; first | done | omega))); intro _; conv => whnf)
        | (refine ⟨0, (show _ = _ by omega), ?_⟩; conv => whnf))
      refine .inl ⟨[], [0, 9], ?_⟩
      conv => whnf
      repeat' (first | exact True.intro | rfl | refine And.intro ?_ ?_)
      all_goals (conv => whnf)
      repeat' (first | exact True.intro | rfl | refine And.intro ?_ ?_)
      all_goals (try omega)
    · skip
      conv => whnf
      repeat (first
        | (refine And.intro ?_ ?_; (focus (first | omega | decide | exact EqOk.mk (by kernel_rfl) (by kernel_rfl) (by kernel_rfl) | exact Int.natCast_nonneg _ | ((repeat' refine And.intro ?_ ?_) <;> first | omega | exact Int.natCast_nonneg _ | (simp only [i64max, u8max, u16max, u32max, u64max]; omega) | (simp only [mulSz_eq, Cont.len, colsLen, Col.len, List.length_cons, List.length_nil, List.length_replicate, List.length_append]; first | done | omega) | (simp [mulSz, Cont.len, bne]; first | done | omega)))); conv => whnf)
        | (refine tst_in ?_ ?_; (focus (intro h_; exfalso; first | omega | ((try simp only [decide_eq_true_eq, decide_eq_false_iff_not] at h_); omega) | (simp [mulSz, Cont.len, bne] at h_; first | done | omega))); intro _; conv => whnf)
        | (refine tst_in ?_ ?_; rotate_left; (focus (intro h_; exfalso; first | omega | ((try simp only [decide_eq_true_eq, decide_eq_false_iff_not] at h_); omega) | (simp [mulSz, Cont.len, bne] at h_; first | done | omega))); intro _; conv => whnf)
        | (refine ⟨0, (show _ = _ by omega), ?_⟩; conv => whnf))
      refine .inl ⟨[], [0, 9], ?_⟩
      conv => whnf
      repeat' (first | exact True.intro | rfl | refine And.intro ?_ ?_)
      all_goals (conv => whnf)
      repeat' (first | exact True.intro | rfl | refine And.intro ?_ ?_)
      all_goals (try omega)
  · have hh := hv.1 rfl
    obtain ⟨h, rfl⟩ : ∃ h, n = 2 * h := ⟨n / 2, by omega⟩
    rw [show 2 * h / 2 = h by omega]
    have hl := hB.1
    have h16 := hh.1
    have hmod : ((2 * h : Nat) : Int) % 2 = 0 := by omega
    refine fits_of_body (C := cfgu 1) (c := c22) (ts := [2, 3]) tokU mixed (fun | 5 => some (inv22 B G h ca) | _ => none) (fun _ => none)
      Try.func22 (by kernel_rfl) (by kernel_rfl) (by kernel_rfl) (by kernel_rfl) rfl ?_
    conv => whnf
    repeat (first
      | (refine And.intro ?_ ?_; (focus (first | omega | decide | exact EqOk.mk (by kernel_rfl) (by kernel_rfl) (by kernel_rfl) | exact Int.natCast_nonneg _ | ((repeat' refine And.intro ?_ ?_) <;> first | omega | exact Int.natCast_nonneg _ | (simp only [i64max, u8max, u16max, u32max, u64max]; omega) | (simp only [mulSz_eq, Cont.len, colsLen, Col.len, List.length_cons, List.length_nil, List.length_replicate, List.length_append]; first | done | omega) | (simp [mulSz, Cont.len, bne]; first | done | omega)))); conv => whnf)
      | (refine tst_in ?_ ?_; (focus (intro h_; exfalso; first | omega | ((try simp only [decide_eq_true_eq, decide_eq_false_iff_not] at h_); omega) | (simp [mulSz, Cont.len, bne] at h_; first | done | omega))); intro _; conv => whnf)
      | (refine tst_in ?_ ?_; rotate_left; (focus (intro h_; exfalso; first | omega | ((try simp only [decide_eq_true_eq, decide_eq_false_iff_not] at h_); omega) | (simp [mulSz, Cont.len, bne] at h_; first | done | omega))); intro _; conv => whnf)
      | (refine ⟨0, (show _ = _ by omega), ?_⟩; conv => whnf))
    refine ⟨⟨[0, 9], (0, []), ?_, Nat.zero_le _⟩, ?_⟩
    · show stLe _ _ (st22 B G h ca 0 []) _
      conv => whnf
      repeat' (first | exact True.intro | rfl | refine And.intro ?_ ?_)
      all_goals (conv => whnf)
      repeat' (first | exact True.intro | rfl | refine And.intro ?_ ?_)
      all_goals (try omega)
    · rintro ⟨k, t⟩ (hk : k ≤ h)
      show forceSt (st22 B G h ca k t) _
      conv => whnf
      repeat (first
        | (refine And.intro ?_ ?_; (focus (first | omega | decide | exact EqOk.mk (by kernel_rfl) (by kernel_rfl) (by kernel_rfl) | exact Int.natCast_nonneg _ | ((repeat' refine And.intro ?_ ?_) <;> first | omega | exact Int.natCast_nonneg _ | (simp only [i64max, u8max, u16max, u32max, u64max]; omega) | (simp only [mulSz_eq, Cont.len, colsLen, Col.len, List.length_cons, List.length_nil, List.length_replicate, List.length_append]; first | done | omega) | (simp [mulSz, Cont.len, bne]; first | done | omega)))); conv => whnf)
        | (refine tst_in ?_ ?_; (focus (intro h_; exfalso; first | omega | ((try simp only [decide_eq_true_eq, decide_eq_false_iff_not] at h_); omega) | (simp [mulSz, Cont.len, bne] at h_; first | done | omega))); intro _; conv => whnf)
        | (refine tst_in ?_ ?_; rotate_left; (focus (intro h_; exfalso; first | omega | ((try simp only [decide_eq_true_eq, decide_eq_false_iff_not] at h_); omega) | (simp [mulSz, Cont.len, bne] at h_; first | done | omega))); intro _; conv => whnf)
        | (refine ⟨0, (show _ = _ by omega), ?_⟩; conv => whnf))
      refine tst_in (fun hlt => ?_) (fun hge => ?_)
      · skip
        have hlt : k < h := by have h3 : ((2 * k : Nat) : Int) < ((2 * h : Nat) : Int) := of_decide_eq_true (by rw [dLt_eq] at hlt; exact hlt); omega
        have hX : 0 + (((2 * k : Nat) : Int)).toNat = 2 * k := by omega
        have hX2 : 0 + (((2 * k : Nat) : Int) + 1).toNat = 2 * k + 1 := by omega
        have e1 := hB.2 (2 * k) (by omega)
        have e2 := hB.2 (2 * k + 1) (by omega)
        rcases Bool.eq_false_or_eq_true (G (2 * k)) with b1 | b1 <;> rcases Bool.eq_false_or_eq_true (G (2 * k + 1)) with b2 | b2
        all_goals (
          rw [b1] at e1
          rw [b2] at e2
          conv => whnf
          repeat (first
            | (refine And.intro ?_ ?_; (focus (first | omega | decide | exact EqOk.mk (by kernel_rfl) (by kernel_rfl) (by kernel_rfl) | exact Int.natCast_nonneg _ | ((repeat' refine And.intro ?_ ?_) <;> first | omega | exact Int.natCast_nonneg _ | (simp only [i64max, u8max, u16max, u32max, u64max]; omega) | (simp only [mulSz_eq, Cont.len, colsLen, Col.len, List.length_cons, List.length_nil, List.length_replicate, List.length_append]; first | done | omega) | (simp [mulSz, Cont.len, bne]; first | done | omega)))); conv => whnf)
            | (refine tst_in ?_ ?_; (focus (intro h_; exfalso; first | omega | ((try simp only [decide_eq_true_eq, decide_eq_false_iff_not] at h_); omega) | (simp [mulSz, Cont.len, bne] at h_; first | done | omega))); intro _; conv => whnf)
            | (refine tst_in ?_ ?_; rotate_left; (focus (intro h_; exfalso; first | omega | ((try simp only [decide_eq_true_eq, decide_eq_false_iff_not] at h_); omega) | (simp [mulSz, Cont.len, bne] at h_; first | done | omega))); intro _; conv => whnf)
            | (refine ⟨0, (show _ = _ by omega), ?_⟩; conv => whnf))
          rw [hX, e1]
          conv => whnf
          repeat (first
            | (refine And.intro ?_ ?_; (focus (first | omega | decide | exact EqOk.mk (by kernel_rfl) (by kernel_rfl) (by kernel_rfl) | exact Int.natCast_nonneg _ | ((repeat' refine And.intro ?_ ?_) <;> first | omega | exact Int.natCast_nonneg _ | (simp only [i64max, u8max, u16max, u32max, u64max]; omega) | (simp only [mulSz_eq, Cont.len, colsLen, Col.len, List.length_cons, List.length_nil, List.length_replicate, List.length_append]; first | done | omega) | (simp [mulSz, Cont.len, bne]; first | done | omega)))); conv => whnf)
            | (refine tst_in ?_ ?_; (focus (intro h_; exfalso; first | omega | ((try simp only [decide_eq_true_eq, decide_eq_false_iff_not] at h_); omega) | (simp [mulSz, Cont.len, bne] at h_; first | done | omega))); intro _; conv => whnf)
            | (refine tst_in ?_ ?_; rotate_left; (focus (intro h_; exfalso; first | omega | ((try simp only [decide_eq_true_eq, decide_eq_false_iff_not] at h_); omega) | (simp [mulSz, Cont.len, bne] at h_; first | done | omega))); intro _; conv => whnf)
            | (refine ⟨0, (show _ = _ by omega), ?_⟩; conv => whnf))
          try rw [hX2, e2]
          conv => whnf
          repeat (first
            | (refine And.intro ?_ ?_; (focus (first | omega | decide | exact EqOk.mk (by kernel_rfl) (by kernel_rfl) (by kernel_rfl) | exact Int.natCast_nonneg _ | ((repeat' refine And.intro ?_ ?_) <;> first | omega | exact Int.natCast_nonneg _ | (simp only [i64max, u8max, u16max, u32max, u64max]; omega) | (simp only [mulSz_eq, Cont.len, colsLen, Col.len, List.length_cons, List.length_nil, List.length_replicate, List.length_append]; first | done | omega) | (simp [mulSz, Cont.len, bne]; first | done | omega)))); conv => whnf)
            | (refine tst_in ?_ ?_; (focus (intro h_; exfalso; first | omega | ((try simp only [decide_eq_true_eq, decide_eq_false_iff_not] at h_); omega) | (simp [mulSz, Cont.len, bne] at h_; first | done | omega))); intro _; conv => whnf)
            | (refine tst_in ?_ ?_; rotate_left; (focus (intro h_; exfalso; first | omega | ((try simp only [decide_eq_true_eq, decide_eq_false_iff_not] at h_); omega) | (simp [mulSz, Cont.len, bne] at h_; first | done | omega))); intro _; conv => whnf)
            | (refine ⟨0, (show _ = _ by omega), ?_⟩; conv => whnf))
          try rw [hX, e1]
          conv => whnf
          repeat (first
            | (refine And.intro ?_ ?_; (focus (first | omega | decide | exact EqOk.mk (by kernel_rfl) (by kernel_rfl) (by kernel_rfl) | exact Int.natCast_nonneg _ | ((repeat' refine And.intro ?_ ?_) <;> first | omega | exact Int.natCast_nonneg _ | (simp only [i64max, u8max, u16max, u32max, u64max]; omega) | (simp only [mulSz_eq, Cont.len, colsLen, Col.len, List.length_cons, List.length_nil, List.length_replicate, List.length_append]; first | done | omega) | (simp [mulSz, Cont.len, bne]; first | done | omega)))); conv => whnf)
            | (refine tst_in ?_ ?_; (focus (intro h_; exfalso; first | omega | ((try simp only [decide_eq_true_eq, decide_eq_false_iff_not] at h_); omega) | (simp [mulSz, Cont.len, bne] at h_; first | done | omega))); intro _; conv => whnf)
            | (refine tst_in ?_ ?_; rotate_left; (focus (intro h_; exfalso; first | omega | ((try simp only [decide_eq_true_eq, decide_eq_false_iff_not] at h_); omega) | (simp [mulSz, Cont.len, bne] at h_; first | done | omega))); intro _; conv => whnf)
            | (refine ⟨0, (show _ = _ by omega), ?_⟩; conv => whnf))
          try rw [hX2, e2]
          conv => whnf
          repeat (first
            | (refine And.intro ?_ ?_; (focus (first | omega | decide | exact EqOk.mk (by kernel_rfl) (by kernel_rfl) (by kernel_rfl) | exact Int.natCast_nonneg _ | ((repeat' refine And.intro ?_ ?_) <;> first | omega | exact Int.natCast_nonneg _ | (simp only [i64max, u8max, u16max, u32max, u64max]; omega) | (simp only [mulSz_eq, Cont.len, colsLen, Col.len, List.length_cons, List.length_nil, List.length_replicate, List.length_append, tab_len, List.length_take, List.length_drop]; first | done | omega) | (simp [mulSz, Cont.len, bne, tab_len, List.length_take, List.length_drop]; first | done | omega)))); conv => whnf)
            | (refine tst_in ?_ ?_; (focus (intro h_; exfalso; first | omega | ((try simp only [decide_eq_true_eq, decide_eq_false_iff_not] at h_); omega) | (simp [mulSz, Cont.len, bne, tab_len, List.length_take, List.length_drop] at h_; first | done | omega))); intro _; conv => whnf)
            | (refine tst_in ?_ ?_; rotate_left; (focus (intro h_; exfalso; first | omega | ((try simp only [decide_eq_true_eq, decide_eq_false_iff_not] at h_); omega) | (simp [mulSz, Cont.len, bne, tab_len, List.length_take, List.length_drop] at h_; first | done | omega))); intro _; conv => whnf)
            | (refine ⟨0, (show _ = _ by omega), ?_⟩; conv => whnf))
          intro (t1 : List Int)
          conv => whnf
          repeat (first
            | (refine And.intro ?_ ?_; (focus (first | omega | decide | exact EqOk.mk (by kernel_rfl) (by kernel_rfl) (by kernel_rfl) | exact Int.natCast_nonneg _ | ((repeat' refine And.intro ?_ ?_) <;> first | omega | exact Int.natCast_nonneg _ | (simp only [i64max, u8max, u16max, u32max, u64max]; omega) | (simp only [mulSz_eq, Cont.len, colsLen, Col.len, List.length_cons, List.length_nil, List.length_replicate, List.length_append]; first | done | omega) | (simp [mulSz, Cont.len, bne]; first | done | omega)))); conv => whnf)
            | (refine tst_in ?_ ?_; (focus (intro h_; exfalso; first | omega | ((try simp only [decide_eq_true_eq, decide_eq_false_iff_not] at h_); omega) | (simp [mulSz, Cont.len, bne] at h_; first | done | omega))); intro _; conv => whnf)
            | (refine tst_in ?_ ?_; rotate_left; (focus (intro h_; exfalso; first | omega | ((try simp only [decide_eq_true_eq, decide_eq_false_iff_not] at h_); omega) | (simp [mulSz, Cont.len, bne] at h_; first | done | omega))); intro _; conv => whnf)
            | (refine ⟨0, (show _ = _ by omega), ?_⟩; conv => whnf))
          refine ⟨[0, 3], (k + 1, t1), ?_, (by show k + 1 ≤ h; omega), (by show h - (k + 1) < h - k; omega)⟩
          show stLe _ _ (st22 B G h ca (k + 1) t1) _
          conv => whnf
          repeat' (first | exact True.intro | rfl | refine And.intro ?_ ?_)
          all_goals (conv => whnf)
          repeat' (first | exact True.intro | rfl | refine And.intro ?_ ?_)
          all_goals (try omega)
          all_goals (first | (show ((2 * (k + 1) : Nat) : Int) = _; omega) | exact (push_tab (ofq G) t t1 k _ (by unfold ofq; rw [b1, b2]; rfl)).symm)
        )
      · skip
        have hge : k = h := by have h3 : ¬ ((2 * k : Nat) : Int) < ((2 * h : Nat) : Int) := of_decide_eq_false (by rw [dLt_eq] at hge; exact hge); omega
        subst hge
        conv => whnf
        repeat (first
          | (refine And.intro ?_ ?_; (focus (first | omega | decide | exact EqOk.mk (by kernel_rfl) (by kernel_rfl) (by kernel_rfl) | exact Int.natCast_nonneg _ | ((repeat' refine And.intro ?_ ?_) <;> first | omega | exact Int.natCast_nonneg _ | (simp only [i64max, u8max, u16max, u32max, u64max]; omega) | (simp only [mulSz_eq, Cont.len, colsLen, Col.len, List.length_cons, List.length_nil, List.length_replicate, List.length_append]; first | done | omega) | (simp [mulSz, Cont.len, bne]; first | done | omega)))); conv => whnf)
          | (refine tst_in ?_ ?_; (focus (intro h_; exfalso; first | omega | ((try simp only [decide_eq_true_eq, decide_eq_false_iff_not] at h_); omega) | (simp [mulSz, Cont.len, bne] at h_; first | done | omega))); intro _; conv => whnf)
          | (refine tst_in ?_ ?_; rotate_left; (focus (intro h_; exfalso; first | omega | ((try simp only [decide_eq_true_eq, decide_eq_false_iff_not] at h_); omega) | (simp [mulSz, Cont.len, bne] at h_; first | done | omega))); intro _; conv => whnf)
          | (refine ⟨0, (show _ = _ by omega), ?_⟩; conv => whnf))
        refine .inl ⟨t, [0, 1], ?_⟩
        conv => whnf
        repeat' (first | exact True.intro | rfl | refine And.intro ?_ ?_)
        all_goals (conv => whnf)
        repeat' (first | exact True.intro | rfl | refine And.intro ?_ ?_)
        all_goals (try omega)
noncomputable def c7 : Code := (Try.f7.body).getD .skip
def st7 (A B : List Bool) (n ca cb i : Nat) : St := ⟨anyTo 26 [.slice 0 0 n ca, .slice 1 0 n cb, .any, .any, .any, .int .i64 i], [boS false A, boS false B]⟩
def inv7 (A B : List Bool) (n ca cb : Nat) : LInv := ⟨Nat, fun i => st7 A B n ca cb i, fun i => i ≤ n, fun i => n - i⟩
set_option maxHeartbeats 0 in
set_option maxRecDepth 100000 in
theorem truths_q (A B : List Bool) (n ca cb : Nat) (hn : n ≤ 140737488351232) (hA : n ≤ A.length) (hB : n ≤ B.length) (hE : ∀ i, i < n → A.getD i false = B.getD i false) :
    QFits Try.prog 7 ⟨[.slice 0 0 n ca, .slice 1 0 n cb], [boS false A, boS false B], .bool true⟩ := by
  refine qfits_of_body (C := cfgu 2) (c := c7) (ts := [4]) tokU mixed (fun | 4 => some (inv7 A B n ca cb) | _ => none) (fun _ => none)
    Try.func7 (by kernel_rfl) (by kernel_rfl) (by kernel_rfl) (by kernel_rfl) (by kernel_rfl) rfl rfl ?_
  conv => whnf
  repeat (first
    | (refine And.intro ?_ ?_; (focus (first | omega | decide | exact EqOk.mk (by kernel_rfl) (by kernel_rfl) (by kernel_rfl) | exact Int.natCast_nonneg _ | ((repeat' refine And.intro ?_ ?_) <;> first | omega | exact Int.natCast_nonneg _ | (simp only [i64max, u8max, u16max, u32max, u64max]; omega) | (simp only [mulSz_eq, Cont.len, colsLen, Col.len, List.length_cons, List.length_nil, List.length_replicate, List.length_append]; first | done | omega) | (simp [mulSz, Cont.len, bne]; first | done | omega)))); conv => whnf)
    | (refine tst_in ?_ ?_; (focus (intro h_; exfalso; first | omega | ((try simp only [decide_eq_true_eq, decide_eq_false_iff_not] at h_); omega) | (simp [mulSz, Cont.len, bne] at h_; first | done | omega))); intro _; conv => whnf)
    | (refine tst_in ?_ ?_; rotate_left; (focus (intro h_; exfalso; first | omega | ((try simp only [decide_eq_true_eq, decide_eq_false_iff_not] at h_); omega) | (simp [mulSz, Cont.len, bne] at h_; first | done | omega))); intro _; conv => whnf)
    | (refine ⟨0, (show _ = _ by omega), ?_⟩; conv => whnf))
  refine ⟨⟨[0, 1], (0 : Nat), ?_, Nat.zero_le _⟩, ?_⟩
  · show stLe _ _ (st7 A B n ca cb 0) _
    conv => whnf
    repeat' (first | exact True.intro | rfl | refine And.intro ?_ ?_)
    all_goals (conv => whnf)
    repeat' (first | exact True.intro | rfl | refine And.intro ?_ ?_)
    all_goals (try omega)
  · intro (i : Nat) (hi : i ≤ n)
    show forceSt (st7 A B n ca cb i) _
    conv => whnf
    repeat (first
      | (refine And.intro ?_ ?_; (focus (first | omega | decide | exact EqOk.mk (by kernel_rfl) (by kernel_rfl) (by kernel_rfl) | exact Int.natCast_nonneg _ | ((repeat' refine And.intro ?_ ?_) <;> first | omega | exact Int.natCast_nonneg _ | (simp only [i64max, u8max, u16max, u32max, u64max]; omega) | (simp only [mulSz_eq, Cont.len, colsLen, Col.len, List.length_cons, List.length_nil, List.length_replicate, List.length_append]; first | done | omega) | (simp [mulSz, Cont.len, bne]; first | done | omega)))); conv => whnf)
      | (refine tst_in ?_ ?_; (focus (intro h_; exfalso; first | omega | ((try simp only [decide_eq_true_eq, decide_eq_false_iff_not] at h_); omega) | (simp [mulSz, Cont.len, bne] at h_; first | done | omega))); intro _; conv => whnf)
      | (refine tst_in ?_ ?_; rotate_left; (focus (intro h_; exfalso; first | omega | ((try simp only [decide_eq_true_eq, decide_eq_false_iff_not] at h_); omega) | (simp [mulSz, Cont.len, bne] at h_; first | done | omega))); intro _; conv => whnf)
      | (refine ⟨0, (show _ = _ by omega), ?_⟩; conv => whnf))
    refine tst_in (fun hlt => ?_) (fun hge => ?_)
    · skip
      have hlt : i < n := by simp at hlt; omega
      have hi0 : 0 + ((i : Int)).toNat = i := by omega
      have hb : (A.getD i false != B.getD i false) = false := by rw [hE i hlt]; cases B.getD i false <;> rfl
      conv => whnf
      repeat (first
        | (refine And.intro ?_ ?_; (focus (first | omega | decide | exact EqOk.mk (by kernel_rfl) (by kernel_rfl) (by kernel_rfl) | exact Int.natCast_nonneg _ | ((repeat' refine And.intro ?_ ?_) <;> first | omega | exact Int.natCast_nonneg _ | (simp only [i64max, u8max, u16max, u32max, u64max]; omega) | (simp only [mulSz_eq, Cont.len, colsLen, Col.len, List.length_cons, List.length_nil, List.length_replicate, List.length_append]; first | done | omega) | (simp [mulSz, Cont.len, bne]; first | done | omega)))); conv => whnf)
        | (refine tst_in ?_ ?_; (focus (intro h_; exfalso; first | omega | ((try simp only [decide_eq_true_eq, decide_eq_false_iff_not] at h_); omega) | (simp [mulSz, Cont.len, bne] at h_; first | done | omega))); intro _; conv => whnf)
        | (refine tst_in ?_ ?_; rotate_left; (focus (intro h_; exfalso; first | omega | ((try simp only [decide_eq_true_eq, decide_eq_false_iff_not] at h_); omega) | (simp [mulSz, Cont.len, bne] at h_; first | done | omega))); intro _; conv => whnf)
        | (refine ⟨0, (show _ = _ by omega), ?_⟩; conv => whnf))
      rw [hi0, hb]
      conv => whnf
      repeat (first
        | (refine And.intro ?_ ?_; (focus (first | omega | decide | exact EqOk.mk (by kernel_rfl) (by kernel_rfl) (by kernel_rfl) | exact Int.natCast_nonneg _ | ((repeat' refine And.intro ?_ ?_) <;> first | omega | exact Int.natCast_nonneg _ | (simp only [i64max, u8max, u16max, u32max, u64max]; omega) | (simp only [mulSz_eq, Cont.len, colsLen, Col.len, List.length_cons, List.length_nil, List.length_replicate, List.length_append]; first | done | omega) | (simp [mulSz, Cont.len, bne]; first | done | omega)))); conv => whnf)
        | (refine tst_in ?_ ?_; (focus (intro h_; exfalso; first | omega | ((try simp only [decide_eq_true_eq, decide_eq_false_iff_not] at h_); omega) | (simp [mulSz, Cont.len, bne] at h_; first | done | omega))); intro _; conv => whnf)
        | (refine tst_in ?_ ?_; rotate_left; (focus (intro h_; exfalso; first | omega | ((try simp only [decide_eq_true_eq, decide_eq_false_iff_not] at h_); omega) | (simp [mulSz, Cont.len, bne] at h_; first | done | omega))); intro _; conv => whnf)
        | (refine ⟨0, (show _ = _ by omega), ?_⟩; conv => whnf))
      refine ⟨[0, 1], i + 1, ?_, (by show i + 1 ≤ n; omega), (by show n - (i + 1) < n - i; omega)⟩
      show stLe _ _ (st7 A B n ca cb (i + 1)) _
      conv => whnf
      repeat' (first | exact True.intro | rfl | refine And.intro ?_ ?_)
      all_goals (conv => whnf)
      repeat' (first | exact True.intro | rfl | refine And.intro ?_ ?_)
      all_goals (try omega)
    · skip
      have hge : i = n := by simp at hge; omega
      subst hge
      conv => whnf
      repeat (first
        | (refine And.intro ?_ ?_; (focus (first | omega | decide | exact EqOk.mk (by kernel_rfl) (by kernel_rfl) (by kernel_rfl) | exact Int.natCast_nonneg _ | ((repeat' refine And.intro ?_ ?_) <;> first | omega | exact Int.natCast_nonneg _ | (simp only [i64max, u8max, u16max, u32max, u64max]; omega) | (simp only [mulSz_eq, Cont.len, colsLen, Col.len, List.length_cons, List.length_nil, List.length_replicate, List.length_append]; first | done | omega) | (simp [mulSz, Cont.len, bne]; first | done | omega)))); conv => whnf)
        | (refine tst_in ?_ ?_; (focus (intro h_; exfalso; first | omega | ((try simp only [decide_eq_true_eq, decide_eq_false_iff_not] at h_); omega) | (simp [mulSz, Cont.len, bne] at h_; first | done | omega))); intro _; conv => whnf)
        | (refine tst_in ?_ ?_; rotate_left; (focus (intro h_; exfalso; first | omega | ((try simp only [decide_eq_true_eq, decide_eq_false_iff_not] at h_); omega) | (simp [mulSz, Cont.len, bne] at h_; first | done | omega))); intro _; conv => whnf)
        | (refine ⟨0, (show _ = _ by omega), ?_⟩; conv => whnf))
end Go.Proofs.Yteefbedjblppiaa
