/-
  For any places, any row of blocks and any number, the shifted places are the document s, the error too, and what was handed in stands; the law answers true and leaves its arguments as they were. No condition.
-/
import Derived.Test.YtpbndfocpnemfaaRows
import Derived.Test.YtpbndfocpnemfaaFv
import Derived.Test.YtpbndfocpnemfaaChecked
import Derived.Test.YtpbndfocpnemfaaFa
import Derived.WalkKit
import Derived.ProofKit
import Derived.OpenShut
import Derived.SizedLaws
set_option linter.unusedSimpArgs false
set_option linter.unusedVariables false
set_option linter.unusedVariables false
set_option linter.unusedSimpArgs false
namespace Go.Proofs.Ytpbndfocpnemfaa
open Go Go.Fw
def tys : List (Nat × TyI) := [
  (3, ⟨.int .i64, 1, 8, .int .i64 0⟩),
  (4, ⟨.bool, 1, 1, .bool false⟩),
  (22, ⟨.slice 3, 1, 24, .slice none 0 0⟩),
  (23, ⟨.array 2 3, 2, 16, .agg #[.int .i64 0, .int .i64 0]⟩),
  (25, ⟨.struct [(0, 3), (1, 23), (3, 22), (4, 3)], 5, 56, .agg #[.int .i64 0, .int .i64 0, .int .i64 0, .slice none 0 0, .int .i64 0]⟩),
  (26, ⟨.int .i64, 1, 8, .int .i64 0⟩),
  (31, ⟨.func, 1, 8, .nilFunc⟩)]
theorem tok : TOk Try.prog tys := by
  intro p hp
  simp only [tys, List.mem_cons, List.not_mem_nil, or_false] at hp
  rcases hp with rfl | rfl | rfl | rfl | rfl | rfl | rfl
  all_goals exact ⟨by kernel_rfl, by kernel_rfl⟩
theorem mixed : Try.prog.follows .mixedOrders = true := by kernel_rfl
def qf : Nat → Bool := fun f => false
def cfgs (k : Nat) : Cfg := { T := tys, sgn := fun _ => false, wr := fun _ => false, k := k, q := qf }
theorem i64max : IntKind.i64.max = 9223372036854775807 := rfl
theorem u8max : IntKind.u8.max = 255 := rfl
theorem u16max : IntKind.u16.max = 65535 := rfl
theorem u32max : IntKind.u32.max = 4294967295 := rfl
theorem u64max : IntKind.u64.max = 18446744073709551615 := rfl
def numOut (D : List Seg) (x : AV) : FOut := ⟨Unit, fun _ => True, fun _ => x, fun _ => D⟩
/-- A row by what stands at each place. -/
def tab {α : Type} (f : Nat → α) (n : Nat) : List α := (List.range n).map f
theorem tab_len {α : Type} (f : Nat → α) (n : Nat) : (tab f n).length = n := by simp [tab]
theorem tab_get {α : Type} (f : Nat → α) (d : α) {n i : Nat} (h : i < n) : (tab f n).getD i d = f i := by
  rw [List.getD_eq_getElem?_getD, tab, List.getElem?_map, List.getElem?_range h]; rfl
theorem tab_snoc {α : Type} (f : Nat → α) (n : Nat) : tab f n ++ [f n] = tab f (n + 1) := by simp [tab, List.range_succ]
theorem tab_app {α : Type} (f : Nat → α) (d : α) (t : List α) {n i : Nat} (h : i < n) : (tab f n ++ t).getD i d = f i := by
  rw [List.getD_eq_getElem?_getD, List.getElem?_append_left (by rw [tab_len]; exact h), ← List.getD_eq_getElem?_getD, tab_get f d h]
theorem tab_congr {α : Type} {f g : Nat → α} {n : Nat} (h : ∀ i, i < n → f i = g i) : tab f n = tab g n := by
  unfold tab
  apply List.map_congr_left
  intro i hi
  exact h i (List.mem_range.1 hi)
theorem app_len {α : Type} (f : Nat → α) (n : Nat) (t : List α) : (tab f n ++ t).length = n + t.length := by rw [List.length_append, tab_len]
def okS (a b : Int) : Bool := decide (0 ≤ a ∧ a ≤ 65536 ∧ 0 ≤ a + b ∧ a + b ≤ 65536)
def shv (a b : Int) : Int := if okS a b then a + b else 0
theorem okS_t {a b : Int} (h : 0 ≤ a ∧ a ≤ 65536 ∧ 0 ≤ a + b ∧ a + b ≤ 65536) : okS a b = true := decide_eq_true h
theorem okS_f {a b : Int} (h : ¬ (0 ≤ a ∧ a ≤ 65536 ∧ 0 ≤ a + b ∧ a + b ≤ 65536)) : okS a b = false := decide_eq_false h
def bc (b : Int) : Seg := .seg true (.avs [.int .i64 b])
def wc (w : Bool) : Seg := .seg true (.avs [.bool w])
noncomputable def c7 : Code := (Try.f7.body).getD .skip
def i64r (a : Int) : Prop := -9223372036854775808 ≤ a ∧ a ≤ 9223372036854775807
set_option maxHeartbeats 0 in
set_option maxRecDepth 100000 in
theorem sh_f (a b : Int) (w : Bool) (ha : i64r a) (hb : i64r b) : Fits Try.prog 7 ⟨[.int .i64 a, .ptr 0 0, .ptr 1 0], [bc b, wc w], [numOut [bc b, wc (w && okS a b)] (.int .i64 (shv a b))]⟩ := by
  unfold i64r at ha hb
  unfold shv
  have fin : ∀ {e : Bool}, okS a b = e → okS a b = e := fun h => h
  by_cases h1 : a < 0
  · skip
    rw [okS_f (by omega), Bool.and_false]
    refine fits_of_body (C := cfgs 2) (c := c7) (ts := [4]) tok mixed (fun _ => none) (fun _ => none)
      Try.func7 (by kernel_rfl) (by kernel_rfl) (by kernel_rfl) (by kernel_rfl) rfl ?_
    conv => whnf
    repeat (first
      | (refine And.intro ?_ ?_; (focus (first | omega | decide | exact Int.natCast_nonneg _ | ((repeat' refine And.intro ?_ ?_) <;> first | omega | exact Int.natCast_nonneg _ | (simp only [i64max]; omega) | (simp only [u8max]; omega) | (simp only [i64max, u8max, u16max, u32max, u64max]; omega) | (simp [mulSz, Cont.len, bne]; done) | (simp [mulSz, Cont.len, bne]; omega)))); conv => whnf)
      | (refine tst_in ?_ ?_; (focus (intro h_; exfalso; first | omega | ((try simp only [decide_eq_true_eq, decide_eq_false_iff_not] at h_); omega) | (simp [mulSz, Cont.len, bne] at h_; done) | (simp [mulSz, Cont.len, bne] at h_; omega))); intro _; conv => whnf)
      | (refine tst_in ?_ ?_; rotate_left; (focus (intro h_; exfalso; first | omega | ((try simp only [decide_eq_true_eq, decide_eq_false_iff_not] at h_); omega) | (simp [mulSz, Cont.len, bne] at h_; done) | (simp [mulSz, Cont.len, bne] at h_; omega))); intro _; conv => whnf))
    refine .inl ⟨(), [0, 1], ?_⟩
    conv => whnf
    repeat' (first | exact True.intro | rfl | refine And.intro ?_ ?_)
    all_goals (conv => whnf)
    repeat' (first | exact True.intro | rfl | refine And.intro ?_ ?_)
    all_goals (try (first | omega | exact True.intro | rfl | assumption | (change LE.le (α := Nat) _ _; first | omega | (simp only []; omega)) | (simp only []; done) | (simp only []; omega) | (simp; done) | (simp; omega)))
  by_cases h2 : 65536 < a
  · skip
    rw [okS_f (by omega), Bool.and_false]
    refine fits_of_body (C := cfgs 2) (c := c7) (ts := [4]) tok mixed (fun _ => none) (fun _ => none)
      Try.func7 (by kernel_rfl) (by kernel_rfl) (by kernel_rfl) (by kernel_rfl) rfl ?_
    conv => whnf
    repeat (first
      | (refine And.intro ?_ ?_; (focus (first | omega | decide | exact Int.natCast_nonneg _ | ((repeat' refine And.intro ?_ ?_) <;> first | omega | exact Int.natCast_nonneg _ | (simp only [i64max]; omega) | (simp only [u8max]; omega) | (simp only [i64max, u8max, u16max, u32max, u64max]; omega) | (simp [mulSz, Cont.len, bne]; done) | (simp [mulSz, Cont.len, bne]; omega)))); conv => whnf)
      | (refine tst_in ?_ ?_; (focus (intro h_; exfalso; first | omega | ((try simp only [decide_eq_true_eq, decide_eq_false_iff_not] at h_); omega) | (simp [mulSz, Cont.len, bne] at h_; done) | (simp [mulSz, Cont.len, bne] at h_; omega))); intro _; conv => whnf)
      | (refine tst_in ?_ ?_; rotate_left; (focus (intro h_; exfalso; first | omega | ((try simp only [decide_eq_true_eq, decide_eq_false_iff_not] at h_); omega) | (simp [mulSz, Cont.len, bne] at h_; done) | (simp [mulSz, Cont.len, bne] at h_; omega))); intro _; conv => whnf))
    refine .inl ⟨(), [0, 1], ?_⟩
    conv => whnf
    repeat' (first | exact True.intro | rfl | refine And.intro ?_ ?_)
    all_goals (conv => whnf)
    repeat' (first | exact True.intro | rfl | refine And.intro ?_ ?_)
    all_goals (try (first | omega | exact True.intro | rfl | assumption | (change LE.le (α := Nat) _ _; first | omega | (simp only []; omega)) | (simp only []; done) | (simp only []; omega) | (simp; done) | (simp; omega)))
  by_cases h3 : b < 0 - a
  · skip
    rw [okS_f (by omega), Bool.and_false]
    refine fits_of_body (C := cfgs 2) (c := c7) (ts := [4]) tok mixed (fun _ => none) (fun _ => none)
      Try.func7 (by kernel_rfl) (by kernel_rfl) (by kernel_rfl) (by kernel_rfl) rfl ?_
    conv => whnf
    repeat (first
      | (refine And.intro ?_ ?_; (focus (first | omega | decide | exact Int.natCast_nonneg _ | ((repeat' refine And.intro ?_ ?_) <;> first | omega | exact Int.natCast_nonneg _ | (simp only [i64max]; omega) | (simp only [u8max]; omega) | (simp only [i64max, u8max, u16max, u32max, u64max]; omega) | (simp [mulSz, Cont.len, bne]; done) | (simp [mulSz, Cont.len, bne]; omega)))); conv => whnf)
      | (refine tst_in ?_ ?_; (focus (intro h_; exfalso; first | omega | ((try simp only [decide_eq_true_eq, decide_eq_false_iff_not] at h_); omega) | (simp [mulSz, Cont.len, bne] at h_; done) | (simp [mulSz, Cont.len, bne] at h_; omega))); intro _; conv => whnf)
      | (refine tst_in ?_ ?_; rotate_left; (focus (intro h_; exfalso; first | omega | ((try simp only [decide_eq_true_eq, decide_eq_false_iff_not] at h_); omega) | (simp [mulSz, Cont.len, bne] at h_; done) | (simp [mulSz, Cont.len, bne] at h_; omega))); intro _; conv => whnf))
    refine .inl ⟨(), [0, 1], ?_⟩
    conv => whnf
    repeat' (first | exact True.intro | rfl | refine And.intro ?_ ?_)
    all_goals (conv => whnf)
    repeat' (first | exact True.intro | rfl | refine And.intro ?_ ?_)
    all_goals (try (first | omega | exact True.intro | rfl | assumption | (change LE.le (α := Nat) _ _; first | omega | (simp only []; omega)) | (simp only []; done) | (simp only []; omega) | (simp; done) | (simp; omega)))
  by_cases h4 : 65536 - a < b
  · skip
    rw [okS_f (by omega), Bool.and_false]
    refine fits_of_body (C := cfgs 2) (c := c7) (ts := [4]) tok mixed (fun _ => none) (fun _ => none)
      Try.func7 (by kernel_rfl) (by kernel_rfl) (by kernel_rfl) (by kernel_rfl) rfl ?_
    conv => whnf
    repeat (first
      | (refine And.intro ?_ ?_; (focus (first | omega | decide | exact Int.natCast_nonneg _ | ((repeat' refine And.intro ?_ ?_) <;> first | omega | exact Int.natCast_nonneg _ | (simp only [i64max]; omega) | (simp only [u8max]; omega) | (simp only [i64max, u8max, u16max, u32max, u64max]; omega) | (simp [mulSz, Cont.len, bne]; done) | (simp [mulSz, Cont.len, bne]; omega)))); conv => whnf)
      | (refine tst_in ?_ ?_; (focus (intro h_; exfalso; first | omega | ((try simp only [decide_eq_true_eq, decide_eq_false_iff_not] at h_); omega) | (simp [mulSz, Cont.len, bne] at h_; done) | (simp [mulSz, Cont.len, bne] at h_; omega))); intro _; conv => whnf)
      | (refine tst_in ?_ ?_; rotate_left; (focus (intro h_; exfalso; first | omega | ((try simp only [decide_eq_true_eq, decide_eq_false_iff_not] at h_); omega) | (simp [mulSz, Cont.len, bne] at h_; done) | (simp [mulSz, Cont.len, bne] at h_; omega))); intro _; conv => whnf))
    refine .inl ⟨(), [0, 1], ?_⟩
    conv => whnf
    repeat' (first | exact True.intro | rfl | refine And.intro ?_ ?_)
    all_goals (conv => whnf)
    repeat' (first | exact True.intro | rfl | refine And.intro ?_ ?_)
    all_goals (try (first | omega | exact True.intro | rfl | assumption | (change LE.le (α := Nat) _ _; first | omega | (simp only []; omega)) | (simp only []; done) | (simp only []; omega) | (simp; done) | (simp; omega)))
  · skip
    rw [okS_t (by omega), Bool.and_true]
    refine fits_of_body (C := cfgs 2) (c := c7) (ts := [4]) tok mixed (fun _ => none) (fun _ => none)
      Try.func7 (by kernel_rfl) (by kernel_rfl) (by kernel_rfl) (by kernel_rfl) rfl ?_
    conv => whnf
    repeat (first
      | (refine And.intro ?_ ?_; (focus (first | omega | decide | exact Int.natCast_nonneg _ | ((repeat' refine And.intro ?_ ?_) <;> first | omega | exact Int.natCast_nonneg _ | (simp only [i64max]; omega) | (simp only [u8max]; omega) | (simp only [i64max, u8max, u16max, u32max, u64max]; omega) | (simp [mulSz, Cont.len, bne]; done) | (simp [mulSz, Cont.len, bne]; omega)))); conv => whnf)
      | (refine tst_in ?_ ?_; (focus (intro h_; exfalso; first | omega | ((try simp only [decide_eq_true_eq, decide_eq_false_iff_not] at h_); omega) | (simp [mulSz, Cont.len, bne] at h_; done) | (simp [mulSz, Cont.len, bne] at h_; omega))); intro _; conv => whnf)
      | (refine tst_in ?_ ?_; rotate_left; (focus (intro h_; exfalso; first | omega | ((try simp only [decide_eq_true_eq, decide_eq_false_iff_not] at h_); omega) | (simp [mulSz, Cont.len, bne] at h_; done) | (simp [mulSz, Cont.len, bne] at h_; omega))); intro _; conv => whnf))
    refine .inl ⟨(), [0, 1], ?_⟩
    conv => whnf
    repeat' (first | exact True.intro | rfl | refine And.intro ?_ ?_)
    all_goals (conv => whnf)
    repeat' (first | exact True.intro | rfl | refine And.intro ?_ ?_)
    all_goals (try (first | omega | exact True.intro | rfl | assumption | (change LE.le (α := Nat) _ _; first | omega | (simp only []; omega)) | (simp only []; done) | (simp only []; omega) | (simp; done) | (simp; omega)))
end Go.Proofs.Ytpbndfocpnemfaa

set_option linter.unusedVariables false
set_option linter.unusedSimpArgs false
namespace Go.Proofs.Ytpbndfocpnemfaa
open Go Go.Fw
def pls (m a b : Int) (sl : AV) (l : Int) : AV := .agg [.int .i64 m, .int .i64 a, .int .i64 b, sl, .int .i64 l]
def plc (m a b : Int) (sl : AV) (l : Int) : Seg := .seg true (.avs [.int .i64 m, .int .i64 a, .int .i64 b, sl, .int .i64 l])
noncomputable def c6 : Code := (Try.f6.body).getD .skip
def st6 (m a b l : Int) (A B : List Int) (n ca cb k : Nat) : St := ⟨anyTo 63 [.any, .any, .ptr 2 0, .ptr 3 0, .any, .int .i64 k], [.seg false (.ints .i64 A), .seg false (.ints .i64 B), plc m a b (.slice 0 0 n ca) l, plc m a b (.slice 1 0 n cb) l]⟩
def inv6 (m a b l : Int) (A B : List Int) (n ca cb : Nat) : LInv := ⟨Nat, fun k => st6 m a b l A B n ca cb k, fun k => k ≤ n, fun k => n - k⟩
set_option maxHeartbeats 0 in
set_option maxRecDepth 100000 in
theorem same_f (m a b l : Int) (A B : List Int) (n ca cb : Nat) (hA : n ≤ A.length) (hB : n ≤ B.length) (hN : n ≤ 4611686018427387904) (hE : ∀ i, i < n → A.getD i 0 = B.getD i 0) :
    Fits Try.prog 6 ⟨[pls m a b (.slice 0 0 n ca) l, pls m a b (.slice 1 0 n cb) l], [.seg false (.ints .i64 A), .seg false (.ints .i64 B)], [numOut [.dead, .dead] (.bool true)]⟩ := by
  refine fits_of_body (C := cfgs 2) (c := c6) (ts := [4]) tok mixed (fun | 4 => some (inv6 m a b l A B n ca cb) | _ => none) (fun _ => none)
    Try.func6 (by kernel_rfl) (by kernel_rfl) (by kernel_rfl) (by kernel_rfl) rfl ?_
  conv => whnf
  repeat (first
    | (refine And.intro ?_ ?_; (focus (first | omega | decide | exact Int.natCast_nonneg _ | ((repeat' refine And.intro ?_ ?_) <;> first | omega | exact Int.natCast_nonneg _ | (simp only [i64max]; omega) | (simp only [u8max]; omega) | (simp only [i64max, u8max, u16max, u32max, u64max]; omega) | (simp [mulSz, Cont.len, bne]; done) | (simp [mulSz, Cont.len, bne]; omega)))); conv => whnf)
    | (refine tst_in ?_ ?_; (focus (intro h_; exfalso; first | omega | ((try simp only [decide_eq_true_eq, decide_eq_false_iff_not] at h_); omega) | (simp [mulSz, Cont.len, bne] at h_; done) | (simp [mulSz, Cont.len, bne] at h_; omega))); intro _; conv => whnf)
    | (refine tst_in ?_ ?_; rotate_left; (focus (intro h_; exfalso; first | omega | ((try simp only [decide_eq_true_eq, decide_eq_false_iff_not] at h_); omega) | (simp [mulSz, Cont.len, bne] at h_; done) | (simp [mulSz, Cont.len, bne] at h_; omega))); intro _; conv => whnf))
  refine ⟨⟨[0, 1, 2, 3], (0 : Nat), ?_, Nat.zero_le _⟩, ?_⟩
  · conv => whnf
    repeat' (first | exact True.intro | rfl | refine And.intro ?_ ?_)
    all_goals (conv => whnf)
    repeat' (first | exact True.intro | rfl | refine And.intro ?_ ?_)
    all_goals (try (first | omega | exact True.intro | rfl | assumption | (change LE.le (α := Nat) _ _; first | omega | (simp only []; omega)) | (simp only []; done) | (simp only []; omega) | (simp; done) | (simp; omega)))
  · intro (k : Nat) (hk : k ≤ n)
    show forceSt (st6 m a b l A B n ca cb k) _
    have hX : 0 + ((k : Int)).toNat = k := by omega
    conv => whnf
    refine tst_in (fun hlt => ?_) (fun hge => ?_)
    · skip
      have hlt : k < n := by simp at hlt; omega
      have hv := hE k hlt
      conv => whnf
      repeat (first
        | (refine And.intro ?_ ?_; (focus (first | omega | decide | exact Int.natCast_nonneg _ | ((repeat' refine And.intro ?_ ?_) <;> first | omega | exact Int.natCast_nonneg _ | (simp only [i64max]; omega) | (simp only [u8max]; omega) | (simp only [i64max, u8max, u16max, u32max, u64max]; omega) | (simp [mulSz, Cont.len, bne]; done) | (simp [mulSz, Cont.len, bne]; omega)))); conv => whnf)
        | (refine tst_in ?_ ?_; (focus (intro h_; exfalso; first | omega | ((try simp only [decide_eq_true_eq, decide_eq_false_iff_not] at h_); omega) | (simp [mulSz, Cont.len, bne] at h_; done) | (simp [mulSz, Cont.len, bne] at h_; omega))); intro _; conv => whnf)
        | (refine tst_in ?_ ?_; rotate_left; (focus (intro h_; exfalso; first | omega | ((try simp only [decide_eq_true_eq, decide_eq_false_iff_not] at h_); omega) | (simp [mulSz, Cont.len, bne] at h_; done) | (simp [mulSz, Cont.len, bne] at h_; omega))); intro _; conv => whnf))
      rw [hX, hv]
      conv => whnf
      repeat (first
        | (refine And.intro ?_ ?_; (focus (first | omega | decide | exact Int.natCast_nonneg _ | ((repeat' refine And.intro ?_ ?_) <;> first | omega | exact Int.natCast_nonneg _ | (simp only [i64max]; omega) | (simp only [u8max]; omega) | (simp only [i64max, u8max, u16max, u32max, u64max]; omega) | (simp [mulSz, Cont.len, bne]; done) | (simp [mulSz, Cont.len, bne]; omega)))); conv => whnf)
        | (refine tst_in ?_ ?_; (focus (intro h_; exfalso; first | omega | ((try simp only [decide_eq_true_eq, decide_eq_false_iff_not] at h_); omega) | (simp [mulSz, Cont.len, bne] at h_; done) | (simp [mulSz, Cont.len, bne] at h_; omega))); intro _; conv => whnf)
        | (refine tst_in ?_ ?_; rotate_left; (focus (intro h_; exfalso; first | omega | ((try simp only [decide_eq_true_eq, decide_eq_false_iff_not] at h_); omega) | (simp [mulSz, Cont.len, bne] at h_; done) | (simp [mulSz, Cont.len, bne] at h_; omega))); intro _; conv => whnf))
      refine ⟨[0, 1, 2, 3], k + 1, ?_, (by show k + 1 ≤ n; omega), (by show n - (k + 1) < n - k; omega)⟩
      conv => whnf
      repeat' (first | exact True.intro | rfl | refine And.intro ?_ ?_)
      all_goals (conv => whnf)
      repeat' (first | exact True.intro | rfl | refine And.intro ?_ ?_)
      all_goals (try (first | omega | exact True.intro | rfl | assumption | (change LE.le (α := Nat) _ _; first | omega | (simp only []; omega)) | (simp only []; done) | (simp only []; omega) | (simp; done) | (simp; omega)))
    · skip
      have hge : k = n := by simp at hge; omega
      conv => whnf
      repeat (first
        | (refine And.intro ?_ ?_; (focus (first | omega | decide | exact Int.natCast_nonneg _ | ((repeat' refine And.intro ?_ ?_) <;> first | omega | exact Int.natCast_nonneg _ | (simp only [i64max]; omega) | (simp only [u8max]; omega) | (simp only [i64max, u8max, u16max, u32max, u64max]; omega) | (simp [mulSz, Cont.len, bne]; done) | (simp [mulSz, Cont.len, bne]; omega)))); conv => whnf)
        | (refine tst_in ?_ ?_; (focus (intro h_; exfalso; first | omega | ((try simp only [decide_eq_true_eq, decide_eq_false_iff_not] at h_); omega) | (simp [mulSz, Cont.len, bne] at h_; done) | (simp [mulSz, Cont.len, bne] at h_; omega))); intro _; conv => whnf)
        | (refine tst_in ?_ ?_; rotate_left; (focus (intro h_; exfalso; first | omega | ((try simp only [decide_eq_true_eq, decide_eq_false_iff_not] at h_); omega) | (simp [mulSz, Cont.len, bne] at h_; done) | (simp [mulSz, Cont.len, bne] at h_; omega))); intro _; conv => whnf))
      refine .inl ⟨(), [0, 1], ?_⟩
      conv => whnf
      repeat' (first | exact True.intro | rfl | refine And.intro ?_ ?_)
      all_goals (conv => whnf)
      repeat' (first | exact True.intro | rfl | refine And.intro ?_ ?_)
      all_goals (try (first | omega | exact True.intro | rfl | assumption | (change LE.le (α := Nat) _ _; first | omega | (simp only []; omega)) | (simp only []; done) | (simp only []; omega) | (simp; done) | (simp; omega)))
def pl3 : PlanL := .lin [0, 4] (.alt 1 (.alt 2 (.alt 3 (.alt 5 (.alt 6 (.alt 7 (.alt 8 (.lin [9, 10] .done) (.alt 9 (.lin [8, 10] .done) .fin)) (.alt 9 (.lin [7, 8, 10] .done) .fin)) (.alt 9 (.lin [6, 7, 8, 10] .done) .fin)) (.alt 9 (.lin [5, 6, 7, 8, 10] .done) .fin)) (.alt 5 (.alt 3 (.alt 6 (.alt 7 (.alt 8 (.lin [9, 10] .done) (.alt 9 (.lin [8, 10] .done) .fin)) (.alt 9 (.lin [7, 8, 10] .done) .fin)) (.alt 9 (.lin [6, 7, 8, 10] .done) .fin)) (.alt 6 (.alt 3 (.alt 7 (.alt 8 (.lin [9, 10] .done) (.alt 9 (.lin [8, 10] .done) .fin)) (.alt 9 (.lin [7, 8, 10] .done) .fin)) (.alt 9 (.lin [3, 7, 8, 10] .done) .fin)) (.alt 9 (.alt 3 (.lin [6, 7, 8, 10] .done) (.alt 6 (.lin [3, 7, 8, 10] .done) .fin)) .fin))) (.alt 9 (.alt 3 (.lin [5, 6, 7, 8, 10] .done) (.alt 5 (.alt 3 (.lin [6, 7, 8, 10] .done) (.alt 6 (.lin [3, 7, 8, 10] .done) .fin)) .fin)) .fin))) (.alt 5 (.alt 2 (.alt 3 (.alt 6 (.alt 7 (.alt 8 (.lin [9, 10] .done) (.alt 9 (.lin [8, 10] .done) .fin)) (.alt 9 (.lin [7, 8, 10] .done) .fin)) (.alt 9 (.lin [6, 7, 8, 10] .done) .fin)) (.alt 6 (.alt 3 (.alt 7 (.alt 8 (.lin [9, 10] .done) (.alt 9 (.lin [8, 10] .done) .fin)) (.alt 9 (.lin [7, 8, 10] .done) .fin)) (.alt 9 (.lin [3, 7, 8, 10] .done) .fin)) (.alt 9 (.alt 3 (.lin [6, 7, 8, 10] .done) (.alt 6 (.lin [3, 7, 8, 10] .done) .fin)) .fin))) (.alt 6 (.alt 2 (.alt 3 (.alt 7 (.alt 8 (.lin [9, 10] .done) (.alt 9 (.lin [8, 10] .done) .fin)) (.alt 9 (.lin [7, 8, 10] .done) .fin)) (.alt 9 (.lin [3, 7, 8, 10] .done) .fin)) (.alt 9 (.lin [2, 3, 7, 8, 10] .done) .fin)) (.alt 9 (.lin [2] (.alt 3 (.lin [6, 7, 8, 10] .done) (.alt 6 (.lin [3, 7, 8, 10] .done) .fin))) .fin))) (.alt 9 (.lin [2] (.alt 3 (.lin [5, 6, 7, 8, 10] .done) (.alt 5 (.alt 3 (.lin [6, 7, 8, 10] .done) (.alt 6 (.lin [3, 7, 8, 10] .done) .fin)) .fin))) .fin))) (.alt 5 (.alt 1 (.alt 2 (.alt 3 (.alt 6 (.alt 7 (.alt 8 (.lin [9, 10] .done) (.alt 9 (.lin [8, 10] .done) .fin)) (.alt 9 (.lin [7, 8, 10] .done) .fin)) (.alt 9 (.lin [6, 7, 8, 10] .done) .fin)) (.alt 6 (.alt 3 (.alt 7 (.alt 8 (.lin [9, 10] .done) (.alt 9 (.lin [8, 10] .done) .fin)) (.alt 9 (.lin [7, 8, 10] .done) .fin)) (.alt 9 (.lin [3, 7, 8, 10] .done) .fin)) (.alt 9 (.alt 3 (.lin [6, 7, 8, 10] .done) (.alt 6 (.lin [3, 7, 8, 10] .done) .fin)) .fin))) (.alt 6 (.alt 2 (.alt 3 (.alt 7 (.alt 8 (.lin [9, 10] .done) (.alt 9 (.lin [8, 10] .done) .fin)) (.alt 9 (.lin [7, 8, 10] .done) .fin)) (.alt 9 (.lin [3, 7, 8, 10] .done) .fin)) (.alt 9 (.lin [2, 3, 7, 8, 10] .done) .fin)) (.alt 9 (.lin [2] (.alt 3 (.lin [6, 7, 8, 10] .done) (.alt 6 (.lin [3, 7, 8, 10] .done) .fin))) .fin))) (.alt 6 (.alt 1 (.alt 2 (.alt 3 (.alt 7 (.alt 8 (.lin [9, 10] .done) (.alt 9 (.lin [8, 10] .done) .fin)) (.alt 9 (.lin [7, 8, 10] .done) .fin)) (.alt 9 (.lin [3, 7, 8, 10] .done) .fin)) (.alt 9 (.lin [2, 3, 7, 8, 10] .done) .fin)) (.alt 9 (.lin [1, 2, 3, 7, 8, 10] .done) .fin)) (.alt 9 (.lin [1, 2] (.alt 3 (.lin [6, 7, 8, 10] .done) (.alt 6 (.lin [3, 7, 8, 10] .done) .fin))) .fin))) (.alt 9 (.lin [1, 2] (.alt 3 (.lin [5, 6, 7, 8, 10] .done) (.alt 5 (.alt 3 (.lin [6, 7, 8, 10] .done) (.alt 6 (.lin [3, 7, 8, 10] .done) .fin)) .fin))) .fin)))
def pl12 : PlanL := .lin [2, 3] (.alt 0 (.alt 1 (.lin [4, 5, 6, 7, 8] .done) (.alt 4 (.alt 1 (.lin [5, 6, 7, 8] .done) (.alt 5 (.lin [1, 6, 7, 8] .done) .fin)) .fin)) (.alt 4 (.alt 0 (.alt 1 (.lin [5, 6, 7, 8] .done) (.alt 5 (.lin [1, 6, 7, 8] .done) .fin)) (.alt 5 (.lin [0, 1, 6, 7, 8] .done) .fin)) .fin))
def pl14 : PlanL := .lin [2, 3, 4, 5, 6, 7, 8] (.alt 0 (.alt 1 (.lin [9, 10, 11, 12] .done) (.alt 9 (.lin [1, 10, 11, 12] .done) .fin)) (.alt 9 (.lin [0, 1, 10, 11, 12] .done) .fin))
end Go.Proofs.Ytpbndfocpnemfaa

set_option linter.unusedVariables false
set_option linter.unusedSimpArgs false
namespace Go.Proofs.Ytpbndfocpnemfaa
open Go Go.Fw
theorem take_tab {α : Type} (f : Nat → α) (t : List α) {n m : Nat} (h : m ≤ n) : List.take m (tab f n ++ t) = tab f m := by
  rw [List.take_append_of_le_length (by rw [tab_len]; exact h)]
  unfold tab
  rw [← List.map_take, List.take_range, Nat.min_eq_left h]
noncomputable def c4 : Code := (Try.f4.body).getD .skip
def cfg4 : Cfg := { T := tys, sgn := fun _ => false, wr := fun _ => false, k := 1, q := qf, plan := fun i => match Nat.beq i 3 with | true => some pl3 | false => match Nat.beq i 12 with | true => some pl12 | false => none }
def wk (m a b l y : Int) (k : Nat) : Bool := (((true && okS m y) && okS l y) && (if 0 < k then okS a y else true)) && (if 1 < k then okS b y else true)
def ab (F : Nat → Int) (y : Int) : Nat → Bool
  | 0 => true
  | k + 1 => ab F y k && okS (F k) y
def zc : Seg := plc 0 0 0 .nils 0
def ofs (m : Int) (y : Int) (b : Bool) : Int := if b then shv m y else 0
def st4 (m a b l y : Int) (B : List Int) (n ca k : Nat) (w : Bool) : St := ⟨anyTo 56 [.any, .any, .ptr 1 0, .ptr 2 0, .ptr 3 0, .any, .ptr 4 0, .fn 7 [.ptr 2 0, .ptr 4 0], .ptr 5 0], [.seg false (.ints .i64 B), plc m a b (.slice 0 0 n ca) l, bc y, zc, wc w, plc (shv m y) 0 0 .nils (shv l y)]⟩
def cut4 (m a b l y : Int) (B : List Int) (n ca : Nat) : LInv := ⟨Unit, fun _ => st4 m a b l y B n ca 0 ((true && okS m y) && okS l y), fun _ => True, fun _ => 0⟩
def st5 (m a b l y : Int) (B : List Int) (n ca k : Nat) : St := ⟨anyTo 56 [.any, .any, .ptr 1 0, .ptr 2 0, .ptr 3 0, .any, .ptr 4 0, .fn 7 [.ptr 2 0, .ptr 4 0], .ptr 5 0, .any, .any, .any, .any, .any, .any, .any, .any, .any, .any, .any, .any, .any, .any, .any, .agg [.int .i64 a, .int .i64 b], .int .i64 k], [.seg false (.ints .i64 B), plc m a b (.slice 0 0 n ca) l, bc y, zc, wc (wk m a b l y k), plc (shv m y) (ofs a y (decide (0 < k))) (ofs b y (decide (1 < k))) .nils (shv l y)]⟩
def inv5 (m a b l y : Int) (B : List Int) (n ca : Nat) : LInv := ⟨Nat, fun k => st5 m a b l y B n ca k, fun k => k ≤ 2, fun k => 2 - k⟩
def st10 (m a b l y : Int) (B : List Int) (F : Nat → Int) (n ca k : Nat) (tl : List Int) : St := ⟨anyTo 56 [.any, .any, .ptr 1 0, .ptr 2 0, .ptr 3 0, .any, .ptr 4 0, .fn 7 [.ptr 2 0, .ptr 4 0], .ptr 5 0, .any, .any, .any, .any, .any, .any, .any, .any, .any, .any, .any, .any, .any, .any, .any, .any, .any, .any, .any, .any, .any, .any, .any, .any, .any, .any, .any, .any, .slice 0 0 n ca, .int .i64 n, .int .i64 k], [.seg false (.ints .i64 B), plc m a b (.slice 0 0 n ca) l, bc y, zc, wc (wk m a b l y 2 && ab F y k), plc (shv m y) (shv a y) (shv b y) (.slice 6 0 k (k + tl.length)) (shv l y), .seg true (.ints .i64 (tab (fun i => shv (F i) y) k ++ tl))]⟩
def inv10 (m a b l y : Int) (B : List Int) (F : Nat → Int) (n ca : Nat) : LInv := ⟨Nat × List Int, fun p => st10 m a b l y B F n ca p.1 p.2, fun p => p.1 ≤ n, fun p => n - p.1⟩
def vl (m a b l y : Int) (F : Nat → Int) (n : Nat) : Bool := wk m a b l y 2 && ab F y n
def rs (V : Bool) (x y : Int) : Int := if V then x + y else 0
def shOut (m a b l y : Int) (F : Nat → Int) (n : Nat) (V : Bool) : FOut := ⟨List Int, fun _ => True, fun tl => .tup [pls (rs V m y) (rs V a y) (rs V b y) (.slice 1 0 (if V then n else 0) ((if V then n else 0) + tl.length)) (rs V l y), .int .i64 (if V then 0 else 1)], fun tl => [.dead, .seg true (.ints .i64 (tab (fun i => F i + y) (if V then n else 0) ++ tl))]⟩
theorem wk0 (m a b l y : Int) : (true && okS m y && okS l y) = wk m a b l y 0 := by simp [wk]
theorem wk1 (m a b l y : Int) : (wk m a b l y 0 && okS a y) = wk m a b l y 1 := by simp [wk]
theorem wk2 (m a b l y : Int) : (wk m a b l y 1 && okS b y) = wk m a b l y 2 := by simp [wk]
theorem ab_t {F : Nat → Int} {y : Int} : ∀ {n : Nat}, ab F y n = true → ∀ i, i < n → okS (F i) y = true
  | 0, _, i, h => by omega
  | n + 1, h, i, hi => by
    have h' : (ab F y n && okS (F n) y) = true := h
    rw [Bool.and_eq_true] at h'
    rcases Nat.lt_or_ge i n with h1 | h1
    · exact ab_t h'.1 i h1
    · obtain rfl : i = n := by omega
      exact h'.2
theorem vl_t {m a b l y : Int} {F : Nat → Int} {n : Nat} (h : vl m a b l y F n = true) : shv m y = m + y ∧ shv l y = l + y ∧ shv a y = a + y ∧ shv b y = b + y ∧ ∀ i, i < n → shv (F i) y = F i + y := by
  unfold vl at h
  rw [Bool.and_eq_true] at h
  have h1 := h.1
  simp [wk] at h1
  obtain ⟨⟨⟨h2, h3⟩, h4⟩, h5⟩ := h1
  refine ⟨if_pos h2, if_pos h3, if_pos h4, if_pos h5, fun i hi => if_pos (ab_t h.2 i hi)⟩
set_option maxHeartbeats 0 in
set_option maxRecDepth 100000 in
theorem Shift_f (m a b l y : Int) (B : List Int) (F : Nat → Int) (n ca : Nat) (hB : n ≤ B.length) (hca : n ≤ ca) (hN : n ≤ 17592186043904) (hF : ∀ i, i < n → B.getD i 0 = F i ∧ i64r (F i)) (hm : i64r m) (ha : i64r a) (hb : i64r b) (hl : i64r l) (hy : i64r y) (V : Bool) (hV : vl m a b l y F n = V) :
    Fits Try.prog 4 ⟨[pls m a b (.slice 0 0 n ca) l, .int .i64 y], [.seg false (.ints .i64 B)], [shOut m a b l y F n V]⟩ := by
  have SM := sh_f m y true hm hy
  have SL := sh_f l y (true && okS m y) hl hy
  have SA := fun w => sh_f a y w ha hy
  have SB := fun w => sh_f b y w hb hy
  refine fits_of_res (C := cfg4) (c := c4) (rs := [.cell 4 25, .tmp 5]) tok mixed (fun | 5 => some (inv5 m a b l y B n ca) | 10 => some (inv10 m a b l y B F n ca) | _ => none) (fun | 4 => some (cut4 m a b l y B n ca) | _ => none)
    Try.func4 (by kernel_rfl) (by kernel_rfl) (by kernel_rfl) (by kernel_rfl) rfl ?_
  conv => whnf
  repeat (first
    | (refine And.intro ?_ ?_; (focus (first | omega | decide | exact Int.natCast_nonneg _ | ((repeat' refine And.intro ?_ ?_) <;> first | omega | exact Int.natCast_nonneg _ | (simp only [i64max]; omega) | (simp only [u8max]; omega) | (simp only [i64max, u8max, u16max, u32max, u64max]; omega) | (simp [mulSz, Cont.len, bne]; done) | (simp [mulSz, Cont.len, bne]; omega)))); conv => whnf)
    | (refine tst_in ?_ ?_; (focus (intro h_; exfalso; first | omega | ((try simp only [decide_eq_true_eq, decide_eq_false_iff_not] at h_); omega) | (simp [mulSz, Cont.len, bne] at h_; done) | (simp [mulSz, Cont.len, bne] at h_; omega))); intro _; conv => whnf)
    | (refine tst_in ?_ ?_; rotate_left; (focus (intro h_; exfalso; first | omega | ((try simp only [decide_eq_true_eq, decide_eq_false_iff_not] at h_); omega) | (simp [mulSz, Cont.len, bne] at h_; done) | (simp [mulSz, Cont.len, bne] at h_; omega))); intro _; conv => whnf))
  refine And.intro ?_ ?_
  · skip
    conv => whnf
    refine And.intro ?_ ?_
    · skip
      refine And.intro ?_ ?_
      · skip
        refine And.intro ?_ ?_
        · skip
          refine ⟨_, [2, 4], SM, ?_⟩
          conv => whnf
          refine ⟨?_, ?_, ?_⟩
          · conv => whnf
            repeat' (first | exact True.intro | rfl | refine And.intro ?_ ?_ | omega)
            all_goals (conv => whnf)
            all_goals (try (first | rfl | omega | (simp; done)))
          · conv => whnf
            repeat' (first | exact True.intro | rfl | refine And.intro ?_ ?_ | omega)
            all_goals (conv => whnf)
            all_goals (try (first | rfl | omega | (simp; done)))
          conv => whnf
          refine ⟨?_, True.intro⟩
          intro _ _
          conv => whnf
          refine And.intro ?_ ?_
          · skip
            refine And.intro ?_ ?_
            · skip
              refine And.intro ?_ ?_
              · skip
                refine ⟨_, [2, 4], SL, ?_⟩
                conv => whnf
                refine ⟨?_, ?_, ?_⟩
                · conv => whnf
                  repeat' (first | exact True.intro | rfl | refine And.intro ?_ ?_ | omega)
                  all_goals (conv => whnf)
                  all_goals (try (first | rfl | omega | (simp; done)))
                · conv => whnf
                  repeat' (first | exact True.intro | rfl | refine And.intro ?_ ?_ | omega)
                  all_goals (conv => whnf)
                  all_goals (try (first | rfl | omega | (simp; done)))
                conv => whnf
                refine ⟨?_, True.intro⟩
                intro _ _
                conv => whnf
                refine And.intro ?_ ?_
                · skip
                  refine ⟨[0, 1, 2, 3, 4, 5], (), ?_, True.intro⟩
                  conv => whnf
                  repeat' (first | exact True.intro | rfl | refine And.intro ?_ ?_)
                  all_goals (conv => whnf)
                  repeat' (first | exact True.intro | rfl | refine And.intro ?_ ?_)
                  all_goals (try omega)
                · skip
                  refine And.intro ?_ ?_
                  · skip
                    refine ⟨[0, 1, 2, 3, 4, 5], (), ?_, True.intro⟩
                    conv => whnf
                    repeat' (first | exact True.intro | rfl | refine And.intro ?_ ?_)
                    all_goals (conv => whnf)
                    repeat' (first | exact True.intro | rfl | refine And.intro ?_ ?_)
                    all_goals (try omega)
                  · skip
                    exact True.intro
              · skip
                refine And.intro ?_ ?_
                · skip
                  refine ⟨_, [2, 4], SL, ?_⟩
                  conv => whnf
                  refine ⟨?_, ?_, ?_⟩
                  · conv => whnf
                    repeat' (first | exact True.intro | rfl | refine And.intro ?_ ?_ | omega)
                    all_goals (conv => whnf)
                    all_goals (try (first | rfl | omega | (simp; done)))
                  · conv => whnf
                    repeat' (first | exact True.intro | rfl | refine And.intro ?_ ?_ | omega)
                    all_goals (conv => whnf)
                    all_goals (try (first | rfl | omega | (simp; done)))
                  conv => whnf
                  refine ⟨?_, True.intro⟩
                  intro _ _
                  conv => whnf
                  refine ⟨[0, 1, 2, 3, 4, 5], (), ?_, True.intro⟩
                  conv => whnf
                  repeat' (first | exact True.intro | rfl | refine And.intro ?_ ?_)
                  all_goals (conv => whnf)
                  repeat' (first | exact True.intro | rfl | refine And.intro ?_ ?_)
                  all_goals (try omega)
                · skip
                  exact True.intro
            · skip
              refine And.intro ?_ ?_
              · skip
                refine ⟨_, [2, 4], SL, ?_⟩
                conv => whnf
                refine ⟨?_, ?_, ?_⟩
                · conv => whnf
                  repeat' (first | exact True.intro | rfl | refine And.intro ?_ ?_ | omega)
                  all_goals (conv => whnf)
                  all_goals (try (first | rfl | omega | (simp; done)))
                · conv => whnf
                  repeat' (first | exact True.intro | rfl | refine And.intro ?_ ?_ | omega)
                  all_goals (conv => whnf)
                  all_goals (try (first | rfl | omega | (simp; done)))
                conv => whnf
                refine ⟨?_, True.intro⟩
                intro _ _
                conv => whnf
                refine ⟨[0, 1, 2, 3, 4, 5], (), ?_, True.intro⟩
                conv => whnf
                repeat' (first | exact True.intro | rfl | refine And.intro ?_ ?_)
                all_goals (conv => whnf)
                repeat' (first | exact True.intro | rfl | refine And.intro ?_ ?_)
                all_goals (try omega)
              · skip
                exact True.intro
          · skip
            refine And.intro ?_ ?_
            · skip
              refine ⟨_, [2, 4], SL, ?_⟩
              conv => whnf
              refine ⟨?_, ?_, ?_⟩
              · conv => whnf
                repeat' (first | exact True.intro | rfl | refine And.intro ?_ ?_ | omega)
                all_goals (conv => whnf)
                all_goals (try (first | rfl | omega | (simp; done)))
              · conv => whnf
                repeat' (first | exact True.intro | rfl | refine And.intro ?_ ?_ | omega)
                all_goals (conv => whnf)
                all_goals (try (first | rfl | omega | (simp; done)))
              conv => whnf
              refine ⟨?_, True.intro⟩
              intro _ _
              conv => whnf
              refine ⟨[0, 1, 2, 3, 4, 5], (), ?_, True.intro⟩
              conv => whnf
              repeat' (first | exact True.intro | rfl | refine And.intro ?_ ?_)
              all_goals (conv => whnf)
              repeat' (first | exact True.intro | rfl | refine And.intro ?_ ?_)
              all_goals (try omega)
            · skip
              exact True.intro
        · skip
          refine And.intro ?_ ?_
          · skip
            refine And.intro ?_ ?_
            · skip
              refine ⟨_, [2, 4], SM, ?_⟩
              conv => whnf
              refine ⟨?_, ?_, ?_⟩
              · conv => whnf
                repeat' (first | exact True.intro | rfl | refine And.intro ?_ ?_ | omega)
                all_goals (conv => whnf)
                all_goals (try (first | rfl | omega | (simp; done)))
              · conv => whnf
                repeat' (first | exact True.intro | rfl | refine And.intro ?_ ?_ | omega)
                all_goals (conv => whnf)
                all_goals (try (first | rfl | omega | (simp; done)))
              conv => whnf
              refine ⟨?_, True.intro⟩
              intro _ _
              conv => whnf
              refine And.intro ?_ ?_
              · skip
                refine And.intro ?_ ?_
                · skip
                  refine ⟨_, [2, 4], SL, ?_⟩
                  conv => whnf
                  refine ⟨?_, ?_, ?_⟩
                  · conv => whnf
                    repeat' (first | exact True.intro | rfl | refine And.intro ?_ ?_ | omega)
                    all_goals (conv => whnf)
                    all_goals (try (first | rfl | omega | (simp; done)))
                  · conv => whnf
                    repeat' (first | exact True.intro | rfl | refine And.intro ?_ ?_ | omega)
                    all_goals (conv => whnf)
                    all_goals (try (first | rfl | omega | (simp; done)))
                  conv => whnf
                  refine ⟨?_, True.intro⟩
                  intro _ _
                  conv => whnf
                  refine And.intro ?_ ?_
                  · skip
                    refine ⟨[0, 1, 2, 3, 4, 5], (), ?_, True.intro⟩
                    conv => whnf
                    repeat' (first | exact True.intro | rfl | refine And.intro ?_ ?_)
                    all_goals (conv => whnf)
                    repeat' (first | exact True.intro | rfl | refine And.intro ?_ ?_)
                    all_goals (try omega)
                  · skip
                    refine And.intro ?_ ?_
                    · skip
                      refine ⟨[0, 1, 2, 3, 4, 5], (), ?_, True.intro⟩
                      conv => whnf
                      repeat' (first | exact True.intro | rfl | refine And.intro ?_ ?_)
                      all_goals (conv => whnf)
                      repeat' (first | exact True.intro | rfl | refine And.intro ?_ ?_)
                      all_goals (try omega)
                    · skip
                      exact True.intro
                · skip
                  refine And.intro ?_ ?_
                  · skip
                    refine ⟨_, [2, 4], SL, ?_⟩
                    conv => whnf
                    refine ⟨?_, ?_, ?_⟩
                    · conv => whnf
                      repeat' (first | exact True.intro | rfl | refine And.intro ?_ ?_ | omega)
                      all_goals (conv => whnf)
                      all_goals (try (first | rfl | omega | (simp; done)))
                    · conv => whnf
                      repeat' (first | exact True.intro | rfl | refine And.intro ?_ ?_ | omega)
                      all_goals (conv => whnf)
                      all_goals (try (first | rfl | omega | (simp; done)))
                    conv => whnf
                    refine ⟨?_, True.intro⟩
                    intro _ _
                    conv => whnf
                    refine ⟨[0, 1, 2, 3, 4, 5], (), ?_, True.intro⟩
                    conv => whnf
                    repeat' (first | exact True.intro | rfl | refine And.intro ?_ ?_)
                    all_goals (conv => whnf)
                    repeat' (first | exact True.intro | rfl | refine And.intro ?_ ?_)
                    all_goals (try omega)
                  · skip
                    exact True.intro
              · skip
                refine And.intro ?_ ?_
                · skip
                  refine ⟨_, [2, 4], SL, ?_⟩
                  conv => whnf
                  refine ⟨?_, ?_, ?_⟩
                  · conv => whnf
                    repeat' (first | exact True.intro | rfl | refine And.intro ?_ ?_ | omega)
                    all_goals (conv => whnf)
                    all_goals (try (first | rfl | omega | (simp; done)))
                  · conv => whnf
                    repeat' (first | exact True.intro | rfl | refine And.intro ?_ ?_ | omega)
                    all_goals (conv => whnf)
                    all_goals (try (first | rfl | omega | (simp; done)))
                  conv => whnf
                  refine ⟨?_, True.intro⟩
                  intro _ _
                  conv => whnf
                  refine ⟨[0, 1, 2, 3, 4, 5], (), ?_, True.intro⟩
                  conv => whnf
                  repeat' (first | exact True.intro | rfl | refine And.intro ?_ ?_)
                  all_goals (conv => whnf)
                  repeat' (first | exact True.intro | rfl | refine And.intro ?_ ?_)
                  all_goals (try omega)
                · skip
                  exact True.intro
            · skip
              refine And.intro ?_ ?_
              · skip
                refine And.intro ?_ ?_
                · skip
                  refine ⟨_, [2, 4], SM, ?_⟩
                  conv => whnf
                  refine ⟨?_, ?_, ?_⟩
                  · conv => whnf
                    repeat' (first | exact True.intro | rfl | refine And.intro ?_ ?_ | omega)
                    all_goals (conv => whnf)
                    all_goals (try (first | rfl | omega | (simp; done)))
                  · conv => whnf
                    repeat' (first | exact True.intro | rfl | refine And.intro ?_ ?_ | omega)
                    all_goals (conv => whnf)
                    all_goals (try (first | rfl | omega | (simp; done)))
                  conv => whnf
                  refine ⟨?_, True.intro⟩
                  intro _ _
                  conv => whnf
                  refine And.intro ?_ ?_
                  · skip
                    refine ⟨_, [2, 4], SL, ?_⟩
                    conv => whnf
                    refine ⟨?_, ?_, ?_⟩
                    · conv => whnf
                      repeat' (first | exact True.intro | rfl | refine And.intro ?_ ?_ | omega)
                      all_goals (conv => whnf)
                      all_goals (try (first | rfl | omega | (simp; done)))
                    · conv => whnf
                      repeat' (first | exact True.intro | rfl | refine And.intro ?_ ?_ | omega)
                      all_goals (conv => whnf)
                      all_goals (try (first | rfl | omega | (simp; done)))
                    conv => whnf
                    refine ⟨?_, True.intro⟩
                    intro _ _
                    conv => whnf
                    refine And.intro ?_ ?_
                    · skip
                      refine ⟨[0, 1, 2, 3, 4, 5], (), ?_, True.intro⟩
                      conv => whnf
                      repeat' (first | exact True.intro | rfl | refine And.intro ?_ ?_)
                      all_goals (conv => whnf)
                      repeat' (first | exact True.intro | rfl | refine And.intro ?_ ?_)
                      all_goals (try omega)
                    · skip
                      refine And.intro ?_ ?_
                      · skip
                        refine ⟨[0, 1, 2, 3, 4, 5], (), ?_, True.intro⟩
                        conv => whnf
                        repeat' (first | exact True.intro | rfl | refine And.intro ?_ ?_)
                        all_goals (conv => whnf)
                        repeat' (first | exact True.intro | rfl | refine And.intro ?_ ?_)
                        all_goals (try omega)
                      · skip
                        exact True.intro
                  · skip
                    refine And.intro ?_ ?_
                    · skip
                      refine ⟨_, [2, 4], SL, ?_⟩
                      conv => whnf
                      refine ⟨?_, ?_, ?_⟩
                      · conv => whnf
                        repeat' (first | exact True.intro | rfl | refine And.intro ?_ ?_ | omega)
                        all_goals (conv => whnf)
                        all_goals (try (first | rfl | omega | (simp; done)))
                      · conv => whnf
                        repeat' (first | exact True.intro | rfl | refine And.intro ?_ ?_ | omega)
                        all_goals (conv => whnf)
                        all_goals (try (first | rfl | omega | (simp; done)))
                      conv => whnf
                      refine ⟨?_, True.intro⟩
                      intro _ _
                      conv => whnf
                      refine ⟨[0, 1, 2, 3, 4, 5], (), ?_, True.intro⟩
                      conv => whnf
                      repeat' (first | exact True.intro | rfl | refine And.intro ?_ ?_)
                      all_goals (conv => whnf)
                      repeat' (first | exact True.intro | rfl | refine And.intro ?_ ?_)
                      all_goals (try omega)
                    · skip
                      exact True.intro
                · skip
                  refine And.intro ?_ ?_
                  · skip
                    refine ⟨_, [2, 4], SM, ?_⟩
                    conv => whnf
                    refine ⟨?_, ?_, ?_⟩
                    · conv => whnf
                      repeat' (first | exact True.intro | rfl | refine And.intro ?_ ?_ | omega)
                      all_goals (conv => whnf)
                      all_goals (try (first | rfl | omega | (simp; done)))
                    · conv => whnf
                      repeat' (first | exact True.intro | rfl | refine And.intro ?_ ?_ | omega)
                      all_goals (conv => whnf)
                      all_goals (try (first | rfl | omega | (simp; done)))
                    conv => whnf
                    refine ⟨?_, True.intro⟩
                    intro _ _
                    conv => whnf
                    refine ⟨_, [2, 4], SL, ?_⟩
                    conv => whnf
                    refine ⟨?_, ?_, ?_⟩
                    · conv => whnf
                      repeat' (first | exact True.intro | rfl | refine And.intro ?_ ?_ | omega)
                      all_goals (conv => whnf)
                      all_goals (try (first | rfl | omega | (simp; done)))
                    · conv => whnf
                      repeat' (first | exact True.intro | rfl | refine And.intro ?_ ?_ | omega)
                      all_goals (conv => whnf)
                      all_goals (try (first | rfl | omega | (simp; done)))
                    conv => whnf
                    refine ⟨?_, True.intro⟩
                    intro _ _
                    conv => whnf
                    refine ⟨[0, 1, 2, 3, 4, 5], (), ?_, True.intro⟩
                    conv => whnf
                    repeat' (first | exact True.intro | rfl | refine And.intro ?_ ?_)
                    all_goals (conv => whnf)
                    repeat' (first | exact True.intro | rfl | refine And.intro ?_ ?_)
                    all_goals (try omega)
                  · skip
                    exact True.intro
              · skip
                refine And.intro ?_ ?_
                · skip
                  refine And.intro ?_ ?_
                  · skip
                    refine ⟨_, [2, 4], SM, ?_⟩
                    conv => whnf
                    refine ⟨?_, ?_, ?_⟩
                    · conv => whnf
                      repeat' (first | exact True.intro | rfl | refine And.intro ?_ ?_ | omega)
                      all_goals (conv => whnf)
                      all_goals (try (first | rfl | omega | (simp; done)))
                    · conv => whnf
                      repeat' (first | exact True.intro | rfl | refine And.intro ?_ ?_ | omega)
                      all_goals (conv => whnf)
                      all_goals (try (first | rfl | omega | (simp; done)))
                    conv => whnf
                    refine ⟨?_, True.intro⟩
                    intro _ _
                    conv => whnf
                    refine ⟨_, [2, 4], SL, ?_⟩
                    conv => whnf
                    refine ⟨?_, ?_, ?_⟩
                    · conv => whnf
                      repeat' (first | exact True.intro | rfl | refine And.intro ?_ ?_ | omega)
                      all_goals (conv => whnf)
                      all_goals (try (first | rfl | omega | (simp; done)))
                    · conv => whnf
                      repeat' (first | exact True.intro | rfl | refine And.intro ?_ ?_ | omega)
                      all_goals (conv => whnf)
                      all_goals (try (first | rfl | omega | (simp; done)))
                    conv => whnf
                    refine ⟨?_, True.intro⟩
                    intro _ _
                    conv => whnf
                    refine ⟨[0, 1, 2, 3, 4, 5], (), ?_, True.intro⟩
                    conv => whnf
                    repeat' (first | exact True.intro | rfl | refine And.intro ?_ ?_)
                    all_goals (conv => whnf)
                    repeat' (first | exact True.intro | rfl | refine And.intro ?_ ?_)
                    all_goals (try omega)
                  · skip
                    refine And.intro ?_ ?_
                    · skip
                      refine ⟨_, [2, 4], SM, ?_⟩
                      conv => whnf
                      refine ⟨?_, ?_, ?_⟩
                      · conv => whnf
                        repeat' (first | exact True.intro | rfl | refine And.intro ?_ ?_ | omega)
                        all_goals (conv => whnf)
                        all_goals (try (first | rfl | omega | (simp; done)))
                      · conv => whnf
                        repeat' (first | exact True.intro | rfl | refine And.intro ?_ ?_ | omega)
                        all_goals (conv => whnf)
                        all_goals (try (first | rfl | omega | (simp; done)))
                      conv => whnf
                      refine ⟨?_, True.intro⟩
                      intro _ _
                      conv => whnf
                      refine ⟨_, [2, 4], SL, ?_⟩
                      conv => whnf
                      refine ⟨?_, ?_, ?_⟩
                      · conv => whnf
                        repeat' (first | exact True.intro | rfl | refine And.intro ?_ ?_ | omega)
                        all_goals (conv => whnf)
                        all_goals (try (first | rfl | omega | (simp; done)))
                      · conv => whnf
                        repeat' (first | exact True.intro | rfl | refine And.intro ?_ ?_ | omega)
                        all_goals (conv => whnf)
                        all_goals (try (first | rfl | omega | (simp; done)))
                      conv => whnf
                      refine ⟨?_, True.intro⟩
                      intro _ _
                      conv => whnf
                      refine ⟨[0, 1, 2, 3, 4, 5], (), ?_, True.intro⟩
                      conv => whnf
                      repeat' (first | exact True.intro | rfl | refine And.intro ?_ ?_)
                      all_goals (conv => whnf)
                      repeat' (first | exact True.intro | rfl | refine And.intro ?_ ?_)
                      all_goals (try omega)
                    · skip
                      exact True.intro
                · skip
                  exact True.intro
          · skip
            refine And.intro ?_ ?_
            · skip
              refine And.intro ?_ ?_
              · skip
                refine ⟨_, [2, 4], SM, ?_⟩
                conv => whnf
                refine ⟨?_, ?_, ?_⟩
                · conv => whnf
                  repeat' (first | exact True.intro | rfl | refine And.intro ?_ ?_ | omega)
                  all_goals (conv => whnf)
                  all_goals (try (first | rfl | omega | (simp; done)))
                · conv => whnf
                  repeat' (first | exact True.intro | rfl | refine And.intro ?_ ?_ | omega)
                  all_goals (conv => whnf)
                  all_goals (try (first | rfl | omega | (simp; done)))
                conv => whnf
                refine ⟨?_, True.intro⟩
                intro _ _
                conv => whnf
                refine ⟨_, [2, 4], SL, ?_⟩
                conv => whnf
                refine ⟨?_, ?_, ?_⟩
                · conv => whnf
                  repeat' (first | exact True.intro | rfl | refine And.intro ?_ ?_ | omega)
                  all_goals (conv => whnf)
                  all_goals (try (first | rfl | omega | (simp; done)))
                · conv => whnf
                  repeat' (first | exact True.intro | rfl | refine And.intro ?_ ?_ | omega)
                  all_goals (conv => whnf)
                  all_goals (try (first | rfl | omega | (simp; done)))
                conv => whnf
                refine ⟨?_, True.intro⟩
                intro _ _
                conv => whnf
                refine ⟨[0, 1, 2, 3, 4, 5], (), ?_, True.intro⟩
                conv => whnf
                repeat' (first | exact True.intro | rfl | refine And.intro ?_ ?_)
                all_goals (conv => whnf)
                repeat' (first | exact True.intro | rfl | refine And.intro ?_ ?_)
                all_goals (try omega)
              · skip
                refine And.intro ?_ ?_
                · skip
                  refine And.intro ?_ ?_
                  · skip
                    refine ⟨_, [2, 4], SM, ?_⟩
                    conv => whnf
                    refine ⟨?_, ?_, ?_⟩
                    · conv => whnf
                      repeat' (first | exact True.intro | rfl | refine And.intro ?_ ?_ | omega)
                      all_goals (conv => whnf)
                      all_goals (try (first | rfl | omega | (simp; done)))
                    · conv => whnf
                      repeat' (first | exact True.intro | rfl | refine And.intro ?_ ?_ | omega)
                      all_goals (conv => whnf)
                      all_goals (try (first | rfl | omega | (simp; done)))
                    conv => whnf
                    refine ⟨?_, True.intro⟩
                    intro _ _
                    conv => whnf
                    refine ⟨_, [2, 4], SL, ?_⟩
                    conv => whnf
                    refine ⟨?_, ?_, ?_⟩
                    · conv => whnf
                      repeat' (first | exact True.intro | rfl | refine And.intro ?_ ?_ | omega)
                      all_goals (conv => whnf)
                      all_goals (try (first | rfl | omega | (simp; done)))
                    · conv => whnf
                      repeat' (first | exact True.intro | rfl | refine And.intro ?_ ?_ | omega)
                      all_goals (conv => whnf)
                      all_goals (try (first | rfl | omega | (simp; done)))
                    conv => whnf
                    refine ⟨?_, True.intro⟩
                    intro _ _
                    conv => whnf
                    refine ⟨[0, 1, 2, 3, 4, 5], (), ?_, True.intro⟩
                    conv => whnf
                    repeat' (first | exact True.intro | rfl | refine And.intro ?_ ?_)
                    all_goals (conv => whnf)
                    repeat' (first | exact True.intro | rfl | refine And.intro ?_ ?_)
                    all_goals (try omega)
                  · skip
                    refine And.intro ?_ ?_
                    · skip
                      refine ⟨_, [2, 4], SM, ?_⟩
                      conv => whnf
                      refine ⟨?_, ?_, ?_⟩
                      · conv => whnf
                        repeat' (first | exact True.intro | rfl | refine And.intro ?_ ?_ | omega)
                        all_goals (conv => whnf)
                        all_goals (try (first | rfl | omega | (simp; done)))
                      · conv => whnf
                        repeat' (first | exact True.intro | rfl | refine And.intro ?_ ?_ | omega)
                        all_goals (conv => whnf)
                        all_goals (try (first | rfl | omega | (simp; done)))
                      conv => whnf
                      refine ⟨?_, True.intro⟩
                      intro _ _
                      conv => whnf
                      refine ⟨_, [2, 4], SL, ?_⟩
                      conv => whnf
                      refine ⟨?_, ?_, ?_⟩
                      · conv => whnf
                        repeat' (first | exact True.intro | rfl | refine And.intro ?_ ?_ | omega)
                        all_goals (conv => whnf)
                        all_goals (try (first | rfl | omega | (simp; done)))
                      · conv => whnf
                        repeat' (first | exact True.intro | rfl | refine And.intro ?_ ?_ | omega)
                        all_goals (conv => whnf)
                        all_goals (try (first | rfl | omega | (simp; done)))
                      conv => whnf
                      refine ⟨?_, True.intro⟩
                      intro _ _
                      conv => whnf
                      refine ⟨[0, 1, 2, 3, 4, 5], (), ?_, True.intro⟩
                      conv => whnf
                      repeat' (first | exact True.intro | rfl | refine And.intro ?_ ?_)
                      all_goals (conv => whnf)
                      repeat' (first | exact True.intro | rfl | refine And.intro ?_ ?_)
                      all_goals (try omega)
                    · skip
                      exact True.intro
                · skip
                  exact True.intro
            · skip
              exact True.intro
      · skip
        refine And.intro ?_ ?_
        · skip
          refine And.intro ?_ ?_
          · skip
            refine And.intro ?_ ?_
            · skip
              refine ⟨_, [2, 4], SM, ?_⟩
              conv => whnf
              refine ⟨?_, ?_, ?_⟩
              · conv => whnf
                repeat' (first | exact True.intro | rfl | refine And.intro ?_ ?_ | omega)
                all_goals (conv => whnf)
                all_goals (try (first | rfl | omega | (simp; done)))
              · conv => whnf
                repeat' (first | exact True.intro | rfl | refine And.intro ?_ ?_ | omega)
                all_goals (conv => whnf)
                all_goals (try (first | rfl | omega | (simp; done)))
              conv => whnf
              refine ⟨?_, True.intro⟩
              intro _ _
              conv => whnf
              refine And.intro ?_ ?_
              · skip
                refine And.intro ?_ ?_
                · skip
                  refine ⟨_, [2, 4], SL, ?_⟩
                  conv => whnf
                  refine ⟨?_, ?_, ?_⟩
                  · conv => whnf
                    repeat' (first | exact True.intro | rfl | refine And.intro ?_ ?_ | omega)
                    all_goals (conv => whnf)
                    all_goals (try (first | rfl | omega | (simp; done)))
                  · conv => whnf
                    repeat' (first | exact True.intro | rfl | refine And.intro ?_ ?_ | omega)
                    all_goals (conv => whnf)
                    all_goals (try (first | rfl | omega | (simp; done)))
                  conv => whnf
                  refine ⟨?_, True.intro⟩
                  intro _ _
                  conv => whnf
                  refine And.intro ?_ ?_
                  · skip
                    refine ⟨[0, 1, 2, 3, 4, 5], (), ?_, True.intro⟩
                    conv => whnf
                    repeat' (first | exact True.intro | rfl | refine And.intro ?_ ?_)
                    all_goals (conv => whnf)
                    repeat' (first | exact True.intro | rfl | refine And.intro ?_ ?_)
                    all_goals (try omega)
                  · skip
                    refine And.intro ?_ ?_
                    · skip
                      refine ⟨[0, 1, 2, 3, 4, 5], (), ?_, True.intro⟩
                      conv => whnf
                      repeat' (first | exact True.intro | rfl | refine And.intro ?_ ?_)
                      all_goals (conv => whnf)
                      repeat' (first | exact True.intro | rfl | refine And.intro ?_ ?_)
                      all_goals (try omega)
                    · skip
                      exact True.intro
                · skip
                  refine And.intro ?_ ?_
                  · skip
                    refine ⟨_, [2, 4], SL, ?_⟩
                    conv => whnf
                    refine ⟨?_, ?_, ?_⟩
                    · conv => whnf
                      repeat' (first | exact True.intro | rfl | refine And.intro ?_ ?_ | omega)
                      all_goals (conv => whnf)
                      all_goals (try (first | rfl | omega | (simp; done)))
                    · conv => whnf
                      repeat' (first | exact True.intro | rfl | refine And.intro ?_ ?_ | omega)
                      all_goals (conv => whnf)
                      all_goals (try (first | rfl | omega | (simp; done)))
                    conv => whnf
                    refine ⟨?_, True.intro⟩
                    intro _ _
                    conv => whnf
                    refine ⟨[0, 1, 2, 3, 4, 5], (), ?_, True.intro⟩
                    conv => whnf
                    repeat' (first | exact True.intro | rfl | refine And.intro ?_ ?_)
                    all_goals (conv => whnf)
                    repeat' (first | exact True.intro | rfl | refine And.intro ?_ ?_)
                    all_goals (try omega)
                  · skip
                    exact True.intro
              · skip
                refine And.intro ?_ ?_
                · skip
                  refine ⟨_, [2, 4], SL, ?_⟩
                  conv => whnf
                  refine ⟨?_, ?_, ?_⟩
                  · conv => whnf
                    repeat' (first | exact True.intro | rfl | refine And.intro ?_ ?_ | omega)
                    all_goals (conv => whnf)
                    all_goals (try (first | rfl | omega | (simp; done)))
                  · conv => whnf
                    repeat' (first | exact True.intro | rfl | refine And.intro ?_ ?_ | omega)
                    all_goals (conv => whnf)
                    all_goals (try (first | rfl | omega | (simp; done)))
                  conv => whnf
                  refine ⟨?_, True.intro⟩
                  intro _ _
                  conv => whnf
                  refine ⟨[0, 1, 2, 3, 4, 5], (), ?_, True.intro⟩
                  conv => whnf
                  repeat' (first | exact True.intro | rfl | refine And.intro ?_ ?_)
                  all_goals (conv => whnf)
                  repeat' (first | exact True.intro | rfl | refine And.intro ?_ ?_)
                  all_goals (try omega)
                · skip
                  exact True.intro
            · skip
              refine And.intro ?_ ?_
              · skip
                refine And.intro ?_ ?_
                · skip
                  refine ⟨_, [2, 4], SM, ?_⟩
                  conv => whnf
                  refine ⟨?_, ?_, ?_⟩
                  · conv => whnf
                    repeat' (first | exact True.intro | rfl | refine And.intro ?_ ?_ | omega)
                    all_goals (conv => whnf)
                    all_goals (try (first | rfl | omega | (simp; done)))
                  · conv => whnf
                    repeat' (first | exact True.intro | rfl | refine And.intro ?_ ?_ | omega)
                    all_goals (conv => whnf)
                    all_goals (try (first | rfl | omega | (simp; done)))
                  conv => whnf
                  refine ⟨?_, True.intro⟩
                  intro _ _
                  conv => whnf
                  refine And.intro ?_ ?_
                  · skip
                    refine ⟨_, [2, 4], SL, ?_⟩
                    conv => whnf
                    refine ⟨?_, ?_, ?_⟩
                    · conv => whnf
                      repeat' (first | exact True.intro | rfl | refine And.intro ?_ ?_ | omega)
                      all_goals (conv => whnf)
                      all_goals (try (first | rfl | omega | (simp; done)))
                    · conv => whnf
                      repeat' (first | exact True.intro | rfl | refine And.intro ?_ ?_ | omega)
                      all_goals (conv => whnf)
                      all_goals (try (first | rfl | omega | (simp; done)))
                    conv => whnf
                    refine ⟨?_, True.intro⟩
                    intro _ _
                    conv => whnf
                    refine And.intro ?_ ?_
                    · skip
                      refine ⟨[0, 1, 2, 3, 4, 5], (), ?_, True.intro⟩
                      conv => whnf
                      repeat' (first | exact True.intro | rfl | refine And.intro ?_ ?_)
                      all_goals (conv => whnf)
                      repeat' (first | exact True.intro | rfl | refine And.intro ?_ ?_)
                      all_goals (try omega)
                    · skip
                      refine And.intro ?_ ?_
                      · skip
                        refine ⟨[0, 1, 2, 3, 4, 5], (), ?_, True.intro⟩
                        conv => whnf
                        repeat' (first | exact True.intro | rfl | refine And.intro ?_ ?_)
                        all_goals (conv => whnf)
                        repeat' (first | exact True.intro | rfl | refine And.intro ?_ ?_)
                        all_goals (try omega)
                      · skip
                        exact True.intro
                  · skip
                    refine And.intro ?_ ?_
                    · skip
                      refine ⟨_, [2, 4], SL, ?_⟩
                      conv => whnf
                      refine ⟨?_, ?_, ?_⟩
                      · conv => whnf
                        repeat' (first | exact True.intro | rfl | refine And.intro ?_ ?_ | omega)
                        all_goals (conv => whnf)
                        all_goals (try (first | rfl | omega | (simp; done)))
                      · conv => whnf
                        repeat' (first | exact True.intro | rfl | refine And.intro ?_ ?_ | omega)
                        all_goals (conv => whnf)
                        all_goals (try (first | rfl | omega | (simp; done)))
                      conv => whnf
                      refine ⟨?_, True.intro⟩
                      intro _ _
                      conv => whnf
                      refine ⟨[0, 1, 2, 3, 4, 5], (), ?_, True.intro⟩
                      conv => whnf
                      repeat' (first | exact True.intro | rfl | refine And.intro ?_ ?_)
                      all_goals (conv => whnf)
                      repeat' (first | exact True.intro | rfl | refine And.intro ?_ ?_)
                      all_goals (try omega)
                    · skip
                      exact True.intro
                · skip
                  refine And.intro ?_ ?_
                  · skip
                    refine ⟨_, [2, 4], SM, ?_⟩
                    conv => whnf
                    refine ⟨?_, ?_, ?_⟩
                    · conv => whnf
                      repeat' (first | exact True.intro | rfl | refine And.intro ?_ ?_ | omega)
                      all_goals (conv => whnf)
                      all_goals (try (first | rfl | omega | (simp; done)))
                    · conv => whnf
                      repeat' (first | exact True.intro | rfl | refine And.intro ?_ ?_ | omega)
                      all_goals (conv => whnf)
                      all_goals (try (first | rfl | omega | (simp; done)))
                    conv => whnf
                    refine ⟨?_, True.intro⟩
                    intro _ _
                    conv => whnf
                    refine ⟨_, [2, 4], SL, ?_⟩
                    conv => whnf
                    refine ⟨?_, ?_, ?_⟩
                    · conv => whnf
                      repeat' (first | exact True.intro | rfl | refine And.intro ?_ ?_ | omega)
                      all_goals (conv => whnf)
                      all_goals (try (first | rfl | omega | (simp; done)))
                    · conv => whnf
                      repeat' (first | exact True.intro | rfl | refine And.intro ?_ ?_ | omega)
                      all_goals (conv => whnf)
                      all_goals (try (first | rfl | omega | (simp; done)))
                    conv => whnf
                    refine ⟨?_, True.intro⟩
                    intro _ _
                    conv => whnf
                    refine ⟨[0, 1, 2, 3, 4, 5], (), ?_, True.intro⟩
                    conv => whnf
                    repeat' (first | exact True.intro | rfl | refine And.intro ?_ ?_)
                    all_goals (conv => whnf)
                    repeat' (first | exact True.intro | rfl | refine And.intro ?_ ?_)
                    all_goals (try omega)
                  · skip
                    exact True.intro
              · skip
                refine And.intro ?_ ?_
                · skip
                  refine And.intro ?_ ?_
                  · skip
                    refine ⟨_, [2, 4], SM, ?_⟩
                    conv => whnf
                    refine ⟨?_, ?_, ?_⟩
                    · conv => whnf
                      repeat' (first | exact True.intro | rfl | refine And.intro ?_ ?_ | omega)
                      all_goals (conv => whnf)
                      all_goals (try (first | rfl | omega | (simp; done)))
                    · conv => whnf
                      repeat' (first | exact True.intro | rfl | refine And.intro ?_ ?_ | omega)
                      all_goals (conv => whnf)
                      all_goals (try (first | rfl | omega | (simp; done)))
                    conv => whnf
                    refine ⟨?_, True.intro⟩
                    intro _ _
                    conv => whnf
                    refine ⟨_, [2, 4], SL, ?_⟩
                    conv => whnf
                    refine ⟨?_, ?_, ?_⟩
                    · conv => whnf
                      repeat' (first | exact True.intro | rfl | refine And.intro ?_ ?_ | omega)
                      all_goals (conv => whnf)
                      all_goals (try (first | rfl | omega | (simp; done)))
                    · conv => whnf
                      repeat' (first | exact True.intro | rfl | refine And.intro ?_ ?_ | omega)
                      all_goals (conv => whnf)
                      all_goals (try (first | rfl | omega | (simp; done)))
                    conv => whnf
                    refine ⟨?_, True.intro⟩
                    intro _ _
                    conv => whnf
                    refine ⟨[0, 1, 2, 3, 4, 5], (), ?_, True.intro⟩
                    conv => whnf
                    repeat' (first | exact True.intro | rfl | refine And.intro ?_ ?_)
                    all_goals (conv => whnf)
                    repeat' (first | exact True.intro | rfl | refine And.intro ?_ ?_)
                    all_goals (try omega)
                  · skip
                    refine And.intro ?_ ?_
                    · skip
                      refine ⟨_, [2, 4], SM, ?_⟩
                      conv => whnf
                      refine ⟨?_, ?_, ?_⟩
                      · conv => whnf
                        repeat' (first | exact True.intro | rfl | refine And.intro ?_ ?_ | omega)
                        all_goals (conv => whnf)
                        all_goals (try (first | rfl | omega | (simp; done)))
                      · conv => whnf
                        repeat' (first | exact True.intro | rfl | refine And.intro ?_ ?_ | omega)
                        all_goals (conv => whnf)
                        all_goals (try (first | rfl | omega | (simp; done)))
                      conv => whnf
                      refine ⟨?_, True.intro⟩
                      intro _ _
                      conv => whnf
                      refine ⟨_, [2, 4], SL, ?_⟩
                      conv => whnf
                      refine ⟨?_, ?_, ?_⟩
                      · conv => whnf
                        repeat' (first | exact True.intro | rfl | refine And.intro ?_ ?_ | omega)
                        all_goals (conv => whnf)
                        all_goals (try (first | rfl | omega | (simp; done)))
                      · conv => whnf
                        repeat' (first | exact True.intro | rfl | refine And.intro ?_ ?_ | omega)
                        all_goals (conv => whnf)
                        all_goals (try (first | rfl | omega | (simp; done)))
                      conv => whnf
                      refine ⟨?_, True.intro⟩
                      intro _ _
                      conv => whnf
                      refine ⟨[0, 1, 2, 3, 4, 5], (), ?_, True.intro⟩
                      conv => whnf
                      repeat' (first | exact True.intro | rfl | refine And.intro ?_ ?_)
                      all_goals (conv => whnf)
                      repeat' (first | exact True.intro | rfl | refine And.intro ?_ ?_)
                      all_goals (try omega)
                    · skip
                      exact True.intro
                · skip
                  exact True.intro
          · skip
            refine And.intro ?_ ?_
            · skip
              refine And.intro ?_ ?_
              · skip
                refine And.intro ?_ ?_
                · skip
                  refine ⟨_, [2, 4], SM, ?_⟩
                  conv => whnf
                  refine ⟨?_, ?_, ?_⟩
                  · conv => whnf
                    repeat' (first | exact True.intro | rfl | refine And.intro ?_ ?_ | omega)
                    all_goals (conv => whnf)
                    all_goals (try (first | rfl | omega | (simp; done)))
                  · conv => whnf
                    repeat' (first | exact True.intro | rfl | refine And.intro ?_ ?_ | omega)
                    all_goals (conv => whnf)
                    all_goals (try (first | rfl | omega | (simp; done)))
                  conv => whnf
                  refine ⟨?_, True.intro⟩
                  intro _ _
                  conv => whnf
                  refine And.intro ?_ ?_
                  · skip
                    refine ⟨_, [2, 4], SL, ?_⟩
                    conv => whnf
                    refine ⟨?_, ?_, ?_⟩
                    · conv => whnf
                      repeat' (first | exact True.intro | rfl | refine And.intro ?_ ?_ | omega)
                      all_goals (conv => whnf)
                      all_goals (try (first | rfl | omega | (simp; done)))
                    · conv => whnf
                      repeat' (first | exact True.intro | rfl | refine And.intro ?_ ?_ | omega)
                      all_goals (conv => whnf)
                      all_goals (try (first | rfl | omega | (simp; done)))
                    conv => whnf
                    refine ⟨?_, True.intro⟩
                    intro _ _
                    conv => whnf
                    refine And.intro ?_ ?_
                    · skip
                      refine ⟨[0, 1, 2, 3, 4, 5], (), ?_, True.intro⟩
                      conv => whnf
                      repeat' (first | exact True.intro | rfl | refine And.intro ?_ ?_)
                      all_goals (conv => whnf)
                      repeat' (first | exact True.intro | rfl | refine And.intro ?_ ?_)
                      all_goals (try omega)
                    · skip
                      refine And.intro ?_ ?_
                      · skip
                        refine ⟨[0, 1, 2, 3, 4, 5], (), ?_, True.intro⟩
                        conv => whnf
                        repeat' (first | exact True.intro | rfl | refine And.intro ?_ ?_)
                        all_goals (conv => whnf)
                        repeat' (first | exact True.intro | rfl | refine And.intro ?_ ?_)
                        all_goals (try omega)
                      · skip
                        exact True.intro
                  · skip
                    refine And.intro ?_ ?_
                    · skip
                      refine ⟨_, [2, 4], SL, ?_⟩
                      conv => whnf
                      refine ⟨?_, ?_, ?_⟩
                      · conv => whnf
                        repeat' (first | exact True.intro | rfl | refine And.intro ?_ ?_ | omega)
                        all_goals (conv => whnf)
                        all_goals (try (first | rfl | omega | (simp; done)))
                      · conv => whnf
                        repeat' (first | exact True.intro | rfl | refine And.intro ?_ ?_ | omega)
                        all_goals (conv => whnf)
                        all_goals (try (first | rfl | omega | (simp; done)))
                      conv => whnf
                      refine ⟨?_, True.intro⟩
                      intro _ _
                      conv => whnf
                      refine ⟨[0, 1, 2, 3, 4, 5], (), ?_, True.intro⟩
                      conv => whnf
                      repeat' (first | exact True.intro | rfl | refine And.intro ?_ ?_)
                      all_goals (conv => whnf)
                      repeat' (first | exact True.intro | rfl | refine And.intro ?_ ?_)
                      all_goals (try omega)
                    · skip
                      exact True.intro
                · skip
                  refine And.intro ?_ ?_
                  · skip
                    refine ⟨_, [2, 4], SM, ?_⟩
                    conv => whnf
                    refine ⟨?_, ?_, ?_⟩
                    · conv => whnf
                      repeat' (first | exact True.intro | rfl | refine And.intro ?_ ?_ | omega)
                      all_goals (conv => whnf)
                      all_goals (try (first | rfl | omega | (simp; done)))
                    · conv => whnf
                      repeat' (first | exact True.intro | rfl | refine And.intro ?_ ?_ | omega)
                      all_goals (conv => whnf)
                      all_goals (try (first | rfl | omega | (simp; done)))
                    conv => whnf
                    refine ⟨?_, True.intro⟩
                    intro _ _
                    conv => whnf
                    refine ⟨_, [2, 4], SL, ?_⟩
                    conv => whnf
                    refine ⟨?_, ?_, ?_⟩
                    · conv => whnf
                      repeat' (first | exact True.intro | rfl | refine And.intro ?_ ?_ | omega)
                      all_goals (conv => whnf)
                      all_goals (try (first | rfl | omega | (simp; done)))
                    · conv => whnf
                      repeat' (first | exact True.intro | rfl | refine And.intro ?_ ?_ | omega)
                      all_goals (conv => whnf)
                      all_goals (try (first | rfl | omega | (simp; done)))
                    conv => whnf
                    refine ⟨?_, True.intro⟩
                    intro _ _
                    conv => whnf
                    refine ⟨[0, 1, 2, 3, 4, 5], (), ?_, True.intro⟩
                    conv => whnf
                    repeat' (first | exact True.intro | rfl | refine And.intro ?_ ?_)
                    all_goals (conv => whnf)
                    repeat' (first | exact True.intro | rfl | refine And.intro ?_ ?_)
                    all_goals (try omega)
                  · skip
                    exact True.intro
              · skip
                refine And.intro ?_ ?_
                · skip
                  refine ⟨_, [2, 4], SM, ?_⟩
                  conv => whnf
                  refine ⟨?_, ?_, ?_⟩
                  · conv => whnf
                    repeat' (first | exact True.intro | rfl | refine And.intro ?_ ?_ | omega)
                    all_goals (conv => whnf)
                    all_goals (try (first | rfl | omega | (simp; done)))
                  · conv => whnf
                    repeat' (first | exact True.intro | rfl | refine And.intro ?_ ?_ | omega)
                    all_goals (conv => whnf)
                    all_goals (try (first | rfl | omega | (simp; done)))
                  conv => whnf
                  refine ⟨?_, True.intro⟩
                  intro _ _
                  conv => whnf
                  refine ⟨_, [2, 4], SL, ?_⟩
                  conv => whnf
                  refine ⟨?_, ?_, ?_⟩
                  · conv => whnf
                    repeat' (first | exact True.intro | rfl | refine And.intro ?_ ?_ | omega)
                    all_goals (conv => whnf)
                    all_goals (try (first | rfl | omega | (simp; done)))
                  · conv => whnf
                    repeat' (first | exact True.intro | rfl | refine And.intro ?_ ?_ | omega)
                    all_goals (conv => whnf)
                    all_goals (try (first | rfl | omega | (simp; done)))
                  conv => whnf
                  refine ⟨?_, True.intro⟩
                  intro _ _
                  conv => whnf
                  refine ⟨[0, 1, 2, 3, 4, 5], (), ?_, True.intro⟩
                  conv => whnf
                  repeat' (first | exact True.intro | rfl | refine And.intro ?_ ?_)
                  all_goals (conv => whnf)
                  repeat' (first | exact True.intro | rfl | refine And.intro ?_ ?_)
                  all_goals (try omega)
                · skip
                  exact True.intro
            · skip
              refine And.intro ?_ ?_
              · skip
                refine And.intro ?_ ?_
                · skip
                  refine ⟨_, [2, 4], SM, ?_⟩
                  conv => whnf
                  refine ⟨?_, ?_, ?_⟩
                  · conv => whnf
                    repeat' (first | exact True.intro | rfl | refine And.intro ?_ ?_ | omega)
                    all_goals (conv => whnf)
                    all_goals (try (first | rfl | omega | (simp; done)))
                  · conv => whnf
                    repeat' (first | exact True.intro | rfl | refine And.intro ?_ ?_ | omega)
                    all_goals (conv => whnf)
                    all_goals (try (first | rfl | omega | (simp; done)))
                  conv => whnf
                  refine ⟨?_, True.intro⟩
                  intro _ _
                  conv => whnf
                  refine ⟨_, [2, 4], SL, ?_⟩
                  conv => whnf
                  refine ⟨?_, ?_, ?_⟩
                  · conv => whnf
                    repeat' (first | exact True.intro | rfl | refine And.intro ?_ ?_ | omega)
                    all_goals (conv => whnf)
                    all_goals (try (first | rfl | omega | (simp; done)))
                  · conv => whnf
                    repeat' (first | exact True.intro | rfl | refine And.intro ?_ ?_ | omega)
                    all_goals (conv => whnf)
                    all_goals (try (first | rfl | omega | (simp; done)))
                  conv => whnf
                  refine ⟨?_, True.intro⟩
                  intro _ _
                  conv => whnf
                  refine ⟨[0, 1, 2, 3, 4, 5], (), ?_, True.intro⟩
                  conv => whnf
                  repeat' (first | exact True.intro | rfl | refine And.intro ?_ ?_)
                  all_goals (conv => whnf)
                  repeat' (first | exact True.intro | rfl | refine And.intro ?_ ?_)
                  all_goals (try omega)
                · skip
                  refine And.intro ?_ ?_
                  · skip
                    refine ⟨_, [2, 4], SM, ?_⟩
                    conv => whnf
                    refine ⟨?_, ?_, ?_⟩
                    · conv => whnf
                      repeat' (first | exact True.intro | rfl | refine And.intro ?_ ?_ | omega)
                      all_goals (conv => whnf)
                      all_goals (try (first | rfl | omega | (simp; done)))
                    · conv => whnf
                      repeat' (first | exact True.intro | rfl | refine And.intro ?_ ?_ | omega)
                      all_goals (conv => whnf)
                      all_goals (try (first | rfl | omega | (simp; done)))
                    conv => whnf
                    refine ⟨?_, True.intro⟩
                    intro _ _
                    conv => whnf
                    refine ⟨_, [2, 4], SL, ?_⟩
                    conv => whnf
                    refine ⟨?_, ?_, ?_⟩
                    · conv => whnf
                      repeat' (first | exact True.intro | rfl | refine And.intro ?_ ?_ | omega)
                      all_goals (conv => whnf)
                      all_goals (try (first | rfl | omega | (simp; done)))
                    · conv => whnf
                      repeat' (first | exact True.intro | rfl | refine And.intro ?_ ?_ | omega)
                      all_goals (conv => whnf)
                      all_goals (try (first | rfl | omega | (simp; done)))
                    conv => whnf
                    refine ⟨?_, True.intro⟩
                    intro _ _
                    conv => whnf
                    refine ⟨[0, 1, 2, 3, 4, 5], (), ?_, True.intro⟩
                    conv => whnf
                    repeat' (first | exact True.intro | rfl | refine And.intro ?_ ?_)
                    all_goals (conv => whnf)
                    repeat' (first | exact True.intro | rfl | refine And.intro ?_ ?_)
                    all_goals (try omega)
                  · skip
                    exact True.intro
              · skip
                exact True.intro
        · skip
          refine And.intro ?_ ?_
          · skip
            refine And.intro ?_ ?_
            · skip
              refine ⟨_, [2, 4], SM, ?_⟩
              conv => whnf
              refine ⟨?_, ?_, ?_⟩
              · conv => whnf
                repeat' (first | exact True.intro | rfl | refine And.intro ?_ ?_ | omega)
                all_goals (conv => whnf)
                all_goals (try (first | rfl | omega | (simp; done)))
              · conv => whnf
                repeat' (first | exact True.intro | rfl | refine And.intro ?_ ?_ | omega)
                all_goals (conv => whnf)
                all_goals (try (first | rfl | omega | (simp; done)))
              conv => whnf
              refine ⟨?_, True.intro⟩
              intro _ _
              conv => whnf
              refine ⟨_, [2, 4], SL, ?_⟩
              conv => whnf
              refine ⟨?_, ?_, ?_⟩
              · conv => whnf
                repeat' (first | exact True.intro | rfl | refine And.intro ?_ ?_ | omega)
                all_goals (conv => whnf)
                all_goals (try (first | rfl | omega | (simp; done)))
              · conv => whnf
                repeat' (first | exact True.intro | rfl | refine And.intro ?_ ?_ | omega)
                all_goals (conv => whnf)
                all_goals (try (first | rfl | omega | (simp; done)))
              conv => whnf
              refine ⟨?_, True.intro⟩
              intro _ _
              conv => whnf
              refine ⟨[0, 1, 2, 3, 4, 5], (), ?_, True.intro⟩
              conv => whnf
              repeat' (first | exact True.intro | rfl | refine And.intro ?_ ?_)
              all_goals (conv => whnf)
              repeat' (first | exact True.intro | rfl | refine And.intro ?_ ?_)
              all_goals (try omega)
            · skip
              refine And.intro ?_ ?_
              · skip
                refine And.intro ?_ ?_
                · skip
                  refine ⟨_, [2, 4], SM, ?_⟩
                  conv => whnf
                  refine ⟨?_, ?_, ?_⟩
                  · conv => whnf
                    repeat' (first | exact True.intro | rfl | refine And.intro ?_ ?_ | omega)
                    all_goals (conv => whnf)
                    all_goals (try (first | rfl | omega | (simp; done)))
                  · conv => whnf
                    repeat' (first | exact True.intro | rfl | refine And.intro ?_ ?_ | omega)
                    all_goals (conv => whnf)
                    all_goals (try (first | rfl | omega | (simp; done)))
                  conv => whnf
                  refine ⟨?_, True.intro⟩
                  intro _ _
                  conv => whnf
                  refine ⟨_, [2, 4], SL, ?_⟩
                  conv => whnf
                  refine ⟨?_, ?_, ?_⟩
                  · conv => whnf
                    repeat' (first | exact True.intro | rfl | refine And.intro ?_ ?_ | omega)
                    all_goals (conv => whnf)
                    all_goals (try (first | rfl | omega | (simp; done)))
                  · conv => whnf
                    repeat' (first | exact True.intro | rfl | refine And.intro ?_ ?_ | omega)
                    all_goals (conv => whnf)
                    all_goals (try (first | rfl | omega | (simp; done)))
                  conv => whnf
                  refine ⟨?_, True.intro⟩
                  intro _ _
                  conv => whnf
                  refine ⟨[0, 1, 2, 3, 4, 5], (), ?_, True.intro⟩
                  conv => whnf
                  repeat' (first | exact True.intro | rfl | refine And.intro ?_ ?_)
                  all_goals (conv => whnf)
                  repeat' (first | exact True.intro | rfl | refine And.intro ?_ ?_)
                  all_goals (try omega)
                · skip
                  refine And.intro ?_ ?_
                  · skip
                    refine ⟨_, [2, 4], SM, ?_⟩
                    conv => whnf
                    refine ⟨?_, ?_, ?_⟩
                    · conv => whnf
                      repeat' (first | exact True.intro | rfl | refine And.intro ?_ ?_ | omega)
                      all_goals (conv => whnf)
                      all_goals (try (first | rfl | omega | (simp; done)))
                    · conv => whnf
                      repeat' (first | exact True.intro | rfl | refine And.intro ?_ ?_ | omega)
                      all_goals (conv => whnf)
                      all_goals (try (first | rfl | omega | (simp; done)))
                    conv => whnf
                    refine ⟨?_, True.intro⟩
                    intro _ _
                    conv => whnf
                    refine ⟨_, [2, 4], SL, ?_⟩
                    conv => whnf
                    refine ⟨?_, ?_, ?_⟩
                    · conv => whnf
                      repeat' (first | exact True.intro | rfl | refine And.intro ?_ ?_ | omega)
                      all_goals (conv => whnf)
                      all_goals (try (first | rfl | omega | (simp; done)))
                    · conv => whnf
                      repeat' (first | exact True.intro | rfl | refine And.intro ?_ ?_ | omega)
                      all_goals (conv => whnf)
                      all_goals (try (first | rfl | omega | (simp; done)))
                    conv => whnf
                    refine ⟨?_, True.intro⟩
                    intro _ _
                    conv => whnf
                    refine ⟨[0, 1, 2, 3, 4, 5], (), ?_, True.intro⟩
                    conv => whnf
                    repeat' (first | exact True.intro | rfl | refine And.intro ?_ ?_)
                    all_goals (conv => whnf)
                    repeat' (first | exact True.intro | rfl | refine And.intro ?_ ?_)
                    all_goals (try omega)
                  · skip
                    exact True.intro
              · skip
                exact True.intro
          · skip
            exact True.intro
    · skip
      refine And.intro ?_ ?_
      · skip
        refine And.intro ?_ ?_
        · skip
          refine And.intro ?_ ?_
          · skip
            refine And.intro ?_ ?_
            · skip
              refine ⟨_, [2, 4], SM, ?_⟩
              conv => whnf
              refine ⟨?_, ?_, ?_⟩
              · conv => whnf
                repeat' (first | exact True.intro | rfl | refine And.intro ?_ ?_ | omega)
                all_goals (conv => whnf)
                all_goals (try (first | rfl | omega | (simp; done)))
              · conv => whnf
                repeat' (first | exact True.intro | rfl | refine And.intro ?_ ?_ | omega)
                all_goals (conv => whnf)
                all_goals (try (first | rfl | omega | (simp; done)))
              conv => whnf
              refine ⟨?_, True.intro⟩
              intro _ _
              conv => whnf
              refine And.intro ?_ ?_
              · skip
                refine And.intro ?_ ?_
                · skip
                  refine ⟨_, [2, 4], SL, ?_⟩
                  conv => whnf
                  refine ⟨?_, ?_, ?_⟩
                  · conv => whnf
                    repeat' (first | exact True.intro | rfl | refine And.intro ?_ ?_ | omega)
                    all_goals (conv => whnf)
                    all_goals (try (first | rfl | omega | (simp; done)))
                  · conv => whnf
                    repeat' (first | exact True.intro | rfl | refine And.intro ?_ ?_ | omega)
                    all_goals (conv => whnf)
                    all_goals (try (first | rfl | omega | (simp; done)))
                  conv => whnf
                  refine ⟨?_, True.intro⟩
                  intro _ _
                  conv => whnf
                  refine And.intro ?_ ?_
                  · skip
                    refine ⟨[0, 1, 2, 3, 4, 5], (), ?_, True.intro⟩
                    conv => whnf
                    repeat' (first | exact True.intro | rfl | refine And.intro ?_ ?_)
                    all_goals (conv => whnf)
                    repeat' (first | exact True.intro | rfl | refine And.intro ?_ ?_)
                    all_goals (try omega)
                  · skip
                    refine And.intro ?_ ?_
                    · skip
                      refine ⟨[0, 1, 2, 3, 4, 5], (), ?_, True.intro⟩
                      conv => whnf
                      repeat' (first | exact True.intro | rfl | refine And.intro ?_ ?_)
                      all_goals (conv => whnf)
                      repeat' (first | exact True.intro | rfl | refine And.intro ?_ ?_)
                      all_goals (try omega)
                    · skip
                      exact True.intro
                · skip
                  refine And.intro ?_ ?_
                  · skip
                    refine ⟨_, [2, 4], SL, ?_⟩
                    conv => whnf
                    refine ⟨?_, ?_, ?_⟩
                    · conv => whnf
                      repeat' (first | exact True.intro | rfl | refine And.intro ?_ ?_ | omega)
                      all_goals (conv => whnf)
                      all_goals (try (first | rfl | omega | (simp; done)))
                    · conv => whnf
                      repeat' (first | exact True.intro | rfl | refine And.intro ?_ ?_ | omega)
                      all_goals (conv => whnf)
                      all_goals (try (first | rfl | omega | (simp; done)))
                    conv => whnf
                    refine ⟨?_, True.intro⟩
                    intro _ _
                    conv => whnf
                    refine ⟨[0, 1, 2, 3, 4, 5], (), ?_, True.intro⟩
                    conv => whnf
                    repeat' (first | exact True.intro | rfl | refine And.intro ?_ ?_)
                    all_goals (conv => whnf)
                    repeat' (first | exact True.intro | rfl | refine And.intro ?_ ?_)
                    all_goals (try omega)
                  · skip
                    exact True.intro
              · skip
                refine And.intro ?_ ?_
                · skip
                  refine ⟨_, [2, 4], SL, ?_⟩
                  conv => whnf
                  refine ⟨?_, ?_, ?_⟩
                  · conv => whnf
                    repeat' (first | exact True.intro | rfl | refine And.intro ?_ ?_ | omega)
                    all_goals (conv => whnf)
                    all_goals (try (first | rfl | omega | (simp; done)))
                  · conv => whnf
                    repeat' (first | exact True.intro | rfl | refine And.intro ?_ ?_ | omega)
                    all_goals (conv => whnf)
                    all_goals (try (first | rfl | omega | (simp; done)))
                  conv => whnf
                  refine ⟨?_, True.intro⟩
                  intro _ _
                  conv => whnf
                  refine ⟨[0, 1, 2, 3, 4, 5], (), ?_, True.intro⟩
                  conv => whnf
                  repeat' (first | exact True.intro | rfl | refine And.intro ?_ ?_)
                  all_goals (conv => whnf)
                  repeat' (first | exact True.intro | rfl | refine And.intro ?_ ?_)
                  all_goals (try omega)
                · skip
                  exact True.intro
            · skip
              refine And.intro ?_ ?_
              · skip
                refine And.intro ?_ ?_
                · skip
                  refine ⟨_, [2, 4], SM, ?_⟩
                  conv => whnf
                  refine ⟨?_, ?_, ?_⟩
                  · conv => whnf
                    repeat' (first | exact True.intro | rfl | refine And.intro ?_ ?_ | omega)
                    all_goals (conv => whnf)
                    all_goals (try (first | rfl | omega | (simp; done)))
                  · conv => whnf
                    repeat' (first | exact True.intro | rfl | refine And.intro ?_ ?_ | omega)
                    all_goals (conv => whnf)
                    all_goals (try (first | rfl | omega | (simp; done)))
                  conv => whnf
                  refine ⟨?_, True.intro⟩
                  intro _ _
                  conv => whnf
                  refine And.intro ?_ ?_
                  · skip
                    refine ⟨_, [2, 4], SL, ?_⟩
                    conv => whnf
                    refine ⟨?_, ?_, ?_⟩
                    · conv => whnf
                      repeat' (first | exact True.intro | rfl | refine And.intro ?_ ?_ | omega)
                      all_goals (conv => whnf)
                      all_goals (try (first | rfl | omega | (simp; done)))
                    · conv => whnf
                      repeat' (first | exact True.intro | rfl | refine And.intro ?_ ?_ | omega)
                      all_goals (conv => whnf)
                      all_goals (try (first | rfl | omega | (simp; done)))
                    conv => whnf
                    refine ⟨?_, True.intro⟩
                    intro _ _
                    conv => whnf
                    refine And.intro ?_ ?_
                    · skip
                      refine ⟨[0, 1, 2, 3, 4, 5], (), ?_, True.intro⟩
                      conv => whnf
                      repeat' (first | exact True.intro | rfl | refine And.intro ?_ ?_)
                      all_goals (conv => whnf)
                      repeat' (first | exact True.intro | rfl | refine And.intro ?_ ?_)
                      all_goals (try omega)
                    · skip
                      refine And.intro ?_ ?_
                      · skip
                        refine ⟨[0, 1, 2, 3, 4, 5], (), ?_, True.intro⟩
                        conv => whnf
                        repeat' (first | exact True.intro | rfl | refine And.intro ?_ ?_)
                        all_goals (conv => whnf)
                        repeat' (first | exact True.intro | rfl | refine And.intro ?_ ?_)
                        all_goals (try omega)
                      · skip
                        exact True.intro
                  · skip
                    refine And.intro ?_ ?_
                    · skip
                      refine ⟨_, [2, 4], SL, ?_⟩
                      conv => whnf
                      refine ⟨?_, ?_, ?_⟩
                      · conv => whnf
                        repeat' (first | exact True.intro | rfl | refine And.intro ?_ ?_ | omega)
                        all_goals (conv => whnf)
                        all_goals (try (first | rfl | omega | (simp; done)))
                      · conv => whnf
                        repeat' (first | exact True.intro | rfl | refine And.intro ?_ ?_ | omega)
                        all_goals (conv => whnf)
                        all_goals (try (first | rfl | omega | (simp; done)))
                      conv => whnf
                      refine ⟨?_, True.intro⟩
                      intro _ _
                      conv => whnf
                      refine ⟨[0, 1, 2, 3, 4, 5], (), ?_, True.intro⟩
                      conv => whnf
                      repeat' (first | exact True.intro | rfl | refine And.intro ?_ ?_)
                      all_goals (conv => whnf)
                      repeat' (first | exact True.intro | rfl | refine And.intro ?_ ?_)
                      all_goals (try omega)
                    · skip
                      exact True.intro
                · skip
                  refine And.intro ?_ ?_
                  · skip
                    refine ⟨_, [2, 4], SM, ?_⟩
                    conv => whnf
                    refine ⟨?_, ?_, ?_⟩
                    · conv => whnf
                      repeat' (first | exact True.intro | rfl | refine And.intro ?_ ?_ | omega)
                      all_goals (conv => whnf)
                      all_goals (try (first | rfl | omega | (simp; done)))
                    · conv => whnf
                      repeat' (first | exact True.intro | rfl | refine And.intro ?_ ?_ | omega)
                      all_goals (conv => whnf)
                      all_goals (try (first | rfl | omega | (simp; done)))
                    conv => whnf
                    refine ⟨?_, True.intro⟩
                    intro _ _
                    conv => whnf
                    refine ⟨_, [2, 4], SL, ?_⟩
                    conv => whnf
                    refine ⟨?_, ?_, ?_⟩
                    · conv => whnf
                      repeat' (first | exact True.intro | rfl | refine And.intro ?_ ?_ | omega)
                      all_goals (conv => whnf)
                      all_goals (try (first | rfl | omega | (simp; done)))
                    · conv => whnf
                      repeat' (first | exact True.intro | rfl | refine And.intro ?_ ?_ | omega)
                      all_goals (conv => whnf)
                      all_goals (try (first | rfl | omega | (simp; done)))
                    conv => whnf
                    refine ⟨?_, True.intro⟩
                    intro _ _
                    conv => whnf
                    refine ⟨[0, 1, 2, 3, 4, 5], (), ?_, True.intro⟩
                    conv => whnf
                    repeat' (first | exact True.intro | rfl | refine And.intro ?_ ?_)
                    all_goals (conv => whnf)
                    repeat' (first | exact True.intro | rfl | refine And.intro ?_ ?_)
                    all_goals (try omega)
                  · skip
                    exact True.intro
              · skip
                refine And.intro ?_ ?_
                · skip
                  refine And.intro ?_ ?_
                  · skip
                    refine ⟨_, [2, 4], SM, ?_⟩
                    conv => whnf
                    refine ⟨?_, ?_, ?_⟩
                    · conv => whnf
                      repeat' (first | exact True.intro | rfl | refine And.intro ?_ ?_ | omega)
                      all_goals (conv => whnf)
                      all_goals (try (first | rfl | omega | (simp; done)))
                    · conv => whnf
                      repeat' (first | exact True.intro | rfl | refine And.intro ?_ ?_ | omega)
                      all_goals (conv => whnf)
                      all_goals (try (first | rfl | omega | (simp; done)))
                    conv => whnf
                    refine ⟨?_, True.intro⟩
                    intro _ _
                    conv => whnf
                    refine ⟨_, [2, 4], SL, ?_⟩
                    conv => whnf
                    refine ⟨?_, ?_, ?_⟩
                    · conv => whnf
                      repeat' (first | exact True.intro | rfl | refine And.intro ?_ ?_ | omega)
                      all_goals (conv => whnf)
                      all_goals (try (first | rfl | omega | (simp; done)))
                    · conv => whnf
                      repeat' (first | exact True.intro | rfl | refine And.intro ?_ ?_ | omega)
                      all_goals (conv => whnf)
                      all_goals (try (first | rfl | omega | (simp; done)))
                    conv => whnf
                    refine ⟨?_, True.intro⟩
                    intro _ _
                    conv => whnf
                    refine ⟨[0, 1, 2, 3, 4, 5], (), ?_, True.intro⟩
                    conv => whnf
                    repeat' (first | exact True.intro | rfl | refine And.intro ?_ ?_)
                    all_goals (conv => whnf)
                    repeat' (first | exact True.intro | rfl | refine And.intro ?_ ?_)
                    all_goals (try omega)
                  · skip
                    refine And.intro ?_ ?_
                    · skip
                      refine ⟨_, [2, 4], SM, ?_⟩
                      conv => whnf
                      refine ⟨?_, ?_, ?_⟩
                      · conv => whnf
                        repeat' (first | exact True.intro | rfl | refine And.intro ?_ ?_ | omega)
                        all_goals (conv => whnf)
                        all_goals (try (first | rfl | omega | (simp; done)))
                      · conv => whnf
                        repeat' (first | exact True.intro | rfl | refine And.intro ?_ ?_ | omega)
                        all_goals (conv => whnf)
                        all_goals (try (first | rfl | omega | (simp; done)))
                      conv => whnf
                      refine ⟨?_, True.intro⟩
                      intro _ _
                      conv => whnf
                      refine ⟨_, [2, 4], SL, ?_⟩
                      conv => whnf
                      refine ⟨?_, ?_, ?_⟩
                      · conv => whnf
                        repeat' (first | exact True.intro | rfl | refine And.intro ?_ ?_ | omega)
                        all_goals (conv => whnf)
                        all_goals (try (first | rfl | omega | (simp; done)))
                      · conv => whnf
                        repeat' (first | exact True.intro | rfl | refine And.intro ?_ ?_ | omega)
                        all_goals (conv => whnf)
                        all_goals (try (first | rfl | omega | (simp; done)))
                      conv => whnf
                      refine ⟨?_, True.intro⟩
                      intro _ _
                      conv => whnf
                      refine ⟨[0, 1, 2, 3, 4, 5], (), ?_, True.intro⟩
                      conv => whnf
                      repeat' (first | exact True.intro | rfl | refine And.intro ?_ ?_)
                      all_goals (conv => whnf)
                      repeat' (first | exact True.intro | rfl | refine And.intro ?_ ?_)
                      all_goals (try omega)
                    · skip
                      exact True.intro
                · skip
                  exact True.intro
          · skip
            refine And.intro ?_ ?_
            · skip
              refine And.intro ?_ ?_
              · skip
                refine And.intro ?_ ?_
                · skip
                  refine ⟨_, [2, 4], SM, ?_⟩
                  conv => whnf
                  refine ⟨?_, ?_, ?_⟩
                  · conv => whnf
                    repeat' (first | exact True.intro | rfl | refine And.intro ?_ ?_ | omega)
                    all_goals (conv => whnf)
                    all_goals (try (first | rfl | omega | (simp; done)))
                  · conv => whnf
                    repeat' (first | exact True.intro | rfl | refine And.intro ?_ ?_ | omega)
                    all_goals (conv => whnf)
                    all_goals (try (first | rfl | omega | (simp; done)))
                  conv => whnf
                  refine ⟨?_, True.intro⟩
                  intro _ _
                  conv => whnf
                  refine And.intro ?_ ?_
                  · skip
                    refine ⟨_, [2, 4], SL, ?_⟩
                    conv => whnf
                    refine ⟨?_, ?_, ?_⟩
                    · conv => whnf
                      repeat' (first | exact True.intro | rfl | refine And.intro ?_ ?_ | omega)
                      all_goals (conv => whnf)
                      all_goals (try (first | rfl | omega | (simp; done)))
                    · conv => whnf
                      repeat' (first | exact True.intro | rfl | refine And.intro ?_ ?_ | omega)
                      all_goals (conv => whnf)
                      all_goals (try (first | rfl | omega | (simp; done)))
                    conv => whnf
                    refine ⟨?_, True.intro⟩
                    intro _ _
                    conv => whnf
                    refine And.intro ?_ ?_
                    · skip
                      refine ⟨[0, 1, 2, 3, 4, 5], (), ?_, True.intro⟩
                      conv => whnf
                      repeat' (first | exact True.intro | rfl | refine And.intro ?_ ?_)
                      all_goals (conv => whnf)
                      repeat' (first | exact True.intro | rfl | refine And.intro ?_ ?_)
                      all_goals (try omega)
                    · skip
                      refine And.intro ?_ ?_
                      · skip
                        refine ⟨[0, 1, 2, 3, 4, 5], (), ?_, True.intro⟩
                        conv => whnf
                        repeat' (first | exact True.intro | rfl | refine And.intro ?_ ?_)
                        all_goals (conv => whnf)
                        repeat' (first | exact True.intro | rfl | refine And.intro ?_ ?_)
                        all_goals (try omega)
                      · skip
                        exact True.intro
                  · skip
                    refine And.intro ?_ ?_
                    · skip
                      refine ⟨_, [2, 4], SL, ?_⟩
                      conv => whnf
                      refine ⟨?_, ?_, ?_⟩
                      · conv => whnf
                        repeat' (first | exact True.intro | rfl | refine And.intro ?_ ?_ | omega)
                        all_goals (conv => whnf)
                        all_goals (try (first | rfl | omega | (simp; done)))
                      · conv => whnf
                        repeat' (first | exact True.intro | rfl | refine And.intro ?_ ?_ | omega)
                        all_goals (conv => whnf)
                        all_goals (try (first | rfl | omega | (simp; done)))
                      conv => whnf
                      refine ⟨?_, True.intro⟩
                      intro _ _
                      conv => whnf
                      refine ⟨[0, 1, 2, 3, 4, 5], (), ?_, True.intro⟩
                      conv => whnf
                      repeat' (first | exact True.intro | rfl | refine And.intro ?_ ?_)
                      all_goals (conv => whnf)
                      repeat' (first | exact True.intro | rfl | refine And.intro ?_ ?_)
                      all_goals (try omega)
                    · skip
                      exact True.intro
                · skip
                  refine And.intro ?_ ?_
                  · skip
                    refine ⟨_, [2, 4], SM, ?_⟩
                    conv => whnf
                    refine ⟨?_, ?_, ?_⟩
                    · conv => whnf
                      repeat' (first | exact True.intro | rfl | refine And.intro ?_ ?_ | omega)
                      all_goals (conv => whnf)
                      all_goals (try (first | rfl | omega | (simp; done)))
                    · conv => whnf
                      repeat' (first | exact True.intro | rfl | refine And.intro ?_ ?_ | omega)
                      all_goals (conv => whnf)
                      all_goals (try (first | rfl | omega | (simp; done)))
                    conv => whnf
                    refine ⟨?_, True.intro⟩
                    intro _ _
                    conv => whnf
                    refine ⟨_, [2, 4], SL, ?_⟩
                    conv => whnf
                    refine ⟨?_, ?_, ?_⟩
                    · conv => whnf
                      repeat' (first | exact True.intro | rfl | refine And.intro ?_ ?_ | omega)
                      all_goals (conv => whnf)
                      all_goals (try (first | rfl | omega | (simp; done)))
                    · conv => whnf
                      repeat' (first | exact True.intro | rfl | refine And.intro ?_ ?_ | omega)
                      all_goals (conv => whnf)
                      all_goals (try (first | rfl | omega | (simp; done)))
                    conv => whnf
                    refine ⟨?_, True.intro⟩
                    intro _ _
                    conv => whnf
                    refine ⟨[0, 1, 2, 3, 4, 5], (), ?_, True.intro⟩
                    conv => whnf
                    repeat' (first | exact True.intro | rfl | refine And.intro ?_ ?_)
                    all_goals (conv => whnf)
                    repeat' (first | exact True.intro | rfl | refine And.intro ?_ ?_)
                    all_goals (try omega)
                  · skip
                    exact True.intro
              · skip
                refine And.intro ?_ ?_
                · skip
                  refine ⟨_, [2, 4], SM, ?_⟩
                  conv => whnf
                  refine ⟨?_, ?_, ?_⟩
                  · conv => whnf
                    repeat' (first | exact True.intro | rfl | refine And.intro ?_ ?_ | omega)
                    all_goals (conv => whnf)
                    all_goals (try (first | rfl | omega | (simp; done)))
                  · conv => whnf
                    repeat' (first | exact True.intro | rfl | refine And.intro ?_ ?_ | omega)
                    all_goals (conv => whnf)
                    all_goals (try (first | rfl | omega | (simp; done)))
                  conv => whnf
                  refine ⟨?_, True.intro⟩
                  intro _ _
                  conv => whnf
                  refine ⟨_, [2, 4], SL, ?_⟩
                  conv => whnf
                  refine ⟨?_, ?_, ?_⟩
                  · conv => whnf
                    repeat' (first | exact True.intro | rfl | refine And.intro ?_ ?_ | omega)
                    all_goals (conv => whnf)
                    all_goals (try (first | rfl | omega | (simp; done)))
                  · conv => whnf
                    repeat' (first | exact True.intro | rfl | refine And.intro ?_ ?_ | omega)
                    all_goals (conv => whnf)
                    all_goals (try (first | rfl | omega | (simp; done)))
                  conv => whnf
                  refine ⟨?_, True.intro⟩
                  intro _ _
                  conv => whnf
                  refine ⟨[0, 1, 2, 3, 4, 5], (), ?_, True.intro⟩
                  conv => whnf
                  repeat' (first | exact True.intro | rfl | refine And.intro ?_ ?_)
                  all_goals (conv => whnf)
                  repeat' (first | exact True.intro | rfl | refine And.intro ?_ ?_)
                  all_goals (try omega)
                · skip
                  exact True.intro
            · skip
              refine And.intro ?_ ?_
              · skip
                refine And.intro ?_ ?_
                · skip
                  refine ⟨_, [2, 4], SM, ?_⟩
                  conv => whnf
                  refine ⟨?_, ?_, ?_⟩
                  · conv => whnf
                    repeat' (first | exact True.intro | rfl | refine And.intro ?_ ?_ | omega)
                    all_goals (conv => whnf)
                    all_goals (try (first | rfl | omega | (simp; done)))
                  · conv => whnf
                    repeat' (first | exact True.intro | rfl | refine And.intro ?_ ?_ | omega)
                    all_goals (conv => whnf)
                    all_goals (try (first | rfl | omega | (simp; done)))
                  conv => whnf
                  refine ⟨?_, True.intro⟩
                  intro _ _
                  conv => whnf
                  refine ⟨_, [2, 4], SL, ?_⟩
                  conv => whnf
                  refine ⟨?_, ?_, ?_⟩
                  · conv => whnf
                    repeat' (first | exact True.intro | rfl | refine And.intro ?_ ?_ | omega)
                    all_goals (conv => whnf)
                    all_goals (try (first | rfl | omega | (simp; done)))
                  · conv => whnf
                    repeat' (first | exact True.intro | rfl | refine And.intro ?_ ?_ | omega)
                    all_goals (conv => whnf)
                    all_goals (try (first | rfl | omega | (simp; done)))
                  conv => whnf
                  refine ⟨?_, True.intro⟩
                  intro _ _
                  conv => whnf
                  refine ⟨[0, 1, 2, 3, 4, 5], (), ?_, True.intro⟩
                  conv => whnf
                  repeat' (first | exact True.intro | rfl | refine And.intro ?_ ?_)
                  all_goals (conv => whnf)
                  repeat' (first | exact True.intro | rfl | refine And.intro ?_ ?_)
                  all_goals (try omega)
                · skip
                  refine And.intro ?_ ?_
                  · skip
                    refine ⟨_, [2, 4], SM, ?_⟩
                    conv => whnf
                    refine ⟨?_, ?_, ?_⟩
                    · conv => whnf
                      repeat' (first | exact True.intro | rfl | refine And.intro ?_ ?_ | omega)
                      all_goals (conv => whnf)
                      all_goals (try (first | rfl | omega | (simp; done)))
                    · conv => whnf
                      repeat' (first | exact True.intro | rfl | refine And.intro ?_ ?_ | omega)
                      all_goals (conv => whnf)
                      all_goals (try (first | rfl | omega | (simp; done)))
                    conv => whnf
                    refine ⟨?_, True.intro⟩
                    intro _ _
                    conv => whnf
                    refine ⟨_, [2, 4], SL, ?_⟩
                    conv => whnf
                    refine ⟨?_, ?_, ?_⟩
                    · conv => whnf
                      repeat' (first | exact True.intro | rfl | refine And.intro ?_ ?_ | omega)
                      all_goals (conv => whnf)
                      all_goals (try (first | rfl | omega | (simp; done)))
                    · conv => whnf
                      repeat' (first | exact True.intro | rfl | refine And.intro ?_ ?_ | omega)
                      all_goals (conv => whnf)
                      all_goals (try (first | rfl | omega | (simp; done)))
                    conv => whnf
                    refine ⟨?_, True.intro⟩
                    intro _ _
                    conv => whnf
                    refine ⟨[0, 1, 2, 3, 4, 5], (), ?_, True.intro⟩
                    conv => whnf
                    repeat' (first | exact True.intro | rfl | refine And.intro ?_ ?_)
                    all_goals (conv => whnf)
                    repeat' (first | exact True.intro | rfl | refine And.intro ?_ ?_)
                    all_goals (try omega)
                  · skip
                    exact True.intro
              · skip
                exact True.intro
        · skip
          refine And.intro ?_ ?_
          · skip
            refine And.intro ?_ ?_
            · skip
              refine And.intro ?_ ?_
              · skip
                refine And.intro ?_ ?_
                · skip
                  refine ⟨_, [2, 4], SM, ?_⟩
                  conv => whnf
                  refine ⟨?_, ?_, ?_⟩
                  · conv => whnf
                    repeat' (first | exact True.intro | rfl | refine And.intro ?_ ?_ | omega)
                    all_goals (conv => whnf)
                    all_goals (try (first | rfl | omega | (simp; done)))
                  · conv => whnf
                    repeat' (first | exact True.intro | rfl | refine And.intro ?_ ?_ | omega)
                    all_goals (conv => whnf)
                    all_goals (try (first | rfl | omega | (simp; done)))
                  conv => whnf
                  refine ⟨?_, True.intro⟩
                  intro _ _
                  conv => whnf
                  refine And.intro ?_ ?_
                  · skip
                    refine ⟨_, [2, 4], SL, ?_⟩
                    conv => whnf
                    refine ⟨?_, ?_, ?_⟩
                    · conv => whnf
                      repeat' (first | exact True.intro | rfl | refine And.intro ?_ ?_ | omega)
                      all_goals (conv => whnf)
                      all_goals (try (first | rfl | omega | (simp; done)))
                    · conv => whnf
                      repeat' (first | exact True.intro | rfl | refine And.intro ?_ ?_ | omega)
                      all_goals (conv => whnf)
                      all_goals (try (first | rfl | omega | (simp; done)))
                    conv => whnf
                    refine ⟨?_, True.intro⟩
                    intro _ _
                    conv => whnf
                    refine And.intro ?_ ?_
                    · skip
                      refine ⟨[0, 1, 2, 3, 4, 5], (), ?_, True.intro⟩
                      conv => whnf
                      repeat' (first | exact True.intro | rfl | refine And.intro ?_ ?_)
                      all_goals (conv => whnf)
                      repeat' (first | exact True.intro | rfl | refine And.intro ?_ ?_)
                      all_goals (try omega)
                    · skip
                      refine And.intro ?_ ?_
                      · skip
                        refine ⟨[0, 1, 2, 3, 4, 5], (), ?_, True.intro⟩
                        conv => whnf
                        repeat' (first | exact True.intro | rfl | refine And.intro ?_ ?_)
                        all_goals (conv => whnf)
                        repeat' (first | exact True.intro | rfl | refine And.intro ?_ ?_)
                        all_goals (try omega)
                      · skip
                        exact True.intro
                  · skip
                    refine And.intro ?_ ?_
                    · skip
                      refine ⟨_, [2, 4], SL, ?_⟩
                      conv => whnf
                      refine ⟨?_, ?_, ?_⟩
                      · conv => whnf
                        repeat' (first | exact True.intro | rfl | refine And.intro ?_ ?_ | omega)
                        all_goals (conv => whnf)
                        all_goals (try (first | rfl | omega | (simp; done)))
                      · conv => whnf
                        repeat' (first | exact True.intro | rfl | refine And.intro ?_ ?_ | omega)
                        all_goals (conv => whnf)
                        all_goals (try (first | rfl | omega | (simp; done)))
                      conv => whnf
                      refine ⟨?_, True.intro⟩
                      intro _ _
                      conv => whnf
                      refine ⟨[0, 1, 2, 3, 4, 5], (), ?_, True.intro⟩
                      conv => whnf
                      repeat' (first | exact True.intro | rfl | refine And.intro ?_ ?_)
                      all_goals (conv => whnf)
                      repeat' (first | exact True.intro | rfl | refine And.intro ?_ ?_)
                      all_goals (try omega)
                    · skip
                      exact True.intro
                · skip
                  refine And.intro ?_ ?_
                  · skip
                    refine ⟨_, [2, 4], SM, ?_⟩
                    conv => whnf
                    refine ⟨?_, ?_, ?_⟩
                    · conv => whnf
                      repeat' (first | exact True.intro | rfl | refine And.intro ?_ ?_ | omega)
                      all_goals (conv => whnf)
                      all_goals (try (first | rfl | omega | (simp; done)))
                    · conv => whnf
                      repeat' (first | exact True.intro | rfl | refine And.intro ?_ ?_ | omega)
                      all_goals (conv => whnf)
                      all_goals (try (first | rfl | omega | (simp; done)))
                    conv => whnf
                    refine ⟨?_, True.intro⟩
                    intro _ _
                    conv => whnf
                    refine ⟨_, [2, 4], SL, ?_⟩
                    conv => whnf
                    refine ⟨?_, ?_, ?_⟩
                    · conv => whnf
                      repeat' (first | exact True.intro | rfl | refine And.intro ?_ ?_ | omega)
                      all_goals (conv => whnf)
                      all_goals (try (first | rfl | omega | (simp; done)))
                    · conv => whnf
                      repeat' (first | exact True.intro | rfl | refine And.intro ?_ ?_ | omega)
                      all_goals (conv => whnf)
                      all_goals (try (first | rfl | omega | (simp; done)))
                    conv => whnf
                    refine ⟨?_, True.intro⟩
                    intro _ _
                    conv => whnf
                    refine ⟨[0, 1, 2, 3, 4, 5], (), ?_, True.intro⟩
                    conv => whnf
                    repeat' (first | exact True.intro | rfl | refine And.intro ?_ ?_)
                    all_goals (conv => whnf)
                    repeat' (first | exact True.intro | rfl | refine And.intro ?_ ?_)
                    all_goals (try omega)
                  · skip
                    exact True.intro
              · skip
                refine And.intro ?_ ?_
                · skip
                  refine ⟨_, [2, 4], SM, ?_⟩
                  conv => whnf
                  refine ⟨?_, ?_, ?_⟩
                  · conv => whnf
                    repeat' (first | exact True.intro | rfl | refine And.intro ?_ ?_ | omega)
                    all_goals (conv => whnf)
                    all_goals (try (first | rfl | omega | (simp; done)))
                  · conv => whnf
                    repeat' (first | exact True.intro | rfl | refine And.intro ?_ ?_ | omega)
                    all_goals (conv => whnf)
                    all_goals (try (first | rfl | omega | (simp; done)))
                  conv => whnf
                  refine ⟨?_, True.intro⟩
                  intro _ _
                  conv => whnf
                  refine ⟨_, [2, 4], SL, ?_⟩
                  conv => whnf
                  refine ⟨?_, ?_, ?_⟩
                  · conv => whnf
                    repeat' (first | exact True.intro | rfl | refine And.intro ?_ ?_ | omega)
                    all_goals (conv => whnf)
                    all_goals (try (first | rfl | omega | (simp; done)))
                  · conv => whnf
                    repeat' (first | exact True.intro | rfl | refine And.intro ?_ ?_ | omega)
                    all_goals (conv => whnf)
                    all_goals (try (first | rfl | omega | (simp; done)))
                  conv => whnf
                  refine ⟨?_, True.intro⟩
                  intro _ _
                  conv => whnf
                  refine ⟨[0, 1, 2, 3, 4, 5], (), ?_, True.intro⟩
                  conv => whnf
                  repeat' (first | exact True.intro | rfl | refine And.intro ?_ ?_)
                  all_goals (conv => whnf)
                  repeat' (first | exact True.intro | rfl | refine And.intro ?_ ?_)
                  all_goals (try omega)
                · skip
                  exact True.intro
            · skip
              refine And.intro ?_ ?_
              · skip
                refine ⟨_, [2, 4], SM, ?_⟩
                conv => whnf
                refine ⟨?_, ?_, ?_⟩
                · conv => whnf
                  repeat' (first | exact True.intro | rfl | refine And.intro ?_ ?_ | omega)
                  all_goals (conv => whnf)
                  all_goals (try (first | rfl | omega | (simp; done)))
                · conv => whnf
                  repeat' (first | exact True.intro | rfl | refine And.intro ?_ ?_ | omega)
                  all_goals (conv => whnf)
                  all_goals (try (first | rfl | omega | (simp; done)))
                conv => whnf
                refine ⟨?_, True.intro⟩
                intro _ _
                conv => whnf
                refine ⟨_, [2, 4], SL, ?_⟩
                conv => whnf
                refine ⟨?_, ?_, ?_⟩
                · conv => whnf
                  repeat' (first | exact True.intro | rfl | refine And.intro ?_ ?_ | omega)
                  all_goals (conv => whnf)
                  all_goals (try (first | rfl | omega | (simp; done)))
                · conv => whnf
                  repeat' (first | exact True.intro | rfl | refine And.intro ?_ ?_ | omega)
                  all_goals (conv => whnf)
                  all_goals (try (first | rfl | omega | (simp; done)))
                conv => whnf
                refine ⟨?_, True.intro⟩
                intro _ _
                conv => whnf
                refine ⟨[0, 1, 2, 3, 4, 5], (), ?_, True.intro⟩
                conv => whnf
                repeat' (first | exact True.intro | rfl | refine And.intro ?_ ?_)
                all_goals (conv => whnf)
                repeat' (first | exact True.intro | rfl | refine And.intro ?_ ?_)
                all_goals (try omega)
              · skip
                exact True.intro
          · skip
            refine And.intro ?_ ?_
            · skip
              refine And.intro ?_ ?_
              · skip
                refine ⟨_, [2, 4], SM, ?_⟩
                conv => whnf
                refine ⟨?_, ?_, ?_⟩
                · conv => whnf
                  repeat' (first | exact True.intro | rfl | refine And.intro ?_ ?_ | omega)
                  all_goals (conv => whnf)
                  all_goals (try (first | rfl | omega | (simp; done)))
                · conv => whnf
                  repeat' (first | exact True.intro | rfl | refine And.intro ?_ ?_ | omega)
                  all_goals (conv => whnf)
                  all_goals (try (first | rfl | omega | (simp; done)))
                conv => whnf
                refine ⟨?_, True.intro⟩
                intro _ _
                conv => whnf
                refine ⟨_, [2, 4], SL, ?_⟩
                conv => whnf
                refine ⟨?_, ?_, ?_⟩
                · conv => whnf
                  repeat' (first | exact True.intro | rfl | refine And.intro ?_ ?_ | omega)
                  all_goals (conv => whnf)
                  all_goals (try (first | rfl | omega | (simp; done)))
                · conv => whnf
                  repeat' (first | exact True.intro | rfl | refine And.intro ?_ ?_ | omega)
                  all_goals (conv => whnf)
                  all_goals (try (first | rfl | omega | (simp; done)))
                conv => whnf
                refine ⟨?_, True.intro⟩
                intro _ _
                conv => whnf
                refine ⟨[0, 1, 2, 3, 4, 5], (), ?_, True.intro⟩
                conv => whnf
                repeat' (first | exact True.intro | rfl | refine And.intro ?_ ?_)
                all_goals (conv => whnf)
                repeat' (first | exact True.intro | rfl | refine And.intro ?_ ?_)
                all_goals (try omega)
              · skip
                refine And.intro ?_ ?_
                · skip
                  refine ⟨_, [2, 4], SM, ?_⟩
                  conv => whnf
                  refine ⟨?_, ?_, ?_⟩
                  · conv => whnf
                    repeat' (first | exact True.intro | rfl | refine And.intro ?_ ?_ | omega)
                    all_goals (conv => whnf)
                    all_goals (try (first | rfl | omega | (simp; done)))
                  · conv => whnf
                    repeat' (first | exact True.intro | rfl | refine And.intro ?_ ?_ | omega)
                    all_goals (conv => whnf)
                    all_goals (try (first | rfl | omega | (simp; done)))
                  conv => whnf
                  refine ⟨?_, True.intro⟩
                  intro _ _
                  conv => whnf
                  refine ⟨_, [2, 4], SL, ?_⟩
                  conv => whnf
                  refine ⟨?_, ?_, ?_⟩
                  · conv => whnf
                    repeat' (first | exact True.intro | rfl | refine And.intro ?_ ?_ | omega)
                    all_goals (conv => whnf)
                    all_goals (try (first | rfl | omega | (simp; done)))
                  · conv => whnf
                    repeat' (first | exact True.intro | rfl | refine And.intro ?_ ?_ | omega)
                    all_goals (conv => whnf)
                    all_goals (try (first | rfl | omega | (simp; done)))
                  conv => whnf
                  refine ⟨?_, True.intro⟩
                  intro _ _
                  conv => whnf
                  refine ⟨[0, 1, 2, 3, 4, 5], (), ?_, True.intro⟩
                  conv => whnf
                  repeat' (first | exact True.intro | rfl | refine And.intro ?_ ?_)
                  all_goals (conv => whnf)
                  repeat' (first | exact True.intro | rfl | refine And.intro ?_ ?_)
                  all_goals (try omega)
                · skip
                  exact True.intro
            · skip
              exact True.intro
      · skip
        refine And.intro ?_ ?_
        · skip
          refine And.intro ?_ ?_
          · skip
            refine ⟨_, [2, 4], SM, ?_⟩
            conv => whnf
            refine ⟨?_, ?_, ?_⟩
            · conv => whnf
              repeat' (first | exact True.intro | rfl | refine And.intro ?_ ?_ | omega)
              all_goals (conv => whnf)
              all_goals (try (first | rfl | omega | (simp; done)))
            · conv => whnf
              repeat' (first | exact True.intro | rfl | refine And.intro ?_ ?_ | omega)
              all_goals (conv => whnf)
              all_goals (try (first | rfl | omega | (simp; done)))
            conv => whnf
            refine ⟨?_, True.intro⟩
            intro _ _
            conv => whnf
            refine ⟨_, [2, 4], SL, ?_⟩
            conv => whnf
            refine ⟨?_, ?_, ?_⟩
            · conv => whnf
              repeat' (first | exact True.intro | rfl | refine And.intro ?_ ?_ | omega)
              all_goals (conv => whnf)
              all_goals (try (first | rfl | omega | (simp; done)))
            · conv => whnf
              repeat' (first | exact True.intro | rfl | refine And.intro ?_ ?_ | omega)
              all_goals (conv => whnf)
              all_goals (try (first | rfl | omega | (simp; done)))
            conv => whnf
            refine ⟨?_, True.intro⟩
            intro _ _
            conv => whnf
            refine ⟨[0, 1, 2, 3, 4, 5], (), ?_, True.intro⟩
            conv => whnf
            repeat' (first | exact True.intro | rfl | refine And.intro ?_ ?_)
            all_goals (conv => whnf)
            repeat' (first | exact True.intro | rfl | refine And.intro ?_ ?_)
            all_goals (try omega)
          · skip
            refine And.intro ?_ ?_
            · skip
              refine And.intro ?_ ?_
              · skip
                refine ⟨_, [2, 4], SM, ?_⟩
                conv => whnf
                refine ⟨?_, ?_, ?_⟩
                · conv => whnf
                  repeat' (first | exact True.intro | rfl | refine And.intro ?_ ?_ | omega)
                  all_goals (conv => whnf)
                  all_goals (try (first | rfl | omega | (simp; done)))
                · conv => whnf
                  repeat' (first | exact True.intro | rfl | refine And.intro ?_ ?_ | omega)
                  all_goals (conv => whnf)
                  all_goals (try (first | rfl | omega | (simp; done)))
                conv => whnf
                refine ⟨?_, True.intro⟩
                intro _ _
                conv => whnf
                refine ⟨_, [2, 4], SL, ?_⟩
                conv => whnf
                refine ⟨?_, ?_, ?_⟩
                · conv => whnf
                  repeat' (first | exact True.intro | rfl | refine And.intro ?_ ?_ | omega)
                  all_goals (conv => whnf)
                  all_goals (try (first | rfl | omega | (simp; done)))
                · conv => whnf
                  repeat' (first | exact True.intro | rfl | refine And.intro ?_ ?_ | omega)
                  all_goals (conv => whnf)
                  all_goals (try (first | rfl | omega | (simp; done)))
                conv => whnf
                refine ⟨?_, True.intro⟩
                intro _ _
                conv => whnf
                refine ⟨[0, 1, 2, 3, 4, 5], (), ?_, True.intro⟩
                conv => whnf
                repeat' (first | exact True.intro | rfl | refine And.intro ?_ ?_)
                all_goals (conv => whnf)
                repeat' (first | exact True.intro | rfl | refine And.intro ?_ ?_)
                all_goals (try omega)
              · skip
                refine And.intro ?_ ?_
                · skip
                  refine ⟨_, [2, 4], SM, ?_⟩
                  conv => whnf
                  refine ⟨?_, ?_, ?_⟩
                  · conv => whnf
                    repeat' (first | exact True.intro | rfl | refine And.intro ?_ ?_ | omega)
                    all_goals (conv => whnf)
                    all_goals (try (first | rfl | omega | (simp; done)))
                  · conv => whnf
                    repeat' (first | exact True.intro | rfl | refine And.intro ?_ ?_ | omega)
                    all_goals (conv => whnf)
                    all_goals (try (first | rfl | omega | (simp; done)))
                  conv => whnf
                  refine ⟨?_, True.intro⟩
                  intro _ _
                  conv => whnf
                  refine ⟨_, [2, 4], SL, ?_⟩
                  conv => whnf
                  refine ⟨?_, ?_, ?_⟩
                  · conv => whnf
                    repeat' (first | exact True.intro | rfl | refine And.intro ?_ ?_ | omega)
                    all_goals (conv => whnf)
                    all_goals (try (first | rfl | omega | (simp; done)))
                  · conv => whnf
                    repeat' (first | exact True.intro | rfl | refine And.intro ?_ ?_ | omega)
                    all_goals (conv => whnf)
                    all_goals (try (first | rfl | omega | (simp; done)))
                  conv => whnf
                  refine ⟨?_, True.intro⟩
                  intro _ _
                  conv => whnf
                  refine ⟨[0, 1, 2, 3, 4, 5], (), ?_, True.intro⟩
                  conv => whnf
                  repeat' (first | exact True.intro | rfl | refine And.intro ?_ ?_)
                  all_goals (conv => whnf)
                  repeat' (first | exact True.intro | rfl | refine And.intro ?_ ?_)
                  all_goals (try omega)
                · skip
                  exact True.intro
            · skip
              exact True.intro
        · skip
          exact True.intro
  · rintro ⟨⟩ _
    show forceSt (st4 m a b l y B n ca 0 ((true && okS m y) && okS l y)) _
    conv => whnf
    refine ⟨⟨[0, 1, 2, 3, 4, 5], (0 : Nat), ?_, Nat.zero_le _⟩, ?_⟩
    · show stLe _ _ (st5 m a b l y B n ca 0) _
      rw [wk0]
      conv => whnf
      repeat' (first | exact True.intro | rfl | refine And.intro ?_ ?_)
      all_goals (conv => whnf)
      repeat' (first | exact True.intro | rfl | refine And.intro ?_ ?_)
      all_goals (try omega)
    · intro (k : Nat) (hk : k ≤ 2)
      show forceSt (st5 m a b l y B n ca k) _
      rcases (show k = 0 ∨ k = 1 ∨ k = 2 by omega) with h | h | h <;> subst h
      · skip
        have S1 := SA (wk m a b l y 0)
        rw [wk1] at S1
        conv => whnf
        repeat (first
          | (refine And.intro ?_ ?_; (focus (first | omega | decide | exact Int.natCast_nonneg _ | ((repeat' refine And.intro ?_ ?_) <;> first | omega | exact Int.natCast_nonneg _ | (simp only [i64max]; omega) | (simp only [u8max]; omega) | (simp only [i64max, u8max, u16max, u32max, u64max]; omega) | (simp [mulSz, Cont.len, bne]; done) | (simp [mulSz, Cont.len, bne]; omega)))); conv => whnf)
          | (refine tst_in ?_ ?_; (focus (intro h_; exfalso; first | omega | ((try simp only [decide_eq_true_eq, decide_eq_false_iff_not] at h_); omega) | (simp [mulSz, Cont.len, bne] at h_; done) | (simp [mulSz, Cont.len, bne] at h_; omega))); intro _; conv => whnf)
          | (refine tst_in ?_ ?_; rotate_left; (focus (intro h_; exfalso; first | omega | ((try simp only [decide_eq_true_eq, decide_eq_false_iff_not] at h_); omega) | (simp [mulSz, Cont.len, bne] at h_; done) | (simp [mulSz, Cont.len, bne] at h_; omega))); intro _; conv => whnf))
        refine ⟨_, [2, 4], S1, ?_⟩
        conv => whnf
        refine ⟨?_, ?_, ?_⟩
        · conv => whnf
          repeat' (first | exact True.intro | rfl | refine And.intro ?_ ?_ | omega)
          all_goals (conv => whnf)
          all_goals (try (first | rfl | omega | (simp; done)))
        · conv => whnf
          repeat' (first | exact True.intro | rfl | refine And.intro ?_ ?_ | omega)
          all_goals (conv => whnf)
          all_goals (try (first | rfl | omega | (simp; done)))
        conv => whnf
        refine ⟨?_, True.intro⟩
        intro _ _
        conv => whnf
        conv => whnf
        repeat (first
          | (refine And.intro ?_ ?_; (focus (first | omega | decide | exact Int.natCast_nonneg _ | ((repeat' refine And.intro ?_ ?_) <;> first | omega | exact Int.natCast_nonneg _ | (simp only [i64max]; omega) | (simp only [u8max]; omega) | (simp only [i64max, u8max, u16max, u32max, u64max]; omega) | (simp [mulSz, Cont.len, bne]; done) | (simp [mulSz, Cont.len, bne]; omega)))); conv => whnf)
          | (refine tst_in ?_ ?_; (focus (intro h_; exfalso; first | omega | ((try simp only [decide_eq_true_eq, decide_eq_false_iff_not] at h_); omega) | (simp [mulSz, Cont.len, bne] at h_; done) | (simp [mulSz, Cont.len, bne] at h_; omega))); intro _; conv => whnf)
          | (refine tst_in ?_ ?_; rotate_left; (focus (intro h_; exfalso; first | omega | ((try simp only [decide_eq_true_eq, decide_eq_false_iff_not] at h_); omega) | (simp [mulSz, Cont.len, bne] at h_; done) | (simp [mulSz, Cont.len, bne] at h_; omega))); intro _; conv => whnf))
        refine ⟨[0, 1, 2, 3, 4, 5], (1 : Nat), ?_, (by show 1 ≤ 2; omega), (by show 2 - 1 < 2 - 0; omega)⟩
        show stLe _ _ (st5 m a b l y B n ca 1) _
        conv => whnf
        repeat' (first | exact True.intro | rfl | refine And.intro ?_ ?_)
        all_goals (conv => whnf)
        repeat' (first | exact True.intro | rfl | refine And.intro ?_ ?_)
        all_goals (try omega)
      · skip
        have S1 := SB (wk m a b l y 1)
        rw [wk2] at S1
        conv => whnf
        repeat (first
          | (refine And.intro ?_ ?_; (focus (first | omega | decide | exact Int.natCast_nonneg _ | ((repeat' refine And.intro ?_ ?_) <;> first | omega | exact Int.natCast_nonneg _ | (simp only [i64max]; omega) | (simp only [u8max]; omega) | (simp only [i64max, u8max, u16max, u32max, u64max]; omega) | (simp [mulSz, Cont.len, bne]; done) | (simp [mulSz, Cont.len, bne]; omega)))); conv => whnf)
          | (refine tst_in ?_ ?_; (focus (intro h_; exfalso; first | omega | ((try simp only [decide_eq_true_eq, decide_eq_false_iff_not] at h_); omega) | (simp [mulSz, Cont.len, bne] at h_; done) | (simp [mulSz, Cont.len, bne] at h_; omega))); intro _; conv => whnf)
          | (refine tst_in ?_ ?_; rotate_left; (focus (intro h_; exfalso; first | omega | ((try simp only [decide_eq_true_eq, decide_eq_false_iff_not] at h_); omega) | (simp [mulSz, Cont.len, bne] at h_; done) | (simp [mulSz, Cont.len, bne] at h_; omega))); intro _; conv => whnf))
        refine ⟨_, [2, 4], S1, ?_⟩
        conv => whnf
        refine ⟨?_, ?_, ?_⟩
        · conv => whnf
          repeat' (first | exact True.intro | rfl | refine And.intro ?_ ?_ | omega)
          all_goals (conv => whnf)
          all_goals (try (first | rfl | omega | (simp; done)))
        · conv => whnf
          repeat' (first | exact True.intro | rfl | refine And.intro ?_ ?_ | omega)
          all_goals (conv => whnf)
          all_goals (try (first | rfl | omega | (simp; done)))
        conv => whnf
        refine ⟨?_, True.intro⟩
        intro _ _
        conv => whnf
        conv => whnf
        repeat (first
          | (refine And.intro ?_ ?_; (focus (first | omega | decide | exact Int.natCast_nonneg _ | ((repeat' refine And.intro ?_ ?_) <;> first | omega | exact Int.natCast_nonneg _ | (simp only [i64max]; omega) | (simp only [u8max]; omega) | (simp only [i64max, u8max, u16max, u32max, u64max]; omega) | (simp [mulSz, Cont.len, bne]; done) | (simp [mulSz, Cont.len, bne]; omega)))); conv => whnf)
          | (refine tst_in ?_ ?_; (focus (intro h_; exfalso; first | omega | ((try simp only [decide_eq_true_eq, decide_eq_false_iff_not] at h_); omega) | (simp [mulSz, Cont.len, bne] at h_; done) | (simp [mulSz, Cont.len, bne] at h_; omega))); intro _; conv => whnf)
          | (refine tst_in ?_ ?_; rotate_left; (focus (intro h_; exfalso; first | omega | ((try simp only [decide_eq_true_eq, decide_eq_false_iff_not] at h_); omega) | (simp [mulSz, Cont.len, bne] at h_; done) | (simp [mulSz, Cont.len, bne] at h_; omega))); intro _; conv => whnf))
        refine ⟨[0, 1, 2, 3, 4, 5], (2 : Nat), ?_, (by show 2 ≤ 2; omega), (by show 2 - 2 < 2 - 1; omega)⟩
        show stLe _ _ (st5 m a b l y B n ca 2) _
        conv => whnf
        repeat' (first | exact True.intro | rfl | refine And.intro ?_ ?_)
        all_goals (conv => whnf)
        repeat' (first | exact True.intro | rfl | refine And.intro ?_ ?_)
        all_goals (try omega)
      · skip
        conv => whnf
        repeat (first
          | (refine And.intro ?_ ?_; (focus (first | omega | decide | exact Int.natCast_nonneg _ | ((repeat' refine And.intro ?_ ?_) <;> first | omega | exact Int.natCast_nonneg _ | (simp only [i64max]; omega) | (simp only [u8max]; omega) | (simp only [i64max, u8max, u16max, u32max, u64max]; omega) | (simp [mulSz, Cont.len, bne]; done) | (simp [mulSz, Cont.len, bne]; omega)))); conv => whnf)
          | (refine tst_in ?_ ?_; (focus (intro h_; exfalso; first | omega | ((try simp only [decide_eq_true_eq, decide_eq_false_iff_not] at h_); omega) | (simp [mulSz, Cont.len, bne] at h_; done) | (simp [mulSz, Cont.len, bne] at h_; omega))); intro _; conv => whnf)
          | (refine tst_in ?_ ?_; rotate_left; (focus (intro h_; exfalso; first | omega | ((try simp only [decide_eq_true_eq, decide_eq_false_iff_not] at h_); omega) | (simp [mulSz, Cont.len, bne] at h_; done) | (simp [mulSz, Cont.len, bne] at h_; omega))); intro _; conv => whnf))
        refine ⟨⟨[0, 1, 2, 3, 4, 5, 6], ((0, []) : Nat × List Int), ?_, Nat.zero_le _⟩, ?_⟩
        · show stLe _ _ (st10 m a b l y B F n ca 0 []) _
          unfold st10
          rw [show (wk m a b l y 2 && ab F y 0) = wk m a b l y 2 from Bool.and_true _]
          conv => whnf
          repeat' (first | exact True.intro | rfl | refine And.intro ?_ ?_)
          all_goals (conv => whnf)
          repeat' (first | exact True.intro | rfl | refine And.intro ?_ ?_)
          all_goals (try omega)
        · rintro ⟨k, tl⟩ hk
          have hk : k ≤ n := hk
          show forceSt (st10 m a b l y B F n ca k tl) _
          conv => whnf
          refine tst_in (fun hlt => ?_) (fun hge => ?_)
          · skip
            have hlt : k < n := by simp at hlt; omega
            have hX : 0 + ((k : Int)).toNat = k := by omega
            have hv := hF k hlt
            have SC := sh_f (F k) y (wk m a b l y 2 && ab F y k) hv.2 hy
            have hlen := app_len (fun i => shv (F i) y) k tl
            conv => whnf
            repeat (first
              | (refine And.intro ?_ ?_; (focus (first | omega | decide | exact Int.natCast_nonneg _ | ((repeat' refine And.intro ?_ ?_) <;> first | omega | exact Int.natCast_nonneg _ | (simp only [i64max]; omega) | (simp only [u8max]; omega) | (simp only [i64max, u8max, u16max, u32max, u64max]; omega) | (simp [mulSz, Cont.len, bne]; done) | (simp [mulSz, Cont.len, bne]; omega)))); conv => whnf)
              | (refine tst_in ?_ ?_; (focus (intro h_; exfalso; first | omega | ((try simp only [decide_eq_true_eq, decide_eq_false_iff_not] at h_); omega) | (simp [mulSz, Cont.len, bne] at h_; done) | (simp [mulSz, Cont.len, bne] at h_; omega))); intro _; conv => whnf)
              | (refine tst_in ?_ ?_; rotate_left; (focus (intro h_; exfalso; first | omega | ((try simp only [decide_eq_true_eq, decide_eq_false_iff_not] at h_); omega) | (simp [mulSz, Cont.len, bne] at h_; done) | (simp [mulSz, Cont.len, bne] at h_; omega))); intro _; conv => whnf))
            rw [hX, hv.1]
            conv => whnf
            repeat (first
              | (refine And.intro ?_ ?_; (focus (first | omega | decide | exact Int.natCast_nonneg _ | ((repeat' refine And.intro ?_ ?_) <;> first | omega | exact Int.natCast_nonneg _ | (simp only [i64max]; omega) | (simp only [u8max]; omega) | (simp only [i64max, u8max, u16max, u32max, u64max]; omega) | (simp [mulSz, Cont.len, bne]; done) | (simp [mulSz, Cont.len, bne]; omega)))); conv => whnf)
              | (refine tst_in ?_ ?_; (focus (intro h_; exfalso; first | omega | ((try simp only [decide_eq_true_eq, decide_eq_false_iff_not] at h_); omega) | (simp [mulSz, Cont.len, bne] at h_; done) | (simp [mulSz, Cont.len, bne] at h_; omega))); intro _; conv => whnf)
              | (refine tst_in ?_ ?_; rotate_left; (focus (intro h_; exfalso; first | omega | ((try simp only [decide_eq_true_eq, decide_eq_false_iff_not] at h_); omega) | (simp [mulSz, Cont.len, bne] at h_; done) | (simp [mulSz, Cont.len, bne] at h_; omega))); intro _; conv => whnf))
            refine And.intro ?_ ?_
            · skip
              refine And.intro ?_ ?_
              · skip
                refine ⟨_, [2, 4], SC, ?_⟩
                conv => whnf
                refine ⟨?_, ?_, ?_⟩
                · conv => whnf
                  repeat' (first | exact True.intro | rfl | refine And.intro ?_ ?_ | omega)
                  all_goals (conv => whnf)
                  all_goals (try (first | rfl | omega | (simp; done)))
                · conv => whnf
                  repeat' (first | exact True.intro | rfl | refine And.intro ?_ ?_ | omega)
                  all_goals (conv => whnf)
                  all_goals (try (first | rfl | omega | (simp; done)))
                conv => whnf
                refine ⟨?_, True.intro⟩
                intro _ _
                conv => whnf
                conv => whnf
                repeat (first
                  | (refine And.intro ?_ ?_; (focus (first | omega | decide | exact Int.natCast_nonneg _ | ((repeat' refine And.intro ?_ ?_) <;> first | omega | exact Int.natCast_nonneg _ | (simp only [i64max]; omega) | (simp only [u8max]; omega) | (simp only [i64max, u8max, u16max, u32max, u64max]; omega) | (simp [mulSz, Cont.len, bne, hlen]; done) | (simp [mulSz, Cont.len, bne, hlen]; omega)))); conv => whnf)
                  | (refine tst_in ?_ ?_; (focus (intro h_; exfalso; first | omega | ((try simp only [decide_eq_true_eq, decide_eq_false_iff_not] at h_); omega) | (simp [mulSz, Cont.len, bne, hlen] at h_; done) | (simp [mulSz, Cont.len, bne, hlen] at h_; omega))); intro _; conv => whnf)
                  | (refine tst_in ?_ ?_; rotate_left; (focus (intro h_; exfalso; first | omega | ((try simp only [decide_eq_true_eq, decide_eq_false_iff_not] at h_); omega) | (simp [mulSz, Cont.len, bne, hlen] at h_; done) | (simp [mulSz, Cont.len, bne, hlen] at h_; omega))); intro _; conv => whnf))
                intro (tl2 : List Int)
                conv => whnf
                repeat (first
                  | (refine And.intro ?_ ?_; (focus (first | omega | decide | exact Int.natCast_nonneg _ | ((repeat' refine And.intro ?_ ?_) <;> first | omega | exact Int.natCast_nonneg _ | (simp only [i64max]; omega) | (simp only [u8max]; omega) | (simp only [i64max, u8max, u16max, u32max, u64max]; omega) | (simp [mulSz, Cont.len, bne]; done) | (simp [mulSz, Cont.len, bne]; omega)))); conv => whnf)
                  | (refine tst_in ?_ ?_; (focus (intro h_; exfalso; first | omega | ((try simp only [decide_eq_true_eq, decide_eq_false_iff_not] at h_); omega) | (simp [mulSz, Cont.len, bne] at h_; done) | (simp [mulSz, Cont.len, bne] at h_; omega))); intro _; conv => whnf)
                  | (refine tst_in ?_ ?_; rotate_left; (focus (intro h_; exfalso; first | omega | ((try simp only [decide_eq_true_eq, decide_eq_false_iff_not] at h_); omega) | (simp [mulSz, Cont.len, bne] at h_; done) | (simp [mulSz, Cont.len, bne] at h_; omega))); intro _; conv => whnf))
                refine ⟨[0, 1, 2, 3, 4, 5, 8], ((k + 1, tl2) : Nat × List Int), ?_, (by show k + 1 ≤ n; omega), (by show n - (k + 1) < n - k; omega)⟩
                show stLe _ _ (st10 m a b l y B F n ca (k + 1) tl2) _
                unfold st10
                rw [show (wk m a b l y 2 && ab F y (k + 1)) = (wk m a b l y 2 && ab F y k && okS (F k) y) from (Bool.and_assoc _ _ _).symm]
                conv => whnf
                repeat' (first | exact True.intro | rfl | refine And.intro ?_ ?_)
                all_goals (conv => whnf)
                repeat' (first | exact True.intro | rfl | refine And.intro ?_ ?_)
                all_goals (try omega)
                · skip
                  show tab (fun i => shv (F i) y) (k + 1) ++ tl2 = List.take k (List.drop 0 (tab (fun i => shv (F i) y) k ++ tl)) ++ List.take 1 (List.drop 0 [shv (F k) y]) ++ tl2
                  rw [List.drop_zero, take_tab _ _ (Nat.le_refl k), ← tab_snoc]; rfl
              · skip
                refine And.intro ?_ ?_
                · skip
                  refine ⟨_, [2, 4], SC, ?_⟩
                  conv => whnf
                  refine ⟨?_, ?_, ?_⟩
                  · conv => whnf
                    repeat' (first | exact True.intro | rfl | refine And.intro ?_ ?_ | omega)
                    all_goals (conv => whnf)
                    all_goals (try (first | rfl | omega | (simp; done)))
                  · conv => whnf
                    repeat' (first | exact True.intro | rfl | refine And.intro ?_ ?_ | omega)
                    all_goals (conv => whnf)
                    all_goals (try (first | rfl | omega | (simp; done)))
                  conv => whnf
                  refine ⟨?_, True.intro⟩
                  intro _ _
                  conv => whnf
                  refine And.intro ?_ ?_
                  · skip
                    conv => whnf
                    repeat (first
                      | (refine And.intro ?_ ?_; (focus (first | omega | decide | exact Int.natCast_nonneg _ | ((repeat' refine And.intro ?_ ?_) <;> first | omega | exact Int.natCast_nonneg _ | (simp only [i64max]; omega) | (simp only [u8max]; omega) | (simp only [i64max, u8max, u16max, u32max, u64max]; omega) | (simp [mulSz, Cont.len, bne, hlen]; done) | (simp [mulSz, Cont.len, bne, hlen]; omega)))); conv => whnf)
                      | (refine tst_in ?_ ?_; (focus (intro h_; exfalso; first | omega | ((try simp only [decide_eq_true_eq, decide_eq_false_iff_not] at h_); omega) | (simp [mulSz, Cont.len, bne, hlen] at h_; done) | (simp [mulSz, Cont.len, bne, hlen] at h_; omega))); intro _; conv => whnf)
                      | (refine tst_in ?_ ?_; rotate_left; (focus (intro h_; exfalso; first | omega | ((try simp only [decide_eq_true_eq, decide_eq_false_iff_not] at h_); omega) | (simp [mulSz, Cont.len, bne, hlen] at h_; done) | (simp [mulSz, Cont.len, bne, hlen] at h_; omega))); intro _; conv => whnf))
                    intro (tl2 : List Int)
                    conv => whnf
                    repeat (first
                      | (refine And.intro ?_ ?_; (focus (first | omega | decide | exact Int.natCast_nonneg _ | ((repeat' refine And.intro ?_ ?_) <;> first | omega | exact Int.natCast_nonneg _ | (simp only [i64max]; omega) | (simp only [u8max]; omega) | (simp only [i64max, u8max, u16max, u32max, u64max]; omega) | (simp [mulSz, Cont.len, bne]; done) | (simp [mulSz, Cont.len, bne]; omega)))); conv => whnf)
                      | (refine tst_in ?_ ?_; (focus (intro h_; exfalso; first | omega | ((try simp only [decide_eq_true_eq, decide_eq_false_iff_not] at h_); omega) | (simp [mulSz, Cont.len, bne] at h_; done) | (simp [mulSz, Cont.len, bne] at h_; omega))); intro _; conv => whnf)
                      | (refine tst_in ?_ ?_; rotate_left; (focus (intro h_; exfalso; first | omega | ((try simp only [decide_eq_true_eq, decide_eq_false_iff_not] at h_); omega) | (simp [mulSz, Cont.len, bne] at h_; done) | (simp [mulSz, Cont.len, bne] at h_; omega))); intro _; conv => whnf))
                    refine ⟨[0, 1, 2, 3, 4, 5, 8], ((k + 1, tl2) : Nat × List Int), ?_, (by show k + 1 ≤ n; omega), (by show n - (k + 1) < n - k; omega)⟩
                    show stLe _ _ (st10 m a b l y B F n ca (k + 1) tl2) _
                    unfold st10
                    rw [show (wk m a b l y 2 && ab F y (k + 1)) = (wk m a b l y 2 && ab F y k && okS (F k) y) from (Bool.and_assoc _ _ _).symm]
                    conv => whnf
                    repeat' (first | exact True.intro | rfl | refine And.intro ?_ ?_)
                    all_goals (conv => whnf)
                    repeat' (first | exact True.intro | rfl | refine And.intro ?_ ?_)
                    all_goals (try omega)
                    · skip
                      show tab (fun i => shv (F i) y) (k + 1) ++ tl2 = List.take k (List.drop 0 (tab (fun i => shv (F i) y) k ++ tl)) ++ List.take 1 (List.drop 0 [shv (F k) y]) ++ tl2
                      rw [List.drop_zero, take_tab _ _ (Nat.le_refl k), ← tab_snoc]; rfl
                  · skip
                    refine And.intro ?_ ?_
                    · skip
                      conv => whnf
                      repeat (first
                        | (refine And.intro ?_ ?_; (focus (first | omega | decide | exact Int.natCast_nonneg _ | ((repeat' refine And.intro ?_ ?_) <;> first | omega | exact Int.natCast_nonneg _ | (simp only [i64max]; omega) | (simp only [u8max]; omega) | (simp only [i64max, u8max, u16max, u32max, u64max]; omega) | (simp [mulSz, Cont.len, bne, hlen]; done) | (simp [mulSz, Cont.len, bne, hlen]; omega)))); conv => whnf)
                        | (refine tst_in ?_ ?_; (focus (intro h_; exfalso; first | omega | ((try simp only [decide_eq_true_eq, decide_eq_false_iff_not] at h_); omega) | (simp [mulSz, Cont.len, bne, hlen] at h_; done) | (simp [mulSz, Cont.len, bne, hlen] at h_; omega))); intro _; conv => whnf)
                        | (refine tst_in ?_ ?_; rotate_left; (focus (intro h_; exfalso; first | omega | ((try simp only [decide_eq_true_eq, decide_eq_false_iff_not] at h_); omega) | (simp [mulSz, Cont.len, bne, hlen] at h_; done) | (simp [mulSz, Cont.len, bne, hlen] at h_; omega))); intro _; conv => whnf))
                      intro (tl2 : List Int)
                      conv => whnf
                      repeat (first
                        | (refine And.intro ?_ ?_; (focus (first | omega | decide | exact Int.natCast_nonneg _ | ((repeat' refine And.intro ?_ ?_) <;> first | omega | exact Int.natCast_nonneg _ | (simp only [i64max]; omega) | (simp only [u8max]; omega) | (simp only [i64max, u8max, u16max, u32max, u64max]; omega) | (simp [mulSz, Cont.len, bne]; done) | (simp [mulSz, Cont.len, bne]; omega)))); conv => whnf)
                        | (refine tst_in ?_ ?_; (focus (intro h_; exfalso; first | omega | ((try simp only [decide_eq_true_eq, decide_eq_false_iff_not] at h_); omega) | (simp [mulSz, Cont.len, bne] at h_; done) | (simp [mulSz, Cont.len, bne] at h_; omega))); intro _; conv => whnf)
                        | (refine tst_in ?_ ?_; rotate_left; (focus (intro h_; exfalso; first | omega | ((try simp only [decide_eq_true_eq, decide_eq_false_iff_not] at h_); omega) | (simp [mulSz, Cont.len, bne] at h_; done) | (simp [mulSz, Cont.len, bne] at h_; omega))); intro _; conv => whnf))
                      refine ⟨[0, 1, 2, 3, 4, 5, 8], ((k + 1, tl2) : Nat × List Int), ?_, (by show k + 1 ≤ n; omega), (by show n - (k + 1) < n - k; omega)⟩
                      show stLe _ _ (st10 m a b l y B F n ca (k + 1) tl2) _
                      unfold st10
                      rw [show (wk m a b l y 2 && ab F y (k + 1)) = (wk m a b l y 2 && ab F y k && okS (F k) y) from (Bool.and_assoc _ _ _).symm]
                      conv => whnf
                      repeat' (first | exact True.intro | rfl | refine And.intro ?_ ?_)
                      all_goals (conv => whnf)
                      repeat' (first | exact True.intro | rfl | refine And.intro ?_ ?_)
                      all_goals (try omega)
                      · skip
                        show tab (fun i => shv (F i) y) (k + 1) ++ tl2 = List.take k (List.drop 0 (tab (fun i => shv (F i) y) k ++ tl)) ++ List.take 1 (List.drop 0 [shv (F k) y]) ++ tl2
                        rw [List.drop_zero, take_tab _ _ (Nat.le_refl k), ← tab_snoc]; rfl
                    · skip
                      exact True.intro
                · skip
                  exact True.intro
            · skip
              refine And.intro ?_ ?_
              · skip
                refine ⟨_, [2, 4], SC, ?_⟩
                conv => whnf
                refine ⟨?_, ?_, ?_⟩
                · conv => whnf
                  repeat' (first | exact True.intro | rfl | refine And.intro ?_ ?_ | omega)
                  all_goals (conv => whnf)
                  all_goals (try (first | rfl | omega | (simp; done)))
                · conv => whnf
                  repeat' (first | exact True.intro | rfl | refine And.intro ?_ ?_ | omega)
                  all_goals (conv => whnf)
                  all_goals (try (first | rfl | omega | (simp; done)))
                conv => whnf
                refine ⟨?_, True.intro⟩
                intro _ _
                conv => whnf
                refine And.intro ?_ ?_
                · skip
                  refine And.intro ?_ ?_
                  · skip
                    conv => whnf
                    repeat (first
                      | (refine And.intro ?_ ?_; (focus (first | omega | decide | exact Int.natCast_nonneg _ | ((repeat' refine And.intro ?_ ?_) <;> first | omega | exact Int.natCast_nonneg _ | (simp only [i64max]; omega) | (simp only [u8max]; omega) | (simp only [i64max, u8max, u16max, u32max, u64max]; omega) | (simp [mulSz, Cont.len, bne, hlen]; done) | (simp [mulSz, Cont.len, bne, hlen]; omega)))); conv => whnf)
                      | (refine tst_in ?_ ?_; (focus (intro h_; exfalso; first | omega | ((try simp only [decide_eq_true_eq, decide_eq_false_iff_not] at h_); omega) | (simp [mulSz, Cont.len, bne, hlen] at h_; done) | (simp [mulSz, Cont.len, bne, hlen] at h_; omega))); intro _; conv => whnf)
                      | (refine tst_in ?_ ?_; rotate_left; (focus (intro h_; exfalso; first | omega | ((try simp only [decide_eq_true_eq, decide_eq_false_iff_not] at h_); omega) | (simp [mulSz, Cont.len, bne, hlen] at h_; done) | (simp [mulSz, Cont.len, bne, hlen] at h_; omega))); intro _; conv => whnf))
                    intro (tl2 : List Int)
                    conv => whnf
                    repeat (first
                      | (refine And.intro ?_ ?_; (focus (first | omega | decide | exact Int.natCast_nonneg _ | ((repeat' refine And.intro ?_ ?_) <;> first | omega | exact Int.natCast_nonneg _ | (simp only [i64max]; omega) | (simp only [u8max]; omega) | (simp only [i64max, u8max, u16max, u32max, u64max]; omega) | (simp [mulSz, Cont.len, bne]; done) | (simp [mulSz, Cont.len, bne]; omega)))); conv => whnf)
                      | (refine tst_in ?_ ?_; (focus (intro h_; exfalso; first | omega | ((try simp only [decide_eq_true_eq, decide_eq_false_iff_not] at h_); omega) | (simp [mulSz, Cont.len, bne] at h_; done) | (simp [mulSz, Cont.len, bne] at h_; omega))); intro _; conv => whnf)
                      | (refine tst_in ?_ ?_; rotate_left; (focus (intro h_; exfalso; first | omega | ((try simp only [decide_eq_true_eq, decide_eq_false_iff_not] at h_); omega) | (simp [mulSz, Cont.len, bne] at h_; done) | (simp [mulSz, Cont.len, bne] at h_; omega))); intro _; conv => whnf))
                    refine ⟨[0, 1, 2, 3, 4, 5, 8], ((k + 1, tl2) : Nat × List Int), ?_, (by show k + 1 ≤ n; omega), (by show n - (k + 1) < n - k; omega)⟩
                    show stLe _ _ (st10 m a b l y B F n ca (k + 1) tl2) _
                    unfold st10
                    rw [show (wk m a b l y 2 && ab F y (k + 1)) = (wk m a b l y 2 && ab F y k && okS (F k) y) from (Bool.and_assoc _ _ _).symm]
                    conv => whnf
                    repeat' (first | exact True.intro | rfl | refine And.intro ?_ ?_)
                    all_goals (conv => whnf)
                    repeat' (first | exact True.intro | rfl | refine And.intro ?_ ?_)
                    all_goals (try omega)
                    · skip
                      show tab (fun i => shv (F i) y) (k + 1) ++ tl2 = List.take k (List.drop 0 (tab (fun i => shv (F i) y) k ++ tl)) ++ List.take 1 (List.drop 0 [shv (F k) y]) ++ tl2
                      rw [List.drop_zero, take_tab _ _ (Nat.le_refl k), ← tab_snoc]; rfl
                  · skip
                    refine And.intro ?_ ?_
                    · skip
                      conv => whnf
                      repeat (first
                        | (refine And.intro ?_ ?_; (focus (first | omega | decide | exact Int.natCast_nonneg _ | ((repeat' refine And.intro ?_ ?_) <;> first | omega | exact Int.natCast_nonneg _ | (simp only [i64max]; omega) | (simp only [u8max]; omega) | (simp only [i64max, u8max, u16max, u32max, u64max]; omega) | (simp [mulSz, Cont.len, bne, hlen]; done) | (simp [mulSz, Cont.len, bne, hlen]; omega)))); conv => whnf)
                        | (refine tst_in ?_ ?_; (focus (intro h_; exfalso; first | omega | ((try simp only [decide_eq_true_eq, decide_eq_false_iff_not] at h_); omega) | (simp [mulSz, Cont.len, bne, hlen] at h_; done) | (simp [mulSz, Cont.len, bne, hlen] at h_; omega))); intro _; conv => whnf)
                        | (refine tst_in ?_ ?_; rotate_left; (focus (intro h_; exfalso; first | omega | ((try simp only [decide_eq_true_eq, decide_eq_false_iff_not] at h_); omega) | (simp [mulSz, Cont.len, bne, hlen] at h_; done) | (simp [mulSz, Cont.len, bne, hlen] at h_; omega))); intro _; conv => whnf))
                      intro (tl2 : List Int)
                      conv => whnf
                      repeat (first
                        | (refine And.intro ?_ ?_; (focus (first | omega | decide | exact Int.natCast_nonneg _ | ((repeat' refine And.intro ?_ ?_) <;> first | omega | exact Int.natCast_nonneg _ | (simp only [i64max]; omega) | (simp only [u8max]; omega) | (simp only [i64max, u8max, u16max, u32max, u64max]; omega) | (simp [mulSz, Cont.len, bne]; done) | (simp [mulSz, Cont.len, bne]; omega)))); conv => whnf)
                        | (refine tst_in ?_ ?_; (focus (intro h_; exfalso; first | omega | ((try simp only [decide_eq_true_eq, decide_eq_false_iff_not] at h_); omega) | (simp [mulSz, Cont.len, bne] at h_; done) | (simp [mulSz, Cont.len, bne] at h_; omega))); intro _; conv => whnf)
                        | (refine tst_in ?_ ?_; rotate_left; (focus (intro h_; exfalso; first | omega | ((try simp only [decide_eq_true_eq, decide_eq_false_iff_not] at h_); omega) | (simp [mulSz, Cont.len, bne] at h_; done) | (simp [mulSz, Cont.len, bne] at h_; omega))); intro _; conv => whnf))
                      refine ⟨[0, 1, 2, 3, 4, 5, 8], ((k + 1, tl2) : Nat × List Int), ?_, (by show k + 1 ≤ n; omega), (by show n - (k + 1) < n - k; omega)⟩
                      show stLe _ _ (st10 m a b l y B F n ca (k + 1) tl2) _
                      unfold st10
                      rw [show (wk m a b l y 2 && ab F y (k + 1)) = (wk m a b l y 2 && ab F y k && okS (F k) y) from (Bool.and_assoc _ _ _).symm]
                      conv => whnf
                      repeat' (first | exact True.intro | rfl | refine And.intro ?_ ?_)
                      all_goals (conv => whnf)
                      repeat' (first | exact True.intro | rfl | refine And.intro ?_ ?_)
                      all_goals (try omega)
                      · skip
                        show tab (fun i => shv (F i) y) (k + 1) ++ tl2 = List.take k (List.drop 0 (tab (fun i => shv (F i) y) k ++ tl)) ++ List.take 1 (List.drop 0 [shv (F k) y]) ++ tl2
                        rw [List.drop_zero, take_tab _ _ (Nat.le_refl k), ← tab_snoc]; rfl
                    · skip
                      exact True.intro
                · skip
                  refine And.intro ?_ ?_
                  · skip
                    conv => whnf
                    repeat (first
                      | (refine And.intro ?_ ?_; (focus (first | omega | decide | exact Int.natCast_nonneg _ | ((repeat' refine And.intro ?_ ?_) <;> first | omega | exact Int.natCast_nonneg _ | (simp only [i64max]; omega) | (simp only [u8max]; omega) | (simp only [i64max, u8max, u16max, u32max, u64max]; omega) | (simp [mulSz, Cont.len, bne, hlen]; done) | (simp [mulSz, Cont.len, bne, hlen]; omega)))); conv => whnf)
                      | (refine tst_in ?_ ?_; (focus (intro h_; exfalso; first | omega | ((try simp only [decide_eq_true_eq, decide_eq_false_iff_not] at h_); omega) | (simp [mulSz, Cont.len, bne, hlen] at h_; done) | (simp [mulSz, Cont.len, bne, hlen] at h_; omega))); intro _; conv => whnf)
                      | (refine tst_in ?_ ?_; rotate_left; (focus (intro h_; exfalso; first | omega | ((try simp only [decide_eq_true_eq, decide_eq_false_iff_not] at h_); omega) | (simp [mulSz, Cont.len, bne, hlen] at h_; done) | (simp [mulSz, Cont.len, bne, hlen] at h_; omega))); intro _; conv => whnf))
                    intro (tl2 : List Int)
                    conv => whnf
                    repeat (first
                      | (refine And.intro ?_ ?_; (focus (first | omega | decide | exact Int.natCast_nonneg _ | ((repeat' refine And.intro ?_ ?_) <;> first | omega | exact Int.natCast_nonneg _ | (simp only [i64max]; omega) | (simp only [u8max]; omega) | (simp only [i64max, u8max, u16max, u32max, u64max]; omega) | (simp [mulSz, Cont.len, bne]; done) | (simp [mulSz, Cont.len, bne]; omega)))); conv => whnf)
                      | (refine tst_in ?_ ?_; (focus (intro h_; exfalso; first | omega | ((try simp only [decide_eq_true_eq, decide_eq_false_iff_not] at h_); omega) | (simp [mulSz, Cont.len, bne] at h_; done) | (simp [mulSz, Cont.len, bne] at h_; omega))); intro _; conv => whnf)
                      | (refine tst_in ?_ ?_; rotate_left; (focus (intro h_; exfalso; first | omega | ((try simp only [decide_eq_true_eq, decide_eq_false_iff_not] at h_); omega) | (simp [mulSz, Cont.len, bne] at h_; done) | (simp [mulSz, Cont.len, bne] at h_; omega))); intro _; conv => whnf))
                    refine ⟨[0, 1, 2, 3, 4, 5, 8], ((k + 1, tl2) : Nat × List Int), ?_, (by show k + 1 ≤ n; omega), (by show n - (k + 1) < n - k; omega)⟩
                    show stLe _ _ (st10 m a b l y B F n ca (k + 1) tl2) _
                    unfold st10
                    rw [show (wk m a b l y 2 && ab F y (k + 1)) = (wk m a b l y 2 && ab F y k && okS (F k) y) from (Bool.and_assoc _ _ _).symm]
                    conv => whnf
                    repeat' (first | exact True.intro | rfl | refine And.intro ?_ ?_)
                    all_goals (conv => whnf)
                    repeat' (first | exact True.intro | rfl | refine And.intro ?_ ?_)
                    all_goals (try omega)
                    · skip
                      show tab (fun i => shv (F i) y) (k + 1) ++ tl2 = List.take k (List.drop 0 (tab (fun i => shv (F i) y) k ++ tl)) ++ List.take 1 (List.drop 0 [shv (F k) y]) ++ tl2
                      rw [List.drop_zero, take_tab _ _ (Nat.le_refl k), ← tab_snoc]; rfl
                  · skip
                    exact True.intro
              · skip
                exact True.intro
          · skip
            have hge : k = n := by simp at hge; omega
            subst hge
            cases V
            · skip
              rw [show (wk m a b l y 2 && ab F y k) = false from hV]
              conv => whnf
              repeat (first
                | (refine And.intro ?_ ?_; (focus (first | omega | decide | exact Int.natCast_nonneg _ | ((repeat' refine And.intro ?_ ?_) <;> first | omega | exact Int.natCast_nonneg _ | (simp only [i64max]; omega) | (simp only [u8max]; omega) | (simp only [i64max, u8max, u16max, u32max, u64max]; omega) | (simp [mulSz, Cont.len, bne]; done) | (simp [mulSz, Cont.len, bne]; omega)))); conv => whnf)
                | (refine tst_in ?_ ?_; (focus (intro h_; exfalso; first | omega | ((try simp only [decide_eq_true_eq, decide_eq_false_iff_not] at h_); omega) | (simp [mulSz, Cont.len, bne] at h_; done) | (simp [mulSz, Cont.len, bne] at h_; omega))); intro _; conv => whnf)
                | (refine tst_in ?_ ?_; rotate_left; (focus (intro h_; exfalso; first | omega | ((try simp only [decide_eq_true_eq, decide_eq_false_iff_not] at h_); omega) | (simp [mulSz, Cont.len, bne] at h_; done) | (simp [mulSz, Cont.len, bne] at h_; omega))); intro _; conv => whnf))
              refine .inl ⟨[], [0, 9], ?_⟩
              conv => whnf
              repeat' (first | exact True.intro | rfl | refine And.intro ?_ ?_)
              all_goals (conv => whnf)
              repeat' (first | exact True.intro | rfl | refine And.intro ?_ ?_)
              all_goals (try omega)
            · skip
              obtain ⟨e1, e2, e3, e4, e5⟩ := vl_t hV
              rw [show (wk m a b l y 2 && ab F y k) = true from hV, e1, e2, e3, e4]
              conv => whnf
              repeat (first
                | (refine And.intro ?_ ?_; (focus (first | omega | decide | exact Int.natCast_nonneg _ | ((repeat' refine And.intro ?_ ?_) <;> first | omega | exact Int.natCast_nonneg _ | (simp only [i64max]; omega) | (simp only [u8max]; omega) | (simp only [i64max, u8max, u16max, u32max, u64max]; omega) | (simp [mulSz, Cont.len, bne]; done) | (simp [mulSz, Cont.len, bne]; omega)))); conv => whnf)
                | (refine tst_in ?_ ?_; (focus (intro h_; exfalso; first | omega | ((try simp only [decide_eq_true_eq, decide_eq_false_iff_not] at h_); omega) | (simp [mulSz, Cont.len, bne] at h_; done) | (simp [mulSz, Cont.len, bne] at h_; omega))); intro _; conv => whnf)
                | (refine tst_in ?_ ?_; rotate_left; (focus (intro h_; exfalso; first | omega | ((try simp only [decide_eq_true_eq, decide_eq_false_iff_not] at h_); omega) | (simp [mulSz, Cont.len, bne] at h_; done) | (simp [mulSz, Cont.len, bne] at h_; omega))); intro _; conv => whnf))
              refine .inl ⟨tl, [0, 6], ?_⟩
              conv => whnf
              repeat' (first | exact True.intro | rfl | refine And.intro ?_ ?_)
              all_goals (conv => whnf)
              repeat' (first | exact True.intro | rfl | refine And.intro ?_ ?_)
              all_goals (try omega)
              all_goals (show tab (fun i => F i + y) k ++ tl = tab (fun i => shv (F i) y) k ++ tl; rw [tab_congr e5])
end Go.Proofs.Ytpbndfocpnemfaa

set_option linter.unusedVariables false
set_option linter.unusedSimpArgs false
namespace Go.Proofs.Ytpbndfocpnemfaa
open Go Go.Fw
noncomputable def c5 : Code := (Try.f5.body).getD .skip
def cfg5 : Cfg := { T := tys, sgn := fun _ => false, wr := fun _ => false, k := 1, q := qf, plan := fun i => match Nat.beq i 14 with | true => some pl14 | false => none }
def ge (m a b l : Int) (F : Nat → Int) (i : Nat) : Int := if i < 4 then [m, a, b, l].getD i 0 else F (i - 4)
theorem ge_ok {m a b l y : Int} {F : Nat → Int} {n : Nat} (h : ∀ i, i < 4 + n → okS (ge m a b l F i) y = true) : vl m a b l y F n = true := by
  have h0 : okS m y = true := h 0 (by omega)
  have h1 : okS a y = true := h 1 (by omega)
  have h2 : okS b y = true := h 2 (by omega)
  have h3 : okS l y = true := h 3 (by omega)
  have h4 : ∀ j, j ≤ n → ab F y j = true := fun j => by
    induction j with
    | zero => intro _; rfl
    | succ j ih =>
      intro hj
      have := h (4 + j) (by omega)
      unfold ge at this
      rw [if_neg (by omega), Nat.add_sub_cancel_left] at this
      show (ab F y j && okS (F j) y) = true
      rw [ih (by omega), this]; rfl
  unfold vl wk
  rw [h0, h1, h2, h3, h4 n (Nat.le_refl _)]
  rfl
theorem vl_okS {m a b l y : Int} {F : Nat → Int} {n : Nat} (h : vl m a b l y F n = true) : okS m y = true ∧ okS l y = true ∧ okS a y = true ∧ okS b y = true ∧ ∀ i, i < n → okS (F i) y = true := by
  unfold vl at h
  rw [Bool.and_eq_true] at h
  have h1 := h.1
  simp [wk] at h1
  obtain ⟨⟨⟨h2, h3⟩, h4⟩, h5⟩ := h1
  exact ⟨h2, h3, h4, h5, ab_t h.2⟩
theorem ge_vl {m a b l y : Int} {F : Nat → Int} {n : Nat} (h : vl m a b l y F n = true) (i : Nat) (hi : i < 4 + n) : okS (ge m a b l F i) y = true := by
  obtain ⟨h0, h3, h1, h2, h4⟩ := vl_okS h
  unfold ge
  by_cases hi4 : i < 4
  · rw [if_pos hi4]
    rcases (show i = 0 ∨ i = 1 ∨ i = 2 ∨ i = 3 by omega) with e | e | e | e <;> subst e <;> assumption
  · rw [if_neg hi4]; exact h4 _ (by omega)
theorem okS_out {a b : Int} (h : okS a b = true) : 0 ≤ a ∧ a ≤ 65536 ∧ 0 ≤ a + b ∧ a + b ≤ 65536 := of_decide_eq_true h
theorem okS_no {a b : Int} (h : ¬ okS a b = true) : ¬ (0 ≤ a ∧ a ≤ 65536 ∧ 0 ≤ a + b ∧ a + b ≤ 65536) := fun g => h (decide_eq_true g)
def al4 (m a b l : Int) (B : List Int) (n : Nat) : List Int := [m, a, b, l] ++ B.take n
def sE (m a b l y : Int) (B : List Int) (n ca k : Nat) (tl : List Int) : St := ⟨anyTo 113 [.any, .int .i64 y, .ptr 1 0, .any, .ptr 2 0, .any, .slice 3 0 (4 + n) (4 + n + tl.length), .int .i64 k], [.seg false (.ints .i64 B), plc m a b (.slice 0 0 n ca) l, zc, .seg true (.ints .i64 (al4 m a b l B n ++ tl))]⟩
def iE (m a b l y : Int) (B : List Int) (F : Nat → Int) (n ca : Nat) : LInv := ⟨Nat × List Int, fun p => sE m a b l y B n ca p.1 p.2, fun p => p.1 ≤ 4 + n ∧ ∀ i, i < p.1 → okS (ge m a b l F i) y = true, fun p => 4 + n - p.1⟩
def st12 (m a b l y : Int) (B : List Int) (F : Nat → Int) (n ca k : Nat) (tl : List Int) : St := ⟨anyTo 113 [.any, .int .i64 y, .ptr 1 0, .any, .ptr 2 0, .any, .any, .any, .ptr 3 0, .int .i64 k], [.seg false (.ints .i64 B), plc m a b (.slice 0 0 n ca) l, zc, plc (m + y) (a + y) (b + y) (.slice 4 0 k (k + tl.length)) (l + y), .seg true (.ints .i64 (tab (fun i => F i + y) k ++ tl))]⟩
def inv12 (m a b l y : Int) (B : List Int) (F : Nat → Int) (n ca : Nat) : LInv := ⟨Nat × List Int, fun p => st12 m a b l y B F n ca p.1 p.2, fun p => p.1 ≤ n, fun p => n - p.1⟩
theorem getD_l (l t : List Int) (i : Nat) (h : i < l.length) : (l ++ t).getD i 0 = l.getD i 0 := by
  rw [List.getD_eq_getElem?_getD, List.getElem?_append_left h, ← List.getD_eq_getElem?_getD]
theorem getD_r (l t : List Int) (i : Nat) (h : l.length ≤ i) : (l ++ t).getD i 0 = t.getD (i - l.length) 0 := by
  rw [List.getD_eq_getElem?_getD, List.getElem?_append_right h, ← List.getD_eq_getElem?_getD]
theorem getD_take (l : List Int) (n i : Nat) (h : i < n) : (l.take n).getD i 0 = l.getD i 0 := by
  rw [List.getD_eq_getElem?_getD, List.getElem?_take_of_lt h, ← List.getD_eq_getElem?_getD]
theorem al4_len {m a b l : Int} {B : List Int} {n : Nat} (hB : n ≤ B.length) (tl : List Int) : (al4 m a b l B n ++ tl).length = 4 + n + tl.length := by
  unfold al4
  simp [List.length_append, List.length_take, Nat.min_eq_left hB]; omega
theorem al4_get {m a b l : Int} {B : List Int} {F : Nat → Int} {n : Nat} (hB : n ≤ B.length) (hF : ∀ i, i < n → B.getD i 0 = F i) (tl : List Int) (i : Nat) (hi : i < 4 + n) : (al4 m a b l B n ++ tl).getD i 0 = ge m a b l F i := by
  have hl : (al4 m a b l B n).length = 4 + n := by have := al4_len (m := m) (a := a) (b := b) (l := l) hB []; simpa using this
  rw [getD_l _ _ _ (by omega)]
  unfold al4 ge
  by_cases h4 : i < 4
  · rw [if_pos h4, getD_l _ _ _ (by exact h4)]
  · rw [if_neg h4, getD_r _ _ _ (by show 4 ≤ i; omega), show i - [m, a, b, l].length = i - 4 from rfl, getD_take _ _ _ (by omega), hF _ (by omega)]
set_option maxHeartbeats 0 in
set_option maxRecDepth 100000 in
theorem rShift_f (m a b l y : Int) (B : List Int) (F : Nat → Int) (n ca : Nat) (hB : n ≤ B.length) (hca : n ≤ ca) (hN : n ≤ 17592186043904) (hF : ∀ i, i < n → B.getD i 0 = F i ∧ i64r (F i)) (hm : i64r m) (ha : i64r a) (hb : i64r b) (hl : i64r l) (hy : i64r y) (V : Bool) (hV : vl m a b l y F n = V) :
    Fits Try.prog 5 ⟨[pls m a b (.slice 0 0 n ca) l, .int .i64 y], [.seg false (.ints .i64 B)], [shOut m a b l y F n V]⟩ := by
  unfold i64r at hy
  refine fits_of_res (C := cfg5) (c := c5) (rs := [.cell 4 25, .tmp 5]) tok mixed (fun | 4 => some (iE m a b l y B F n ca) | 12 => some (inv12 m a b l y B F n ca) | _ => none) (fun _ => none)
    Try.func5 (by kernel_rfl) (by kernel_rfl) (by kernel_rfl) (by kernel_rfl) rfl ?_
  conv => whnf
  repeat (first
    | (refine And.intro ?_ ?_; (focus (first | omega | decide | exact Int.natCast_nonneg _ | ((repeat' refine And.intro ?_ ?_) <;> first | omega | exact Int.natCast_nonneg _ | (simp only [i64max]; omega) | (simp only [u8max]; omega) | (simp only [i64max, u8max, u16max, u32max, u64max]; omega) | (simp [mulSz, Cont.len, bne]; done) | (simp [mulSz, Cont.len, bne]; omega)))); conv => whnf)
    | (refine tst_in ?_ ?_; (focus (intro h_; exfalso; first | omega | ((try simp only [decide_eq_true_eq, decide_eq_false_iff_not] at h_); omega) | (simp [mulSz, Cont.len, bne] at h_; done) | (simp [mulSz, Cont.len, bne] at h_; omega))); intro _; conv => whnf)
    | (refine tst_in ?_ ?_; rotate_left; (focus (intro h_; exfalso; first | omega | ((try simp only [decide_eq_true_eq, decide_eq_false_iff_not] at h_); omega) | (simp [mulSz, Cont.len, bne] at h_; done) | (simp [mulSz, Cont.len, bne] at h_; omega))); intro _; conv => whnf))
  intro (tl : List Int)
  conv => whnf
  repeat (first
    | (refine And.intro ?_ ?_; (focus (first | omega | decide | exact Int.natCast_nonneg _ | ((repeat' refine And.intro ?_ ?_) <;> first | omega | exact Int.natCast_nonneg _ | (simp only [i64max]; omega) | (simp only [u8max]; omega) | (simp only [i64max, u8max, u16max, u32max, u64max]; omega) | (simp [mulSz, Cont.len, bne]; done) | (simp [mulSz, Cont.len, bne]; omega)))); conv => whnf)
    | (refine tst_in ?_ ?_; (focus (intro h_; exfalso; first | omega | ((try simp only [decide_eq_true_eq, decide_eq_false_iff_not] at h_); omega) | (simp [mulSz, Cont.len, bne] at h_; done) | (simp [mulSz, Cont.len, bne] at h_; omega))); intro _; conv => whnf)
    | (refine tst_in ?_ ?_; rotate_left; (focus (intro h_; exfalso; first | omega | ((try simp only [decide_eq_true_eq, decide_eq_false_iff_not] at h_); omega) | (simp [mulSz, Cont.len, bne] at h_; done) | (simp [mulSz, Cont.len, bne] at h_; omega))); intro _; conv => whnf))
  have hge8 : ∀ i, i < 4 + n → i64r (ge m a b l F i) := fun i hi => by
    unfold ge
    by_cases h4 : i < 4
    · rw [if_pos h4]
      rcases (show i = 0 ∨ i = 1 ∨ i = 2 ∨ i = 3 by omega) with e | e | e | e <;> subst e <;> assumption
    · rw [if_neg h4]; exact (hF _ (by omega)).2
  refine ⟨⟨[0, 1, 2, 4], ((0, tl) : Nat × List Int), ?_, ⟨Nat.zero_le _, fun i hi => absurd hi (Nat.not_lt_zero i)⟩⟩, ?_⟩
  · conv => whnf
    repeat' (first | exact True.intro | rfl | refine And.intro ?_ ?_)
    all_goals (conv => whnf)
    repeat' (first | exact True.intro | rfl | refine And.intro ?_ ?_)
    all_goals (try omega)
  · rintro ⟨k, tl⟩ ⟨hk, hp⟩
    have hk : k ≤ 4 + n := hk
    have hla := al4_len (m := m) (a := a) (b := b) (l := l) hB tl
    have hX0 : 0 + ((k : Int)).toNat = k := by omega
    show forceSt (sE m a b l y B n ca k tl) _
    conv => whnf
    refine tst_in (fun hlt => ?_) (fun hge => ?_)
    · skip
      have hlt : k < 4 + n := by simp at hlt; omega
      have hv := al4_get (m := m) (a := a) (b := b) (l := l) hB (fun i hi => (hF i hi).1) tl k hlt
      have hXr := hge8 k hlt
      have hVk : V = true → okS (ge m a b l F k) y = true := fun e => ge_vl (hV.trans e) k hlt
      have hpk : okS (ge m a b l F k) y = true → ∀ i, i < k + 1 → okS (ge m a b l F i) y = true := fun e i hi => by
        rcases Nat.lt_or_ge i k with h | h
        · exact hp i h
        · obtain rfl : i = k := by omega
          exact e
      generalize ge m a b l F k = X at hv hXr hVk hpk
      unfold i64r at hXr
      by_cases hok : okS X y = true
      · skip
        have hr := okS_out hok
        conv => whnf
        repeat (first
          | (refine And.intro ?_ ?_; (focus (first | omega | decide | exact Int.natCast_nonneg _ | ((repeat' refine And.intro ?_ ?_) <;> first | omega | exact Int.natCast_nonneg _ | (simp only [i64max]; omega) | (simp only [u8max]; omega) | (simp only [i64max, u8max, u16max, u32max, u64max]; omega) | (simp [mulSz, Cont.len, bne, hla]; done) | (simp [mulSz, Cont.len, bne, hla]; omega)))); conv => whnf)
          | (refine tst_in ?_ ?_; (focus (intro h_; exfalso; first | omega | ((try simp only [decide_eq_true_eq, decide_eq_false_iff_not] at h_); omega) | (simp [mulSz, Cont.len, bne, hla] at h_; done) | (simp [mulSz, Cont.len, bne, hla] at h_; omega))); intro _; conv => whnf)
          | (refine tst_in ?_ ?_; rotate_left; (focus (intro h_; exfalso; first | omega | ((try simp only [decide_eq_true_eq, decide_eq_false_iff_not] at h_); omega) | (simp [mulSz, Cont.len, bne, hla] at h_; done) | (simp [mulSz, Cont.len, bne, hla] at h_; omega))); intro _; conv => whnf))
        rw [hX0, hv]
        conv => whnf
        repeat (first
          | (refine And.intro ?_ ?_; (focus (first | omega | decide | exact Int.natCast_nonneg _ | ((repeat' refine And.intro ?_ ?_) <;> first | omega | exact Int.natCast_nonneg _ | (simp only [i64max]; omega) | (simp only [u8max]; omega) | (simp only [i64max, u8max, u16max, u32max, u64max]; omega) | (simp [mulSz, Cont.len, bne, hla]; done) | (simp [mulSz, Cont.len, bne, hla]; omega)))); conv => whnf)
          | (refine tst_in ?_ ?_; (focus (intro h_; exfalso; first | omega | ((try simp only [decide_eq_true_eq, decide_eq_false_iff_not] at h_); omega) | (simp [mulSz, Cont.len, bne, hla] at h_; done) | (simp [mulSz, Cont.len, bne, hla] at h_; omega))); intro _; conv => whnf)
          | (refine tst_in ?_ ?_; rotate_left; (focus (intro h_; exfalso; first | omega | ((try simp only [decide_eq_true_eq, decide_eq_false_iff_not] at h_); omega) | (simp [mulSz, Cont.len, bne, hla] at h_; done) | (simp [mulSz, Cont.len, bne, hla] at h_; omega))); intro _; conv => whnf))
        rw [hX0, hv]
        conv => whnf
        repeat (first
          | (refine And.intro ?_ ?_; (focus (first | omega | decide | exact Int.natCast_nonneg _ | ((repeat' refine And.intro ?_ ?_) <;> first | omega | exact Int.natCast_nonneg _ | (simp only [i64max]; omega) | (simp only [u8max]; omega) | (simp only [i64max, u8max, u16max, u32max, u64max]; omega) | (simp [mulSz, Cont.len, bne, hla]; done) | (simp [mulSz, Cont.len, bne, hla]; omega)))); conv => whnf)
          | (refine tst_in ?_ ?_; (focus (intro h_; exfalso; first | omega | ((try simp only [decide_eq_true_eq, decide_eq_false_iff_not] at h_); omega) | (simp [mulSz, Cont.len, bne, hla] at h_; done) | (simp [mulSz, Cont.len, bne, hla] at h_; omega))); intro _; conv => whnf)
          | (refine tst_in ?_ ?_; rotate_left; (focus (intro h_; exfalso; first | omega | ((try simp only [decide_eq_true_eq, decide_eq_false_iff_not] at h_); omega) | (simp [mulSz, Cont.len, bne, hla] at h_; done) | (simp [mulSz, Cont.len, bne, hla] at h_; omega))); intro _; conv => whnf))
        rw [hX0, hv]
        conv => whnf
        repeat (first
          | (refine And.intro ?_ ?_; (focus (first | omega | decide | exact Int.natCast_nonneg _ | ((repeat' refine And.intro ?_ ?_) <;> first | omega | exact Int.natCast_nonneg _ | (simp only [i64max]; omega) | (simp only [u8max]; omega) | (simp only [i64max, u8max, u16max, u32max, u64max]; omega) | (simp [mulSz, Cont.len, bne, hla]; done) | (simp [mulSz, Cont.len, bne, hla]; omega)))); conv => whnf)
          | (refine tst_in ?_ ?_; (focus (intro h_; exfalso; first | omega | ((try simp only [decide_eq_true_eq, decide_eq_false_iff_not] at h_); omega) | (simp [mulSz, Cont.len, bne, hla] at h_; done) | (simp [mulSz, Cont.len, bne, hla] at h_; omega))); intro _; conv => whnf)
          | (refine tst_in ?_ ?_; rotate_left; (focus (intro h_; exfalso; first | omega | ((try simp only [decide_eq_true_eq, decide_eq_false_iff_not] at h_); omega) | (simp [mulSz, Cont.len, bne, hla] at h_; done) | (simp [mulSz, Cont.len, bne, hla] at h_; omega))); intro _; conv => whnf))
        rw [hX0, hv]
        conv => whnf
        repeat (first
          | (refine And.intro ?_ ?_; (focus (first | omega | decide | exact Int.natCast_nonneg _ | ((repeat' refine And.intro ?_ ?_) <;> first | omega | exact Int.natCast_nonneg _ | (simp only [i64max]; omega) | (simp only [u8max]; omega) | (simp only [i64max, u8max, u16max, u32max, u64max]; omega) | (simp [mulSz, Cont.len, bne, hla]; done) | (simp [mulSz, Cont.len, bne, hla]; omega)))); conv => whnf)
          | (refine tst_in ?_ ?_; (focus (intro h_; exfalso; first | omega | ((try simp only [decide_eq_true_eq, decide_eq_false_iff_not] at h_); omega) | (simp [mulSz, Cont.len, bne, hla] at h_; done) | (simp [mulSz, Cont.len, bne, hla] at h_; omega))); intro _; conv => whnf)
          | (refine tst_in ?_ ?_; rotate_left; (focus (intro h_; exfalso; first | omega | ((try simp only [decide_eq_true_eq, decide_eq_false_iff_not] at h_); omega) | (simp [mulSz, Cont.len, bne, hla] at h_; done) | (simp [mulSz, Cont.len, bne, hla] at h_; omega))); intro _; conv => whnf))
        refine ⟨[0, 1, 2, 3], ((k + 1, tl) : Nat × List Int), ?_, ⟨by show k + 1 ≤ 4 + n; omega, hpk hok⟩, (by show 4 + n - (k + 1) < 4 + n - k; omega)⟩
        show stLe _ _ (sE m a b l y B n ca (k + 1) tl) _
        conv => whnf
        repeat' (first | exact True.intro | rfl | refine And.intro ?_ ?_)
        all_goals (conv => whnf)
        repeat' (first | exact True.intro | rfl | refine And.intro ?_ ?_)
        all_goals (try omega)
      · skip
        obtain rfl : V = false := by
          cases V
          · rfl
          · exact absurd (hVk rfl) hok
        have hno := okS_no hok
        by_cases hc0 : X < 0
        · skip
          conv => whnf
          repeat (first
            | (refine And.intro ?_ ?_; (focus (first | omega | decide | exact Int.natCast_nonneg _ | ((repeat' refine And.intro ?_ ?_) <;> first | omega | exact Int.natCast_nonneg _ | (simp only [i64max]; omega) | (simp only [u8max]; omega) | (simp only [i64max, u8max, u16max, u32max, u64max]; omega) | (simp [mulSz, Cont.len, bne, hla]; done) | (simp [mulSz, Cont.len, bne, hla]; omega)))); conv => whnf)
            | (refine tst_in ?_ ?_; (focus (intro h_; exfalso; first | omega | ((try simp only [decide_eq_true_eq, decide_eq_false_iff_not] at h_); omega) | (simp [mulSz, Cont.len, bne, hla] at h_; done) | (simp [mulSz, Cont.len, bne, hla] at h_; omega))); intro _; conv => whnf)
            | (refine tst_in ?_ ?_; rotate_left; (focus (intro h_; exfalso; first | omega | ((try simp only [decide_eq_true_eq, decide_eq_false_iff_not] at h_); omega) | (simp [mulSz, Cont.len, bne, hla] at h_; done) | (simp [mulSz, Cont.len, bne, hla] at h_; omega))); intro _; conv => whnf))
          rw [hX0, hv]
          conv => whnf
          repeat (first
            | (refine And.intro ?_ ?_; (focus (first | omega | decide | exact Int.natCast_nonneg _ | ((repeat' refine And.intro ?_ ?_) <;> first | omega | exact Int.natCast_nonneg _ | (simp only [i64max]; omega) | (simp only [u8max]; omega) | (simp only [i64max, u8max, u16max, u32max, u64max]; omega) | (simp [mulSz, Cont.len, bne, hla]; done) | (simp [mulSz, Cont.len, bne, hla]; omega)))); conv => whnf)
            | (refine tst_in ?_ ?_; (focus (intro h_; exfalso; first | omega | ((try simp only [decide_eq_true_eq, decide_eq_false_iff_not] at h_); omega) | (simp [mulSz, Cont.len, bne, hla] at h_; done) | (simp [mulSz, Cont.len, bne, hla] at h_; omega))); intro _; conv => whnf)
            | (refine tst_in ?_ ?_; rotate_left; (focus (intro h_; exfalso; first | omega | ((try simp only [decide_eq_true_eq, decide_eq_false_iff_not] at h_); omega) | (simp [mulSz, Cont.len, bne, hla] at h_; done) | (simp [mulSz, Cont.len, bne, hla] at h_; omega))); intro _; conv => whnf))
          refine .inl ⟨[], [0, 9], ?_⟩
          conv => whnf
          repeat' (first | exact True.intro | rfl | refine And.intro ?_ ?_)
          all_goals (conv => whnf)
          repeat' (first | exact True.intro | rfl | refine And.intro ?_ ?_)
          all_goals (try omega)
        by_cases hc1 : 65536 < X
        · skip
          conv => whnf
          repeat (first
            | (refine And.intro ?_ ?_; (focus (first | omega | decide | exact Int.natCast_nonneg _ | ((repeat' refine And.intro ?_ ?_) <;> first | omega | exact Int.natCast_nonneg _ | (simp only [i64max]; omega) | (simp only [u8max]; omega) | (simp only [i64max, u8max, u16max, u32max, u64max]; omega) | (simp [mulSz, Cont.len, bne, hla]; done) | (simp [mulSz, Cont.len, bne, hla]; omega)))); conv => whnf)
            | (refine tst_in ?_ ?_; (focus (intro h_; exfalso; first | omega | ((try simp only [decide_eq_true_eq, decide_eq_false_iff_not] at h_); omega) | (simp [mulSz, Cont.len, bne, hla] at h_; done) | (simp [mulSz, Cont.len, bne, hla] at h_; omega))); intro _; conv => whnf)
            | (refine tst_in ?_ ?_; rotate_left; (focus (intro h_; exfalso; first | omega | ((try simp only [decide_eq_true_eq, decide_eq_false_iff_not] at h_); omega) | (simp [mulSz, Cont.len, bne, hla] at h_; done) | (simp [mulSz, Cont.len, bne, hla] at h_; omega))); intro _; conv => whnf))
          rw [hX0, hv]
          conv => whnf
          repeat (first
            | (refine And.intro ?_ ?_; (focus (first | omega | decide | exact Int.natCast_nonneg _ | ((repeat' refine And.intro ?_ ?_) <;> first | omega | exact Int.natCast_nonneg _ | (simp only [i64max]; omega) | (simp only [u8max]; omega) | (simp only [i64max, u8max, u16max, u32max, u64max]; omega) | (simp [mulSz, Cont.len, bne, hla]; done) | (simp [mulSz, Cont.len, bne, hla]; omega)))); conv => whnf)
            | (refine tst_in ?_ ?_; (focus (intro h_; exfalso; first | omega | ((try simp only [decide_eq_true_eq, decide_eq_false_iff_not] at h_); omega) | (simp [mulSz, Cont.len, bne, hla] at h_; done) | (simp [mulSz, Cont.len, bne, hla] at h_; omega))); intro _; conv => whnf)
            | (refine tst_in ?_ ?_; rotate_left; (focus (intro h_; exfalso; first | omega | ((try simp only [decide_eq_true_eq, decide_eq_false_iff_not] at h_); omega) | (simp [mulSz, Cont.len, bne, hla] at h_; done) | (simp [mulSz, Cont.len, bne, hla] at h_; omega))); intro _; conv => whnf))
          rw [hX0, hv]
          conv => whnf
          repeat (first
            | (refine And.intro ?_ ?_; (focus (first | omega | decide | exact Int.natCast_nonneg _ | ((repeat' refine And.intro ?_ ?_) <;> first | omega | exact Int.natCast_nonneg _ | (simp only [i64max]; omega) | (simp only [u8max]; omega) | (simp only [i64max, u8max, u16max, u32max, u64max]; omega) | (simp [mulSz, Cont.len, bne, hla]; done) | (simp [mulSz, Cont.len, bne, hla]; omega)))); conv => whnf)
            | (refine tst_in ?_ ?_; (focus (intro h_; exfalso; first | omega | ((try simp only [decide_eq_true_eq, decide_eq_false_iff_not] at h_); omega) | (simp [mulSz, Cont.len, bne, hla] at h_; done) | (simp [mulSz, Cont.len, bne, hla] at h_; omega))); intro _; conv => whnf)
            | (refine tst_in ?_ ?_; rotate_left; (focus (intro h_; exfalso; first | omega | ((try simp only [decide_eq_true_eq, decide_eq_false_iff_not] at h_); omega) | (simp [mulSz, Cont.len, bne, hla] at h_; done) | (simp [mulSz, Cont.len, bne, hla] at h_; omega))); intro _; conv => whnf))
          refine .inl ⟨[], [0, 9], ?_⟩
          conv => whnf
          repeat' (first | exact True.intro | rfl | refine And.intro ?_ ?_)
          all_goals (conv => whnf)
          repeat' (first | exact True.intro | rfl | refine And.intro ?_ ?_)
          all_goals (try omega)
        by_cases hc2 : y < -65536
        · skip
          conv => whnf
          repeat (first
            | (refine And.intro ?_ ?_; (focus (first | omega | decide | exact Int.natCast_nonneg _ | ((repeat' refine And.intro ?_ ?_) <;> first | omega | exact Int.natCast_nonneg _ | (simp only [i64max]; omega) | (simp only [u8max]; omega) | (simp only [i64max, u8max, u16max, u32max, u64max]; omega) | (simp [mulSz, Cont.len, bne, hla]; done) | (simp [mulSz, Cont.len, bne, hla]; omega)))); conv => whnf)
            | (refine tst_in ?_ ?_; (focus (intro h_; exfalso; first | omega | ((try simp only [decide_eq_true_eq, decide_eq_false_iff_not] at h_); omega) | (simp [mulSz, Cont.len, bne, hla] at h_; done) | (simp [mulSz, Cont.len, bne, hla] at h_; omega))); intro _; conv => whnf)
            | (refine tst_in ?_ ?_; rotate_left; (focus (intro h_; exfalso; first | omega | ((try simp only [decide_eq_true_eq, decide_eq_false_iff_not] at h_); omega) | (simp [mulSz, Cont.len, bne, hla] at h_; done) | (simp [mulSz, Cont.len, bne, hla] at h_; omega))); intro _; conv => whnf))
          rw [hX0, hv]
          conv => whnf
          repeat (first
            | (refine And.intro ?_ ?_; (focus (first | omega | decide | exact Int.natCast_nonneg _ | ((repeat' refine And.intro ?_ ?_) <;> first | omega | exact Int.natCast_nonneg _ | (simp only [i64max]; omega) | (simp only [u8max]; omega) | (simp only [i64max, u8max, u16max, u32max, u64max]; omega) | (simp [mulSz, Cont.len, bne, hla]; done) | (simp [mulSz, Cont.len, bne, hla]; omega)))); conv => whnf)
            | (refine tst_in ?_ ?_; (focus (intro h_; exfalso; first | omega | ((try simp only [decide_eq_true_eq, decide_eq_false_iff_not] at h_); omega) | (simp [mulSz, Cont.len, bne, hla] at h_; done) | (simp [mulSz, Cont.len, bne, hla] at h_; omega))); intro _; conv => whnf)
            | (refine tst_in ?_ ?_; rotate_left; (focus (intro h_; exfalso; first | omega | ((try simp only [decide_eq_true_eq, decide_eq_false_iff_not] at h_); omega) | (simp [mulSz, Cont.len, bne, hla] at h_; done) | (simp [mulSz, Cont.len, bne, hla] at h_; omega))); intro _; conv => whnf))
          rw [hX0, hv]
          conv => whnf
          repeat (first
            | (refine And.intro ?_ ?_; (focus (first | omega | decide | exact Int.natCast_nonneg _ | ((repeat' refine And.intro ?_ ?_) <;> first | omega | exact Int.natCast_nonneg _ | (simp only [i64max]; omega) | (simp only [u8max]; omega) | (simp only [i64max, u8max, u16max, u32max, u64max]; omega) | (simp [mulSz, Cont.len, bne, hla]; done) | (simp [mulSz, Cont.len, bne, hla]; omega)))); conv => whnf)
            | (refine tst_in ?_ ?_; (focus (intro h_; exfalso; first | omega | ((try simp only [decide_eq_true_eq, decide_eq_false_iff_not] at h_); omega) | (simp [mulSz, Cont.len, bne, hla] at h_; done) | (simp [mulSz, Cont.len, bne, hla] at h_; omega))); intro _; conv => whnf)
            | (refine tst_in ?_ ?_; rotate_left; (focus (intro h_; exfalso; first | omega | ((try simp only [decide_eq_true_eq, decide_eq_false_iff_not] at h_); omega) | (simp [mulSz, Cont.len, bne, hla] at h_; done) | (simp [mulSz, Cont.len, bne, hla] at h_; omega))); intro _; conv => whnf))
          refine .inl ⟨[], [0, 9], ?_⟩
          conv => whnf
          repeat' (first | exact True.intro | rfl | refine And.intro ?_ ?_)
          all_goals (conv => whnf)
          repeat' (first | exact True.intro | rfl | refine And.intro ?_ ?_)
          all_goals (try omega)
        by_cases hc3 : 65536 < y
        · skip
          conv => whnf
          repeat (first
            | (refine And.intro ?_ ?_; (focus (first | omega | decide | exact Int.natCast_nonneg _ | ((repeat' refine And.intro ?_ ?_) <;> first | omega | exact Int.natCast_nonneg _ | (simp only [i64max]; omega) | (simp only [u8max]; omega) | (simp only [i64max, u8max, u16max, u32max, u64max]; omega) | (simp [mulSz, Cont.len, bne, hla]; done) | (simp [mulSz, Cont.len, bne, hla]; omega)))); conv => whnf)
            | (refine tst_in ?_ ?_; (focus (intro h_; exfalso; first | omega | ((try simp only [decide_eq_true_eq, decide_eq_false_iff_not] at h_); omega) | (simp [mulSz, Cont.len, bne, hla] at h_; done) | (simp [mulSz, Cont.len, bne, hla] at h_; omega))); intro _; conv => whnf)
            | (refine tst_in ?_ ?_; rotate_left; (focus (intro h_; exfalso; first | omega | ((try simp only [decide_eq_true_eq, decide_eq_false_iff_not] at h_); omega) | (simp [mulSz, Cont.len, bne, hla] at h_; done) | (simp [mulSz, Cont.len, bne, hla] at h_; omega))); intro _; conv => whnf))
          rw [hX0, hv]
          conv => whnf
          repeat (first
            | (refine And.intro ?_ ?_; (focus (first | omega | decide | exact Int.natCast_nonneg _ | ((repeat' refine And.intro ?_ ?_) <;> first | omega | exact Int.natCast_nonneg _ | (simp only [i64max]; omega) | (simp only [u8max]; omega) | (simp only [i64max, u8max, u16max, u32max, u64max]; omega) | (simp [mulSz, Cont.len, bne, hla]; done) | (simp [mulSz, Cont.len, bne, hla]; omega)))); conv => whnf)
            | (refine tst_in ?_ ?_; (focus (intro h_; exfalso; first | omega | ((try simp only [decide_eq_true_eq, decide_eq_false_iff_not] at h_); omega) | (simp [mulSz, Cont.len, bne, hla] at h_; done) | (simp [mulSz, Cont.len, bne, hla] at h_; omega))); intro _; conv => whnf)
            | (refine tst_in ?_ ?_; rotate_left; (focus (intro h_; exfalso; first | omega | ((try simp only [decide_eq_true_eq, decide_eq_false_iff_not] at h_); omega) | (simp [mulSz, Cont.len, bne, hla] at h_; done) | (simp [mulSz, Cont.len, bne, hla] at h_; omega))); intro _; conv => whnf))
          rw [hX0, hv]
          conv => whnf
          repeat (first
            | (refine And.intro ?_ ?_; (focus (first | omega | decide | exact Int.natCast_nonneg _ | ((repeat' refine And.intro ?_ ?_) <;> first | omega | exact Int.natCast_nonneg _ | (simp only [i64max]; omega) | (simp only [u8max]; omega) | (simp only [i64max, u8max, u16max, u32max, u64max]; omega) | (simp [mulSz, Cont.len, bne, hla]; done) | (simp [mulSz, Cont.len, bne, hla]; omega)))); conv => whnf)
            | (refine tst_in ?_ ?_; (focus (intro h_; exfalso; first | omega | ((try simp only [decide_eq_true_eq, decide_eq_false_iff_not] at h_); omega) | (simp [mulSz, Cont.len, bne, hla] at h_; done) | (simp [mulSz, Cont.len, bne, hla] at h_; omega))); intro _; conv => whnf)
            | (refine tst_in ?_ ?_; rotate_left; (focus (intro h_; exfalso; first | omega | ((try simp only [decide_eq_true_eq, decide_eq_false_iff_not] at h_); omega) | (simp [mulSz, Cont.len, bne, hla] at h_; done) | (simp [mulSz, Cont.len, bne, hla] at h_; omega))); intro _; conv => whnf))
          refine .inl ⟨[], [0, 9], ?_⟩
          conv => whnf
          repeat' (first | exact True.intro | rfl | refine And.intro ?_ ?_)
          all_goals (conv => whnf)
          repeat' (first | exact True.intro | rfl | refine And.intro ?_ ?_)
          all_goals (try omega)
        by_cases hc4 : X + y < 0
        · skip
          conv => whnf
          repeat (first
            | (refine And.intro ?_ ?_; (focus (first | omega | decide | exact Int.natCast_nonneg _ | ((repeat' refine And.intro ?_ ?_) <;> first | omega | exact Int.natCast_nonneg _ | (simp only [i64max]; omega) | (simp only [u8max]; omega) | (simp only [i64max, u8max, u16max, u32max, u64max]; omega) | (simp [mulSz, Cont.len, bne, hla]; done) | (simp [mulSz, Cont.len, bne, hla]; omega)))); conv => whnf)
            | (refine tst_in ?_ ?_; (focus (intro h_; exfalso; first | omega | ((try simp only [decide_eq_true_eq, decide_eq_false_iff_not] at h_); omega) | (simp [mulSz, Cont.len, bne, hla] at h_; done) | (simp [mulSz, Cont.len, bne, hla] at h_; omega))); intro _; conv => whnf)
            | (refine tst_in ?_ ?_; rotate_left; (focus (intro h_; exfalso; first | omega | ((try simp only [decide_eq_true_eq, decide_eq_false_iff_not] at h_); omega) | (simp [mulSz, Cont.len, bne, hla] at h_; done) | (simp [mulSz, Cont.len, bne, hla] at h_; omega))); intro _; conv => whnf))
          rw [hX0, hv]
          conv => whnf
          repeat (first
            | (refine And.intro ?_ ?_; (focus (first | omega | decide | exact Int.natCast_nonneg _ | ((repeat' refine And.intro ?_ ?_) <;> first | omega | exact Int.natCast_nonneg _ | (simp only [i64max]; omega) | (simp only [u8max]; omega) | (simp only [i64max, u8max, u16max, u32max, u64max]; omega) | (simp [mulSz, Cont.len, bne, hla]; done) | (simp [mulSz, Cont.len, bne, hla]; omega)))); conv => whnf)
            | (refine tst_in ?_ ?_; (focus (intro h_; exfalso; first | omega | ((try simp only [decide_eq_true_eq, decide_eq_false_iff_not] at h_); omega) | (simp [mulSz, Cont.len, bne, hla] at h_; done) | (simp [mulSz, Cont.len, bne, hla] at h_; omega))); intro _; conv => whnf)
            | (refine tst_in ?_ ?_; rotate_left; (focus (intro h_; exfalso; first | omega | ((try simp only [decide_eq_true_eq, decide_eq_false_iff_not] at h_); omega) | (simp [mulSz, Cont.len, bne, hla] at h_; done) | (simp [mulSz, Cont.len, bne, hla] at h_; omega))); intro _; conv => whnf))
          rw [hX0, hv]
          conv => whnf
          repeat (first
            | (refine And.intro ?_ ?_; (focus (first | omega | decide | exact Int.natCast_nonneg _ | ((repeat' refine And.intro ?_ ?_) <;> first | omega | exact Int.natCast_nonneg _ | (simp only [i64max]; omega) | (simp only [u8max]; omega) | (simp only [i64max, u8max, u16max, u32max, u64max]; omega) | (simp [mulSz, Cont.len, bne, hla]; done) | (simp [mulSz, Cont.len, bne, hla]; omega)))); conv => whnf)
            | (refine tst_in ?_ ?_; (focus (intro h_; exfalso; first | omega | ((try simp only [decide_eq_true_eq, decide_eq_false_iff_not] at h_); omega) | (simp [mulSz, Cont.len, bne, hla] at h_; done) | (simp [mulSz, Cont.len, bne, hla] at h_; omega))); intro _; conv => whnf)
            | (refine tst_in ?_ ?_; rotate_left; (focus (intro h_; exfalso; first | omega | ((try simp only [decide_eq_true_eq, decide_eq_false_iff_not] at h_); omega) | (simp [mulSz, Cont.len, bne, hla] at h_; done) | (simp [mulSz, Cont.len, bne, hla] at h_; omega))); intro _; conv => whnf))
          rw [hX0, hv]
          conv => whnf
          repeat (first
            | (refine And.intro ?_ ?_; (focus (first | omega | decide | exact Int.natCast_nonneg _ | ((repeat' refine And.intro ?_ ?_) <;> first | omega | exact Int.natCast_nonneg _ | (simp only [i64max]; omega) | (simp only [u8max]; omega) | (simp only [i64max, u8max, u16max, u32max, u64max]; omega) | (simp [mulSz, Cont.len, bne, hla]; done) | (simp [mulSz, Cont.len, bne, hla]; omega)))); conv => whnf)
            | (refine tst_in ?_ ?_; (focus (intro h_; exfalso; first | omega | ((try simp only [decide_eq_true_eq, decide_eq_false_iff_not] at h_); omega) | (simp [mulSz, Cont.len, bne, hla] at h_; done) | (simp [mulSz, Cont.len, bne, hla] at h_; omega))); intro _; conv => whnf)
            | (refine tst_in ?_ ?_; rotate_left; (focus (intro h_; exfalso; first | omega | ((try simp only [decide_eq_true_eq, decide_eq_false_iff_not] at h_); omega) | (simp [mulSz, Cont.len, bne, hla] at h_; done) | (simp [mulSz, Cont.len, bne, hla] at h_; omega))); intro _; conv => whnf))
          refine .inl ⟨[], [0, 9], ?_⟩
          conv => whnf
          repeat' (first | exact True.intro | rfl | refine And.intro ?_ ?_)
          all_goals (conv => whnf)
          repeat' (first | exact True.intro | rfl | refine And.intro ?_ ?_)
          all_goals (try omega)
        conv => whnf
        repeat (first
          | (refine And.intro ?_ ?_; (focus (first | omega | decide | exact Int.natCast_nonneg _ | ((repeat' refine And.intro ?_ ?_) <;> first | omega | exact Int.natCast_nonneg _ | (simp only [i64max]; omega) | (simp only [u8max]; omega) | (simp only [i64max, u8max, u16max, u32max, u64max]; omega) | (simp [mulSz, Cont.len, bne, hla]; done) | (simp [mulSz, Cont.len, bne, hla]; omega)))); conv => whnf)
          | (refine tst_in ?_ ?_; (focus (intro h_; exfalso; first | omega | ((try simp only [decide_eq_true_eq, decide_eq_false_iff_not] at h_); omega) | (simp [mulSz, Cont.len, bne, hla] at h_; done) | (simp [mulSz, Cont.len, bne, hla] at h_; omega))); intro _; conv => whnf)
          | (refine tst_in ?_ ?_; rotate_left; (focus (intro h_; exfalso; first | omega | ((try simp only [decide_eq_true_eq, decide_eq_false_iff_not] at h_); omega) | (simp [mulSz, Cont.len, bne, hla] at h_; done) | (simp [mulSz, Cont.len, bne, hla] at h_; omega))); intro _; conv => whnf))
        rw [hX0, hv]
        conv => whnf
        repeat (first
          | (refine And.intro ?_ ?_; (focus (first | omega | decide | exact Int.natCast_nonneg _ | ((repeat' refine And.intro ?_ ?_) <;> first | omega | exact Int.natCast_nonneg _ | (simp only [i64max]; omega) | (simp only [u8max]; omega) | (simp only [i64max, u8max, u16max, u32max, u64max]; omega) | (simp [mulSz, Cont.len, bne, hla]; done) | (simp [mulSz, Cont.len, bne, hla]; omega)))); conv => whnf)
          | (refine tst_in ?_ ?_; (focus (intro h_; exfalso; first | omega | ((try simp only [decide_eq_true_eq, decide_eq_false_iff_not] at h_); omega) | (simp [mulSz, Cont.len, bne, hla] at h_; done) | (simp [mulSz, Cont.len, bne, hla] at h_; omega))); intro _; conv => whnf)
          | (refine tst_in ?_ ?_; rotate_left; (focus (intro h_; exfalso; first | omega | ((try simp only [decide_eq_true_eq, decide_eq_false_iff_not] at h_); omega) | (simp [mulSz, Cont.len, bne, hla] at h_; done) | (simp [mulSz, Cont.len, bne, hla] at h_; omega))); intro _; conv => whnf))
        rw [hX0, hv]
        conv => whnf
        repeat (first
          | (refine And.intro ?_ ?_; (focus (first | omega | decide | exact Int.natCast_nonneg _ | ((repeat' refine And.intro ?_ ?_) <;> first | omega | exact Int.natCast_nonneg _ | (simp only [i64max]; omega) | (simp only [u8max]; omega) | (simp only [i64max, u8max, u16max, u32max, u64max]; omega) | (simp [mulSz, Cont.len, bne, hla]; done) | (simp [mulSz, Cont.len, bne, hla]; omega)))); conv => whnf)
          | (refine tst_in ?_ ?_; (focus (intro h_; exfalso; first | omega | ((try simp only [decide_eq_true_eq, decide_eq_false_iff_not] at h_); omega) | (simp [mulSz, Cont.len, bne, hla] at h_; done) | (simp [mulSz, Cont.len, bne, hla] at h_; omega))); intro _; conv => whnf)
          | (refine tst_in ?_ ?_; rotate_left; (focus (intro h_; exfalso; first | omega | ((try simp only [decide_eq_true_eq, decide_eq_false_iff_not] at h_); omega) | (simp [mulSz, Cont.len, bne, hla] at h_; done) | (simp [mulSz, Cont.len, bne, hla] at h_; omega))); intro _; conv => whnf))
        rw [hX0, hv]
        conv => whnf
        repeat (first
          | (refine And.intro ?_ ?_; (focus (first | omega | decide | exact Int.natCast_nonneg _ | ((repeat' refine And.intro ?_ ?_) <;> first | omega | exact Int.natCast_nonneg _ | (simp only [i64max]; omega) | (simp only [u8max]; omega) | (simp only [i64max, u8max, u16max, u32max, u64max]; omega) | (simp [mulSz, Cont.len, bne, hla]; done) | (simp [mulSz, Cont.len, bne, hla]; omega)))); conv => whnf)
          | (refine tst_in ?_ ?_; (focus (intro h_; exfalso; first | omega | ((try simp only [decide_eq_true_eq, decide_eq_false_iff_not] at h_); omega) | (simp [mulSz, Cont.len, bne, hla] at h_; done) | (simp [mulSz, Cont.len, bne, hla] at h_; omega))); intro _; conv => whnf)
          | (refine tst_in ?_ ?_; rotate_left; (focus (intro h_; exfalso; first | omega | ((try simp only [decide_eq_true_eq, decide_eq_false_iff_not] at h_); omega) | (simp [mulSz, Cont.len, bne, hla] at h_; done) | (simp [mulSz, Cont.len, bne, hla] at h_; omega))); intro _; conv => whnf))
        rw [hX0, hv]
        conv => whnf
        repeat (first
          | (refine And.intro ?_ ?_; (focus (first | omega | decide | exact Int.natCast_nonneg _ | ((repeat' refine And.intro ?_ ?_) <;> first | omega | exact Int.natCast_nonneg _ | (simp only [i64max]; omega) | (simp only [u8max]; omega) | (simp only [i64max, u8max, u16max, u32max, u64max]; omega) | (simp [mulSz, Cont.len, bne, hla]; done) | (simp [mulSz, Cont.len, bne, hla]; omega)))); conv => whnf)
          | (refine tst_in ?_ ?_; (focus (intro h_; exfalso; first | omega | ((try simp only [decide_eq_true_eq, decide_eq_false_iff_not] at h_); omega) | (simp [mulSz, Cont.len, bne, hla] at h_; done) | (simp [mulSz, Cont.len, bne, hla] at h_; omega))); intro _; conv => whnf)
          | (refine tst_in ?_ ?_; rotate_left; (focus (intro h_; exfalso; first | omega | ((try simp only [decide_eq_true_eq, decide_eq_false_iff_not] at h_); omega) | (simp [mulSz, Cont.len, bne, hla] at h_; done) | (simp [mulSz, Cont.len, bne, hla] at h_; omega))); intro _; conv => whnf))
        refine .inl ⟨[], [0, 9], ?_⟩
        conv => whnf
        repeat' (first | exact True.intro | rfl | refine And.intro ?_ ?_)
        all_goals (conv => whnf)
        repeat' (first | exact True.intro | rfl | refine And.intro ?_ ?_)
        all_goals (try omega)
    · skip
      have hge : k = 4 + n := by simp at hge; omega
      subst hge
      obtain rfl : V = true := hV.symm.trans (ge_ok hp)
      obtain ⟨h0, h3, h1, h2, h4⟩ := vl_okS hV
      have f0 := okS_out h0
      have f1 := okS_out h1
      have f2 := okS_out h2
      have f3 := okS_out h3
      conv => whnf
      repeat (first
        | (refine And.intro ?_ ?_; (focus (first | omega | decide | exact Int.natCast_nonneg _ | ((repeat' refine And.intro ?_ ?_) <;> first | omega | exact Int.natCast_nonneg _ | (simp only [i64max]; omega) | (simp only [u8max]; omega) | (simp only [i64max, u8max, u16max, u32max, u64max]; omega) | (simp [mulSz, Cont.len, bne]; done) | (simp [mulSz, Cont.len, bne]; omega)))); conv => whnf)
        | (refine tst_in ?_ ?_; (focus (intro h_; exfalso; first | omega | ((try simp only [decide_eq_true_eq, decide_eq_false_iff_not] at h_); omega) | (simp [mulSz, Cont.len, bne] at h_; done) | (simp [mulSz, Cont.len, bne] at h_; omega))); intro _; conv => whnf)
        | (refine tst_in ?_ ?_; rotate_left; (focus (intro h_; exfalso; first | omega | ((try simp only [decide_eq_true_eq, decide_eq_false_iff_not] at h_); omega) | (simp [mulSz, Cont.len, bne] at h_; done) | (simp [mulSz, Cont.len, bne] at h_; omega))); intro _; conv => whnf))
      refine ⟨⟨[0, 1, 2, 4, 9], ((0, []) : Nat × List Int), ?_, Nat.zero_le _⟩, ?_⟩
      · conv => whnf
        repeat' (first | exact True.intro | rfl | refine And.intro ?_ ?_)
        all_goals (conv => whnf)
        repeat' (first | exact True.intro | rfl | refine And.intro ?_ ?_)
        all_goals (try omega)
      · rintro ⟨k, tl⟩ hk
        have hk : k ≤ n := hk
        have hX0 : 0 + ((k : Int)).toNat = k := by omega
        have hlen := app_len (fun i => F i + y) k tl
        show forceSt (st12 m a b l y B F n ca k tl) _
        conv => whnf
        refine tst_in (fun hlt => ?_) (fun hge => ?_)
        · skip
          have hlt : k < n := by simp at hlt; omega
          have hv := hF k hlt
          have f4 := okS_out (h4 k hlt)
          conv => whnf
          repeat (first
            | (refine And.intro ?_ ?_; (focus (first | omega | decide | exact Int.natCast_nonneg _ | ((repeat' refine And.intro ?_ ?_) <;> first | omega | exact Int.natCast_nonneg _ | (simp only [i64max]; omega) | (simp only [u8max]; omega) | (simp only [i64max, u8max, u16max, u32max, u64max]; omega) | (simp [mulSz, Cont.len, bne]; done) | (simp [mulSz, Cont.len, bne]; omega)))); conv => whnf)
            | (refine tst_in ?_ ?_; (focus (intro h_; exfalso; first | omega | ((try simp only [decide_eq_true_eq, decide_eq_false_iff_not] at h_); omega) | (simp [mulSz, Cont.len, bne] at h_; done) | (simp [mulSz, Cont.len, bne] at h_; omega))); intro _; conv => whnf)
            | (refine tst_in ?_ ?_; rotate_left; (focus (intro h_; exfalso; first | omega | ((try simp only [decide_eq_true_eq, decide_eq_false_iff_not] at h_); omega) | (simp [mulSz, Cont.len, bne] at h_; done) | (simp [mulSz, Cont.len, bne] at h_; omega))); intro _; conv => whnf))
          rw [hX0, hv.1]
          conv => whnf
          repeat (first
            | (refine And.intro ?_ ?_; (focus (first | omega | decide | exact Int.natCast_nonneg _ | ((repeat' refine And.intro ?_ ?_) <;> first | omega | exact Int.natCast_nonneg _ | (simp only [i64max]; omega) | (simp only [u8max]; omega) | (simp only [i64max, u8max, u16max, u32max, u64max]; omega) | (simp [mulSz, Cont.len, bne]; done) | (simp [mulSz, Cont.len, bne]; omega)))); conv => whnf)
            | (refine tst_in ?_ ?_; (focus (intro h_; exfalso; first | omega | ((try simp only [decide_eq_true_eq, decide_eq_false_iff_not] at h_); omega) | (simp [mulSz, Cont.len, bne] at h_; done) | (simp [mulSz, Cont.len, bne] at h_; omega))); intro _; conv => whnf)
            | (refine tst_in ?_ ?_; rotate_left; (focus (intro h_; exfalso; first | omega | ((try simp only [decide_eq_true_eq, decide_eq_false_iff_not] at h_); omega) | (simp [mulSz, Cont.len, bne] at h_; done) | (simp [mulSz, Cont.len, bne] at h_; omega))); intro _; conv => whnf))
          refine And.intro ?_ ?_
          · skip
            refine And.intro ?_ ?_
            · skip
              conv => whnf
              repeat (first
                | (refine And.intro ?_ ?_; (focus (first | omega | decide | exact Int.natCast_nonneg _ | ((repeat' refine And.intro ?_ ?_) <;> first | omega | exact Int.natCast_nonneg _ | (simp only [i64max]; omega) | (simp only [u8max]; omega) | (simp only [i64max, u8max, u16max, u32max, u64max]; omega) | (simp [mulSz, Cont.len, bne, hlen]; done) | (simp [mulSz, Cont.len, bne, hlen]; omega)))); conv => whnf)
                | (refine tst_in ?_ ?_; (focus (intro h_; exfalso; first | omega | ((try simp only [decide_eq_true_eq, decide_eq_false_iff_not] at h_); omega) | (simp [mulSz, Cont.len, bne, hlen] at h_; done) | (simp [mulSz, Cont.len, bne, hlen] at h_; omega))); intro _; conv => whnf)
                | (refine tst_in ?_ ?_; rotate_left; (focus (intro h_; exfalso; first | omega | ((try simp only [decide_eq_true_eq, decide_eq_false_iff_not] at h_); omega) | (simp [mulSz, Cont.len, bne, hlen] at h_; done) | (simp [mulSz, Cont.len, bne, hlen] at h_; omega))); intro _; conv => whnf))
              intro (tl2 : List Int)
              conv => whnf
              repeat (first
                | (refine And.intro ?_ ?_; (focus (first | omega | decide | exact Int.natCast_nonneg _ | ((repeat' refine And.intro ?_ ?_) <;> first | omega | exact Int.natCast_nonneg _ | (simp only [i64max]; omega) | (simp only [u8max]; omega) | (simp only [i64max, u8max, u16max, u32max, u64max]; omega) | (simp [mulSz, Cont.len, bne]; done) | (simp [mulSz, Cont.len, bne]; omega)))); conv => whnf)
                | (refine tst_in ?_ ?_; (focus (intro h_; exfalso; first | omega | ((try simp only [decide_eq_true_eq, decide_eq_false_iff_not] at h_); omega) | (simp [mulSz, Cont.len, bne] at h_; done) | (simp [mulSz, Cont.len, bne] at h_; omega))); intro _; conv => whnf)
                | (refine tst_in ?_ ?_; rotate_left; (focus (intro h_; exfalso; first | omega | ((try simp only [decide_eq_true_eq, decide_eq_false_iff_not] at h_); omega) | (simp [mulSz, Cont.len, bne] at h_; done) | (simp [mulSz, Cont.len, bne] at h_; omega))); intro _; conv => whnf))
              refine ⟨[0, 1, 2, 3, 6], ((k + 1, tl2) : Nat × List Int), ?_, (by show k + 1 ≤ n; omega), (by show n - (k + 1) < n - k; omega)⟩
              show stLe _ _ (st12 m a b l y B F n ca (k + 1) tl2) _
              conv => whnf
              repeat' (first | exact True.intro | rfl | refine And.intro ?_ ?_)
              all_goals (conv => whnf)
              repeat' (first | exact True.intro | rfl | refine And.intro ?_ ?_)
              all_goals (try omega)
              · skip
                show tab (fun i => F i + y) (k + 1) ++ tl2 = List.take k (List.drop 0 (tab (fun i => F i + y) k ++ tl)) ++ List.take 1 (List.drop 0 [F k + y]) ++ tl2
                rw [List.drop_zero, take_tab _ _ (Nat.le_refl k), ← tab_snoc]; rfl
            · skip
              refine And.intro ?_ ?_
              · skip
                conv => whnf
                repeat (first
                  | (refine And.intro ?_ ?_; (focus (first | omega | decide | exact Int.natCast_nonneg _ | ((repeat' refine And.intro ?_ ?_) <;> first | omega | exact Int.natCast_nonneg _ | (simp only [i64max]; omega) | (simp only [u8max]; omega) | (simp only [i64max, u8max, u16max, u32max, u64max]; omega) | (simp [mulSz, Cont.len, bne, hlen]; done) | (simp [mulSz, Cont.len, bne, hlen]; omega)))); conv => whnf)
                  | (refine tst_in ?_ ?_; (focus (intro h_; exfalso; first | omega | ((try simp only [decide_eq_true_eq, decide_eq_false_iff_not] at h_); omega) | (simp [mulSz, Cont.len, bne, hlen] at h_; done) | (simp [mulSz, Cont.len, bne, hlen] at h_; omega))); intro _; conv => whnf)
                  | (refine tst_in ?_ ?_; rotate_left; (focus (intro h_; exfalso; first | omega | ((try simp only [decide_eq_true_eq, decide_eq_false_iff_not] at h_); omega) | (simp [mulSz, Cont.len, bne, hlen] at h_; done) | (simp [mulSz, Cont.len, bne, hlen] at h_; omega))); intro _; conv => whnf))
                intro (tl2 : List Int)
                conv => whnf
                repeat (first
                  | (refine And.intro ?_ ?_; (focus (first | omega | decide | exact Int.natCast_nonneg _ | ((repeat' refine And.intro ?_ ?_) <;> first | omega | exact Int.natCast_nonneg _ | (simp only [i64max]; omega) | (simp only [u8max]; omega) | (simp only [i64max, u8max, u16max, u32max, u64max]; omega) | (simp [mulSz, Cont.len, bne]; done) | (simp [mulSz, Cont.len, bne]; omega)))); conv => whnf)
                  | (refine tst_in ?_ ?_; (focus (intro h_; exfalso; first | omega | ((try simp only [decide_eq_true_eq, decide_eq_false_iff_not] at h_); omega) | (simp [mulSz, Cont.len, bne] at h_; done) | (simp [mulSz, Cont.len, bne] at h_; omega))); intro _; conv => whnf)
                  | (refine tst_in ?_ ?_; rotate_left; (focus (intro h_; exfalso; first | omega | ((try simp only [decide_eq_true_eq, decide_eq_false_iff_not] at h_); omega) | (simp [mulSz, Cont.len, bne] at h_; done) | (simp [mulSz, Cont.len, bne] at h_; omega))); intro _; conv => whnf))
                refine ⟨[0, 1, 2, 3, 6], ((k + 1, tl2) : Nat × List Int), ?_, (by show k + 1 ≤ n; omega), (by show n - (k + 1) < n - k; omega)⟩
                show stLe _ _ (st12 m a b l y B F n ca (k + 1) tl2) _
                conv => whnf
                repeat' (first | exact True.intro | rfl | refine And.intro ?_ ?_)
                all_goals (conv => whnf)
                repeat' (first | exact True.intro | rfl | refine And.intro ?_ ?_)
                all_goals (try omega)
                · skip
                  show tab (fun i => F i + y) (k + 1) ++ tl2 = List.take k (List.drop 0 (tab (fun i => F i + y) k ++ tl)) ++ List.take 1 (List.drop 0 [F k + y]) ++ tl2
                  rw [List.drop_zero, take_tab _ _ (Nat.le_refl k), ← tab_snoc]; rfl
              · skip
                exact True.intro
          · skip
            refine And.intro ?_ ?_
            · skip
              conv => whnf
              repeat (first
                | (refine And.intro ?_ ?_; (focus (first | omega | decide | exact Int.natCast_nonneg _ | ((repeat' refine And.intro ?_ ?_) <;> first | omega | exact Int.natCast_nonneg _ | (simp only [i64max]; omega) | (simp only [u8max]; omega) | (simp only [i64max, u8max, u16max, u32max, u64max]; omega) | (simp [mulSz, Cont.len, bne, hlen]; done) | (simp [mulSz, Cont.len, bne, hlen]; omega)))); conv => whnf)
                | (refine tst_in ?_ ?_; (focus (intro h_; exfalso; first | omega | ((try simp only [decide_eq_true_eq, decide_eq_false_iff_not] at h_); omega) | (simp [mulSz, Cont.len, bne, hlen] at h_; done) | (simp [mulSz, Cont.len, bne, hlen] at h_; omega))); intro _; conv => whnf)
                | (refine tst_in ?_ ?_; rotate_left; (focus (intro h_; exfalso; first | omega | ((try simp only [decide_eq_true_eq, decide_eq_false_iff_not] at h_); omega) | (simp [mulSz, Cont.len, bne, hlen] at h_; done) | (simp [mulSz, Cont.len, bne, hlen] at h_; omega))); intro _; conv => whnf))
              intro (tl2 : List Int)
              conv => whnf
              repeat (first
                | (refine And.intro ?_ ?_; (focus (first | omega | decide | exact Int.natCast_nonneg _ | ((repeat' refine And.intro ?_ ?_) <;> first | omega | exact Int.natCast_nonneg _ | (simp only [i64max]; omega) | (simp only [u8max]; omega) | (simp only [i64max, u8max, u16max, u32max, u64max]; omega) | (simp [mulSz, Cont.len, bne]; done) | (simp [mulSz, Cont.len, bne]; omega)))); conv => whnf)
                | (refine tst_in ?_ ?_; (focus (intro h_; exfalso; first | omega | ((try simp only [decide_eq_true_eq, decide_eq_false_iff_not] at h_); omega) | (simp [mulSz, Cont.len, bne] at h_; done) | (simp [mulSz, Cont.len, bne] at h_; omega))); intro _; conv => whnf)
                | (refine tst_in ?_ ?_; rotate_left; (focus (intro h_; exfalso; first | omega | ((try simp only [decide_eq_true_eq, decide_eq_false_iff_not] at h_); omega) | (simp [mulSz, Cont.len, bne] at h_; done) | (simp [mulSz, Cont.len, bne] at h_; omega))); intro _; conv => whnf))
              refine ⟨[0, 1, 2, 3, 6], ((k + 1, tl2) : Nat × List Int), ?_, (by show k + 1 ≤ n; omega), (by show n - (k + 1) < n - k; omega)⟩
              show stLe _ _ (st12 m a b l y B F n ca (k + 1) tl2) _
              conv => whnf
              repeat' (first | exact True.intro | rfl | refine And.intro ?_ ?_)
              all_goals (conv => whnf)
              repeat' (first | exact True.intro | rfl | refine And.intro ?_ ?_)
              all_goals (try omega)
              · skip
                show tab (fun i => F i + y) (k + 1) ++ tl2 = List.take k (List.drop 0 (tab (fun i => F i + y) k ++ tl)) ++ List.take 1 (List.drop 0 [F k + y]) ++ tl2
                rw [List.drop_zero, take_tab _ _ (Nat.le_refl k), ← tab_snoc]; rfl
            · skip
              exact True.intro
        · skip
          have hge : k = n := by simp at hge; omega
          subst hge
          conv => whnf
          repeat (first
            | (refine And.intro ?_ ?_; (focus (first | omega | decide | exact Int.natCast_nonneg _ | ((repeat' refine And.intro ?_ ?_) <;> first | omega | exact Int.natCast_nonneg _ | (simp only [i64max]; omega) | (simp only [u8max]; omega) | (simp only [i64max, u8max, u16max, u32max, u64max]; omega) | (simp [mulSz, Cont.len, bne]; done) | (simp [mulSz, Cont.len, bne]; omega)))); conv => whnf)
            | (refine tst_in ?_ ?_; (focus (intro h_; exfalso; first | omega | ((try simp only [decide_eq_true_eq, decide_eq_false_iff_not] at h_); omega) | (simp [mulSz, Cont.len, bne] at h_; done) | (simp [mulSz, Cont.len, bne] at h_; omega))); intro _; conv => whnf)
            | (refine tst_in ?_ ?_; rotate_left; (focus (intro h_; exfalso; first | omega | ((try simp only [decide_eq_true_eq, decide_eq_false_iff_not] at h_); omega) | (simp [mulSz, Cont.len, bne] at h_; done) | (simp [mulSz, Cont.len, bne] at h_; omega))); intro _; conv => whnf))
          refine .inl ⟨tl, [0, 4], ?_⟩
          conv => whnf
          repeat' (first | exact True.intro | rfl | refine And.intro ?_ ?_)
          all_goals (conv => whnf)
          repeat' (first | exact True.intro | rfl | refine And.intro ?_ ?_)
          all_goals (try omega)
end Go.Proofs.Ytpbndfocpnemfaa

set_option linter.unusedVariables false
set_option linter.unusedSimpArgs false
namespace Go.Proofs.Ytpbndfocpnemfaa
open Go Go.Fw
def lawSpec (B : List Int) (n ca : Nat) (m a b l y : Int) : FSpec := ⟨[.int .i64 m, .int .i64 a, .int .i64 b, .int .i64 l, .slice 0 0 n ca, .int .i64 y], [.seg false (.ints .i64 B)], [numOut [.dead] (.bool true)]⟩
structure T9 where
  k : Nat
  R : List Int
  D : List Int
  cp : Nat
  cd : Nat
def s9 (B : List Int) (n ca N : Nat) (m a b l p q r s : Int) (x : T9) : St := ⟨anyTo 80 [.any, .any, .any, .any, .slice 0 0 n ca, .any, .any, .any, .any, .any, .any, .any, .any, .ptr 2 0, .ptr 4 0, .any, .any, .any, .int .i64 x.k], [.seg false (.ints .i64 B), .seg true (.ints .i64 x.D), plc m a b (.slice 1 0 n x.cd) l, .seg true (.ints .i64 x.R), plc p q r (.slice 3 0 N x.cp) s]⟩
def i9 (B : List Int) (n ca N : Nat) (m a b l p q r s : Int) : LInv := ⟨T9, fun x => s9 B n ca N m a b l p q r s x, fun x => x.k ≤ N ∧ N ≤ x.R.length ∧ n ≤ x.D.length ∧ ∀ i, i < n → x.D.getD i 0 = B.getD i 0, fun x => N - x.k⟩
def s13 (B : List Int) (n ca : Nat) (m a b l : Int) (k : Nat) (D : List Int) (cd : Nat) : St := ⟨anyTo 80 [.any, .any, .any, .any, .slice 0 0 n ca, .any, .any, .any, .any, .any, .any, .any, .any, .ptr 2 0, .any, .any, .any, .any, .any, .int .i64 k], [.seg false (.ints .i64 B), .seg true (.ints .i64 D), plc m a b (.slice 1 0 n cd) l]⟩
def i13 (B : List Int) (n ca : Nat) (m a b l : Int) : LInv := ⟨Nat × List Int × Nat, fun x => s13 B n ca m a b l x.1 x.2.1 x.2.2, fun x => x.1 ≤ n ∧ n ≤ x.2.1.length ∧ ∀ i, i < n → x.2.1.getD i 0 = B.getD i 0, fun x => n - x.1⟩
noncomputable def c3 : Code := (Try.f3.body).getD .skip
set_option maxHeartbeats 0 in
set_option maxRecDepth 100000 in
theorem law_R (B : List Int) (n ca : Nat) (m a b l y : Int) (hB : n ≤ B.length) (hca : n ≤ ca) (hn : n ≤ 17592186043904) (hm : i64r m) (ha : i64r a) (hb : i64r b) (hl : i64r l) (hy : i64r y) (hBr : ∀ i, i < n → i64r (B.getD i 0)) (V : Bool) (hV : vl m a b l y (fun i => B.getD i 0) n = V) (N : Nat) (hN : (if V then n else 0) = N) (E : Int) (hE : (if V then (0 : Int) else 1) = E) :
    Fits Try.prog 3 (lawSpec B n ca m a b l y) := by
  have hNn : N ≤ n := by subst hN; split <;> omega
  have hDl : ∀ tl : List Int, n ≤ (List.take n B ++ tl).length := fun tl => by rw [List.length_append, List.length_take, Nat.min_eq_left hB]; omega
  have hDg : ∀ (tl : List Int) i, i < n → (List.take n B ++ tl).getD i 0 = B.getD i 0 := fun tl i hi => by
    rw [getD_l _ _ _ (by rw [List.length_take, Nat.min_eq_left hB]; exact hi), getD_take _ _ _ hi]
  have SH := fun tl : List Int => Shift_f m a b l y (List.take n B ++ tl) (fun i => B.getD i 0) n (n + tl.length) (hDl tl) (by omega) hn (fun i hi => ⟨hDg tl i hi, hBr i hi⟩) hm ha hb hl hy V hV
  have RS := fun tl : List Int => rShift_f m a b l y (List.take n B ++ tl) (fun i => B.getD i 0) n (n + tl.length) (hDl tl) (by omega) hn (fun i hi => ⟨hDg tl i hi, hBr i hi⟩) hm ha hb hl hy V hV
  unfold shOut at SH RS
  rw [hN, hE] at SH RS
  have SA := fun (t1 t2 : List Int) => same_f (rs V m y) (rs V a y) (rs V b y) (rs V l y) (tab (fun i => B.getD i 0 + y) N ++ t1) (tab (fun i => B.getD i 0 + y) N ++ t2) N (N + t1.length) (N + t2.length) (by rw [app_len]; omega) (by rw [app_len]; omega) (by omega) (fun i hi => by rw [tab_app _ _ _ hi, tab_app _ _ _ hi])
  refine fits_of_body (C := cfgs 1) (c := c3) (ts := [12]) tok mixed (fun | 9 => some (i9 B n ca N m a b l (rs V m y) (rs V a y) (rs V b y) (rs V l y)) | 13 => some (i13 B n ca m a b l) | _ => none) (fun _ => none)
    Try.func3 (by kernel_rfl) (by kernel_rfl) (by kernel_rfl) (by kernel_rfl) rfl ?_
  conv => whnf
  repeat (first
    | (refine And.intro ?_ ?_; (focus (first | omega | decide | exact Int.natCast_nonneg _ | ((repeat' refine And.intro ?_ ?_) <;> first | omega | exact Int.natCast_nonneg _ | (simp only [i64max]; omega) | (simp only [u8max]; omega) | (simp only [i64max, u8max, u16max, u32max, u64max]; omega) | (simp [mulSz, Cont.len, bne]; done) | (simp [mulSz, Cont.len, bne]; omega)))); conv => whnf)
    | (refine tst_in ?_ ?_; (focus (intro h_; exfalso; first | omega | ((try simp only [decide_eq_true_eq, decide_eq_false_iff_not] at h_); omega) | (simp [mulSz, Cont.len, bne] at h_; done) | (simp [mulSz, Cont.len, bne] at h_; omega))); intro _; conv => whnf)
    | (refine tst_in ?_ ?_; rotate_left; (focus (intro h_; exfalso; first | omega | ((try simp only [decide_eq_true_eq, decide_eq_false_iff_not] at h_); omega) | (simp [mulSz, Cont.len, bne] at h_; done) | (simp [mulSz, Cont.len, bne] at h_; omega))); intro _; conv => whnf))
  intro (tl : List Int)
  conv => whnf
  repeat (first
    | (refine And.intro ?_ ?_; (focus (first | omega | decide | exact Int.natCast_nonneg _ | ((repeat' refine And.intro ?_ ?_) <;> first | omega | exact Int.natCast_nonneg _ | (simp only [i64max]; omega) | (simp only [u8max]; omega) | (simp only [i64max, u8max, u16max, u32max, u64max]; omega) | (simp [mulSz, Cont.len, bne]; done) | (simp [mulSz, Cont.len, bne]; omega)))); conv => whnf)
    | (refine tst_in ?_ ?_; (focus (intro h_; exfalso; first | omega | ((try simp only [decide_eq_true_eq, decide_eq_false_iff_not] at h_); omega) | (simp [mulSz, Cont.len, bne] at h_; done) | (simp [mulSz, Cont.len, bne] at h_; omega))); intro _; conv => whnf)
    | (refine tst_in ?_ ?_; rotate_left; (focus (intro h_; exfalso; first | omega | ((try simp only [decide_eq_true_eq, decide_eq_false_iff_not] at h_); omega) | (simp [mulSz, Cont.len, bne] at h_; done) | (simp [mulSz, Cont.len, bne] at h_; omega))); intro _; conv => whnf))
  rw [show List.take (mulSz ({ d := Ty.int IntKind.i64, size := 1, bytes := 8, zero := Value.int IntKind.i64 0 } : TyI).size 0) (List.drop 0 ([] : List Int)) ++ List.take (mulSz ({ d := Ty.int IntKind.i64, size := 1, bytes := 8, zero := Value.int IntKind.i64 0 } : TyI).size n) (List.drop 0 B) ++ tl = List.take n B ++ tl from rfl, show 0 + n = n from Nat.zero_add n]
  refine ⟨_, [2], SH tl, ?_⟩
  conv => whnf
  refine ⟨?_, ?_, ?_⟩
  · conv => whnf
    repeat' (first | exact True.intro | rfl | refine And.intro ?_ ?_)
    all_goals (conv => whnf)
    repeat' (first | exact True.intro | rfl | refine And.intro ?_ ?_)
    all_goals (try (first | rfl | omega | (simp; done) | (simp; omega)))
  · conv => whnf
    repeat' (first | exact True.intro | rfl | refine And.intro ?_ ?_)
    all_goals (conv => whnf)
    repeat' (first | exact True.intro | rfl | refine And.intro ?_ ?_)
    all_goals (try (first | rfl | omega | (simp; done) | (simp; omega)))
  conv => whnf
  refine ⟨?_, True.intro⟩
  rintro (t1 : List Int) -
  conv => whnf
  conv => whnf
  repeat (first
    | (refine And.intro ?_ ?_; (focus (first | omega | decide | exact Int.natCast_nonneg _ | ((repeat' refine And.intro ?_ ?_) <;> first | omega | exact Int.natCast_nonneg _ | (simp only [i64max]; omega) | (simp only [u8max]; omega) | (simp only [i64max, u8max, u16max, u32max, u64max]; omega) | (simp [mulSz, Cont.len, bne]; done) | (simp [mulSz, Cont.len, bne]; omega)))); conv => whnf)
    | (refine tst_in ?_ ?_; (focus (intro h_; exfalso; first | omega | ((try simp only [decide_eq_true_eq, decide_eq_false_iff_not] at h_); omega) | (simp [mulSz, Cont.len, bne] at h_; done) | (simp [mulSz, Cont.len, bne] at h_; omega))); intro _; conv => whnf)
    | (refine tst_in ?_ ?_; rotate_left; (focus (intro h_; exfalso; first | omega | ((try simp only [decide_eq_true_eq, decide_eq_false_iff_not] at h_); omega) | (simp [mulSz, Cont.len, bne] at h_; done) | (simp [mulSz, Cont.len, bne] at h_; omega))); intro _; conv => whnf))
  refine ⟨_, [2], RS tl, ?_⟩
  conv => whnf
  refine ⟨?_, ?_, ?_⟩
  · conv => whnf
    repeat' (first | exact True.intro | rfl | refine And.intro ?_ ?_)
    all_goals (conv => whnf)
    repeat' (first | exact True.intro | rfl | refine And.intro ?_ ?_)
    all_goals (try (first | rfl | omega | (simp; done) | (simp; omega)))
  · conv => whnf
    repeat' (first | exact True.intro | rfl | refine And.intro ?_ ?_)
    all_goals (conv => whnf)
    repeat' (first | exact True.intro | rfl | refine And.intro ?_ ?_)
    all_goals (try (first | rfl | omega | (simp; done) | (simp; omega)))
  conv => whnf
  refine ⟨?_, True.intro⟩
  rintro (t2 : List Int) -
  conv => whnf
  conv => whnf
  repeat (first
    | (refine And.intro ?_ ?_; (focus (first | omega | decide | exact Int.natCast_nonneg _ | ((repeat' refine And.intro ?_ ?_) <;> first | omega | exact Int.natCast_nonneg _ | (simp only [i64max]; omega) | (simp only [u8max]; omega) | (simp only [i64max, u8max, u16max, u32max, u64max]; omega) | (simp [mulSz, Cont.len, bne]; done) | (simp [mulSz, Cont.len, bne]; omega)))); conv => whnf)
    | (refine tst_in ?_ ?_; (focus (intro h_; exfalso; first | omega | ((try simp only [decide_eq_true_eq, decide_eq_false_iff_not] at h_); omega) | (simp [mulSz, Cont.len, bne] at h_; done) | (simp [mulSz, Cont.len, bne] at h_; omega))); intro _; conv => whnf)
    | (refine tst_in ?_ ?_; rotate_left; (focus (intro h_; exfalso; first | omega | ((try simp only [decide_eq_true_eq, decide_eq_false_iff_not] at h_); omega) | (simp [mulSz, Cont.len, bne] at h_; done) | (simp [mulSz, Cont.len, bne] at h_; omega))); intro _; conv => whnf))
  refine ⟨_, [4, 6], SA t1 t2, ?_⟩
  conv => whnf
  refine ⟨?_, ?_, ?_⟩
  · conv => whnf
    repeat' (first | exact True.intro | rfl | refine And.intro ?_ ?_ | omega)
    all_goals (conv => whnf)
    all_goals (try (first | rfl | omega | (simp; done)))
  · conv => whnf
    repeat' (first | exact True.intro | rfl | refine And.intro ?_ ?_ | omega)
    all_goals (conv => whnf)
    all_goals (try (first | rfl | omega | (simp; done)))
  conv => whnf
  refine ⟨?_, True.intro⟩
  intro _ _
  conv => whnf
  conv => whnf
  repeat (first
    | (refine And.intro ?_ ?_; (focus (first | omega | decide | exact Int.natCast_nonneg _ | ((repeat' refine And.intro ?_ ?_) <;> first | omega | exact Int.natCast_nonneg _ | (simp only [i64max]; omega) | (simp only [u8max]; omega) | (simp only [i64max, u8max, u16max, u32max, u64max]; omega) | (simp [mulSz, Cont.len, bne]; done) | (simp [mulSz, Cont.len, bne]; omega)))); conv => whnf)
    | (refine tst_in ?_ ?_; (focus (intro h_; exfalso; first | omega | ((try simp only [decide_eq_true_eq, decide_eq_false_iff_not] at h_); omega) | (simp [mulSz, Cont.len, bne] at h_; done) | (simp [mulSz, Cont.len, bne] at h_; omega))); intro _; conv => whnf)
    | (refine tst_in ?_ ?_; rotate_left; (focus (intro h_; exfalso; first | omega | ((try simp only [decide_eq_true_eq, decide_eq_false_iff_not] at h_); omega) | (simp [mulSz, Cont.len, bne] at h_; done) | (simp [mulSz, Cont.len, bne] at h_; omega))); intro _; conv => whnf))
  refine ⟨⟨[0, 2, 3, 4, 5], (⟨0, tab (fun i => B.getD i 0 + y) N ++ t1, List.take n B ++ tl, N + t1.length, n + tl.length⟩ : T9), ?_, ⟨Nat.zero_le _, (by rw [app_len]; omega), hDl tl, hDg tl⟩⟩, ?_⟩
  · conv => whnf
    repeat' (first | exact True.intro | rfl | refine And.intro ?_ ?_)
    all_goals (conv => whnf)
    repeat' (first | exact True.intro | rfl | refine And.intro ?_ ?_)
    all_goals (try (first | omega | exact True.intro | rfl | assumption | (change LE.le (α := Nat) _ _; first | omega | (simp only []; omega)) | (simp only []; done) | (simp only []; omega) | (simp; done) | (simp; omega)))
  · rintro ⟨k, R, D, cp, cd⟩ ⟨hk, hR, hD, hDB⟩
    have hk : k ≤ N := hk
    have hR : N ≤ R.length := hR
    have hD : n ≤ D.length := hD
    have hDB : ∀ i, i < n → D.getD i 0 = B.getD i 0 := hDB
    have hX0 : 0 + ((k : Int)).toNat = k := by omega
    show forceSt (s9 B n ca N m a b l (rs V m y) (rs V a y) (rs V b y) (rs V l y) ⟨k, R, D, cp, cd⟩) _
    conv => whnf
    refine tst_in (fun hlt => ?_) (fun hge => ?_)
    · skip
      have hlt : k < N := by simp at hlt; omega
      conv => whnf
      repeat (first
        | (refine And.intro ?_ ?_; (focus (first | omega | decide | exact Int.natCast_nonneg _ | ((repeat' refine And.intro ?_ ?_) <;> first | omega | exact Int.natCast_nonneg _ | (simp only [i64max]; omega) | (simp only [u8max]; omega) | (simp only [i64max, u8max, u16max, u32max, u64max]; omega) | (simp [mulSz, Cont.len, bne]; done) | (simp [mulSz, Cont.len, bne]; omega)))); conv => whnf)
        | (refine tst_in ?_ ?_; (focus (intro h_; exfalso; first | omega | ((try simp only [decide_eq_true_eq, decide_eq_false_iff_not] at h_); omega) | (simp [mulSz, Cont.len, bne] at h_; done) | (simp [mulSz, Cont.len, bne] at h_; omega))); intro _; conv => whnf)
        | (refine tst_in ?_ ?_; rotate_left; (focus (intro h_; exfalso; first | omega | ((try simp only [decide_eq_true_eq, decide_eq_false_iff_not] at h_); omega) | (simp [mulSz, Cont.len, bne] at h_; done) | (simp [mulSz, Cont.len, bne] at h_; omega))); intro _; conv => whnf))
      refine ⟨[0, 1, 2, 3, 4], (⟨k + 1, R.set (0 + ((k : Int)).toNat) (-1), D, cp, cd⟩ : T9), ?_, ⟨(by show k + 1 ≤ N; omega), (by show N ≤ (R.set _ _).length; rw [List.length_set]; exact hR), hD, hDB⟩, (by show N - (k + 1) < N - k; omega)⟩
      conv => whnf
      repeat' (first | exact True.intro | rfl | refine And.intro ?_ ?_)
      all_goals (conv => whnf)
      repeat' (first | exact True.intro | rfl | refine And.intro ?_ ?_)
      all_goals (try (first | omega | exact True.intro | rfl | assumption | (change LE.le (α := Nat) _ _; first | omega | (simp only []; omega)) | (simp only []; done) | (simp only []; omega) | (simp; done) | (simp; omega)))
    · skip
      conv => whnf
      repeat (first
        | (refine And.intro ?_ ?_; (focus (first | omega | decide | exact Int.natCast_nonneg _ | ((repeat' refine And.intro ?_ ?_) <;> first | omega | exact Int.natCast_nonneg _ | (simp only [i64max]; omega) | (simp only [u8max]; omega) | (simp only [i64max, u8max, u16max, u32max, u64max]; omega) | (simp [mulSz, Cont.len, bne]; done) | (simp [mulSz, Cont.len, bne]; omega)))); conv => whnf)
        | (refine tst_in ?_ ?_; (focus (intro h_; exfalso; first | omega | ((try simp only [decide_eq_true_eq, decide_eq_false_iff_not] at h_); omega) | (simp [mulSz, Cont.len, bne] at h_; done) | (simp [mulSz, Cont.len, bne] at h_; omega))); intro _; conv => whnf)
        | (refine tst_in ?_ ?_; rotate_left; (focus (intro h_; exfalso; first | omega | ((try simp only [decide_eq_true_eq, decide_eq_false_iff_not] at h_); omega) | (simp [mulSz, Cont.len, bne] at h_; done) | (simp [mulSz, Cont.len, bne] at h_; omega))); intro _; conv => whnf))
      refine ⟨⟨[0, 1, 2], ((0, D, cd) : Nat × List Int × Nat), ?_, ⟨Nat.zero_le _, hD, hDB⟩⟩, ?_⟩
      · conv => whnf
        repeat' (first | exact True.intro | rfl | refine And.intro ?_ ?_)
        all_goals (conv => whnf)
        repeat' (first | exact True.intro | rfl | refine And.intro ?_ ?_)
        all_goals (try (first | omega | exact True.intro | rfl | assumption | (change LE.le (α := Nat) _ _; first | omega | (simp only []; omega)) | (simp only []; done) | (simp only []; omega) | (simp; done) | (simp; omega)))
      · rintro ⟨j, D, cd⟩ ⟨hj, hD, hDB⟩
        have hj : j ≤ n := hj
        have hD : n ≤ D.length := hD
        have hDB : ∀ i, i < n → D.getD i 0 = B.getD i 0 := hDB
        have hX0 : 0 + ((j : Int)).toNat = j := by omega
        show forceSt (s13 B n ca m a b l j D cd) _
        conv => whnf
        refine tst_in (fun hlt => ?_) (fun hge => ?_)
        · skip
          have hlt : j < n := by simp at hlt; omega
          have hv := hDB j hlt
          conv => whnf
          repeat (first
            | (refine And.intro ?_ ?_; (focus (first | omega | decide | exact Int.natCast_nonneg _ | ((repeat' refine And.intro ?_ ?_) <;> first | omega | exact Int.natCast_nonneg _ | (simp only [i64max]; omega) | (simp only [u8max]; omega) | (simp only [i64max, u8max, u16max, u32max, u64max]; omega) | (simp [mulSz, Cont.len, bne]; done) | (simp [mulSz, Cont.len, bne]; omega)))); conv => whnf)
            | (refine tst_in ?_ ?_; (focus (intro h_; exfalso; first | omega | ((try simp only [decide_eq_true_eq, decide_eq_false_iff_not] at h_); omega) | (simp [mulSz, Cont.len, bne] at h_; done) | (simp [mulSz, Cont.len, bne] at h_; omega))); intro _; conv => whnf)
            | (refine tst_in ?_ ?_; rotate_left; (focus (intro h_; exfalso; first | omega | ((try simp only [decide_eq_true_eq, decide_eq_false_iff_not] at h_); omega) | (simp [mulSz, Cont.len, bne] at h_; done) | (simp [mulSz, Cont.len, bne] at h_; omega))); intro _; conv => whnf))
          rw [hX0, hv]
          conv => whnf
          repeat (first
            | (refine And.intro ?_ ?_; (focus (first | omega | decide | exact Int.natCast_nonneg _ | ((repeat' refine And.intro ?_ ?_) <;> first | omega | exact Int.natCast_nonneg _ | (simp only [i64max]; omega) | (simp only [u8max]; omega) | (simp only [i64max, u8max, u16max, u32max, u64max]; omega) | (simp [mulSz, Cont.len, bne]; done) | (simp [mulSz, Cont.len, bne]; omega)))); conv => whnf)
            | (refine tst_in ?_ ?_; (focus (intro h_; exfalso; first | omega | ((try simp only [decide_eq_true_eq, decide_eq_false_iff_not] at h_); omega) | (simp [mulSz, Cont.len, bne] at h_; done) | (simp [mulSz, Cont.len, bne] at h_; omega))); intro _; conv => whnf)
            | (refine tst_in ?_ ?_; rotate_left; (focus (intro h_; exfalso; first | omega | ((try simp only [decide_eq_true_eq, decide_eq_false_iff_not] at h_); omega) | (simp [mulSz, Cont.len, bne] at h_; done) | (simp [mulSz, Cont.len, bne] at h_; omega))); intro _; conv => whnf))
          refine ⟨[0, 1, 2], ((j + 1, D, cd) : Nat × List Int × Nat), ?_, ⟨(by show j + 1 ≤ n; omega), hD, hDB⟩, (by show n - (j + 1) < n - j; omega)⟩
          conv => whnf
          repeat' (first | exact True.intro | rfl | refine And.intro ?_ ?_)
          all_goals (conv => whnf)
          repeat' (first | exact True.intro | rfl | refine And.intro ?_ ?_)
          all_goals (try (first | omega | exact True.intro | rfl | assumption | (change LE.le (α := Nat) _ _; first | omega | (simp only []; omega)) | (simp only []; done) | (simp only []; omega) | (simp; done) | (simp; omega)))
        · skip
          conv => whnf
          repeat (first
            | (refine And.intro ?_ ?_; (focus (first | omega | decide | exact Int.natCast_nonneg _ | ((repeat' refine And.intro ?_ ?_) <;> first | omega | exact Int.natCast_nonneg _ | (simp only [i64max]; omega) | (simp only [u8max]; omega) | (simp only [i64max, u8max, u16max, u32max, u64max]; omega) | (simp [mulSz, Cont.len, bne]; done) | (simp [mulSz, Cont.len, bne]; omega)))); conv => whnf)
            | (refine tst_in ?_ ?_; (focus (intro h_; exfalso; first | omega | ((try simp only [decide_eq_true_eq, decide_eq_false_iff_not] at h_); omega) | (simp [mulSz, Cont.len, bne] at h_; done) | (simp [mulSz, Cont.len, bne] at h_; omega))); intro _; conv => whnf)
            | (refine tst_in ?_ ?_; rotate_left; (focus (intro h_; exfalso; first | omega | ((try simp only [decide_eq_true_eq, decide_eq_false_iff_not] at h_); omega) | (simp [mulSz, Cont.len, bne] at h_; done) | (simp [mulSz, Cont.len, bne] at h_; omega))); intro _; conv => whnf))
          refine .inl ⟨(), [0], ?_⟩
          conv => whnf
          repeat' (first | exact True.intro | rfl | refine And.intro ?_ ?_)
          all_goals (conv => whnf)
          repeat' (first | exact True.intro | rfl | refine And.intro ?_ ?_)
          all_goals (try (first | omega | exact True.intro | rfl | assumption | (change LE.le (α := Nat) _ _; first | omega | (simp only []; omega)) | (simp only []; done) | (simp only []; omega) | (simp; done) | (simp; omega)))
theorem wf64 {x : Int} (h : (Lit.int .i64 x).wf = true) : i64r x := by
  simp only [Lit.wf, Bool.and_eq_true, decide_eq_true_eq, show IntKind.min .i64 = -9223372036854775808 from rfl, show IntKind.max .i64 = 9223372036854775807 from rfl] at h
  exact h
theorem law_f (B : List Int) (n ca : Nat) (m a b l y : Int) (hn : n ≤ ca) (hB : B.length = ca) (hN : n * 8 ≤ 140737488351232) (hw : ∀ x ∈ B, (Lit.int .i64 x).wf = true) (hm : (Lit.int .i64 m).wf = true) (ha : (Lit.int .i64 a).wf = true) (hb : (Lit.int .i64 b).wf = true) (hl : (Lit.int .i64 l).wf = true) (hy : (Lit.int .i64 y).wf = true) :
    Fits Try.prog 3 (lawSpec B n ca m a b l y) :=
  law_R B n ca m a b l y (by omega) hn (by omega) (wf64 hm) (wf64 ha) (wf64 hb) (wf64 hl) (wf64 hy) (fun i hi => by
    rw [List.getD_eq_getElem?_getD, List.getElem?_eq_getElem (show i < B.length by omega)]
    exact wf64 (hw _ (List.getElem_mem (show i < B.length by omega)))) _ rfl _ rfl _ rfl
end Go.Proofs.Ytpbndfocpnemfaa


namespace Go.Proofs.Ytpbndfocpnemfaa
open Go Go.Fw
namespace huntShifts
open Go.ChangeShapes Go.WideShapes Go.ChangeAt Go.RowKit
theorem own : ownKnob Try.prog.godebug = none := by kernel_rfl
theorem laid : laidOutB Try.prog = true := by kernel_rfl

set_option maxRecDepth 100000 in
theorem lifted (os : Os) (started : os.Started) (H : Type) (enc : TypeId × Value → H) :
    ReturnsInHanded {} Try.checked os 3 .any (Rows.huntShiftsSpec.pre6 enc Try.prog Try.f3 Rows.huntShiftsRow.domain false) (Rows.huntShiftsSpec.post enc Try.prog Try.f3 false true false false) := by
  refine returnsInHanded_of_change_sized (C := Try.checked) own started (by kernel_rfl) Try.func3
    (ChangeSpec.witness6 (enc := enc) (C := Try.checked) false ⟨#[], #[.int .i64 0, .int .i64 0, .int .i64 0, .int .i64 0, .slice none 0 0, .int .i64 0], []⟩ 8 (by kernel_rfl) (by kernel_rfl) (by kernel_rfl) (by kernel_rfl)) ?_
  intro W base args ds gs before hval0 hW _ hsz0 _
  have hsz : (DataW.weightsEach Try.prog (Try.f3.params.toList ++ Rows.huntShiftsSpec.plain.varTypes Try.prog) (ds ++ gs)).all (· ≤ reachBytes) = true := hsz0
  clear hsz0
  have hval : ∀ (j : Nat) t v, Try.f3.params[j]? = some t → args[j]? = some v → Value.okWide Try.prog W .any base t v := hval0
  have hW' := hW
  obtain ⟨p, q, hA0, hV, rfl, hfz, hnd⟩ := hW
  have hA : DataW.TrodAll enc Try.prog W 0 (fun _ => true) true Try.f3.params.toList args.toList ds p := hA0
  rw [Try.params3] at hA hval hsz
  obtain ⟨v0, vs0, d0, ds0, p0, q0, hargs, rfl, rfl, h0, r0⟩ := trodAll_cons hA
  obtain ⟨v1, vs1, d1, ds1, p1, q1, rfl, rfl, rfl, h1, r1⟩ := trodAll_cons r0
  obtain ⟨v2, vs2, d2, ds2, p2, q2, rfl, rfl, rfl, h2, r2⟩ := trodAll_cons r1
  obtain ⟨v3, vs3, d3, ds3, p3, q3, rfl, rfl, rfl, h3, r3⟩ := trodAll_cons r2
  obtain ⟨v4, vs4, d4, ds4, p4, q4, rfl, rfl, rfl, h4, r4⟩ := trodAll_cons r3
  obtain ⟨v5, vs5, d5, ds5, p5, q5, rfl, rfl, rfl, h5, r5⟩ := trodAll_cons r4
  obtain ⟨rfl, rfl, rfl⟩ := trodAll_nil r5
  obtain rfl : args = #[v0, v1, v2, v3, v4, v5] := by cases args; simp_all
  obtain ⟨rfl, rfl⟩ := trodVars_none hV
  obtain ⟨k0, rfl, rfl, rfl, w0⟩ := open_int Try.underlying3 (hval 0 3 v0 rfl rfl) h0
  obtain ⟨k1, rfl, rfl, rfl, w1⟩ := open_int Try.underlying3 (hval 1 3 v1 rfl rfl) h1
  obtain ⟨k2, rfl, rfl, rfl, w2⟩ := open_int Try.underlying3 (hval 2 3 v2 rfl rfl) h2
  obtain ⟨k3, rfl, rfl, rfl, w3⟩ := open_int Try.underlying3 (hval 3 3 v3 rfl rfl) h3
  obtain ⟨k5, rfl, rfl, rfl, w5⟩ := open_int Try.underlying3 (hval 5 3 v5 rfl rfl) h5
  obtain ⟨a4, l4, z4, hv4⟩ := okWide_slice Try.underlying22 (hval 4 22 v4 rfl rfl)
  obtain ⟨n4, c4, A4, pl4, hn4, hl4, hs4, hw4, hc4⟩ := arg_ints Try.underlying22 Try.underlying3 (by kernel_rfl) hv4 h4
  have by4 : Try.prog.bytesOf 3 = 8 := by kernel_rfl
  have hN4 : n4 * 8 ≤ 140737488351232 := by
    rcases hs4 with ⟨h, _⟩ | ⟨xs, ys, rfl, hx, hy⟩
    · omega
    · have := sized_slice hsz (j := 4) (t := 22) (e := 3) rfl rfl Try.underlying22
      rw [by4] at this
      simp only [reachBytes] at this
      omega
  clear hA0 hval0
  obtain ⟨dd4, cc4⟩ := hc4 [pl4] 0 (by simp) rfl
  have walk := (law_f A4 n4 c4 k0 k1 k2 k3 k5 hn4 hl4 hN4 hw4 w0 w1 w2 w3 w5).calls W [pl4] [.int .i64 k0, .int .i64 k1, .int .i64 k2, .int .i64 k3, v4, .int .i64 k5] (heap_args rfl fun i s hs => by
      match i, hs with
      | 0, hs => simp only [lawSpec, List.getElem?_cons_zero, Option.some.injEq] at hs; subst hs; exact ⟨_, rfl, cc4⟩
      | i + 1, hs => simp [lawSpec] at hs) (by simp only [lawSpec, Dens]; exact ⟨_, _, rfl, by simp [Den], ⟨_, _, rfl, by simp [Den], ⟨_, _, rfl, by simp [Den], ⟨_, _, rfl, by simp [Den], ⟨_, _, rfl, dd4, ⟨_, _, rfl, by simp [Den], rfl⟩⟩⟩⟩⟩⟩) (x := .bool true) (v := .bool true) rfl (by
      intro o ho y hy
      simp [lawSpec] at ho
      subst ho; rfl)
  refine walk.mono fun e W' ⟨he, hg⟩ => ?_
  subst he
  exact ⟨_, rfl, law_done laid rfl rfl Try.underlying4 (by kernel_rfl) hW' rfl hg⟩

theorem over : Rows.huntShiftsRow.holds Try.pinned (OpenSpec.ofChange Rows.huntShiftsSpec) :=
  OpenClaim.holds_of_wide 3 Try.f3 rfl rfl rfl rfl rfl rfl rfl ⟨rfl, rfl, rfl, rfl, rfl⟩ rfl rfl rfl rfl rfl (by kernel_rfl) Try.func3 (by kernel_rfl)
    (of_decide_eq_true (by kernel_rfl)) (by unfold Func.isWrapper; first | (rw [if_pos (by decide +kernel)]; kernel_rfl) | (rw [if_neg (by decide +kernel)]; exact ⟨rfl, rfl⟩))
    (fun os started H enc _ => lifted os started H enc)

theorem proved : Rows.HuntShiftsSaid := over
end huntShifts
end Go.Proofs.Ytpbndfocpnemfaa
