/-
  For all nine orders the two rows of the pair are a Golay pair: their likenesses add up to twice the length at nought and to nothing elsewhere, and the law answers true. No condition.
-/
import Derived.Test.YtpjciaibccddmaaRows
import Derived.Test.YtpjciaibccddmaaFv
import Derived.Test.YtpjciaibccddmaaChecked
import Derived.Test.YtpjciaibccddmaaFa
import Derived.WalkKit
import Derived.ProofKit
import Derived.OpenShut
set_option linter.unusedSimpArgs false
set_option linter.unusedVariables false
set_option linter.unusedVariables false
set_option linter.unusedSimpArgs false
namespace Go.Proofs.Ytpjciaibccddmaa
open Go Go.Fw
def tys : List (Nat × TyI) := [
  (3, ⟨.int .i64, 1, 8, .int .i64 0⟩),
  (4, ⟨.bool, 1, 1, .bool false⟩),
  (23, ⟨.slice 30, 1, 24, .slice none 0 0⟩),
  (24, ⟨.int .i64, 1, 8, .int .i64 0⟩),
  (27, ⟨.slice 3, 1, 24, .slice none 0 0⟩),
  (30, ⟨.int .i8, 1, 1, .int .i8 0⟩)]
theorem tok : TOk Try.prog tys := by
  intro p hp
  simp only [tys, List.mem_cons, List.not_mem_nil, or_false] at hp
  rcases hp with rfl | rfl | rfl | rfl | rfl | rfl
  all_goals exact ⟨by kernel_rfl, by kernel_rfl⟩
theorem mixed : Try.prog.follows .mixedOrders = true := by kernel_rfl
def qf : Nat → Bool := fun f => match f with | 7 => true | _ => false
def cfgs (k : Nat) : Cfg := { T := tys, sgn := fun _ => false, wr := fun _ => false, k := k, q := qf }
theorem i64max : IntKind.i64.max = 9223372036854775807 := rfl
theorem u8max : IntKind.u8.max = 255 := rfl
theorem u16max : IntKind.u16.max = 65535 := rfl
theorem u32max : IntKind.u32.max = 4294967295 := rfl
theorem u64max : IntKind.u64.max = 18446744073709551615 := rfl
def numOut (D : List Seg) (x : AV) : FOut := ⟨Unit, fun _ => True, fun _ => x, fun _ => D⟩
/-- A row by what stands at each place. -/
def tab {α : Type} (f : Nat → α) (n : Nat) : List α := (List.range n).map f
theorem tab_len {α : Type} (f : Nat → α) (n : Nat) : (tab f n).length = n := by simp [tab]
theorem tab_get {α : Type} (f : Nat → α) (d : α) {n i : Nat} (h : i < n) : (tab f n).getD i d = f i := by
  rw [List.getD_eq_getElem?_getD, tab, List.getElem?_map, List.getElem?_range h]; rfl
theorem tab_snoc {α : Type} (f : Nat → α) (n : Nat) : tab f n ++ [f n] = tab f (n + 1) := by simp [tab, List.range_succ]
theorem tab_app {α : Type} (f : Nat → α) (d : α) (t : List α) {n i : Nat} (h : i < n) : (tab f n ++ t).getD i d = f i := by
  rw [List.getD_eq_getElem?_getD, List.getElem?_append_left (by rw [tab_len]; exact h), ← List.getD_eq_getElem?_getD, tab_get f d h]
theorem tab_set {α : Type} (f : Nat → α) (z : α) (k r : Nat) : (tab f k ++ List.replicate (r + 1) z).set k (f k) = tab f (k + 1) ++ List.replicate r z := by
  have e := List.set_append_right k (f k) (s := tab f k) (t := List.replicate (r + 1) z) (by rw [tab_len]; exact Nat.le_refl _)
  rw [e, tab_len, Nat.sub_self, List.replicate_succ, List.set_cons_zero, ← tab_snoc, List.append_assoc]; rfl
theorem tab_congr {α : Type} {f g : Nat → α} {n : Nat} (h : ∀ i, i < n → f i = g i) : tab f n = tab g n := by
  unfold tab
  apply List.map_congr_left
  intro i hi
  exact h i (List.mem_range.1 hi)
theorem app_len {α : Type} (f : Nat → α) (n : Nat) (t : List α) : (tab f n ++ t).length = n + t.length := by rw [List.length_append, tab_len]
def ga : Nat → Nat → Bool → Int
  | 0, _, _ => 1
  | o + 1, i, b => if i < 2 ^ o then ga o i false else (if b then - ga o (i - 2 ^ o) true else ga o (i - 2 ^ o) true)
theorem ga_lo {o i : Nat} (h : i < 2 ^ o) (b : Bool) : ga (o + 1) i b = ga o i false := if_pos h
theorem ga_hi (o j : Nat) : ga (o + 1) (2 ^ o + j) false = ga o j true := by
  show (if 2 ^ o + j < 2 ^ o then _ else _) = _
  rw [if_neg (by omega), Nat.add_sub_cancel_left]; rfl
theorem gb_hi (o j : Nat) : ga (o + 1) (2 ^ o + j) true = - ga o j true := by
  show (if 2 ^ o + j < 2 ^ o then _ else _) = _
  rw [if_neg (by omega), Nat.add_sub_cancel_left]; rfl
theorem ga_one : ∀ (o i : Nat) (b : Bool), ga o i b = 1 ∨ ga o i b = -1
  | 0, _, _ => .inl rfl
  | o + 1, i, b => by
    by_cases h : i < 2 ^ o
    · rw [ga_lo h]; exact ga_one o i false
    · obtain ⟨j, rfl⟩ : ∃ j, i = 2 ^ o + j := ⟨i - 2 ^ o, by omega⟩
      cases b
      · rw [ga_hi]; exact ga_one o j true
      · rw [gb_hi]
        rcases ga_one o j true with h | h <;> rw [h]
        · exact .inr rfl
        · exact .inl rfl
def su (g : Nat → Int) : Nat → Int
  | 0 => 0
  | k + 1 => su g k + g k
theorem su_add (g : Nat → Int) (j : Nat) : ∀ k, su g (j + k) = su g j + su (fun i => g (j + i)) k
  | 0 => by simp [su]
  | k + 1 => by show su g (j + k) + g (j + k) = su g j + (su (fun i => g (j + i)) k + g (j + k)); rw [su_add g j k]; omega
theorem su_congr {f g : Nat → Int} : ∀ {k : Nat}, (∀ i, i < k → f i = g i) → su f k = su g k
  | 0, _ => rfl
  | k + 1, h => by rw [su, su, su_congr (fun i hi => h i (by omega)), h k (by omega)]
theorem su_neg (g : Nat → Int) : ∀ k, su (fun i => - g i) k = - su g k
  | 0 => rfl
  | k + 1 => by rw [su, su, su_neg g k]; omega
def au (F : Nat → Int) (n s : Nat) : Int := su (fun i => F i * F (i + s)) (n - s)
theorem au_split (o s : Nat) (b : Bool) (hs : s ≤ 2 ^ o) : au (fun i => ga (o + 1) i b) (2 ^ (o + 1)) s =
    au (fun i => ga o i false) (2 ^ o) s + (if b then - su (fun j => ga o (2 ^ o - s + j) false * ga o j true) s else su (fun j => ga o (2 ^ o - s + j) false * ga o j true) s) + au (fun i => ga o i true) (2 ^ o) s := by
  have e : 2 ^ (o + 1) = 2 ^ o + 2 ^ o := by rw [Nat.pow_succ]; omega
  unfold au
  rw [show 2 ^ (o + 1) - s = (2 ^ o - s) + s + (2 ^ o - s) by omega, su_add, su_add]
  have h1 : su (fun i => ga (o + 1) i b * ga (o + 1) (i + s) b) (2 ^ o - s) = su (fun i => ga o i false * ga o (i + s) false) (2 ^ o - s) :=
    su_congr fun i hi => by rw [ga_lo (by omega), ga_lo (by omega)]
  have h3 : su (fun i => ga (o + 1) (2 ^ o - s + s + i) b * ga (o + 1) (2 ^ o - s + s + i + s) b) (2 ^ o - s) = su (fun i => ga o i true * ga o (i + s) true) (2 ^ o - s) :=
    su_congr fun i hi => by
      rw [show 2 ^ o - s + s + i = 2 ^ o + i by omega, show 2 ^ o + i + s = 2 ^ o + (i + s) by omega]
      cases b
      · rw [ga_hi, ga_hi]
      · rw [gb_hi, gb_hi, Int.neg_mul_neg]
  have h2 : su (fun i => ga (o + 1) (2 ^ o - s + i) b * ga (o + 1) (2 ^ o - s + i + s) b) s = (if b then - su (fun j => ga o (2 ^ o - s + j) false * ga o j true) s else su (fun j => ga o (2 ^ o - s + j) false * ga o j true) s) := by
    cases b
    · exact su_congr fun i hi => by rw [ga_lo (by omega), show 2 ^ o - s + i + s = 2 ^ o + i by omega, ga_hi]
    · show _ = - _
      rw [← su_neg]
      exact su_congr fun i hi => by rw [ga_lo (by omega), show 2 ^ o - s + i + s = 2 ^ o + i by omega, gb_hi, Int.mul_neg]
  rw [h1, h2, h3]
theorem au_far (o t : Nat) (b : Bool) (ht : t < 2 ^ o) : au (fun i => ga (o + 1) i b) (2 ^ (o + 1)) (2 ^ o + t) = (if b then - su (fun j => ga o j false * ga o (j + t) true) (2 ^ o - t) else su (fun j => ga o j false * ga o (j + t) true) (2 ^ o - t)) := by
  have e : 2 ^ (o + 1) = 2 ^ o + 2 ^ o := by rw [Nat.pow_succ]; omega
  unfold au
  rw [show 2 ^ (o + 1) - (2 ^ o + t) = 2 ^ o - t by omega]
  cases b
  · exact su_congr fun i hi => by
      show ga (o + 1) i false * ga (o + 1) (i + (2 ^ o + t)) false = _
      rw [ga_lo (by omega), show i + (2 ^ o + t) = 2 ^ o + (i + t) by omega, ga_hi]
  · show _ = - _
    rw [← su_neg]
    exact su_congr fun i hi => by
      show ga (o + 1) i true * ga (o + 1) (i + (2 ^ o + t)) true = _
      rw [ga_lo (by omega), show i + (2 ^ o + t) = 2 ^ o + (i + t) by omega, gb_hi, Int.mul_neg]
/-- Golay's identity. -/
theorem golay : ∀ (o s : Nat), s < 2 ^ o → au (fun i => ga o i false) (2 ^ o) s + au (fun i => ga o i true) (2 ^ o) s = if s = 0 then 2 * ((2 ^ o : Nat) : Int) else 0
  | 0, s, h => by
    have : s = 0 := by have : s < 1 := h; omega
    subst this
    decide
  | o + 1, s, h => by
    have e : 2 ^ (o + 1) = 2 ^ o + 2 ^ o := by rw [Nat.pow_succ]; omega
    by_cases hs : s < 2 ^ o
    · have ih := golay o s hs
      rw [au_split o s false (by omega), au_split o s true (by omega), e]
      simp only [if_true, Bool.false_eq_true, if_false]
      split at ih <;> rename_i h0
      · rw [if_pos h0]; omega
      · rw [if_neg h0]; omega
    · obtain ⟨t, rfl⟩ : ∃ t, s = 2 ^ o + t := ⟨s - 2 ^ o, by omega⟩
      have hp := Nat.two_pow_pos o
      rw [au_far o t false (by omega), au_far o t true (by omega), if_neg (show ¬ (2 ^ o + t = 0) by omega)]
      simp only [if_true, Bool.false_eq_true, if_false]
      omega
def fa (o i : Nat) : Int := ga o i false
def fb (o i : Nat) : Int := ga o i true
theorem fa_one (o i : Nat) : fa o i = 1 ∨ fa o i = -1 := ga_one o i false
theorem fb_one (o i : Nat) : fb o i = 1 ∨ fb o i = -1 := ga_one o i true
theorem neg8 {x : Int} (h : x = 1 ∨ x = -1) : IntKind.i8.wrap (0 - x) = -x := by rcases h with h | h <;> rw [h] <;> rfl
theorem tab_add {α : Type} (f : Nat → α) (j : Nat) : ∀ k, tab f (j + k) = tab f j ++ tab (fun i => f (j + i)) k
  | 0 => by show tab f j = tab f j ++ []; rw [List.append_nil]
  | k + 1 => by rw [← Nat.add_assoc, ← tab_snoc, tab_add f j k, ← tab_snoc, List.append_assoc]
end Go.Proofs.Ytpjciaibccddmaa

set_option linter.unusedVariables false
set_option linter.unusedSimpArgs false
namespace Go.Proofs.Ytpjciaibccddmaa
open Go Go.Fw
noncomputable def c8 : Code := (Try.f8.body).getD .skip
def pl8 : PlanL := .lin [0, 2] (.alt 1 (.lin [4, 3, 5] .done) (.alt 3 (.lin [1, 4, 5] .done) .fin))
def cfg8 : Cfg := { T := tys, sgn := fun _ => false, wr := fun _ => false, k := 0, q := qf, plan := fun i => match Nat.beq i 2 with | true => some pl8 | false => none }
def rw8 (f : Nat → Int) (n R : Nat) : Seg := .seg true (.ints .i8 (tab f n ++ List.replicate (R - n) 0))
def st8 (o N R k : Nat) : St := ⟨anyTo 69 [.any, .any, .any, .any, .slice 0 0 (2 * N) R, .slice 1 0 (2 * N) R, .int .i64 N, .any, .any, .any, .any, .any, .any, .any, .any, .any, .any, .any, .any, .any, .any, .any, .any, .any, .any, .any, .any, .any, .any, .any, .any, .any, .any, .any, .any, .any, .any, .any, .any, .any, .any, .any, .any, .any, .any, .any, .any, .any, .any, .any, .any, .any, .slice 0 N N (R - N), .int .i64 N, .int .i64 k], [rw8 (fa (o + 1)) (2 * N) R, .seg true (.ints .i8 (tab (fb (o + 1)) (N + k) ++ List.replicate (R - (N + k)) 0))]⟩
def inv8 (o N R : Nat) : LInv := ⟨Nat, fun k => st8 o N R k, fun k => k ≤ N, fun k => N - k⟩
def pairOut (o R : Nat) : FOut := ⟨Unit, fun _ => True, fun _ => .tup [.slice 0 0 (2 ^ o) R, .slice 1 0 (2 ^ o) R], fun _ => [rw8 (fa o) (2 ^ o) R, rw8 (fb o) (2 ^ o) R]⟩
set_option maxHeartbeats 0 in
set_option maxRecDepth 100000 in
theorem pair0 (R : Nat) (hR : R ≤ 256) (h1 : 1 ≤ R) : Fits Try.prog 8 ⟨[.int .i64 (0 : Nat), .int .i64 R], [], [pairOut 0 R]⟩ := by
  have hto : ((R : Nat) : Int).toNat = R := by omega
  obtain ⟨r, hr⟩ : ∃ r, R = r + 1 := ⟨R - 1, by omega⟩
  refine fits_of_body (C := cfg8) (c := c8) (ts := [4, 5]) tok mixed (fun _ => none) (fun _ => none)
    Try.func8 (by kernel_rfl) (by kernel_rfl) (by kernel_rfl) (by kernel_rfl) rfl ?_
  conv => whnf
  repeat (first
    | (refine And.intro ?_ ?_; (focus (first | omega | decide | exact Int.natCast_nonneg _ | ((repeat' refine And.intro ?_ ?_) <;> first | omega | exact Int.natCast_nonneg _ | (simp only [i64max]; omega) | (simp only [u8max]; omega) | (simp only [i64max, u8max, u16max, u32max, u64max]; omega) | (simp [mulSz, Cont.len, bne]; done) | (simp [mulSz, Cont.len, bne]; omega)))); conv => whnf)
    | (refine tst_in ?_ ?_; (focus (intro h_; exfalso; first | omega | ((try simp only [decide_eq_true_eq, decide_eq_false_iff_not] at h_); omega) | (simp [mulSz, Cont.len, bne] at h_; done) | (simp [mulSz, Cont.len, bne] at h_; omega))); intro _; conv => whnf)
    | (refine tst_in ?_ ?_; rotate_left; (focus (intro h_; exfalso; first | omega | ((try simp only [decide_eq_true_eq, decide_eq_false_iff_not] at h_); omega) | (simp [mulSz, Cont.len, bne] at h_; done) | (simp [mulSz, Cont.len, bne] at h_; omega))); intro _; conv => whnf))
  refine And.intro ?_ (And.intro ?_ True.intro)
  · skip
    conv => whnf
    repeat (first
      | (refine And.intro ?_ ?_; (focus (first | omega | decide | exact Int.natCast_nonneg _ | ((repeat' refine And.intro ?_ ?_) <;> first | omega | exact Int.natCast_nonneg _ | (simp only [i64max]; omega) | (simp only [u8max]; omega) | (simp only [i64max, u8max, u16max, u32max, u64max]; omega) | (simp [mulSz, Cont.len, bne, hto]; done) | (simp [mulSz, Cont.len, bne, hto]; omega)))); conv => whnf)
      | (refine tst_in ?_ ?_; (focus (intro h_; exfalso; first | omega | ((try simp only [decide_eq_true_eq, decide_eq_false_iff_not] at h_); omega) | (simp [mulSz, Cont.len, bne, hto] at h_; done) | (simp [mulSz, Cont.len, bne, hto] at h_; omega))); intro _; conv => whnf)
      | (refine tst_in ?_ ?_; rotate_left; (focus (intro h_; exfalso; first | omega | ((try simp only [decide_eq_true_eq, decide_eq_false_iff_not] at h_); omega) | (simp [mulSz, Cont.len, bne, hto] at h_; done) | (simp [mulSz, Cont.len, bne, hto] at h_; omega))); intro _; conv => whnf))
    refine .inl ⟨(), [0, 1], ?_⟩
    conv => whnf
    repeat' (first | exact True.intro | rfl | refine And.intro ?_ ?_)
    all_goals (conv => whnf)
    repeat' (first | exact True.intro | rfl | refine And.intro ?_ ?_)
    all_goals (try omega)
    all_goals (subst hr; rfl)
  · skip
    conv => whnf
    repeat (first
      | (refine And.intro ?_ ?_; (focus (first | omega | decide | exact Int.natCast_nonneg _ | ((repeat' refine And.intro ?_ ?_) <;> first | omega | exact Int.natCast_nonneg _ | (simp only [i64max]; omega) | (simp only [u8max]; omega) | (simp only [i64max, u8max, u16max, u32max, u64max]; omega) | (simp [mulSz, Cont.len, bne, hto]; done) | (simp [mulSz, Cont.len, bne, hto]; omega)))); conv => whnf)
      | (refine tst_in ?_ ?_; (focus (intro h_; exfalso; first | omega | ((try simp only [decide_eq_true_eq, decide_eq_false_iff_not] at h_); omega) | (simp [mulSz, Cont.len, bne, hto] at h_; done) | (simp [mulSz, Cont.len, bne, hto] at h_; omega))); intro _; conv => whnf)
      | (refine tst_in ?_ ?_; rotate_left; (focus (intro h_; exfalso; first | omega | ((try simp only [decide_eq_true_eq, decide_eq_false_iff_not] at h_); omega) | (simp [mulSz, Cont.len, bne, hto] at h_; done) | (simp [mulSz, Cont.len, bne, hto] at h_; omega))); intro _; conv => whnf))
    refine .inl ⟨(), [1, 0], ?_⟩
    conv => whnf
    repeat' (first | exact True.intro | rfl | refine And.intro ?_ ?_)
    all_goals (conv => whnf)
    repeat' (first | exact True.intro | rfl | refine And.intro ?_ ?_)
    all_goals (try omega)
    all_goals (subst hr; rfl)
theorem take_tab {α : Type} (f : Nat → α) (t : List α) {n m : Nat} (h : m ≤ n) : List.take m (tab f n ++ t) = tab f m := by
  rw [List.take_append_of_le_length (by rw [tab_len]; exact h)]
  unfold tab
  rw [← List.map_take, List.take_range, Nat.min_eq_left h]
theorem cop1 {f g h : Nat → Int} {N R : Nat} (hR : 2 * N ≤ R) (h1 : ∀ i, i < N → h i = f i) (h2 : ∀ i, i < N → h (N + i) = g i) :
    List.take (0 + N) (tab f N ++ List.replicate (R - N) 0) ++ List.take N (List.drop 0 (tab g N ++ List.replicate (R - N) 0)) ++ List.drop (0 + N + (List.take N (List.drop 0 (tab g N ++ List.replicate (R - N) (0 : Int)))).length) (tab f N ++ List.replicate (R - N) 0) = tab h (2 * N) ++ List.replicate (R - 2 * N) 0 := by
  rw [Nat.zero_add, List.drop_zero, take_tab f _ (Nat.le_refl N), take_tab g _ (Nat.le_refl N), tab_len, List.drop_append, List.drop_eq_nil_of_le (by rw [tab_len]; omega), tab_len, List.nil_append, List.drop_replicate, show 2 * N = N + N by omega, tab_add, tab_congr h1, tab_congr (f := fun i => h (N + i)) h2, show R - N - (N + N - N) = R - (N + N) by omega]
theorem cop2 {f g h : Nat → Int} {N R : Nat} (hR : 2 * N ≤ R) (h1 : ∀ i, i < N → h i = f i) :
    List.take 0 (tab g N ++ List.replicate (R - N) 0) ++ List.take N (List.drop 0 (tab h (2 * N) ++ List.replicate (R - 2 * N) 0)) ++ List.drop (0 + (List.take N (List.drop 0 (tab h (2 * N) ++ List.replicate (R - 2 * N) (0 : Int)))).length) (tab g N ++ List.replicate (R - N) 0) = tab f N ++ List.replicate (R - N) 0 := by
  rw [List.take_zero, List.nil_append, List.drop_zero, take_tab h _ (show N ≤ 2 * N by omega), tab_len, Nat.zero_add, List.drop_append, List.drop_eq_nil_of_le (by rw [tab_len]; omega), tab_len, List.nil_append, Nat.sub_self, List.drop_zero, tab_congr h1]
set_option maxHeartbeats 0 in
set_option maxRecDepth 100000 in
theorem pairS (o R N : Nat) (hN : 2 ^ o = N) (hR : R ≤ 256) (h1 : 2 * N ≤ R) (ih : Fits Try.prog 8 ⟨[.int .i64 o, .int .i64 R], [], [pairOut o R]⟩) : Fits Try.prog 8 ⟨[.int .i64 (o + 1 : Nat), .int .i64 R], [], [pairOut (o + 1) R]⟩ := by
  have hto : ((R : Nat) : Int).toNat = R := by omega
  have hto2 : ((2 : Int) * (N : Int)).toNat = 2 * N := by omega
  have htoN : ((N : Nat) : Int).toNat = N := by omega
  have hp1 : 1 ≤ N := by have := Nat.two_pow_pos o; omega
  have e1 : 2 ^ (o + 1) = 2 * N := by rw [Nat.pow_succ]; omega
  unfold pairOut at ih ⊢
  rw [hN] at ih
  rw [e1]
  have ho : o ≤ 8 := by
    rcases Nat.lt_or_ge 8 o with h | h
    · have := Nat.pow_le_pow_right (show 0 < 2 by decide) h
      have : 2 ^ 9 = 512 := by decide
      omega
    · exact h
  refine fits_of_body (C := cfg8) (c := c8) (ts := [4, 5]) tok mixed (fun | 11 => some (inv8 o N R) | _ => none) (fun _ => none)
    Try.func8 (by kernel_rfl) (by kernel_rfl) (by kernel_rfl) (by kernel_rfl) rfl ?_
  conv => whnf
  repeat (first
    | (refine And.intro ?_ ?_; (focus (first | omega | decide | exact Int.natCast_nonneg _ | ((repeat' refine And.intro ?_ ?_) <;> first | omega | exact Int.natCast_nonneg _ | (simp only [i64max]; omega) | (simp only [u8max]; omega) | (simp only [i64max, u8max, u16max, u32max, u64max]; omega) | (simp [mulSz, Cont.len, bne]; done) | (simp [mulSz, Cont.len, bne]; omega)))); conv => whnf)
    | (refine tst_in ?_ ?_; (focus (intro h_; exfalso; first | omega | ((try simp only [decide_eq_true_eq, decide_eq_false_iff_not] at h_); omega) | (simp [mulSz, Cont.len, bne] at h_; done) | (simp [mulSz, Cont.len, bne] at h_; omega))); intro _; conv => whnf)
    | (refine tst_in ?_ ?_; rotate_left; (focus (intro h_; exfalso; first | omega | ((try simp only [decide_eq_true_eq, decide_eq_false_iff_not] at h_); omega) | (simp [mulSz, Cont.len, bne] at h_; done) | (simp [mulSz, Cont.len, bne] at h_; omega))); intro _; conv => whnf))
  rw [show ((o + 1 : Nat) : Int) - 1 = (o : Int) by omega]
  conv => whnf
  repeat (first
    | (refine And.intro ?_ ?_; (focus (first | omega | decide | exact Int.natCast_nonneg _ | ((repeat' refine And.intro ?_ ?_) <;> first | omega | exact Int.natCast_nonneg _ | (simp only [i64max]; omega) | (simp only [u8max]; omega) | (simp only [i64max, u8max, u16max, u32max, u64max]; omega) | (simp [mulSz, Cont.len, bne]; done) | (simp [mulSz, Cont.len, bne]; omega)))); conv => whnf)
    | (refine tst_in ?_ ?_; (focus (intro h_; exfalso; first | omega | ((try simp only [decide_eq_true_eq, decide_eq_false_iff_not] at h_); omega) | (simp [mulSz, Cont.len, bne] at h_; done) | (simp [mulSz, Cont.len, bne] at h_; omega))); intro _; conv => whnf)
    | (refine tst_in ?_ ?_; rotate_left; (focus (intro h_; exfalso; first | omega | ((try simp only [decide_eq_true_eq, decide_eq_false_iff_not] at h_); omega) | (simp [mulSz, Cont.len, bne] at h_; done) | (simp [mulSz, Cont.len, bne] at h_; omega))); intro _; conv => whnf))
  refine ⟨_, [], ih, ?_⟩
  conv => whnf
  refine ⟨?_, ?_, ?_⟩
  · conv => whnf
    repeat' (first | exact True.intro | rfl | refine And.intro ?_ ?_ | omega)
    all_goals (conv => whnf)
    all_goals (try (first | rfl | omega | (simp; done)))
  · conv => whnf
    repeat' (first | exact True.intro | rfl | refine And.intro ?_ ?_ | omega)
    all_goals (conv => whnf)
    all_goals (try (first | rfl | omega | (simp; done)))
  conv => whnf
  refine ⟨?_, True.intro⟩
  intro _ _
  conv => whnf
  conv => whnf
  repeat (first
    | (refine And.intro ?_ ?_; (focus (first | omega | decide | exact Int.natCast_nonneg _ | ((repeat' refine And.intro ?_ ?_) <;> first | omega | exact Int.natCast_nonneg _ | (simp only [i64max]; omega) | (simp only [u8max]; omega) | (simp only [i64max, u8max, u16max, u32max, u64max]; omega) | (simp [mulSz, Cont.len, bne]; done) | (simp [mulSz, Cont.len, bne]; omega)))); conv => whnf)
    | (refine tst_in ?_ ?_; (focus (intro h_; exfalso; first | omega | ((try simp only [decide_eq_true_eq, decide_eq_false_iff_not] at h_); omega) | (simp [mulSz, Cont.len, bne] at h_; done) | (simp [mulSz, Cont.len, bne] at h_; omega))); intro _; conv => whnf)
    | (refine tst_in ?_ ?_; rotate_left; (focus (intro h_; exfalso; first | omega | ((try simp only [decide_eq_true_eq, decide_eq_false_iff_not] at h_); omega) | (simp [mulSz, Cont.len, bne] at h_; done) | (simp [mulSz, Cont.len, bne] at h_; omega))); intro _; conv => whnf))
  rw [hto2, htoN, hto, show 2 * N - N = N by omega, show min (2 * N) N = N by omega]
  refine And.intro ⟨?_, ?_⟩ ?_
  · show 0 + N + N ≤ (tab (fa o) N ++ List.replicate (R - N) (0 : Int)).length
    rw [app_len, List.length_replicate]; omega
  · show 0 + N ≤ (tab (fb o) N ++ List.replicate (R - N) (0 : Int)).length
    rw [app_len]; omega
  have hA1 : ∀ i, i < N → fa (o + 1) i = fa o i := fun i hi => ga_lo (by rw [hN]; exact hi) _
  have hA2 : ∀ i, i < N → fa (o + 1) (N + i) = fb o i := fun i hi => by have := ga_hi o i; rw [hN] at this; exact this
  have hB1 : ∀ i, i < N → fb (o + 1) i = fa o i := fun i hi => ga_lo (by rw [hN]; exact hi) _
  have hB2 : ∀ i, fb (o + 1) (N + i) = - fb o i := fun i => by have := gb_hi o i; rw [hN] at this; exact this
  have hC1 : List.take (0 + N) (tab (fa o) N ++ List.replicate (R - N) 0) ++ List.take (mulSz ({ d := Ty.int IntKind.i8, size := 1, bytes := 1, zero := Value.int IntKind.i8 0 } : TyI).size N) (List.drop 0 (tab (fb o) N ++ List.replicate (R - N) 0)) ++ List.drop (0 + N + (List.take (mulSz ({ d := Ty.int IntKind.i8, size := 1, bytes := 1, zero := Value.int IntKind.i8 0 } : TyI).size N) (List.drop 0 (tab (fb o) N ++ List.replicate (R - N) (0 : Int)))).length) (tab (fa o) N ++ List.replicate (R - N) 0) = tab (fa (o + 1)) (2 * N) ++ List.replicate (R - 2 * N) 0 := cop1 h1 hA1 hA2
  have hC2 : List.take 0 (tab (fb o) N ++ List.replicate (R - N) 0) ++ List.take (mulSz ({ d := Ty.int IntKind.i8, size := 1, bytes := 1, zero := Value.int IntKind.i8 0 } : TyI).size N) (List.drop 0 (tab (fa (o + 1)) (2 * N) ++ List.replicate (R - 2 * N) 0)) ++ List.drop (0 + (List.take (mulSz ({ d := Ty.int IntKind.i8, size := 1, bytes := 1, zero := Value.int IntKind.i8 0 } : TyI).size N) (List.drop 0 (tab (fa (o + 1)) (2 * N) ++ List.replicate (R - 2 * N) (0 : Int)))).length) (tab (fb o) N ++ List.replicate (R - N) 0) = tab (fb (o + 1)) (N + 0) ++ List.replicate (R - (N + 0)) 0 := (cop2 h1 hA1).trans (by rw [Nat.add_zero, ← tab_congr hB1]; rfl)
  conv => whnf
  rw [hC1]
  conv => whnf
  repeat (first
    | (refine And.intro ?_ ?_; (focus (first | omega | decide | exact Int.natCast_nonneg _ | ((repeat' refine And.intro ?_ ?_) <;> first | omega | exact Int.natCast_nonneg _ | (simp only [i64max]; omega) | (simp only [u8max]; omega) | (simp only [i64max, u8max, u16max, u32max, u64max]; omega) | (simp [mulSz, Cont.len, bne]; done) | (simp [mulSz, Cont.len, bne]; omega)))); conv => whnf)
    | (refine tst_in ?_ ?_; (focus (intro h_; exfalso; first | omega | ((try simp only [decide_eq_true_eq, decide_eq_false_iff_not] at h_); omega) | (simp [mulSz, Cont.len, bne] at h_; done) | (simp [mulSz, Cont.len, bne] at h_; omega))); intro _; conv => whnf)
    | (refine tst_in ?_ ?_; rotate_left; (focus (intro h_; exfalso; first | omega | ((try simp only [decide_eq_true_eq, decide_eq_false_iff_not] at h_); omega) | (simp [mulSz, Cont.len, bne] at h_; done) | (simp [mulSz, Cont.len, bne] at h_; omega))); intro _; conv => whnf))
  rw [htoN, show min N (2 * N) = N by omega]
  refine And.intro ⟨?_, ?_⟩ ?_
  · show 0 + N ≤ (tab (fb o) N ++ List.replicate (R - N) (0 : Int)).length
    rw [app_len]; omega
  · show 0 + N ≤ (tab (fa (o + 1)) (2 * N) ++ List.replicate (R - 2 * N) (0 : Int)).length
    rw [app_len]; omega
  conv => whnf
  rw [hC2]
  conv => whnf
  repeat (first
    | (refine And.intro ?_ ?_; (focus (first | omega | decide | exact Int.natCast_nonneg _ | ((repeat' refine And.intro ?_ ?_) <;> first | omega | exact Int.natCast_nonneg _ | (simp only [i64max]; omega) | (simp only [u8max]; omega) | (simp only [i64max, u8max, u16max, u32max, u64max]; omega) | (simp [mulSz, Cont.len, bne]; done) | (simp [mulSz, Cont.len, bne]; omega)))); conv => whnf)
    | (refine tst_in ?_ ?_; (focus (intro h_; exfalso; first | omega | ((try simp only [decide_eq_true_eq, decide_eq_false_iff_not] at h_); omega) | (simp [mulSz, Cont.len, bne] at h_; done) | (simp [mulSz, Cont.len, bne] at h_; omega))); intro _; conv => whnf)
    | (refine tst_in ?_ ?_; rotate_left; (focus (intro h_; exfalso; first | omega | ((try simp only [decide_eq_true_eq, decide_eq_false_iff_not] at h_); omega) | (simp [mulSz, Cont.len, bne] at h_; done) | (simp [mulSz, Cont.len, bne] at h_; omega))); intro _; conv => whnf))
  rw [htoN, show 2 * N - N = N by omega, Nat.zero_add]
  refine ⟨⟨[0, 1], (0 : Nat), ?_, Nat.zero_le _⟩, ?_⟩
  · conv => whnf
    repeat' (first | exact True.intro | rfl | refine And.intro ?_ ?_)
    all_goals (conv => whnf)
    repeat' (first | exact True.intro | rfl | refine And.intro ?_ ?_)
    all_goals (try omega)
  · intro (k : Nat) (hk : k ≤ N)
    show forceSt (st8 o N R k) _
    conv => whnf
    refine tst_in (fun hlt => ?_) (fun hge => ?_)
    · skip
      have hlt : k < N := by simp at hlt; omega
      obtain ⟨r, hr⟩ : ∃ r, R - (N + k) = r + 1 := ⟨R - (N + k) - 1, by omega⟩
      have hX : N + ((k : Int)).toNat = N + k := by omega
      have hY : 0 + ((N : Int) + (k : Int)).toNat = N + k := by omega
      have hv := tab_app (fa (o + 1)) 0 (List.replicate (R - 2 * N) 0) (show N + k < 2 * N by omega)
      rw [hA2 k hlt] at hv
      have hn8 := neg8 (fb_one o k)
      rw [← hB2 k] at hn8
      have hl1 := app_len (fa (o + 1)) (2 * N) (List.replicate (R - 2 * N) (0 : Int))
      have hl2 := app_len (fb (o + 1)) (N + k) (List.replicate (r + 1) (0 : Int))
      rw [List.length_replicate] at hl1 hl2
      rw [hr]
      conv => whnf
      repeat (first
        | (refine And.intro ?_ ?_; (focus (first | omega | decide | exact Int.natCast_nonneg _ | ((repeat' refine And.intro ?_ ?_) <;> first | omega | exact Int.natCast_nonneg _ | (simp only [i64max]; omega) | (simp only [u8max]; omega) | (simp only [i64max, u8max, u16max, u32max, u64max]; omega) | (simp [mulSz, Cont.len, bne, hl1]; done) | (simp [mulSz, Cont.len, bne, hl1]; omega)))); conv => whnf)
        | (refine tst_in ?_ ?_; (focus (intro h_; exfalso; first | omega | ((try simp only [decide_eq_true_eq, decide_eq_false_iff_not] at h_); omega) | (simp [mulSz, Cont.len, bne, hl1] at h_; done) | (simp [mulSz, Cont.len, bne, hl1] at h_; omega))); intro _; conv => whnf)
        | (refine tst_in ?_ ?_; rotate_left; (focus (intro h_; exfalso; first | omega | ((try simp only [decide_eq_true_eq, decide_eq_false_iff_not] at h_); omega) | (simp [mulSz, Cont.len, bne, hl1] at h_; done) | (simp [mulSz, Cont.len, bne, hl1] at h_; omega))); intro _; conv => whnf))
      rw [hX, hv]
      conv => whnf
      repeat (first
        | (refine And.intro ?_ ?_; (focus (first | omega | decide | exact Int.natCast_nonneg _ | ((repeat' refine And.intro ?_ ?_) <;> first | omega | exact Int.natCast_nonneg _ | (simp only [i64max]; omega) | (simp only [u8max]; omega) | (simp only [i64max, u8max, u16max, u32max, u64max]; omega) | (simp [mulSz, Cont.len, bne, hl2]; done) | (simp [mulSz, Cont.len, bne, hl2]; omega)))); conv => whnf)
        | (refine tst_in ?_ ?_; (focus (intro h_; exfalso; first | omega | ((try simp only [decide_eq_true_eq, decide_eq_false_iff_not] at h_); omega) | (simp [mulSz, Cont.len, bne, hl2] at h_; done) | (simp [mulSz, Cont.len, bne, hl2] at h_; omega))); intro _; conv => whnf)
        | (refine tst_in ?_ ?_; rotate_left; (focus (intro h_; exfalso; first | omega | ((try simp only [decide_eq_true_eq, decide_eq_false_iff_not] at h_); omega) | (simp [mulSz, Cont.len, bne, hl2] at h_; done) | (simp [mulSz, Cont.len, bne, hl2] at h_; omega))); intro _; conv => whnf))
      rw [hn8]
      conv => whnf
      repeat (first
        | (refine And.intro ?_ ?_; (focus (first | omega | decide | exact Int.natCast_nonneg _ | ((repeat' refine And.intro ?_ ?_) <;> first | omega | exact Int.natCast_nonneg _ | (simp only [i64max]; omega) | (simp only [u8max]; omega) | (simp only [i64max, u8max, u16max, u32max, u64max]; omega) | (simp [mulSz, Cont.len, bne, hl2]; done) | (simp [mulSz, Cont.len, bne, hl2]; omega)))); conv => whnf)
        | (refine tst_in ?_ ?_; (focus (intro h_; exfalso; first | omega | ((try simp only [decide_eq_true_eq, decide_eq_false_iff_not] at h_); omega) | (simp [mulSz, Cont.len, bne, hl2] at h_; done) | (simp [mulSz, Cont.len, bne, hl2] at h_; omega))); intro _; conv => whnf)
        | (refine tst_in ?_ ?_; rotate_left; (focus (intro h_; exfalso; first | omega | ((try simp only [decide_eq_true_eq, decide_eq_false_iff_not] at h_); omega) | (simp [mulSz, Cont.len, bne, hl2] at h_; done) | (simp [mulSz, Cont.len, bne, hl2] at h_; omega))); intro _; conv => whnf))
      rw [hY, tab_set]
      conv => whnf
      repeat (first
        | (refine And.intro ?_ ?_; (focus (first | omega | decide | exact Int.natCast_nonneg _ | ((repeat' refine And.intro ?_ ?_) <;> first | omega | exact Int.natCast_nonneg _ | (simp only [i64max]; omega) | (simp only [u8max]; omega) | (simp only [i64max, u8max, u16max, u32max, u64max]; omega) | (simp [mulSz, Cont.len, bne]; done) | (simp [mulSz, Cont.len, bne]; omega)))); conv => whnf)
        | (refine tst_in ?_ ?_; (focus (intro h_; exfalso; first | omega | ((try simp only [decide_eq_true_eq, decide_eq_false_iff_not] at h_); omega) | (simp [mulSz, Cont.len, bne] at h_; done) | (simp [mulSz, Cont.len, bne] at h_; omega))); intro _; conv => whnf)
        | (refine tst_in ?_ ?_; rotate_left; (focus (intro h_; exfalso; first | omega | ((try simp only [decide_eq_true_eq, decide_eq_false_iff_not] at h_); omega) | (simp [mulSz, Cont.len, bne] at h_; done) | (simp [mulSz, Cont.len, bne] at h_; omega))); intro _; conv => whnf))
      refine ⟨[0, 1], k + 1, ?_, (by show k + 1 ≤ N; omega), (by show N - (k + 1) < N - k; omega)⟩
      show stLe _ _ (st8 o N R (k + 1)) _
      unfold st8
      rw [show R - (N + (k + 1)) = r by omega, show N + (k + 1) = N + k + 1 by omega]
      conv => whnf
      repeat' (first | exact True.intro | rfl | refine And.intro ?_ ?_)
      all_goals (conv => whnf)
      repeat' (first | exact True.intro | rfl | refine And.intro ?_ ?_)
      all_goals (try omega)
    · skip
      have hge : k = N := by simp at hge; omega
      subst hge
      rw [show k + k = 2 * k by omega]
      conv => whnf
      repeat (first
        | (refine And.intro ?_ ?_; (focus (first | omega | decide | exact Int.natCast_nonneg _ | ((repeat' refine And.intro ?_ ?_) <;> first | omega | exact Int.natCast_nonneg _ | (simp only [i64max]; omega) | (simp only [u8max]; omega) | (simp only [i64max, u8max, u16max, u32max, u64max]; omega) | (simp [mulSz, Cont.len, bne]; done) | (simp [mulSz, Cont.len, bne]; omega)))); conv => whnf)
        | (refine tst_in ?_ ?_; (focus (intro h_; exfalso; first | omega | ((try simp only [decide_eq_true_eq, decide_eq_false_iff_not] at h_); omega) | (simp [mulSz, Cont.len, bne] at h_; done) | (simp [mulSz, Cont.len, bne] at h_; omega))); intro _; conv => whnf)
        | (refine tst_in ?_ ?_; rotate_left; (focus (intro h_; exfalso; first | omega | ((try simp only [decide_eq_true_eq, decide_eq_false_iff_not] at h_); omega) | (simp [mulSz, Cont.len, bne] at h_; done) | (simp [mulSz, Cont.len, bne] at h_; omega))); intro _; conv => whnf))
      refine .inl ⟨(), [0, 1], ?_⟩
      conv => whnf
      repeat' (first | exact True.intro | rfl | refine And.intro ?_ ?_)
      all_goals (conv => whnf)
      repeat' (first | exact True.intro | rfl | refine And.intro ?_ ?_)
      all_goals (try omega)
theorem pair_f (R : Nat) (hR : R ≤ 256) : ∀ o : Nat, 2 ^ o ≤ R → Fits Try.prog 8 ⟨[.int .i64 o, .int .i64 R], [], [pairOut o R]⟩
  | 0, h => pair0 R hR (by simpa using h)
  | o + 1, h => by
    have e : 2 ^ (o + 1) = 2 * 2 ^ o := by rw [Nat.pow_succ]; omega
    exact pairS o R (2 ^ o) rfl hR (by omega) (pair_f R hR o (by omega))
end Go.Proofs.Ytpjciaibccddmaa

set_option linter.unusedVariables false
set_option linter.unusedSimpArgs false
namespace Go.Proofs.Ytpjciaibccddmaa
open Go Go.Fw
noncomputable def c7 : Code := (Try.f7.body).getD .skip
def st7 (A B : List Int) (o n ca p cb k : Nat) : St := ⟨anyTo 26 [.slice 0 o n ca, .slice 1 p n cb, .any, .any, .any, .int .i64 k], [.seg false (.ints .i8 A), .seg false (.ints .i8 B)]⟩
def inv7 (A B : List Int) (o n ca p cb : Nat) : LInv := ⟨Nat, fun k => st7 A B o n ca p cb k, fun k => k ≤ n, fun k => n - k⟩
set_option maxHeartbeats 0 in
set_option maxRecDepth 100000 in
theorem signs_q (A B : List Int) (o n ca p cb : Nat) (hA : o + n ≤ A.length) (hB : p + n ≤ B.length) (hN : n ≤ 4611686018427387904) (hE : ∀ i, i < n → A.getD (o + i) 0 = B.getD (p + i) 0) :
    QFits Try.prog 7 ⟨[.slice 0 o n ca, .slice 1 p n cb], [.seg false (.ints .i8 A), .seg false (.ints .i8 B)], .bool true⟩ := by
  refine qfits_of_body (C := cfgs 2) (c := c7) (ts := [4]) tok mixed (fun | 4 => some (inv7 A B o n ca p cb) | _ => none) (fun _ => none)
    Try.func7 (by kernel_rfl) (by kernel_rfl) (by kernel_rfl) (by kernel_rfl) (by kernel_rfl) rfl rfl ?_
  conv => whnf
  repeat (first
    | (refine And.intro ?_ ?_; (focus (first | omega | decide | exact Int.natCast_nonneg _ | ((repeat' refine And.intro ?_ ?_) <;> first | omega | exact Int.natCast_nonneg _ | (simp only [i64max]; omega) | (simp only [u8max]; omega) | (simp only [i64max, u8max, u16max, u32max, u64max]; omega) | (simp [mulSz, Cont.len, bne]; done) | (simp [mulSz, Cont.len, bne]; omega)))); conv => whnf)
    | (refine tst_in ?_ ?_; (focus (intro h_; exfalso; first | omega | ((try simp only [decide_eq_true_eq, decide_eq_false_iff_not] at h_); omega) | (simp [mulSz, Cont.len, bne] at h_; done) | (simp [mulSz, Cont.len, bne] at h_; omega))); intro _; conv => whnf)
    | (refine tst_in ?_ ?_; rotate_left; (focus (intro h_; exfalso; first | omega | ((try simp only [decide_eq_true_eq, decide_eq_false_iff_not] at h_); omega) | (simp [mulSz, Cont.len, bne] at h_; done) | (simp [mulSz, Cont.len, bne] at h_; omega))); intro _; conv => whnf))
  refine ⟨⟨[0, 1], (0 : Nat), ?_, Nat.zero_le _⟩, ?_⟩
  · conv => whnf
    repeat' (first | exact True.intro | rfl | refine And.intro ?_ ?_)
    all_goals (conv => whnf)
    repeat' (first | exact True.intro | rfl | refine And.intro ?_ ?_)
    all_goals (try (first | omega | exact True.intro | rfl | assumption | (change LE.le (α := Nat) _ _; first | omega | (simp only []; omega)) | (simp only []; done) | (simp only []; omega) | (simp; done) | (simp; omega)))
  · intro (k : Nat) (hk : k ≤ n)
    show forceSt (st7 A B o n ca p cb k) _
    conv => whnf
    refine tst_in (fun hlt => ?_) (fun hge => ?_)
    · skip
      have hlt : k < n := by simp at hlt; omega
      have hX : o + ((k : Int)).toNat = o + k := by omega
      have hY : p + ((k : Int)).toNat = p + k := by omega
      have hv := hE k hlt
      conv => whnf
      repeat (first
        | (refine And.intro ?_ ?_; (focus (first | omega | decide | exact Int.natCast_nonneg _ | ((repeat' refine And.intro ?_ ?_) <;> first | omega | exact Int.natCast_nonneg _ | (simp only [i64max]; omega) | (simp only [u8max]; omega) | (simp only [i64max, u8max, u16max, u32max, u64max]; omega) | (simp [mulSz, Cont.len, bne]; done) | (simp [mulSz, Cont.len, bne]; omega)))); conv => whnf)
        | (refine tst_in ?_ ?_; (focus (intro h_; exfalso; first | omega | ((try simp only [decide_eq_true_eq, decide_eq_false_iff_not] at h_); omega) | (simp [mulSz, Cont.len, bne] at h_; done) | (simp [mulSz, Cont.len, bne] at h_; omega))); intro _; conv => whnf)
        | (refine tst_in ?_ ?_; rotate_left; (focus (intro h_; exfalso; first | omega | ((try simp only [decide_eq_true_eq, decide_eq_false_iff_not] at h_); omega) | (simp [mulSz, Cont.len, bne] at h_; done) | (simp [mulSz, Cont.len, bne] at h_; omega))); intro _; conv => whnf))
      rw [hX, hY, hv]
      conv => whnf
      repeat (first
        | (refine And.intro ?_ ?_; (focus (first | omega | decide | exact Int.natCast_nonneg _ | ((repeat' refine And.intro ?_ ?_) <;> first | omega | exact Int.natCast_nonneg _ | (simp only [i64max]; omega) | (simp only [u8max]; omega) | (simp only [i64max, u8max, u16max, u32max, u64max]; omega) | (simp [mulSz, Cont.len, bne]; done) | (simp [mulSz, Cont.len, bne]; omega)))); conv => whnf)
        | (refine tst_in ?_ ?_; (focus (intro h_; exfalso; first | omega | ((try simp only [decide_eq_true_eq, decide_eq_false_iff_not] at h_); omega) | (simp [mulSz, Cont.len, bne] at h_; done) | (simp [mulSz, Cont.len, bne] at h_; omega))); intro _; conv => whnf)
        | (refine tst_in ?_ ?_; rotate_left; (focus (intro h_; exfalso; first | omega | ((try simp only [decide_eq_true_eq, decide_eq_false_iff_not] at h_); omega) | (simp [mulSz, Cont.len, bne] at h_; done) | (simp [mulSz, Cont.len, bne] at h_; omega))); intro _; conv => whnf))
      refine ⟨[0, 1], k + 1, ?_, (by show k + 1 ≤ n; omega), (by show n - (k + 1) < n - k; omega)⟩
      conv => whnf
      repeat' (first | exact True.intro | rfl | refine And.intro ?_ ?_)
      all_goals (conv => whnf)
      repeat' (first | exact True.intro | rfl | refine And.intro ?_ ?_)
      all_goals (try (first | omega | exact True.intro | rfl | assumption | (change LE.le (α := Nat) _ _; first | omega | (simp only []; omega)) | (simp only []; done) | (simp only []; omega) | (simp; done) | (simp; omega)))
    · skip
      have hge : k = n := by simp at hge; omega
      conv => whnf
      repeat (first
        | (refine And.intro ?_ ?_; (focus (first | omega | decide | exact Int.natCast_nonneg _ | ((repeat' refine And.intro ?_ ?_) <;> first | omega | exact Int.natCast_nonneg _ | (simp only [i64max]; omega) | (simp only [u8max]; omega) | (simp only [i64max, u8max, u16max, u32max, u64max]; omega) | (simp [mulSz, Cont.len, bne]; done) | (simp [mulSz, Cont.len, bne]; omega)))); conv => whnf)
        | (refine tst_in ?_ ?_; (focus (intro h_; exfalso; first | omega | ((try simp only [decide_eq_true_eq, decide_eq_false_iff_not] at h_); omega) | (simp [mulSz, Cont.len, bne] at h_; done) | (simp [mulSz, Cont.len, bne] at h_; omega))); intro _; conv => whnf)
        | (refine tst_in ?_ ?_; rotate_left; (focus (intro h_; exfalso; first | omega | ((try simp only [decide_eq_true_eq, decide_eq_false_iff_not] at h_); omega) | (simp [mulSz, Cont.len, bne] at h_; done) | (simp [mulSz, Cont.len, bne] at h_; omega))); intro _; conv => whnf))
noncomputable def c5 : Code := (Try.f5.body).getD .skip
def pairOut3 (o : Nat) : FOut := ⟨Unit, fun _ => True, fun _ => .tup [.slice 0 0 (2 ^ o) (2 ^ o), .slice 1 0 (2 ^ o) (2 ^ o), .int .i64 0], fun _ => [.seg true (.ints .i8 (tab (fa o) (2 ^ o))), .seg true (.ints .i8 (tab (fb o) (2 ^ o)))]⟩
theorem pow8 {o : Nat} (ho : o ≤ 8) : 1 ≤ 2 ^ o ∧ 2 ^ o ≤ 256 := ⟨Nat.two_pow_pos o, by have := Nat.pow_le_pow_right (show 0 < 2 by decide) ho; exact this⟩
set_option maxHeartbeats 0 in
set_option maxRecDepth 100000 in
theorem Pair_f (o : Nat) (ho : o ≤ 8) : Fits Try.prog 5 ⟨[.int .i64 o], [], [pairOut3 o]⟩ := by
  have hp := pow8 ho
  have PA := pair_f (2 ^ o) hp.2 o (Nat.le_refl _)
  unfold pairOut rw8 at PA
  rw [Nat.sub_self, List.replicate_zero, List.append_nil, List.append_nil] at PA
  have e : (1 * 2 ^ (min ((o : Nat) : Int).toNat (IntKind.bits .i64)) : Int) = ((2 ^ o : Nat) : Int) := by
    rw [Int.toNat_natCast, Nat.min_eq_left (show o ≤ IntKind.bits .i64 by show o ≤ 64; omega), Int.one_mul]; exact (Int.natCast_pow 2 o).symm
  unfold pairOut3
  generalize hN : 2 ^ o = N at *
  refine fits_of_body (C := cfgs 0) (c := c5) (ts := [2, 3, 4]) tok mixed (fun _ => none) (fun _ => none)
    Try.func5 (by kernel_rfl) (by kernel_rfl) (by kernel_rfl) (by kernel_rfl) rfl ?_
  conv => whnf
  repeat (first
    | (refine And.intro ?_ ?_; (focus (first | omega | decide | exact Int.natCast_nonneg _ | ((repeat' refine And.intro ?_ ?_) <;> first | omega | exact Int.natCast_nonneg _ | (simp only [i64max]; omega) | (simp only [u8max]; omega) | (simp only [i64max, u8max, u16max, u32max, u64max]; omega) | (simp [mulSz, Cont.len, bne]; done) | (simp [mulSz, Cont.len, bne]; omega)))); conv => whnf)
    | (refine tst_in ?_ ?_; (focus (intro h_; exfalso; first | omega | ((try simp only [decide_eq_true_eq, decide_eq_false_iff_not] at h_); omega) | (simp [mulSz, Cont.len, bne] at h_; done) | (simp [mulSz, Cont.len, bne] at h_; omega))); intro _; conv => whnf)
    | (refine tst_in ?_ ?_; rotate_left; (focus (intro h_; exfalso; first | omega | ((try simp only [decide_eq_true_eq, decide_eq_false_iff_not] at h_); omega) | (simp [mulSz, Cont.len, bne] at h_; done) | (simp [mulSz, Cont.len, bne] at h_; omega))); intro _; conv => whnf))
  rw [e]
  conv => whnf
  repeat (first
    | (refine And.intro ?_ ?_; (focus (first | omega | decide | exact Int.natCast_nonneg _ | ((repeat' refine And.intro ?_ ?_) <;> first | omega | exact Int.natCast_nonneg _ | (simp only [i64max]; omega) | (simp only [u8max]; omega) | (simp only [i64max, u8max, u16max, u32max, u64max]; omega) | (simp [mulSz, Cont.len, bne]; done) | (simp [mulSz, Cont.len, bne]; omega)))); conv => whnf)
    | (refine tst_in ?_ ?_; (focus (intro h_; exfalso; first | omega | ((try simp only [decide_eq_true_eq, decide_eq_false_iff_not] at h_); omega) | (simp [mulSz, Cont.len, bne] at h_; done) | (simp [mulSz, Cont.len, bne] at h_; omega))); intro _; conv => whnf)
    | (refine tst_in ?_ ?_; rotate_left; (focus (intro h_; exfalso; first | omega | ((try simp only [decide_eq_true_eq, decide_eq_false_iff_not] at h_); omega) | (simp [mulSz, Cont.len, bne] at h_; done) | (simp [mulSz, Cont.len, bne] at h_; omega))); intro _; conv => whnf))
  refine ⟨_, [], PA, ?_⟩
  conv => whnf
  refine ⟨?_, ?_, ?_⟩
  · conv => whnf
    repeat' (first | exact True.intro | rfl | refine And.intro ?_ ?_ | omega)
    all_goals (conv => whnf)
    all_goals (try (first | rfl | omega | (simp; done)))
  · conv => whnf
    repeat' (first | exact True.intro | rfl | refine And.intro ?_ ?_ | omega)
    all_goals (conv => whnf)
    all_goals (try (first | rfl | omega | (simp; done)))
  conv => whnf
  refine ⟨?_, True.intro⟩
  intro _ _
  conv => whnf
  conv => whnf
  repeat (first
    | (refine And.intro ?_ ?_; (focus (first | omega | decide | exact Int.natCast_nonneg _ | ((repeat' refine And.intro ?_ ?_) <;> first | omega | exact Int.natCast_nonneg _ | (simp only [i64max]; omega) | (simp only [u8max]; omega) | (simp only [i64max, u8max, u16max, u32max, u64max]; omega) | (simp [mulSz, Cont.len, bne]; done) | (simp [mulSz, Cont.len, bne]; omega)))); conv => whnf)
    | (refine tst_in ?_ ?_; (focus (intro h_; exfalso; first | omega | ((try simp only [decide_eq_true_eq, decide_eq_false_iff_not] at h_); omega) | (simp [mulSz, Cont.len, bne] at h_; done) | (simp [mulSz, Cont.len, bne] at h_; omega))); intro _; conv => whnf)
    | (refine tst_in ?_ ?_; rotate_left; (focus (intro h_; exfalso; first | omega | ((try simp only [decide_eq_true_eq, decide_eq_false_iff_not] at h_); omega) | (simp [mulSz, Cont.len, bne] at h_; done) | (simp [mulSz, Cont.len, bne] at h_; omega))); intro _; conv => whnf))
  refine .inl ⟨(), [0, 1], ?_⟩
  conv => whnf
  repeat' (first | exact True.intro | rfl | refine And.intro ?_ ?_)
  all_goals (conv => whnf)
  repeat' (first | exact True.intro | rfl | refine And.intro ?_ ?_)
  all_goals (try omega)
end Go.Proofs.Ytpjciaibccddmaa

set_option linter.unusedVariables false
set_option linter.unusedSimpArgs false
namespace Go.Proofs.Ytpjciaibccddmaa
open Go Go.Fw
def natAt (st : St) (t : Nat) : Nat := match slot st.sl t with | .int _ n => n.toNat | _ => 0
theorem mid_set {α : Type} (f : Nat → α) (x v : α) (t : List α) (k : Nat) : (tab f k ++ x :: t).set k v = tab f k ++ v :: t := by
  rw [List.set_append_right k v (s := tab f k) (t := x :: t) (by rw [tab_len]; exact Nat.le_refl _), tab_len, Nat.sub_self, List.set_cons_zero]
theorem mid_get {α : Type} (f : Nat → α) (x d : α) (t : List α) (k : Nat) : (tab f k ++ x :: t).getD k d = x := by
  rw [List.getD_eq_getElem?_getD, List.getElem?_append_right (by rw [tab_len]; exact Nat.le_refl _), tab_len, Nat.sub_self]; rfl
theorem mid_len {α : Type} (f : Nat → α) (x : α) (k r : Nat) (z : α) : (tab f k ++ x :: List.replicate r z).length = k + r + 1 := by
  rw [List.length_append, tab_len, List.length_cons, List.length_replicate]; omega
noncomputable def c6 : Code := (Try.f6.body).getD .skip
def pr (F : Nat → Int) (k i : Nat) : Int := F i * F (i + k)
def ac (F : Nat → Int) (k i : Nat) : Int := su (pr F k) i
theorem ac_s (F : Nat → Int) (k i : Nat) : ac F k (i + 1) = ac F k i + F i * F (i + k) := rfl
theorem ac_au (F : Nat → Int) (n k : Nat) : ac F k (n - k) = au F n k := rfl
def stO (A : List Int) (F : Nat → Int) (n ca k : Nat) : St := ⟨anyTo 50 [.slice 0 0 n ca, .any, .any, .any, .slice 1 0 n n, .any, .any, .any, .any, .any, .any, .any, .any, .any, .any, .int .i64 n, .int .i64 k], [.seg false (.ints .i8 A), .seg true (.ints .i64 (tab (au F n) k ++ List.replicate (n - k) 0))]⟩
def invO (A : List Int) (F : Nat → Int) (n ca : Nat) : LInv := ⟨Nat, fun k => stO A F n ca k, fun k => k ≤ n, fun k => n - k⟩
def stI (A : List Int) (F : Nat → Int) (n ca k i : Nat) : St := ⟨anyTo 50 [.slice 0 0 n ca, .any, .any, .any, .slice 1 0 n n, .int .i64 k, .any, .any, .any, .any, .any, .any, .any, .any, .any, .int .i64 n, .int .i64 k, .any, .any, .any, .any, .any, .any, .any, .slice 0 0 (n - k) ca, .int .i64 (n - k : Nat), .int .i64 i], [.seg false (.ints .i8 A), .seg true (.ints .i64 (tab (au F n) k ++ ac F k i :: List.replicate (n - (k + 1)) 0))]⟩
def invI (A : List Int) (F : Nat → Int) (n ca : Nat) (st : St) : LInv := ⟨Nat, fun i => stI A F n ca (natAt st 5) i, fun i => i ≤ n - natAt st 5, fun i => (n - natAt st 5) - i⟩
def cfg6 (A : List Int) (F : Nat → Int) (n ca : Nat) : Cfg := { T := tys, sgn := fun _ => false, wr := fun _ => false, k := 1, q := qf, dep := fun | 8 => some (invI A F n ca) | _ => none }
def autoOut (F : Nat → Int) (n : Nat) : FOut := ⟨Unit, fun _ => True, fun _ => .tup [.slice 1 0 n n, .int .i64 0], fun _ => [.dead, .seg true (.ints .i64 (tab (au F n) n))]⟩
theorem i8in {x : Int} (h : x = 1 ∨ x = -1) : IntKind.i64.wrap x = x := wrap_i64 (by rcases h with h | h <;> rw [h] <;> decide)
theorem mul1 {x y : Int} (h : x = 1 ∨ x = -1) (g : y = 1 ∨ y = -1) : -1 ≤ x * y ∧ x * y ≤ 1 := by
  rcases h with h | h <;> rcases g with g | g <;> rw [h, g] <;> decide
theorem ac_b {F : Nat → Int} (h : ∀ i, F i = 1 ∨ F i = -1) (k : Nat) : ∀ i : Nat, -(i : Int) ≤ ac F k i ∧ ac F k i ≤ i
  | 0 => by show -((0 : Nat) : Int) ≤ 0 ∧ (0 : Int) ≤ ((0 : Nat) : Int); omega
  | i + 1 => by
    have ih := ac_b h k i
    have := mul1 (h i) (h (i + k))
    rw [ac_s]
    omega
set_option maxHeartbeats 0 in
set_option maxRecDepth 100000 in
theorem Auto_f (A : List Int) (F : Nat → Int) (n ca : Nat) (hA : n ≤ A.length) (hca : n ≤ ca) (hN : n ≤ 4096) (hF : ∀ i, i < n → A.getD i 0 = F i) (h1 : ∀ i, F i = 1 ∨ F i = -1) :
    Fits Try.prog 6 ⟨[.slice 0 0 n ca], [.seg false (.ints .i8 A)], [autoOut F n]⟩ := by
  refine fits_of_body (C := cfg6 A F n ca) (c := c6) (ts := [2, 3]) tok mixed (fun | 5 => some (invO A F n ca) | _ => none) (fun _ => none)
    Try.func6 (by kernel_rfl) (by kernel_rfl) (by kernel_rfl) (by kernel_rfl) rfl ?_
  conv => whnf
  repeat (first
    | (refine And.intro ?_ ?_; (focus (first | omega | decide | exact Int.natCast_nonneg _ | ((repeat' refine And.intro ?_ ?_) <;> first | omega | exact Int.natCast_nonneg _ | (simp only [i64max]; omega) | (simp only [u8max]; omega) | (simp only [i64max, u8max, u16max, u32max, u64max]; omega) | (simp [mulSz, Cont.len, bne]; done) | (simp [mulSz, Cont.len, bne]; omega)))); conv => whnf)
    | (refine tst_in ?_ ?_; (focus (intro h_; exfalso; first | omega | ((try simp only [decide_eq_true_eq, decide_eq_false_iff_not] at h_); omega) | (simp [mulSz, Cont.len, bne] at h_; done) | (simp [mulSz, Cont.len, bne] at h_; omega))); intro _; conv => whnf)
    | (refine tst_in ?_ ?_; rotate_left; (focus (intro h_; exfalso; first | omega | ((try simp only [decide_eq_true_eq, decide_eq_false_iff_not] at h_); omega) | (simp [mulSz, Cont.len, bne] at h_; done) | (simp [mulSz, Cont.len, bne] at h_; omega))); intro _; conv => whnf))
  refine ⟨⟨[0, 1], (0 : Nat), ?_, Nat.zero_le _⟩, ?_⟩
  · conv => whnf
    repeat' (first | exact True.intro | rfl | refine And.intro ?_ ?_)
    all_goals (conv => whnf)
    repeat' (first | exact True.intro | rfl | refine And.intro ?_ ?_)
    all_goals (try (first | omega | exact True.intro | rfl | assumption | (change LE.le (α := Nat) _ _; first | omega | (simp only []; omega)) | (simp only []; done) | (simp only []; omega) | (simp; done) | (simp; omega)))
  · intro (k : Nat) (hk : k ≤ n)
    show forceSt (stO A F n ca k) _
    conv => whnf
    refine tst_in (fun hlt => ?_) (fun hge => ?_)
    · skip
      have hlt : k < n := by simp at hlt; omega
      have hsub : ((n : Int) - (k : Int)).toNat = n - k := by omega
      conv => whnf
      repeat (first
        | (refine And.intro ?_ ?_; (focus (first | omega | decide | exact Int.natCast_nonneg _ | ((repeat' refine And.intro ?_ ?_) <;> first | omega | exact Int.natCast_nonneg _ | (simp only [i64max]; omega) | (simp only [u8max]; omega) | (simp only [i64max, u8max, u16max, u32max, u64max]; omega) | (simp [mulSz, Cont.len, bne]; done) | (simp [mulSz, Cont.len, bne]; omega)))); conv => whnf)
        | (refine tst_in ?_ ?_; (focus (intro h_; exfalso; first | omega | ((try simp only [decide_eq_true_eq, decide_eq_false_iff_not] at h_); omega) | (simp [mulSz, Cont.len, bne] at h_; done) | (simp [mulSz, Cont.len, bne] at h_; omega))); intro _; conv => whnf)
        | (refine tst_in ?_ ?_; rotate_left; (focus (intro h_; exfalso; first | omega | ((try simp only [decide_eq_true_eq, decide_eq_false_iff_not] at h_); omega) | (simp [mulSz, Cont.len, bne] at h_; done) | (simp [mulSz, Cont.len, bne] at h_; omega))); intro _; conv => whnf))
      rw [hsub]
      refine ⟨⟨[0, 1], (0 : Nat), ?_, Nat.zero_le _⟩, ?_⟩
      · show stLe _ _ (stI A F n ca k 0) _
        unfold stI
        rw [show n - k = n - (k + 1) + 1 by omega]
        conv => whnf
        repeat' (first | exact True.intro | rfl | refine And.intro ?_ ?_)
        all_goals (conv => whnf)
        repeat' (first | exact True.intro | rfl | refine And.intro ?_ ?_)
        all_goals (try omega)
      · intro (i : Nat) hi
        have hi : i ≤ n - k := hi
        have hX0 : 0 + ((k : Int)).toNat = k := by omega
        have hXi : 0 + ((i : Int)).toNat = i := by omega
        have hXs : 0 + ((i : Int) + (k : Int)).toNat = i + k := by omega
        have hlen := mid_len (au F n) (ac F k i) k (n - (k + 1)) 0
        have hb := ac_b h1 k i
        have hm := mul1 (h1 i) (h1 (i + k))
        show forceSt (stI A F n ca k i) _
        conv => whnf
        refine tst_in (fun hlt2 => ?_) (fun hge2 => ?_)
        · skip
          have hlt2 : i < n - k := by simp at hlt2; omega
          have v1 := hF i (by omega)
          have v2 := hF (i + k) (by omega)
          conv => whnf
          repeat (first
            | (refine And.intro ?_ ?_; (focus (first | omega | decide | exact Int.natCast_nonneg _ | ((repeat' refine And.intro ?_ ?_) <;> first | omega | exact Int.natCast_nonneg _ | (simp only [i64max]; omega) | (simp only [u8max]; omega) | (simp only [i64max, u8max, u16max, u32max, u64max]; omega) | (simp [mulSz, Cont.len, bne, hlen]; done) | (simp [mulSz, Cont.len, bne, hlen]; omega)))); conv => whnf)
            | (refine tst_in ?_ ?_; (focus (intro h_; exfalso; first | omega | ((try simp only [decide_eq_true_eq, decide_eq_false_iff_not] at h_); omega) | (simp [mulSz, Cont.len, bne, hlen] at h_; done) | (simp [mulSz, Cont.len, bne, hlen] at h_; omega))); intro _; conv => whnf)
            | (refine tst_in ?_ ?_; rotate_left; (focus (intro h_; exfalso; first | omega | ((try simp only [decide_eq_true_eq, decide_eq_false_iff_not] at h_); omega) | (simp [mulSz, Cont.len, bne, hlen] at h_; done) | (simp [mulSz, Cont.len, bne, hlen] at h_; omega))); intro _; conv => whnf))
          rw [hXi, hXs, hX0, v1, v2, i8in (h1 i), i8in (h1 (i + k)), mid_get]
          conv => whnf
          repeat (first
            | (refine And.intro ?_ ?_; (focus (first | omega | decide | exact Int.natCast_nonneg _ | ((repeat' refine And.intro ?_ ?_) <;> first | omega | exact Int.natCast_nonneg _ | (simp only [i64max]; omega) | (simp only [u8max]; omega) | (simp only [i64max, u8max, u16max, u32max, u64max]; omega) | (simp [mulSz, Cont.len, bne, hlen]; done) | (simp [mulSz, Cont.len, bne, hlen]; omega)))); conv => whnf)
            | (refine tst_in ?_ ?_; (focus (intro h_; exfalso; first | omega | ((try simp only [decide_eq_true_eq, decide_eq_false_iff_not] at h_); omega) | (simp [mulSz, Cont.len, bne, hlen] at h_; done) | (simp [mulSz, Cont.len, bne, hlen] at h_; omega))); intro _; conv => whnf)
            | (refine tst_in ?_ ?_; rotate_left; (focus (intro h_; exfalso; first | omega | ((try simp only [decide_eq_true_eq, decide_eq_false_iff_not] at h_); omega) | (simp [mulSz, Cont.len, bne, hlen] at h_; done) | (simp [mulSz, Cont.len, bne, hlen] at h_; omega))); intro _; conv => whnf))
          refine ⟨[0, 1], i + 1, ?_, (by show i + 1 ≤ n - k; omega), (by show n - k - (i + 1) < n - k - i; omega)⟩
          show stLe _ _ (stI A F n ca k (i + 1)) _
          conv => whnf
          repeat' (first | exact True.intro | rfl | refine And.intro ?_ ?_)
          all_goals (conv => whnf)
          repeat' (first | exact True.intro | rfl | refine And.intro ?_ ?_)
          all_goals (try omega)
          all_goals (rw [hX0, mid_set]; rfl)
        · skip
          have hge2 : i = n - k := by simp at hge2; omega
          subst hge2
          rw [ac_au]
          conv => whnf
          repeat (first
            | (refine And.intro ?_ ?_; (focus (first | omega | decide | exact Int.natCast_nonneg _ | ((repeat' refine And.intro ?_ ?_) <;> first | omega | exact Int.natCast_nonneg _ | (simp only [i64max]; omega) | (simp only [u8max]; omega) | (simp only [i64max, u8max, u16max, u32max, u64max]; omega) | (simp [mulSz, Cont.len, bne]; done) | (simp [mulSz, Cont.len, bne]; omega)))); conv => whnf)
            | (refine tst_in ?_ ?_; (focus (intro h_; exfalso; first | omega | ((try simp only [decide_eq_true_eq, decide_eq_false_iff_not] at h_); omega) | (simp [mulSz, Cont.len, bne] at h_; done) | (simp [mulSz, Cont.len, bne] at h_; omega))); intro _; conv => whnf)
            | (refine tst_in ?_ ?_; rotate_left; (focus (intro h_; exfalso; first | omega | ((try simp only [decide_eq_true_eq, decide_eq_false_iff_not] at h_); omega) | (simp [mulSz, Cont.len, bne] at h_; done) | (simp [mulSz, Cont.len, bne] at h_; omega))); intro _; conv => whnf))
          refine ⟨[0, 1], k + 1, ?_, (by show k + 1 ≤ n; omega), (by show n - (k + 1) < n - k; omega)⟩
          show stLe _ _ (stO A F n ca (k + 1)) _
          unfold stO
          rw [← tab_snoc, List.append_assoc]
          conv => whnf
          repeat' (first | exact True.intro | rfl | refine And.intro ?_ ?_)
          all_goals (conv => whnf)
          repeat' (first | exact True.intro | rfl | refine And.intro ?_ ?_)
          all_goals (try omega)
    · skip
      have hge : k = n := by simp at hge; omega
      subst hge
      rw [Nat.sub_self]
      conv => whnf
      repeat (first
        | (refine And.intro ?_ ?_; (focus (first | omega | decide | exact Int.natCast_nonneg _ | ((repeat' refine And.intro ?_ ?_) <;> first | omega | exact Int.natCast_nonneg _ | (simp only [i64max]; omega) | (simp only [u8max]; omega) | (simp only [i64max, u8max, u16max, u32max, u64max]; omega) | (simp [mulSz, Cont.len, bne]; done) | (simp [mulSz, Cont.len, bne]; omega)))); conv => whnf)
        | (refine tst_in ?_ ?_; (focus (intro h_; exfalso; first | omega | ((try simp only [decide_eq_true_eq, decide_eq_false_iff_not] at h_); omega) | (simp [mulSz, Cont.len, bne] at h_; done) | (simp [mulSz, Cont.len, bne] at h_; omega))); intro _; conv => whnf)
        | (refine tst_in ?_ ?_; rotate_left; (focus (intro h_; exfalso; first | omega | ((try simp only [decide_eq_true_eq, decide_eq_false_iff_not] at h_); omega) | (simp [mulSz, Cont.len, bne] at h_; done) | (simp [mulSz, Cont.len, bne] at h_; omega))); intro _; conv => whnf))
      refine .inl ⟨(), [0, 1], ?_⟩
      conv => whnf
      repeat' (first | exact True.intro | rfl | refine And.intro ?_ ?_)
      all_goals (conv => whnf)
      repeat' (first | exact True.intro | rfl | refine And.intro ?_ ?_)
      all_goals (try omega)
      all_goals (show tab (au F k) k = tab (au F k) k ++ []; rw [List.append_nil])
end Go.Proofs.Ytpjciaibccddmaa

set_option linter.unusedVariables false
set_option linter.unusedSimpArgs false
namespace Go.Proofs.Ytpjciaibccddmaa
open Go Go.Fw
noncomputable def c4 : Code := (Try.f4.body).getD .skip
set_option maxHeartbeats 0 in
set_option maxRecDepth 100000 in
theorem awake_f : Fits Try.prog 4 ⟨[], [], [numOut [] (.bool true)]⟩ := by
  have PA := Pair_f 2 (by decide)
  have AA := Auto_f (tab (fa 2) 4) (fa 2) 4 4 (by decide) (by decide) (by decide) (fun i hi => tab_get _ _ hi) (fa_one 2)
  have AB := Auto_f (tab (fb 2) 4) (fb 2) 4 4 (by decide) (by decide) (by decide) (fun i hi => tab_get _ _ hi) (fb_one 2)
  have S1 := signs_q (tab (fa 2) 4) [1, 1, 1, -1] 0 4 4 0 4 (by decide) (by decide) (by decide) (fun i h => by
    rcases (show i = 0 ∨ i = 1 ∨ i = 2 ∨ i = 3 by omega) with e | e | e | e <;> subst e <;> decide)
  have S2 := signs_q (tab (fb 2) 4) [1, 1, -1, 1] 0 4 4 0 4 (by decide) (by decide) (by decide) (fun i h => by
    rcases (show i = 0 ∨ i = 1 ∨ i = 2 ∨ i = 3 by omega) with e | e | e | e <;> subst e <;> decide)
  refine fits_of_body (C := cfgs 0) (c := c4) (ts := [0]) tok mixed (fun _ => none) (fun _ => none)
    Try.func4 (by kernel_rfl) (by kernel_rfl) (by kernel_rfl) (by kernel_rfl) rfl ?_
  conv => whnf
  repeat (first
    | (refine And.intro ?_ ?_; (focus (first | omega | decide | exact Int.natCast_nonneg _ | ((repeat' refine And.intro ?_ ?_) <;> first | omega | exact Int.natCast_nonneg _ | (simp only [i64max]; omega) | (simp only [u8max]; omega) | (simp only [i64max, u8max, u16max, u32max, u64max]; omega) | (simp [mulSz, Cont.len, bne]; done) | (simp [mulSz, Cont.len, bne]; omega)))); conv => whnf)
    | (refine tst_in ?_ ?_; (focus (intro h_; exfalso; first | omega | ((try simp only [decide_eq_true_eq, decide_eq_false_iff_not] at h_); omega) | (simp [mulSz, Cont.len, bne] at h_; done) | (simp [mulSz, Cont.len, bne] at h_; omega))); intro _; conv => whnf)
    | (refine tst_in ?_ ?_; rotate_left; (focus (intro h_; exfalso; first | omega | ((try simp only [decide_eq_true_eq, decide_eq_false_iff_not] at h_); omega) | (simp [mulSz, Cont.len, bne] at h_; done) | (simp [mulSz, Cont.len, bne] at h_; omega))); intro _; conv => whnf))
  refine ⟨_, [], PA, ?_⟩
  conv => whnf
  refine ⟨?_, ?_, ?_⟩
  · conv => whnf
    repeat' (first | exact True.intro | rfl | refine And.intro ?_ ?_ | omega)
    all_goals (conv => whnf)
    all_goals (try (first | rfl | omega | (simp; done)))
  · conv => whnf
    repeat' (first | exact True.intro | rfl | refine And.intro ?_ ?_ | omega)
    all_goals (conv => whnf)
    all_goals (try (first | rfl | omega | (simp; done)))
  conv => whnf
  refine ⟨?_, True.intro⟩
  intro _ _
  conv => whnf
  conv => whnf
  repeat (first
    | (refine And.intro ?_ ?_; (focus (first | omega | decide | exact Int.natCast_nonneg _ | ((repeat' refine And.intro ?_ ?_) <;> first | omega | exact Int.natCast_nonneg _ | (simp only [i64max]; omega) | (simp only [u8max]; omega) | (simp only [i64max, u8max, u16max, u32max, u64max]; omega) | (simp [mulSz, Cont.len, bne]; done) | (simp [mulSz, Cont.len, bne]; omega)))); conv => whnf)
    | (refine tst_in ?_ ?_; (focus (intro h_; exfalso; first | omega | ((try simp only [decide_eq_true_eq, decide_eq_false_iff_not] at h_); omega) | (simp [mulSz, Cont.len, bne] at h_; done) | (simp [mulSz, Cont.len, bne] at h_; omega))); intro _; conv => whnf)
    | (refine tst_in ?_ ?_; rotate_left; (focus (intro h_; exfalso; first | omega | ((try simp only [decide_eq_true_eq, decide_eq_false_iff_not] at h_); omega) | (simp [mulSz, Cont.len, bne] at h_; done) | (simp [mulSz, Cont.len, bne] at h_; omega))); intro _; conv => whnf))
  refine ⟨_, [0], AA, ?_⟩
  conv => whnf
  refine ⟨?_, ?_, ?_⟩
  · conv => whnf
    repeat' (first | exact True.intro | rfl | refine And.intro ?_ ?_ | omega)
    all_goals (conv => whnf)
    all_goals (try (first | rfl | omega | (simp; done)))
  · conv => whnf
    repeat' (first | exact True.intro | rfl | refine And.intro ?_ ?_ | omega)
    all_goals (conv => whnf)
    all_goals (try (first | rfl | omega | (simp; done)))
  conv => whnf
  refine ⟨?_, True.intro⟩
  intro _ _
  conv => whnf
  conv => whnf
  repeat (first
    | (refine And.intro ?_ ?_; (focus (first | omega | decide | exact Int.natCast_nonneg _ | ((repeat' refine And.intro ?_ ?_) <;> first | omega | exact Int.natCast_nonneg _ | (simp only [i64max]; omega) | (simp only [u8max]; omega) | (simp only [i64max, u8max, u16max, u32max, u64max]; omega) | (simp [mulSz, Cont.len, bne]; done) | (simp [mulSz, Cont.len, bne]; omega)))); conv => whnf)
    | (refine tst_in ?_ ?_; (focus (intro h_; exfalso; first | omega | ((try simp only [decide_eq_true_eq, decide_eq_false_iff_not] at h_); omega) | (simp [mulSz, Cont.len, bne] at h_; done) | (simp [mulSz, Cont.len, bne] at h_; omega))); intro _; conv => whnf)
    | (refine tst_in ?_ ?_; rotate_left; (focus (intro h_; exfalso; first | omega | ((try simp only [decide_eq_true_eq, decide_eq_false_iff_not] at h_); omega) | (simp [mulSz, Cont.len, bne] at h_; done) | (simp [mulSz, Cont.len, bne] at h_; omega))); intro _; conv => whnf))
  refine ⟨_, [1], AB, ?_⟩
  conv => whnf
  refine ⟨?_, ?_, ?_⟩
  · conv => whnf
    repeat' (first | exact True.intro | rfl | refine And.intro ?_ ?_ | omega)
    all_goals (conv => whnf)
    all_goals (try (first | rfl | omega | (simp; done)))
  · conv => whnf
    repeat' (first | exact True.intro | rfl | refine And.intro ?_ ?_ | omega)
    all_goals (conv => whnf)
    all_goals (try (first | rfl | omega | (simp; done)))
  conv => whnf
  refine ⟨?_, True.intro⟩
  intro _ _
  conv => whnf
  conv => whnf
  repeat (first
    | (refine And.intro ?_ ?_; (focus (first | omega | decide | exact Int.natCast_nonneg _ | ((repeat' refine And.intro ?_ ?_) <;> first | omega | exact Int.natCast_nonneg _ | (simp only [i64max]; omega) | (simp only [u8max]; omega) | (simp only [i64max, u8max, u16max, u32max, u64max]; omega) | (simp [mulSz, Cont.len, bne]; done) | (simp [mulSz, Cont.len, bne]; omega)))); conv => whnf)
    | (refine tst_in ?_ ?_; (focus (intro h_; exfalso; first | omega | ((try simp only [decide_eq_true_eq, decide_eq_false_iff_not] at h_); omega) | (simp [mulSz, Cont.len, bne] at h_; done) | (simp [mulSz, Cont.len, bne] at h_; omega))); intro _; conv => whnf)
    | (refine tst_in ?_ ?_; rotate_left; (focus (intro h_; exfalso; first | omega | ((try simp only [decide_eq_true_eq, decide_eq_false_iff_not] at h_); omega) | (simp [mulSz, Cont.len, bne] at h_; done) | (simp [mulSz, Cont.len, bne] at h_; omega))); intro _; conv => whnf))
  refine ⟨_, [0, 4], S1, ?_⟩
  conv => whnf
  refine ⟨?_, ?_, ?_⟩
  · conv => whnf
    repeat' (first | exact True.intro | rfl | refine And.intro ?_ ?_)
    all_goals (conv => whnf)
    repeat' (first | exact True.intro | rfl | refine And.intro ?_ ?_)
    all_goals (try (first | rfl | omega | (simp; done) | (simp; omega)))
  · conv => whnf
    repeat' (first | exact True.intro | rfl | refine And.intro ?_ ?_)
    all_goals (conv => whnf)
    repeat' (first | exact True.intro | rfl | refine And.intro ?_ ?_)
    all_goals (try (first | rfl | omega | (simp; done) | (simp; omega)))
  conv => whnf
  conv => whnf
  repeat (first
    | (refine And.intro ?_ ?_; (focus (first | omega | decide | exact Int.natCast_nonneg _ | ((repeat' refine And.intro ?_ ?_) <;> first | omega | exact Int.natCast_nonneg _ | (simp only [i64max]; omega) | (simp only [u8max]; omega) | (simp only [i64max, u8max, u16max, u32max, u64max]; omega) | (simp [mulSz, Cont.len, bne]; done) | (simp [mulSz, Cont.len, bne]; omega)))); conv => whnf)
    | (refine tst_in ?_ ?_; (focus (intro h_; exfalso; first | omega | ((try simp only [decide_eq_true_eq, decide_eq_false_iff_not] at h_); omega) | (simp [mulSz, Cont.len, bne] at h_; done) | (simp [mulSz, Cont.len, bne] at h_; omega))); intro _; conv => whnf)
    | (refine tst_in ?_ ?_; rotate_left; (focus (intro h_; exfalso; first | omega | ((try simp only [decide_eq_true_eq, decide_eq_false_iff_not] at h_); omega) | (simp [mulSz, Cont.len, bne] at h_; done) | (simp [mulSz, Cont.len, bne] at h_; omega))); intro _; conv => whnf))
  refine ⟨_, [1, 5], S2, ?_⟩
  conv => whnf
  refine ⟨?_, ?_, ?_⟩
  · conv => whnf
    repeat' (first | exact True.intro | rfl | refine And.intro ?_ ?_)
    all_goals (conv => whnf)
    repeat' (first | exact True.intro | rfl | refine And.intro ?_ ?_)
    all_goals (try (first | rfl | omega | (simp; done) | (simp; omega)))
  · conv => whnf
    repeat' (first | exact True.intro | rfl | refine And.intro ?_ ?_)
    all_goals (conv => whnf)
    repeat' (first | exact True.intro | rfl | refine And.intro ?_ ?_)
    all_goals (try (first | rfl | omega | (simp; done) | (simp; omega)))
  conv => whnf
  rw [show tab (au (fa 2) 4) 4 = [4, 1, 0, -1] from by decide, show tab (au (fb 2) 4) 4 = [4, -1, 0, 1] from by decide]
  conv => whnf
  repeat (first
    | (refine And.intro ?_ ?_; (focus (first | omega | decide | exact Int.natCast_nonneg _ | ((repeat' refine And.intro ?_ ?_) <;> first | omega | exact Int.natCast_nonneg _ | (simp only [i64max]; omega) | (simp only [u8max]; omega) | (simp only [i64max, u8max, u16max, u32max, u64max]; omega) | (simp [mulSz, Cont.len, bne]; done) | (simp [mulSz, Cont.len, bne]; omega)))); conv => whnf)
    | (refine tst_in ?_ ?_; (focus (intro h_; exfalso; first | omega | ((try simp only [decide_eq_true_eq, decide_eq_false_iff_not] at h_); omega) | (simp [mulSz, Cont.len, bne] at h_; done) | (simp [mulSz, Cont.len, bne] at h_; omega))); intro _; conv => whnf)
    | (refine tst_in ?_ ?_; rotate_left; (focus (intro h_; exfalso; first | omega | ((try simp only [decide_eq_true_eq, decide_eq_false_iff_not] at h_); omega) | (simp [mulSz, Cont.len, bne] at h_; done) | (simp [mulSz, Cont.len, bne] at h_; omega))); intro _; conv => whnf))
  refine .inl ⟨(), [], ?_⟩
  conv => whnf
  repeat' (first | exact True.intro | rfl | refine And.intro ?_ ?_)
  all_goals (conv => whnf)
  repeat' (first | exact True.intro | rfl | refine And.intro ?_ ?_)
  all_goals (try (first | omega | exact True.intro | rfl | assumption | (change LE.le (α := Nat) _ _; first | omega | (simp only []; omega)) | (simp only []; done) | (simp only []; omega) | (simp; done) | (simp; omega)))
end Go.Proofs.Ytpjciaibccddmaa

set_option linter.unusedVariables false
set_option linter.unusedSimpArgs false
namespace Go.Proofs.Ytpjciaibccddmaa
open Go Go.Fw
def Ln (k : Nat) : Nat := if k = 0 then 0 else 2 ^ (k - 1)
def sP (k : Nat) (tl : List Int) : St := ⟨anyTo 129 [.any, .slice 0 0 (Ln k) (Ln k + tl.length), .int .i64 k], [.seg true (.ints .i8 (tab (fa (k - 1)) (Ln k) ++ tl))]⟩
def iP : LInv := ⟨Nat × List Int, fun y => sP y.1 y.2, fun y => y.1 ≤ 9, fun y => 9 - y.1⟩
def sQ (k s : Nat) (tl : List Int) : St := ⟨anyTo 129 [.any, .slice 0 0 (Ln k) (Ln k + tl.length), .int .i64 k, .slice 1 0 (2 ^ k) (2 ^ k), .slice 2 0 (2 ^ k) (2 ^ k), .any, .slice 3 0 (2 ^ k) (2 ^ k), .any, .slice 4 0 (2 ^ k) (2 ^ k), .any, .int .i64 (2 ^ k : Nat), .int .i64 s],
  [.seg true (.ints .i8 (tab (fa (k - 1)) (Ln k) ++ tl)), .seg true (.ints .i8 (tab (fa k) (2 ^ k))), .seg true (.ints .i8 (tab (fb k) (2 ^ k))), .seg true (.ints .i64 (tab (au (fa k) (2 ^ k)) (2 ^ k))), .seg true (.ints .i64 (tab (au (fb k) (2 ^ k)) (2 ^ k)))]⟩
def iQ (st : St) : LInv := ⟨Nat × List Int, fun y => sQ (natAt st 2) y.1 y.2, fun y => y.1 ≤ 2 ^ natAt st 2, fun y => 2 ^ natAt st 2 - y.1⟩
def cfg3 : Cfg := { T := tys, sgn := fun _ => false, wr := fun _ => false, k := 0, q := qf, dep := fun | 14 => some iQ | _ => none }
noncomputable def c3 : Code := (Try.f3.body).getD .skip
theorem Ln_le (k : Nat) : Ln k ≤ 2 ^ k := by
  unfold Ln
  split
  · exact Nat.zero_le _
  · exact Nat.pow_le_pow_right (by decide) (by omega)
theorem fa_prev {k i : Nat} (h : i < Ln k) : fa k i = fa (k - 1) i := by
  unfold Ln at h
  split at h
  · omega
  · obtain ⟨j, rfl⟩ : ∃ j, k = j + 1 := ⟨k - 1, by omega⟩
    rw [Nat.add_sub_cancel] at h ⊢
    exact ga_lo h _
set_option maxHeartbeats 0 in
set_option maxRecDepth 100000 in
theorem up_R : Fits Try.prog 3 ⟨[], [], [numOut [] (.bool true)]⟩ := by
  refine fits_of_body (C := cfg3) (c := c3) (ts := [0]) tok mixed (fun | 5 => some iP | _ => none) (fun _ => none)
    Try.func3 (by kernel_rfl) (by kernel_rfl) (by kernel_rfl) (by kernel_rfl) rfl ?_
  conv => whnf
  repeat (first
    | (refine And.intro ?_ ?_; (focus (first | omega | decide | exact Int.natCast_nonneg _ | ((repeat' refine And.intro ?_ ?_) <;> first | omega | exact Int.natCast_nonneg _ | (simp only [i64max]; omega) | (simp only [u8max]; omega) | (simp only [i64max, u8max, u16max, u32max, u64max]; omega) | (simp [mulSz, Cont.len, bne]; done) | (simp [mulSz, Cont.len, bne]; omega)))); conv => whnf)
    | (refine tst_in ?_ ?_; (focus (intro h_; exfalso; first | omega | ((try simp only [decide_eq_true_eq, decide_eq_false_iff_not] at h_); omega) | (simp [mulSz, Cont.len, bne] at h_; done) | (simp [mulSz, Cont.len, bne] at h_; omega))); intro _; conv => whnf)
    | (refine tst_in ?_ ?_; rotate_left; (focus (intro h_; exfalso; first | omega | ((try simp only [decide_eq_true_eq, decide_eq_false_iff_not] at h_); omega) | (simp [mulSz, Cont.len, bne] at h_; done) | (simp [mulSz, Cont.len, bne] at h_; omega))); intro _; conv => whnf))
  refine ⟨_, [], awake_f, ?_⟩
  conv => whnf
  refine ⟨?_, ?_, ?_⟩
  · conv => whnf
    repeat' (first | exact True.intro | rfl | refine And.intro ?_ ?_ | omega)
    all_goals (conv => whnf)
    all_goals (try (first | rfl | omega | (simp; done)))
  · conv => whnf
    repeat' (first | exact True.intro | rfl | refine And.intro ?_ ?_ | omega)
    all_goals (conv => whnf)
    all_goals (try (first | rfl | omega | (simp; done)))
  conv => whnf
  refine ⟨?_, True.intro⟩
  intro _ _
  conv => whnf
  conv => whnf
  repeat (first
    | (refine And.intro ?_ ?_; (focus (first | omega | decide | exact Int.natCast_nonneg _ | ((repeat' refine And.intro ?_ ?_) <;> first | omega | exact Int.natCast_nonneg _ | (simp only [i64max]; omega) | (simp only [u8max]; omega) | (simp only [i64max, u8max, u16max, u32max, u64max]; omega) | (simp [mulSz, Cont.len, bne]; done) | (simp [mulSz, Cont.len, bne]; omega)))); conv => whnf)
    | (refine tst_in ?_ ?_; (focus (intro h_; exfalso; first | omega | ((try simp only [decide_eq_true_eq, decide_eq_false_iff_not] at h_); omega) | (simp [mulSz, Cont.len, bne] at h_; done) | (simp [mulSz, Cont.len, bne] at h_; omega))); intro _; conv => whnf)
    | (refine tst_in ?_ ?_; rotate_left; (focus (intro h_; exfalso; first | omega | ((try simp only [decide_eq_true_eq, decide_eq_false_iff_not] at h_); omega) | (simp [mulSz, Cont.len, bne] at h_; done) | (simp [mulSz, Cont.len, bne] at h_; omega))); intro _; conv => whnf))
  refine ⟨⟨[0], ((0, []) : Nat × List Int), ?_, Nat.zero_le _⟩, ?_⟩
  · conv => whnf
    repeat' (first | exact True.intro | rfl | refine And.intro ?_ ?_)
    all_goals (conv => whnf)
    repeat' (first | exact True.intro | rfl | refine And.intro ?_ ?_)
    all_goals (try (first | omega | exact True.intro | rfl | assumption | (change LE.le (α := Nat) _ _; first | omega | (simp only []; omega)) | (simp only []; done) | (simp only []; omega) | (simp; done) | (simp; omega)))
  · rintro ⟨k, tl⟩ hk
    have hk : k ≤ 9 := hk
    show forceSt (sP k tl) _
    conv => whnf
    refine tst_in (fun hlt => ?_) (fun hge => ?_)
    · skip
      have hlt : k ≤ 8 := by simp at hlt; omega
      have PA := Pair_f k hlt
      have hp := pow8 hlt
      have AA := Auto_f (tab (fa k) (2 ^ k)) (fa k) (2 ^ k) (2 ^ k) (by rw [tab_len]; exact Nat.le_refl _) (Nat.le_refl _) (by omega) (fun i hi => tab_get _ _ hi) (fa_one k)
      have AB := Auto_f (tab (fb k) (2 ^ k)) (fb k) (2 ^ k) (2 ^ k) (by rw [tab_len]; exact Nat.le_refl _) (Nat.le_refl _) (by omega) (fun i hi => tab_get _ _ hi) (fb_one k)
      have e : (1 * 2 ^ (min ((k : Nat) : Int).toNat (IntKind.bits .i64)) : Int) = ((2 ^ k : Nat) : Int) := by
        rw [Int.toNat_natCast, Nat.min_eq_left (show k ≤ IntKind.bits .i64 by show k ≤ 64; omega), Int.one_mul]; exact (Int.natCast_pow 2 k).symm
      have GO : ∀ s, s < 2 ^ k → au (fa k) (2 ^ k) s + au (fb k) (2 ^ k) s = if s = 0 then 2 * ((2 ^ k : Nat) : Int) else 0 := golay k
      have hLn := Ln_le k
      have hFP := @fa_prev k
      have SG := fun tl => signs_q (tab (fa k) (2 ^ k)) (tab (fa (k - 1)) (Ln k) ++ tl) 0 (Ln k) (2 ^ k) 0 (Ln k + tl.length) (by rw [tab_len]; omega) (by rw [app_len]; omega) (by omega) (fun i hi => by
        rw [Nat.zero_add, tab_get _ _ (by omega), tab_app _ _ _ hi, hFP hi])
      conv => whnf
      repeat (first
        | (refine And.intro ?_ ?_; (focus (first | omega | decide | exact Int.natCast_nonneg _ | ((repeat' refine And.intro ?_ ?_) <;> first | omega | exact Int.natCast_nonneg _ | (simp only [i64max]; omega) | (simp only [u8max]; omega) | (simp only [i64max, u8max, u16max, u32max, u64max]; omega) | (simp [mulSz, Cont.len, bne]; done) | (simp [mulSz, Cont.len, bne]; omega)))); conv => whnf)
        | (refine tst_in ?_ ?_; (focus (intro h_; exfalso; first | omega | ((try simp only [decide_eq_true_eq, decide_eq_false_iff_not] at h_); omega) | (simp [mulSz, Cont.len, bne] at h_; done) | (simp [mulSz, Cont.len, bne] at h_; omega))); intro _; conv => whnf)
        | (refine tst_in ?_ ?_; rotate_left; (focus (intro h_; exfalso; first | omega | ((try simp only [decide_eq_true_eq, decide_eq_false_iff_not] at h_); omega) | (simp [mulSz, Cont.len, bne] at h_; done) | (simp [mulSz, Cont.len, bne] at h_; omega))); intro _; conv => whnf))
      refine ⟨_, [], PA, ?_⟩
      conv => whnf
      refine ⟨?_, ?_, ?_⟩
      · conv => whnf
        repeat' (first | exact True.intro | rfl | refine And.intro ?_ ?_ | omega)
        all_goals (conv => whnf)
        all_goals (try (first | rfl | omega | (simp; done)))
      · conv => whnf
        repeat' (first | exact True.intro | rfl | refine And.intro ?_ ?_ | omega)
        all_goals (conv => whnf)
        all_goals (try (first | rfl | omega | (simp; done)))
      conv => whnf
      refine ⟨?_, True.intro⟩
      intro _ _
      conv => whnf
      conv => whnf
      repeat (first
        | (refine And.intro ?_ ?_; (focus (first | omega | decide | exact Int.natCast_nonneg _ | ((repeat' refine And.intro ?_ ?_) <;> first | omega | exact Int.natCast_nonneg _ | (simp only [i64max]; omega) | (simp only [u8max]; omega) | (simp only [i64max, u8max, u16max, u32max, u64max]; omega) | (simp [mulSz, Cont.len, bne]; done) | (simp [mulSz, Cont.len, bne]; omega)))); conv => whnf)
        | (refine tst_in ?_ ?_; (focus (intro h_; exfalso; first | omega | ((try simp only [decide_eq_true_eq, decide_eq_false_iff_not] at h_); omega) | (simp [mulSz, Cont.len, bne] at h_; done) | (simp [mulSz, Cont.len, bne] at h_; omega))); intro _; conv => whnf)
        | (refine tst_in ?_ ?_; rotate_left; (focus (intro h_; exfalso; first | omega | ((try simp only [decide_eq_true_eq, decide_eq_false_iff_not] at h_); omega) | (simp [mulSz, Cont.len, bne] at h_; done) | (simp [mulSz, Cont.len, bne] at h_; omega))); intro _; conv => whnf))
      refine ⟨_, [1], AA, ?_⟩
      conv => whnf
      refine ⟨?_, ?_, ?_⟩
      · conv => whnf
        repeat' (first | exact True.intro | rfl | refine And.intro ?_ ?_ | omega)
        all_goals (conv => whnf)
        all_goals (try (first | rfl | omega | (simp; done)))
      · conv => whnf
        repeat' (first | exact True.intro | rfl | refine And.intro ?_ ?_ | omega)
        all_goals (conv => whnf)
        all_goals (try (first | rfl | omega | (simp; done)))
      conv => whnf
      refine ⟨?_, True.intro⟩
      intro _ _
      conv => whnf
      conv => whnf
      repeat (first
        | (refine And.intro ?_ ?_; (focus (first | omega | decide | exact Int.natCast_nonneg _ | ((repeat' refine And.intro ?_ ?_) <;> first | omega | exact Int.natCast_nonneg _ | (simp only [i64max]; omega) | (simp only [u8max]; omega) | (simp only [i64max, u8max, u16max, u32max, u64max]; omega) | (simp [mulSz, Cont.len, bne]; done) | (simp [mulSz, Cont.len, bne]; omega)))); conv => whnf)
        | (refine tst_in ?_ ?_; (focus (intro h_; exfalso; first | omega | ((try simp only [decide_eq_true_eq, decide_eq_false_iff_not] at h_); omega) | (simp [mulSz, Cont.len, bne] at h_; done) | (simp [mulSz, Cont.len, bne] at h_; omega))); intro _; conv => whnf)
        | (refine tst_in ?_ ?_; rotate_left; (focus (intro h_; exfalso; first | omega | ((try simp only [decide_eq_true_eq, decide_eq_false_iff_not] at h_); omega) | (simp [mulSz, Cont.len, bne] at h_; done) | (simp [mulSz, Cont.len, bne] at h_; omega))); intro _; conv => whnf))
      refine ⟨_, [2], AB, ?_⟩
      conv => whnf
      refine ⟨?_, ?_, ?_⟩
      · conv => whnf
        repeat' (first | exact True.intro | rfl | refine And.intro ?_ ?_ | omega)
        all_goals (conv => whnf)
        all_goals (try (first | rfl | omega | (simp; done)))
      · conv => whnf
        repeat' (first | exact True.intro | rfl | refine And.intro ?_ ?_ | omega)
        all_goals (conv => whnf)
        all_goals (try (first | rfl | omega | (simp; done)))
      conv => whnf
      refine ⟨?_, True.intro⟩
      intro _ _
      conv => whnf
      conv => whnf
      repeat (first
        | (refine And.intro ?_ ?_; (focus (first | omega | decide | exact Int.natCast_nonneg _ | ((repeat' refine And.intro ?_ ?_) <;> first | omega | exact Int.natCast_nonneg _ | (simp only [i64max]; omega) | (simp only [u8max]; omega) | (simp only [i64max, u8max, u16max, u32max, u64max]; omega) | (simp [mulSz, Cont.len, bne]; done) | (simp [mulSz, Cont.len, bne]; omega)))); conv => whnf)
        | (refine tst_in ?_ ?_; (focus (intro h_; exfalso; first | omega | ((try simp only [decide_eq_true_eq, decide_eq_false_iff_not] at h_); omega) | (simp [mulSz, Cont.len, bne] at h_; done) | (simp [mulSz, Cont.len, bne] at h_; omega))); intro _; conv => whnf)
        | (refine tst_in ?_ ?_; rotate_left; (focus (intro h_; exfalso; first | omega | ((try simp only [decide_eq_true_eq, decide_eq_false_iff_not] at h_); omega) | (simp [mulSz, Cont.len, bne] at h_; done) | (simp [mulSz, Cont.len, bne] at h_; omega))); intro _; conv => whnf))
      rw [e]
      conv => whnf
      repeat (first
        | (refine And.intro ?_ ?_; (focus (first | omega | decide | exact Int.natCast_nonneg _ | ((repeat' refine And.intro ?_ ?_) <;> first | omega | exact Int.natCast_nonneg _ | (simp only [i64max]; omega) | (simp only [u8max]; omega) | (simp only [i64max, u8max, u16max, u32max, u64max]; omega) | (simp [mulSz, Cont.len, bne]; done) | (simp [mulSz, Cont.len, bne]; omega)))); conv => whnf)
        | (refine tst_in ?_ ?_; (focus (intro h_; exfalso; first | omega | ((try simp only [decide_eq_true_eq, decide_eq_false_iff_not] at h_); omega) | (simp [mulSz, Cont.len, bne] at h_; done) | (simp [mulSz, Cont.len, bne] at h_; omega))); intro _; conv => whnf)
        | (refine tst_in ?_ ?_; rotate_left; (focus (intro h_; exfalso; first | omega | ((try simp only [decide_eq_true_eq, decide_eq_false_iff_not] at h_); omega) | (simp [mulSz, Cont.len, bne] at h_; done) | (simp [mulSz, Cont.len, bne] at h_; omega))); intro _; conv => whnf))
      refine ⟨⟨[0, 1, 2, 3, 4], ((0, tl) : Nat × List Int), ?_, Nat.zero_le _⟩, ?_⟩
      · show stLe _ _ (sQ k 0 tl) _
        conv => whnf
        repeat' (first | exact True.intro | rfl | refine And.intro ?_ ?_)
        all_goals (conv => whnf)
        repeat' (first | exact True.intro | rfl | refine And.intro ?_ ?_)
        all_goals (try omega)
      · rintro ⟨s, tl2⟩ hs
        have hs : s ≤ 2 ^ k := hs
        have l1 := tab_len (fa k) (2 ^ k)
        have l2 := tab_len (fb k) (2 ^ k)
        have l3 := tab_len (au (fa k) (2 ^ k)) (2 ^ k)
        have l4 := tab_len (au (fb k) (2 ^ k)) (2 ^ k)
        have hXs : 0 + ((s : Int)).toNat = s := by omega
        have hbA := ac_b (fa_one k) s (2 ^ k - s)
        have hbB := ac_b (fb_one k) s (2 ^ k - s)
        rw [ac_au] at hbA hbB
        have hbA2 : -256 ≤ au (fa k) (2 ^ k) s ∧ au (fa k) (2 ^ k) s ≤ 256 := by omega
        have hbB2 : -256 ≤ au (fb k) (2 ^ k) s ∧ au (fb k) (2 ^ k) s ≤ 256 := by omega
        show forceSt (sQ k s tl2) _
        conv => whnf
        refine tst_in (fun hlt2 => ?_) (fun hge2 => ?_)
        · skip
          have hlt2 : s < 2 ^ k := by simp only [decide_eq_true_eq] at hlt2; omega
          have hG := GO s hlt2
          rcases Nat.eq_zero_or_pos s with h0 | h0
          · skip
            rw [if_pos h0] at hG
            conv => whnf
            repeat (first
              | (refine And.intro ?_ ?_; (focus (first | omega | decide | exact Int.natCast_nonneg _ | ((repeat' refine And.intro ?_ ?_) <;> first | omega | exact Int.natCast_nonneg _ | (simp only [i64max]; omega) | (simp only [u8max]; omega) | (simp only [i64max, u8max, u16max, u32max, u64max]; omega) | (simp [mulSz, Cont.len, bne, l1, l2, l3, l4]; done) | (simp [mulSz, Cont.len, bne, l1, l2, l3, l4]; omega)))); conv => whnf)
              | (refine tst_in ?_ ?_; (focus (intro h_; exfalso; first | omega | ((try simp only [decide_eq_true_eq, decide_eq_false_iff_not] at h_); omega) | (simp [mulSz, Cont.len, bne, l1, l2, l3, l4] at h_; done) | (simp [mulSz, Cont.len, bne, l1, l2, l3, l4] at h_; omega))); intro _; conv => whnf)
              | (refine tst_in ?_ ?_; rotate_left; (focus (intro h_; exfalso; first | omega | ((try simp only [decide_eq_true_eq, decide_eq_false_iff_not] at h_); omega) | (simp [mulSz, Cont.len, bne, l1, l2, l3, l4] at h_; done) | (simp [mulSz, Cont.len, bne, l1, l2, l3, l4] at h_; omega))); intro _; conv => whnf))
            rw [hXs, tab_get _ _ hlt2, tab_get _ _ hlt2]
            conv => whnf
            repeat (first
              | (refine And.intro ?_ ?_; (focus (first | omega | decide | exact Int.natCast_nonneg _ | ((repeat' refine And.intro ?_ ?_) <;> first | omega | exact Int.natCast_nonneg _ | (simp only [i64max]; omega) | (simp only [u8max]; omega) | (simp only [i64max, u8max, u16max, u32max, u64max]; omega) | (simp [mulSz, Cont.len, bne, l1, l2, l3, l4]; done) | (simp [mulSz, Cont.len, bne, l1, l2, l3, l4]; omega)))); conv => whnf)
              | (refine tst_in ?_ ?_; (focus (intro h_; exfalso; first | omega | ((try simp only [decide_eq_true_eq, decide_eq_false_iff_not] at h_); omega) | (simp [mulSz, Cont.len, bne, l1, l2, l3, l4] at h_; done) | (simp [mulSz, Cont.len, bne, l1, l2, l3, l4] at h_; omega))); intro _; conv => whnf)
              | (refine tst_in ?_ ?_; rotate_left; (focus (intro h_; exfalso; first | omega | ((try simp only [decide_eq_true_eq, decide_eq_false_iff_not] at h_); omega) | (simp [mulSz, Cont.len, bne, l1, l2, l3, l4] at h_; done) | (simp [mulSz, Cont.len, bne, l1, l2, l3, l4] at h_; omega))); intro _; conv => whnf))
            rw [show decide (au (fa k) (2 ^ k) s + au (fb k) (2 ^ k) s = 2 * ((2 ^ k : Nat) : Int)) = true from decide_eq_true hG]
            conv => whnf
            repeat (first
              | (refine And.intro ?_ ?_; (focus (first | omega | decide | exact Int.natCast_nonneg _ | ((repeat' refine And.intro ?_ ?_) <;> first | omega | exact Int.natCast_nonneg _ | (simp only [i64max]; omega) | (simp only [u8max]; omega) | (simp only [i64max, u8max, u16max, u32max, u64max]; omega) | (simp [mulSz, Cont.len, bne, l1, l2, l3, l4]; done) | (simp [mulSz, Cont.len, bne, l1, l2, l3, l4]; omega)))); conv => whnf)
              | (refine tst_in ?_ ?_; (focus (intro h_; exfalso; first | omega | ((try simp only [decide_eq_true_eq, decide_eq_false_iff_not] at h_); omega) | (simp [mulSz, Cont.len, bne, l1, l2, l3, l4] at h_; done) | (simp [mulSz, Cont.len, bne, l1, l2, l3, l4] at h_; omega))); intro _; conv => whnf)
              | (refine tst_in ?_ ?_; rotate_left; (focus (intro h_; exfalso; first | omega | ((try simp only [decide_eq_true_eq, decide_eq_false_iff_not] at h_); omega) | (simp [mulSz, Cont.len, bne, l1, l2, l3, l4] at h_; done) | (simp [mulSz, Cont.len, bne, l1, l2, l3, l4] at h_; omega))); intro _; conv => whnf))
            rw [hXs, tab_get _ _ hlt2]
            rcases fa_one k s with e1 | e1
            · skip
              rw [e1]
              conv => whnf
              repeat (first
                | (refine And.intro ?_ ?_; (focus (first | omega | decide | exact Int.natCast_nonneg _ | ((repeat' refine And.intro ?_ ?_) <;> first | omega | exact Int.natCast_nonneg _ | (simp only [i64max]; omega) | (simp only [u8max]; omega) | (simp only [i64max, u8max, u16max, u32max, u64max]; omega) | (simp [mulSz, Cont.len, bne, l1, l2, l3, l4]; done) | (simp [mulSz, Cont.len, bne, l1, l2, l3, l4]; omega)))); conv => whnf)
                | (refine tst_in ?_ ?_; (focus (intro h_; exfalso; first | omega | ((try simp only [decide_eq_true_eq, decide_eq_false_iff_not] at h_); omega) | (simp [mulSz, Cont.len, bne, l1, l2, l3, l4] at h_; done) | (simp [mulSz, Cont.len, bne, l1, l2, l3, l4] at h_; omega))); intro _; conv => whnf)
                | (refine tst_in ?_ ?_; rotate_left; (focus (intro h_; exfalso; first | omega | ((try simp only [decide_eq_true_eq, decide_eq_false_iff_not] at h_); omega) | (simp [mulSz, Cont.len, bne, l1, l2, l3, l4] at h_; done) | (simp [mulSz, Cont.len, bne, l1, l2, l3, l4] at h_; omega))); intro _; conv => whnf))
              rw [hXs, tab_get _ _ hlt2]
              rcases fb_one k s with e2 | e2
              · skip
                rw [e2]
                conv => whnf
                repeat (first
                  | (refine And.intro ?_ ?_; (focus (first | omega | decide | exact Int.natCast_nonneg _ | ((repeat' refine And.intro ?_ ?_) <;> first | omega | exact Int.natCast_nonneg _ | (simp only [i64max]; omega) | (simp only [u8max]; omega) | (simp only [i64max, u8max, u16max, u32max, u64max]; omega) | (simp [mulSz, Cont.len, bne]; done) | (simp [mulSz, Cont.len, bne]; omega)))); conv => whnf)
                  | (refine tst_in ?_ ?_; (focus (intro h_; exfalso; first | omega | ((try simp only [decide_eq_true_eq, decide_eq_false_iff_not] at h_); omega) | (simp [mulSz, Cont.len, bne] at h_; done) | (simp [mulSz, Cont.len, bne] at h_; omega))); intro _; conv => whnf)
                  | (refine tst_in ?_ ?_; rotate_left; (focus (intro h_; exfalso; first | omega | ((try simp only [decide_eq_true_eq, decide_eq_false_iff_not] at h_); omega) | (simp [mulSz, Cont.len, bne] at h_; done) | (simp [mulSz, Cont.len, bne] at h_; omega))); intro _; conv => whnf))
                refine ⟨[0, 1, 2, 3, 4], ((s + 1, tl2) : Nat × List Int), ?_, (by show s + 1 ≤ 2 ^ k; omega), (by show 2 ^ k - (s + 1) < 2 ^ k - s; omega)⟩
                show stLe _ _ (sQ k (s + 1) tl2) _
                conv => whnf
                repeat' (first | exact True.intro | rfl | refine And.intro ?_ ?_)
                all_goals (conv => whnf)
                repeat' (first | exact True.intro | rfl | refine And.intro ?_ ?_)
                all_goals (try omega)
              · skip
                rw [e2]
                conv => whnf
                repeat (first
                  | (refine And.intro ?_ ?_; (focus (first | omega | decide | exact Int.natCast_nonneg _ | ((repeat' refine And.intro ?_ ?_) <;> first | omega | exact Int.natCast_nonneg _ | (simp only [i64max]; omega) | (simp only [u8max]; omega) | (simp only [i64max, u8max, u16max, u32max, u64max]; omega) | (simp [mulSz, Cont.len, bne, l1, l2, l3, l4]; done) | (simp [mulSz, Cont.len, bne, l1, l2, l3, l4]; omega)))); conv => whnf)
                  | (refine tst_in ?_ ?_; (focus (intro h_; exfalso; first | omega | ((try simp only [decide_eq_true_eq, decide_eq_false_iff_not] at h_); omega) | (simp [mulSz, Cont.len, bne, l1, l2, l3, l4] at h_; done) | (simp [mulSz, Cont.len, bne, l1, l2, l3, l4] at h_; omega))); intro _; conv => whnf)
                  | (refine tst_in ?_ ?_; rotate_left; (focus (intro h_; exfalso; first | omega | ((try simp only [decide_eq_true_eq, decide_eq_false_iff_not] at h_); omega) | (simp [mulSz, Cont.len, bne, l1, l2, l3, l4] at h_; done) | (simp [mulSz, Cont.len, bne, l1, l2, l3, l4] at h_; omega))); intro _; conv => whnf))
                rw [hXs, tab_get _ _ hlt2, e2]
                conv => whnf
                repeat (first
                  | (refine And.intro ?_ ?_; (focus (first | omega | decide | exact Int.natCast_nonneg _ | ((repeat' refine And.intro ?_ ?_) <;> first | omega | exact Int.natCast_nonneg _ | (simp only [i64max]; omega) | (simp only [u8max]; omega) | (simp only [i64max, u8max, u16max, u32max, u64max]; omega) | (simp [mulSz, Cont.len, bne]; done) | (simp [mulSz, Cont.len, bne]; omega)))); conv => whnf)
                  | (refine tst_in ?_ ?_; (focus (intro h_; exfalso; first | omega | ((try simp only [decide_eq_true_eq, decide_eq_false_iff_not] at h_); omega) | (simp [mulSz, Cont.len, bne] at h_; done) | (simp [mulSz, Cont.len, bne] at h_; omega))); intro _; conv => whnf)
                  | (refine tst_in ?_ ?_; rotate_left; (focus (intro h_; exfalso; first | omega | ((try simp only [decide_eq_true_eq, decide_eq_false_iff_not] at h_); omega) | (simp [mulSz, Cont.len, bne] at h_; done) | (simp [mulSz, Cont.len, bne] at h_; omega))); intro _; conv => whnf))
                refine ⟨[0, 1, 2, 3, 4], ((s + 1, tl2) : Nat × List Int), ?_, (by show s + 1 ≤ 2 ^ k; omega), (by show 2 ^ k - (s + 1) < 2 ^ k - s; omega)⟩
                show stLe _ _ (sQ k (s + 1) tl2) _
                conv => whnf
                repeat' (first | exact True.intro | rfl | refine And.intro ?_ ?_)
                all_goals (conv => whnf)
                repeat' (first | exact True.intro | rfl | refine And.intro ?_ ?_)
                all_goals (try omega)
            · skip
              rw [e1]
              conv => whnf
              repeat (first
                | (refine And.intro ?_ ?_; (focus (first | omega | decide | exact Int.natCast_nonneg _ | ((repeat' refine And.intro ?_ ?_) <;> first | omega | exact Int.natCast_nonneg _ | (simp only [i64max]; omega) | (simp only [u8max]; omega) | (simp only [i64max, u8max, u16max, u32max, u64max]; omega) | (simp [mulSz, Cont.len, bne, l1, l2, l3, l4]; done) | (simp [mulSz, Cont.len, bne, l1, l2, l3, l4]; omega)))); conv => whnf)
                | (refine tst_in ?_ ?_; (focus (intro h_; exfalso; first | omega | ((try simp only [decide_eq_true_eq, decide_eq_false_iff_not] at h_); omega) | (simp [mulSz, Cont.len, bne, l1, l2, l3, l4] at h_; done) | (simp [mulSz, Cont.len, bne, l1, l2, l3, l4] at h_; omega))); intro _; conv => whnf)
                | (refine tst_in ?_ ?_; rotate_left; (focus (intro h_; exfalso; first | omega | ((try simp only [decide_eq_true_eq, decide_eq_false_iff_not] at h_); omega) | (simp [mulSz, Cont.len, bne, l1, l2, l3, l4] at h_; done) | (simp [mulSz, Cont.len, bne, l1, l2, l3, l4] at h_; omega))); intro _; conv => whnf))
              rw [hXs, tab_get _ _ hlt2, e1]
              conv => whnf
              repeat (first
                | (refine And.intro ?_ ?_; (focus (first | omega | decide | exact Int.natCast_nonneg _ | ((repeat' refine And.intro ?_ ?_) <;> first | omega | exact Int.natCast_nonneg _ | (simp only [i64max]; omega) | (simp only [u8max]; omega) | (simp only [i64max, u8max, u16max, u32max, u64max]; omega) | (simp [mulSz, Cont.len, bne, l1, l2, l3, l4]; done) | (simp [mulSz, Cont.len, bne, l1, l2, l3, l4]; omega)))); conv => whnf)
                | (refine tst_in ?_ ?_; (focus (intro h_; exfalso; first | omega | ((try simp only [decide_eq_true_eq, decide_eq_false_iff_not] at h_); omega) | (simp [mulSz, Cont.len, bne, l1, l2, l3, l4] at h_; done) | (simp [mulSz, Cont.len, bne, l1, l2, l3, l4] at h_; omega))); intro _; conv => whnf)
                | (refine tst_in ?_ ?_; rotate_left; (focus (intro h_; exfalso; first | omega | ((try simp only [decide_eq_true_eq, decide_eq_false_iff_not] at h_); omega) | (simp [mulSz, Cont.len, bne, l1, l2, l3, l4] at h_; done) | (simp [mulSz, Cont.len, bne, l1, l2, l3, l4] at h_; omega))); intro _; conv => whnf))
              rw [hXs, tab_get _ _ hlt2]
              rcases fb_one k s with e2 | e2
              · skip
                rw [e2]
                conv => whnf
                repeat (first
                  | (refine And.intro ?_ ?_; (focus (first | omega | decide | exact Int.natCast_nonneg _ | ((repeat' refine And.intro ?_ ?_) <;> first | omega | exact Int.natCast_nonneg _ | (simp only [i64max]; omega) | (simp only [u8max]; omega) | (simp only [i64max, u8max, u16max, u32max, u64max]; omega) | (simp [mulSz, Cont.len, bne]; done) | (simp [mulSz, Cont.len, bne]; omega)))); conv => whnf)
                  | (refine tst_in ?_ ?_; (focus (intro h_; exfalso; first | omega | ((try simp only [decide_eq_true_eq, decide_eq_false_iff_not] at h_); omega) | (simp [mulSz, Cont.len, bne] at h_; done) | (simp [mulSz, Cont.len, bne] at h_; omega))); intro _; conv => whnf)
                  | (refine tst_in ?_ ?_; rotate_left; (focus (intro h_; exfalso; first | omega | ((try simp only [decide_eq_true_eq, decide_eq_false_iff_not] at h_); omega) | (simp [mulSz, Cont.len, bne] at h_; done) | (simp [mulSz, Cont.len, bne] at h_; omega))); intro _; conv => whnf))
                refine ⟨[0, 1, 2, 3, 4], ((s + 1, tl2) : Nat × List Int), ?_, (by show s + 1 ≤ 2 ^ k; omega), (by show 2 ^ k - (s + 1) < 2 ^ k - s; omega)⟩
                show stLe _ _ (sQ k (s + 1) tl2) _
                conv => whnf
                repeat' (first | exact True.intro | rfl | refine And.intro ?_ ?_)
                all_goals (conv => whnf)
                repeat' (first | exact True.intro | rfl | refine And.intro ?_ ?_)
                all_goals (try omega)
              · skip
                rw [e2]
                conv => whnf
                repeat (first
                  | (refine And.intro ?_ ?_; (focus (first | omega | decide | exact Int.natCast_nonneg _ | ((repeat' refine And.intro ?_ ?_) <;> first | omega | exact Int.natCast_nonneg _ | (simp only [i64max]; omega) | (simp only [u8max]; omega) | (simp only [i64max, u8max, u16max, u32max, u64max]; omega) | (simp [mulSz, Cont.len, bne, l1, l2, l3, l4]; done) | (simp [mulSz, Cont.len, bne, l1, l2, l3, l4]; omega)))); conv => whnf)
                  | (refine tst_in ?_ ?_; (focus (intro h_; exfalso; first | omega | ((try simp only [decide_eq_true_eq, decide_eq_false_iff_not] at h_); omega) | (simp [mulSz, Cont.len, bne, l1, l2, l3, l4] at h_; done) | (simp [mulSz, Cont.len, bne, l1, l2, l3, l4] at h_; omega))); intro _; conv => whnf)
                  | (refine tst_in ?_ ?_; rotate_left; (focus (intro h_; exfalso; first | omega | ((try simp only [decide_eq_true_eq, decide_eq_false_iff_not] at h_); omega) | (simp [mulSz, Cont.len, bne, l1, l2, l3, l4] at h_; done) | (simp [mulSz, Cont.len, bne, l1, l2, l3, l4] at h_; omega))); intro _; conv => whnf))
                rw [hXs, tab_get _ _ hlt2, e2]
                conv => whnf
                repeat (first
                  | (refine And.intro ?_ ?_; (focus (first | omega | decide | exact Int.natCast_nonneg _ | ((repeat' refine And.intro ?_ ?_) <;> first | omega | exact Int.natCast_nonneg _ | (simp only [i64max]; omega) | (simp only [u8max]; omega) | (simp only [i64max, u8max, u16max, u32max, u64max]; omega) | (simp [mulSz, Cont.len, bne]; done) | (simp [mulSz, Cont.len, bne]; omega)))); conv => whnf)
                  | (refine tst_in ?_ ?_; (focus (intro h_; exfalso; first | omega | ((try simp only [decide_eq_true_eq, decide_eq_false_iff_not] at h_); omega) | (simp [mulSz, Cont.len, bne] at h_; done) | (simp [mulSz, Cont.len, bne] at h_; omega))); intro _; conv => whnf)
                  | (refine tst_in ?_ ?_; rotate_left; (focus (intro h_; exfalso; first | omega | ((try simp only [decide_eq_true_eq, decide_eq_false_iff_not] at h_); omega) | (simp [mulSz, Cont.len, bne] at h_; done) | (simp [mulSz, Cont.len, bne] at h_; omega))); intro _; conv => whnf))
                refine ⟨[0, 1, 2, 3, 4], ((s + 1, tl2) : Nat × List Int), ?_, (by show s + 1 ≤ 2 ^ k; omega), (by show 2 ^ k - (s + 1) < 2 ^ k - s; omega)⟩
                show stLe _ _ (sQ k (s + 1) tl2) _
                conv => whnf
                repeat' (first | exact True.intro | rfl | refine And.intro ?_ ?_)
                all_goals (conv => whnf)
                repeat' (first | exact True.intro | rfl | refine And.intro ?_ ?_)
                all_goals (try omega)
          · skip
            rw [if_neg (show ¬ s = 0 by omega)] at hG
            conv => whnf
            repeat (first
              | (refine And.intro ?_ ?_; (focus (first | omega | decide | exact Int.natCast_nonneg _ | ((repeat' refine And.intro ?_ ?_) <;> first | omega | exact Int.natCast_nonneg _ | (simp only [i64max]; omega) | (simp only [u8max]; omega) | (simp only [i64max, u8max, u16max, u32max, u64max]; omega) | (simp [mulSz, Cont.len, bne, l1, l2, l3, l4]; done) | (simp [mulSz, Cont.len, bne, l1, l2, l3, l4]; omega)))); conv => whnf)
              | (refine tst_in ?_ ?_; (focus (intro h_; exfalso; first | omega | ((try simp only [decide_eq_true_eq, decide_eq_false_iff_not] at h_); omega) | (simp [mulSz, Cont.len, bne, l1, l2, l3, l4] at h_; done) | (simp [mulSz, Cont.len, bne, l1, l2, l3, l4] at h_; omega))); intro _; conv => whnf)
              | (refine tst_in ?_ ?_; rotate_left; (focus (intro h_; exfalso; first | omega | ((try simp only [decide_eq_true_eq, decide_eq_false_iff_not] at h_); omega) | (simp [mulSz, Cont.len, bne, l1, l2, l3, l4] at h_; done) | (simp [mulSz, Cont.len, bne, l1, l2, l3, l4] at h_; omega))); intro _; conv => whnf))
            rw [hXs, tab_get _ _ hlt2, tab_get _ _ hlt2]
            conv => whnf
            repeat (first
              | (refine And.intro ?_ ?_; (focus (first | omega | decide | exact Int.natCast_nonneg _ | ((repeat' refine And.intro ?_ ?_) <;> first | omega | exact Int.natCast_nonneg _ | (simp only [i64max]; omega) | (simp only [u8max]; omega) | (simp only [i64max, u8max, u16max, u32max, u64max]; omega) | (simp [mulSz, Cont.len, bne, l1, l2, l3, l4]; done) | (simp [mulSz, Cont.len, bne, l1, l2, l3, l4]; omega)))); conv => whnf)
              | (refine tst_in ?_ ?_; (focus (intro h_; exfalso; first | omega | ((try simp only [decide_eq_true_eq, decide_eq_false_iff_not] at h_); omega) | (simp [mulSz, Cont.len, bne, l1, l2, l3, l4] at h_; done) | (simp [mulSz, Cont.len, bne, l1, l2, l3, l4] at h_; omega))); intro _; conv => whnf)
              | (refine tst_in ?_ ?_; rotate_left; (focus (intro h_; exfalso; first | omega | ((try simp only [decide_eq_true_eq, decide_eq_false_iff_not] at h_); omega) | (simp [mulSz, Cont.len, bne, l1, l2, l3, l4] at h_; done) | (simp [mulSz, Cont.len, bne, l1, l2, l3, l4] at h_; omega))); intro _; conv => whnf))
            rw [show decide (au (fa k) (2 ^ k) s + au (fb k) (2 ^ k) s = 0) = true from decide_eq_true hG]
            conv => whnf
            repeat (first
              | (refine And.intro ?_ ?_; (focus (first | omega | decide | exact Int.natCast_nonneg _ | ((repeat' refine And.intro ?_ ?_) <;> first | omega | exact Int.natCast_nonneg _ | (simp only [i64max]; omega) | (simp only [u8max]; omega) | (simp only [i64max, u8max, u16max, u32max, u64max]; omega) | (simp [mulSz, Cont.len, bne, l1, l2, l3, l4]; done) | (simp [mulSz, Cont.len, bne, l1, l2, l3, l4]; omega)))); conv => whnf)
              | (refine tst_in ?_ ?_; (focus (intro h_; exfalso; first | omega | ((try simp only [decide_eq_true_eq, decide_eq_false_iff_not] at h_); omega) | (simp [mulSz, Cont.len, bne, l1, l2, l3, l4] at h_; done) | (simp [mulSz, Cont.len, bne, l1, l2, l3, l4] at h_; omega))); intro _; conv => whnf)
              | (refine tst_in ?_ ?_; rotate_left; (focus (intro h_; exfalso; first | omega | ((try simp only [decide_eq_true_eq, decide_eq_false_iff_not] at h_); omega) | (simp [mulSz, Cont.len, bne, l1, l2, l3, l4] at h_; done) | (simp [mulSz, Cont.len, bne, l1, l2, l3, l4] at h_; omega))); intro _; conv => whnf))
            rw [hXs, tab_get _ _ hlt2]
            rcases fa_one k s with e1 | e1
            · skip
              rw [e1]
              conv => whnf
              repeat (first
                | (refine And.intro ?_ ?_; (focus (first | omega | decide | exact Int.natCast_nonneg _ | ((repeat' refine And.intro ?_ ?_) <;> first | omega | exact Int.natCast_nonneg _ | (simp only [i64max]; omega) | (simp only [u8max]; omega) | (simp only [i64max, u8max, u16max, u32max, u64max]; omega) | (simp [mulSz, Cont.len, bne, l1, l2, l3, l4]; done) | (simp [mulSz, Cont.len, bne, l1, l2, l3, l4]; omega)))); conv => whnf)
                | (refine tst_in ?_ ?_; (focus (intro h_; exfalso; first | omega | ((try simp only [decide_eq_true_eq, decide_eq_false_iff_not] at h_); omega) | (simp [mulSz, Cont.len, bne, l1, l2, l3, l4] at h_; done) | (simp [mulSz, Cont.len, bne, l1, l2, l3, l4] at h_; omega))); intro _; conv => whnf)
                | (refine tst_in ?_ ?_; rotate_left; (focus (intro h_; exfalso; first | omega | ((try simp only [decide_eq_true_eq, decide_eq_false_iff_not] at h_); omega) | (simp [mulSz, Cont.len, bne, l1, l2, l3, l4] at h_; done) | (simp [mulSz, Cont.len, bne, l1, l2, l3, l4] at h_; omega))); intro _; conv => whnf))
              rw [hXs, tab_get _ _ hlt2]
              rcases fb_one k s with e2 | e2
              · skip
                rw [e2]
                conv => whnf
                repeat (first
                  | (refine And.intro ?_ ?_; (focus (first | omega | decide | exact Int.natCast_nonneg _ | ((repeat' refine And.intro ?_ ?_) <;> first | omega | exact Int.natCast_nonneg _ | (simp only [i64max]; omega) | (simp only [u8max]; omega) | (simp only [i64max, u8max, u16max, u32max, u64max]; omega) | (simp [mulSz, Cont.len, bne]; done) | (simp [mulSz, Cont.len, bne]; omega)))); conv => whnf)
                  | (refine tst_in ?_ ?_; (focus (intro h_; exfalso; first | omega | ((try simp only [decide_eq_true_eq, decide_eq_false_iff_not] at h_); omega) | (simp [mulSz, Cont.len, bne] at h_; done) | (simp [mulSz, Cont.len, bne] at h_; omega))); intro _; conv => whnf)
                  | (refine tst_in ?_ ?_; rotate_left; (focus (intro h_; exfalso; first | omega | ((try simp only [decide_eq_true_eq, decide_eq_false_iff_not] at h_); omega) | (simp [mulSz, Cont.len, bne] at h_; done) | (simp [mulSz, Cont.len, bne] at h_; omega))); intro _; conv => whnf))
                refine ⟨[0, 1, 2, 3, 4], ((s + 1, tl2) : Nat × List Int), ?_, (by show s + 1 ≤ 2 ^ k; omega), (by show 2 ^ k - (s + 1) < 2 ^ k - s; omega)⟩
                show stLe _ _ (sQ k (s + 1) tl2) _
                conv => whnf
                repeat' (first | exact True.intro | rfl | refine And.intro ?_ ?_)
                all_goals (conv => whnf)
                repeat' (first | exact True.intro | rfl | refine And.intro ?_ ?_)
                all_goals (try omega)
              · skip
                rw [e2]
                conv => whnf
                repeat (first
                  | (refine And.intro ?_ ?_; (focus (first | omega | decide | exact Int.natCast_nonneg _ | ((repeat' refine And.intro ?_ ?_) <;> first | omega | exact Int.natCast_nonneg _ | (simp only [i64max]; omega) | (simp only [u8max]; omega) | (simp only [i64max, u8max, u16max, u32max, u64max]; omega) | (simp [mulSz, Cont.len, bne, l1, l2, l3, l4]; done) | (simp [mulSz, Cont.len, bne, l1, l2, l3, l4]; omega)))); conv => whnf)
                  | (refine tst_in ?_ ?_; (focus (intro h_; exfalso; first | omega | ((try simp only [decide_eq_true_eq, decide_eq_false_iff_not] at h_); omega) | (simp [mulSz, Cont.len, bne, l1, l2, l3, l4] at h_; done) | (simp [mulSz, Cont.len, bne, l1, l2, l3, l4] at h_; omega))); intro _; conv => whnf)
                  | (refine tst_in ?_ ?_; rotate_left; (focus (intro h_; exfalso; first | omega | ((try simp only [decide_eq_true_eq, decide_eq_false_iff_not] at h_); omega) | (simp [mulSz, Cont.len, bne, l1, l2, l3, l4] at h_; done) | (simp [mulSz, Cont.len, bne, l1, l2, l3, l4] at h_; omega))); intro _; conv => whnf))
                rw [hXs, tab_get _ _ hlt2, e2]
                conv => whnf
                repeat (first
                  | (refine And.intro ?_ ?_; (focus (first | omega | decide | exact Int.natCast_nonneg _ | ((repeat' refine And.intro ?_ ?_) <;> first | omega | exact Int.natCast_nonneg _ | (simp only [i64max]; omega) | (simp only [u8max]; omega) | (simp only [i64max, u8max, u16max, u32max, u64max]; omega) | (simp [mulSz, Cont.len, bne]; done) | (simp [mulSz, Cont.len, bne]; omega)))); conv => whnf)
                  | (refine tst_in ?_ ?_; (focus (intro h_; exfalso; first | omega | ((try simp only [decide_eq_true_eq, decide_eq_false_iff_not] at h_); omega) | (simp [mulSz, Cont.len, bne] at h_; done) | (simp [mulSz, Cont.len, bne] at h_; omega))); intro _; conv => whnf)
                  | (refine tst_in ?_ ?_; rotate_left; (focus (intro h_; exfalso; first | omega | ((try simp only [decide_eq_true_eq, decide_eq_false_iff_not] at h_); omega) | (simp [mulSz, Cont.len, bne] at h_; done) | (simp [mulSz, Cont.len, bne] at h_; omega))); intro _; conv => whnf))
                refine ⟨[0, 1, 2, 3, 4], ((s + 1, tl2) : Nat × List Int), ?_, (by show s + 1 ≤ 2 ^ k; omega), (by show 2 ^ k - (s + 1) < 2 ^ k - s; omega)⟩
                show stLe _ _ (sQ k (s + 1) tl2) _
                conv => whnf
                repeat' (first | exact True.intro | rfl | refine And.intro ?_ ?_)
                all_goals (conv => whnf)
                repeat' (first | exact True.intro | rfl | refine And.intro ?_ ?_)
                all_goals (try omega)
            · skip
              rw [e1]
              conv => whnf
              repeat (first
                | (refine And.intro ?_ ?_; (focus (first | omega | decide | exact Int.natCast_nonneg _ | ((repeat' refine And.intro ?_ ?_) <;> first | omega | exact Int.natCast_nonneg _ | (simp only [i64max]; omega) | (simp only [u8max]; omega) | (simp only [i64max, u8max, u16max, u32max, u64max]; omega) | (simp [mulSz, Cont.len, bne, l1, l2, l3, l4]; done) | (simp [mulSz, Cont.len, bne, l1, l2, l3, l4]; omega)))); conv => whnf)
                | (refine tst_in ?_ ?_; (focus (intro h_; exfalso; first | omega | ((try simp only [decide_eq_true_eq, decide_eq_false_iff_not] at h_); omega) | (simp [mulSz, Cont.len, bne, l1, l2, l3, l4] at h_; done) | (simp [mulSz, Cont.len, bne, l1, l2, l3, l4] at h_; omega))); intro _; conv => whnf)
                | (refine tst_in ?_ ?_; rotate_left; (focus (intro h_; exfalso; first | omega | ((try simp only [decide_eq_true_eq, decide_eq_false_iff_not] at h_); omega) | (simp [mulSz, Cont.len, bne, l1, l2, l3, l4] at h_; done) | (simp [mulSz, Cont.len, bne, l1, l2, l3, l4] at h_; omega))); intro _; conv => whnf))
              rw [hXs, tab_get _ _ hlt2, e1]
              conv => whnf
              repeat (first
                | (refine And.intro ?_ ?_; (focus (first | omega | decide | exact Int.natCast_nonneg _ | ((repeat' refine And.intro ?_ ?_) <;> first | omega | exact Int.natCast_nonneg _ | (simp only [i64max]; omega) | (simp only [u8max]; omega) | (simp only [i64max, u8max, u16max, u32max, u64max]; omega) | (simp [mulSz, Cont.len, bne, l1, l2, l3, l4]; done) | (simp [mulSz, Cont.len, bne, l1, l2, l3, l4]; omega)))); conv => whnf)
                | (refine tst_in ?_ ?_; (focus (intro h_; exfalso; first | omega | ((try simp only [decide_eq_true_eq, decide_eq_false_iff_not] at h_); omega) | (simp [mulSz, Cont.len, bne, l1, l2, l3, l4] at h_; done) | (simp [mulSz, Cont.len, bne, l1, l2, l3, l4] at h_; omega))); intro _; conv => whnf)
                | (refine tst_in ?_ ?_; rotate_left; (focus (intro h_; exfalso; first | omega | ((try simp only [decide_eq_true_eq, decide_eq_false_iff_not] at h_); omega) | (simp [mulSz, Cont.len, bne, l1, l2, l3, l4] at h_; done) | (simp [mulSz, Cont.len, bne, l1, l2, l3, l4] at h_; omega))); intro _; conv => whnf))
              rw [hXs, tab_get _ _ hlt2]
              rcases fb_one k s with e2 | e2
              · skip
                rw [e2]
                conv => whnf
                repeat (first
                  | (refine And.intro ?_ ?_; (focus (first | omega | decide | exact Int.natCast_nonneg _ | ((repeat' refine And.intro ?_ ?_) <;> first | omega | exact Int.natCast_nonneg _ | (simp only [i64max]; omega) | (simp only [u8max]; omega) | (simp only [i64max, u8max, u16max, u32max, u64max]; omega) | (simp [mulSz, Cont.len, bne]; done) | (simp [mulSz, Cont.len, bne]; omega)))); conv => whnf)
                  | (refine tst_in ?_ ?_; (focus (intro h_; exfalso; first | omega | ((try simp only [decide_eq_true_eq, decide_eq_false_iff_not] at h_); omega) | (simp [mulSz, Cont.len, bne] at h_; done) | (simp [mulSz, Cont.len, bne] at h_; omega))); intro _; conv => whnf)
                  | (refine tst_in ?_ ?_; rotate_left; (focus (intro h_; exfalso; first | omega | ((try simp only [decide_eq_true_eq, decide_eq_false_iff_not] at h_); omega) | (simp [mulSz, Cont.len, bne] at h_; done) | (simp [mulSz, Cont.len, bne] at h_; omega))); intro _; conv => whnf))
                refine ⟨[0, 1, 2, 3, 4], ((s + 1, tl2) : Nat × List Int), ?_, (by show s + 1 ≤ 2 ^ k; omega), (by show 2 ^ k - (s + 1) < 2 ^ k - s; omega)⟩
                show stLe _ _ (sQ k (s + 1) tl2) _
                conv => whnf
                repeat' (first | exact True.intro | rfl | refine And.intro ?_ ?_)
                all_goals (conv => whnf)
                repeat' (first | exact True.intro | rfl | refine And.intro ?_ ?_)
                all_goals (try omega)
              · skip
                rw [e2]
                conv => whnf
                repeat (first
                  | (refine And.intro ?_ ?_; (focus (first | omega | decide | exact Int.natCast_nonneg _ | ((repeat' refine And.intro ?_ ?_) <;> first | omega | exact Int.natCast_nonneg _ | (simp only [i64max]; omega) | (simp only [u8max]; omega) | (simp only [i64max, u8max, u16max, u32max, u64max]; omega) | (simp [mulSz, Cont.len, bne, l1, l2, l3, l4]; done) | (simp [mulSz, Cont.len, bne, l1, l2, l3, l4]; omega)))); conv => whnf)
                  | (refine tst_in ?_ ?_; (focus (intro h_; exfalso; first | omega | ((try simp only [decide_eq_true_eq, decide_eq_false_iff_not] at h_); omega) | (simp [mulSz, Cont.len, bne, l1, l2, l3, l4] at h_; done) | (simp [mulSz, Cont.len, bne, l1, l2, l3, l4] at h_; omega))); intro _; conv => whnf)
                  | (refine tst_in ?_ ?_; rotate_left; (focus (intro h_; exfalso; first | omega | ((try simp only [decide_eq_true_eq, decide_eq_false_iff_not] at h_); omega) | (simp [mulSz, Cont.len, bne, l1, l2, l3, l4] at h_; done) | (simp [mulSz, Cont.len, bne, l1, l2, l3, l4] at h_; omega))); intro _; conv => whnf))
                rw [hXs, tab_get _ _ hlt2, e2]
                conv => whnf
                repeat (first
                  | (refine And.intro ?_ ?_; (focus (first | omega | decide | exact Int.natCast_nonneg _ | ((repeat' refine And.intro ?_ ?_) <;> first | omega | exact Int.natCast_nonneg _ | (simp only [i64max]; omega) | (simp only [u8max]; omega) | (simp only [i64max, u8max, u16max, u32max, u64max]; omega) | (simp [mulSz, Cont.len, bne]; done) | (simp [mulSz, Cont.len, bne]; omega)))); conv => whnf)
                  | (refine tst_in ?_ ?_; (focus (intro h_; exfalso; first | omega | ((try simp only [decide_eq_true_eq, decide_eq_false_iff_not] at h_); omega) | (simp [mulSz, Cont.len, bne] at h_; done) | (simp [mulSz, Cont.len, bne] at h_; omega))); intro _; conv => whnf)
                  | (refine tst_in ?_ ?_; rotate_left; (focus (intro h_; exfalso; first | omega | ((try simp only [decide_eq_true_eq, decide_eq_false_iff_not] at h_); omega) | (simp [mulSz, Cont.len, bne] at h_; done) | (simp [mulSz, Cont.len, bne] at h_; omega))); intro _; conv => whnf))
                refine ⟨[0, 1, 2, 3, 4], ((s + 1, tl2) : Nat × List Int), ?_, (by show s + 1 ≤ 2 ^ k; omega), (by show 2 ^ k - (s + 1) < 2 ^ k - s; omega)⟩
                show stLe _ _ (sQ k (s + 1) tl2) _
                conv => whnf
                repeat' (first | exact True.intro | rfl | refine And.intro ?_ ?_)
                all_goals (conv => whnf)
                repeat' (first | exact True.intro | rfl | refine And.intro ?_ ?_)
                all_goals (try omega)
        · skip
          conv => whnf
          repeat (first
            | (refine And.intro ?_ ?_; (focus (first | omega | decide | exact Int.natCast_nonneg _ | ((repeat' refine And.intro ?_ ?_) <;> first | omega | exact Int.natCast_nonneg _ | (simp only [i64max]; omega) | (simp only [u8max]; omega) | (simp only [i64max, u8max, u16max, u32max, u64max]; omega) | (simp [mulSz, Cont.len, bne]; done) | (simp [mulSz, Cont.len, bne]; omega)))); conv => whnf)
            | (refine tst_in ?_ ?_; (focus (intro h_; exfalso; first | omega | ((try simp only [decide_eq_true_eq, decide_eq_false_iff_not] at h_); omega) | (simp [mulSz, Cont.len, bne] at h_; done) | (simp [mulSz, Cont.len, bne] at h_; omega))); intro _; conv => whnf)
            | (refine tst_in ?_ ?_; rotate_left; (focus (intro h_; exfalso; first | omega | ((try simp only [decide_eq_true_eq, decide_eq_false_iff_not] at h_); omega) | (simp [mulSz, Cont.len, bne] at h_; done) | (simp [mulSz, Cont.len, bne] at h_; omega))); intro _; conv => whnf))
          refine ⟨_, [1, 0], SG tl2, ?_⟩
          conv => whnf
          refine ⟨?_, ?_, ?_⟩
          · conv => whnf
            repeat' (first | exact True.intro | rfl | refine And.intro ?_ ?_)
            all_goals (conv => whnf)
            repeat' (first | exact True.intro | rfl | refine And.intro ?_ ?_)
            all_goals (try (first | rfl | omega | (simp; done) | (simp; omega)))
          · conv => whnf
            repeat' (first | exact True.intro | rfl | refine And.intro ?_ ?_)
            all_goals (conv => whnf)
            repeat' (first | exact True.intro | rfl | refine And.intro ?_ ?_)
            all_goals (try (first | rfl | omega | (simp; done) | (simp; omega)))
          conv => whnf
          conv => whnf
          repeat (first
            | (refine And.intro ?_ ?_; (focus (first | omega | decide | exact Int.natCast_nonneg _ | ((repeat' refine And.intro ?_ ?_) <;> first | omega | exact Int.natCast_nonneg _ | (simp only [i64max]; omega) | (simp only [u8max]; omega) | (simp only [i64max, u8max, u16max, u32max, u64max]; omega) | (simp [mulSz, Cont.len, bne]; done) | (simp [mulSz, Cont.len, bne]; omega)))); conv => whnf)
            | (refine tst_in ?_ ?_; (focus (intro h_; exfalso; first | omega | ((try simp only [decide_eq_true_eq, decide_eq_false_iff_not] at h_); omega) | (simp [mulSz, Cont.len, bne] at h_; done) | (simp [mulSz, Cont.len, bne] at h_; omega))); intro _; conv => whnf)
            | (refine tst_in ?_ ?_; rotate_left; (focus (intro h_; exfalso; first | omega | ((try simp only [decide_eq_true_eq, decide_eq_false_iff_not] at h_); omega) | (simp [mulSz, Cont.len, bne] at h_; done) | (simp [mulSz, Cont.len, bne] at h_; omega))); intro _; conv => whnf))
          intro (t4 : List Int)
          conv => whnf
          repeat (first
            | (refine And.intro ?_ ?_; (focus (first | omega | decide | exact Int.natCast_nonneg _ | ((repeat' refine And.intro ?_ ?_) <;> first | omega | exact Int.natCast_nonneg _ | (simp only [i64max]; omega) | (simp only [u8max]; omega) | (simp only [i64max, u8max, u16max, u32max, u64max]; omega) | (simp [mulSz, Cont.len, bne]; done) | (simp [mulSz, Cont.len, bne]; omega)))); conv => whnf)
            | (refine tst_in ?_ ?_; (focus (intro h_; exfalso; first | omega | ((try simp only [decide_eq_true_eq, decide_eq_false_iff_not] at h_); omega) | (simp [mulSz, Cont.len, bne] at h_; done) | (simp [mulSz, Cont.len, bne] at h_; omega))); intro _; conv => whnf)
            | (refine tst_in ?_ ?_; rotate_left; (focus (intro h_; exfalso; first | omega | ((try simp only [decide_eq_true_eq, decide_eq_false_iff_not] at h_); omega) | (simp [mulSz, Cont.len, bne] at h_; done) | (simp [mulSz, Cont.len, bne] at h_; omega))); intro _; conv => whnf))
          refine ⟨[6], ((k + 1, t4) : Nat × List Int), ?_, (by show k + 1 ≤ 9; omega), (by show 9 - (k + 1) < 9 - k; omega)⟩
          show stLe _ _ (sP (k + 1) t4) _
          unfold sP
          rw [show Ln (k + 1) = 2 ^ k from rfl, Nat.add_sub_cancel]
          conv => whnf
          repeat' (first | exact True.intro | rfl | refine And.intro ?_ ?_)
          all_goals (conv => whnf)
          repeat' (first | exact True.intro | rfl | refine And.intro ?_ ?_)
          all_goals (try omega)
          · skip
            show tab (fa k) (2 ^ k) ++ t4 = List.take (2 ^ k) (tab (fa k) (2 ^ k)) ++ t4
            rw [List.take_of_length_le (by rw [l1]; exact Nat.le_refl _)]
    · skip
      conv => whnf
      repeat (first
        | (refine And.intro ?_ ?_; (focus (first | omega | decide | exact Int.natCast_nonneg _ | ((repeat' refine And.intro ?_ ?_) <;> first | omega | exact Int.natCast_nonneg _ | (simp only [i64max]; omega) | (simp only [u8max]; omega) | (simp only [i64max, u8max, u16max, u32max, u64max]; omega) | (simp [mulSz, Cont.len, bne]; done) | (simp [mulSz, Cont.len, bne]; omega)))); conv => whnf)
        | (refine tst_in ?_ ?_; (focus (intro h_; exfalso; first | omega | ((try simp only [decide_eq_true_eq, decide_eq_false_iff_not] at h_); omega) | (simp [mulSz, Cont.len, bne] at h_; done) | (simp [mulSz, Cont.len, bne] at h_; omega))); intro _; conv => whnf)
        | (refine tst_in ?_ ?_; rotate_left; (focus (intro h_; exfalso; first | omega | ((try simp only [decide_eq_true_eq, decide_eq_false_iff_not] at h_); omega) | (simp [mulSz, Cont.len, bne] at h_; done) | (simp [mulSz, Cont.len, bne] at h_; omega))); intro _; conv => whnf))
      refine .inl ⟨(), [], ?_⟩
      conv => whnf
      repeat' (first | exact True.intro | rfl | refine And.intro ?_ ?_)
      all_goals (conv => whnf)
      repeat' (first | exact True.intro | rfl | refine And.intro ?_ ?_)
      all_goals (try (first | omega | exact True.intro | rfl | assumption | (change LE.le (α := Nat) _ _; first | omega | (simp only []; omega)) | (simp only []; done) | (simp only []; omega) | (simp; done) | (simp; omega)))
end Go.Proofs.Ytpjciaibccddmaa

namespace Go.Proofs.Ytpjciaibccddmaa
open Go Go.Fw
namespace trainPairsUp
open Go.ChangeShapes Go.WideShapes Go.ChangeAt Go.RowKit
theorem own : ownKnob Try.prog.godebug = none := by kernel_rfl
theorem laid : laidOutB Try.prog = true := by kernel_rfl
theorem lifted (os : Os) (started : os.Started) (H : Type) (enc : TypeId × Value → H) :
    ReturnsInHanded {} Try.checked os 3 .any (Rows.trainPairsUpSpec.pre6 enc Try.prog Try.f3 Rows.trainPairsUpRow.domain false) (Rows.trainPairsUpSpec.post enc Try.prog Try.f3 false true false false) := by
  refine returnsInHanded_of_change (C := Try.checked) own started (by kernel_rfl) Try.func3
    (ChangeSpec.witness6 (enc := enc) (C := Try.checked) false ⟨#[], #[], []⟩ 8 (by kernel_rfl) (by kernel_rfl) (by kernel_rfl) (by kernel_rfl)) ?_
  intro W base args ds gs before hval0 hW hcnd _
  have hW' := hW
  obtain ⟨p, q, hA0, hV, rfl, hfz, hnd⟩ := hW
  have hA : DataW.TrodAll enc Try.prog W 0 (fun _ => true) true Try.f3.params.toList args.toList ds p := hA0
  rw [Try.params3] at hA
  obtain ⟨hargs, rfl, rfl⟩ := trodAll_nil hA
  obtain rfl : args = #[] := by cases args; simp_all
  obtain ⟨rfl, rfl⟩ := trodVars_none hV
  clear hA0 hval0
  have walk := (up_R).calls W [] [] (heapOk_nil W _) (by simp only [Dens]) (x := .bool true) (v := .bool true) rfl (by
      intro o ho y hy
      simp at ho
      subst ho; rfl)
  refine walk.mono fun e W' ⟨he, hg⟩ => ?_
  subst he
  exact ⟨_, rfl, law_done laid rfl rfl Try.underlying4 (by kernel_rfl) hW' rfl hg⟩

theorem over : Rows.trainPairsUpRow.holds Try.pinned (OpenSpec.ofChange Rows.trainPairsUpSpec) :=
  OpenClaim.holds_of_wide 3 Try.f3 rfl rfl rfl rfl rfl rfl rfl ⟨rfl, rfl, rfl, rfl, rfl⟩ rfl rfl rfl rfl rfl (by kernel_rfl) Try.func3 (by kernel_rfl)
    (of_decide_eq_true (by kernel_rfl)) (by unfold Func.isWrapper; first | (rw [if_pos (by decide +kernel)]; kernel_rfl) | (rw [if_neg (by decide +kernel)]; exact ⟨rfl, rfl⟩))
    (fun os started H enc _ => lifted os started H enc)

theorem proved : Rows.TrainPairsUpSaid := over
end trainPairsUp
end Go.Proofs.Ytpjciaibccddmaa
