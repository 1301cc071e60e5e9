/-
  For every row of roots, polynomial and number the statement FieldRoots of stage 18 returns true: the polynomial of some roots has these and no others, twice where they stand twice, and the one through points is the one from which they were taken.
-/
import Derived.Test.YteiblfkegnppeaaRows
import Derived.Test.YteiblfkegnppeaaFv
import Derived.Test.YteiblfkegnppeaaFieldRootsP1
import Derived.Test.YteiblfkegnppeaaFa
import Derived.WalkKit
import Derived.ProofKit
import Derived.OpenShut
import Derived.SizedLaws
import Derived.ChangeMaps5
set_option linter.unusedSimpArgs false
set_option linter.unusedVariables false
set_option linter.unusedVariables false
set_option linter.unusedSimpArgs false
namespace Go.Proofs.Yteiblfkegnppeaa
open Go Go.Fw
/-- How many of the first i places are v. -/
noncomputable def cnt (X : Nat → G) : Nat → Nat → Nat
  | 0, _ => 0
  | i + 1, v => if (X i).v = v then cnt X i v + 1 else cnt X i v
theorem cnt_pos (X : Nat → G) (v : Nat) : ∀ i, 0 < cnt X i v ↔ ∃ a, a < i ∧ (X a).v = v
  | 0 => ⟨fun h => absurd h (by unfold cnt; omega), fun ⟨a, h, _⟩ => by omega⟩
  | i + 1 => by
    unfold cnt
    have ih := cnt_pos X v i
    split
    · rename_i h; exact ⟨fun _ => ⟨i, by omega, h⟩, fun _ => by omega⟩
    · rename_i h
      rw [ih]
      constructor
      · rintro ⟨a, h1, h2⟩; exact ⟨a, by omega, h2⟩
      · rintro ⟨a, h1, h2⟩
        rcases Nat.lt_or_ge a i with h3 | h3
        · exact ⟨a, h3, h2⟩
        · have : a = i := by omega
          subst this; exact absurd h2 h
theorem cnt_le (X : Nat → G) (v : Nat) : ∀ i, cnt X i v ≤ i
  | 0 => Nat.le_refl _
  | i + 1 => by
    have h := cnt_le X v i
    unfold cnt
    split
    · omega
    · omega
/-- No place stands twice. -/
def Dis (X : Nat → G) (n : Nat) : Prop := ∀ a b, a < b → b < n → X a ≠ X b
theorem Dis_succ {X : Nat → G} {i : Nat} (h : Dis X i) (h2 : cnt X (i + 1) (X i).v ≤ 1) : Dis X (i + 1) := by
  intro a b hab hb he
  rcases Nat.lt_or_ge b i with h3 | h3
  · exact h a b hab h3 he
  · have : b = i := by omega
    subst this
    have h4 : 0 < cnt X b (X b).v := (cnt_pos X _ b).2 ⟨a, hab, by rw [he]⟩
    have h5 : cnt X (b + 1) (X b).v = cnt X b (X b).v + 1 := if_pos rfl
    omega
theorem Dis_no {X : Nat → G} {i n : Nat} (h : i < n) (h2 : 1 < cnt X (i + 1) (X i).v) : ¬ Dis X n := by
  intro hd
  have h5 : cnt X (i + 1) (X i).v = cnt X i (X i).v + 1 := if_pos rfl
  obtain ⟨a, h3, h4⟩ := (cnt_pos X (X i).v i).1 (by omega)
  exact hd a i h3 h (G.ext h4)
theorem Dis_le {X : Nat → G} {i n : Nat} (h : Dis X n) (hi : i ≤ n) : Dis X i := fun a b hab hb => h a b hab (by omega)
noncomputable def ci (X : Nat → G) (i k : Nat) : Int := (cnt X i k : Nat)
theorem ci_put (X : Nat → G) (i : Nat) : (tb (ci X i) 256).set (X i).v ((cnt X i (X i).v : Nat) + 1 : Int) = tb (ci X (i + 1)) 256 := by
  refine tab_ext 0 (by rw [List.length_set, tab_len]) fun k hk => ?_
  rw [g_set, tab_len]
  unfold ci
  show _ = ((if (X i).v = k then cnt X i k + 1 else cnt X i k : Nat) : Int)
  have := (X i).lt
  by_cases e : (X i).v = k
  · subst e; rw [if_pos ⟨rfl, hk⟩, if_pos rfl]; omega
  · rw [if_neg (fun q => e q.1), if_neg e, g_tab, if_pos hk]
noncomputable def k33 : Code := (Try.f33.body).getD .skip
noncomputable def ptsS (A B : List Int) : Seg := .seg false (.cols [.ints .u8 A, .ints .u8 B])
noncomputable def st33 (X : Nat → G) (A B : List Int) (n c i : Nat) : St := ⟨slotsAt 68 [(0, .slice 0 0 n c), (4, .ptr 1 0), (16, .slice 0 0 n c), (17, .int .i64 n), (18, .int .i64 i)], [ptsS A B, .seg true (.ints .i64 (tb (ci X i) 256))]⟩
/-- What goes through the first i points. -/
structure Thr (X Y : Nat → G) (i : Nat) (P : Nat → G) (t : Nat) : Prop where
  pol : Pol P t
  le : t ≤ i
  val : ∀ a, a < i → As P (X a) t = Y a
structure TQ where
  i : Nat
  P : Nat → G
  t : Nat
  tl : List Int
noncomputable def st33b (X : Nat → G) (A B : List Int) (n c i : Nat) (P : Nat → G) (t : Nat) (tl : List Int) : St := ⟨slotsAt 68 [(0, .slice 0 0 n c), (7, .slice 1 0 t (t + tl.length)), (8, .slice 2 0 (i + 1) (i + 1)), (35, .slice 0 0 n c), (36, .int .i64 n), (37, .int .i64 i)],
  [ptsS A B, .seg true (.ints .u8 (tb (gi P) t ++ tl)), .seg true (.ints .u8 (tb (gi (roP X i)) (i + 1)))]⟩
def plan33 : PlanN := .op 0 (.op 1 (.op 2 (.rd 4 (.rd 5 (.op 3 (.chk [5, 4] (.op 6 (.op 7 .done))))))))
noncomputable def cfg33 : Cfg := { cfgk 1 with plan := fun | 16 => some (.nn plan33) | _ => none }
set_option maxHeartbeats 0 in
set_option maxRecDepth 100000 in
theorem Through_n (X Y : Nat → G) (A B : List Int) (n c : Nat) (hA : Rd A X n) (hB : Rd B Y n) (hlA : A.length = c) (hlB : B.length = c) (hc : n ≤ c) (hn : n ≤ 9223372036854775807) (hb : 256 < n ∨ ¬ Dis X n) :
    Fits Try.prog 33 ⟨[.slice 0 0 n c], [ptsS A B], [numOut [.dead] (.tup [.nils, .int .i64 1])]⟩ := by
  refine fits_of_body (C := cfg33) (c := k33) (ts := [2, 3]) tokL mixedL (fun | 5 => some ⟨Nat, fun i => st33 X A B n c i, fun i => i ≤ n ∧ Dis X i, fun i => n - i⟩ | _ => none) (fun _ => none)
    Try.func33 (by kernel_rfl) (by kernel_rfl) (by kernel_rfl) (by kernel_rfl) rfl ?_
  obtain ⟨hl, hg⟩ := hA
  unfold ptsS
  conv => whnf
  repeat (first
    | (refine And.intro ?_ ?_; (focus (first | omega | decide | exact EqOk.mk (by kernel_rfl) (by kernel_rfl) (by kernel_rfl) | exact Int.natCast_nonneg _ | ((repeat' refine And.intro ?_ ?_) <;> first | omega | exact Int.natCast_nonneg _ | (simp only [i64max, u8max, u16max, u32max, u64max]; omega) | (simp only [mulSz_eq, Cont.len, colsLen, Col.len, List.length_cons, List.length_nil, List.length_replicate, List.length_append]; first | done | omega) | (simp [mulSz, Cont.len, bne]; first | done | omega)))); conv => whnf)
    | (refine tst_in ?_ ?_; (focus (intro h_; exfalso; first | omega | ((try simp only [decide_eq_true_eq, decide_eq_false_iff_not] at h_); omega) | (simp [mulSz, Cont.len, bne] at h_; first | done | omega))); intro _; conv => whnf)
    | (refine tst_in ?_ ?_; rotate_left; (focus (intro h_; exfalso; first | omega | ((try simp only [decide_eq_true_eq, decide_eq_false_iff_not] at h_); omega) | (simp [mulSz, Cont.len, bne] at h_; first | done | omega))); intro _; conv => whnf)
    | (refine ⟨0, (show _ = _ by omega), ?_⟩; conv => whnf))
  refine tst_in (fun h => ?_) (fun h' => ?_)
  · conv => whnf
    repeat (first
      | (refine And.intro ?_ ?_; (focus (first | omega | decide | exact EqOk.mk (by kernel_rfl) (by kernel_rfl) (by kernel_rfl) | exact Int.natCast_nonneg _ | ((repeat' refine And.intro ?_ ?_) <;> first | omega | exact Int.natCast_nonneg _ | (simp only [i64max, u8max, u16max, u32max, u64max]; omega) | (simp only [mulSz_eq, Cont.len, colsLen, Col.len, List.length_cons, List.length_nil, List.length_replicate, List.length_append]; first | done | omega) | (simp [mulSz, Cont.len, bne]; first | done | omega)))); conv => whnf)
      | (refine tst_in ?_ ?_; (focus (intro h_; exfalso; first | omega | ((try simp only [decide_eq_true_eq, decide_eq_false_iff_not] at h_); omega) | (simp [mulSz, Cont.len, bne] at h_; first | done | omega))); intro _; conv => whnf)
      | (refine tst_in ?_ ?_; rotate_left; (focus (intro h_; exfalso; first | omega | ((try simp only [decide_eq_true_eq, decide_eq_false_iff_not] at h_); omega) | (simp [mulSz, Cont.len, bne] at h_; first | done | omega))); intro _; conv => whnf)
      | (refine ⟨0, (show _ = _ by omega), ?_⟩; conv => whnf))
    refine .inl ⟨(), [0], ?_⟩
    conv => whnf
    repeat' (first | exact True.intro | rfl | refine And.intro ?_ ?_)
    all_goals (conv => whnf)
    repeat' (first | exact True.intro | rfl | refine And.intro ?_ ?_)
    all_goals (try omega)
  · have h : n ≤ 256 := by have := dlt_f h'; omega
    conv => whnf
    repeat (first
      | (refine And.intro ?_ ?_; (focus (first | omega | decide | exact EqOk.mk (by kernel_rfl) (by kernel_rfl) (by kernel_rfl) | exact Int.natCast_nonneg _ | ((repeat' refine And.intro ?_ ?_) <;> first | omega | exact Int.natCast_nonneg _ | (simp only [i64max, u8max, u16max, u32max, u64max]; omega) | (simp only [mulSz_eq, Cont.len, colsLen, Col.len, List.length_cons, List.length_nil, List.length_replicate, List.length_append]; first | done | omega) | (simp [mulSz, Cont.len, bne]; first | done | omega)))); conv => whnf)
      | (refine tst_in ?_ ?_; (focus (intro h_; exfalso; first | omega | ((try simp only [decide_eq_true_eq, decide_eq_false_iff_not] at h_); omega) | (simp [mulSz, Cont.len, bne] at h_; first | done | omega))); intro _; conv => whnf)
      | (refine tst_in ?_ ?_; rotate_left; (focus (intro h_; exfalso; first | omega | ((try simp only [decide_eq_true_eq, decide_eq_false_iff_not] at h_); omega) | (simp [mulSz, Cont.len, bne] at h_; first | done | omega))); intro _; conv => whnf)
      | (refine ⟨0, (show _ = _ by omega), ?_⟩; conv => whnf))
    refine ⟨⟨[0, 1], (0 : Nat), ?_, Nat.zero_le _, fun a b _ hb => absurd hb (by omega)⟩, ?_⟩
    · show stLe _ _ (st33 X A B n c 0) _
      unfold st33 ptsS
      conv => whnf
      repeat' (first | exact True.intro | rfl | refine And.intro ?_ ?_)
      all_goals (conv => whnf)
      repeat' (first | exact True.intro | rfl | refine And.intro ?_ ?_)
      all_goals (try omega)
    · intro (i : Nat) ⟨hi, hD⟩
      have hi : i ≤ n := hi
      show forceSt (st33 X A B n c i) _
      unfold st33 ptsS
      conv => whnf
      repeat (first
        | (refine And.intro ?_ ?_; (focus (first | omega | decide | exact EqOk.mk (by kernel_rfl) (by kernel_rfl) (by kernel_rfl) | exact Int.natCast_nonneg _ | ((repeat' refine And.intro ?_ ?_) <;> first | omega | exact Int.natCast_nonneg _ | (simp only [i64max, u8max, u16max, u32max, u64max]; omega) | (simp only [mulSz_eq, Cont.len, colsLen, Col.len, List.length_cons, List.length_nil, List.length_replicate, List.length_append]; first | done | omega) | (simp [mulSz, Cont.len, bne]; first | done | omega)))); conv => whnf)
        | (refine tst_in ?_ ?_; (focus (intro h_; exfalso; first | omega | ((try simp only [decide_eq_true_eq, decide_eq_false_iff_not] at h_); omega) | (simp [mulSz, Cont.len, bne] at h_; first | done | omega))); intro _; conv => whnf)
        | (refine tst_in ?_ ?_; rotate_left; (focus (intro h_; exfalso; first | omega | ((try simp only [decide_eq_true_eq, decide_eq_false_iff_not] at h_); omega) | (simp [mulSz, Cont.len, bne] at h_; first | done | omega))); intro _; conv => whnf)
        | (refine ⟨0, (show _ = _ by omega), ?_⟩; conv => whnf))
      refine tst_in (fun u => ?_) (fun u' => ?_)
      · have u : i < n := by have := dlt_t u; omega
        have hgi := hg i u
        have hx := (X i).lt
        have hcl := cnt_le X (X i).v i
        have hci : (tb (ci X i) 256).getD (X i).v 0 = (cnt X i (X i).v : Nat) := tab_get _ _ hx
        conv => whnf
        repeat (first
          | (refine And.intro ?_ ?_; (focus (first | omega | decide | exact EqOk.mk (by kernel_rfl) (by kernel_rfl) (by kernel_rfl) | exact Int.natCast_nonneg _ | ((repeat' refine And.intro ?_ ?_) <;> first | omega | exact Int.natCast_nonneg _ | (simp only [i64max, u8max, u16max, u32max, u64max]; omega) | (simp only [mulSz_eq, Cont.len, colsLen, Col.len, List.length_cons, List.length_nil, List.length_replicate, List.length_append, hlA, hlB, tab_len]; first | done | omega) | (simp [mulSz, Cont.len, bne, hlA, hlB, tab_len]; first | done | omega)))); conv => whnf)
          | (refine tst_in ?_ ?_; (focus (intro h_; exfalso; first | omega | ((try simp only [decide_eq_true_eq, decide_eq_false_iff_not] at h_); omega) | (simp [mulSz, Cont.len, bne, hlA, hlB, tab_len] at h_; first | done | omega))); intro _; conv => whnf)
          | (refine tst_in ?_ ?_; rotate_left; (focus (intro h_; exfalso; first | omega | ((try simp only [decide_eq_true_eq, decide_eq_false_iff_not] at h_); omega) | (simp [mulSz, Cont.len, bne, hlA, hlB, tab_len] at h_; first | done | omega))); intro _; conv => whnf)
          | (refine ⟨(i), (show _ = _ by omega), ?_⟩; conv => whnf)
          | (refine ⟨(i), 0, (show _ = _ by omega), ?_⟩; conv => whnf)
          | (refine ⟨(i), 1, (show _ = _ by omega), ?_⟩; conv => whnf)
          | (refine ⟨(i), 2, (show _ = _ by omega), ?_⟩; conv => whnf)
          | (refine ⟨(i), 3, (show _ = _ by omega), ?_⟩; conv => whnf)
          | (refine ⟨(i), 4, (show _ = _ by omega), ?_⟩; conv => whnf)
          | (refine ⟨(i), 5, (show _ = _ by omega), ?_⟩; conv => whnf)
          | (refine ⟨0, (show _ = _ by omega), ?_⟩; conv => whnf))
        rw [hgi]
        have hgx : gi X i = ((X i).v : Nat) := rfl
        rw [hgx]
        refine ⟨⟨by omega, by omega⟩, ?_⟩
        conv => whnf
        repeat (first
          | (refine And.intro ?_ ?_; (focus (first | omega | decide | exact EqOk.mk (by kernel_rfl) (by kernel_rfl) (by kernel_rfl) | exact Int.natCast_nonneg _ | ((repeat' refine And.intro ?_ ?_) <;> first | omega | exact Int.natCast_nonneg _ | (simp only [i64max, u8max, u16max, u32max, u64max]; omega) | (simp only [mulSz_eq, Cont.len, colsLen, Col.len, List.length_cons, List.length_nil, List.length_replicate, List.length_append, tab_len]; first | done | omega) | (simp [mulSz, Cont.len, bne, tab_len]; first | done | omega)))); conv => whnf)
          | (refine tst_in ?_ ?_; (focus (intro h_; exfalso; first | omega | ((try simp only [decide_eq_true_eq, decide_eq_false_iff_not] at h_); omega) | (simp [mulSz, Cont.len, bne, tab_len] at h_; first | done | omega))); intro _; conv => whnf)
          | (refine tst_in ?_ ?_; rotate_left; (focus (intro h_; exfalso; first | omega | ((try simp only [decide_eq_true_eq, decide_eq_false_iff_not] at h_); omega) | (simp [mulSz, Cont.len, bne, tab_len] at h_; first | done | omega))); intro _; conv => whnf)
          | (refine ⟨(i), (show _ = _ by omega), ?_⟩; conv => whnf)
          | (refine ⟨(i), 0, (show _ = _ by omega), ?_⟩; conv => whnf)
          | (refine ⟨(i), 1, (show _ = _ by omega), ?_⟩; conv => whnf)
          | (refine ⟨(i), 2, (show _ = _ by omega), ?_⟩; conv => whnf)
          | (refine ⟨(i), 3, (show _ = _ by omega), ?_⟩; conv => whnf)
          | (refine ⟨(i), 4, (show _ = _ by omega), ?_⟩; conv => whnf)
          | (refine ⟨(i), 5, (show _ = _ by omega), ?_⟩; conv => whnf)
          | (refine ⟨0, (show _ = _ by omega), ?_⟩; conv => whnf))
        rw [show (0 + (((X i).v : Nat) : Int).toNat) = (X i).v by omega, hci]
        conv => whnf
        repeat (first
          | (refine And.intro ?_ ?_; (focus (first | omega | decide | exact EqOk.mk (by kernel_rfl) (by kernel_rfl) (by kernel_rfl) | exact Int.natCast_nonneg _ | ((repeat' refine And.intro ?_ ?_) <;> first | omega | exact Int.natCast_nonneg _ | (simp only [i64max, u8max, u16max, u32max, u64max]; omega) | (simp only [mulSz_eq, Cont.len, colsLen, Col.len, List.length_cons, List.length_nil, List.length_replicate, List.length_append, tab_len]; first | done | omega) | (simp [mulSz, Cont.len, bne, tab_len]; first | done | omega)))); conv => whnf)
          | (refine tst_in ?_ ?_; (focus (intro h_; exfalso; first | omega | ((try simp only [decide_eq_true_eq, decide_eq_false_iff_not] at h_); omega) | (simp [mulSz, Cont.len, bne, tab_len] at h_; first | done | omega))); intro _; conv => whnf)
          | (refine tst_in ?_ ?_; rotate_left; (focus (intro h_; exfalso; first | omega | ((try simp only [decide_eq_true_eq, decide_eq_false_iff_not] at h_); omega) | (simp [mulSz, Cont.len, bne, tab_len] at h_; first | done | omega))); intro _; conv => whnf)
          | (refine ⟨0, (show _ = _ by omega), ?_⟩; conv => whnf))
        have hst : ((tb (ci X i) 256).set (X i).v ((cnt X i (X i).v : Nat) + 1 : Int)).getD (X i).v 0 = (cnt X i (X i).v : Nat) + 1 := by rw [ci_put, tab_get _ _ hx]; unfold ci; rw [show cnt X (i + 1) (X i).v = cnt X i (X i).v + 1 from if_pos rfl]; omega
        rw [show (0 + (((X i).v : Nat) : Int).toNat) = (X i).v by omega, hst]
        have h2 : cnt X (i + 1) (X i).v = cnt X i (X i).v + 1 := if_pos rfl
        refine tst_in (fun w => ?_) (fun w' => ?_)
        · conv => whnf
          repeat (first
            | (refine And.intro ?_ ?_; (focus (first | omega | decide | exact EqOk.mk (by kernel_rfl) (by kernel_rfl) (by kernel_rfl) | exact Int.natCast_nonneg _ | ((repeat' refine And.intro ?_ ?_) <;> first | omega | exact Int.natCast_nonneg _ | (simp only [i64max, u8max, u16max, u32max, u64max]; omega) | (simp only [mulSz_eq, Cont.len, colsLen, Col.len, List.length_cons, List.length_nil, List.length_replicate, List.length_append]; first | done | omega) | (simp [mulSz, Cont.len, bne]; first | done | omega)))); conv => whnf)
            | (refine tst_in ?_ ?_; (focus (intro h_; exfalso; first | omega | ((try simp only [decide_eq_true_eq, decide_eq_false_iff_not] at h_); omega) | (simp [mulSz, Cont.len, bne] at h_; first | done | omega))); intro _; conv => whnf)
            | (refine tst_in ?_ ?_; rotate_left; (focus (intro h_; exfalso; first | omega | ((try simp only [decide_eq_true_eq, decide_eq_false_iff_not] at h_); omega) | (simp [mulSz, Cont.len, bne] at h_; first | done | omega))); intro _; conv => whnf)
            | (refine ⟨0, (show _ = _ by omega), ?_⟩; conv => whnf))
          refine .inl ⟨(), [0], ?_⟩
          conv => whnf
          repeat' (first | exact True.intro | rfl | refine And.intro ?_ ?_)
          all_goals (conv => whnf)
          repeat' (first | exact True.intro | rfl | refine And.intro ?_ ?_)
          all_goals (try omega)
        · have w : cnt X (i + 1) (X i).v ≤ 1 := by have := dlt_f w'; omega
          rw [ci_put]
          conv => whnf
          repeat (first
            | (refine And.intro ?_ ?_; (focus (first | omega | decide | exact EqOk.mk (by kernel_rfl) (by kernel_rfl) (by kernel_rfl) | exact Int.natCast_nonneg _ | ((repeat' refine And.intro ?_ ?_) <;> first | omega | exact Int.natCast_nonneg _ | (simp only [i64max, u8max, u16max, u32max, u64max]; omega) | (simp only [mulSz_eq, Cont.len, colsLen, Col.len, List.length_cons, List.length_nil, List.length_replicate, List.length_append]; first | done | omega) | (simp [mulSz, Cont.len, bne]; first | done | omega)))); conv => whnf)
            | (refine tst_in ?_ ?_; (focus (intro h_; exfalso; first | omega | ((try simp only [decide_eq_true_eq, decide_eq_false_iff_not] at h_); omega) | (simp [mulSz, Cont.len, bne] at h_; first | done | omega))); intro _; conv => whnf)
            | (refine tst_in ?_ ?_; rotate_left; (focus (intro h_; exfalso; first | omega | ((try simp only [decide_eq_true_eq, decide_eq_false_iff_not] at h_); omega) | (simp [mulSz, Cont.len, bne] at h_; first | done | omega))); intro _; conv => whnf)
            | (refine ⟨0, (show _ = _ by omega), ?_⟩; conv => whnf))
          refine ⟨[0, 1], (i + 1 : Nat), ?_, ⟨u, Dis_succ hD w⟩, (by show n - (i + 1) < n - i; omega)⟩
          show stLe _ _ (st33 X A B n c (i + 1)) _
          unfold st33 ptsS
          conv => whnf
          repeat' (first | exact True.intro | rfl | refine And.intro ?_ ?_)
          all_goals (conv => whnf)
          repeat' (first | exact True.intro | rfl | refine And.intro ?_ ?_)
          all_goals (try omega)
      · have u : i = n := by have := dlt_f u'; omega
        subst u
        exact absurd hD (hb.resolve_left (by omega))
theorem mulX_As (P : Nat → G) (r x : G) (n : Nat) (h : Zr P n) : As (mulX P r) x (n + 1) = (x + r) * As P x n := by
  unfold mulX
  have h1 := As_sh 1 P x n
  rw [Nat.add_comm] at h1
  rw [As_pa, h1, As_le (ps r P) x (zr_ps r h) (by omega), As_ps, add_m]
  congr 2
  show g1 * x = x
  exact one_m x
theorem roP_root (X : Nat → G) (x : G) : ∀ k, As (roP X k) x (k + 1) = g0 ↔ ∃ a, a < k ∧ X a = x
  | 0 => ⟨fun h => absurd h (by
      show ¬ (g0 + uP 0 * g1 = g0)
      rw [z_add]; show ¬ (g1 * g1 = g0); rw [m_one]; exact g1_nz), fun ⟨a, h, _⟩ => by omega⟩
  | k + 1 => by
    have ih := roP_root X x k
    show As (mulX (roP X k) (X k)) x (k + 1 + 1) = g0 ↔ _
    rw [mulX_As _ _ _ _ (zr_roP X k)]
    constructor
    · intro h
      by_cases h1 : x + X k = g0
      · exact ⟨k, by omega, (a_cancel h1).symm⟩
      · have h2 : As (roP X k) x (k + 1) = g0 := Classical.byContradiction fun q => m_nz h1 q h
        obtain ⟨a, h3, h4⟩ := ih.1 h2
        exact ⟨a, by omega, h4⟩
    · rintro ⟨a, h1, h2⟩
      rcases Nat.lt_or_ge a k with h3 | h3
      · rw [ih.2 ⟨a, h3, h2⟩, m_zero]
      · have : a = k := by omega
        subst this
        rw [h2, a_self, z_mul]
/-- One more point. -/
theorem Thr_succ {X Y : Nat → G} {i t : Nat} {P : Nat → G} (h : Thr X Y i P t) (hd : Dis X (i + 1)) (f : G) (hf : f = (As P (X i) t + Y i) * iv (As (roP X i) (X i) (i + 1))) (N : Nat) (hN : t ≤ N) (hN2 : N ≤ i + 1) (hz2 : Zr (ps f (roP X i)) N) :
    Thr X Y (i + 1) (pa P (ps f (roP X i))) (dg (pa P (ps f (roP X i))) N) := by
  obtain ⟨h1, h2, h3⟩ := h
  have hz : Zr (pa P (ps f (roP X i))) N := zr_pa (zr_mono h1.1 hN) hz2
  have hp := pol_dg (pa P (ps f (roP X i))) N
  rw [ct_eq hz] at hp
  refine ⟨hp, by have := dg_le (pa P (ps f (roP X i))) N; omega, fun a ha => ?_⟩
  rw [As_pol _ hp (N := i + 1) (Nat.le_trans (dg_le _ _) hN2), As_pa, As_ps, As_le P _ h1.1 (by omega)]
  rcases Nat.lt_or_ge a i with h4 | h4
  · rw [h3 a h4, (roP_root X (X a) i).2 ⟨a, h4, rfl⟩, m_zero, a_zero]
  · have : a = i := by omega
    subst this
    have hv : As (roP X a) (X a) (a + 1) ≠ g0 := fun q => by
      obtain ⟨b, hb, e⟩ := (roP_root X (X a) a).1 q
      exact hd b a hb (by omega) e
    rw [hf, m_assoc, m_comm (iv _), m_iv hv, m_one, ← a_assoc, a_self, z_add]
theorem Rd_one (f : G) : Rd [((f.v : Nat) : Int)] (fun i => if i = 0 then f else g0) 1 := ⟨Nat.le_refl _, fun i hi => by
  have : i = 0 := by omega
  subst this; rfl⟩
theorem zr_one (f : G) : Zr (fun i => if i = 0 then f else g0) 1 := fun i hi => if_neg (by omega)
theorem prod_one {P : Nat → G} {n : Nat} (h : Zr P n) (f : G) : prodP P (fun i => if i = 0 then f else g0) n 1 = ps f P := by
  unfold prodP
  rw [ct_eq h, ct_eq (zr_one f), ac_comm h (zr_one f), ac_one_l]
noncomputable def two (r : G) (i : Nat) : G := if i = 0 then r else if i = 1 then g1 else g0
theorem zr_two (r : G) : Zr (two r) 2 := fun i hi => by unfold two; rw [if_neg (by omega), if_neg (by omega)]
theorem Rd_two (r : G) : Rd [((r.v : Nat) : Int), 1] (two r) 2 := ⟨Nat.le_refl _, fun i hi => by
  obtain h | h : i = 0 ∨ i = 1 := by omega
  · subst h; rfl
  · subst h; rfl⟩
theorem prod_two {P : Nat → G} {n : Nat} (h : Zr P n) (r : G) : prodP P (two r) n 2 = mulX P r := by
  unfold prodP
  rw [ct_eq h, ct_eq (zr_two r), ac_comm h (zr_two r)]
  show pa (pa zf (ps (two r 0) (sh 0 P))) (ps (two r 1) (sh 1 P)) = _
  rw [zf_pa, sh_0, show two r 1 = g1 from rfl, ps_1, show two r 0 = r from rfl, pa_comm]
  rfl
theorem dg_two (r : G) : dg (two r) 2 = 2 := by
  show (if (two r 1).v = 0 then dg (two r) 1 else 2) = 2
  rw [if_neg (show ¬ (two r 1).v = 0 from fun q => by cases (show (1 : Nat) = 0 from q))]
end Go.Proofs.Yteiblfkegnppeaa

set_option linter.unusedVariables false
set_option linter.unusedSimpArgs false
namespace Go.Proofs.Yteiblfkegnppeaa
open Go Go.Fw
noncomputable def thrOut (X Y : Nat → G) (n : Nat) : FOut := ⟨TQ, fun x => Thr X Y n x.P x.t, fun x => .tup [.slice 1 0 x.t (x.t + x.tl.length), .int .i64 0], fun x => [.dead, .seg true (.ints .u8 (tb (gi x.P) x.t ++ x.tl))]⟩
set_option maxHeartbeats 0 in
set_option maxRecDepth 100000 in
theorem Through_y (X Y : Nat → G) (A B : List Int) (n c : Nat) (hA : Rd A X n) (hB : Rd B Y n) (hlA : A.length = c) (hlB : B.length = c) (hc : n ≤ c) (hn : n ≤ 256) (hD : Dis X n) :
    Fits Try.prog 33 ⟨[.slice 0 0 n c], [ptsS A B], [thrOut X Y n]⟩ := by
  refine fits_of_body (C := cfg33) (c := k33) (ts := [2, 3]) tokL mixedL (fun | 5 => some ⟨Nat, fun i => st33 X A B n c i, fun i => i ≤ n, fun i => n - i⟩ | 14 => some ⟨TQ, fun x => st33b X A B n c x.i x.P x.t x.tl, fun x => x.i ≤ n ∧ Thr X Y x.i x.P x.t, fun x => n - x.i⟩ | _ => none) (fun _ => none)
    Try.func33 (by kernel_rfl) (by kernel_rfl) (by kernel_rfl) (by kernel_rfl) rfl ?_
  obtain ⟨hl, hg⟩ := hA
  obtain ⟨hl2, hg2⟩ := hB
  unfold ptsS
  conv => whnf
  repeat (first
    | (refine And.intro ?_ ?_; (focus (first | omega | decide | exact EqOk.mk (by kernel_rfl) (by kernel_rfl) (by kernel_rfl) | exact Int.natCast_nonneg _ | ((repeat' refine And.intro ?_ ?_) <;> first | omega | exact Int.natCast_nonneg _ | (simp only [i64max, u8max, u16max, u32max, u64max]; omega) | (simp only [mulSz_eq, Cont.len, colsLen, Col.len, List.length_cons, List.length_nil, List.length_replicate, List.length_append]; first | done | omega) | (simp [mulSz, Cont.len, bne]; first | done | omega)))); conv => whnf)
    | (refine tst_in ?_ ?_; (focus (intro h_; exfalso; first | omega | ((try simp only [decide_eq_true_eq, decide_eq_false_iff_not] at h_); omega) | (simp [mulSz, Cont.len, bne] at h_; first | done | omega))); intro _; conv => whnf)
    | (refine tst_in ?_ ?_; rotate_left; (focus (intro h_; exfalso; first | omega | ((try simp only [decide_eq_true_eq, decide_eq_false_iff_not] at h_); omega) | (simp [mulSz, Cont.len, bne] at h_; first | done | omega))); intro _; conv => whnf)
    | (refine ⟨0, (show _ = _ by omega), ?_⟩; conv => whnf))
  refine ⟨⟨[0, 1], (0 : Nat), ?_, Nat.zero_le _⟩, ?_⟩
  · show stLe _ _ (st33 X A B n c 0) _
    unfold st33 ptsS
    conv => whnf
    repeat' (first | exact True.intro | rfl | refine And.intro ?_ ?_)
    all_goals (conv => whnf)
    repeat' (first | exact True.intro | rfl | refine And.intro ?_ ?_)
    all_goals (try omega)
  · intro (i : Nat) (hi : i ≤ n)
    show forceSt (st33 X A B n c i) _
    unfold st33 ptsS
    conv => whnf
    repeat (first
      | (refine And.intro ?_ ?_; (focus (first | omega | decide | exact EqOk.mk (by kernel_rfl) (by kernel_rfl) (by kernel_rfl) | exact Int.natCast_nonneg _ | ((repeat' refine And.intro ?_ ?_) <;> first | omega | exact Int.natCast_nonneg _ | (simp only [i64max, u8max, u16max, u32max, u64max]; omega) | (simp only [mulSz_eq, Cont.len, colsLen, Col.len, List.length_cons, List.length_nil, List.length_replicate, List.length_append]; first | done | omega) | (simp [mulSz, Cont.len, bne]; first | done | omega)))); conv => whnf)
      | (refine tst_in ?_ ?_; (focus (intro h_; exfalso; first | omega | ((try simp only [decide_eq_true_eq, decide_eq_false_iff_not] at h_); omega) | (simp [mulSz, Cont.len, bne] at h_; first | done | omega))); intro _; conv => whnf)
      | (refine tst_in ?_ ?_; rotate_left; (focus (intro h_; exfalso; first | omega | ((try simp only [decide_eq_true_eq, decide_eq_false_iff_not] at h_); omega) | (simp [mulSz, Cont.len, bne] at h_; first | done | omega))); intro _; conv => whnf)
      | (refine ⟨0, (show _ = _ by omega), ?_⟩; conv => whnf))
    refine tst_in (fun u => ?_) (fun u' => ?_)
    · have u : i < n := by have := dlt_t u; omega
      have hgi := hg i u
      have hx := (X i).lt
      have hcl := cnt_le X (X i).v i
      have hci : (tb (ci X i) 256).getD (X i).v 0 = (cnt X i (X i).v : Nat) := tab_get _ _ hx
      have h2 : cnt X (i + 1) (X i).v = cnt X i (X i).v + 1 := if_pos rfl
      have h3 : cnt X (i + 1) (X i).v ≤ 1 := by
        rcases Nat.lt_or_ge 1 (cnt X (i + 1) (X i).v) with h | h
        · exact absurd hD (Dis_no u h)
        · exact h
      conv => whnf
      repeat (first
        | (refine And.intro ?_ ?_; (focus (first | omega | decide | exact EqOk.mk (by kernel_rfl) (by kernel_rfl) (by kernel_rfl) | exact Int.natCast_nonneg _ | ((repeat' refine And.intro ?_ ?_) <;> first | omega | exact Int.natCast_nonneg _ | (simp only [i64max, u8max, u16max, u32max, u64max]; omega) | (simp only [mulSz_eq, Cont.len, colsLen, Col.len, List.length_cons, List.length_nil, List.length_replicate, List.length_append, hlA, hlB, tab_len]; first | done | omega) | (simp [mulSz, Cont.len, bne, hlA, hlB, tab_len]; first | done | omega)))); conv => whnf)
        | (refine tst_in ?_ ?_; (focus (intro h_; exfalso; first | omega | ((try simp only [decide_eq_true_eq, decide_eq_false_iff_not] at h_); omega) | (simp [mulSz, Cont.len, bne, hlA, hlB, tab_len] at h_; first | done | omega))); intro _; conv => whnf)
        | (refine tst_in ?_ ?_; rotate_left; (focus (intro h_; exfalso; first | omega | ((try simp only [decide_eq_true_eq, decide_eq_false_iff_not] at h_); omega) | (simp [mulSz, Cont.len, bne, hlA, hlB, tab_len] at h_; first | done | omega))); intro _; conv => whnf)
        | (refine ⟨(i), (show _ = _ by omega), ?_⟩; conv => whnf)
        | (refine ⟨(i), 0, (show _ = _ by omega), ?_⟩; conv => whnf)
        | (refine ⟨(i), 1, (show _ = _ by omega), ?_⟩; conv => whnf)
        | (refine ⟨(i), 2, (show _ = _ by omega), ?_⟩; conv => whnf)
        | (refine ⟨(i), 3, (show _ = _ by omega), ?_⟩; conv => whnf)
        | (refine ⟨(i), 4, (show _ = _ by omega), ?_⟩; conv => whnf)
        | (refine ⟨(i), 5, (show _ = _ by omega), ?_⟩; conv => whnf)
        | (refine ⟨0, (show _ = _ by omega), ?_⟩; conv => whnf))
      rw [hgi]
      have hgx : gi X i = ((X i).v : Nat) := rfl
      rw [hgx]
      refine ⟨⟨by omega, by omega⟩, ?_⟩
      conv => whnf
      repeat (first
        | (refine And.intro ?_ ?_; (focus (first | omega | decide | exact EqOk.mk (by kernel_rfl) (by kernel_rfl) (by kernel_rfl) | exact Int.natCast_nonneg _ | ((repeat' refine And.intro ?_ ?_) <;> first | omega | exact Int.natCast_nonneg _ | (simp only [i64max, u8max, u16max, u32max, u64max]; omega) | (simp only [mulSz_eq, Cont.len, colsLen, Col.len, List.length_cons, List.length_nil, List.length_replicate, List.length_append, tab_len]; first | done | omega) | (simp [mulSz, Cont.len, bne, tab_len]; first | done | omega)))); conv => whnf)
        | (refine tst_in ?_ ?_; (focus (intro h_; exfalso; first | omega | ((try simp only [decide_eq_true_eq, decide_eq_false_iff_not] at h_); omega) | (simp [mulSz, Cont.len, bne, tab_len] at h_; first | done | omega))); intro _; conv => whnf)
        | (refine tst_in ?_ ?_; rotate_left; (focus (intro h_; exfalso; first | omega | ((try simp only [decide_eq_true_eq, decide_eq_false_iff_not] at h_); omega) | (simp [mulSz, Cont.len, bne, tab_len] at h_; first | done | omega))); intro _; conv => whnf)
        | (refine ⟨(i), (show _ = _ by omega), ?_⟩; conv => whnf)
        | (refine ⟨(i), 0, (show _ = _ by omega), ?_⟩; conv => whnf)
        | (refine ⟨(i), 1, (show _ = _ by omega), ?_⟩; conv => whnf)
        | (refine ⟨(i), 2, (show _ = _ by omega), ?_⟩; conv => whnf)
        | (refine ⟨(i), 3, (show _ = _ by omega), ?_⟩; conv => whnf)
        | (refine ⟨(i), 4, (show _ = _ by omega), ?_⟩; conv => whnf)
        | (refine ⟨(i), 5, (show _ = _ by omega), ?_⟩; conv => whnf)
        | (refine ⟨0, (show _ = _ by omega), ?_⟩; conv => whnf))
      rw [show (0 + (((X i).v : Nat) : Int).toNat) = (X i).v by omega, hci]
      conv => whnf
      repeat (first
        | (refine And.intro ?_ ?_; (focus (first | omega | decide | exact EqOk.mk (by kernel_rfl) (by kernel_rfl) (by kernel_rfl) | exact Int.natCast_nonneg _ | ((repeat' refine And.intro ?_ ?_) <;> first | omega | exact Int.natCast_nonneg _ | (simp only [i64max, u8max, u16max, u32max, u64max]; omega) | (simp only [mulSz_eq, Cont.len, colsLen, Col.len, List.length_cons, List.length_nil, List.length_replicate, List.length_append, tab_len]; first | done | omega) | (simp [mulSz, Cont.len, bne, tab_len]; first | done | omega)))); conv => whnf)
        | (refine tst_in ?_ ?_; (focus (intro h_; exfalso; first | omega | ((try simp only [decide_eq_true_eq, decide_eq_false_iff_not] at h_); omega) | (simp [mulSz, Cont.len, bne, tab_len] at h_; first | done | omega))); intro _; conv => whnf)
        | (refine tst_in ?_ ?_; rotate_left; (focus (intro h_; exfalso; first | omega | ((try simp only [decide_eq_true_eq, decide_eq_false_iff_not] at h_); omega) | (simp [mulSz, Cont.len, bne, tab_len] at h_; first | done | omega))); intro _; conv => whnf)
        | (refine ⟨0, (show _ = _ by omega), ?_⟩; conv => whnf))
      have hst : ((tb (ci X i) 256).set (X i).v ((cnt X i (X i).v : Nat) + 1 : Int)).getD (X i).v 0 = (cnt X i (X i).v : Nat) + 1 := by rw [ci_put, tab_get _ _ hx]; unfold ci; rw [h2]; omega
      rw [show (0 + (((X i).v : Nat) : Int).toNat) = (X i).v by omega, hst, ci_put]
      conv => whnf
      repeat (first
        | (refine And.intro ?_ ?_; (focus (first | omega | decide | exact EqOk.mk (by kernel_rfl) (by kernel_rfl) (by kernel_rfl) | exact Int.natCast_nonneg _ | ((repeat' refine And.intro ?_ ?_) <;> first | omega | exact Int.natCast_nonneg _ | (simp only [i64max, u8max, u16max, u32max, u64max]; omega) | (simp only [mulSz_eq, Cont.len, colsLen, Col.len, List.length_cons, List.length_nil, List.length_replicate, List.length_append]; first | done | omega) | (simp [mulSz, Cont.len, bne]; first | done | omega)))); conv => whnf)
        | (refine tst_in ?_ ?_; (focus (intro h_; exfalso; first | omega | ((try simp only [decide_eq_true_eq, decide_eq_false_iff_not] at h_); omega) | (simp [mulSz, Cont.len, bne] at h_; first | done | omega))); intro _; conv => whnf)
        | (refine tst_in ?_ ?_; rotate_left; (focus (intro h_; exfalso; first | omega | ((try simp only [decide_eq_true_eq, decide_eq_false_iff_not] at h_); omega) | (simp [mulSz, Cont.len, bne] at h_; first | done | omega))); intro _; conv => whnf)
        | (refine ⟨0, (show _ = _ by omega), ?_⟩; conv => whnf))
      refine ⟨[0, 1], (i + 1 : Nat), ?_, u, (by show n - (i + 1) < n - i; omega)⟩
      show stLe _ _ (st33 X A B n c (i + 1)) _
      unfold st33 ptsS
      conv => whnf
      repeat' (first | exact True.intro | rfl | refine And.intro ?_ ?_)
      all_goals (conv => whnf)
      repeat' (first | exact True.intro | rfl | refine And.intro ?_ ?_)
      all_goals (try omega)
    · conv => whnf
      repeat (first
        | (refine And.intro ?_ ?_; (focus (first | omega | decide | exact EqOk.mk (by kernel_rfl) (by kernel_rfl) (by kernel_rfl) | exact Int.natCast_nonneg _ | ((repeat' refine And.intro ?_ ?_) <;> first | omega | exact Int.natCast_nonneg _ | (simp only [i64max, u8max, u16max, u32max, u64max]; omega) | (simp only [mulSz_eq, Cont.len, colsLen, Col.len, List.length_cons, List.length_nil, List.length_replicate, List.length_append]; first | done | omega) | (simp [mulSz, Cont.len, bne]; first | done | omega)))); conv => whnf)
        | (refine tst_in ?_ ?_; (focus (intro h_; exfalso; first | omega | ((try simp only [decide_eq_true_eq, decide_eq_false_iff_not] at h_); omega) | (simp [mulSz, Cont.len, bne] at h_; first | done | omega))); intro _; conv => whnf)
        | (refine tst_in ?_ ?_; rotate_left; (focus (intro h_; exfalso; first | omega | ((try simp only [decide_eq_true_eq, decide_eq_false_iff_not] at h_); omega) | (simp [mulSz, Cont.len, bne] at h_; first | done | omega))); intro _; conv => whnf)
        | (refine ⟨0, (show _ = _ by omega), ?_⟩; conv => whnf))
      refine ⟨⟨[0, 9, 2], (⟨0, zf, 0, []⟩ : TQ), ?_, ⟨Nat.zero_le _, pol_zf, Nat.le_refl _, fun a (ha : a < 0) => absurd ha (Nat.not_lt_zero a)⟩⟩, ?_⟩
      · show stLe _ _ (st33b X A B n c 0 zf 0 []) _
        unfold st33b ptsS
        conv => whnf
        repeat' (first | exact True.intro | rfl | refine And.intro ?_ ?_)
        all_goals (conv => whnf)
        repeat' (first | exact True.intro | rfl | refine And.intro ?_ ?_)
        all_goals (try omega)
      · intro ⟨k, P, t, tl⟩ ⟨hk, hT⟩
        have hk : k ≤ n := hk
        have hT : Thr X Y k P t := hT
        show forceSt (st33b X A B n c k P t tl) _
        unfold st33b ptsS
        conv => whnf
        repeat (first
          | (refine And.intro ?_ ?_; (focus (first | omega | decide | exact EqOk.mk (by kernel_rfl) (by kernel_rfl) (by kernel_rfl) | exact Int.natCast_nonneg _ | ((repeat' refine And.intro ?_ ?_) <;> first | omega | exact Int.natCast_nonneg _ | (simp only [i64max, u8max, u16max, u32max, u64max]; omega) | (simp only [mulSz_eq, Cont.len, colsLen, Col.len, List.length_cons, List.length_nil, List.length_replicate, List.length_append]; first | done | omega) | (simp [mulSz, Cont.len, bne]; first | done | omega)))); conv => whnf)
          | (refine tst_in ?_ ?_; (focus (intro h_; exfalso; first | omega | ((try simp only [decide_eq_true_eq, decide_eq_false_iff_not] at h_); omega) | (simp [mulSz, Cont.len, bne] at h_; first | done | omega))); intro _; conv => whnf)
          | (refine tst_in ?_ ?_; rotate_left; (focus (intro h_; exfalso; first | omega | ((try simp only [decide_eq_true_eq, decide_eq_false_iff_not] at h_); omega) | (simp [mulSz, Cont.len, bne] at h_; first | done | omega))); intro _; conv => whnf)
          | (refine ⟨0, (show _ = _ by omega), ?_⟩; conv => whnf))
        refine tst_in (fun u => ?_) (fun u' => ?_)
        · have u : k < n := by have := dlt_t u; omega
          have hgk : A.getD k 0 = ((X k).v : Nat) := hg k u
          have hgk2 : B.getD k 0 = ((Y k).v : Nat) := hg2 k u
          have ht : t ≤ k := hT.le
          have AT := at_f P (tb (gi P) t ++ tl) t (t + tl.length) (X k) (Rd_tl _ _ _) (by omega) (by omega)
          have AS := at_f (roP X k) (tb (gi (roP X k)) (k + 1)) (k + 1) (k + 1) (X k) (Rd_tb _ _) (Nat.le_refl _) (by omega)
          generalize hv : As P (X k) t = v at *
          generalize hs : As (roP X k) (X k) (k + 1) = s at *
          have PW := power_g s
          have TM := Times_g (v + Y k) (iv s)
          have hvl := v.lt
          have hyl := (Y k).lt
          conv => whnf
          repeat (first
            | (refine And.intro ?_ ?_; (focus (first | omega | decide | exact EqOk.mk (by kernel_rfl) (by kernel_rfl) (by kernel_rfl) | exact Int.natCast_nonneg _ | ((repeat' refine And.intro ?_ ?_) <;> first | omega | exact Int.natCast_nonneg _ | (simp only [i64max, u8max, u16max, u32max, u64max]; omega) | (simp only [mulSz_eq, Cont.len, colsLen, Col.len, List.length_cons, List.length_nil, List.length_replicate, List.length_append, hlA, hlB, tab_len]; first | done | omega) | (simp [mulSz, Cont.len, bne, hlA, hlB, tab_len]; first | done | omega)))); conv => whnf)
            | (refine tst_in ?_ ?_; (focus (intro h_; exfalso; first | omega | ((try simp only [decide_eq_true_eq, decide_eq_false_iff_not] at h_); omega) | (simp [mulSz, Cont.len, bne, hlA, hlB, tab_len] at h_; first | done | omega))); intro _; conv => whnf)
            | (refine tst_in ?_ ?_; rotate_left; (focus (intro h_; exfalso; first | omega | ((try simp only [decide_eq_true_eq, decide_eq_false_iff_not] at h_); omega) | (simp [mulSz, Cont.len, bne, hlA, hlB, tab_len] at h_; first | done | omega))); intro _; conv => whnf)
            | (refine ⟨(k), (show _ = _ by omega), ?_⟩; conv => whnf)
            | (refine ⟨(k), 0, (show _ = _ by omega), ?_⟩; conv => whnf)
            | (refine ⟨(k), 1, (show _ = _ by omega), ?_⟩; conv => whnf)
            | (refine ⟨(k), 2, (show _ = _ by omega), ?_⟩; conv => whnf)
            | (refine ⟨(k), 3, (show _ = _ by omega), ?_⟩; conv => whnf)
            | (refine ⟨(k), 4, (show _ = _ by omega), ?_⟩; conv => whnf)
            | (refine ⟨(k), 5, (show _ = _ by omega), ?_⟩; conv => whnf)
            | (refine ⟨0, (show _ = _ by omega), ?_⟩; conv => whnf))
          rw [hgk, hgk2]
          conv => whnf
          repeat (first
            | (refine And.intro ?_ ?_; (focus (first | omega | decide | exact EqOk.mk (by kernel_rfl) (by kernel_rfl) (by kernel_rfl) | exact Int.natCast_nonneg _ | ((repeat' refine And.intro ?_ ?_) <;> first | omega | exact Int.natCast_nonneg _ | (simp only [i64max, u8max, u16max, u32max, u64max]; omega) | (simp only [mulSz_eq, Cont.len, colsLen, Col.len, List.length_cons, List.length_nil, List.length_replicate, List.length_append, hlA, hlB, tab_len]; first | done | omega) | (simp [mulSz, Cont.len, bne, hlA, hlB, tab_len]; first | done | omega)))); conv => whnf)
            | (refine tst_in ?_ ?_; (focus (intro h_; exfalso; first | omega | ((try simp only [decide_eq_true_eq, decide_eq_false_iff_not] at h_); omega) | (simp [mulSz, Cont.len, bne, hlA, hlB, tab_len] at h_; first | done | omega))); intro _; conv => whnf)
            | (refine tst_in ?_ ?_; rotate_left; (focus (intro h_; exfalso; first | omega | ((try simp only [decide_eq_true_eq, decide_eq_false_iff_not] at h_); omega) | (simp [mulSz, Cont.len, bne, hlA, hlB, tab_len] at h_; first | done | omega))); intro _; conv => whnf)
            | (refine ⟨(k), (show _ = _ by omega), ?_⟩; conv => whnf)
            | (refine ⟨(k), 0, (show _ = _ by omega), ?_⟩; conv => whnf)
            | (refine ⟨(k), 1, (show _ = _ by omega), ?_⟩; conv => whnf)
            | (refine ⟨(k), 2, (show _ = _ by omega), ?_⟩; conv => whnf)
            | (refine ⟨(k), 3, (show _ = _ by omega), ?_⟩; conv => whnf)
            | (refine ⟨(k), 4, (show _ = _ by omega), ?_⟩; conv => whnf)
            | (refine ⟨(k), 5, (show _ = _ by omega), ?_⟩; conv => whnf)
            | (refine ⟨0, (show _ = _ by omega), ?_⟩; conv => whnf))
          refine ⟨_, [1], AT, ?_⟩
          conv => whnf
          iterate 2
           refine And.intro ?_ ?_
           focus
            conv => whnf
            repeat' (first | exact True.intro | rfl | refine And.intro ?_ ?_ | omega)
            all_goals (conv => whnf)
            all_goals (try (first | rfl | omega | (simp; done)))
          conv => whnf
          refine ⟨?_, True.intro⟩
          intro _ _
          conv => whnf
          conv => whnf
          repeat (first
            | (refine And.intro ?_ ?_; (focus (first | omega | decide | exact EqOk.mk (by kernel_rfl) (by kernel_rfl) (by kernel_rfl) | exact Int.natCast_nonneg _ | ((repeat' refine And.intro ?_ ?_) <;> first | omega | exact Int.natCast_nonneg _ | (simp only [i64max, u8max, u16max, u32max, u64max]; omega) | (simp only [mulSz_eq, Cont.len, colsLen, Col.len, List.length_cons, List.length_nil, List.length_replicate, List.length_append, hlA, hlB, tab_len]; first | done | omega) | (simp [mulSz, Cont.len, bne, hlA, hlB, tab_len]; first | done | omega)))); conv => whnf)
            | (refine tst_in ?_ ?_; (focus (intro h_; exfalso; first | omega | ((try simp only [decide_eq_true_eq, decide_eq_false_iff_not] at h_); omega) | (simp [mulSz, Cont.len, bne, hlA, hlB, tab_len] at h_; first | done | omega))); intro _; conv => whnf)
            | (refine tst_in ?_ ?_; rotate_left; (focus (intro h_; exfalso; first | omega | ((try simp only [decide_eq_true_eq, decide_eq_false_iff_not] at h_); omega) | (simp [mulSz, Cont.len, bne, hlA, hlB, tab_len] at h_; first | done | omega))); intro _; conv => whnf)
            | (refine ⟨(k), (show _ = _ by omega), ?_⟩; conv => whnf)
            | (refine ⟨(k), 0, (show _ = _ by omega), ?_⟩; conv => whnf)
            | (refine ⟨(k), 1, (show _ = _ by omega), ?_⟩; conv => whnf)
            | (refine ⟨(k), 2, (show _ = _ by omega), ?_⟩; conv => whnf)
            | (refine ⟨(k), 3, (show _ = _ by omega), ?_⟩; conv => whnf)
            | (refine ⟨(k), 4, (show _ = _ by omega), ?_⟩; conv => whnf)
            | (refine ⟨(k), 5, (show _ = _ by omega), ?_⟩; conv => whnf)
            | (refine ⟨0, (show _ = _ by omega), ?_⟩; conv => whnf))
          rw [show (((((v.v : Nat) : Int).toNat ^^^ (((Y k).v : Nat) : Int).toNat : Nat) : Int)) = ((v + Y k : G).v : Nat) from rfl]
          refine ⟨_, [2], AS, ?_⟩
          conv => whnf
          iterate 2
           refine And.intro ?_ ?_
           focus
            conv => whnf
            repeat' (first | exact True.intro | rfl | refine And.intro ?_ ?_ | omega)
            all_goals (conv => whnf)
            all_goals (try (first | rfl | omega | (simp; done)))
          conv => whnf
          refine ⟨?_, True.intro⟩
          intro _ _
          conv => whnf
          conv => whnf
          repeat (first
            | (refine And.intro ?_ ?_; (focus (first | omega | decide | exact EqOk.mk (by kernel_rfl) (by kernel_rfl) (by kernel_rfl) | exact Int.natCast_nonneg _ | ((repeat' refine And.intro ?_ ?_) <;> first | omega | exact Int.natCast_nonneg _ | (simp only [i64max, u8max, u16max, u32max, u64max]; omega) | (simp only [mulSz_eq, Cont.len, colsLen, Col.len, List.length_cons, List.length_nil, List.length_replicate, List.length_append, hlA, hlB, tab_len]; first | done | omega) | (simp [mulSz, Cont.len, bne, hlA, hlB, tab_len]; first | done | omega)))); conv => whnf)
            | (refine tst_in ?_ ?_; (focus (intro h_; exfalso; first | omega | ((try simp only [decide_eq_true_eq, decide_eq_false_iff_not] at h_); omega) | (simp [mulSz, Cont.len, bne, hlA, hlB, tab_len] at h_; first | done | omega))); intro _; conv => whnf)
            | (refine tst_in ?_ ?_; rotate_left; (focus (intro h_; exfalso; first | omega | ((try simp only [decide_eq_true_eq, decide_eq_false_iff_not] at h_); omega) | (simp [mulSz, Cont.len, bne, hlA, hlB, tab_len] at h_; first | done | omega))); intro _; conv => whnf)
            | (refine ⟨(k), (show _ = _ by omega), ?_⟩; conv => whnf)
            | (refine ⟨(k), 0, (show _ = _ by omega), ?_⟩; conv => whnf)
            | (refine ⟨(k), 1, (show _ = _ by omega), ?_⟩; conv => whnf)
            | (refine ⟨(k), 2, (show _ = _ by omega), ?_⟩; conv => whnf)
            | (refine ⟨(k), 3, (show _ = _ by omega), ?_⟩; conv => whnf)
            | (refine ⟨(k), 4, (show _ = _ by omega), ?_⟩; conv => whnf)
            | (refine ⟨(k), 5, (show _ = _ by omega), ?_⟩; conv => whnf)
            | (refine ⟨0, (show _ = _ by omega), ?_⟩; conv => whnf))
          refine ⟨_, [], PW, ?_⟩
          conv => whnf
          iterate 2
           refine And.intro ?_ ?_
           focus
            conv => whnf
            repeat' (first | exact True.intro | rfl | refine And.intro ?_ ?_ | omega)
            all_goals (conv => whnf)
            all_goals (try (first | rfl | omega | (simp; done)))
          conv => whnf
          conv => whnf
          repeat (first
            | (refine And.intro ?_ ?_; (focus (first | omega | decide | exact EqOk.mk (by kernel_rfl) (by kernel_rfl) (by kernel_rfl) | exact Int.natCast_nonneg _ | ((repeat' refine And.intro ?_ ?_) <;> first | omega | exact Int.natCast_nonneg _ | (simp only [i64max, u8max, u16max, u32max, u64max]; omega) | (simp only [mulSz_eq, Cont.len, colsLen, Col.len, List.length_cons, List.length_nil, List.length_replicate, List.length_append]; first | done | omega) | (simp [mulSz, Cont.len, bne]; first | done | omega)))); conv => whnf)
            | (refine tst_in ?_ ?_; (focus (intro h_; exfalso; first | omega | ((try simp only [decide_eq_true_eq, decide_eq_false_iff_not] at h_); omega) | (simp [mulSz, Cont.len, bne] at h_; first | done | omega))); intro _; conv => whnf)
            | (refine tst_in ?_ ?_; rotate_left; (focus (intro h_; exfalso; first | omega | ((try simp only [decide_eq_true_eq, decide_eq_false_iff_not] at h_); omega) | (simp [mulSz, Cont.len, bne] at h_; first | done | omega))); intro _; conv => whnf)
            | (refine ⟨0, (show _ = _ by omega), ?_⟩; conv => whnf))
          refine ⟨_, [], TM, ?_⟩
          conv => whnf
          iterate 2
           refine And.intro ?_ ?_
           focus
            conv => whnf
            repeat' (first | exact True.intro | rfl | refine And.intro ?_ ?_ | omega)
            all_goals (conv => whnf)
            all_goals (try (first | rfl | omega | (simp; done)))
          conv => whnf
          conv => whnf
          repeat (first
            | (refine And.intro ?_ ?_; (focus (first | omega | decide | exact EqOk.mk (by kernel_rfl) (by kernel_rfl) (by kernel_rfl) | exact Int.natCast_nonneg _ | ((repeat' refine And.intro ?_ ?_) <;> first | omega | exact Int.natCast_nonneg _ | (simp only [i64max, u8max, u16max, u32max, u64max]; omega) | (simp only [mulSz_eq, Cont.len, colsLen, Col.len, List.length_cons, List.length_nil, List.length_replicate, List.length_append]; first | done | omega) | (simp [mulSz, Cont.len, bne]; first | done | omega)))); conv => whnf)
            | (refine tst_in ?_ ?_; (focus (intro h_; exfalso; first | omega | ((try simp only [decide_eq_true_eq, decide_eq_false_iff_not] at h_); omega) | (simp [mulSz, Cont.len, bne] at h_; first | done | omega))); intro _; conv => whnf)
            | (refine tst_in ?_ ?_; rotate_left; (focus (intro h_; exfalso; first | omega | ((try simp only [decide_eq_true_eq, decide_eq_false_iff_not] at h_); omega) | (simp [mulSz, Cont.len, bne] at h_; first | done | omega))); intro _; conv => whnf)
            | (refine ⟨0, (show _ = _ by omega), ?_⟩; conv => whnf))
          generalize hf : (v + Y k) * iv s = f at *
          have hro := zr_roP X k
          have PR := product_f (roP X k) (fun i => if i = 0 then f else g0) (tb (gi (roP X k)) (k + 1)) [((f.v : Nat) : Int)] (k + 1) (k + 1) 1 1 (Rd_tb _ _) (Rd_one f) (Nat.le_refl _) (Nat.le_refl _) (by omega) (by omega)
          have pP := pol_prod (roP X k) (fun i => if i = 0 then f else g0) (k + 1) 1
          rw [prod_one hro] at PR pP
          have e1 : dg (roP X k) (k + 1) = k + 1 := dg_pol (pol_roP X k) (Nat.le_refl _)
          have hd1 := dg_le (fun i => if i = 0 then f else g0) 1
          rw [e1] at PR pP
          have hL : plen (k + 1) (dg (fun i => if i = 0 then f else g0) 1) ≤ k + 1 := by unfold plen; split <;> omega
          generalize plen (k + 1) (dg (fun i => if i = 0 then f else g0) 1) = L at *
          have SM := sum_f P (ps f (roP X k)) (tb (gi P) t ++ tl) (tb (gi (ps f (roP X k))) L) t (t + tl.length) L L (Rd_tl _ _ _) (Rd_tb _ _) (by omega) (Nat.le_refl _) (by omega) (by omega)
          have eS : sumS P (ps f (roP X k)) t L = pa P (ps f (roP X k)) := by unfold sumS; rw [ct_eq hT.pol.1, ct_eq pP.1]
          have hT2 := Thr_succ hT (Dis_le hD u) f (by rw [hv, hs]; exact hf.symm) (max t L) (by omega) (by omega) (zr_mono pP.1 (by omega))
          have hdS := dg_le (pa P (ps f (roP X k))) (max t L)
          rw [eS] at SM
          have P2 := product_f (roP X k) (two (X k)) (tb (gi (roP X k)) (k + 1)) [(((X k).v : Nat) : Int), 1] (k + 1) (k + 1) 2 2 (Rd_tb _ _) (Rd_two (X k)) (Nat.le_refl _) (Nat.le_refl _) (by omega) (by omega)
          rw [prod_two hro, dg_two, e1, show plen (k + 1) 2 = k + 2 from if_neg (by omega)] at P2
          refine ⟨_, [2, 4], PR, ?_⟩
          conv => whnf
          iterate 2
           refine And.intro ?_ ?_
           focus
            conv => whnf
            repeat' (first | exact True.intro | rfl | refine And.intro ?_ ?_ | omega)
            all_goals (conv => whnf)
            all_goals (try (first | rfl | omega | (simp; done)))
          conv => whnf
          refine ⟨?_, True.intro⟩
          intro _ _
          conv => whnf
          conv => whnf
          repeat (first
            | (refine And.intro ?_ ?_; (focus (first | omega | decide | exact EqOk.mk (by kernel_rfl) (by kernel_rfl) (by kernel_rfl) | exact Int.natCast_nonneg _ | ((repeat' refine And.intro ?_ ?_) <;> first | omega | exact Int.natCast_nonneg _ | (simp only [i64max, u8max, u16max, u32max, u64max]; omega) | (simp only [mulSz_eq, Cont.len, colsLen, Col.len, List.length_cons, List.length_nil, List.length_replicate, List.length_append]; first | done | omega) | (simp [mulSz, Cont.len, bne]; first | done | omega)))); conv => whnf)
            | (refine tst_in ?_ ?_; (focus (intro h_; exfalso; first | omega | ((try simp only [decide_eq_true_eq, decide_eq_false_iff_not] at h_); omega) | (simp [mulSz, Cont.len, bne] at h_; first | done | omega))); intro _; conv => whnf)
            | (refine tst_in ?_ ?_; rotate_left; (focus (intro h_; exfalso; first | omega | ((try simp only [decide_eq_true_eq, decide_eq_false_iff_not] at h_); omega) | (simp [mulSz, Cont.len, bne] at h_; first | done | omega))); intro _; conv => whnf)
            | (refine ⟨0, (show _ = _ by omega), ?_⟩; conv => whnf))
          refine ⟨_, [1, 5], SM, ?_⟩
          conv => whnf
          iterate 2
           refine And.intro ?_ ?_
           focus
            conv => whnf
            repeat' (first | exact True.intro | rfl | refine And.intro ?_ ?_ | omega)
            all_goals (conv => whnf)
            all_goals (try (first | rfl | omega | (simp; done)))
          conv => whnf
          refine ⟨?_, True.intro⟩
          intro _ _
          conv => whnf
          conv => whnf
          repeat (first
            | (refine And.intro ?_ ?_; (focus (first | omega | decide | exact EqOk.mk (by kernel_rfl) (by kernel_rfl) (by kernel_rfl) | exact Int.natCast_nonneg _ | ((repeat' refine And.intro ?_ ?_) <;> first | omega | exact Int.natCast_nonneg _ | (simp only [i64max, u8max, u16max, u32max, u64max]; omega) | (simp only [mulSz_eq, Cont.len, colsLen, Col.len, List.length_cons, List.length_nil, List.length_replicate, List.length_append, hlA, hlB, tab_len]; first | done | omega) | (simp [mulSz, Cont.len, bne, hlA, hlB, tab_len]; first | done | omega)))); conv => whnf)
            | (refine tst_in ?_ ?_; (focus (intro h_; exfalso; first | omega | ((try simp only [decide_eq_true_eq, decide_eq_false_iff_not] at h_); omega) | (simp [mulSz, Cont.len, bne, hlA, hlB, tab_len] at h_; first | done | omega))); intro _; conv => whnf)
            | (refine tst_in ?_ ?_; rotate_left; (focus (intro h_; exfalso; first | omega | ((try simp only [decide_eq_true_eq, decide_eq_false_iff_not] at h_); omega) | (simp [mulSz, Cont.len, bne, hlA, hlB, tab_len] at h_; first | done | omega))); intro _; conv => whnf)
            | (refine ⟨(k), (show _ = _ by omega), ?_⟩; conv => whnf)
            | (refine ⟨(k), 0, (show _ = _ by omega), ?_⟩; conv => whnf)
            | (refine ⟨(k), 1, (show _ = _ by omega), ?_⟩; conv => whnf)
            | (refine ⟨(k), 2, (show _ = _ by omega), ?_⟩; conv => whnf)
            | (refine ⟨(k), 3, (show _ = _ by omega), ?_⟩; conv => whnf)
            | (refine ⟨(k), 4, (show _ = _ by omega), ?_⟩; conv => whnf)
            | (refine ⟨(k), 5, (show _ = _ by omega), ?_⟩; conv => whnf)
            | (refine ⟨0, (show _ = _ by omega), ?_⟩; conv => whnf))
          refine ⟨_, [2, 7], P2, ?_⟩
          conv => whnf
          iterate 2
           refine And.intro ?_ ?_
           focus
            conv => whnf
            repeat' (first | exact True.intro | rfl | refine And.intro ?_ ?_ | omega)
            all_goals (conv => whnf)
            all_goals (try (first | rfl | omega | (simp; done)))
          conv => whnf
          refine ⟨?_, True.intro⟩
          intro _ _
          conv => whnf
          conv => whnf
          repeat (first
            | (refine And.intro ?_ ?_; (focus (first | omega | decide | exact EqOk.mk (by kernel_rfl) (by kernel_rfl) (by kernel_rfl) | exact Int.natCast_nonneg _ | ((repeat' refine And.intro ?_ ?_) <;> first | omega | exact Int.natCast_nonneg _ | (simp only [i64max, u8max, u16max, u32max, u64max]; omega) | (simp only [mulSz_eq, Cont.len, colsLen, Col.len, List.length_cons, List.length_nil, List.length_replicate, List.length_append, hlA, hlB, tab_len]; first | done | omega) | (simp [mulSz, Cont.len, bne, hlA, hlB, tab_len]; first | done | omega)))); conv => whnf)
            | (refine tst_in ?_ ?_; (focus (intro h_; exfalso; first | omega | ((try simp only [decide_eq_true_eq, decide_eq_false_iff_not] at h_); omega) | (simp [mulSz, Cont.len, bne, hlA, hlB, tab_len] at h_; first | done | omega))); intro _; conv => whnf)
            | (refine tst_in ?_ ?_; rotate_left; (focus (intro h_; exfalso; first | omega | ((try simp only [decide_eq_true_eq, decide_eq_false_iff_not] at h_); omega) | (simp [mulSz, Cont.len, bne, hlA, hlB, tab_len] at h_; first | done | omega))); intro _; conv => whnf)
            | (refine ⟨(k), (show _ = _ by omega), ?_⟩; conv => whnf)
            | (refine ⟨(k), 0, (show _ = _ by omega), ?_⟩; conv => whnf)
            | (refine ⟨(k), 1, (show _ = _ by omega), ?_⟩; conv => whnf)
            | (refine ⟨(k), 2, (show _ = _ by omega), ?_⟩; conv => whnf)
            | (refine ⟨(k), 3, (show _ = _ by omega), ?_⟩; conv => whnf)
            | (refine ⟨(k), 4, (show _ = _ by omega), ?_⟩; conv => whnf)
            | (refine ⟨(k), 5, (show _ = _ by omega), ?_⟩; conv => whnf)
            | (refine ⟨0, (show _ = _ by omega), ?_⟩; conv => whnf))
          generalize pa P (ps f (roP X k)) = P' at *
          generalize hr : dg P' (max t L) = r at *
          refine ⟨[0, 6, 8], (⟨k + 1, P', r, (tb (gi P') (max t L)).drop r⟩ : TQ), ?_, ⟨u, hT2⟩, (by show n - (k + 1) < n - k; omega)⟩
          have e2 : r + ((tb (gi P') (max t L)).drop r).length = max t L := by rw [List.length_drop, tab_len]; omega
          show stLe _ _ (st33b X A B n c (k + 1) P' r ((tb (gi P') (max t L)).drop r)) _
          unfold st33b ptsS
          rw [e2, ← tab_split _ r (max t L) hdS]
          conv => whnf
          repeat' (first | exact True.intro | rfl | refine And.intro ?_ ?_)
          all_goals (conv => whnf)
          repeat' (first | exact True.intro | rfl | refine And.intro ?_ ?_)
          all_goals (try omega)
        · have u : k = n := by have := dlt_f u'; omega
          subst u
          conv => whnf
          repeat (first
            | (refine And.intro ?_ ?_; (focus (first | omega | decide | exact EqOk.mk (by kernel_rfl) (by kernel_rfl) (by kernel_rfl) | exact Int.natCast_nonneg _ | ((repeat' refine And.intro ?_ ?_) <;> first | omega | exact Int.natCast_nonneg _ | (simp only [i64max, u8max, u16max, u32max, u64max]; omega) | (simp only [mulSz_eq, Cont.len, colsLen, Col.len, List.length_cons, List.length_nil, List.length_replicate, List.length_append]; first | done | omega) | (simp [mulSz, Cont.len, bne]; first | done | omega)))); conv => whnf)
            | (refine tst_in ?_ ?_; (focus (intro h_; exfalso; first | omega | ((try simp only [decide_eq_true_eq, decide_eq_false_iff_not] at h_); omega) | (simp [mulSz, Cont.len, bne] at h_; first | done | omega))); intro _; conv => whnf)
            | (refine tst_in ?_ ?_; rotate_left; (focus (intro h_; exfalso; first | omega | ((try simp only [decide_eq_true_eq, decide_eq_false_iff_not] at h_); omega) | (simp [mulSz, Cont.len, bne] at h_; first | done | omega))); intro _; conv => whnf)
            | (refine ⟨0, (show _ = _ by omega), ?_⟩; conv => whnf))
          refine .inl ⟨⟨k, P, t, tl⟩, [0, 1], ?_⟩
          conv => whnf
          repeat' (first | exact True.intro | rfl | refine And.intro ?_ ?_)
          all_goals (conv => whnf)
          repeat' (first | exact True.intro | rfl | refine And.intro ?_ ?_)
          all_goals (try omega)
end Go.Proofs.Yteiblfkegnppeaa

set_option linter.unusedVariables false
set_option linter.unusedSimpArgs false
namespace Go.Proofs.Yteiblfkegnppeaa
open Go Go.Fw
noncomputable def kst (c : G) (i : Nat) : G := if i = 0 then c else g0
theorem As_peel (f : Nat → G) (x : G) : ∀ n, As f x (n + 1) = f 0 + x * As (fun i => f (i + 1)) x n
  | 0 => by show g0 + f 0 * g1 = f 0 + x * g0; rw [m_one, m_zero, z_add, a_zero]
  | n + 1 => by
    show As f x (n + 1) + f (n + 1) * gp x (n + 1) = f 0 + x * (As (fun i => f (i + 1)) x n + f (n + 1) * gp x n)
    rw [As_peel f x n, m_add, a_assoc]
    congr 2
    show f (n + 1) * (gp x n * x) = x * (f (n + 1) * gp x n)
    ac_rfl
theorem factor (a : G) : ∀ (n : Nat) (f : Nat → G), Zr f (n + 1) → ∃ q, Zr q n ∧ f = pa (kst (As f a (n + 1))) (mulX q a)
  | 0, f, h => by
    refine ⟨zf, zr_zf 0, funext fun i => ?_⟩
    show f i = kst (g0 + f 0 * g1) i + (sh 1 zf i + a * g0)
    rw [sh_zf, m_zero, show zf i = g0 from rfl, a_zero, a_zero, m_one, z_add]
    unfold kst
    split
    · rename_i e; rw [e]
    · exact h i (by omega)
  | n + 1, f, h => by
    obtain ⟨q, hq, e⟩ := factor a n (fun i => f (i + 1)) (fun i hi => h (i + 1) (by omega))
    generalize hc : As (fun i => f (i + 1)) a (n + 1) = c at *
    refine ⟨fun i => if i = 0 then c else q (i - 1), fun i hi => ?_, funext fun i => ?_⟩
    · show (if i = 0 then c else q (i - 1)) = g0
      rw [if_neg (by omega)]; exact hq _ (by omega)
    · rw [As_peel, hc]
      cases i with
      | zero =>
        show f 0 = (f 0 + a * c) + mulX _ a 0
        rw [mulX_0]
        show f 0 = (f 0 + a * c) + a * c
        rw [a_assoc, a_self, a_zero]
      | succ i =>
        have e2 := congrFun e i
        show f (i + 1) = g0 + mulX _ a (i + 1)
        rw [mulX_s, z_add]
        show f (i + 1) = (if i = 0 then c else q (i - 1)) + a * q i
        have e3 : f (i + 1) = kst c i + mulX q a i := e2
        rw [e3]
        cases i with
        | zero => rw [mulX_0]; rfl
        | succ i => rw [mulX_s]; show g0 + _ = q i + _; rw [z_add]
theorem kst_0 : kst g0 = zf := funext fun i => by unfold kst; split <;> rfl
theorem many_roots (X : Nat → G) : ∀ (n : Nat) (f : Nat → G), Zr f n → Dis X n → (∀ i, i < n → As f (X i) n = g0) → f = zf
  | 0, f, h, _, _ => zr_all h
  | n + 1, f, h, hd, hv => by
    obtain ⟨q, hq, e⟩ := factor (X n) n f h
    rw [hv n (by omega), kst_0, zf_pa] at e
    have h2 : q = zf := many_roots X n q hq (Dis_le hd (by omega)) fun i hi => by
      have h3 := hv i (by omega)
      rw [e, mulX_As q (X n) (X i) n hq] at h3
      refine Classical.byContradiction fun h4 => m_nz (fun h5 => ?_) h4 h3
      exact hd i n hi (by omega) (a_cancel h5)
    rw [e, h2]
    funext i
    show sh 1 zf i + X n * g0 = g0
    rw [sh_zf, m_zero, a_zero]; rfl
theorem Thr_is {X Y : Nat → G} {n t : Nat} {P H : Nat → G} (h : Thr X Y n P t) (hd : Dis X n) (hH : Zr H n) (hv : ∀ a, a < n → As H (X a) n = Y a) : P = H := by
  refine pa_swap (many_roots X n (pa P H) (zr_pa (zr_mono h.pol.1 h.le) hH) hd fun i hi => ?_)
  rw [As_pa, hv i hi, As_le P _ h.pol.1 h.le, h.val i hi, a_self]
theorem sl_mulX (P : Nat → G) (r : G) : sl (mulX P r) = pa P (mulX (sl P) r) := by
  funext i
  unfold sl
  show (if i % 2 = 0 then mulX P r (i + 1) else g0) = P i + mulX (sl P) r i
  rw [mulX_s]
  cases i with
  | zero => rw [if_pos rfl, mulX_0]; rfl
  | succ i =>
    rw [mulX_s]
    show _ = P (i + 1) + ((if i % 2 = 0 then P (i + 1) else g0) + r * (if (i + 1) % 2 = 0 then P (i + 1 + 1) else g0))
    by_cases h : (i + 1) % 2 = 0
    · rw [if_pos h, if_neg (by omega), if_pos h, z_add]
    · rw [if_neg h, if_pos (by omega), if_neg h, m_zero, a_zero, a_self]
theorem zr_sl {P : Nat → G} {n : Nat} (h : Zr P n) : Zr (sl P) n := fun i hi => by
  unfold sl; split
  · exact h _ (by omega)
  · rfl
theorem slope_root (X : Nat → G) (a : G) : ∀ k, 1 ≤ cnt X k a.v → (As (sl (roP X k)) a (k + 1) = g0 ↔ 2 ≤ cnt X k a.v)
  | 0, h => absurd h (by show ¬ 1 ≤ 0; omega)
  | k + 1, h => by
    have e : As (sl (roP X (k + 1))) a (k + 1 + 1) = As (roP X k) a (k + 1) + (a + X k) * As (sl (roP X k)) a (k + 1) := by
      show As (sl (mulX (roP X k) (X k))) a (k + 1 + 1) = _
      rw [sl_mulX, As_pa, mulX_As _ _ _ _ (zr_sl (zr_roP X k)), As_le (roP X k) a (zr_roP X k) (by omega)]
    rw [e]
    have hr := roP_root X a k
    have hc := cnt_pos X a.v k
    have hcc : (∃ b, b < k ∧ X b = a) ↔ 0 < cnt X k a.v := by
      rw [hc]; exact ⟨fun ⟨b, h1, h2⟩ => ⟨b, h1, by rw [h2]⟩, fun ⟨b, h1, h2⟩ => ⟨b, h1, G.ext h2⟩⟩
    by_cases hk : X k = a
    · have e1 : cnt X (k + 1) a.v = cnt X k a.v + 1 := if_pos (by rw [hk])
      rw [e1, hk, a_self, z_mul, a_zero, hr, hcc]; omega
    · have e1 : cnt X (k + 1) a.v = cnt X k a.v := if_neg fun q => hk (G.ext q)
      rw [e1] at h ⊢
      have ih := slope_root X a k h
      rw [hr.2 (hcc.2 h), z_add, ← ih]
      constructor
      · intro q
        refine Classical.byContradiction fun h4 => m_nz (fun h5 => hk (a_cancel h5).symm) h4 q
      · intro q; rw [q, m_zero]
/-- How many numbers below x are such. -/
def cr (p : Nat → Bool) : Nat → Nat
  | 0 => 0
  | x + 1 => if p x = true then cr p x + 1 else cr p x
theorem cr_or {p q : Nat → Bool} {v : Nat} (h : ∀ y, p y = true → q y = true ∨ y = v) : ∀ x, cr p x ≤ cr q x + (if v < x then 1 else 0)
  | 0 => Nat.zero_le _
  | x + 1 => by
    have ih := cr_or h x
    unfold cr
    by_cases h1 : p x = true
    · rw [if_pos h1]
      rcases h x h1 with h2 | h2
      · rw [if_pos h2]; split at ih <;> split <;> omega
      · subst h2
        rw [if_neg (Nat.lt_irrefl x)] at ih
        rw [if_pos (Nat.lt_succ_self x)]
        split <;> omega
    · rw [if_neg h1]
      have : (if v < x then 1 else 0) ≤ (if v < x + 1 then 1 else 0) := by split <;> split <;> omega
      split <;> omega
theorem cr_none {p : Nat → Bool} (h : ∀ y, p y = false) : ∀ x, cr p x = 0
  | 0 => rfl
  | x + 1 => by unfold cr; rw [h x, if_neg (by decide)]; exact cr_none h x
theorem rl_cr (F : Nat → G) (n : Nat) : ∀ x, (rl F n x).length = cr (isR F n) x
  | 0 => rfl
  | x + 1 => by
    unfold rl cr
    split
    · rw [List.length_append, rl_cr F n x]; rfl
    · exact rl_cr F n x
theorem isR_ro (X : Nat → G) (k y : Nat) : isR (roP X k) (k + 1) y = true ↔ ∃ a, a < k ∧ X a = toB (y : Int) := by
  unfold isR
  rw [decide_eq_true_eq, ← roP_root X (toB (y : Int)) k]
  exact ⟨fun h => G.ext h, fun h => by rw [h]; rfl⟩
theorem rl_few (X : Nat → G) : ∀ k, cr (fun y => decide (y < 256) && isR (roP X k) (k + 1) y) 256 ≤ k
  | 0 => by
    refine Nat.le_of_eq (cr_none (fun y => ?_) 256)
    have : ¬ isR (roP X 0) (0 + 1) y = true := fun h => by obtain ⟨a, h1, _⟩ := (isR_ro X 0 y).1 h; omega
    simp [this]
  | k + 1 => by
    have h := cr_or (p := fun y => decide (y < 256) && isR (roP X (k + 1)) (k + 1 + 1) y) (q := fun y => decide (y < 256) && isR (roP X k) (k + 1) y) (v := (X k).v) (fun y hy => by
      simp only [Bool.and_eq_true, decide_eq_true_eq] at hy ⊢
      obtain ⟨h0, h1⟩ := hy
      obtain ⟨a, h2, h3⟩ := (isR_ro X (k + 1) y).1 h1
      rcases Nat.lt_or_ge a k with h4 | h4
      · exact .inl ⟨h0, (isR_ro X k y).2 ⟨a, h4, h3⟩⟩
      · have : a = k := by omega
        subst this
        right; rw [h3, toB_nat h0]) 256
    have := rl_few X k
    have h2 : (if (X k).v < 256 then 1 else 0) ≤ 1 := by split <;> omega
    omega
theorem cr_congr {p q : Nat → Bool} : ∀ x, (∀ y, y < x → p y = q y) → cr p x = cr q x
  | 0, _ => rfl
  | x + 1, h => by unfold cr; rw [h x (by omega), cr_congr x fun y hy => h y (by omega)]
theorem told_few (X : Nat → G) (k : Nat) : (rl (roP X k) (k + 1) 256).length ≤ k := by
  rw [rl_cr, cr_congr 256 (q := fun y => decide (y < 256) && isR (roP X k) (k + 1) y) fun y hy => by simp [hy]]
  exact rl_few X k
theorem rl_more (F : Nat → G) (n x : Nat) : ∀ d, ∃ m, rl F n (x + d) = rl F n x ++ m ∧ ∀ i, i < m.length → (x : Int) ≤ m.getD i 0
  | 0 => ⟨[], by simp, fun i hi => absurd hi (by simp)⟩
  | d + 1 => by
    obtain ⟨m, h1, h2⟩ := rl_more F n x d
    show ∃ m, (if isR F n (x + d) = true then rl F n (x + d) ++ [((x + d : Nat) : Int)] else rl F n (x + d)) = _ ∧ _
    by_cases h : isR F n (x + d) = true
    · rw [if_pos h, h1]
      refine ⟨m ++ [((x + d : Nat) : Int)], by rw [List.append_assoc], fun i hi => ?_⟩
      rw [g_app]
      split
      · exact h2 i (by assumption)
      · rw [g_one]
        rw [List.length_append] at hi
        have : i - m.length = 0 := by have : [((x + d : Nat) : Int)].length = 1 := rfl; omega
        rw [if_pos this]; omega
    · rw [if_neg h]; exact ⟨m, h1, h2⟩
/-- What the list of roots says at the place of x. -/
theorem rl_at (F : Nat → G) (n x : Nat) (hx : x < 256) : (isR F n x = true → (rl F n x).length < (rl F n 256).length ∧ (rl F n 256).getD (rl F n x).length 0 = (x : Int)) ∧ (isR F n x = false → (rl F n x).length < (rl F n 256).length → (x : Int) < (rl F n 256).getD (rl F n x).length 0) := by
  obtain ⟨m, h1, h2⟩ := rl_more F n (x + 1) (255 - x)
  rw [show x + 1 + (255 - x) = 256 by omega] at h1
  constructor
  · intro h
    have e : rl F n (x + 1) = rl F n x ++ [(x : Int)] := if_pos h
    rw [h1, e]
    refine ⟨by simp [List.length_append], ?_⟩
    rw [g_app, if_pos (by simp), g_app, if_neg (by omega), g_one, if_pos (by omega)]
  · intro h hl
    have e : rl F n (x + 1) = rl F n x := if_neg (by rw [h]; decide)
    rw [h1, e] at hl ⊢
    rw [List.length_append] at hl
    rw [g_app, if_neg (by omega)]
    have := h2 ((rl F n x).length - (rl F n x).length) (by omega)
    omega
end Go.Proofs.Yteiblfkegnppeaa

set_option linter.unusedVariables false
set_option linter.unusedSimpArgs false
namespace Go.Proofs.Yteiblfkegnppeaa
open Go Go.Fw
theorem take_tb {α : Type} (f : Nat → α) (n : Nat) (u : List α) : List.take n (List.drop 0 (tb f n ++ u)) = tb f n := by
  rw [List.drop_zero, List.take_left' (tab_len f n)]
noncomputable def k6 : Code := (Try.f6.body).getD .skip
/-- The points' places: one behind the other. -/
def xG (b : G) (i : Nat) : G := ⟨(b.v + i) % 256, Nat.mod_lt _ (by decide)⟩
theorem xG_dis (b : G) {n : Nat} (h : n ≤ 256) : Dis (xG b) n := fun i j hij hj he => by
  have := congrArg G.v he
  have : (b.v + i) % 256 = (b.v + j) % 256 := this
  have := b.lt
  omega
noncomputable def st6 (bv : Int) (L : Nat → G) (A B : List Int) (l c m d : Nat) (T tl sr : List Int) (sn sc : Nat) (i : Nat) : St := ⟨slotsAt 217 [(1, .slice 1 0 m d), (2, .int .u8 bv), (7, .slice 0 0 l c), (10, .slice 2 0 T.length (T.length + tl.length)), (12, .slice 3 0 sn sc), (14, .ptr 4 0), (15, .int .i64 i)],
  [.seg false (.ints .u8 A), .seg false (.ints .u8 B), .seg true (.ints .u8 (T ++ tl)), .seg true (.ints .u8 sr), .seg true (.ints .i64 (tb (ci L i) 256))]⟩
noncomputable def st6b (bv : Int) (L : Nat → G) (B : List Int) (m d l : Nat) (T tl sr : List Int) (sn sc : Nat) (x k : Nat) : St := ⟨slotsAt 217 [(1, .slice 1 0 m d), (2, .int .u8 bv), (10, .slice 2 0 T.length (T.length + tl.length)), (12, .slice 3 0 sn sc), (14, .ptr 4 0), (16, .int .i64 k), (17, .int .i64 x)],
  [.dead, .seg false (.ints .u8 B), .seg true (.ints .u8 (T ++ tl)), .seg true (.ints .u8 sr), .seg true (.ints .i64 (tb (ci L l) 256))]⟩
noncomputable def st6c (bv : Int) (F : Nat → G) (b : G) (B : List Int) (m t : Nat) (T tl : List Int) (i : Nat) (u1 u2 : List Int) : St := ⟨slotsAt 217 [(2, .int .u8 bv), (10, .slice 2 0 T.length (T.length + tl.length)), (16, .int .i64 T.length), (21, .slice 3 0 t m), (22, .int .i64 0), (23, .slice 4 0 i (i + u1.length)), (24, .int .i64 i)],
  [.dead, .seg false (.ints .u8 B), .seg true (.ints .u8 (T ++ tl)), .seg true (.ints .u8 (tb (gi (ct F m)) m)), .seg true (.cols [.ints .u8 (tb (gi (xG b)) i ++ u1), .ints .u8 (tb (gi fun j => As F (xG b j) m) i ++ u2)])]⟩
set_option maxHeartbeats 0 in
set_option maxRecDepth 100000 in
theorem law6 (L F : Nat → G) (b : G) (A B : List Int) (l0 c m0 d : Nat) (hA : Rd A L l0) (hB : Rd B F m0) (hc : l0 ≤ c) (hd : m0 ≤ d) (hn : l0 ≤ 9223372036854775807) (hm : m0 ≤ 9223372036854775807) :
    Fits Try.prog 6 ⟨[.slice 0 0 l0 c, .slice 1 0 m0 d, .int .u8 (b.v : Nat)], [.seg false (.ints .u8 A), .seg false (.ints .u8 B)], [numOut [.dead, .dead] (.bool true)]⟩ := by
  obtain ⟨l, hl1⟩ : ∃ l, l = min l0 30 := ⟨_, rfl⟩
  obtain ⟨m, hm1⟩ : ∃ m, m = min m0 20 := ⟨_, rfl⟩
  have hA2 : Rd A L l := Rd_le hA (by omega)
  have hB2 : Rd B F m := Rd_le hB (by omega)
  have OF := Of_g L A l c hA2 (by omega) (by omega)
  unfold ofOut at OF
  rw [show ofN l (l + 1) = l + 1 from if_neg (by omega), show ofE l = 0 from if_neg (by omega)] at OF
  have hro := pol_roP L l
  have hfew := told_few L l
  have hat := rl_at (roP L l) (l + 1)
  have hisR := isR_ro L l
  have e1 : dg (roP L l) (l + 1) = l + 1 := dg_pol hro (Nat.le_refl _)
  have RT := fun tl : List Int => Roots_g (roP L l) (tb (gi (roP L l)) (l + 1) ++ tl) (l + 1) (l + 1 + tl.length) (Rd_tl _ _ _) (by omega) (by omega)
  have SL := fun tl : List Int => Slope_g (roP L l) (tb (gi (roP L l)) (l + 1) ++ tl) (l + 1) (l + 1 + tl.length) (Rd_tl _ _ _) (by omega) (by omega)
  have DQ1 := fun tl : List Int => degree_q (l + 1) (l + 1 + tl.length) (by omega)
  have eT : rtL (roP L l) (l + 1) = rl (roP L l) (l + 1) 256 := if_pos (by unfold rtB; rw [e1]; simp; omega)
  have eS : slope (roP L l) (l + 1) = sl (roP L l) := by unfold slope; rw [ct_eq hro.1]
  have hsr := slope_root L
  unfold rootsOut at RT
  unfold slopeOut at SL
  rw [eT, e1, show rtE (l + 1) (l + 1) = 0 from (if_neg (by omega)).trans (if_neg (by omega))] at RT
  rw [eS, show slN (l + 1) = l + 1 from if_neg (by omega), show atE (l + 1) = 0 from if_neg (by omega)] at SL
  have hds := dg_le (sl (roP L l)) (l + 1)
  have AT := fun x : G => At_g (sl (roP L l)) (tb (gi (sl (roP L l))) (l + 1)) (dg (sl (roP L l)) (l + 1)) (l + 1) x (Rd_le (Rd_tb _ _) hds) hds (by omega)
  have hsr2 : ∀ a : G, 1 ≤ cnt L l a.v → (As (sl (roP L l)) a (l + 1) = g0 ↔ 2 ≤ cnt L l a.v) := fun a h => hsr a l h
  have eAs : ∀ x : G, As (sl (roP L l)) x (dg (sl (roP L l)) (l + 1)) = As (sl (roP L l)) x (l + 1) := fun x => dg_As x
  generalize hT : rl (roP L l) (l + 1) 256 = T at *
  generalize hsn : dg (sl (roP L l)) (l + 1) = sn at *
  refine fits_of_body (C := cfgk 2) (c := k6) (ts := [6]) tokL mixedL (fun | 9 => some ⟨Nat × List Int, fun p => st6 (b.v : Nat) L A B l c m0 d T p.2 (tb (gi (sl (roP L l))) (l + 1)) sn (l + 1) p.1, fun p => p.1 ≤ l, fun p => l - p.1⟩ | 14 => some ⟨Nat × List Int, fun p => st6b (b.v : Nat) L B m0 d l T p.2 (tb (gi (sl (roP L l))) (l + 1)) sn (l + 1) p.1 (rl (roP L l) (l + 1) p.1).length, fun p => p.1 ≤ 256, fun p => 256 - p.1⟩ | 25 => some ⟨Nat × List Int × List Int × List Int, fun p => st6c (b.v : Nat) F b B m (dg F m) T p.2.1 p.1 p.2.2.1 p.2.2.2, fun p => p.1 ≤ dg F m + 3 ∧ p.2.2.1.length = p.2.2.2.length, fun p => dg F m + 3 - p.1⟩ | _ => none) (fun _ => none)
    Try.func6 (by kernel_rfl) (by kernel_rfl) (by kernel_rfl) (by kernel_rfl) rfl ?_
  conv => whnf
  repeat (first
    | (refine And.intro ?_ ?_; (focus (first | omega | decide | exact EqOk.mk (by kernel_rfl) (by kernel_rfl) (by kernel_rfl) | exact Int.natCast_nonneg _ | ((repeat' refine And.intro ?_ ?_) <;> first | omega | exact Int.natCast_nonneg _ | (simp only [i64max, u8max, u16max, u32max, u64max]; omega) | (simp only [mulSz_eq, Cont.len, colsLen, Col.len, List.length_cons, List.length_nil, List.length_replicate, List.length_append]; first | done | omega) | (simp [mulSz, Cont.len, bne]; first | done | omega)))); conv => whnf)
    | (refine tst_in ?_ ?_; (focus (intro h_; exfalso; first | omega | ((try simp only [decide_eq_true_eq, decide_eq_false_iff_not] at h_); omega) | (simp [mulSz, Cont.len, bne] at h_; first | done | omega))); intro _; conv => whnf)
    | (refine tst_in ?_ ?_; rotate_left; (focus (intro h_; exfalso; first | omega | ((try simp only [decide_eq_true_eq, decide_eq_false_iff_not] at h_); omega) | (simp [mulSz, Cont.len, bne] at h_; first | done | omega))); intro _; conv => whnf)
    | (refine ⟨0, (show _ = _ by omega), ?_⟩; conv => whnf))
  rw [show (min (l0 : Int) 30).toNat = l by omega]
  refine ⟨_, [0], OF, ?_⟩
  conv => whnf
  iterate 2
   refine And.intro ?_ ?_
   focus
    conv => whnf
    repeat' (first | exact True.intro | rfl | refine And.intro ?_ ?_)
    all_goals (conv => whnf)
    repeat' (first | exact True.intro | rfl | refine And.intro ?_ ?_)
    all_goals (try (first | rfl | omega | (simp; first | done | omega)))
  conv => whnf
  refine ⟨?_, True.intro⟩
  rintro tl _
  conv => whnf
  change List Int at tl
  have RT := RT tl
  have SL := SL tl
  have DQ1 := DQ1 tl
  conv => whnf
  repeat (first
    | (refine And.intro ?_ ?_; (focus (first | omega | decide | exact EqOk.mk (by kernel_rfl) (by kernel_rfl) (by kernel_rfl) | exact Int.natCast_nonneg _ | ((repeat' refine And.intro ?_ ?_) <;> first | omega | exact Int.natCast_nonneg _ | (simp only [i64max, u8max, u16max, u32max, u64max]; omega) | (simp only [mulSz_eq, Cont.len, colsLen, Col.len, List.length_cons, List.length_nil, List.length_replicate, List.length_append]; first | done | omega) | (simp [mulSz, Cont.len, bne]; first | done | omega)))); conv => whnf)
    | (refine tst_in ?_ ?_; (focus (intro h_; exfalso; first | omega | ((try simp only [decide_eq_true_eq, decide_eq_false_iff_not] at h_); omega) | (simp [mulSz, Cont.len, bne] at h_; first | done | omega))); intro _; conv => whnf)
    | (refine tst_in ?_ ?_; rotate_left; (focus (intro h_; exfalso; first | omega | ((try simp only [decide_eq_true_eq, decide_eq_false_iff_not] at h_); omega) | (simp [mulSz, Cont.len, bne] at h_; first | done | omega))); intro _; conv => whnf)
    | (refine ⟨0, (show _ = _ by omega), ?_⟩; conv => whnf))
  refine ⟨_, [2], RT, ?_⟩
  conv => whnf
  iterate 2
   refine And.intro ?_ ?_
   focus
    conv => whnf
    repeat' (first | exact True.intro | rfl | refine And.intro ?_ ?_)
    all_goals (conv => whnf)
    repeat' (first | exact True.intro | rfl | refine And.intro ?_ ?_)
    all_goals (try (first | rfl | omega | (simp; first | done | omega)))
  conv => whnf
  refine ⟨?_, True.intro⟩
  rintro tt _
  conv => whnf
  change List Int at tt
  conv => whnf
  repeat (first
    | (refine And.intro ?_ ?_; (focus (first | omega | decide | exact EqOk.mk (by kernel_rfl) (by kernel_rfl) (by kernel_rfl) | exact Int.natCast_nonneg _ | ((repeat' refine And.intro ?_ ?_) <;> first | omega | exact Int.natCast_nonneg _ | (simp only [i64max, u8max, u16max, u32max, u64max]; omega) | (simp only [mulSz_eq, Cont.len, colsLen, Col.len, List.length_cons, List.length_nil, List.length_replicate, List.length_append]; first | done | omega) | (simp [mulSz, Cont.len, bne]; first | done | omega)))); conv => whnf)
    | (refine tst_in ?_ ?_; (focus (intro h_; exfalso; first | omega | ((try simp only [decide_eq_true_eq, decide_eq_false_iff_not] at h_); omega) | (simp [mulSz, Cont.len, bne] at h_; first | done | omega))); intro _; conv => whnf)
    | (refine tst_in ?_ ?_; rotate_left; (focus (intro h_; exfalso; first | omega | ((try simp only [decide_eq_true_eq, decide_eq_false_iff_not] at h_); omega) | (simp [mulSz, Cont.len, bne] at h_; first | done | omega))); intro _; conv => whnf)
    | (refine ⟨0, (show _ = _ by omega), ?_⟩; conv => whnf))
  refine ⟨_, [2], SL, ?_⟩
  conv => whnf
  iterate 2
   refine And.intro ?_ ?_
   focus
    conv => whnf
    repeat' (first | exact True.intro | rfl | refine And.intro ?_ ?_ | omega)
    all_goals (conv => whnf)
    all_goals (try (first | rfl | omega | (simp; done)))
  conv => whnf
  refine ⟨?_, True.intro⟩
  intro _ _
  conv => whnf
  conv => whnf
  repeat (first
    | (refine And.intro ?_ ?_; (focus (first | omega | decide | exact EqOk.mk (by kernel_rfl) (by kernel_rfl) (by kernel_rfl) | exact Int.natCast_nonneg _ | ((repeat' refine And.intro ?_ ?_) <;> first | omega | exact Int.natCast_nonneg _ | (simp only [i64max, u8max, u16max, u32max, u64max]; omega) | (simp only [mulSz_eq, Cont.len, colsLen, Col.len, List.length_cons, List.length_nil, List.length_replicate, List.length_append]; first | done | omega) | (simp [mulSz, Cont.len, bne]; first | done | omega)))); conv => whnf)
    | (refine tst_in ?_ ?_; (focus (intro h_; exfalso; first | omega | ((try simp only [decide_eq_true_eq, decide_eq_false_iff_not] at h_); omega) | (simp [mulSz, Cont.len, bne] at h_; first | done | omega))); intro _; conv => whnf)
    | (refine tst_in ?_ ?_; rotate_left; (focus (intro h_; exfalso; first | omega | ((try simp only [decide_eq_true_eq, decide_eq_false_iff_not] at h_); omega) | (simp [mulSz, Cont.len, bne] at h_; first | done | omega))); intro _; conv => whnf)
    | (refine ⟨0, (show _ = _ by omega), ?_⟩; conv => whnf))
  refine ⟨_, [2], DQ1, ?_⟩
  conv => whnf
  iterate 2
   refine And.intro ?_ ?_
   focus
    conv => whnf
    repeat' (first | exact True.intro | rfl | refine And.intro ?_ ?_)
    all_goals (conv => whnf)
    repeat' (first | exact True.intro | rfl | refine And.intro ?_ ?_)
    all_goals (try (first | rfl | omega | (simp; first | done | omega)))
  conv => whnf
  conv => whnf
  repeat (first
    | (refine And.intro ?_ ?_; (focus (first | omega | decide | exact EqOk.mk (by kernel_rfl) (by kernel_rfl) (by kernel_rfl) | exact Int.natCast_nonneg _ | ((repeat' refine And.intro ?_ ?_) <;> first | omega | exact Int.natCast_nonneg _ | (simp only [i64max, u8max, u16max, u32max, u64max]; omega) | (simp only [mulSz_eq, Cont.len, colsLen, Col.len, List.length_cons, List.length_nil, List.length_replicate, List.length_append]; first | done | omega) | (simp [mulSz, Cont.len, bne]; first | done | omega)))); conv => whnf)
    | (refine tst_in ?_ ?_; (focus (intro h_; exfalso; first | omega | ((try simp only [decide_eq_true_eq, decide_eq_false_iff_not] at h_); omega) | (simp [mulSz, Cont.len, bne] at h_; first | done | omega))); intro _; conv => whnf)
    | (refine tst_in ?_ ?_; rotate_left; (focus (intro h_; exfalso; first | omega | ((try simp only [decide_eq_true_eq, decide_eq_false_iff_not] at h_); omega) | (simp [mulSz, Cont.len, bne] at h_; first | done | omega))); intro _; conv => whnf)
    | (refine ⟨0, (show _ = _ by omega), ?_⟩; conv => whnf))
  refine ⟨⟨[0, 1, 3, 4, 5], ((0, tt) : Nat × List Int), ?_, Nat.zero_le _⟩, ?_⟩
  · show stLe _ _ (st6 (b.v : Nat) L A B l c m0 d T tt (tb (gi (sl (roP L l))) (l + 1)) sn (l + 1) 0) _
    unfold st6
    conv => whnf
    repeat' (first | exact True.intro | rfl | refine And.intro ?_ ?_)
    all_goals (conv => whnf)
    repeat' (first | exact True.intro | rfl | refine And.intro ?_ ?_)
    all_goals (try omega)
  · intro ⟨i, t2⟩ (hi : i ≤ l)
    show forceSt (st6 (b.v : Nat) L A B l c m0 d T t2 (tb (gi (sl (roP L l))) (l + 1)) sn (l + 1) i) _
    unfold st6
    conv => whnf
    repeat (first
      | (refine And.intro ?_ ?_; (focus (first | omega | decide | exact EqOk.mk (by kernel_rfl) (by kernel_rfl) (by kernel_rfl) | exact Int.natCast_nonneg _ | ((repeat' refine And.intro ?_ ?_) <;> first | omega | exact Int.natCast_nonneg _ | (simp only [i64max, u8max, u16max, u32max, u64max]; omega) | (simp only [mulSz_eq, Cont.len, colsLen, Col.len, List.length_cons, List.length_nil, List.length_replicate, List.length_append]; first | done | omega) | (simp [mulSz, Cont.len, bne]; first | done | omega)))); conv => whnf)
      | (refine tst_in ?_ ?_; (focus (intro h_; exfalso; first | omega | ((try simp only [decide_eq_true_eq, decide_eq_false_iff_not] at h_); omega) | (simp [mulSz, Cont.len, bne] at h_; first | done | omega))); intro _; conv => whnf)
      | (refine tst_in ?_ ?_; rotate_left; (focus (intro h_; exfalso; first | omega | ((try simp only [decide_eq_true_eq, decide_eq_false_iff_not] at h_); omega) | (simp [mulSz, Cont.len, bne] at h_; first | done | omega))); intro _; conv => whnf)
      | (refine ⟨0, (show _ = _ by omega), ?_⟩; conv => whnf))
    refine tst_in (fun u => ?_) (fun u' => ?_)
    · have u : i < l := by have := dlt_t u; omega
      have hgi : A.getD i 0 = ((L i).v : Nat) := hA2.2 i u
      have hl := hA2.1
      have hx := (L i).lt
      have hcl := cnt_le L (L i).v i
      have hci : (tb (ci L i) 256).getD (L i).v 0 = (cnt L i (L i).v : Nat) := tab_get _ _ hx
      conv => whnf
      repeat (first
        | (refine And.intro ?_ ?_; (focus (first | omega | decide | exact EqOk.mk (by kernel_rfl) (by kernel_rfl) (by kernel_rfl) | exact Int.natCast_nonneg _ | ((repeat' refine And.intro ?_ ?_) <;> first | omega | exact Int.natCast_nonneg _ | (simp only [i64max, u8max, u16max, u32max, u64max]; omega) | (simp only [mulSz_eq, Cont.len, colsLen, Col.len, List.length_cons, List.length_nil, List.length_replicate, List.length_append, tab_len]; first | done | omega) | (simp [mulSz, Cont.len, bne, tab_len]; first | done | omega)))); conv => whnf)
        | (refine tst_in ?_ ?_; (focus (intro h_; exfalso; first | omega | ((try simp only [decide_eq_true_eq, decide_eq_false_iff_not] at h_); omega) | (simp [mulSz, Cont.len, bne, tab_len] at h_; first | done | omega))); intro _; conv => whnf)
        | (refine tst_in ?_ ?_; rotate_left; (focus (intro h_; exfalso; first | omega | ((try simp only [decide_eq_true_eq, decide_eq_false_iff_not] at h_); omega) | (simp [mulSz, Cont.len, bne, tab_len] at h_; first | done | omega))); intro _; conv => whnf)
        | (refine ⟨0, (show _ = _ by omega), ?_⟩; conv => whnf))
      rw [show (0 + ((i : Nat) : Int).toNat) = i by omega, hgi]
      refine ⟨⟨by omega, by omega⟩, ?_⟩
      conv => whnf
      repeat (first
        | (refine And.intro ?_ ?_; (focus (first | omega | decide | exact EqOk.mk (by kernel_rfl) (by kernel_rfl) (by kernel_rfl) | exact Int.natCast_nonneg _ | ((repeat' refine And.intro ?_ ?_) <;> first | omega | exact Int.natCast_nonneg _ | (simp only [i64max, u8max, u16max, u32max, u64max]; omega) | (simp only [mulSz_eq, Cont.len, colsLen, Col.len, List.length_cons, List.length_nil, List.length_replicate, List.length_append, tab_len]; first | done | omega) | (simp [mulSz, Cont.len, bne, tab_len]; first | done | omega)))); conv => whnf)
        | (refine tst_in ?_ ?_; (focus (intro h_; exfalso; first | omega | ((try simp only [decide_eq_true_eq, decide_eq_false_iff_not] at h_); omega) | (simp [mulSz, Cont.len, bne, tab_len] at h_; first | done | omega))); intro _; conv => whnf)
        | (refine tst_in ?_ ?_; rotate_left; (focus (intro h_; exfalso; first | omega | ((try simp only [decide_eq_true_eq, decide_eq_false_iff_not] at h_); omega) | (simp [mulSz, Cont.len, bne, tab_len] at h_; first | done | omega))); intro _; conv => whnf)
        | (refine ⟨0, (show _ = _ by omega), ?_⟩; conv => whnf))
      rw [show (0 + (((L i).v : Nat) : Int).toNat) = (L i).v by omega, hci]
      conv => whnf
      repeat (first
        | (refine And.intro ?_ ?_; (focus (first | omega | decide | exact EqOk.mk (by kernel_rfl) (by kernel_rfl) (by kernel_rfl) | exact Int.natCast_nonneg _ | ((repeat' refine And.intro ?_ ?_) <;> first | omega | exact Int.natCast_nonneg _ | (simp only [i64max, u8max, u16max, u32max, u64max]; omega) | (simp only [mulSz_eq, Cont.len, colsLen, Col.len, List.length_cons, List.length_nil, List.length_replicate, List.length_append, tab_len]; first | done | omega) | (simp [mulSz, Cont.len, bne, tab_len]; first | done | omega)))); conv => whnf)
        | (refine tst_in ?_ ?_; (focus (intro h_; exfalso; first | omega | ((try simp only [decide_eq_true_eq, decide_eq_false_iff_not] at h_); omega) | (simp [mulSz, Cont.len, bne, tab_len] at h_; first | done | omega))); intro _; conv => whnf)
        | (refine tst_in ?_ ?_; rotate_left; (focus (intro h_; exfalso; first | omega | ((try simp only [decide_eq_true_eq, decide_eq_false_iff_not] at h_); omega) | (simp [mulSz, Cont.len, bne, tab_len] at h_; first | done | omega))); intro _; conv => whnf)
        | (refine ⟨0, (show _ = _ by omega), ?_⟩; conv => whnf))
      rw [show (0 + (((L i).v : Nat) : Int).toNat) = (L i).v by omega, ci_put]
      refine ⟨[0, 1, 2, 3, 4], ((i + 1, t2) : Nat × List Int), ?_, u, (by show l - (i + 1) < l - i; omega)⟩
      show stLe _ _ (st6 (b.v : Nat) L A B l c m0 d T t2 (tb (gi (sl (roP L l))) (l + 1)) sn (l + 1) (i + 1)) _
      unfold st6
      conv => whnf
      repeat' (first | exact True.intro | rfl | refine And.intro ?_ ?_)
      all_goals (conv => whnf)
      repeat' (first | exact True.intro | rfl | refine And.intro ?_ ?_)
      all_goals (try omega)
    · have u : i = l := by have := dlt_f u'; omega
      subst u
      conv => whnf
      repeat (first
        | (refine And.intro ?_ ?_; (focus (first | omega | decide | exact EqOk.mk (by kernel_rfl) (by kernel_rfl) (by kernel_rfl) | exact Int.natCast_nonneg _ | ((repeat' refine And.intro ?_ ?_) <;> first | omega | exact Int.natCast_nonneg _ | (simp only [i64max, u8max, u16max, u32max, u64max]; omega) | (simp only [mulSz_eq, Cont.len, colsLen, Col.len, List.length_cons, List.length_nil, List.length_replicate, List.length_append]; first | done | omega) | (simp [mulSz, Cont.len, bne]; first | done | omega)))); conv => whnf)
        | (refine tst_in ?_ ?_; (focus (intro h_; exfalso; first | omega | ((try simp only [decide_eq_true_eq, decide_eq_false_iff_not] at h_); omega) | (simp [mulSz, Cont.len, bne] at h_; first | done | omega))); intro _; conv => whnf)
        | (refine tst_in ?_ ?_; rotate_left; (focus (intro h_; exfalso; first | omega | ((try simp only [decide_eq_true_eq, decide_eq_false_iff_not] at h_); omega) | (simp [mulSz, Cont.len, bne] at h_; first | done | omega))); intro _; conv => whnf)
        | (refine ⟨0, (show _ = _ by omega), ?_⟩; conv => whnf))
      refine ⟨⟨[0, 1, 2, 3, 4], ((0, t2) : Nat × List Int), ?_, Nat.zero_le _⟩, ?_⟩
      · show stLe _ _ (st6b (b.v : Nat) L B m0 d i T t2 (tb (gi (sl (roP L i))) (i + 1)) sn (i + 1) 0 0) _
        unfold st6b
        conv => whnf
        repeat' (first | exact True.intro | rfl | refine And.intro ?_ ?_)
        all_goals (conv => whnf)
        repeat' (first | exact True.intro | rfl | refine And.intro ?_ ?_)
        all_goals (try omega)
      · intro ⟨x, t3⟩ (hx : x ≤ 256)
        show forceSt (st6b (b.v : Nat) L B m0 d i T t3 (tb (gi (sl (roP L i))) (i + 1)) sn (i + 1) x (rl (roP L i) (i + 1) x).length) _
        generalize hk : (rl (roP L i) (i + 1) x).length = k
        unfold st6b
        conv => whnf
        repeat (first
          | (refine And.intro ?_ ?_; (focus (first | omega | decide | exact EqOk.mk (by kernel_rfl) (by kernel_rfl) (by kernel_rfl) | exact Int.natCast_nonneg _ | ((repeat' refine And.intro ?_ ?_) <;> first | omega | exact Int.natCast_nonneg _ | (simp only [i64max, u8max, u16max, u32max, u64max]; omega) | (simp only [mulSz_eq, Cont.len, colsLen, Col.len, List.length_cons, List.length_nil, List.length_replicate, List.length_append]; first | done | omega) | (simp [mulSz, Cont.len, bne]; first | done | omega)))); conv => whnf)
          | (refine tst_in ?_ ?_; (focus (intro h_; exfalso; first | omega | ((try simp only [decide_eq_true_eq, decide_eq_false_iff_not] at h_); omega) | (simp [mulSz, Cont.len, bne] at h_; first | done | omega))); intro _; conv => whnf)
          | (refine tst_in ?_ ?_; rotate_left; (focus (intro h_; exfalso; first | omega | ((try simp only [decide_eq_true_eq, decide_eq_false_iff_not] at h_); omega) | (simp [mulSz, Cont.len, bne] at h_; first | done | omega))); intro _; conv => whnf)
          | (refine ⟨0, (show _ = _ by omega), ?_⟩; conv => whnf))
        refine tst_in (fun u => ?_) (fun u' => ?_)
        · have u : x < 256 := by have := dlt_t u; omega
          have hwr : IntKind.u8.wrap (x : Int) = (x : Int) := by rw [u8wrap]; omega
          have AX := AT (toB (x : Int))
          have hxl := hat x u
          rw [hk] at hxl
          have hcx : (tb (ci L i) 256).getD x 0 = (cnt L i x : Nat) := tab_get _ _ u
          have hpos : isR (roP L i) (i + 1) x = true ↔ 0 < cnt L i x := by
            rw [hisR x, cnt_pos]
            exact ⟨fun ⟨a, h1, h2⟩ => ⟨a, h1, by rw [h2, toB_nat u]⟩, fun ⟨a, h1, h2⟩ => ⟨a, h1, G.ext (by rw [h2, toB_nat u])⟩⟩
          have hs2 := hsr2 (toB (x : Int))
          rw [show atV (sl (roP L i)) sn (toB (x : Int)) = As (sl (roP L i)) (toB (x : Int)) (i + 1) from (if_neg (by omega)).trans (eAs _), show atE sn = 0 from if_neg (by omega)] at AX
          rw [toB_nat u] at AX hs2
          generalize As (sl (roP L i)) (toB (x : Int)) (i + 1) = w at *
          have hwv : (w.v : Int) = 0 ↔ w = g0 := ⟨fun h => G.ext (by show w.v = 0; omega), fun h => by rw [h]; rfl⟩
          have hnext : (rl (roP L i) (i + 1) (x + 1)).length = if isR (roP L i) (i + 1) x = true then k + 1 else k := by
            rw [show rl (roP L i) (i + 1) (x + 1) = if isR (roP L i) (i + 1) x = true then rl (roP L i) (i + 1) x ++ [(x : Int)] else rl (roP L i) (i + 1) x from rfl]
            split
            · rw [List.length_append, hk]; rfl
            · exact hk
          rcases hR : isR (roP L i) (i + 1) x with _ | _
          · have hz : cnt L i x = 0 := by
              have : ¬ 0 < cnt L i x := fun h => by rw [hpos.2 h] at hR; cases hR
              omega
            have hxl := hxl.2 hR
            rw [hR, if_neg (by decide)] at hnext
            conv => whnf
            repeat (first
              | (refine And.intro ?_ ?_; (focus (first | omega | decide | exact EqOk.mk (by kernel_rfl) (by kernel_rfl) (by kernel_rfl) | exact Int.natCast_nonneg _ | ((repeat' refine And.intro ?_ ?_) <;> first | omega | exact Int.natCast_nonneg _ | (simp only [i64max, u8max, u16max, u32max, u64max]; omega) | (simp only [mulSz_eq, Cont.len, colsLen, Col.len, List.length_cons, List.length_nil, List.length_replicate, List.length_append]; first | done | omega) | (simp [mulSz, Cont.len, bne]; first | done | omega)))); conv => whnf)
              | (refine tst_in ?_ ?_; (focus (intro h_; exfalso; first | omega | ((try simp only [decide_eq_true_eq, decide_eq_false_iff_not] at h_); omega) | (simp [mulSz, Cont.len, bne] at h_; first | done | omega))); intro _; conv => whnf)
              | (refine tst_in ?_ ?_; rotate_left; (focus (intro h_; exfalso; first | omega | ((try simp only [decide_eq_true_eq, decide_eq_false_iff_not] at h_); omega) | (simp [mulSz, Cont.len, bne] at h_; first | done | omega))); intro _; conv => whnf)
              | (refine ⟨0, (show _ = _ by omega), ?_⟩; conv => whnf))
            refine tst_in (fun v => ?_) (fun v' => ?_)
            all_goals
              try
                have v : k < T.length := by have := dlt_t v; omega
                have hTl : k < (T ++ t3).length := by rw [List.length_append]; omega
                have hTk : (T ++ t3).getD k 0 = T.getD k 0 := by rw [g_app, if_pos v]
                have hxl := hxl v
                generalize T.getD k 0 = z at *
                conv => whnf
                repeat (first
                  | (refine And.intro ?_ ?_; (focus (first | omega | decide | exact EqOk.mk (by kernel_rfl) (by kernel_rfl) (by kernel_rfl) | exact Int.natCast_nonneg _ | ((repeat' refine And.intro ?_ ?_) <;> first | omega | exact Int.natCast_nonneg _ | (simp only [i64max, u8max, u16max, u32max, u64max]; omega) | (simp only [mulSz_eq, Cont.len, colsLen, Col.len, List.length_cons, List.length_nil, List.length_replicate, List.length_append]; first | done | omega) | (simp [mulSz, Cont.len, bne]; first | done | omega)))); conv => whnf)
                  | (refine tst_in ?_ ?_; (focus (intro h_; exfalso; first | omega | ((try simp only [decide_eq_true_eq, decide_eq_false_iff_not] at h_); omega) | (simp [mulSz, Cont.len, bne] at h_; first | done | omega))); intro _; conv => whnf)
                  | (refine tst_in ?_ ?_; rotate_left; (focus (intro h_; exfalso; first | omega | ((try simp only [decide_eq_true_eq, decide_eq_false_iff_not] at h_); omega) | (simp [mulSz, Cont.len, bne] at h_; first | done | omega))); intro _; conv => whnf)
                  | (refine ⟨0, (show _ = _ by omega), ?_⟩; conv => whnf))
                rw [show (0 + ((k : Nat) : Int).toNat) = k by omega, hTk, hwr]
              conv => whnf
              repeat (first
                | (refine And.intro ?_ ?_; (focus (first | omega | decide | exact EqOk.mk (by kernel_rfl) (by kernel_rfl) (by kernel_rfl) | exact Int.natCast_nonneg _ | ((repeat' refine And.intro ?_ ?_) <;> first | omega | exact Int.natCast_nonneg _ | (simp only [i64max, u8max, u16max, u32max, u64max]; omega) | (simp only [mulSz_eq, Cont.len, colsLen, Col.len, List.length_cons, List.length_nil, List.length_replicate, List.length_append]; first | done | omega) | (simp [mulSz, Cont.len, bne]; first | done | omega)))); conv => whnf)
                | (refine tst_in ?_ ?_; (focus (intro h_; exfalso; first | omega | ((try simp only [decide_eq_true_eq, decide_eq_false_iff_not] at h_); omega) | (simp [mulSz, Cont.len, bne] at h_; first | done | omega))); intro _; conv => whnf)
                | (refine tst_in ?_ ?_; rotate_left; (focus (intro h_; exfalso; first | omega | ((try simp only [decide_eq_true_eq, decide_eq_false_iff_not] at h_); omega) | (simp [mulSz, Cont.len, bne] at h_; first | done | omega))); intro _; conv => whnf)
                | (refine ⟨0, (show _ = _ by omega), ?_⟩; conv => whnf))
              rw [hwr]
              refine ⟨_, [3], AX, ?_⟩
              conv => whnf
              iterate 2
               refine And.intro ?_ ?_
               focus
                conv => whnf
                repeat' (first | exact True.intro | rfl | refine And.intro ?_ ?_ | omega)
                all_goals (conv => whnf)
                all_goals (try (first | rfl | omega | (simp; done)))
              conv => whnf
              refine ⟨?_, True.intro⟩
              intro _ _
              conv => whnf
              conv => whnf
              repeat (first
                | (refine And.intro ?_ ?_; (focus (first | omega | decide | exact EqOk.mk (by kernel_rfl) (by kernel_rfl) (by kernel_rfl) | exact Int.natCast_nonneg _ | ((repeat' refine And.intro ?_ ?_) <;> first | omega | exact Int.natCast_nonneg _ | (simp only [i64max, u8max, u16max, u32max, u64max]; omega) | (simp only [mulSz_eq, Cont.len, colsLen, Col.len, List.length_cons, List.length_nil, List.length_replicate, List.length_append, tab_len]; first | done | omega) | (simp [mulSz, Cont.len, bne, tab_len]; first | done | omega)))); conv => whnf)
                | (refine tst_in ?_ ?_; (focus (intro h_; exfalso; first | omega | ((try simp only [decide_eq_true_eq, decide_eq_false_iff_not] at h_); omega) | (simp [mulSz, Cont.len, bne, tab_len] at h_; first | done | omega))); intro _; conv => whnf)
                | (refine tst_in ?_ ?_; rotate_left; (focus (intro h_; exfalso; first | omega | ((try simp only [decide_eq_true_eq, decide_eq_false_iff_not] at h_); omega) | (simp [mulSz, Cont.len, bne, tab_len] at h_; first | done | omega))); intro _; conv => whnf)
                | (refine ⟨0, (show _ = _ by omega), ?_⟩; conv => whnf))
              rw [show (0 + ((x : Nat) : Int).toNat) = x by omega, hcx, hz]
              conv => whnf
              repeat (first
                | (refine And.intro ?_ ?_; (focus (first | omega | decide | exact EqOk.mk (by kernel_rfl) (by kernel_rfl) (by kernel_rfl) | exact Int.natCast_nonneg _ | ((repeat' refine And.intro ?_ ?_) <;> first | omega | exact Int.natCast_nonneg _ | (simp only [i64max, u8max, u16max, u32max, u64max]; omega) | (simp only [mulSz_eq, Cont.len, colsLen, Col.len, List.length_cons, List.length_nil, List.length_replicate, List.length_append, dLt_eq]; first | done | omega) | (simp [mulSz, Cont.len, bne, dLt_eq]; first | done | omega)))); conv => whnf)
                | (refine tst_in ?_ ?_; (focus (intro h_; exfalso; first | omega | ((try simp only [decide_eq_true_eq, decide_eq_false_iff_not] at h_); omega) | (simp [mulSz, Cont.len, bne, dLt_eq] at h_; first | done | omega))); intro _; conv => whnf)
                | (refine tst_in ?_ ?_; rotate_left; (focus (intro h_; exfalso; first | omega | ((try simp only [decide_eq_true_eq, decide_eq_false_iff_not] at h_); omega) | (simp [mulSz, Cont.len, bne, dLt_eq] at h_; first | done | omega))); intro _; conv => whnf)
                | (refine ⟨0, (show _ = _ by omega), ?_⟩; conv => whnf))
              refine ⟨[0, 1, 2, 3, 4], ((x + 1, t3) : Nat × List Int), ?_, u, (by show 256 - (x + 1) < 256 - x; omega)⟩
              show stLe _ _ (st6b (b.v : Nat) L B m0 d i T t3 (tb (gi (sl (roP L i))) (i + 1)) sn (i + 1) (x + 1) (rl (roP L i) (i + 1) (x + 1)).length) _
              rw [hnext]
              unfold st6b
              conv => whnf
              repeat' (first | exact True.intro | rfl | refine And.intro ?_ ?_)
              all_goals (conv => whnf)
              repeat' (first | exact True.intro | rfl | refine And.intro ?_ ?_)
              all_goals (try omega)
          · obtain ⟨hkT, hTx⟩ := hxl.1 hR
            have hz := hpos.1 hR
            have hs2 := hs2 hz
            rw [hR, if_pos rfl] at hnext
            have hTk : (T ++ t3).getD k 0 = (x : Int) := by rw [g_app, if_pos hkT]; exact hTx
            have hTl : k < (T ++ t3).length := by rw [List.length_append]; omega
            have hwi : ((w.v : Int) = 0 ∧ 2 ≤ cnt L i x) ∨ ((w.v : Int) ≠ 0 ∧ cnt L i x < 2) := by
              by_cases h2 : 2 ≤ cnt L i x
              · exact .inl ⟨hwv.2 (hs2.2 h2), h2⟩
              · exact .inr ⟨fun q => h2 (hs2.1 (hwv.1 q)), by omega⟩
            conv => whnf
            repeat (first
              | (refine And.intro ?_ ?_; (focus (first | omega | decide | exact EqOk.mk (by kernel_rfl) (by kernel_rfl) (by kernel_rfl) | exact Int.natCast_nonneg _ | ((repeat' refine And.intro ?_ ?_) <;> first | omega | exact Int.natCast_nonneg _ | (simp only [i64max, u8max, u16max, u32max, u64max]; omega) | (simp only [mulSz_eq, Cont.len, colsLen, Col.len, List.length_cons, List.length_nil, List.length_replicate, List.length_append]; first | done | omega) | (simp [mulSz, Cont.len, bne]; first | done | omega)))); conv => whnf)
              | (refine tst_in ?_ ?_; (focus (intro h_; exfalso; first | omega | ((try simp only [decide_eq_true_eq, decide_eq_false_iff_not] at h_); omega) | (simp [mulSz, Cont.len, bne] at h_; first | done | omega))); intro _; conv => whnf)
              | (refine tst_in ?_ ?_; rotate_left; (focus (intro h_; exfalso; first | omega | ((try simp only [decide_eq_true_eq, decide_eq_false_iff_not] at h_); omega) | (simp [mulSz, Cont.len, bne] at h_; first | done | omega))); intro _; conv => whnf)
              | (refine ⟨0, (show _ = _ by omega), ?_⟩; conv => whnf))
            rw [show (0 + ((k : Nat) : Int).toNat) = k by omega, hTk, hwr]
            conv => whnf
            repeat (first
              | (refine And.intro ?_ ?_; (focus (first | omega | decide | exact EqOk.mk (by kernel_rfl) (by kernel_rfl) (by kernel_rfl) | exact Int.natCast_nonneg _ | ((repeat' refine And.intro ?_ ?_) <;> first | omega | exact Int.natCast_nonneg _ | (simp only [i64max, u8max, u16max, u32max, u64max]; omega) | (simp only [mulSz_eq, Cont.len, colsLen, Col.len, List.length_cons, List.length_nil, List.length_replicate, List.length_append]; first | done | omega) | (simp [mulSz, Cont.len, bne]; first | done | omega)))); conv => whnf)
              | (refine tst_in ?_ ?_; (focus (intro h_; exfalso; first | omega | ((try simp only [decide_eq_true_eq, decide_eq_false_iff_not] at h_); omega) | (simp [mulSz, Cont.len, bne] at h_; first | done | omega))); intro _; conv => whnf)
              | (refine tst_in ?_ ?_; rotate_left; (focus (intro h_; exfalso; first | omega | ((try simp only [decide_eq_true_eq, decide_eq_false_iff_not] at h_); omega) | (simp [mulSz, Cont.len, bne] at h_; first | done | omega))); intro _; conv => whnf)
              | (refine ⟨0, (show _ = _ by omega), ?_⟩; conv => whnf))
            rw [hwr]
            refine ⟨_, [3], AX, ?_⟩
            conv => whnf
            iterate 2
             refine And.intro ?_ ?_
             focus
              conv => whnf
              repeat' (first | exact True.intro | rfl | refine And.intro ?_ ?_ | omega)
              all_goals (conv => whnf)
              all_goals (try (first | rfl | omega | (simp; done)))
            conv => whnf
            refine ⟨?_, True.intro⟩
            intro _ _
            conv => whnf
            conv => whnf
            repeat (first
              | (refine And.intro ?_ ?_; (focus (first | omega | decide | exact EqOk.mk (by kernel_rfl) (by kernel_rfl) (by kernel_rfl) | exact Int.natCast_nonneg _ | ((repeat' refine And.intro ?_ ?_) <;> first | omega | exact Int.natCast_nonneg _ | (simp only [i64max, u8max, u16max, u32max, u64max]; omega) | (simp only [mulSz_eq, Cont.len, colsLen, Col.len, List.length_cons, List.length_nil, List.length_replicate, List.length_append, tab_len]; first | done | omega) | (simp [mulSz, Cont.len, bne, tab_len]; first | done | omega)))); conv => whnf)
              | (refine tst_in ?_ ?_; (focus (intro h_; exfalso; first | omega | ((try simp only [decide_eq_true_eq, decide_eq_false_iff_not] at h_); omega) | (simp [mulSz, Cont.len, bne, tab_len] at h_; first | done | omega))); intro _; conv => whnf)
              | (refine tst_in ?_ ?_; rotate_left; (focus (intro h_; exfalso; first | omega | ((try simp only [decide_eq_true_eq, decide_eq_false_iff_not] at h_); omega) | (simp [mulSz, Cont.len, bne, tab_len] at h_; first | done | omega))); intro _; conv => whnf)
              | (refine ⟨0, (show _ = _ by omega), ?_⟩; conv => whnf))
            rw [show (0 + ((x : Nat) : Int).toNat) = x by omega, hcx]
            rcases hwi with ⟨q1, q2⟩ | ⟨q1, q2⟩
            all_goals
              conv => whnf
              repeat (first
                | (refine And.intro ?_ ?_; (focus (first | omega | decide | exact EqOk.mk (by kernel_rfl) (by kernel_rfl) (by kernel_rfl) | exact Int.natCast_nonneg _ | ((repeat' refine And.intro ?_ ?_) <;> first | omega | exact Int.natCast_nonneg _ | (simp only [i64max, u8max, u16max, u32max, u64max]; omega) | (simp only [mulSz_eq, Cont.len, colsLen, Col.len, List.length_cons, List.length_nil, List.length_replicate, List.length_append, tab_len, dLt_eq]; first | done | omega) | (simp [mulSz, Cont.len, bne, tab_len, dLt_eq]; first | done | omega)))); conv => whnf)
                | (refine tst_in ?_ ?_; (focus (intro h_; exfalso; first | omega | ((try simp only [decide_eq_true_eq, decide_eq_false_iff_not] at h_); omega) | (simp [mulSz, Cont.len, bne, tab_len, dLt_eq] at h_; first | done | omega))); intro _; conv => whnf)
                | (refine tst_in ?_ ?_; rotate_left; (focus (intro h_; exfalso; first | omega | ((try simp only [decide_eq_true_eq, decide_eq_false_iff_not] at h_); omega) | (simp [mulSz, Cont.len, bne, tab_len, dLt_eq] at h_; first | done | omega))); intro _; conv => whnf)
                | (refine ⟨0, (show _ = _ by omega), ?_⟩; conv => whnf))
              rw [show (0 + ((x : Nat) : Int).toNat) = x by omega, hcx]
              conv => whnf
              repeat (first
                | (refine And.intro ?_ ?_; (focus (first | omega | decide | exact EqOk.mk (by kernel_rfl) (by kernel_rfl) (by kernel_rfl) | exact Int.natCast_nonneg _ | ((repeat' refine And.intro ?_ ?_) <;> first | omega | exact Int.natCast_nonneg _ | (simp only [i64max, u8max, u16max, u32max, u64max]; omega) | (simp only [mulSz_eq, Cont.len, colsLen, Col.len, List.length_cons, List.length_nil, List.length_replicate, List.length_append, tab_len, dLt_eq]; first | done | omega) | (simp [mulSz, Cont.len, bne, tab_len, dLt_eq]; first | done | omega)))); conv => whnf)
                | (refine tst_in ?_ ?_; (focus (intro h_; exfalso; first | omega | ((try simp only [decide_eq_true_eq, decide_eq_false_iff_not] at h_); omega) | (simp [mulSz, Cont.len, bne, tab_len, dLt_eq] at h_; first | done | omega))); intro _; conv => whnf)
                | (refine tst_in ?_ ?_; rotate_left; (focus (intro h_; exfalso; first | omega | ((try simp only [decide_eq_true_eq, decide_eq_false_iff_not] at h_); omega) | (simp [mulSz, Cont.len, bne, tab_len, dLt_eq] at h_; first | done | omega))); intro _; conv => whnf)
                | (refine ⟨0, (show _ = _ by omega), ?_⟩; conv => whnf))
              refine ⟨[0, 1, 2, 3, 4], ((x + 1, t3) : Nat × List Int), ?_, u, (by show 256 - (x + 1) < 256 - x; omega)⟩
              show stLe _ _ (st6b (b.v : Nat) L B m0 d i T t3 (tb (gi (sl (roP L i))) (i + 1)) sn (i + 1) (x + 1) (rl (roP L i) (i + 1) (x + 1)).length) _
              rw [hnext]
              unfold st6b
              conv => whnf
              repeat' (first | exact True.intro | rfl | refine And.intro ?_ ?_)
              all_goals (conv => whnf)
              repeat' (first | exact True.intro | rfl | refine And.intro ?_ ?_)
              all_goals (try omega)
        · have u : x = 256 := by have := dlt_f u'; omega
          subst u
          rw [hT] at hk
          subst hk
          have S1 := Sum_g F zf B B m d 0 0 hB2 (Rd_zero _ _) (by omega) (Nat.le_refl _) (by omega) (by omega)
          rw [okN_y _ (by omega) (by omega), okE_y (by omega) (by omega), sumS_0, show max m 0 = m by omega, dg_ct] at S1
          unfold polOut at S1
          have hpF := pol_dg F m
          have hdF := dg_le F m
          have eAF : ∀ x : G, As (ct F m) x (dg F m) = As F x m := fun x => by rw [As_pol x hpF hdF, As_ct]
          have AF := fun x : G => At_g (ct F m) (tb (gi (ct F m)) m) (dg F m) m x (Rd_le (Rd_tb _ _) hdF) hdF (by omega)
          generalize htm : dg F m = t at *
          conv => whnf
          repeat (first
            | (refine And.intro ?_ ?_; (focus (first | omega | decide | exact EqOk.mk (by kernel_rfl) (by kernel_rfl) (by kernel_rfl) | exact Int.natCast_nonneg _ | ((repeat' refine And.intro ?_ ?_) <;> first | omega | exact Int.natCast_nonneg _ | (simp only [i64max, u8max, u16max, u32max, u64max]; omega) | (simp only [mulSz_eq, Cont.len, colsLen, Col.len, List.length_cons, List.length_nil, List.length_replicate, List.length_append]; first | done | omega) | (simp [mulSz, Cont.len, bne]; first | done | omega)))); conv => whnf)
            | (refine tst_in ?_ ?_; (focus (intro h_; exfalso; first | omega | ((try simp only [decide_eq_true_eq, decide_eq_false_iff_not] at h_); omega) | (simp [mulSz, Cont.len, bne] at h_; first | done | omega))); intro _; conv => whnf)
            | (refine tst_in ?_ ?_; rotate_left; (focus (intro h_; exfalso; first | omega | ((try simp only [decide_eq_true_eq, decide_eq_false_iff_not] at h_); omega) | (simp [mulSz, Cont.len, bne] at h_; first | done | omega))); intro _; conv => whnf)
            | (refine ⟨0, (show _ = _ by omega), ?_⟩; conv => whnf))
          rw [show (min (m0 : Int) 20).toNat = m by omega]
          refine ⟨_, [1, 1], S1, ?_⟩
          conv => whnf
          iterate 2
           refine And.intro ?_ ?_
           focus
            conv => whnf
            repeat' (first | exact True.intro | rfl | refine And.intro ?_ ?_ | omega)
            all_goals (conv => whnf)
            all_goals (try (first | rfl | omega | (simp; done)))
          conv => whnf
          refine ⟨?_, True.intro⟩
          intro _ _
          conv => whnf
          conv => whnf
          repeat (first
            | (refine And.intro ?_ ?_; (focus (first | omega | decide | exact EqOk.mk (by kernel_rfl) (by kernel_rfl) (by kernel_rfl) | exact Int.natCast_nonneg _ | ((repeat' refine And.intro ?_ ?_) <;> first | omega | exact Int.natCast_nonneg _ | (simp only [i64max, u8max, u16max, u32max, u64max]; omega) | (simp only [mulSz_eq, Cont.len, colsLen, Col.len, List.length_cons, List.length_nil, List.length_replicate, List.length_append]; first | done | omega) | (simp [mulSz, Cont.len, bne]; first | done | omega)))); conv => whnf)
            | (refine tst_in ?_ ?_; (focus (intro h_; exfalso; first | omega | ((try simp only [decide_eq_true_eq, decide_eq_false_iff_not] at h_); omega) | (simp [mulSz, Cont.len, bne] at h_; first | done | omega))); intro _; conv => whnf)
            | (refine tst_in ?_ ?_; rotate_left; (focus (intro h_; exfalso; first | omega | ((try simp only [decide_eq_true_eq, decide_eq_false_iff_not] at h_); omega) | (simp [mulSz, Cont.len, bne] at h_; first | done | omega))); intro _; conv => whnf)
            | (refine ⟨0, (show _ = _ by omega), ?_⟩; conv => whnf))
          refine ⟨⟨[0, 1, 2, 5, 9], ((0, t3, [], []) : Nat × List Int × List Int × List Int), ?_, Nat.zero_le _, rfl⟩, ?_⟩
          · show stLe _ _ (st6c (b.v : Nat) F b B m t T t3 0 [] []) _
            unfold st6c
            conv => whnf
            repeat' (first | exact True.intro | rfl | refine And.intro ?_ ?_)
            all_goals (conv => whnf)
            repeat' (first | exact True.intro | rfl | refine And.intro ?_ ?_)
            all_goals (try omega)
          · intro ⟨j, t4, u1, u2⟩ ⟨hj, hu⟩
            have hj : j ≤ t + 3 := hj
            have hu : u1.length = u2.length := hu
            show forceSt (st6c (b.v : Nat) F b B m t T t4 j u1 u2) _
            unfold st6c
            conv => whnf
            repeat (first
              | (refine And.intro ?_ ?_; (focus (first | omega | decide | exact EqOk.mk (by kernel_rfl) (by kernel_rfl) (by kernel_rfl) | exact Int.natCast_nonneg _ | ((repeat' refine And.intro ?_ ?_) <;> first | omega | exact Int.natCast_nonneg _ | (simp only [i64max, u8max, u16max, u32max, u64max]; omega) | (simp only [mulSz_eq, Cont.len, colsLen, Col.len, List.length_cons, List.length_nil, List.length_replicate, List.length_append]; first | done | omega) | (simp [mulSz, Cont.len, bne]; first | done | omega)))); conv => whnf)
              | (refine tst_in ?_ ?_; (focus (intro h_; exfalso; first | omega | ((try simp only [decide_eq_true_eq, decide_eq_false_iff_not] at h_); omega) | (simp [mulSz, Cont.len, bne] at h_; first | done | omega))); intro _; conv => whnf)
              | (refine tst_in ?_ ?_; rotate_left; (focus (intro h_; exfalso; first | omega | ((try simp only [decide_eq_true_eq, decide_eq_false_iff_not] at h_); omega) | (simp [mulSz, Cont.len, bne] at h_; first | done | omega))); intro _; conv => whnf)
              | (refine ⟨0, (show _ = _ by omega), ?_⟩; conv => whnf))
            refine tst_in (fun v => ?_) (fun v' => ?_)
            · have v : j < t + 3 := by have := dlt_t v; omega
              have hwr : IntKind.u8.wrap (j : Int) = (j : Int) := by rw [u8wrap]; omega
              have hwr2 : IntKind.u8.wrap ((b.v : Int) + (j : Int)) = ((xG b j).v : Nat) := by
                rw [u8wrap]; show _ = (((b.v + j) % 256 : Nat) : Int); omega
              have AX := AF (xG b j)
              rw [show atV (ct F m) t (xG b j) = As F (xG b j) m from (if_neg (by omega)).trans (eAF _), show atE t = 0 from if_neg (by omega)] at AX
              conv => whnf
              repeat (first
                | (refine And.intro ?_ ?_; (focus (first | omega | decide | exact EqOk.mk (by kernel_rfl) (by kernel_rfl) (by kernel_rfl) | exact Int.natCast_nonneg _ | ((repeat' refine And.intro ?_ ?_) <;> first | omega | exact Int.natCast_nonneg _ | (simp only [i64max, u8max, u16max, u32max, u64max]; omega) | (simp only [mulSz_eq, Cont.len, colsLen, Col.len, List.length_cons, List.length_nil, List.length_replicate, List.length_append]; first | done | omega) | (simp [mulSz, Cont.len, bne]; first | done | omega)))); conv => whnf)
                | (refine tst_in ?_ ?_; (focus (intro h_; exfalso; first | omega | ((try simp only [decide_eq_true_eq, decide_eq_false_iff_not] at h_); omega) | (simp [mulSz, Cont.len, bne] at h_; first | done | omega))); intro _; conv => whnf)
                | (refine tst_in ?_ ?_; rotate_left; (focus (intro h_; exfalso; first | omega | ((try simp only [decide_eq_true_eq, decide_eq_false_iff_not] at h_); omega) | (simp [mulSz, Cont.len, bne] at h_; first | done | omega))); intro _; conv => whnf)
                | (refine ⟨0, (show _ = _ by omega), ?_⟩; conv => whnf))
              rw [hwr, hwr2]
              refine ⟨_, [3], AX, ?_⟩
              conv => whnf
              iterate 2
               refine And.intro ?_ ?_
               focus
                conv => whnf
                repeat' (first | exact True.intro | rfl | refine And.intro ?_ ?_ | omega)
                all_goals (conv => whnf)
                all_goals (try (first | rfl | omega | (simp; done)))
              conv => whnf
              refine ⟨?_, True.intro⟩
              intro _ _
              conv => whnf
              conv => whnf
              repeat (first
                | (refine And.intro ?_ ?_; (focus (first | omega | decide | exact EqOk.mk (by kernel_rfl) (by kernel_rfl) (by kernel_rfl) | exact Int.natCast_nonneg _ | ((repeat' refine And.intro ?_ ?_) <;> first | omega | exact Int.natCast_nonneg _ | (simp only [i64max, u8max, u16max, u32max, u64max]; omega) | (simp only [mulSz_eq, Cont.len, colsLen, Col.len, List.length_cons, List.length_nil, List.length_replicate, List.length_append, tab_len, hu]; first | done | omega) | (simp [mulSz, Cont.len, bne, tab_len, hu]; first | done | omega)))); conv => whnf)
                | (refine tst_in ?_ ?_; (focus (intro h_; exfalso; first | omega | ((try simp only [decide_eq_true_eq, decide_eq_false_iff_not] at h_); omega) | (simp [mulSz, Cont.len, bne, tab_len, hu] at h_; first | done | omega))); intro _; conv => whnf)
                | (refine tst_in ?_ ?_; rotate_left; (focus (intro h_; exfalso; first | omega | ((try simp only [decide_eq_true_eq, decide_eq_false_iff_not] at h_); omega) | (simp [mulSz, Cont.len, bne, tab_len, hu] at h_; first | done | omega))); intro _; conv => whnf)
                | (refine ⟨(j), (show _ = _ by omega), ?_⟩; conv => whnf)
                | (refine ⟨(j), 0, (show _ = _ by omega), ?_⟩; conv => whnf)
                | (refine ⟨(j), 1, (show _ = _ by omega), ?_⟩; conv => whnf)
                | (refine ⟨(j), 2, (show _ = _ by omega), ?_⟩; conv => whnf)
                | (refine ⟨(j), 3, (show _ = _ by omega), ?_⟩; conv => whnf)
                | (refine ⟨(j), 4, (show _ = _ by omega), ?_⟩; conv => whnf)
                | (refine ⟨(j), 5, (show _ = _ by omega), ?_⟩; conv => whnf)
                | (refine ⟨0, (show _ = _ by omega), ?_⟩; conv => whnf))
              intro r w1 h1 w2 h2
              change List Int at w1 w2
              conv => whnf
              repeat (first
                | (refine And.intro ?_ ?_; (focus (first | omega | decide | exact EqOk.mk (by kernel_rfl) (by kernel_rfl) (by kernel_rfl) | exact Int.natCast_nonneg _ | ((repeat' refine And.intro ?_ ?_) <;> first | omega | exact Int.natCast_nonneg _ | (simp only [i64max, u8max, u16max, u32max, u64max]; omega) | (simp only [mulSz_eq, Cont.len, colsLen, Col.len, List.length_cons, List.length_nil, List.length_replicate, List.length_append, tab_len, hu]; first | done | omega) | (simp [mulSz, Cont.len, bne, tab_len, hu]; first | done | omega)))); conv => whnf)
                | (refine tst_in ?_ ?_; (focus (intro h_; exfalso; first | omega | ((try simp only [decide_eq_true_eq, decide_eq_false_iff_not] at h_); omega) | (simp [mulSz, Cont.len, bne, tab_len, hu] at h_; first | done | omega))); intro _; conv => whnf)
                | (refine tst_in ?_ ?_; rotate_left; (focus (intro h_; exfalso; first | omega | ((try simp only [decide_eq_true_eq, decide_eq_false_iff_not] at h_); omega) | (simp [mulSz, Cont.len, bne, tab_len, hu] at h_; first | done | omega))); intro _; conv => whnf)
                | (refine ⟨(j), (show _ = _ by omega), ?_⟩; conv => whnf)
                | (refine ⟨(j), 0, (show _ = _ by omega), ?_⟩; conv => whnf)
                | (refine ⟨(j), 1, (show _ = _ by omega), ?_⟩; conv => whnf)
                | (refine ⟨(j), 2, (show _ = _ by omega), ?_⟩; conv => whnf)
                | (refine ⟨(j), 3, (show _ = _ by omega), ?_⟩; conv => whnf)
                | (refine ⟨(j), 4, (show _ = _ by omega), ?_⟩; conv => whnf)
                | (refine ⟨(j), 5, (show _ = _ by omega), ?_⟩; conv => whnf)
                | (refine ⟨0, (show _ = _ by omega), ?_⟩; conv => whnf))
              refine ⟨[0, 1, 2, 3, 6], ((j + 1, t4, w1, w2) : Nat × List Int × List Int × List Int), ?_, ⟨v, h1.trans h2.symm⟩, (by show t + 3 - (j + 1) < t + 3 - j; omega)⟩
              show stLe _ _ (st6c (b.v : Nat) F b B m t T t4 (j + 1) w1 w2) _
              unfold st6c
              conv => whnf
              repeat' (first | exact True.intro | rfl | refine And.intro ?_ ?_)
              all_goals (conv => whnf)
              repeat' (first | exact True.intro | rfl | refine And.intro ?_ ?_)
              all_goals (try omega)
              · show tb (gi (xG b)) (j + 1) ++ w1 = List.take j (List.drop 0 (tb (gi (xG b)) j ++ u1)) ++ [((xG b j).v : Int)] ++ w1
                rw [take_tb, ← tab_snoc]; rfl
              · show tb (gi fun j => As F (xG b j) m) (j + 1) ++ w2 = List.take j (List.drop 0 (tb (gi fun j => As F (xG b j) m) j ++ u2)) ++ [((As F (xG b j) m).v : Int)] ++ w2
                rw [take_tb, ← tab_snoc]; rfl
            · have v : j = t + 3 := by have := dlt_f v'; omega
              subst v
              have TH := Through_y (xG b) (fun j => As F (xG b j) m) (tb (gi (xG b)) (t + 3) ++ u1) (tb (gi fun j => As F (xG b j) m) (t + 3) ++ u2) (t + 3) (t + 3 + u1.length) (Rd_tl _ _ _) (Rd_tl _ _ _) (by rw [List.length_append, tab_len]) (by rw [List.length_append, tab_len, hu]) (by omega) (by omega) (xG_dis b (by omega))
              unfold thrOut ptsS at TH
              conv => whnf
              repeat (first
                | (refine And.intro ?_ ?_; (focus (first | omega | decide | exact EqOk.mk (by kernel_rfl) (by kernel_rfl) (by kernel_rfl) | exact Int.natCast_nonneg _ | ((repeat' refine And.intro ?_ ?_) <;> first | omega | exact Int.natCast_nonneg _ | (simp only [i64max, u8max, u16max, u32max, u64max]; omega) | (simp only [mulSz_eq, Cont.len, colsLen, Col.len, List.length_cons, List.length_nil, List.length_replicate, List.length_append]; first | done | omega) | (simp [mulSz, Cont.len, bne]; first | done | omega)))); conv => whnf)
                | (refine tst_in ?_ ?_; (focus (intro h_; exfalso; first | omega | ((try simp only [decide_eq_true_eq, decide_eq_false_iff_not] at h_); omega) | (simp [mulSz, Cont.len, bne] at h_; first | done | omega))); intro _; conv => whnf)
                | (refine tst_in ?_ ?_; rotate_left; (focus (intro h_; exfalso; first | omega | ((try simp only [decide_eq_true_eq, decide_eq_false_iff_not] at h_); omega) | (simp [mulSz, Cont.len, bne] at h_; first | done | omega))); intro _; conv => whnf)
                | (refine ⟨0, (show _ = _ by omega), ?_⟩; conv => whnf))
              refine ⟨_, [4], TH, ?_⟩
              conv => whnf
              iterate 2
               refine And.intro ?_ ?_
               focus
                conv => whnf
                repeat' (first | exact True.intro | rfl | refine And.intro ?_ ?_)
                all_goals (conv => whnf)
                repeat' (first | exact True.intro | rfl | refine And.intro ?_ ?_)
                all_goals (try (first | rfl | omega | (simp; first | done | omega)))
              conv => whnf
              refine ⟨?_, True.intro⟩
              rintro (x hx)
              conv => whnf
              have hx : Thr (xG b) (fun j => As F (xG b j) m) (t + 3) x.P x.t := hx
              have hP : x.P = ct F m := Thr_is hx (xG_dis b (by omega)) (zr_mono hpF.1 (by omega)) fun a ha => by rw [As_le (ct F m) (xG b a) hpF.1 (by omega), eAF]
              have hxt : x.t = t := by
                have h1 := hx.pol
                rw [hP] at h1
                exact pol_uniq h1 hpF
              obtain ⟨xi, P, xt, xtl⟩ := x
              have hP : P = ct F m := hP
              have hxt : xt = t := hxt
              subst hxt
              subst hP
              conv => whnf
              repeat (first
                | (refine And.intro ?_ ?_; (focus (first | omega | decide | exact EqOk.mk (by kernel_rfl) (by kernel_rfl) (by kernel_rfl) | exact Int.natCast_nonneg _ | ((repeat' refine And.intro ?_ ?_) <;> first | omega | exact Int.natCast_nonneg _ | (simp only [i64max, u8max, u16max, u32max, u64max]; omega) | (simp only [mulSz_eq, Cont.len, colsLen, Col.len, List.length_cons, List.length_nil, List.length_replicate, List.length_append, tab_len, hu]; first | done | omega) | (simp [mulSz, Cont.len, bne, tab_len, hu]; first | done | omega)))); conv => whnf)
                | (refine tst_in ?_ ?_; (focus (intro h_; exfalso; first | omega | ((try simp only [decide_eq_true_eq, decide_eq_false_iff_not] at h_); omega) | (simp [mulSz, Cont.len, bne, tab_len, hu] at h_; first | done | omega))); intro _; conv => whnf)
                | (refine tst_in ?_ ?_; rotate_left; (focus (intro h_; exfalso; first | omega | ((try simp only [decide_eq_true_eq, decide_eq_false_iff_not] at h_); omega) | (simp [mulSz, Cont.len, bne, tab_len, hu] at h_; first | done | omega))); intro _; conv => whnf)
                | (refine ⟨(0), (show _ = _ by omega), ?_⟩; conv => whnf)
                | (refine ⟨(0), 0, (show _ = _ by omega), ?_⟩; conv => whnf)
                | (refine ⟨(0), 1, (show _ = _ by omega), ?_⟩; conv => whnf)
                | (refine ⟨(0), 2, (show _ = _ by omega), ?_⟩; conv => whnf)
                | (refine ⟨(0), 3, (show _ = _ by omega), ?_⟩; conv => whnf)
                | (refine ⟨(0), 4, (show _ = _ by omega), ?_⟩; conv => whnf)
                | (refine ⟨(0), 5, (show _ = _ by omega), ?_⟩; conv => whnf)
                | (refine ⟨0, (show _ = _ by omega), ?_⟩; conv => whnf))
              intro r w1 h1 w2 h2
              change List Int at w1 w2
              have hXl : ∀ (X : Nat → G) (u w : List Int), Rd (List.take (xt + 3) (List.drop 0 (tb (gi X) (xt + 3) ++ u)) ++ [(tb (gi X) (xt + 3) ++ u).getD 0 0] ++ w) (fun k => if k = xt + 3 then X 0 else X k) (xt + 4) := fun X u w => by
                rw [take_tb, tab_app _ _ _ (by omega)]
                refine ⟨by rw [List.length_append, List.length_append, tab_len]; show xt + 4 ≤ xt + 3 + 1 + w.length; omega, fun i hi => ?_⟩
                rw [g_app, List.length_append, tab_len, if_pos (by show i < xt + 3 + 1; omega), g_app, tab_len]
                show _ = (((if i = xt + 3 then X 0 else X i : G).v : Nat) : Int)
                by_cases e : i = xt + 3
                · rw [if_neg (by omega), if_pos e, g_one, if_pos (by omega)]; rfl
                · rw [if_pos (by omega), if_neg e, g_tab, if_pos (by omega)]; rfl
              have TN := Through_n (fun k => if k = xt + 3 then xG b 0 else xG b k) (fun k => if k = xt + 3 then As F (xG b 0) m else As F (xG b k) m) _ _ (xt + 4) (xt + 4 + r) (hXl (xG b) u1 w1) (hXl (fun j => As F (xG b j) m) u2 w2) (by rw [List.length_append, List.length_append, take_tb, tab_len, h1]; rfl) (by rw [List.length_append, List.length_append, take_tb, tab_len, h2]; rfl) (by omega) (by omega) (.inr fun hd => hd 0 (xt + 3) (by omega) (by omega) (by show (if 0 = xt + 3 then xG b 0 else xG b 0) = (if xt + 3 = xt + 3 then xG b 0 else xG b (xt + 3)); rw [if_pos rfl, if_neg (by omega)]))
              unfold ptsS at TN
              have SQ := same_q (ct F m) (tb (gi (ct F m)) xt ++ xtl) (tb (gi (ct F m)) m) xt (xt + xtl.length) m (Rd_tl _ _ _) (Rd_le (Rd_tb _ _) hdF) (by omega) hdF (by omega)
              conv => whnf
              repeat (first
                | (refine And.intro ?_ ?_; (focus (first | omega | decide | exact EqOk.mk (by kernel_rfl) (by kernel_rfl) (by kernel_rfl) | exact Int.natCast_nonneg _ | ((repeat' refine And.intro ?_ ?_) <;> first | omega | exact Int.natCast_nonneg _ | (simp only [i64max, u8max, u16max, u32max, u64max]; omega) | (simp only [mulSz_eq, Cont.len, colsLen, Col.len, List.length_cons, List.length_nil, List.length_replicate, List.length_append, tab_len, hu]; first | done | omega) | (simp [mulSz, Cont.len, bne, tab_len, hu]; first | done | omega)))); conv => whnf)
                | (refine tst_in ?_ ?_; (focus (intro h_; exfalso; first | omega | ((try simp only [decide_eq_true_eq, decide_eq_false_iff_not] at h_); omega) | (simp [mulSz, Cont.len, bne, tab_len, hu] at h_; first | done | omega))); intro _; conv => whnf)
                | (refine tst_in ?_ ?_; rotate_left; (focus (intro h_; exfalso; first | omega | ((try simp only [decide_eq_true_eq, decide_eq_false_iff_not] at h_); omega) | (simp [mulSz, Cont.len, bne, tab_len, hu] at h_; first | done | omega))); intro _; conv => whnf)
                | (refine ⟨(0), (show _ = _ by omega), ?_⟩; conv => whnf)
                | (refine ⟨(0), 0, (show _ = _ by omega), ?_⟩; conv => whnf)
                | (refine ⟨(0), 1, (show _ = _ by omega), ?_⟩; conv => whnf)
                | (refine ⟨(0), 2, (show _ = _ by omega), ?_⟩; conv => whnf)
                | (refine ⟨(0), 3, (show _ = _ by omega), ?_⟩; conv => whnf)
                | (refine ⟨(0), 4, (show _ = _ by omega), ?_⟩; conv => whnf)
                | (refine ⟨(0), 5, (show _ = _ by omega), ?_⟩; conv => whnf)
                | (refine ⟨0, (show _ = _ by omega), ?_⟩; conv => whnf))
              refine ⟨_, [7], TN, ?_⟩
              conv => whnf
              iterate 2
               refine And.intro ?_ ?_
               focus
                conv => whnf
                repeat' (first | exact True.intro | rfl | refine And.intro ?_ ?_ | omega)
                all_goals (conv => whnf)
                all_goals (try (first | rfl | omega | (simp; done)))
              conv => whnf
              refine ⟨?_, True.intro⟩
              intro _ _
              conv => whnf
              conv => whnf
              repeat (first
                | (refine And.intro ?_ ?_; (focus (first | omega | decide | exact EqOk.mk (by kernel_rfl) (by kernel_rfl) (by kernel_rfl) | exact Int.natCast_nonneg _ | ((repeat' refine And.intro ?_ ?_) <;> first | omega | exact Int.natCast_nonneg _ | (simp only [i64max, u8max, u16max, u32max, u64max]; omega) | (simp only [mulSz_eq, Cont.len, colsLen, Col.len, List.length_cons, List.length_nil, List.length_replicate, List.length_append]; first | done | omega) | (simp [mulSz, Cont.len, bne]; first | done | omega)))); conv => whnf)
                | (refine tst_in ?_ ?_; (focus (intro h_; exfalso; first | omega | ((try simp only [decide_eq_true_eq, decide_eq_false_iff_not] at h_); omega) | (simp [mulSz, Cont.len, bne] at h_; first | done | omega))); intro _; conv => whnf)
                | (refine tst_in ?_ ?_; rotate_left; (focus (intro h_; exfalso; first | omega | ((try simp only [decide_eq_true_eq, decide_eq_false_iff_not] at h_); omega) | (simp [mulSz, Cont.len, bne] at h_; first | done | omega))); intro _; conv => whnf)
                | (refine ⟨0, (show _ = _ by omega), ?_⟩; conv => whnf))
              refine ⟨_, [5, 3], SQ, ?_⟩
              conv => whnf
              iterate 2
               refine And.intro ?_ ?_
               focus
                conv => whnf
                repeat' (first | exact True.intro | rfl | refine And.intro ?_ ?_)
                all_goals (conv => whnf)
                repeat' (first | exact True.intro | rfl | refine And.intro ?_ ?_)
                all_goals (try (first | rfl | omega | (simp; first | done | omega)))
              conv => whnf
              conv => whnf
              repeat (first
                | (refine And.intro ?_ ?_; (focus (first | omega | decide | exact EqOk.mk (by kernel_rfl) (by kernel_rfl) (by kernel_rfl) | exact Int.natCast_nonneg _ | ((repeat' refine And.intro ?_ ?_) <;> first | omega | exact Int.natCast_nonneg _ | (simp only [i64max, u8max, u16max, u32max, u64max]; omega) | (simp only [mulSz_eq, Cont.len, colsLen, Col.len, List.length_cons, List.length_nil, List.length_replicate, List.length_append]; first | done | omega) | (simp [mulSz, Cont.len, bne]; first | done | omega)))); conv => whnf)
                | (refine tst_in ?_ ?_; (focus (intro h_; exfalso; first | omega | ((try simp only [decide_eq_true_eq, decide_eq_false_iff_not] at h_); omega) | (simp [mulSz, Cont.len, bne] at h_; first | done | omega))); intro _; conv => whnf)
                | (refine tst_in ?_ ?_; rotate_left; (focus (intro h_; exfalso; first | omega | ((try simp only [decide_eq_true_eq, decide_eq_false_iff_not] at h_); omega) | (simp [mulSz, Cont.len, bne] at h_; first | done | omega))); intro _; conv => whnf)
                | (refine ⟨0, (show _ = _ by omega), ?_⟩; conv => whnf))
              refine ⟨_, [], awake_f, ?_⟩
              conv => whnf
              iterate 2
               refine And.intro ?_ ?_
               focus
                conv => whnf
                repeat' (first | exact True.intro | rfl | refine And.intro ?_ ?_ | omega)
                all_goals (conv => whnf)
                all_goals (try (first | rfl | omega | (simp; done)))
              conv => whnf
              refine ⟨?_, True.intro⟩
              intro _ _
              conv => whnf
              conv => whnf
              repeat (first
                | (refine And.intro ?_ ?_; (focus (first | omega | decide | exact EqOk.mk (by kernel_rfl) (by kernel_rfl) (by kernel_rfl) | exact Int.natCast_nonneg _ | ((repeat' refine And.intro ?_ ?_) <;> first | omega | exact Int.natCast_nonneg _ | (simp only [i64max, u8max, u16max, u32max, u64max]; omega) | (simp only [mulSz_eq, Cont.len, colsLen, Col.len, List.length_cons, List.length_nil, List.length_replicate, List.length_append]; first | done | omega) | (simp [mulSz, Cont.len, bne]; first | done | omega)))); conv => whnf)
                | (refine tst_in ?_ ?_; (focus (intro h_; exfalso; first | omega | ((try simp only [decide_eq_true_eq, decide_eq_false_iff_not] at h_); omega) | (simp [mulSz, Cont.len, bne] at h_; first | done | omega))); intro _; conv => whnf)
                | (refine tst_in ?_ ?_; rotate_left; (focus (intro h_; exfalso; first | omega | ((try simp only [decide_eq_true_eq, decide_eq_false_iff_not] at h_); omega) | (simp [mulSz, Cont.len, bne] at h_; first | done | omega))); intro _; conv => whnf)
                | (refine ⟨0, (show _ = _ by omega), ?_⟩; conv => whnf))
              refine .inl ⟨(), [0, 1], ?_⟩
              conv => whnf
              repeat' (first | exact True.intro | rfl | refine And.intro ?_ ?_)
              all_goals (conv => whnf)
              repeat' (first | exact True.intro | rfl | refine And.intro ?_ ?_)
              all_goals (try omega)
              all_goals simp
end Go.Proofs.Yteiblfkegnppeaa

set_option linter.unusedVariables false
set_option linter.unusedSimpArgs false
namespace Go.Proofs.Yteiblfkegnppeaa
open Go Go.Fw
def lawSpec6 (n0 c0 : Nat) (g0 : Nat → Int) (n1 c1 : Nat) (g1 : Nat → Int) (x : Int) : FSpec :=
  ⟨[.slice 0 0 n0 c0, .slice 1 0 n1 c1, .int .u8 x], [.seg false (.ints .u8 ((List.range c0).map g0)), .seg false (.ints .u8 ((List.range c1).map g1))], [⟨Unit, fun _ => True, fun _ => .bool true, fun _ => [.dead, .dead]⟩]⟩
theorem law6_m (n0 c0 : Nat) (g0 : Nat → Int) (n1 c1 : Nat) (g1 : Nat → Int) (x : Int) (hn0 : n0 ≤ c0) (hb0 : c0 * 1 ≤ reachBytes) (hw0 : ∀ i, i < c0 → (Lit.int .u8 (g0 i)).wf = true) (hn1 : n1 ≤ c1) (hb1 : c1 * 1 ≤ reachBytes) (hw1 : ∀ i, i < c1 → (Lit.int .u8 (g1 i)).wf = true) (hx : (Lit.int .u8 x).wf = true) : Fits Try.prog 6 (lawSpec6 n0 c0 g0 n1 c1 g1 x) := by
  have h := law6 (fun i => toB (g0 i)) (fun i => toB (g1 i)) (toB x) (tb g0 c0) (tb g1 c1) n0 c0 n1 c1 (Rd_row g0 n0 c0 hn0 hw0) (Rd_row g1 n1 c1 hn1 hw1) hn0 hn1 (by unfold reachBytes at hb0; omega) (by unfold reachBytes at hb1; omega)
  rw [← toB_gi hx] at h
  exact h
end Go.Proofs.Yteiblfkegnppeaa

namespace Go.Proofs.Yteiblfkegnppeaa
open Go Go.Fw
namespace fieldRoots
open Go.ChangeShapes Go.WideShapes Go.ChangeAt Go.RowKit
theorem own : ownKnob Try.prog.godebug = none := by kernel_rfl
theorem laid : laidOutB Try.prog = true := by kernel_rfl

set_option maxRecDepth 100000 in
theorem lifted (os : Os) (started : os.Started) (H : Type) (enc : TypeId × Value → H) :
    ReturnsInHanded {} Try.checked os 6 .any (Rows.fieldRootsSpec.pre6 enc Try.prog Try.f6 Rows.fieldRootsRow.domain false) (Rows.fieldRootsSpec.post enc Try.prog Try.f6 false true false false) := by
  refine returnsInHanded_of_change_sized (C := Try.checked) own started (by kernel_rfl) Try.func6
    (ChangeSpec.witness6 (enc := enc) (C := Try.checked) false ⟨#[], #[.slice none 0 0, .slice none 0 0, .int .u8 0], []⟩ 8 (by kernel_rfl) (by kernel_rfl) (by kernel_rfl) (by kernel_rfl)) ?_
  intro W base args ds gs before hval0 hW _ hsz0 _
  have hsz : (DataW.weightsEach Try.prog (Try.f6.params.toList ++ Rows.fieldRootsSpec.plain.varTypes Try.prog) (ds ++ gs)).all (· ≤ reachBytes) = true := hsz0
  clear hsz0
  have hval : ∀ (j : Nat) t v, Try.f6.params[j]? = some t → args[j]? = some v → Value.okWide Try.prog W .any base t v := hval0
  have hW' := hW
  obtain ⟨p, q, hA0, hV, rfl, hfz, hnd⟩ := hW
  have hA : DataW.TrodAll enc Try.prog W 0 (fun _ => true) true Try.f6.params.toList args.toList ds p := hA0
  rw [Try.params6] at hA hval hsz
  obtain ⟨v0, vs0, d0, ds0, p0, q0, hargs, rfl, rfl, h0, r0⟩ := trodAll_cons hA
  obtain ⟨v1, vs1, d1, ds1, p1, q1, rfl, rfl, rfl, h1, r1⟩ := trodAll_cons r0
  obtain ⟨v2, vs2, d2, ds2, p2, q2, rfl, rfl, rfl, h2, r2⟩ := trodAll_cons r1
  obtain ⟨rfl, rfl, rfl⟩ := trodAll_nil r2
  obtain rfl : args = #[v0, v1, v2] := by cases args; simp_all
  obtain ⟨rfl, rfl⟩ := trodVars_none hV
  obtain ⟨a0, la0, z0, hv0⟩ := okWide_slice Try.underlying35 (hval 0 35 v0 rfl rfl)
  obtain ⟨c0c0, t0_0, e0_0, l0_0, e0_1⟩ : LeafsAre W [.row 1 [.int .u8]] v0.cells.toList := arg_open 12 (by kernel_rfl) h0 (fine_of (j := 0) hsz rfl rfl)
  subst e0_1
  obtain rfl : v0 = c0c0 := by subst hv0; simpa [Value.cells] using e0_0
  obtain ⟨n0_0, c0_0, g0_0, pl0_0, hn0_0, hb0_0, hw0_0, hc0_0⟩ := row_nums l0_0
  obtain ⟨a1, la1, z1, hv1⟩ := okWide_slice Try.underlying35 (hval 1 35 v1 rfl rfl)
  obtain ⟨c1c0, t1_0, e1_0, l1_0, e1_1⟩ : LeafsAre W [.row 1 [.int .u8]] v1.cells.toList := arg_open 12 (by kernel_rfl) h1 (fine_of (j := 1) hsz rfl rfl)
  subst e1_1
  obtain rfl : v1 = c1c0 := by subst hv1; simpa [Value.cells] using e1_0
  obtain ⟨n1_0, c1_0, g1_0, pl1_0, hn1_0, hb1_0, hw1_0, hc1_0⟩ := row_nums l1_0
  obtain ⟨x2_0, rfl, rfl, rfl, w2_0⟩ := open_int Try.underlying5 (hval 2 5 v2 rfl rfl) h2
  clear hA0 hval0
  obtain ⟨dd0_0, cc0_0⟩ := hc0_0 [pl0_0, pl1_0] 0 (by simp) rfl
  obtain ⟨dd1_0, cc1_0⟩ := hc1_0 [pl0_0, pl1_0] 1 (by simp) rfl
  have walk := (law6_m n0_0 c0_0 g0_0 n1_0 c1_0 g1_0 x2_0 hn0_0 hb0_0 hw0_0 hn1_0 hb1_0 hw1_0 w2_0).calls W [pl0_0, pl1_0] [v0, v1, .int .u8 x2_0] (heap_args rfl fun i s hs => by
      match i, hs with
      | 0, hs => simp only [lawSpec6, List.getElem?_cons_zero, Option.some.injEq] at hs; subst hs; exact ⟨_, rfl, cc0_0⟩
      | 1, hs => simp only [lawSpec6, List.getElem?_cons_succ, List.getElem?_cons_zero, Option.some.injEq] at hs; subst hs; exact ⟨_, rfl, cc1_0⟩
      | i + 2, hs => simp [lawSpec6] at hs) (by simp only [lawSpec6, Dens]; exact ⟨_, _, rfl, dd0_0, ⟨_, _, rfl, dd1_0, ⟨_, _, rfl, by simp [Den], rfl⟩⟩⟩) (x := .bool true) (v := .bool true) rfl (by
      intro o ho y hy
      simp [lawSpec6] at ho
      subst ho; rfl)
  refine walk.mono fun e W' ⟨he, hg⟩ => ?_
  subst he
  exact ⟨_, rfl, law_done laid rfl rfl Try.underlying4 (by kernel_rfl) hW' rfl hg⟩

theorem over : Rows.fieldRootsRow.holds Try.pinned (OpenSpec.ofChange Rows.fieldRootsSpec) :=
  OpenClaim.holds_of_wide 6 Try.f6 rfl rfl rfl rfl rfl rfl rfl ⟨rfl, rfl, rfl, rfl, rfl⟩ rfl rfl rfl rfl rfl (by kernel_rfl) Try.func6 (by kernel_rfl)
    (of_decide_eq_true (by kernel_rfl)) (by unfold Func.isWrapper; first | (rw [if_pos (by decide +kernel)]; kernel_rfl) | (rw [if_neg (by decide +kernel)]; exact ⟨rfl, rfl⟩))
    (fun os started H enc _ => lifted os started H enc)

theorem proved : Rows.FieldRootsSaid := over
end fieldRoots
end Go.Proofs.Yteiblfkegnppeaa
