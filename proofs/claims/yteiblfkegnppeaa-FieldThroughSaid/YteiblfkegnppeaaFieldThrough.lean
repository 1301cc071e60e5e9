/-
  For every row of points the statement FieldThrough of stage 18 returns true: the polynomial that goes through points is the one of the reference (a point that stands twice, or too many, is refused alike), and the points stay.
-/
import Derived.Test.YteiblfkegnppeaaRows
import Derived.Test.YteiblfkegnppeaaFv
import Derived.Test.YteiblfkegnppeaaFieldThroughP1
import Derived.Test.YteiblfkegnppeaaFa
import Derived.WalkKit
import Derived.ProofKit
import Derived.OpenShut
import Derived.SizedLaws
import Derived.ChangeMaps5
set_option linter.unusedSimpArgs false
set_option linter.unusedVariables false
set_option linter.unusedVariables false
set_option linter.unusedSimpArgs false
namespace Go.Proofs.Yteiblfkegnppeaa
open Go Go.Fw
theorem sumS_succ (F H : Nat → G) (n i k : Nat) : sumS F H n (i + 1) k = if k = i then sumS F H n i i + H i else sumS F H n i k := by
  unfold sumS pa
  rw [ct_succ]
  by_cases h : k = i
  · subst h; rw [if_pos rfl]; show ct F n k + (ct H k k + H k * sh k (fun i => if i = 0 then g1 else g0) k) = _
    rw [sh_in _ (Nat.le_refl _), if_pos (by omega), m_one, a_assoc]
  · rw [if_neg h]; show ct F n k + (ct H i k + H i * sh i (fun i => if i = 0 then g1 else g0) k) = _
    rw [show sh i (fun i => if i = 0 then g1 else g0) k = g0 by (unfold sh; split; exact if_neg (by omega); rfl), m_zero, a_zero]
noncomputable def k59 : Code := (Try.f59.body).getD .skip
noncomputable def st59 (A : List Int) (n c j : Nat) : St := ⟨slotsAt 23 [(0, .slice 0 0 n c), (3, .int .i64 j)], [.seg false (.ints .u8 A)]⟩
noncomputable def trOut (P : Nat → G) (t : Nat) : FOut := ⟨List Int, fun _ => True, fun tl => .slice 1 0 t (t + tl.length), fun tl => [.dead, .seg true (.ints .u8 (tb (gi P) t ++ tl))]⟩
set_option maxHeartbeats 0 in
set_option maxRecDepth 100000 in
theorem Trim_f (F : Nat → G) (A : List Int) (n c : Nat) (hA : Rd A F n) (hc : n ≤ c) (hn : n ≤ 140737488355328) : Fits Try.prog 59 ⟨[.slice 0 0 n c], [.seg false (.ints .u8 A)], [trOut F (dg F n)]⟩ := by
  unfold trOut
  refine fits_of_body (C := cfgk 1) (c := k59) (ts := [2]) tokL mixedL (fun | 2 => some ⟨Nat, fun j => st59 A n c j, fun j => j ≤ n ∧ dg F j = dg F n, fun j => j⟩ | _ => none) (fun _ => none)
    Try.func59 (by kernel_rfl) (by kernel_rfl) (by kernel_rfl) (by kernel_rfl) rfl ?_
  obtain ⟨hl, hg⟩ := hA
  have done : ∀ t : Nat, t ≤ n → List.take t A = tb (gi F) t := fun t ht => tab_ext 0 (by rw [List.length_take]; omega) fun i hi => by rw [g_take, if_pos hi]; exact hg i (by omega)
  have hdle := dg_le F n
  conv => whnf
  repeat (first
    | (refine And.intro ?_ ?_; (focus (first | omega | decide | exact EqOk.mk (by kernel_rfl) (by kernel_rfl) (by kernel_rfl) | exact Int.natCast_nonneg _ | ((repeat' refine And.intro ?_ ?_) <;> first | omega | exact Int.natCast_nonneg _ | (simp only [i64max, u8max, u16max, u32max, u64max]; omega) | (simp only [mulSz_eq, Cont.len, colsLen, Col.len, List.length_cons, List.length_nil, List.length_replicate, List.length_append]; first | done | omega) | (simp [mulSz, Cont.len, bne]; first | done | omega)))); conv => whnf)
    | (refine tst_in ?_ ?_; (focus (intro h_; exfalso; first | omega | ((try simp only [decide_eq_true_eq, decide_eq_false_iff_not] at h_); omega) | (simp [mulSz, Cont.len, bne] at h_; first | done | omega))); intro _; conv => whnf)
    | (refine tst_in ?_ ?_; rotate_left; (focus (intro h_; exfalso; first | omega | ((try simp only [decide_eq_true_eq, decide_eq_false_iff_not] at h_); omega) | (simp [mulSz, Cont.len, bne] at h_; first | done | omega))); intro _; conv => whnf)
    | (refine ⟨0, (show _ = _ by omega), ?_⟩; conv => whnf))
  refine ⟨⟨[0], (n : Nat), ?_, Nat.le_refl _, rfl⟩, ?_⟩
  · show stLe _ _ (st59 A n c n) _
    conv => whnf
    repeat' (first | exact True.intro | rfl | refine And.intro ?_ ?_)
    all_goals (conv => whnf)
    repeat' (first | exact True.intro | rfl | refine And.intro ?_ ?_)
    all_goals (try omega)
  · intro (j : Nat) hj
    obtain ⟨hj, e⟩ := hj
    show forceSt (st59 A n c j) _
    conv => whnf
    repeat (first
      | (refine And.intro ?_ ?_; (focus (first | omega | decide | exact EqOk.mk (by kernel_rfl) (by kernel_rfl) (by kernel_rfl) | exact Int.natCast_nonneg _ | ((repeat' refine And.intro ?_ ?_) <;> first | omega | exact Int.natCast_nonneg _ | (simp only [i64max, u8max, u16max, u32max, u64max]; omega) | (simp only [mulSz_eq, Cont.len, colsLen, Col.len, List.length_cons, List.length_nil, List.length_replicate, List.length_append]; first | done | omega) | (simp [mulSz, Cont.len, bne]; first | done | omega)))); conv => whnf)
      | (refine tst_in ?_ ?_; (focus (intro h_; exfalso; first | omega | ((try simp only [decide_eq_true_eq, decide_eq_false_iff_not] at h_); omega) | (simp [mulSz, Cont.len, bne] at h_; first | done | omega))); intro _; conv => whnf)
      | (refine tst_in ?_ ?_; rotate_left; (focus (intro h_; exfalso; first | omega | ((try simp only [decide_eq_true_eq, decide_eq_false_iff_not] at h_); omega) | (simp [mulSz, Cont.len, bne] at h_; first | done | omega))); intro _; conv => whnf)
      | (refine ⟨0, (show _ = _ by omega), ?_⟩; conv => whnf))
    refine tst_in (fun h => ?_) (fun h' => ?_)
    · have h : 0 < j := by have := dlt_t h; omega
      obtain ⟨i, rfl⟩ : ∃ i, j = i + 1 := ⟨j - 1, by omega⟩
      have hi := gi_in F i
      have h0 := gi_zero F i
      have hgi := hg i (by omega)
      conv => whnf
      repeat (first
        | (refine And.intro ?_ ?_; (focus (first | omega | decide | exact EqOk.mk (by kernel_rfl) (by kernel_rfl) (by kernel_rfl) | exact Int.natCast_nonneg _ | ((repeat' refine And.intro ?_ ?_) <;> first | omega | exact Int.natCast_nonneg _ | (simp only [i64max, u8max, u16max, u32max, u64max]; omega) | (simp only [mulSz_eq, Cont.len, colsLen, Col.len, List.length_cons, List.length_nil, List.length_replicate, List.length_append]; first | done | omega) | (simp [mulSz, Cont.len, bne]; first | done | omega)))); conv => whnf)
        | (refine tst_in ?_ ?_; (focus (intro h_; exfalso; first | omega | ((try simp only [decide_eq_true_eq, decide_eq_false_iff_not] at h_); omega) | (simp [mulSz, Cont.len, bne] at h_; first | done | omega))); intro _; conv => whnf)
        | (refine tst_in ?_ ?_; rotate_left; (focus (intro h_; exfalso; first | omega | ((try simp only [decide_eq_true_eq, decide_eq_false_iff_not] at h_); omega) | (simp [mulSz, Cont.len, bne] at h_; first | done | omega))); intro _; conv => whnf)
        | (refine ⟨0, (show _ = _ by omega), ?_⟩; conv => whnf))
      refine tst_in (fun q => ?_) (fun q' => ?_)
      · have q : gi F i = 0 := by rw [← hgi]; simpa using q
        conv => whnf
        repeat (first
          | (refine And.intro ?_ ?_; (focus (first | omega | decide | exact EqOk.mk (by kernel_rfl) (by kernel_rfl) (by kernel_rfl) | exact Int.natCast_nonneg _ | ((repeat' refine And.intro ?_ ?_) <;> first | omega | exact Int.natCast_nonneg _ | (simp only [i64max, u8max, u16max, u32max, u64max]; omega) | (simp only [mulSz_eq, Cont.len, colsLen, Col.len, List.length_cons, List.length_nil, List.length_replicate, List.length_append]; first | done | omega) | (simp [mulSz, Cont.len, bne]; first | done | omega)))); conv => whnf)
          | (refine tst_in ?_ ?_; (focus (intro h_; exfalso; first | omega | ((try simp only [decide_eq_true_eq, decide_eq_false_iff_not] at h_); omega) | (simp [mulSz, Cont.len, bne] at h_; first | done | omega))); intro _; conv => whnf)
          | (refine tst_in ?_ ?_; rotate_left; (focus (intro h_; exfalso; first | omega | ((try simp only [decide_eq_true_eq, decide_eq_false_iff_not] at h_); omega) | (simp [mulSz, Cont.len, bne] at h_; first | done | omega))); intro _; conv => whnf)
          | (refine ⟨0, (show _ = _ by omega), ?_⟩; conv => whnf))
        refine ⟨[0], (i : Nat), ?_, ⟨by omega, ?_⟩, Nat.lt_succ_self i⟩
        · show stLe _ _ (st59 A n c i) _
          conv => whnf
          repeat' (first | exact True.intro | rfl | refine And.intro ?_ ?_)
          all_goals (conv => whnf)
          repeat' (first | exact True.intro | rfl | refine And.intro ?_ ?_)
          all_goals (try omega)
        · rw [← e]
          show dg F i = if (F i).v = 0 then dg F i else i + 1
          rw [if_pos (by rw [h0.1 q]; rfl)]
      · have q : gi F i ≠ 0 := by rw [← hgi]; simpa using q'
        have e2 : dg F n = i + 1 := by
          rw [← e]
          show (if (F i).v = 0 then dg F i else i + 1) = i + 1
          rw [if_neg (fun z : (F i).v = 0 => q (h0.2 (G.ext z)))]
        rw [e2]
        have d1 := done (i + 1) (by omega)
        conv => whnf
        repeat (first
          | (refine And.intro ?_ ?_; (focus (first | omega | decide | exact EqOk.mk (by kernel_rfl) (by kernel_rfl) (by kernel_rfl) | exact Int.natCast_nonneg _ | ((repeat' refine And.intro ?_ ?_) <;> first | omega | exact Int.natCast_nonneg _ | (simp only [i64max, u8max, u16max, u32max, u64max]; omega) | (simp only [mulSz_eq, Cont.len, colsLen, Col.len, List.length_cons, List.length_nil, List.length_replicate, List.length_append]; first | done | omega) | (simp [mulSz, Cont.len, bne]; first | done | omega)))); conv => whnf)
          | (refine tst_in ?_ ?_; (focus (intro h_; exfalso; first | omega | ((try simp only [decide_eq_true_eq, decide_eq_false_iff_not] at h_); omega) | (simp [mulSz, Cont.len, bne] at h_; first | done | omega))); intro _; conv => whnf)
          | (refine tst_in ?_ ?_; rotate_left; (focus (intro h_; exfalso; first | omega | ((try simp only [decide_eq_true_eq, decide_eq_false_iff_not] at h_); omega) | (simp [mulSz, Cont.len, bne] at h_; first | done | omega))); intro _; conv => whnf)
          | (refine ⟨0, (show _ = _ by omega), ?_⟩; conv => whnf))
        intro tl
        change List Int at tl
        rw [show (((i + 1 : Nat) : Int)).toNat = i + 1 by omega]
        conv => whnf
        repeat (first
          | (refine And.intro ?_ ?_; (focus (first | omega | decide | exact EqOk.mk (by kernel_rfl) (by kernel_rfl) (by kernel_rfl) | exact Int.natCast_nonneg _ | ((repeat' refine And.intro ?_ ?_) <;> first | omega | exact Int.natCast_nonneg _ | (simp only [i64max, u8max, u16max, u32max, u64max]; omega) | (simp only [mulSz_eq, Cont.len, colsLen, Col.len, List.length_cons, List.length_nil, List.length_replicate, List.length_append]; first | done | omega) | (simp [mulSz, Cont.len, bne]; first | done | omega)))); conv => whnf)
          | (refine tst_in ?_ ?_; (focus (intro h_; exfalso; first | omega | ((try simp only [decide_eq_true_eq, decide_eq_false_iff_not] at h_); omega) | (simp [mulSz, Cont.len, bne] at h_; first | done | omega))); intro _; conv => whnf)
          | (refine tst_in ?_ ?_; rotate_left; (focus (intro h_; exfalso; first | omega | ((try simp only [decide_eq_true_eq, decide_eq_false_iff_not] at h_); omega) | (simp [mulSz, Cont.len, bne] at h_; first | done | omega))); intro _; conv => whnf)
          | (refine ⟨0, (show _ = _ by omega), ?_⟩; conv => whnf))
        refine .inl ⟨tl, [0, 2], ?_⟩
        conv => whnf
        repeat' (first | exact True.intro | rfl | refine And.intro ?_ ?_)
        all_goals (conv => whnf)
        repeat' (first | exact True.intro | rfl | refine And.intro ?_ ?_)
        all_goals (try omega)
        show tb (gi F) (i + 1) ++ tl = [] ++ List.take (i + 1) (List.drop 0 A) ++ tl
        rw [List.nil_append, List.drop_zero, d1]
    · have h : j = 0 := by have := dlt_f h'; omega
      subst h
      rw [← e, show dg F 0 = 0 from rfl]
      conv => whnf
      repeat (first
        | (refine And.intro ?_ ?_; (focus (first | omega | decide | exact EqOk.mk (by kernel_rfl) (by kernel_rfl) (by kernel_rfl) | exact Int.natCast_nonneg _ | ((repeat' refine And.intro ?_ ?_) <;> first | omega | exact Int.natCast_nonneg _ | (simp only [i64max, u8max, u16max, u32max, u64max]; omega) | (simp only [mulSz_eq, Cont.len, colsLen, Col.len, List.length_cons, List.length_nil, List.length_replicate, List.length_append]; first | done | omega) | (simp [mulSz, Cont.len, bne]; first | done | omega)))); conv => whnf)
        | (refine tst_in ?_ ?_; (focus (intro h_; exfalso; first | omega | ((try simp only [decide_eq_true_eq, decide_eq_false_iff_not] at h_); omega) | (simp [mulSz, Cont.len, bne] at h_; first | done | omega))); intro _; conv => whnf)
        | (refine tst_in ?_ ?_; rotate_left; (focus (intro h_; exfalso; first | omega | ((try simp only [decide_eq_true_eq, decide_eq_false_iff_not] at h_); omega) | (simp [mulSz, Cont.len, bne] at h_; first | done | omega))); intro _; conv => whnf)
        | (refine ⟨0, (show _ = _ by omega), ?_⟩; conv => whnf))
      intro tl
      change List Int at tl
      conv => whnf
      repeat (first
        | (refine And.intro ?_ ?_; (focus (first | omega | decide | exact EqOk.mk (by kernel_rfl) (by kernel_rfl) (by kernel_rfl) | exact Int.natCast_nonneg _ | ((repeat' refine And.intro ?_ ?_) <;> first | omega | exact Int.natCast_nonneg _ | (simp only [i64max, u8max, u16max, u32max, u64max]; omega) | (simp only [mulSz_eq, Cont.len, colsLen, Col.len, List.length_cons, List.length_nil, List.length_replicate, List.length_append]; first | done | omega) | (simp [mulSz, Cont.len, bne]; first | done | omega)))); conv => whnf)
        | (refine tst_in ?_ ?_; (focus (intro h_; exfalso; first | omega | ((try simp only [decide_eq_true_eq, decide_eq_false_iff_not] at h_); omega) | (simp [mulSz, Cont.len, bne] at h_; first | done | omega))); intro _; conv => whnf)
        | (refine tst_in ?_ ?_; rotate_left; (focus (intro h_; exfalso; first | omega | ((try simp only [decide_eq_true_eq, decide_eq_false_iff_not] at h_); omega) | (simp [mulSz, Cont.len, bne] at h_; first | done | omega))); intro _; conv => whnf)
        | (refine ⟨0, (show _ = _ by omega), ?_⟩; conv => whnf))
      refine .inl ⟨tl, [0, 2], ?_⟩
      conv => whnf
      repeat' (first | exact True.intro | rfl | refine And.intro ?_ ?_)
      all_goals (conv => whnf)
      repeat' (first | exact True.intro | rfl | refine And.intro ?_ ?_)
      all_goals (try omega)
noncomputable def k62 : Code := (Try.f62.body).getD .skip
set_option maxHeartbeats 0 in
set_option maxRecDepth 100000 in
theorem may_q (n c m d : Nat) (hn : n ≤ 9223372036854775807) (hm : m ≤ 9223372036854775807) : QFits Try.prog 62 ⟨[.slice 0 0 n c, .slice 1 0 m d], [.dead, .dead], .bool (decide (¬ (512 < n ∨ 512 < m)))⟩ := by
  refine qfits_of_body (C := cfgk 2) (c := k62) (ts := [4]) tokL mixedL (fun _ => none) (fun _ => none)
    Try.func62 (by kernel_rfl) (by kernel_rfl) (by kernel_rfl) (by kernel_rfl) (by kernel_rfl) rfl rfl ?_
  by_cases hb : 512 < n ∨ 512 < m
  · rw [decide_eq_false (by omega : ¬ ¬ (512 < n ∨ 512 < m))]
    rcases Nat.lt_or_ge 512 n with h | h
    · conv => whnf
      repeat (first
        | (refine And.intro ?_ ?_; (focus (first | omega | decide | exact EqOk.mk (by kernel_rfl) (by kernel_rfl) (by kernel_rfl) | exact Int.natCast_nonneg _ | ((repeat' refine And.intro ?_ ?_) <;> first | omega | exact Int.natCast_nonneg _ | (simp only [i64max, u8max, u16max, u32max, u64max]; omega) | (simp only [mulSz_eq, Cont.len, colsLen, Col.len, List.length_cons, List.length_nil, List.length_replicate, List.length_append]; first | done | omega) | (simp [mulSz, Cont.len, bne]; first | done | omega)))); conv => whnf)
        | (refine tst_in ?_ ?_; (focus (intro h_; exfalso; first | omega | ((try simp only [decide_eq_true_eq, decide_eq_false_iff_not] at h_); omega) | (simp [mulSz, Cont.len, bne] at h_; first | done | omega))); intro _; conv => whnf)
        | (refine tst_in ?_ ?_; rotate_left; (focus (intro h_; exfalso; first | omega | ((try simp only [decide_eq_true_eq, decide_eq_false_iff_not] at h_); omega) | (simp [mulSz, Cont.len, bne] at h_; first | done | omega))); intro _; conv => whnf)
        | (refine ⟨0, (show _ = _ by omega), ?_⟩; conv => whnf))
    · have h2 : 512 < m := by omega
      conv => whnf
      repeat (first
        | (refine And.intro ?_ ?_; (focus (first | omega | decide | exact EqOk.mk (by kernel_rfl) (by kernel_rfl) (by kernel_rfl) | exact Int.natCast_nonneg _ | ((repeat' refine And.intro ?_ ?_) <;> first | omega | exact Int.natCast_nonneg _ | (simp only [i64max, u8max, u16max, u32max, u64max]; omega) | (simp only [mulSz_eq, Cont.len, colsLen, Col.len, List.length_cons, List.length_nil, List.length_replicate, List.length_append]; first | done | omega) | (simp [mulSz, Cont.len, bne]; first | done | omega)))); conv => whnf)
        | (refine tst_in ?_ ?_; (focus (intro h_; exfalso; first | omega | ((try simp only [decide_eq_true_eq, decide_eq_false_iff_not] at h_); omega) | (simp [mulSz, Cont.len, bne] at h_; first | done | omega))); intro _; conv => whnf)
        | (refine tst_in ?_ ?_; rotate_left; (focus (intro h_; exfalso; first | omega | ((try simp only [decide_eq_true_eq, decide_eq_false_iff_not] at h_); omega) | (simp [mulSz, Cont.len, bne] at h_; first | done | omega))); intro _; conv => whnf)
        | (refine ⟨0, (show _ = _ by omega), ?_⟩; conv => whnf))
      rw [dLe_eq]
      exact (decide_eq_false (by omega)).symm
  · rw [decide_eq_true hb]
    conv => whnf
    repeat (first
      | (refine And.intro ?_ ?_; (focus (first | omega | decide | exact EqOk.mk (by kernel_rfl) (by kernel_rfl) (by kernel_rfl) | exact Int.natCast_nonneg _ | ((repeat' refine And.intro ?_ ?_) <;> first | omega | exact Int.natCast_nonneg _ | (simp only [i64max, u8max, u16max, u32max, u64max]; omega) | (simp only [mulSz_eq, Cont.len, colsLen, Col.len, List.length_cons, List.length_nil, List.length_replicate, List.length_append]; first | done | omega) | (simp [mulSz, Cont.len, bne]; first | done | omega)))); conv => whnf)
      | (refine tst_in ?_ ?_; (focus (intro h_; exfalso; first | omega | ((try simp only [decide_eq_true_eq, decide_eq_false_iff_not] at h_); omega) | (simp [mulSz, Cont.len, bne] at h_; first | done | omega))); intro _; conv => whnf)
      | (refine tst_in ?_ ?_; rotate_left; (focus (intro h_; exfalso; first | omega | ((try simp only [decide_eq_true_eq, decide_eq_false_iff_not] at h_); omega) | (simp [mulSz, Cont.len, bne] at h_; first | done | omega))); intro _; conv => whnf)
      | (refine ⟨0, (show _ = _ by omega), ?_⟩; conv => whnf))
    rw [dLe_eq]
    exact (decide_eq_true (by omega)).symm
noncomputable def k48 : Code := (Try.f48.body).getD .skip
noncomputable def polOutT (P : Nat → G) (l : Nat) (E : Int) : FOut := ⟨List Int, fun _ => True, fun tl => .tup [.slice 2 0 l (l + tl.length), .int .i64 E], fun tl => [.dead, .dead, .seg true (.ints .u8 (tb (gi P) l ++ tl))]⟩
noncomputable def st48 (F H : Nat → G) (A B : List Int) (n c m d N i : Nat) : St := ⟨slotsAt 52 [(0, .slice 0 0 n c), (1, .slice 1 0 m d), (6, .slice 2 0 N N), (7, .int .i64 i)], [.seg false (.ints .u8 A), .seg false (.ints .u8 B), .seg true (.ints .u8 (tb (gi (ct F i)) N))]⟩
noncomputable def st48b (F H : Nat → G) (A B : List Int) (n c m d N i : Nat) : St := ⟨slotsAt 52 [(0, .slice 0 0 n c), (1, .slice 1 0 m d), (6, .slice 2 0 N N), (8, .int .i64 i)], [.seg false (.ints .u8 A), .seg false (.ints .u8 B), .seg true (.ints .u8 (tb (gi (sumS F H n i)) N))]⟩
set_option maxHeartbeats 0 in
set_option maxRecDepth 100000 in
theorem refSum_g (F H : Nat → G) (A B : List Int) (n c m d : Nat) (hA : Rd A F n) (hB : Rd B H m) (hc : n ≤ c) (hd : m ≤ d) (hn : n ≤ 9223372036854775807) (hm : m ≤ 9223372036854775807) :
    Fits Try.prog 48 ⟨[.slice 0 0 n c, .slice 1 0 m d], [.seg false (.ints .u8 A), .seg false (.ints .u8 B)],
      [polOutT (sumS F H n m) (dg (sumS F H n m) (okN n m (max n m))) (okE n m)]⟩ := by
  have TL := may_q n c m d hn hm
  unfold polOutT
  refine fits_of_body (C := cfgk 2) (c := k48) (ts := [4, 5]) tokL mixedL (fun | 5 => some ⟨Nat, fun i => st48 F H A B n c m d (max n m) i, fun i => i ≤ n, fun i => n - i⟩ | 9 => some ⟨Nat, fun i => st48b F H A B n c m d (max n m) i, fun i => i ≤ m, fun i => m - i⟩ | _ => none) (fun _ => none)
    Try.func48 (by kernel_rfl) (by kernel_rfl) (by kernel_rfl) (by kernel_rfl) rfl ?_
  conv => whnf
  repeat (first
    | (refine And.intro ?_ ?_; (focus (first | omega | decide | exact EqOk.mk (by kernel_rfl) (by kernel_rfl) (by kernel_rfl) | exact Int.natCast_nonneg _ | ((repeat' refine And.intro ?_ ?_) <;> first | omega | exact Int.natCast_nonneg _ | (simp only [i64max, u8max, u16max, u32max, u64max]; omega) | (simp only [mulSz_eq, Cont.len, colsLen, Col.len, List.length_cons, List.length_nil, List.length_replicate, List.length_append]; first | done | omega) | (simp [mulSz, Cont.len, bne]; first | done | omega)))); conv => whnf)
    | (refine tst_in ?_ ?_; (focus (intro h_; exfalso; first | omega | ((try simp only [decide_eq_true_eq, decide_eq_false_iff_not] at h_); omega) | (simp [mulSz, Cont.len, bne] at h_; first | done | omega))); intro _; conv => whnf)
    | (refine tst_in ?_ ?_; rotate_left; (focus (intro h_; exfalso; first | omega | ((try simp only [decide_eq_true_eq, decide_eq_false_iff_not] at h_); omega) | (simp [mulSz, Cont.len, bne] at h_; first | done | omega))); intro _; conv => whnf)
    | (refine ⟨0, (show _ = _ by omega), ?_⟩; conv => whnf))
  refine ⟨_, [0, 1], TL, ?_⟩
  conv => whnf
  iterate 2
   refine And.intro ?_ ?_
   focus
    conv => whnf
    repeat' (first | exact True.intro | rfl | refine And.intro ?_ ?_)
    all_goals (conv => whnf)
    repeat' (first | exact True.intro | rfl | refine And.intro ?_ ?_)
    all_goals (try (first | rfl | omega | (simp; first | done | omega)))
  conv => whnf
  by_cases hb : 512 < n ∨ 512 < m
  · rw [decide_eq_false (by omega : ¬ ¬ (512 < n ∨ 512 < m)), okN_n _ hb, okE_n hb]
    conv => whnf
    repeat (first
      | (refine And.intro ?_ ?_; (focus (first | omega | decide | exact EqOk.mk (by kernel_rfl) (by kernel_rfl) (by kernel_rfl) | exact Int.natCast_nonneg _ | ((repeat' refine And.intro ?_ ?_) <;> first | omega | exact Int.natCast_nonneg _ | (simp only [i64max, u8max, u16max, u32max, u64max]; omega) | (simp only [mulSz_eq, Cont.len, colsLen, Col.len, List.length_cons, List.length_nil, List.length_replicate, List.length_append]; first | done | omega) | (simp [mulSz, Cont.len, bne]; first | done | omega)))); conv => whnf)
      | (refine tst_in ?_ ?_; (focus (intro h_; exfalso; first | omega | ((try simp only [decide_eq_true_eq, decide_eq_false_iff_not] at h_); omega) | (simp [mulSz, Cont.len, bne] at h_; first | done | omega))); intro _; conv => whnf)
      | (refine tst_in ?_ ?_; rotate_left; (focus (intro h_; exfalso; first | omega | ((try simp only [decide_eq_true_eq, decide_eq_false_iff_not] at h_); omega) | (simp [mulSz, Cont.len, bne] at h_; first | done | omega))); intro _; conv => whnf)
      | (refine ⟨0, (show _ = _ by omega), ?_⟩; conv => whnf))
    refine .inl ⟨[], [0, 1, 9], ?_⟩
    conv => whnf
    repeat' (first | exact True.intro | rfl | refine And.intro ?_ ?_)
    all_goals (conv => whnf)
    repeat' (first | exact True.intro | rfl | refine And.intro ?_ ?_)
    all_goals (try omega)
  · rw [decide_eq_true hb, okN_y _ (by omega) (by omega), okE_y (by omega) (by omega)]
    obtain ⟨N, hN⟩ : ∃ N, N = max n m := ⟨_, rfl⟩
    have TR := Trim_f (sumS F H n m) (tb (gi (sumS F H n m)) N) N N (Rd_tb _ _) (Nat.le_refl _) (by omega)
    obtain ⟨hl, hg⟩ := hA
    obtain ⟨hl2, hg2⟩ := hB
    unfold trOut at TR
    rw [← hN]
    conv => whnf
    repeat (first
      | (refine And.intro ?_ ?_; (focus (first | omega | decide | exact EqOk.mk (by kernel_rfl) (by kernel_rfl) (by kernel_rfl) | exact Int.natCast_nonneg _ | ((repeat' refine And.intro ?_ ?_) <;> first | omega | exact Int.natCast_nonneg _ | (simp only [i64max, u8max, u16max, u32max, u64max]; omega) | (simp only [mulSz_eq, Cont.len, colsLen, Col.len, List.length_cons, List.length_nil, List.length_replicate, List.length_append]; first | done | omega) | (simp [mulSz, Cont.len, bne]; first | done | omega)))); conv => whnf)
      | (refine tst_in ?_ ?_; (focus (intro h_; exfalso; first | omega | ((try simp only [decide_eq_true_eq, decide_eq_false_iff_not] at h_); omega) | (simp [mulSz, Cont.len, bne] at h_; first | done | omega))); intro _; conv => whnf)
      | (refine tst_in ?_ ?_; rotate_left; (focus (intro h_; exfalso; first | omega | ((try simp only [decide_eq_true_eq, decide_eq_false_iff_not] at h_); omega) | (simp [mulSz, Cont.len, bne] at h_; first | done | omega))); intro _; conv => whnf)
      | (refine ⟨0, (show _ = _ by omega), ?_⟩; conv => whnf))
    rw [show (max (n : Int) (m : Int)).toNat = N by omega]
    refine ⟨⟨[0, 1, 2], (0 : Nat), ?_, Nat.zero_le _⟩, ?_⟩
    · show stLe _ _ (st48 F H A B n c m d N 0) _
      conv => whnf
      repeat' (first | exact True.intro | rfl | refine And.intro ?_ ?_)
      all_goals (conv => whnf)
      repeat' (first | exact True.intro | rfl | refine And.intro ?_ ?_)
      all_goals (try omega)
      exact (tab_ext 0 (List.length_replicate ..) fun k hk => by rw [g_rep, if_pos hk]; unfold gi; rw [show ct F 0 k = g0 from if_neg (Nat.not_lt_zero k)]; rfl).symm
    · intro (i : Nat) (hi : i ≤ n)
      show forceSt (st48 F H A B n c m d N i) _
      conv => whnf
      repeat (first
        | (refine And.intro ?_ ?_; (focus (first | omega | decide | exact EqOk.mk (by kernel_rfl) (by kernel_rfl) (by kernel_rfl) | exact Int.natCast_nonneg _ | ((repeat' refine And.intro ?_ ?_) <;> first | omega | exact Int.natCast_nonneg _ | (simp only [i64max, u8max, u16max, u32max, u64max]; omega) | (simp only [mulSz_eq, Cont.len, colsLen, Col.len, List.length_cons, List.length_nil, List.length_replicate, List.length_append]; first | done | omega) | (simp [mulSz, Cont.len, bne]; first | done | omega)))); conv => whnf)
        | (refine tst_in ?_ ?_; (focus (intro h_; exfalso; first | omega | ((try simp only [decide_eq_true_eq, decide_eq_false_iff_not] at h_); omega) | (simp [mulSz, Cont.len, bne] at h_; first | done | omega))); intro _; conv => whnf)
        | (refine tst_in ?_ ?_; rotate_left; (focus (intro h_; exfalso; first | omega | ((try simp only [decide_eq_true_eq, decide_eq_false_iff_not] at h_); omega) | (simp [mulSz, Cont.len, bne] at h_; first | done | omega))); intro _; conv => whnf)
        | (refine ⟨0, (show _ = _ by omega), ?_⟩; conv => whnf))
      refine tst_in (fun h => ?_) (fun h' => ?_)
      · have h : i < n := by have := dlt_t h; omega
        have hgi := hg i h
        conv => whnf
        repeat (first
          | (refine And.intro ?_ ?_; (focus (first | omega | decide | exact EqOk.mk (by kernel_rfl) (by kernel_rfl) (by kernel_rfl) | exact Int.natCast_nonneg _ | ((repeat' refine And.intro ?_ ?_) <;> first | omega | exact Int.natCast_nonneg _ | (simp only [i64max, u8max, u16max, u32max, u64max]; omega) | (simp only [mulSz_eq, Cont.len, colsLen, Col.len, List.length_cons, List.length_nil, List.length_replicate, List.length_append, tab_len]; first | done | omega) | (simp [mulSz, Cont.len, bne, tab_len]; first | done | omega)))); conv => whnf)
          | (refine tst_in ?_ ?_; (focus (intro h_; exfalso; first | omega | ((try simp only [decide_eq_true_eq, decide_eq_false_iff_not] at h_); omega) | (simp [mulSz, Cont.len, bne, tab_len] at h_; first | done | omega))); intro _; conv => whnf)
          | (refine tst_in ?_ ?_; rotate_left; (focus (intro h_; exfalso; first | omega | ((try simp only [decide_eq_true_eq, decide_eq_false_iff_not] at h_); omega) | (simp [mulSz, Cont.len, bne, tab_len] at h_; first | done | omega))); intro _; conv => whnf)
          | (refine ⟨0, (show _ = _ by omega), ?_⟩; conv => whnf))
        rw [show (0 + ((i : Nat) : Int).toNat) = i by omega, hgi]
        conv => whnf
        repeat (first
          | (refine And.intro ?_ ?_; (focus (first | omega | decide | exact EqOk.mk (by kernel_rfl) (by kernel_rfl) (by kernel_rfl) | exact Int.natCast_nonneg _ | ((repeat' refine And.intro ?_ ?_) <;> first | omega | exact Int.natCast_nonneg _ | (simp only [i64max, u8max, u16max, u32max, u64max]; omega) | (simp only [mulSz_eq, Cont.len, colsLen, Col.len, List.length_cons, List.length_nil, List.length_replicate, List.length_append, tab_len]; first | done | omega) | (simp [mulSz, Cont.len, bne, tab_len]; first | done | omega)))); conv => whnf)
          | (refine tst_in ?_ ?_; (focus (intro h_; exfalso; first | omega | ((try simp only [decide_eq_true_eq, decide_eq_false_iff_not] at h_); omega) | (simp [mulSz, Cont.len, bne, tab_len] at h_; first | done | omega))); intro _; conv => whnf)
          | (refine tst_in ?_ ?_; rotate_left; (focus (intro h_; exfalso; first | omega | ((try simp only [decide_eq_true_eq, decide_eq_false_iff_not] at h_); omega) | (simp [mulSz, Cont.len, bne, tab_len] at h_; first | done | omega))); intro _; conv => whnf)
          | (refine ⟨0, (show _ = _ by omega), ?_⟩; conv => whnf))
        refine ⟨[0, 1, 2], (i + 1 : Nat), ?_, h, by show n - (i + 1) < n - i; omega⟩
        show stLe _ _ (st48 F H A B n c m d N (i + 1)) _
        conv => whnf
        repeat' (first | exact True.intro | rfl | refine And.intro ?_ ?_)
        all_goals (conv => whnf)
        repeat' (first | exact True.intro | rfl | refine And.intro ?_ ?_)
        all_goals (try omega)
        show tb (gi (ct F (i + 1))) N = (tb (gi (ct F i)) N).set i (((F i).v : Nat) : Int)
        refine (tab_put _ N i _ fun k hk => ?_).symm
        unfold ct
        by_cases e : k = i
        · subst e; rw [if_pos rfl, if_pos (by omega)]
        · rw [if_neg e]
          by_cases e2 : k < i
          · rw [if_pos e2, if_pos (by omega)]
          · rw [if_neg e2, if_neg (by omega)]
      · have h : i = n := by have := dlt_f h'; omega
        subst h
        conv => whnf
        repeat (first
          | (refine And.intro ?_ ?_; (focus (first | omega | decide | exact EqOk.mk (by kernel_rfl) (by kernel_rfl) (by kernel_rfl) | exact Int.natCast_nonneg _ | ((repeat' refine And.intro ?_ ?_) <;> first | omega | exact Int.natCast_nonneg _ | (simp only [i64max, u8max, u16max, u32max, u64max]; omega) | (simp only [mulSz_eq, Cont.len, colsLen, Col.len, List.length_cons, List.length_nil, List.length_replicate, List.length_append]; first | done | omega) | (simp [mulSz, Cont.len, bne]; first | done | omega)))); conv => whnf)
          | (refine tst_in ?_ ?_; (focus (intro h_; exfalso; first | omega | ((try simp only [decide_eq_true_eq, decide_eq_false_iff_not] at h_); omega) | (simp [mulSz, Cont.len, bne] at h_; first | done | omega))); intro _; conv => whnf)
          | (refine tst_in ?_ ?_; rotate_left; (focus (intro h_; exfalso; first | omega | ((try simp only [decide_eq_true_eq, decide_eq_false_iff_not] at h_); omega) | (simp [mulSz, Cont.len, bne] at h_; first | done | omega))); intro _; conv => whnf)
          | (refine ⟨0, (show _ = _ by omega), ?_⟩; conv => whnf))
        refine ⟨⟨[0, 1, 2], (0 : Nat), ?_, Nat.zero_le _⟩, ?_⟩
        · show stLe _ _ (st48b F H A B i c m d N 0) _
          conv => whnf
          repeat' (first | exact True.intro | rfl | refine And.intro ?_ ?_)
          all_goals (conv => whnf)
          repeat' (first | exact True.intro | rfl | refine And.intro ?_ ?_)
          all_goals (try omega)
          rw [sumS_0]
        · intro (j : Nat) (hj : j ≤ m)
          show forceSt (st48b F H A B i c m d N j) _
          conv => whnf
          repeat (first
            | (refine And.intro ?_ ?_; (focus (first | omega | decide | exact EqOk.mk (by kernel_rfl) (by kernel_rfl) (by kernel_rfl) | exact Int.natCast_nonneg _ | ((repeat' refine And.intro ?_ ?_) <;> first | omega | exact Int.natCast_nonneg _ | (simp only [i64max, u8max, u16max, u32max, u64max]; omega) | (simp only [mulSz_eq, Cont.len, colsLen, Col.len, List.length_cons, List.length_nil, List.length_replicate, List.length_append]; first | done | omega) | (simp [mulSz, Cont.len, bne]; first | done | omega)))); conv => whnf)
            | (refine tst_in ?_ ?_; (focus (intro h_; exfalso; first | omega | ((try simp only [decide_eq_true_eq, decide_eq_false_iff_not] at h_); omega) | (simp [mulSz, Cont.len, bne] at h_; first | done | omega))); intro _; conv => whnf)
            | (refine tst_in ?_ ?_; rotate_left; (focus (intro h_; exfalso; first | omega | ((try simp only [decide_eq_true_eq, decide_eq_false_iff_not] at h_); omega) | (simp [mulSz, Cont.len, bne] at h_; first | done | omega))); intro _; conv => whnf)
            | (refine ⟨0, (show _ = _ by omega), ?_⟩; conv => whnf))
          refine tst_in (fun h => ?_) (fun h' => ?_)
          · have h : j < m := by have := dlt_t h; omega
            have hgi := hg2 j h
            have ho := gi_in (sumS F H i j) j
            have hh := gi_in H j
            have hto : (tb (gi (sumS F H i j)) N).getD j 0 = gi (sumS F H i j) j := tab_get _ _ (by omega)
            conv => whnf
            repeat (first
              | (refine And.intro ?_ ?_; (focus (first | omega | decide | exact EqOk.mk (by kernel_rfl) (by kernel_rfl) (by kernel_rfl) | exact Int.natCast_nonneg _ | ((repeat' refine And.intro ?_ ?_) <;> first | omega | exact Int.natCast_nonneg _ | (simp only [i64max, u8max, u16max, u32max, u64max]; omega) | (simp only [mulSz_eq, Cont.len, colsLen, Col.len, List.length_cons, List.length_nil, List.length_replicate, List.length_append, tab_len]; first | done | omega) | (simp [mulSz, Cont.len, bne, tab_len]; first | done | omega)))); conv => whnf)
              | (refine tst_in ?_ ?_; (focus (intro h_; exfalso; first | omega | ((try simp only [decide_eq_true_eq, decide_eq_false_iff_not] at h_); omega) | (simp [mulSz, Cont.len, bne, tab_len] at h_; first | done | omega))); intro _; conv => whnf)
              | (refine tst_in ?_ ?_; rotate_left; (focus (intro h_; exfalso; first | omega | ((try simp only [decide_eq_true_eq, decide_eq_false_iff_not] at h_); omega) | (simp [mulSz, Cont.len, bne, tab_len] at h_; first | done | omega))); intro _; conv => whnf)
              | (refine ⟨0, (show _ = _ by omega), ?_⟩; conv => whnf))
            rw [show (0 + ((j : Nat) : Int).toNat) = j by omega, hto, hgi]
            refine ⟨⟨ho.1, hh.1, ho.2, hh.2⟩, ?_⟩
            conv => whnf
            repeat (first
              | (refine And.intro ?_ ?_; (focus (first | omega | decide | exact EqOk.mk (by kernel_rfl) (by kernel_rfl) (by kernel_rfl) | exact Int.natCast_nonneg _ | ((repeat' refine And.intro ?_ ?_) <;> first | omega | exact Int.natCast_nonneg _ | (simp only [i64max, u8max, u16max, u32max, u64max]; omega) | (simp only [mulSz_eq, Cont.len, colsLen, Col.len, List.length_cons, List.length_nil, List.length_replicate, List.length_append, tab_len]; first | done | omega) | (simp [mulSz, Cont.len, bne, tab_len]; first | done | omega)))); conv => whnf)
              | (refine tst_in ?_ ?_; (focus (intro h_; exfalso; first | omega | ((try simp only [decide_eq_true_eq, decide_eq_false_iff_not] at h_); omega) | (simp [mulSz, Cont.len, bne, tab_len] at h_; first | done | omega))); intro _; conv => whnf)
              | (refine tst_in ?_ ?_; rotate_left; (focus (intro h_; exfalso; first | omega | ((try simp only [decide_eq_true_eq, decide_eq_false_iff_not] at h_); omega) | (simp [mulSz, Cont.len, bne, tab_len] at h_; first | done | omega))); intro _; conv => whnf)
              | (refine ⟨0, (show _ = _ by omega), ?_⟩; conv => whnf))
            refine ⟨[0, 1, 2], (j + 1 : Nat), ?_, h, by show m - (j + 1) < m - j; omega⟩
            show stLe _ _ (st48b F H A B i c m d N (j + 1)) _
            conv => whnf
            repeat' (first | exact True.intro | rfl | refine And.intro ?_ ?_)
            all_goals (conv => whnf)
            repeat' (first | exact True.intro | rfl | refine And.intro ?_ ?_)
            all_goals (try omega)
            show tb (gi (sumS F H i (j + 1))) N = (tb (gi (sumS F H i j)) N).set (0 + ((j : Nat) : Int).toNat) (((sumS F H i j j + H j : G).v : Nat) : Int)
            rw [show (0 + ((j : Nat) : Int).toNat) = j by omega]
            exact (tab_put _ N j _ fun k hk => sumS_succ F H i j k).symm
          · have h : j = m := by have := dlt_f h'; omega
            subst h
            conv => whnf
            repeat (first
              | (refine And.intro ?_ ?_; (focus (first | omega | decide | exact EqOk.mk (by kernel_rfl) (by kernel_rfl) (by kernel_rfl) | exact Int.natCast_nonneg _ | ((repeat' refine And.intro ?_ ?_) <;> first | omega | exact Int.natCast_nonneg _ | (simp only [i64max, u8max, u16max, u32max, u64max]; omega) | (simp only [mulSz_eq, Cont.len, colsLen, Col.len, List.length_cons, List.length_nil, List.length_replicate, List.length_append]; first | done | omega) | (simp [mulSz, Cont.len, bne]; first | done | omega)))); conv => whnf)
              | (refine tst_in ?_ ?_; (focus (intro h_; exfalso; first | omega | ((try simp only [decide_eq_true_eq, decide_eq_false_iff_not] at h_); omega) | (simp [mulSz, Cont.len, bne] at h_; first | done | omega))); intro _; conv => whnf)
              | (refine tst_in ?_ ?_; rotate_left; (focus (intro h_; exfalso; first | omega | ((try simp only [decide_eq_true_eq, decide_eq_false_iff_not] at h_); omega) | (simp [mulSz, Cont.len, bne] at h_; first | done | omega))); intro _; conv => whnf)
              | (refine ⟨0, (show _ = _ by omega), ?_⟩; conv => whnf))
            refine ⟨_, [2], TR, ?_⟩
            conv => whnf
            iterate 2
             refine And.intro ?_ ?_
             focus
              conv => whnf
              repeat' (first | exact True.intro | rfl | refine And.intro ?_ ?_)
              all_goals (conv => whnf)
              repeat' (first | exact True.intro | rfl | refine And.intro ?_ ?_)
              all_goals (try (first | rfl | omega | (simp; first | done | omega)))
            conv => whnf
            refine ⟨?_, True.intro⟩
            rintro tl _
            conv => whnf
            change List Int at tl
            conv => whnf
            repeat (first
              | (refine And.intro ?_ ?_; (focus (first | omega | decide | exact EqOk.mk (by kernel_rfl) (by kernel_rfl) (by kernel_rfl) | exact Int.natCast_nonneg _ | ((repeat' refine And.intro ?_ ?_) <;> first | omega | exact Int.natCast_nonneg _ | (simp only [i64max, u8max, u16max, u32max, u64max]; omega) | (simp only [mulSz_eq, Cont.len, colsLen, Col.len, List.length_cons, List.length_nil, List.length_replicate, List.length_append]; first | done | omega) | (simp [mulSz, Cont.len, bne]; first | done | omega)))); conv => whnf)
              | (refine tst_in ?_ ?_; (focus (intro h_; exfalso; first | omega | ((try simp only [decide_eq_true_eq, decide_eq_false_iff_not] at h_); omega) | (simp [mulSz, Cont.len, bne] at h_; first | done | omega))); intro _; conv => whnf)
              | (refine tst_in ?_ ?_; rotate_left; (focus (intro h_; exfalso; first | omega | ((try simp only [decide_eq_true_eq, decide_eq_false_iff_not] at h_); omega) | (simp [mulSz, Cont.len, bne] at h_; first | done | omega))); intro _; conv => whnf)
              | (refine ⟨0, (show _ = _ by omega), ?_⟩; conv => whnf))
            refine .inl ⟨tl, [0, 1, 3], ?_⟩
            conv => whnf
            repeat' (first | exact True.intro | rfl | refine And.intro ?_ ?_)
            all_goals (conv => whnf)
            repeat' (first | exact True.intro | rfl | refine And.intro ?_ ?_)
            all_goals (try omega)
end Go.Proofs.Yteiblfkegnppeaa

set_option linter.unusedVariables false
set_option linter.unusedSimpArgs false
namespace Go.Proofs.Yteiblfkegnppeaa
open Go Go.Fw
noncomputable def k57 : Code := (Try.f57.body).getD .skip
noncomputable def st57 (F H : Nat → G) (A B : List Int) (n c m d L i : Nat) : St := ⟨slotsAt 49 [(0, .slice 0 0 n c), (1, .slice 1 0 m d), (5, .slice 2 0 L L), (6, .int .i64 i)], [.seg false (.ints .u8 A), .seg false (.ints .u8 B), .seg true (.ints .u8 (tb (gi (ac F H i)) L))]⟩
noncomputable def st57b (F H : Nat → G) (A B : List Int) (n c m d L i j : Nat) : St := ⟨slotsAt 49 [(0, .slice 0 0 n c), (1, .slice 1 0 m d), (5, .slice 2 0 L L), (6, .int .i64 i), (7, .int .i64 j)], [.seg false (.ints .u8 A), .seg false (.ints .u8 B), .seg true (.ints .u8 (tb (gi (part F H i j)) L))]⟩
def plan57 : PlanN := .op 0 (.op 1 (.op 2 (.op 4 (.op 5 (.op 6 (.op 10 (.op 11 (.op 12 (.op 13 (.op 14 (.op 15 (.op 16 (.op 17 (.rd 3 (.rd 7 (.rd 8 (.rd 9 (.op 18 (.chk [9, 8, 7, 3] (.op 19 (.op 20 (.op 21 .done))))))))))))))))))))))
noncomputable def cfg57 (F H : Nat → G) (A B : List Int) (n c m d L : Nat) : Cfg := { cfgk 2 with
  dep := fun | 6 => some fun st => ⟨Nat, fun j => st57b F H A B n c m d L (natAt st 6) j, fun j => j ≤ m, fun j => m - j⟩ | _ => none,
  plan := fun | 8 => some (.nn plan57) | _ => none }
noncomputable def proOut (P : Nat → G) (l : Nat) : FOut := ⟨List Int, fun _ => True, fun tl => .slice 2 0 l (l + tl.length), fun tl => [.dead, .dead, .seg true (.ints .u8 (tb (gi P) l ++ tl))]⟩
set_option maxHeartbeats 0 in
set_option maxRecDepth 100000 in
theorem refproduct_f (F H : Nat → G) (A B : List Int) (n c m d : Nat) (hA : Rd A F n) (hB : Rd B H m) (hc : n ≤ c) (hd : m ≤ d) (hn : n ≤ 1024) (hm : m ≤ 1024) :
    Fits Try.prog 57 ⟨[.slice 0 0 n c, .slice 1 0 m d], [.seg false (.ints .u8 A), .seg false (.ints .u8 B)], [proOut (prodP F H n m) (plen (dg F n) (dg H m))]⟩ := by
  have hA2 : Rd A (ct F n) n := Rd_congr hA fun i hi => (ct_lt F hi).symm
  have hB2 : Rd B (ct H m) m := Rd_congr hB fun i hi => (ct_lt H hi).symm
  have hpp := pol_prod F H n m
  have hs0 := dg_le F n
  have ht0 := dg_le H m
  have hL2 : plen (dg F n) (dg H m) ≤ n + m := by unfold plen; split <;> omega
  have TR := Trim_f (prodP F H n m) (tb (gi (prodP F H n m)) (n + m)) (n + m) (n + m) (Rd_tb _ _) (Nat.le_refl _) (by omega)
  rw [dg_pol hpp hL2] at TR
  unfold proOut
  unfold trOut at TR
  generalize plen (dg F n) (dg H m) = l at *
  unfold prodP at TR ⊢
  have hzH := zr_ct H m
  generalize ct F n = F' at *
  generalize ct H m = H' at *
  refine fits_of_body (C := cfg57 F' H' A B n c m d (n + m)) (c := k57) (ts := [4]) tokL mixedL (fun | 3 => some ⟨Nat, fun i => st57 F' H' A B n c m d (n + m) i, fun i => i ≤ n, fun i => n - i⟩ | _ => none) (fun _ => none)
    Try.func57 (by kernel_rfl) (by kernel_rfl) (by kernel_rfl) (by kernel_rfl) rfl ?_
  obtain ⟨L, hL⟩ : ∃ L, L = n + m := ⟨_, rfl⟩
  obtain ⟨hl, hg⟩ := hA2
  obtain ⟨hl2, hg2⟩ := hB2
  rw [← hL] at TR ⊢
  conv => whnf
  repeat (first
    | (refine And.intro ?_ ?_; (focus (first | omega | decide | exact EqOk.mk (by kernel_rfl) (by kernel_rfl) (by kernel_rfl) | exact Int.natCast_nonneg _ | ((repeat' refine And.intro ?_ ?_) <;> first | omega | exact Int.natCast_nonneg _ | (simp only [i64max, u8max, u16max, u32max, u64max]; omega) | (simp only [mulSz_eq, Cont.len, colsLen, Col.len, List.length_cons, List.length_nil, List.length_replicate, List.length_append]; first | done | omega) | (simp [mulSz, Cont.len, bne]; first | done | omega)))); conv => whnf)
    | (refine tst_in ?_ ?_; (focus (intro h_; exfalso; first | omega | ((try simp only [decide_eq_true_eq, decide_eq_false_iff_not] at h_); omega) | (simp [mulSz, Cont.len, bne] at h_; first | done | omega))); intro _; conv => whnf)
    | (refine tst_in ?_ ?_; rotate_left; (focus (intro h_; exfalso; first | omega | ((try simp only [decide_eq_true_eq, decide_eq_false_iff_not] at h_); omega) | (simp [mulSz, Cont.len, bne] at h_; first | done | omega))); intro _; conv => whnf)
    | (refine ⟨0, (show _ = _ by omega), ?_⟩; conv => whnf))
  rw [show ((n : Int) + (m : Int)).toNat = L by omega]
  refine ⟨⟨[0, 1, 2], (0 : Nat), ?_, Nat.zero_le _⟩, ?_⟩
  · show stLe _ _ (st57 F' H' A B n c m d L 0) _
    conv => whnf
    repeat' (first | exact True.intro | rfl | refine And.intro ?_ ?_)
    all_goals (conv => whnf)
    repeat' (first | exact True.intro | rfl | refine And.intro ?_ ?_)
    all_goals (try omega)
    exact (tab_ext 0 (List.length_replicate ..) fun k hk => by rw [g_rep, if_pos hk]; rfl).symm
  · intro (i : Nat) (hi : i ≤ n)
    show forceSt (st57 F' H' A B n c m d L i) _
    conv => whnf
    repeat (first
      | (refine And.intro ?_ ?_; (focus (first | omega | decide | exact EqOk.mk (by kernel_rfl) (by kernel_rfl) (by kernel_rfl) | exact Int.natCast_nonneg _ | ((repeat' refine And.intro ?_ ?_) <;> first | omega | exact Int.natCast_nonneg _ | (simp only [i64max, u8max, u16max, u32max, u64max]; omega) | (simp only [mulSz_eq, Cont.len, colsLen, Col.len, List.length_cons, List.length_nil, List.length_replicate, List.length_append]; first | done | omega) | (simp [mulSz, Cont.len, bne]; first | done | omega)))); conv => whnf)
      | (refine tst_in ?_ ?_; (focus (intro h_; exfalso; first | omega | ((try simp only [decide_eq_true_eq, decide_eq_false_iff_not] at h_); omega) | (simp [mulSz, Cont.len, bne] at h_; first | done | omega))); intro _; conv => whnf)
      | (refine tst_in ?_ ?_; rotate_left; (focus (intro h_; exfalso; first | omega | ((try simp only [decide_eq_true_eq, decide_eq_false_iff_not] at h_); omega) | (simp [mulSz, Cont.len, bne] at h_; first | done | omega))); intro _; conv => whnf)
      | (refine ⟨0, (show _ = _ by omega), ?_⟩; conv => whnf))
    refine tst_in (fun r => ?_) (fun r' => ?_)
    · have r : i < n := by have := dlt_t r; omega
      have hgi := hg i (by omega)
      conv => whnf
      repeat (first
        | (refine And.intro ?_ ?_; (focus (first | omega | decide | exact EqOk.mk (by kernel_rfl) (by kernel_rfl) (by kernel_rfl) | exact Int.natCast_nonneg _ | ((repeat' refine And.intro ?_ ?_) <;> first | omega | exact Int.natCast_nonneg _ | (simp only [i64max, u8max, u16max, u32max, u64max]; omega) | (simp only [mulSz_eq, Cont.len, colsLen, Col.len, List.length_cons, List.length_nil, List.length_replicate, List.length_append]; first | done | omega) | (simp [mulSz, Cont.len, bne]; first | done | omega)))); conv => whnf)
        | (refine tst_in ?_ ?_; (focus (intro h_; exfalso; first | omega | ((try simp only [decide_eq_true_eq, decide_eq_false_iff_not] at h_); omega) | (simp [mulSz, Cont.len, bne] at h_; first | done | omega))); intro _; conv => whnf)
        | (refine tst_in ?_ ?_; rotate_left; (focus (intro h_; exfalso; first | omega | ((try simp only [decide_eq_true_eq, decide_eq_false_iff_not] at h_); omega) | (simp [mulSz, Cont.len, bne] at h_; first | done | omega))); intro _; conv => whnf)
        | (refine ⟨0, (show _ = _ by omega), ?_⟩; conv => whnf))
      refine ⟨⟨[0, 1, 2], (0 : Nat), ?_, Nat.zero_le _⟩, ?_⟩
      · show stLe _ _ (st57b F' H' A B n c m d L i 0) _
        conv => whnf
        repeat' (first | exact True.intro | rfl | refine And.intro ?_ ?_)
        all_goals (conv => whnf)
        repeat' (first | exact True.intro | rfl | refine And.intro ?_ ?_)
        all_goals (try omega)
        rw [part_0]
      · intro (j : Nat) (hj : j ≤ m)
        show forceSt (st57b F' H' A B n c m d L i j) _
        conv => whnf
        repeat (first
          | (refine And.intro ?_ ?_; (focus (first | omega | decide | exact EqOk.mk (by kernel_rfl) (by kernel_rfl) (by kernel_rfl) | exact Int.natCast_nonneg _ | ((repeat' refine And.intro ?_ ?_) <;> first | omega | exact Int.natCast_nonneg _ | (simp only [i64max, u8max, u16max, u32max, u64max]; omega) | (simp only [mulSz_eq, Cont.len, colsLen, Col.len, List.length_cons, List.length_nil, List.length_replicate, List.length_append]; first | done | omega) | (simp [mulSz, Cont.len, bne]; first | done | omega)))); conv => whnf)
          | (refine tst_in ?_ ?_; (focus (intro h_; exfalso; first | omega | ((try simp only [decide_eq_true_eq, decide_eq_false_iff_not] at h_); omega) | (simp [mulSz, Cont.len, bne] at h_; first | done | omega))); intro _; conv => whnf)
          | (refine tst_in ?_ ?_; rotate_left; (focus (intro h_; exfalso; first | omega | ((try simp only [decide_eq_true_eq, decide_eq_false_iff_not] at h_); omega) | (simp [mulSz, Cont.len, bne] at h_; first | done | omega))); intro _; conv => whnf)
          | (refine ⟨0, (show _ = _ by omega), ?_⟩; conv => whnf))
        refine tst_in (fun u => ?_) (fun u' => ?_)
        · have u : j < m := by have := dlt_t u; omega
          have hgj := hg2 j (by omega)
          have TM := refTimes_g (F' i) (H' j)
          have ho := gi_in (part F' H' i j) (i + j)
          have hm2 := (F' i * H' j).lt
          have hto : (tb (gi (part F' H' i j)) L).getD (i + j) 0 = gi (part F' H' i j) (i + j) := tab_get _ _ (by omega)
          conv => whnf
          repeat (first
            | (refine And.intro ?_ ?_; (focus (first | omega | decide | exact EqOk.mk (by kernel_rfl) (by kernel_rfl) (by kernel_rfl) | exact Int.natCast_nonneg _ | ((repeat' refine And.intro ?_ ?_) <;> first | omega | exact Int.natCast_nonneg _ | (simp only [i64max, u8max, u16max, u32max, u64max]; omega) | (simp only [mulSz_eq, Cont.len, colsLen, Col.len, List.length_cons, List.length_nil, List.length_replicate, List.length_append, tab_len]; first | done | omega) | (simp [mulSz, Cont.len, bne, tab_len]; first | done | omega)))); conv => whnf)
            | (refine tst_in ?_ ?_; (focus (intro h_; exfalso; first | omega | ((try simp only [decide_eq_true_eq, decide_eq_false_iff_not] at h_); omega) | (simp [mulSz, Cont.len, bne, tab_len] at h_; first | done | omega))); intro _; conv => whnf)
            | (refine tst_in ?_ ?_; rotate_left; (focus (intro h_; exfalso; first | omega | ((try simp only [decide_eq_true_eq, decide_eq_false_iff_not] at h_); omega) | (simp [mulSz, Cont.len, bne, tab_len] at h_; first | done | omega))); intro _; conv => whnf)
            | (refine ⟨0, (show _ = _ by omega), ?_⟩; conv => whnf))
          rw [show (0 + ((j : Nat) : Int).toNat) = j by omega, hgj, show (0 + ((i : Nat) : Int).toNat) = i by omega, hgi]
          refine ⟨_, [], TM, ?_⟩
          conv => whnf
          iterate 2
           refine And.intro ?_ ?_
           focus
            conv => whnf
            repeat' (first | exact True.intro | rfl | refine And.intro ?_ ?_ | omega)
            all_goals (conv => whnf)
            all_goals (try (first | rfl | omega | (simp; done)))
          conv => whnf
          conv => whnf
          repeat (first
            | (refine And.intro ?_ ?_; (focus (first | omega | decide | exact EqOk.mk (by kernel_rfl) (by kernel_rfl) (by kernel_rfl) | exact Int.natCast_nonneg _ | ((repeat' refine And.intro ?_ ?_) <;> first | omega | exact Int.natCast_nonneg _ | (simp only [i64max, u8max, u16max, u32max, u64max]; omega) | (simp only [mulSz_eq, Cont.len, colsLen, Col.len, List.length_cons, List.length_nil, List.length_replicate, List.length_append, tab_len]; first | done | omega) | (simp [mulSz, Cont.len, bne, tab_len]; first | done | omega)))); conv => whnf)
            | (refine tst_in ?_ ?_; (focus (intro h_; exfalso; first | omega | ((try simp only [decide_eq_true_eq, decide_eq_false_iff_not] at h_); omega) | (simp [mulSz, Cont.len, bne, tab_len] at h_; first | done | omega))); intro _; conv => whnf)
            | (refine tst_in ?_ ?_; rotate_left; (focus (intro h_; exfalso; first | omega | ((try simp only [decide_eq_true_eq, decide_eq_false_iff_not] at h_); omega) | (simp [mulSz, Cont.len, bne, tab_len] at h_; first | done | omega))); intro _; conv => whnf)
            | (refine ⟨0, (show _ = _ by omega), ?_⟩; conv => whnf))
          rw [show (0 + ((i : Nat) + (j : Nat) : Int).toNat) = i + j by omega, hto]
          refine ⟨⟨ho.1, by omega, ho.2, by rw [u8max]; omega⟩, ?_⟩
          conv => whnf
          repeat (first
            | (refine And.intro ?_ ?_; (focus (first | omega | decide | exact EqOk.mk (by kernel_rfl) (by kernel_rfl) (by kernel_rfl) | exact Int.natCast_nonneg _ | ((repeat' refine And.intro ?_ ?_) <;> first | omega | exact Int.natCast_nonneg _ | (simp only [i64max, u8max, u16max, u32max, u64max]; omega) | (simp only [mulSz_eq, Cont.len, colsLen, Col.len, List.length_cons, List.length_nil, List.length_replicate, List.length_append, tab_len]; first | done | omega) | (simp [mulSz, Cont.len, bne, tab_len]; first | done | omega)))); conv => whnf)
            | (refine tst_in ?_ ?_; (focus (intro h_; exfalso; first | omega | ((try simp only [decide_eq_true_eq, decide_eq_false_iff_not] at h_); omega) | (simp [mulSz, Cont.len, bne, tab_len] at h_; first | done | omega))); intro _; conv => whnf)
            | (refine tst_in ?_ ?_; rotate_left; (focus (intro h_; exfalso; first | omega | ((try simp only [decide_eq_true_eq, decide_eq_false_iff_not] at h_); omega) | (simp [mulSz, Cont.len, bne, tab_len] at h_; first | done | omega))); intro _; conv => whnf)
            | (refine ⟨0, (show _ = _ by omega), ?_⟩; conv => whnf))
          refine ⟨[0, 1, 2], (j + 1 : Nat), ?_, u, by show m - (j + 1) < m - j; omega⟩
          show stLe _ _ (st57b F' H' A B n c m d L i (j + 1)) _
          conv => whnf
          repeat' (first | exact True.intro | rfl | refine And.intro ?_ ?_)
          all_goals (conv => whnf)
          repeat' (first | exact True.intro | rfl | refine And.intro ?_ ?_)
          all_goals (try omega)
          show tb (gi (part F' H' i (j + 1))) L = (tb (gi (part F' H' i j)) L).set (0 + ((i : Nat) + (j : Nat) : Int).toNat) (((part F' H' i j (i + j) + F' i * H' j : G).v : Nat) : Int)
          rw [show (0 + ((i : Nat) + (j : Nat) : Int).toNat) = i + j by omega]
          exact (tab_put _ L (i + j) _ fun k hk => part_succ F' H' i j k).symm
        · have u : j = m := by have := dlt_f u'; omega
          subst u
          conv => whnf
          repeat (first
            | (refine And.intro ?_ ?_; (focus (first | omega | decide | exact EqOk.mk (by kernel_rfl) (by kernel_rfl) (by kernel_rfl) | exact Int.natCast_nonneg _ | ((repeat' refine And.intro ?_ ?_) <;> first | omega | exact Int.natCast_nonneg _ | (simp only [i64max, u8max, u16max, u32max, u64max]; omega) | (simp only [mulSz_eq, Cont.len, colsLen, Col.len, List.length_cons, List.length_nil, List.length_replicate, List.length_append]; first | done | omega) | (simp [mulSz, Cont.len, bne]; first | done | omega)))); conv => whnf)
            | (refine tst_in ?_ ?_; (focus (intro h_; exfalso; first | omega | ((try simp only [decide_eq_true_eq, decide_eq_false_iff_not] at h_); omega) | (simp [mulSz, Cont.len, bne] at h_; first | done | omega))); intro _; conv => whnf)
            | (refine tst_in ?_ ?_; rotate_left; (focus (intro h_; exfalso; first | omega | ((try simp only [decide_eq_true_eq, decide_eq_false_iff_not] at h_); omega) | (simp [mulSz, Cont.len, bne] at h_; first | done | omega))); intro _; conv => whnf)
            | (refine ⟨0, (show _ = _ by omega), ?_⟩; conv => whnf))
          refine ⟨[0, 1, 2], (i + 1 : Nat), ?_, r, by show n - (i + 1) < n - i; omega⟩
          show stLe _ _ (st57 F' H' A B n c j d L (i + 1)) _
          conv => whnf
          repeat' (first | exact True.intro | rfl | refine And.intro ?_ ?_)
          all_goals (conv => whnf)
          repeat' (first | exact True.intro | rfl | refine And.intro ?_ ?_)
          all_goals (try omega)
          rw [part_end hzH]
    · have r : i = n := by have := dlt_f r'; omega
      subst r
      conv => whnf
      repeat (first
        | (refine And.intro ?_ ?_; (focus (first | omega | decide | exact EqOk.mk (by kernel_rfl) (by kernel_rfl) (by kernel_rfl) | exact Int.natCast_nonneg _ | ((repeat' refine And.intro ?_ ?_) <;> first | omega | exact Int.natCast_nonneg _ | (simp only [i64max, u8max, u16max, u32max, u64max]; omega) | (simp only [mulSz_eq, Cont.len, colsLen, Col.len, List.length_cons, List.length_nil, List.length_replicate, List.length_append]; first | done | omega) | (simp [mulSz, Cont.len, bne]; first | done | omega)))); conv => whnf)
        | (refine tst_in ?_ ?_; (focus (intro h_; exfalso; first | omega | ((try simp only [decide_eq_true_eq, decide_eq_false_iff_not] at h_); omega) | (simp [mulSz, Cont.len, bne] at h_; first | done | omega))); intro _; conv => whnf)
        | (refine tst_in ?_ ?_; rotate_left; (focus (intro h_; exfalso; first | omega | ((try simp only [decide_eq_true_eq, decide_eq_false_iff_not] at h_); omega) | (simp [mulSz, Cont.len, bne] at h_; first | done | omega))); intro _; conv => whnf)
        | (refine ⟨0, (show _ = _ by omega), ?_⟩; conv => whnf))
      refine ⟨_, [2], TR, ?_⟩
      conv => whnf
      iterate 2
       refine And.intro ?_ ?_
       focus
        conv => whnf
        repeat' (first | exact True.intro | rfl | refine And.intro ?_ ?_)
        all_goals (conv => whnf)
        repeat' (first | exact True.intro | rfl | refine And.intro ?_ ?_)
        all_goals (try (first | rfl | omega | (simp; first | done | omega)))
      conv => whnf
      refine ⟨?_, True.intro⟩
      rintro tl _
      conv => whnf
      change List Int at tl
      conv => whnf
      repeat (first
        | (refine And.intro ?_ ?_; (focus (first | omega | decide | exact EqOk.mk (by kernel_rfl) (by kernel_rfl) (by kernel_rfl) | exact Int.natCast_nonneg _ | ((repeat' refine And.intro ?_ ?_) <;> first | omega | exact Int.natCast_nonneg _ | (simp only [i64max, u8max, u16max, u32max, u64max]; omega) | (simp only [mulSz_eq, Cont.len, colsLen, Col.len, List.length_cons, List.length_nil, List.length_replicate, List.length_append]; first | done | omega) | (simp [mulSz, Cont.len, bne]; first | done | omega)))); conv => whnf)
        | (refine tst_in ?_ ?_; (focus (intro h_; exfalso; first | omega | ((try simp only [decide_eq_true_eq, decide_eq_false_iff_not] at h_); omega) | (simp [mulSz, Cont.len, bne] at h_; first | done | omega))); intro _; conv => whnf)
        | (refine tst_in ?_ ?_; rotate_left; (focus (intro h_; exfalso; first | omega | ((try simp only [decide_eq_true_eq, decide_eq_false_iff_not] at h_); omega) | (simp [mulSz, Cont.len, bne] at h_; first | done | omega))); intro _; conv => whnf)
        | (refine ⟨0, (show _ = _ by omega), ?_⟩; conv => whnf))
      refine .inl ⟨tl, [0, 1, 3], ?_⟩
      conv => whnf
      repeat' (first | exact True.intro | rfl | refine And.intro ?_ ?_)
      all_goals (conv => whnf)
      repeat' (first | exact True.intro | rfl | refine And.intro ?_ ?_)
      all_goals (try omega)
end Go.Proofs.Yteiblfkegnppeaa

set_option linter.unusedVariables false
set_option linter.unusedSimpArgs false
namespace Go.Proofs.Yteiblfkegnppeaa
open Go Go.Fw
end Go.Proofs.Yteiblfkegnppeaa

set_option linter.unusedVariables false
set_option linter.unusedSimpArgs false
namespace Go.Proofs.Yteiblfkegnppeaa
open Go Go.Fw
end Go.Proofs.Yteiblfkegnppeaa

set_option linter.unusedVariables false
set_option linter.unusedSimpArgs false
namespace Go.Proofs.Yteiblfkegnppeaa
open Go Go.Fw
end Go.Proofs.Yteiblfkegnppeaa

set_option linter.unusedVariables false
set_option linter.unusedSimpArgs false
namespace Go.Proofs.Yteiblfkegnppeaa
open Go Go.Fw
noncomputable def k58 : Code := (Try.f58.body).getD .skip
noncomputable def st58 (F : Nat → G) (A : List Int) (n c : Nat) (x : G) (k : Nat) : St := ⟨slotsAt 23 [(0, .slice 0 0 n c), (1, .int .u8 (x.v : Nat)), (5, .int .u8 ((hor F n x k).v : Nat)), (6, .int .i64 ((n : Int) - k - 1))], [.seg false (.ints .u8 A)]⟩
set_option maxHeartbeats 0 in
set_option maxRecDepth 100000 in
theorem refat_q (F : Nat → G) (A : List Int) (n c : Nat) (x : G) (hA : Rd A F n) (hc : n ≤ c) (hn : n ≤ 9223372036854775807) :
    QFits Try.prog 58 ⟨[.slice 0 0 n c, .int .u8 (x.v : Nat)], [.seg false (.ints .u8 A)], .int .u8 ((As F x n).v : Nat)⟩ := by
  refine qfits_of_body (C := cfgk 1) (c := k58) (ts := [4]) tokL mixedL (fun | 3 => some ⟨Nat, fun k => st58 F A n c x k, fun k => k ≤ n, fun k => n - k⟩ | _ => none) (fun _ => none)
    Try.func58 (by kernel_rfl) (by kernel_rfl) (by kernel_rfl) (by kernel_rfl) (by kernel_rfl) rfl rfl ?_
  obtain ⟨hl, hg⟩ := hA
  conv => whnf
  repeat (first
    | (refine And.intro ?_ ?_; (focus (first | omega | decide | exact EqOk.mk (by kernel_rfl) (by kernel_rfl) (by kernel_rfl) | exact Int.natCast_nonneg _ | ((repeat' refine And.intro ?_ ?_) <;> first | omega | exact Int.natCast_nonneg _ | (simp only [i64max, u8max, u16max, u32max, u64max]; omega) | (simp only [mulSz_eq, Cont.len, colsLen, Col.len, List.length_cons, List.length_nil, List.length_replicate, List.length_append]; first | done | omega) | (simp [mulSz, Cont.len, bne]; first | done | omega)))); conv => whnf)
    | (refine tst_in ?_ ?_; (focus (intro h_; exfalso; first | omega | ((try simp only [decide_eq_true_eq, decide_eq_false_iff_not] at h_); omega) | (simp [mulSz, Cont.len, bne] at h_; first | done | omega))); intro _; conv => whnf)
    | (refine tst_in ?_ ?_; rotate_left; (focus (intro h_; exfalso; first | omega | ((try simp only [decide_eq_true_eq, decide_eq_false_iff_not] at h_); omega) | (simp [mulSz, Cont.len, bne] at h_; first | done | omega))); intro _; conv => whnf)
    | (refine ⟨0, (show _ = _ by omega), ?_⟩; conv => whnf))
  refine ⟨⟨[0], (0 : Nat), ?_, Nat.zero_le _⟩, ?_⟩
  · show stLe _ _ (st58 F A n c x 0) _
    conv => whnf
    repeat' (first | exact True.intro | rfl | refine And.intro ?_ ?_)
    all_goals (conv => whnf)
    repeat' (first | exact True.intro | rfl | refine And.intro ?_ ?_)
    all_goals (try omega)
  · intro (k : Nat) (hk : k ≤ n)
    show forceSt (st58 F A n c x k) _
    conv => whnf
    repeat (first
      | (refine And.intro ?_ ?_; (focus (first | omega | decide | exact EqOk.mk (by kernel_rfl) (by kernel_rfl) (by kernel_rfl) | exact Int.natCast_nonneg _ | ((repeat' refine And.intro ?_ ?_) <;> first | omega | exact Int.natCast_nonneg _ | (simp only [i64max, u8max, u16max, u32max, u64max]; omega) | (simp only [mulSz_eq, Cont.len, colsLen, Col.len, List.length_cons, List.length_nil, List.length_replicate, List.length_append]; first | done | omega) | (simp [mulSz, Cont.len, bne]; first | done | omega)))); conv => whnf)
      | (refine tst_in ?_ ?_; (focus (intro h_; exfalso; first | omega | ((try simp only [decide_eq_true_eq, decide_eq_false_iff_not] at h_); omega) | (simp [mulSz, Cont.len, bne] at h_; first | done | omega))); intro _; conv => whnf)
      | (refine tst_in ?_ ?_; rotate_left; (focus (intro h_; exfalso; first | omega | ((try simp only [decide_eq_true_eq, decide_eq_false_iff_not] at h_); omega) | (simp [mulSz, Cont.len, bne] at h_; first | done | omega))); intro _; conv => whnf)
      | (refine ⟨0, (show _ = _ by omega), ?_⟩; conv => whnf))
    refine tst_in (fun h => ?_) (fun h' => ?_)
    · have h : k < n := by have := dle_t h; omega
      have TM := refTimes_g (hor F n x k) x
      have hgk : A.getD (n - 1 - k) 0 = ((F (n - 1 - k)).v : Nat) := hg (n - 1 - k) (by omega)
      have hm := (hor F n x k * x).lt
      have hf := (F (n - 1 - k)).lt
      conv => whnf
      repeat (first
        | (refine And.intro ?_ ?_; (focus (first | omega | decide | exact EqOk.mk (by kernel_rfl) (by kernel_rfl) (by kernel_rfl) | exact Int.natCast_nonneg _ | ((repeat' refine And.intro ?_ ?_) <;> first | omega | exact Int.natCast_nonneg _ | (simp only [i64max, u8max, u16max, u32max, u64max]; omega) | (simp only [mulSz_eq, Cont.len, colsLen, Col.len, List.length_cons, List.length_nil, List.length_replicate, List.length_append]; first | done | omega) | (simp [mulSz, Cont.len, bne]; first | done | omega)))); conv => whnf)
        | (refine tst_in ?_ ?_; (focus (intro h_; exfalso; first | omega | ((try simp only [decide_eq_true_eq, decide_eq_false_iff_not] at h_); omega) | (simp [mulSz, Cont.len, bne] at h_; first | done | omega))); intro _; conv => whnf)
        | (refine tst_in ?_ ?_; rotate_left; (focus (intro h_; exfalso; first | omega | ((try simp only [decide_eq_true_eq, decide_eq_false_iff_not] at h_); omega) | (simp [mulSz, Cont.len, bne] at h_; first | done | omega))); intro _; conv => whnf)
        | (refine ⟨0, (show _ = _ by omega), ?_⟩; conv => whnf))
      refine ⟨_, [], TM, ?_⟩
      conv => whnf
      iterate 2
       refine And.intro ?_ ?_
       focus
        conv => whnf
        repeat' (first | exact True.intro | rfl | refine And.intro ?_ ?_ | omega)
        all_goals (conv => whnf)
        all_goals (try (first | rfl | omega | (simp; done)))
      conv => whnf
      conv => whnf
      repeat (first
        | (refine And.intro ?_ ?_; (focus (first | omega | decide | exact EqOk.mk (by kernel_rfl) (by kernel_rfl) (by kernel_rfl) | exact Int.natCast_nonneg _ | ((repeat' refine And.intro ?_ ?_) <;> first | omega | exact Int.natCast_nonneg _ | (simp only [i64max, u8max, u16max, u32max, u64max]; omega) | (simp only [mulSz_eq, Cont.len, colsLen, Col.len, List.length_cons, List.length_nil, List.length_replicate, List.length_append]; first | done | omega) | (simp [mulSz, Cont.len, bne]; first | done | omega)))); conv => whnf)
        | (refine tst_in ?_ ?_; (focus (intro h_; exfalso; first | omega | ((try simp only [decide_eq_true_eq, decide_eq_false_iff_not] at h_); omega) | (simp [mulSz, Cont.len, bne] at h_; first | done | omega))); intro _; conv => whnf)
        | (refine tst_in ?_ ?_; rotate_left; (focus (intro h_; exfalso; first | omega | ((try simp only [decide_eq_true_eq, decide_eq_false_iff_not] at h_); omega) | (simp [mulSz, Cont.len, bne] at h_; first | done | omega))); intro _; conv => whnf)
        | (refine ⟨0, (show _ = _ by omega), ?_⟩; conv => whnf))
      rw [show (0 + ((n : Nat) - (k : Nat) - 1 : Int).toNat) = n - 1 - k by omega, hgk]
      refine ⟨⟨by omega, by omega, by rw [u8max]; omega, by rw [u8max]; omega⟩, ?_⟩
      conv => whnf
      repeat (first
        | (refine And.intro ?_ ?_; (focus (first | omega | decide | exact EqOk.mk (by kernel_rfl) (by kernel_rfl) (by kernel_rfl) | exact Int.natCast_nonneg _ | ((repeat' refine And.intro ?_ ?_) <;> first | omega | exact Int.natCast_nonneg _ | (simp only [i64max, u8max, u16max, u32max, u64max]; omega) | (simp only [mulSz_eq, Cont.len, colsLen, Col.len, List.length_cons, List.length_nil, List.length_replicate, List.length_append]; first | done | omega) | (simp [mulSz, Cont.len, bne]; first | done | omega)))); conv => whnf)
        | (refine tst_in ?_ ?_; (focus (intro h_; exfalso; first | omega | ((try simp only [decide_eq_true_eq, decide_eq_false_iff_not] at h_); omega) | (simp [mulSz, Cont.len, bne] at h_; first | done | omega))); intro _; conv => whnf)
        | (refine tst_in ?_ ?_; rotate_left; (focus (intro h_; exfalso; first | omega | ((try simp only [decide_eq_true_eq, decide_eq_false_iff_not] at h_); omega) | (simp [mulSz, Cont.len, bne] at h_; first | done | omega))); intro _; conv => whnf)
        | (refine ⟨0, (show _ = _ by omega), ?_⟩; conv => whnf))
      refine ⟨[0], (k + 1 : Nat), ?_, h, by show n - (k + 1) < n - k; omega⟩
      show stLe _ _ (st58 F A n c x (k + 1)) _
      conv => whnf
      repeat' (first | exact True.intro | rfl | refine And.intro ?_ ?_)
      all_goals (conv => whnf)
      repeat' (first | exact True.intro | rfl | refine And.intro ?_ ?_)
      all_goals (try omega)
    · have h : k = n := by have := dle_f h'; omega
      subst h
      have e : hor F k x k = As F x k := Hn_rev F x k
      conv => whnf
      repeat (first
        | (refine And.intro ?_ ?_; (focus (first | omega | decide | exact EqOk.mk (by kernel_rfl) (by kernel_rfl) (by kernel_rfl) | exact Int.natCast_nonneg _ | ((repeat' refine And.intro ?_ ?_) <;> first | omega | exact Int.natCast_nonneg _ | (simp only [i64max, u8max, u16max, u32max, u64max]; omega) | (simp only [mulSz_eq, Cont.len, colsLen, Col.len, List.length_cons, List.length_nil, List.length_replicate, List.length_append]; first | done | omega) | (simp [mulSz, Cont.len, bne]; first | done | omega)))); conv => whnf)
        | (refine tst_in ?_ ?_; (focus (intro h_; exfalso; first | omega | ((try simp only [decide_eq_true_eq, decide_eq_false_iff_not] at h_); omega) | (simp [mulSz, Cont.len, bne] at h_; first | done | omega))); intro _; conv => whnf)
        | (refine tst_in ?_ ?_; rotate_left; (focus (intro h_; exfalso; first | omega | ((try simp only [decide_eq_true_eq, decide_eq_false_iff_not] at h_); omega) | (simp [mulSz, Cont.len, bne] at h_; first | done | omega))); intro _; conv => whnf)
        | (refine ⟨0, (show _ = _ by omega), ?_⟩; conv => whnf))
      rw [e]
end Go.Proofs.Yteiblfkegnppeaa

set_option linter.unusedVariables false
set_option linter.unusedSimpArgs false
namespace Go.Proofs.Yteiblfkegnppeaa
open Go Go.Fw
theorem take_tb {α : Type} (f : Nat → α) (n : Nat) (u : List α) : List.take n (List.drop 0 (tb f n ++ u)) = tb f n := by
  rw [List.drop_zero, List.take_left' (tab_len f n)]
end Go.Proofs.Yteiblfkegnppeaa

set_option linter.unusedVariables false
set_option linter.unusedSimpArgs false
namespace Go.Proofs.Yteiblfkegnppeaa
open Go Go.Fw
/-- The product of x + X b over the first k places b but i. -/
structure Prd (X : Nat → G) (i k : Nat) (P : Nat → G) (t : Nat) : Prop where
  pol : Pol P t
  len : t = 1 + (if i < k then k - 1 else k)
  val : ∀ x, As P x t = g0 ↔ ∃ a, a < k ∧ a ≠ i ∧ X a = x
theorem Prd_0 (X : Nat → G) (i : Nat) : Prd X i 0 uP 1 := by
  refine ⟨pol_roP X 0, rfl, fun x => ⟨fun h => ?_, fun ⟨a, h, _⟩ => absurd h (Nat.not_lt_zero a)⟩⟩
  exact absurd ((roP_root X x 0).1 h) (fun ⟨a, h, _⟩ => absurd h (Nat.not_lt_zero a))
theorem pol_mulX {P : Nat → G} {t : Nat} (r : G) (h : Pol P t) (ht : 0 < t) : Pol (mulX P r) (t + 1) := by
  refine ⟨zr_mulX r h.1, fun _ => ?_⟩
  obtain ⟨s, rfl⟩ : ∃ s, t = s + 1 := ⟨t - 1, by omega⟩
  rw [Nat.add_sub_cancel, mulX_s, h.1 (s + 1) (Nat.le_refl _), m_zero, a_zero]
  exact h.2 (by omega)
theorem Prd_skip {X : Nat → G} {i : Nat} {P : Nat → G} {t : Nat} (h : Prd X i i P t) : Prd X i (i + 1) P t := by
  refine ⟨h.pol, by rw [h.len]; simp, fun x => (h.val x).trans ⟨fun ⟨a, h1, h2, h3⟩ => ⟨a, by omega, h2, h3⟩, fun ⟨a, h1, h2, h3⟩ => ⟨a, by omega, h2, h3⟩⟩⟩
theorem Prd_mul {X : Nat → G} {i k : Nat} {P : Nat → G} {t : Nat} (h : Prd X i k P t) (hk : k ≠ i) : Prd X i (k + 1) (mulX P (X k)) (t + 1) := by
  have ht : 0 < t := by rw [h.len]; omega
  refine ⟨pol_mulX _ h.pol ht, by rw [h.len]; split <;> split <;> omega, fun x => ?_⟩
  rw [mulX_As _ _ _ _ h.pol.1]
  constructor
  · intro q
    by_cases h1 : x + X k = g0
    · exact ⟨k, by omega, hk, (a_cancel h1).symm⟩
    · have h2 : As P x t = g0 := Classical.byContradiction fun w => m_nz h1 w q
      obtain ⟨a, h3, h4, h5⟩ := (h.val x).1 h2
      exact ⟨a, by omega, h4, h5⟩
  · rintro ⟨a, h1, h2, h3⟩
    rcases Nat.lt_or_ge a k with h4 | h4
    · rw [(h.val x).2 ⟨a, h4, h2, h3⟩, m_zero]
    · have : a = k := by omega
      subst this
      rw [h3, a_self, z_mul]
/-- So far: right at the first i points, nought at the others. -/
structure Lag (X Y : Nat → G) (n i : Nat) (P : Nat → G) (t : Nat) : Prop where
  pol : Pol P t
  le : t ≤ n
  val : ∀ a, a < n → As P (X a) t = if a < i then Y a else g0
theorem Lag_succ {X Y : Nat → G} {n i t s : Nat} {P p : Nat → G} (h : Lag X Y n i P t) (hd : Dis X n) (hi : i < n) (hp : Prd X i n p s) (f : G) (hf : f = Y i * iv (As p (X i) s)) (N : Nat) (hN : t ≤ N) (hN2 : N ≤ n) (hz : Zr (ps f p) N) :
    Lag X Y n (i + 1) (pa P (ps f p)) (dg (pa P (ps f p)) N) := by
  have hs : s = n := by rw [hp.len, if_pos hi]; omega
  have hz2 : Zr (pa P (ps f p)) N := zr_pa (zr_mono h.pol.1 hN) hz
  have hpl := pol_dg (pa P (ps f p)) N
  rw [ct_eq hz2] at hpl
  have hdl := dg_le (pa P (ps f p)) N
  refine ⟨hpl, by omega, fun a ha => ?_⟩
  rw [As_pol _ hpl (N := n) (by omega), As_pa, As_ps, As_le P _ h.pol.1 h.le, h.val a ha]
  have e : As p (X a) n = As p (X a) s := by rw [hs]
  rw [e]
  by_cases h1 : a = i
  · subst h1
    have hv : As p (X a) s ≠ g0 := fun q => by
      obtain ⟨b, hb, hne, e2⟩ := (hp.val (X a)).1 q
      rcases Nat.lt_trichotomy a b with g | g | g
      · exact hd a b g hb e2.symm
      · exact hne g.symm
      · exact hd b a g ha e2
    rw [if_neg (Nat.lt_irrefl a), if_pos (Nat.lt_succ_self a), hf, m_assoc, m_comm (iv _), m_iv hv, m_one, z_add]
  · rw [(hp.val (X a)).2 ⟨a, ha, h1, rfl⟩, m_zero, a_zero]
    by_cases h2 : a < i
    · rw [if_pos h2, if_pos (by omega)]
    · rw [if_neg h2, if_neg (by omega)]
theorem Lag_0 (X Y : Nat → G) (n : Nat) : Lag X Y n 0 zf 0 := ⟨pol_zf, Nat.zero_le _, fun a ha => by rw [if_neg (Nat.not_lt_zero a)]; rfl⟩
theorem Lag_end {X Y : Nat → G} {n : Nat} {P : Nat → G} {t : Nat} (h : Lag X Y n n P t) : Thr X Y n P t := ⟨h.pol, h.le, fun a ha => by rw [h.val a ha, if_pos ha]⟩
noncomputable def sn (X : Nat → G) (i k : Nat) : Bool := decide (0 < cnt X i k)
theorem sn_put (X : Nat → G) (i : Nat) : (tb (sn X i) 256).set (X i).v true = tb (sn X (i + 1)) 256 := by
  refine tab_ext false (by rw [List.length_set, tab_len]) fun k hk => ?_
  rw [g_set, tab_len]
  have := (X i).lt
  show _ = decide (0 < (if (X i).v = k then cnt X i k + 1 else cnt X i k : Nat))
  by_cases e : (X i).v = k
  · subst e; rw [if_pos ⟨rfl, hk⟩, if_pos rfl, decide_eq_true (by omega)]
  · rw [if_neg (fun q => e q.1), if_neg e, g_tab, if_pos hk]; rfl
noncomputable def k37 : Code := (Try.f37.body).getD .skip
noncomputable def st37 (X : Nat → G) (A B : List Int) (n c i : Nat) : St := ⟨slotsAt 85 [(0, .slice 0 0 n c), (4, .ptr 1 0), (5, .int .i64 i)], [ptsS A B, .seg true (.bools (tb (sn X i) 256))]⟩
noncomputable def st37b (A B : List Int) (n c i : Nat) (P : Nat → G) (t : Nat) (tl : List Int) : St := ⟨slotsAt 85 [(0, .slice 0 0 n c), (6, .slice 1 0 t (t + tl.length)), (7, .int .i64 i)], [ptsS A B, .seg true (.ints .u8 (tb (gi P) t ++ tl))]⟩
noncomputable def st37c (A B : List Int) (n c i : Nat) (P : Nat → G) (t : Nat) (tl : List Int) (p : Nat → G) (s k : Nat) (ts : List Int) : St := ⟨slotsAt 85 [(0, .slice 0 0 n c), (6, .slice 1 0 t (t + tl.length)), (7, .int .i64 i), (8, .slice 2 0 s (s + ts.length)), (9, .int .i64 k)],
  [ptsS A B, .seg true (.ints .u8 (tb (gi P) t ++ tl)), .seg true (.ints .u8 (tb (gi p) s ++ ts))]⟩
structure LQ where
  i : Nat
  P : Nat → G
  t : Nat
  tl : List Int
  p : Nat → G
  s : Nat
  k : Nat
  ts : List Int
set_option maxHeartbeats 0 in
set_option maxRecDepth 100000 in
theorem refThrough_n (X Y : Nat → G) (A B : List Int) (n c : Nat) (hA : Rd A X n) (hB : Rd B Y n) (hlA : A.length = c) (hlB : B.length = c) (hc : n ≤ c) (hn : n ≤ 9223372036854775807) (hb : 256 < n ∨ ¬ Dis X n) :
    Fits Try.prog 37 ⟨[.slice 0 0 n c], [ptsS A B], [numOut [.dead, .seg true (.ints .u8 [])] (.tup [.slice 1 0 0 0, .int .i64 1])]⟩ := by
  refine fits_of_body (C := cfgk 1) (c := k37) (ts := [2, 3]) tokL mixedL (fun | 5 => some ⟨Nat, fun i => st37 X A B n c i, fun i => i ≤ n ∧ Dis X i, fun i => n - i⟩ | _ => none) (fun _ => none)
    Try.func37 (by kernel_rfl) (by kernel_rfl) (by kernel_rfl) (by kernel_rfl) rfl ?_
  obtain ⟨hl, hg⟩ := hA
  unfold ptsS
  conv => whnf
  repeat (first
    | (refine And.intro ?_ ?_; (focus (first | omega | decide | exact EqOk.mk (by kernel_rfl) (by kernel_rfl) (by kernel_rfl) | exact Int.natCast_nonneg _ | ((repeat' refine And.intro ?_ ?_) <;> first | omega | exact Int.natCast_nonneg _ | (simp only [i64max, u8max, u16max, u32max, u64max]; omega) | (simp only [mulSz_eq, Cont.len, colsLen, Col.len, List.length_cons, List.length_nil, List.length_replicate, List.length_append]; first | done | omega) | (simp [mulSz, Cont.len, bne]; first | done | omega)))); conv => whnf)
    | (refine tst_in ?_ ?_; (focus (intro h_; exfalso; first | omega | ((try simp only [decide_eq_true_eq, decide_eq_false_iff_not] at h_); omega) | (simp [mulSz, Cont.len, bne] at h_; first | done | omega))); intro _; conv => whnf)
    | (refine tst_in ?_ ?_; rotate_left; (focus (intro h_; exfalso; first | omega | ((try simp only [decide_eq_true_eq, decide_eq_false_iff_not] at h_); omega) | (simp [mulSz, Cont.len, bne] at h_; first | done | omega))); intro _; conv => whnf)
    | (refine ⟨0, (show _ = _ by omega), ?_⟩; conv => whnf))
  refine tst_in (fun h => ?_) (fun h' => ?_)
  · conv => whnf
    repeat (first
      | (refine And.intro ?_ ?_; (focus (first | omega | decide | exact EqOk.mk (by kernel_rfl) (by kernel_rfl) (by kernel_rfl) | exact Int.natCast_nonneg _ | ((repeat' refine And.intro ?_ ?_) <;> first | omega | exact Int.natCast_nonneg _ | (simp only [i64max, u8max, u16max, u32max, u64max]; omega) | (simp only [mulSz_eq, Cont.len, colsLen, Col.len, List.length_cons, List.length_nil, List.length_replicate, List.length_append]; first | done | omega) | (simp [mulSz, Cont.len, bne]; first | done | omega)))); conv => whnf)
      | (refine tst_in ?_ ?_; (focus (intro h_; exfalso; first | omega | ((try simp only [decide_eq_true_eq, decide_eq_false_iff_not] at h_); omega) | (simp [mulSz, Cont.len, bne] at h_; first | done | omega))); intro _; conv => whnf)
      | (refine tst_in ?_ ?_; rotate_left; (focus (intro h_; exfalso; first | omega | ((try simp only [decide_eq_true_eq, decide_eq_false_iff_not] at h_); omega) | (simp [mulSz, Cont.len, bne] at h_; first | done | omega))); intro _; conv => whnf)
      | (refine ⟨0, (show _ = _ by omega), ?_⟩; conv => whnf))
    refine .inl ⟨(), [0, 9], ?_⟩
    conv => whnf
    repeat' (first | exact True.intro | rfl | refine And.intro ?_ ?_)
    all_goals (conv => whnf)
    repeat' (first | exact True.intro | rfl | refine And.intro ?_ ?_)
    all_goals (try omega)
  · have h : n ≤ 256 := by have := dlt_f h'; omega
    conv => whnf
    repeat (first
      | (refine And.intro ?_ ?_; (focus (first | omega | decide | exact EqOk.mk (by kernel_rfl) (by kernel_rfl) (by kernel_rfl) | exact Int.natCast_nonneg _ | ((repeat' refine And.intro ?_ ?_) <;> first | omega | exact Int.natCast_nonneg _ | (simp only [i64max, u8max, u16max, u32max, u64max]; omega) | (simp only [mulSz_eq, Cont.len, colsLen, Col.len, List.length_cons, List.length_nil, List.length_replicate, List.length_append]; first | done | omega) | (simp [mulSz, Cont.len, bne]; first | done | omega)))); conv => whnf)
      | (refine tst_in ?_ ?_; (focus (intro h_; exfalso; first | omega | ((try simp only [decide_eq_true_eq, decide_eq_false_iff_not] at h_); omega) | (simp [mulSz, Cont.len, bne] at h_; first | done | omega))); intro _; conv => whnf)
      | (refine tst_in ?_ ?_; rotate_left; (focus (intro h_; exfalso; first | omega | ((try simp only [decide_eq_true_eq, decide_eq_false_iff_not] at h_); omega) | (simp [mulSz, Cont.len, bne] at h_; first | done | omega))); intro _; conv => whnf)
      | (refine ⟨0, (show _ = _ by omega), ?_⟩; conv => whnf))
    refine ⟨⟨[0, 1], (0 : Nat), ?_, Nat.zero_le _, fun a b _ hb => absurd hb (by omega)⟩, ?_⟩
    · show stLe _ _ (st37 X A B n c 0) _
      unfold st37 ptsS
      conv => whnf
      repeat' (first | exact True.intro | rfl | refine And.intro ?_ ?_)
      all_goals (conv => whnf)
      repeat' (first | exact True.intro | rfl | refine And.intro ?_ ?_)
      all_goals (try omega)
    · intro (i : Nat) ⟨hi, hD⟩
      have hi : i ≤ n := hi
      show forceSt (st37 X A B n c i) _
      unfold st37 ptsS
      conv => whnf
      repeat (first
        | (refine And.intro ?_ ?_; (focus (first | omega | decide | exact EqOk.mk (by kernel_rfl) (by kernel_rfl) (by kernel_rfl) | exact Int.natCast_nonneg _ | ((repeat' refine And.intro ?_ ?_) <;> first | omega | exact Int.natCast_nonneg _ | (simp only [i64max, u8max, u16max, u32max, u64max]; omega) | (simp only [mulSz_eq, Cont.len, colsLen, Col.len, List.length_cons, List.length_nil, List.length_replicate, List.length_append]; first | done | omega) | (simp [mulSz, Cont.len, bne]; first | done | omega)))); conv => whnf)
        | (refine tst_in ?_ ?_; (focus (intro h_; exfalso; first | omega | ((try simp only [decide_eq_true_eq, decide_eq_false_iff_not] at h_); omega) | (simp [mulSz, Cont.len, bne] at h_; first | done | omega))); intro _; conv => whnf)
        | (refine tst_in ?_ ?_; rotate_left; (focus (intro h_; exfalso; first | omega | ((try simp only [decide_eq_true_eq, decide_eq_false_iff_not] at h_); omega) | (simp [mulSz, Cont.len, bne] at h_; first | done | omega))); intro _; conv => whnf)
        | (refine ⟨0, (show _ = _ by omega), ?_⟩; conv => whnf))
      refine tst_in (fun u => ?_) (fun u' => ?_)
      · have u : i < n := by have := dlt_t u; omega
        have hgi := hg i u
        have hx := (X i).lt
        have hsi : (tb (sn X i) 256).getD (X i).v false = sn X i (X i).v := tab_get _ _ hx
        have hcc : cnt X (i + 1) (X i).v = cnt X i (X i).v + 1 := if_pos rfl
        conv => whnf
        repeat (first
          | (refine And.intro ?_ ?_; (focus (first | omega | decide | exact EqOk.mk (by kernel_rfl) (by kernel_rfl) (by kernel_rfl) | exact Int.natCast_nonneg _ | ((repeat' refine And.intro ?_ ?_) <;> first | omega | exact Int.natCast_nonneg _ | (simp only [i64max, u8max, u16max, u32max, u64max]; omega) | (simp only [mulSz_eq, Cont.len, colsLen, Col.len, List.length_cons, List.length_nil, List.length_replicate, List.length_append, hlA, hlB, tab_len]; first | done | omega) | (simp [mulSz, Cont.len, bne, hlA, hlB, tab_len]; first | done | omega)))); conv => whnf)
          | (refine tst_in ?_ ?_; (focus (intro h_; exfalso; first | omega | ((try simp only [decide_eq_true_eq, decide_eq_false_iff_not] at h_); omega) | (simp [mulSz, Cont.len, bne, hlA, hlB, tab_len] at h_; first | done | omega))); intro _; conv => whnf)
          | (refine tst_in ?_ ?_; rotate_left; (focus (intro h_; exfalso; first | omega | ((try simp only [decide_eq_true_eq, decide_eq_false_iff_not] at h_); omega) | (simp [mulSz, Cont.len, bne, hlA, hlB, tab_len] at h_; first | done | omega))); intro _; conv => whnf)
          | (refine ⟨(i), (show _ = _ by omega), ?_⟩; conv => whnf)
          | (refine ⟨(i), 0, (show _ = _ by omega), ?_⟩; conv => whnf)
          | (refine ⟨(i), 1, (show _ = _ by omega), ?_⟩; conv => whnf)
          | (refine ⟨(i), 2, (show _ = _ by omega), ?_⟩; conv => whnf)
          | (refine ⟨(i), 3, (show _ = _ by omega), ?_⟩; conv => whnf)
          | (refine ⟨(i), 4, (show _ = _ by omega), ?_⟩; conv => whnf)
          | (refine ⟨(i), 5, (show _ = _ by omega), ?_⟩; conv => whnf)
          | (refine ⟨0, (show _ = _ by omega), ?_⟩; conv => whnf))
        rw [hgi]
        have hgx : gi X i = ((X i).v : Nat) := rfl
        rw [hgx]
        refine ⟨⟨by omega, by omega⟩, ?_⟩
        conv => whnf
        repeat (first
          | (refine And.intro ?_ ?_; (focus (first | omega | decide | exact EqOk.mk (by kernel_rfl) (by kernel_rfl) (by kernel_rfl) | exact Int.natCast_nonneg _ | ((repeat' refine And.intro ?_ ?_) <;> first | omega | exact Int.natCast_nonneg _ | (simp only [i64max, u8max, u16max, u32max, u64max]; omega) | (simp only [mulSz_eq, Cont.len, colsLen, Col.len, List.length_cons, List.length_nil, List.length_replicate, List.length_append, tab_len]; first | done | omega) | (simp [mulSz, Cont.len, bne, tab_len]; first | done | omega)))); conv => whnf)
          | (refine tst_in ?_ ?_; (focus (intro h_; exfalso; first | omega | ((try simp only [decide_eq_true_eq, decide_eq_false_iff_not] at h_); omega) | (simp [mulSz, Cont.len, bne, tab_len] at h_; first | done | omega))); intro _; conv => whnf)
          | (refine tst_in ?_ ?_; rotate_left; (focus (intro h_; exfalso; first | omega | ((try simp only [decide_eq_true_eq, decide_eq_false_iff_not] at h_); omega) | (simp [mulSz, Cont.len, bne, tab_len] at h_; first | done | omega))); intro _; conv => whnf)
          | (refine ⟨(i), (show _ = _ by omega), ?_⟩; conv => whnf)
          | (refine ⟨(i), 0, (show _ = _ by omega), ?_⟩; conv => whnf)
          | (refine ⟨(i), 1, (show _ = _ by omega), ?_⟩; conv => whnf)
          | (refine ⟨(i), 2, (show _ = _ by omega), ?_⟩; conv => whnf)
          | (refine ⟨(i), 3, (show _ = _ by omega), ?_⟩; conv => whnf)
          | (refine ⟨(i), 4, (show _ = _ by omega), ?_⟩; conv => whnf)
          | (refine ⟨(i), 5, (show _ = _ by omega), ?_⟩; conv => whnf)
          | (refine ⟨0, (show _ = _ by omega), ?_⟩; conv => whnf))
        rw [show (0 + (((X i).v : Nat) : Int).toNat) = (X i).v by omega, hsi]
        refine tst_in (fun w => ?_) (fun w' => ?_)
        · conv => whnf
          repeat (first
            | (refine And.intro ?_ ?_; (focus (first | omega | decide | exact EqOk.mk (by kernel_rfl) (by kernel_rfl) (by kernel_rfl) | exact Int.natCast_nonneg _ | ((repeat' refine And.intro ?_ ?_) <;> first | omega | exact Int.natCast_nonneg _ | (simp only [i64max, u8max, u16max, u32max, u64max]; omega) | (simp only [mulSz_eq, Cont.len, colsLen, Col.len, List.length_cons, List.length_nil, List.length_replicate, List.length_append]; first | done | omega) | (simp [mulSz, Cont.len, bne]; first | done | omega)))); conv => whnf)
            | (refine tst_in ?_ ?_; (focus (intro h_; exfalso; first | omega | ((try simp only [decide_eq_true_eq, decide_eq_false_iff_not] at h_); omega) | (simp [mulSz, Cont.len, bne] at h_; first | done | omega))); intro _; conv => whnf)
            | (refine tst_in ?_ ?_; rotate_left; (focus (intro h_; exfalso; first | omega | ((try simp only [decide_eq_true_eq, decide_eq_false_iff_not] at h_); omega) | (simp [mulSz, Cont.len, bne] at h_; first | done | omega))); intro _; conv => whnf)
            | (refine ⟨0, (show _ = _ by omega), ?_⟩; conv => whnf))
          refine .inl ⟨(), [0, 9], ?_⟩
          conv => whnf
          repeat' (first | exact True.intro | rfl | refine And.intro ?_ ?_)
          all_goals (conv => whnf)
          repeat' (first | exact True.intro | rfl | refine And.intro ?_ ?_)
          all_goals (try omega)
        · have w : cnt X i (X i).v = 0 := by
            have : ¬ 0 < cnt X i (X i).v := of_decide_eq_false w'
            omega
          conv => whnf
          repeat (first
            | (refine And.intro ?_ ?_; (focus (first | omega | decide | exact EqOk.mk (by kernel_rfl) (by kernel_rfl) (by kernel_rfl) | exact Int.natCast_nonneg _ | ((repeat' refine And.intro ?_ ?_) <;> first | omega | exact Int.natCast_nonneg _ | (simp only [i64max, u8max, u16max, u32max, u64max]; omega) | (simp only [mulSz_eq, Cont.len, colsLen, Col.len, List.length_cons, List.length_nil, List.length_replicate, List.length_append, hlA, hlB, tab_len]; first | done | omega) | (simp [mulSz, Cont.len, bne, hlA, hlB, tab_len]; first | done | omega)))); conv => whnf)
            | (refine tst_in ?_ ?_; (focus (intro h_; exfalso; first | omega | ((try simp only [decide_eq_true_eq, decide_eq_false_iff_not] at h_); omega) | (simp [mulSz, Cont.len, bne, hlA, hlB, tab_len] at h_; first | done | omega))); intro _; conv => whnf)
            | (refine tst_in ?_ ?_; rotate_left; (focus (intro h_; exfalso; first | omega | ((try simp only [decide_eq_true_eq, decide_eq_false_iff_not] at h_); omega) | (simp [mulSz, Cont.len, bne, hlA, hlB, tab_len] at h_; first | done | omega))); intro _; conv => whnf)
            | (refine ⟨(i), (show _ = _ by omega), ?_⟩; conv => whnf)
            | (refine ⟨(i), 0, (show _ = _ by omega), ?_⟩; conv => whnf)
            | (refine ⟨(i), 1, (show _ = _ by omega), ?_⟩; conv => whnf)
            | (refine ⟨(i), 2, (show _ = _ by omega), ?_⟩; conv => whnf)
            | (refine ⟨(i), 3, (show _ = _ by omega), ?_⟩; conv => whnf)
            | (refine ⟨(i), 4, (show _ = _ by omega), ?_⟩; conv => whnf)
            | (refine ⟨(i), 5, (show _ = _ by omega), ?_⟩; conv => whnf)
            | (refine ⟨0, (show _ = _ by omega), ?_⟩; conv => whnf))
          rw [hgi, hgx]
          rw [show (0 + (((X i).v : Nat) : Int).toNat) = (X i).v by omega, sn_put]
          refine ⟨[0, 1], (i + 1 : Nat), ?_, ⟨u, Dis_succ hD (by omega)⟩, (by show n - (i + 1) < n - i; omega)⟩
          show stLe _ _ (st37 X A B n c (i + 1)) _
          unfold st37 ptsS
          conv => whnf
          repeat' (first | exact True.intro | rfl | refine And.intro ?_ ?_)
          all_goals (conv => whnf)
          repeat' (first | exact True.intro | rfl | refine And.intro ?_ ?_)
          all_goals (try omega)
      · have u : i = n := by have := dlt_f u'; omega
        subst u
        exact absurd hD (hb.resolve_left (by omega))
noncomputable def cfg37 (X Y : Nat → G) (A B : List Int) (n c : Nat) : Cfg := { cfgk 1 with
  dep := fun | 16 => some fun st => ⟨LQ, fun x => st37c A B n c (natAt st 7) x.P x.t x.tl x.p x.s x.k x.ts, fun x => Lag X Y n (natAt st 7) x.P x.t ∧ Prd X (natAt st 7) x.k x.p x.s ∧ x.k ≤ n, fun x => n - x.k⟩ | _ => none }
set_option maxHeartbeats 0 in
set_option maxRecDepth 100000 in
theorem refThrough_y (X Y : Nat → G) (A B : List Int) (n c : Nat) (hA : Rd A X n) (hB : Rd B Y n) (hlA : A.length = c) (hlB : B.length = c) (hc : n ≤ c) (hn : n ≤ 256) (hD : Dis X n) :
    Fits Try.prog 37 ⟨[.slice 0 0 n c], [ptsS A B], [thrOut X Y n]⟩ := by
  unfold thrOut
  refine fits_of_body (C := cfg37 X Y A B n c) (c := k37) (ts := [2, 3]) tokL mixedL (fun | 5 => some ⟨Nat, fun i => st37 X A B n c i, fun i => i ≤ n, fun i => n - i⟩ | 12 => some ⟨TQ, fun x => st37b A B n c x.i x.P x.t x.tl, fun x => x.i ≤ n ∧ Lag X Y n x.i x.P x.t, fun x => n - x.i⟩ | _ => none) (fun _ => none)
    Try.func37 (by kernel_rfl) (by kernel_rfl) (by kernel_rfl) (by kernel_rfl) rfl ?_
  obtain ⟨hl, hg⟩ := hA
  obtain ⟨hl2, hg2⟩ := hB
  unfold ptsS
  conv => whnf
  repeat (first
    | (refine And.intro ?_ ?_; (focus (first | omega | decide | exact EqOk.mk (by kernel_rfl) (by kernel_rfl) (by kernel_rfl) | exact Int.natCast_nonneg _ | ((repeat' refine And.intro ?_ ?_) <;> first | omega | exact Int.natCast_nonneg _ | (simp only [i64max, u8max, u16max, u32max, u64max]; omega) | (simp only [mulSz_eq, Cont.len, colsLen, Col.len, List.length_cons, List.length_nil, List.length_replicate, List.length_append]; first | done | omega) | (simp [mulSz, Cont.len, bne]; first | done | omega)))); conv => whnf)
    | (refine tst_in ?_ ?_; (focus (intro h_; exfalso; first | omega | ((try simp only [decide_eq_true_eq, decide_eq_false_iff_not] at h_); omega) | (simp [mulSz, Cont.len, bne] at h_; first | done | omega))); intro _; conv => whnf)
    | (refine tst_in ?_ ?_; rotate_left; (focus (intro h_; exfalso; first | omega | ((try simp only [decide_eq_true_eq, decide_eq_false_iff_not] at h_); omega) | (simp [mulSz, Cont.len, bne] at h_; first | done | omega))); intro _; conv => whnf)
    | (refine ⟨0, (show _ = _ by omega), ?_⟩; conv => whnf))
  refine ⟨⟨[0, 1], (0 : Nat), ?_, Nat.zero_le _⟩, ?_⟩
  · show stLe _ _ (st37 X A B n c 0) _
    unfold st37 ptsS
    conv => whnf
    repeat' (first | exact True.intro | rfl | refine And.intro ?_ ?_)
    all_goals (conv => whnf)
    repeat' (first | exact True.intro | rfl | refine And.intro ?_ ?_)
    all_goals (try omega)
  · intro (i : Nat) (hi : i ≤ n)
    show forceSt (st37 X A B n c i) _
    unfold st37 ptsS
    conv => whnf
    repeat (first
      | (refine And.intro ?_ ?_; (focus (first | omega | decide | exact EqOk.mk (by kernel_rfl) (by kernel_rfl) (by kernel_rfl) | exact Int.natCast_nonneg _ | ((repeat' refine And.intro ?_ ?_) <;> first | omega | exact Int.natCast_nonneg _ | (simp only [i64max, u8max, u16max, u32max, u64max]; omega) | (simp only [mulSz_eq, Cont.len, colsLen, Col.len, List.length_cons, List.length_nil, List.length_replicate, List.length_append]; first | done | omega) | (simp [mulSz, Cont.len, bne]; first | done | omega)))); conv => whnf)
      | (refine tst_in ?_ ?_; (focus (intro h_; exfalso; first | omega | ((try simp only [decide_eq_true_eq, decide_eq_false_iff_not] at h_); omega) | (simp [mulSz, Cont.len, bne] at h_; first | done | omega))); intro _; conv => whnf)
      | (refine tst_in ?_ ?_; rotate_left; (focus (intro h_; exfalso; first | omega | ((try simp only [decide_eq_true_eq, decide_eq_false_iff_not] at h_); omega) | (simp [mulSz, Cont.len, bne] at h_; first | done | omega))); intro _; conv => whnf)
      | (refine ⟨0, (show _ = _ by omega), ?_⟩; conv => whnf))
    refine tst_in (fun u => ?_) (fun u' => ?_)
    · have u : i < n := by have := dlt_t u; omega
      have hgi := hg i u
      have hx := (X i).lt
      have hsi : (tb (sn X i) 256).getD (X i).v false = sn X i (X i).v := tab_get _ _ hx
      have hcc : cnt X (i + 1) (X i).v = cnt X i (X i).v + 1 := if_pos rfl
      conv => whnf
      repeat (first
        | (refine And.intro ?_ ?_; (focus (first | omega | decide | exact EqOk.mk (by kernel_rfl) (by kernel_rfl) (by kernel_rfl) | exact Int.natCast_nonneg _ | ((repeat' refine And.intro ?_ ?_) <;> first | omega | exact Int.natCast_nonneg _ | (simp only [i64max, u8max, u16max, u32max, u64max]; omega) | (simp only [mulSz_eq, Cont.len, colsLen, Col.len, List.length_cons, List.length_nil, List.length_replicate, List.length_append, hlA, hlB, tab_len]; first | done | omega) | (simp [mulSz, Cont.len, bne, hlA, hlB, tab_len]; first | done | omega)))); conv => whnf)
        | (refine tst_in ?_ ?_; (focus (intro h_; exfalso; first | omega | ((try simp only [decide_eq_true_eq, decide_eq_false_iff_not] at h_); omega) | (simp [mulSz, Cont.len, bne, hlA, hlB, tab_len] at h_; first | done | omega))); intro _; conv => whnf)
        | (refine tst_in ?_ ?_; rotate_left; (focus (intro h_; exfalso; first | omega | ((try simp only [decide_eq_true_eq, decide_eq_false_iff_not] at h_); omega) | (simp [mulSz, Cont.len, bne, hlA, hlB, tab_len] at h_; first | done | omega))); intro _; conv => whnf)
        | (refine ⟨(i), (show _ = _ by omega), ?_⟩; conv => whnf)
        | (refine ⟨(i), 0, (show _ = _ by omega), ?_⟩; conv => whnf)
        | (refine ⟨(i), 1, (show _ = _ by omega), ?_⟩; conv => whnf)
        | (refine ⟨(i), 2, (show _ = _ by omega), ?_⟩; conv => whnf)
        | (refine ⟨(i), 3, (show _ = _ by omega), ?_⟩; conv => whnf)
        | (refine ⟨(i), 4, (show _ = _ by omega), ?_⟩; conv => whnf)
        | (refine ⟨(i), 5, (show _ = _ by omega), ?_⟩; conv => whnf)
        | (refine ⟨0, (show _ = _ by omega), ?_⟩; conv => whnf))
      rw [hgi]
      have hgx : gi X i = ((X i).v : Nat) := rfl
      rw [hgx]
      refine ⟨⟨by omega, by omega⟩, ?_⟩
      conv => whnf
      repeat (first
        | (refine And.intro ?_ ?_; (focus (first | omega | decide | exact EqOk.mk (by kernel_rfl) (by kernel_rfl) (by kernel_rfl) | exact Int.natCast_nonneg _ | ((repeat' refine And.intro ?_ ?_) <;> first | omega | exact Int.natCast_nonneg _ | (simp only [i64max, u8max, u16max, u32max, u64max]; omega) | (simp only [mulSz_eq, Cont.len, colsLen, Col.len, List.length_cons, List.length_nil, List.length_replicate, List.length_append, tab_len]; first | done | omega) | (simp [mulSz, Cont.len, bne, tab_len]; first | done | omega)))); conv => whnf)
        | (refine tst_in ?_ ?_; (focus (intro h_; exfalso; first | omega | ((try simp only [decide_eq_true_eq, decide_eq_false_iff_not] at h_); omega) | (simp [mulSz, Cont.len, bne, tab_len] at h_; first | done | omega))); intro _; conv => whnf)
        | (refine tst_in ?_ ?_; rotate_left; (focus (intro h_; exfalso; first | omega | ((try simp only [decide_eq_true_eq, decide_eq_false_iff_not] at h_); omega) | (simp [mulSz, Cont.len, bne, tab_len] at h_; first | done | omega))); intro _; conv => whnf)
        | (refine ⟨(i), (show _ = _ by omega), ?_⟩; conv => whnf)
        | (refine ⟨(i), 0, (show _ = _ by omega), ?_⟩; conv => whnf)
        | (refine ⟨(i), 1, (show _ = _ by omega), ?_⟩; conv => whnf)
        | (refine ⟨(i), 2, (show _ = _ by omega), ?_⟩; conv => whnf)
        | (refine ⟨(i), 3, (show _ = _ by omega), ?_⟩; conv => whnf)
        | (refine ⟨(i), 4, (show _ = _ by omega), ?_⟩; conv => whnf)
        | (refine ⟨(i), 5, (show _ = _ by omega), ?_⟩; conv => whnf)
        | (refine ⟨0, (show _ = _ by omega), ?_⟩; conv => whnf))
      rw [show (0 + (((X i).v : Nat) : Int).toNat) = (X i).v by omega, hsi]
      refine tst_in (fun w => ?_) (fun w' => ?_)
      · have w : 0 < cnt X i (X i).v := of_decide_eq_true w
        exact absurd hD (Dis_no u (by omega))
      · have w : cnt X i (X i).v = 0 := by
          have : ¬ 0 < cnt X i (X i).v := of_decide_eq_false w'
          omega
        conv => whnf
        repeat (first
          | (refine And.intro ?_ ?_; (focus (first | omega | decide | exact EqOk.mk (by kernel_rfl) (by kernel_rfl) (by kernel_rfl) | exact Int.natCast_nonneg _ | ((repeat' refine And.intro ?_ ?_) <;> first | omega | exact Int.natCast_nonneg _ | (simp only [i64max, u8max, u16max, u32max, u64max]; omega) | (simp only [mulSz_eq, Cont.len, colsLen, Col.len, List.length_cons, List.length_nil, List.length_replicate, List.length_append, hlA, hlB, tab_len]; first | done | omega) | (simp [mulSz, Cont.len, bne, hlA, hlB, tab_len]; first | done | omega)))); conv => whnf)
          | (refine tst_in ?_ ?_; (focus (intro h_; exfalso; first | omega | ((try simp only [decide_eq_true_eq, decide_eq_false_iff_not] at h_); omega) | (simp [mulSz, Cont.len, bne, hlA, hlB, tab_len] at h_; first | done | omega))); intro _; conv => whnf)
          | (refine tst_in ?_ ?_; rotate_left; (focus (intro h_; exfalso; first | omega | ((try simp only [decide_eq_true_eq, decide_eq_false_iff_not] at h_); omega) | (simp [mulSz, Cont.len, bne, hlA, hlB, tab_len] at h_; first | done | omega))); intro _; conv => whnf)
          | (refine ⟨(i), (show _ = _ by omega), ?_⟩; conv => whnf)
          | (refine ⟨(i), 0, (show _ = _ by omega), ?_⟩; conv => whnf)
          | (refine ⟨(i), 1, (show _ = _ by omega), ?_⟩; conv => whnf)
          | (refine ⟨(i), 2, (show _ = _ by omega), ?_⟩; conv => whnf)
          | (refine ⟨(i), 3, (show _ = _ by omega), ?_⟩; conv => whnf)
          | (refine ⟨(i), 4, (show _ = _ by omega), ?_⟩; conv => whnf)
          | (refine ⟨(i), 5, (show _ = _ by omega), ?_⟩; conv => whnf)
          | (refine ⟨0, (show _ = _ by omega), ?_⟩; conv => whnf))
        rw [hgi, hgx]
        rw [show (0 + (((X i).v : Nat) : Int).toNat) = (X i).v by omega, sn_put]
        refine ⟨[0, 1], (i + 1 : Nat), ?_, u, (by show n - (i + 1) < n - i; omega)⟩
        show stLe _ _ (st37 X A B n c (i + 1)) _
        unfold st37 ptsS
        conv => whnf
        repeat' (first | exact True.intro | rfl | refine And.intro ?_ ?_)
        all_goals (conv => whnf)
        repeat' (first | exact True.intro | rfl | refine And.intro ?_ ?_)
        all_goals (try omega)
    · conv => whnf
      repeat (first
        | (refine And.intro ?_ ?_; (focus (first | omega | decide | exact EqOk.mk (by kernel_rfl) (by kernel_rfl) (by kernel_rfl) | exact Int.natCast_nonneg _ | ((repeat' refine And.intro ?_ ?_) <;> first | omega | exact Int.natCast_nonneg _ | (simp only [i64max, u8max, u16max, u32max, u64max]; omega) | (simp only [mulSz_eq, Cont.len, colsLen, Col.len, List.length_cons, List.length_nil, List.length_replicate, List.length_append]; first | done | omega) | (simp [mulSz, Cont.len, bne]; first | done | omega)))); conv => whnf)
        | (refine tst_in ?_ ?_; (focus (intro h_; exfalso; first | omega | ((try simp only [decide_eq_true_eq, decide_eq_false_iff_not] at h_); omega) | (simp [mulSz, Cont.len, bne] at h_; first | done | omega))); intro _; conv => whnf)
        | (refine tst_in ?_ ?_; rotate_left; (focus (intro h_; exfalso; first | omega | ((try simp only [decide_eq_true_eq, decide_eq_false_iff_not] at h_); omega) | (simp [mulSz, Cont.len, bne] at h_; first | done | omega))); intro _; conv => whnf)
        | (refine ⟨0, (show _ = _ by omega), ?_⟩; conv => whnf))
      refine ⟨⟨[0, 9], (⟨0, zf, 0, []⟩ : TQ), ?_, ⟨Nat.zero_le _, Lag_0 X Y n⟩⟩, ?_⟩
      · show stLe _ _ (st37b A B n c 0 zf 0 []) _
        unfold st37b ptsS
        conv => whnf
        repeat' (first | exact True.intro | rfl | refine And.intro ?_ ?_)
        all_goals (conv => whnf)
        repeat' (first | exact True.intro | rfl | refine And.intro ?_ ?_)
        all_goals (try omega)
      · intro ⟨j, P, t, tl⟩ ⟨hj, hL⟩
        have hj : j ≤ n := hj
        have hL : Lag X Y n j P t := hL
        have htn := hL.le
        show forceSt (st37b A B n c j P t tl) _
        unfold st37b ptsS
        conv => whnf
        repeat (first
          | (refine And.intro ?_ ?_; (focus (first | omega | decide | exact EqOk.mk (by kernel_rfl) (by kernel_rfl) (by kernel_rfl) | exact Int.natCast_nonneg _ | ((repeat' refine And.intro ?_ ?_) <;> first | omega | exact Int.natCast_nonneg _ | (simp only [i64max, u8max, u16max, u32max, u64max]; omega) | (simp only [mulSz_eq, Cont.len, colsLen, Col.len, List.length_cons, List.length_nil, List.length_replicate, List.length_append]; first | done | omega) | (simp [mulSz, Cont.len, bne]; first | done | omega)))); conv => whnf)
          | (refine tst_in ?_ ?_; (focus (intro h_; exfalso; first | omega | ((try simp only [decide_eq_true_eq, decide_eq_false_iff_not] at h_); omega) | (simp [mulSz, Cont.len, bne] at h_; first | done | omega))); intro _; conv => whnf)
          | (refine tst_in ?_ ?_; rotate_left; (focus (intro h_; exfalso; first | omega | ((try simp only [decide_eq_true_eq, decide_eq_false_iff_not] at h_); omega) | (simp [mulSz, Cont.len, bne] at h_; first | done | omega))); intro _; conv => whnf)
          | (refine ⟨0, (show _ = _ by omega), ?_⟩; conv => whnf))
        refine tst_in (fun v => ?_) (fun v' => ?_)
        · have v : j < n := by have := dlt_t v; omega
          conv => whnf
          repeat (first
            | (refine And.intro ?_ ?_; (focus (first | omega | decide | exact EqOk.mk (by kernel_rfl) (by kernel_rfl) (by kernel_rfl) | exact Int.natCast_nonneg _ | ((repeat' refine And.intro ?_ ?_) <;> first | omega | exact Int.natCast_nonneg _ | (simp only [i64max, u8max, u16max, u32max, u64max]; omega) | (simp only [mulSz_eq, Cont.len, colsLen, Col.len, List.length_cons, List.length_nil, List.length_replicate, List.length_append]; first | done | omega) | (simp [mulSz, Cont.len, bne]; first | done | omega)))); conv => whnf)
            | (refine tst_in ?_ ?_; (focus (intro h_; exfalso; first | omega | ((try simp only [decide_eq_true_eq, decide_eq_false_iff_not] at h_); omega) | (simp [mulSz, Cont.len, bne] at h_; first | done | omega))); intro _; conv => whnf)
            | (refine tst_in ?_ ?_; rotate_left; (focus (intro h_; exfalso; first | omega | ((try simp only [decide_eq_true_eq, decide_eq_false_iff_not] at h_); omega) | (simp [mulSz, Cont.len, bne] at h_; first | done | omega))); intro _; conv => whnf)
            | (refine ⟨0, (show _ = _ by omega), ?_⟩; conv => whnf))
          refine ⟨⟨[0, 1, 2], (⟨0, P, t, tl, uP, 1, 0, []⟩ : LQ), ?_, ⟨hL, Prd_0 X j, Nat.zero_le _⟩⟩, ?_⟩
          · show stLe _ _ (st37c A B n c j P t tl uP 1 0 []) _
            unfold st37c ptsS
            conv => whnf
            repeat' (first | exact True.intro | rfl | refine And.intro ?_ ?_)
            all_goals (conv => whnf)
            repeat' (first | exact True.intro | rfl | refine And.intro ?_ ?_)
            all_goals (try omega)
          · intro ⟨_, P2, t2, tl2, p, s, k, ts⟩ ⟨hL2, hP2, hk⟩
            have hL2 : Lag X Y n j P2 t2 := hL2
            have hP2 : Prd X j k p s := hP2
            have hk : k ≤ n := hk
            have htn2 := hL2.le
            have hsl := hP2.len
            show forceSt (st37c A B n c j P2 t2 tl2 p s k ts) _
            unfold st37c ptsS
            conv => whnf
            repeat (first
              | (refine And.intro ?_ ?_; (focus (first | omega | decide | exact EqOk.mk (by kernel_rfl) (by kernel_rfl) (by kernel_rfl) | exact Int.natCast_nonneg _ | ((repeat' refine And.intro ?_ ?_) <;> first | omega | exact Int.natCast_nonneg _ | (simp only [i64max, u8max, u16max, u32max, u64max]; omega) | (simp only [mulSz_eq, Cont.len, colsLen, Col.len, List.length_cons, List.length_nil, List.length_replicate, List.length_append]; first | done | omega) | (simp [mulSz, Cont.len, bne]; first | done | omega)))); conv => whnf)
              | (refine tst_in ?_ ?_; (focus (intro h_; exfalso; first | omega | ((try simp only [decide_eq_true_eq, decide_eq_false_iff_not] at h_); omega) | (simp [mulSz, Cont.len, bne] at h_; first | done | omega))); intro _; conv => whnf)
              | (refine tst_in ?_ ?_; rotate_left; (focus (intro h_; exfalso; first | omega | ((try simp only [decide_eq_true_eq, decide_eq_false_iff_not] at h_); omega) | (simp [mulSz, Cont.len, bne] at h_; first | done | omega))); intro _; conv => whnf)
              | (refine ⟨0, (show _ = _ by omega), ?_⟩; conv => whnf))
            refine tst_in (fun w => ?_) (fun w' => ?_)
            · have w : k < n := by have := dlt_t w; omega
              have hgk : A.getD k 0 = ((X k).v : Nat) := hg k w
              conv => whnf
              repeat (first
                | (refine And.intro ?_ ?_; (focus (first | omega | decide | exact EqOk.mk (by kernel_rfl) (by kernel_rfl) (by kernel_rfl) | exact Int.natCast_nonneg _ | ((repeat' refine And.intro ?_ ?_) <;> first | omega | exact Int.natCast_nonneg _ | (simp only [i64max, u8max, u16max, u32max, u64max]; omega) | (simp only [mulSz_eq, Cont.len, colsLen, Col.len, List.length_cons, List.length_nil, List.length_replicate, List.length_append]; first | done | omega) | (simp [mulSz, Cont.len, bne]; first | done | omega)))); conv => whnf)
                | (refine tst_in ?_ ?_; (focus (intro h_; exfalso; first | omega | ((try simp only [decide_eq_true_eq, decide_eq_false_iff_not] at h_); omega) | (simp [mulSz, Cont.len, bne] at h_; first | done | omega))); intro _; conv => whnf)
                | (refine tst_in ?_ ?_; rotate_left; (focus (intro h_; exfalso; first | omega | ((try simp only [decide_eq_true_eq, decide_eq_false_iff_not] at h_); omega) | (simp [mulSz, Cont.len, bne] at h_; first | done | omega))); intro _; conv => whnf)
                | (refine ⟨0, (show _ = _ by omega), ?_⟩; conv => whnf))
              refine tst_in (fun q => ?_) (fun q' => ?_)
              · have q : k ≠ j := by intro e; subst e; simp at q
                have hsl2 : s ≤ k + 1 := by rw [hsl]; split <;> omega
                have PR := refproduct_f p (two (X k)) (tb (gi p) s ++ ts) [(((X k).v : Nat) : Int), 1] s (s + ts.length) 2 2 (Rd_tl _ _ _) (Rd_two (X k)) (by omega) (Nat.le_refl _) (by omega) (by omega)
                unfold proOut at PR
                rw [prod_two hP2.pol.1, dg_two, dg_pol hP2.pol (Nat.le_refl _), show plen s 2 = s + 1 from if_neg (by omega)] at PR
                conv => whnf
                repeat (first
                  | (refine And.intro ?_ ?_; (focus (first | omega | decide | exact EqOk.mk (by kernel_rfl) (by kernel_rfl) (by kernel_rfl) | exact Int.natCast_nonneg _ | ((repeat' refine And.intro ?_ ?_) <;> first | omega | exact Int.natCast_nonneg _ | (simp only [i64max, u8max, u16max, u32max, u64max]; omega) | (simp only [mulSz_eq, Cont.len, colsLen, Col.len, List.length_cons, List.length_nil, List.length_replicate, List.length_append, hlA, hlB, tab_len]; first | done | omega) | (simp [mulSz, Cont.len, bne, hlA, hlB, tab_len]; first | done | omega)))); conv => whnf)
                  | (refine tst_in ?_ ?_; (focus (intro h_; exfalso; first | omega | ((try simp only [decide_eq_true_eq, decide_eq_false_iff_not] at h_); omega) | (simp [mulSz, Cont.len, bne, hlA, hlB, tab_len] at h_; first | done | omega))); intro _; conv => whnf)
                  | (refine tst_in ?_ ?_; rotate_left; (focus (intro h_; exfalso; first | omega | ((try simp only [decide_eq_true_eq, decide_eq_false_iff_not] at h_); omega) | (simp [mulSz, Cont.len, bne, hlA, hlB, tab_len] at h_; first | done | omega))); intro _; conv => whnf)
                  | (refine ⟨(k), (show _ = _ by omega), ?_⟩; conv => whnf)
                  | (refine ⟨(k), 0, (show _ = _ by omega), ?_⟩; conv => whnf)
                  | (refine ⟨(k), 1, (show _ = _ by omega), ?_⟩; conv => whnf)
                  | (refine ⟨(k), 2, (show _ = _ by omega), ?_⟩; conv => whnf)
                  | (refine ⟨(k), 3, (show _ = _ by omega), ?_⟩; conv => whnf)
                  | (refine ⟨(k), 4, (show _ = _ by omega), ?_⟩; conv => whnf)
                  | (refine ⟨(k), 5, (show _ = _ by omega), ?_⟩; conv => whnf)
                  | (refine ⟨0, (show _ = _ by omega), ?_⟩; conv => whnf))
                rw [hgk]
                conv => whnf
                repeat (first
                  | (refine And.intro ?_ ?_; (focus (first | omega | decide | exact EqOk.mk (by kernel_rfl) (by kernel_rfl) (by kernel_rfl) | exact Int.natCast_nonneg _ | ((repeat' refine And.intro ?_ ?_) <;> first | omega | exact Int.natCast_nonneg _ | (simp only [i64max, u8max, u16max, u32max, u64max]; omega) | (simp only [mulSz_eq, Cont.len, colsLen, Col.len, List.length_cons, List.length_nil, List.length_replicate, List.length_append]; first | done | omega) | (simp [mulSz, Cont.len, bne]; first | done | omega)))); conv => whnf)
                  | (refine tst_in ?_ ?_; (focus (intro h_; exfalso; first | omega | ((try simp only [decide_eq_true_eq, decide_eq_false_iff_not] at h_); omega) | (simp [mulSz, Cont.len, bne] at h_; first | done | omega))); intro _; conv => whnf)
                  | (refine tst_in ?_ ?_; rotate_left; (focus (intro h_; exfalso; first | omega | ((try simp only [decide_eq_true_eq, decide_eq_false_iff_not] at h_); omega) | (simp [mulSz, Cont.len, bne] at h_; first | done | omega))); intro _; conv => whnf)
                  | (refine ⟨0, (show _ = _ by omega), ?_⟩; conv => whnf))
                refine ⟨_, [2, 3], PR, ?_⟩
                conv => whnf
                iterate 2
                 refine And.intro ?_ ?_
                 focus
                  conv => whnf
                  repeat' (first | exact True.intro | rfl | refine And.intro ?_ ?_)
                  all_goals (conv => whnf)
                  repeat' (first | exact True.intro | rfl | refine And.intro ?_ ?_)
                  all_goals (try (first | rfl | omega | (simp; first | done | omega)))
                conv => whnf
                refine ⟨?_, True.intro⟩
                rintro tn _
                conv => whnf
                change List Int at tn
                conv => whnf
                repeat (first
                  | (refine And.intro ?_ ?_; (focus (first | omega | decide | exact EqOk.mk (by kernel_rfl) (by kernel_rfl) (by kernel_rfl) | exact Int.natCast_nonneg _ | ((repeat' refine And.intro ?_ ?_) <;> first | omega | exact Int.natCast_nonneg _ | (simp only [i64max, u8max, u16max, u32max, u64max]; omega) | (simp only [mulSz_eq, Cont.len, colsLen, Col.len, List.length_cons, List.length_nil, List.length_replicate, List.length_append]; first | done | omega) | (simp [mulSz, Cont.len, bne]; first | done | omega)))); conv => whnf)
                  | (refine tst_in ?_ ?_; (focus (intro h_; exfalso; first | omega | ((try simp only [decide_eq_true_eq, decide_eq_false_iff_not] at h_); omega) | (simp [mulSz, Cont.len, bne] at h_; first | done | omega))); intro _; conv => whnf)
                  | (refine tst_in ?_ ?_; rotate_left; (focus (intro h_; exfalso; first | omega | ((try simp only [decide_eq_true_eq, decide_eq_false_iff_not] at h_); omega) | (simp [mulSz, Cont.len, bne] at h_; first | done | omega))); intro _; conv => whnf)
                  | (refine ⟨0, (show _ = _ by omega), ?_⟩; conv => whnf))
                refine ⟨[0, 1, 4], (⟨0, P2, t2, tl2, mulX p (X k), s + 1, k + 1, tn⟩ : LQ), ?_, ⟨hL2, Prd_mul hP2 q, w⟩, (by show n - (k + 1) < n - k; omega)⟩
                show stLe _ _ (st37c A B n c j P2 t2 tl2 (mulX p (X k)) (s + 1) (k + 1) tn) _
                unfold st37c ptsS
                conv => whnf
                repeat' (first | exact True.intro | rfl | refine And.intro ?_ ?_)
                all_goals (conv => whnf)
                repeat' (first | exact True.intro | rfl | refine And.intro ?_ ?_)
                all_goals (try omega)
              · have q : k = j := by simp at q'; omega
                subst q
                conv => whnf
                repeat (first
                  | (refine And.intro ?_ ?_; (focus (first | omega | decide | exact EqOk.mk (by kernel_rfl) (by kernel_rfl) (by kernel_rfl) | exact Int.natCast_nonneg _ | ((repeat' refine And.intro ?_ ?_) <;> first | omega | exact Int.natCast_nonneg _ | (simp only [i64max, u8max, u16max, u32max, u64max]; omega) | (simp only [mulSz_eq, Cont.len, colsLen, Col.len, List.length_cons, List.length_nil, List.length_replicate, List.length_append]; first | done | omega) | (simp [mulSz, Cont.len, bne]; first | done | omega)))); conv => whnf)
                  | (refine tst_in ?_ ?_; (focus (intro h_; exfalso; first | omega | ((try simp only [decide_eq_true_eq, decide_eq_false_iff_not] at h_); omega) | (simp [mulSz, Cont.len, bne] at h_; first | done | omega))); intro _; conv => whnf)
                  | (refine tst_in ?_ ?_; rotate_left; (focus (intro h_; exfalso; first | omega | ((try simp only [decide_eq_true_eq, decide_eq_false_iff_not] at h_); omega) | (simp [mulSz, Cont.len, bne] at h_; first | done | omega))); intro _; conv => whnf)
                  | (refine ⟨0, (show _ = _ by omega), ?_⟩; conv => whnf))
                refine ⟨[0, 1, 2], (⟨0, P2, t2, tl2, p, s, k + 1, ts⟩ : LQ), ?_, ⟨hL2, Prd_skip hP2, w⟩, (by show n - (k + 1) < n - k; omega)⟩
                show stLe _ _ (st37c A B n c k P2 t2 tl2 p s (k + 1) ts) _
                unfold st37c ptsS
                conv => whnf
                repeat' (first | exact True.intro | rfl | refine And.intro ?_ ?_)
                all_goals (conv => whnf)
                repeat' (first | exact True.intro | rfl | refine And.intro ?_ ?_)
                all_goals (try omega)
            · have w : k = n := by have := dlt_f w'; omega
              subst w
              have hsk : s = k := by rw [hsl, if_pos v]; omega
              have hgj : A.getD j 0 = ((X j).v : Nat) := hg j v
              have hgj2 : B.getD j 0 = ((Y j).v : Nat) := hg2 j v
              have AT := refat_q p (tb (gi p) s ++ ts) s (s + ts.length) (X j) (Rd_tl _ _ _) (by omega) (by omega)
              have hvz : As p (X j) s ≠ g0 := fun z => by
                obtain ⟨b, hb, hne, e2⟩ := (hP2.val (X j)).1 z
                rcases Nat.lt_trichotomy j b with g | g | g
                · exact hD j b g hb e2.symm
                · exact hne g.symm
                · exact hD b j g v e2
              have OV := refOver_g (Y j) (As p (X j) s)
              have hvz2 : (As p (X j) s).v ≠ 0 := fun z => hvz (G.ext z)
              rw [show ovG (Y j) (As p (X j) s) = Y j * iv (As p (X j) s) from if_neg hvz2, show ovE (As p (X j) s).v = 0 from if_neg hvz2] at OV
              generalize hf : Y j * iv (As p (X j) s) = f at *
              have PR := refproduct_f p (fun i => if i = 0 then f else g0) (tb (gi p) s ++ ts) [((f.v : Nat) : Int)] s (s + ts.length) 1 1 (Rd_tl _ _ _) (Rd_one f) (by omega) (Nat.le_refl _) (by omega) (by omega)
              have pP := pol_prod p (fun i => if i = 0 then f else g0) s 1
              unfold proOut at PR
              rw [prod_one hP2.pol.1] at PR pP
              have hd1 := dg_le (fun i => if i = 0 then f else g0) 1
              rw [dg_pol hP2.pol (Nat.le_refl _)] at PR pP
              have hL3 : plen s (dg (fun i => if i = 0 then f else g0) 1) ≤ s := by unfold plen; split <;> omega
              generalize plen s (dg (fun i => if i = 0 then f else g0) 1) = L at *
              have SM := fun tw : List Int => refSum_g P2 (ps f p) (tb (gi P2) t2 ++ tl2) (tb (gi (ps f p)) L ++ tw) t2 (t2 + tl2.length) L (L + tw.length) (Rd_tl _ _ _) (Rd_tl _ _ _) (by omega) (by omega) (by omega) (by omega)
              have eS : sumS P2 (ps f p) t2 L = pa P2 (ps f p) := by unfold sumS; rw [ct_eq hL2.pol.1, ct_eq pP.1]
              have hL4 := Lag_succ hL2 hD v hP2 f hf.symm (max t2 L) (by omega) (by omega) (zr_mono pP.1 (by omega))
              unfold polOutT at SM
              rw [eS, okN_y _ (by omega) (by omega), okE_y (by omega) (by omega)] at SM
              generalize pa P2 (ps f p) = P3 at *
              generalize dg P3 (max t2 L) = t3 at *
              conv => whnf
              repeat (first
                | (refine And.intro ?_ ?_; (focus (first | omega | decide | exact EqOk.mk (by kernel_rfl) (by kernel_rfl) (by kernel_rfl) | exact Int.natCast_nonneg _ | ((repeat' refine And.intro ?_ ?_) <;> first | omega | exact Int.natCast_nonneg _ | (simp only [i64max, u8max, u16max, u32max, u64max]; omega) | (simp only [mulSz_eq, Cont.len, colsLen, Col.len, List.length_cons, List.length_nil, List.length_replicate, List.length_append, hlA, hlB, tab_len]; first | done | omega) | (simp [mulSz, Cont.len, bne, hlA, hlB, tab_len]; first | done | omega)))); conv => whnf)
                | (refine tst_in ?_ ?_; (focus (intro h_; exfalso; first | omega | ((try simp only [decide_eq_true_eq, decide_eq_false_iff_not] at h_); omega) | (simp [mulSz, Cont.len, bne, hlA, hlB, tab_len] at h_; first | done | omega))); intro _; conv => whnf)
                | (refine tst_in ?_ ?_; rotate_left; (focus (intro h_; exfalso; first | omega | ((try simp only [decide_eq_true_eq, decide_eq_false_iff_not] at h_); omega) | (simp [mulSz, Cont.len, bne, hlA, hlB, tab_len] at h_; first | done | omega))); intro _; conv => whnf)
                | (refine ⟨(j), (show _ = _ by omega), ?_⟩; conv => whnf)
                | (refine ⟨(j), 0, (show _ = _ by omega), ?_⟩; conv => whnf)
                | (refine ⟨(j), 1, (show _ = _ by omega), ?_⟩; conv => whnf)
                | (refine ⟨(j), 2, (show _ = _ by omega), ?_⟩; conv => whnf)
                | (refine ⟨(j), 3, (show _ = _ by omega), ?_⟩; conv => whnf)
                | (refine ⟨(j), 4, (show _ = _ by omega), ?_⟩; conv => whnf)
                | (refine ⟨(j), 5, (show _ = _ by omega), ?_⟩; conv => whnf)
                | (refine ⟨0, (show _ = _ by omega), ?_⟩; conv => whnf))
              rw [hgj, hgj2]
              conv => whnf
              repeat (first
                | (refine And.intro ?_ ?_; (focus (first | omega | decide | exact EqOk.mk (by kernel_rfl) (by kernel_rfl) (by kernel_rfl) | exact Int.natCast_nonneg _ | ((repeat' refine And.intro ?_ ?_) <;> first | omega | exact Int.natCast_nonneg _ | (simp only [i64max, u8max, u16max, u32max, u64max]; omega) | (simp only [mulSz_eq, Cont.len, colsLen, Col.len, List.length_cons, List.length_nil, List.length_replicate, List.length_append, hlA, hlB, tab_len]; first | done | omega) | (simp [mulSz, Cont.len, bne, hlA, hlB, tab_len]; first | done | omega)))); conv => whnf)
                | (refine tst_in ?_ ?_; (focus (intro h_; exfalso; first | omega | ((try simp only [decide_eq_true_eq, decide_eq_false_iff_not] at h_); omega) | (simp [mulSz, Cont.len, bne, hlA, hlB, tab_len] at h_; first | done | omega))); intro _; conv => whnf)
                | (refine tst_in ?_ ?_; rotate_left; (focus (intro h_; exfalso; first | omega | ((try simp only [decide_eq_true_eq, decide_eq_false_iff_not] at h_); omega) | (simp [mulSz, Cont.len, bne, hlA, hlB, tab_len] at h_; first | done | omega))); intro _; conv => whnf)
                | (refine ⟨(j), (show _ = _ by omega), ?_⟩; conv => whnf)
                | (refine ⟨(j), 0, (show _ = _ by omega), ?_⟩; conv => whnf)
                | (refine ⟨(j), 1, (show _ = _ by omega), ?_⟩; conv => whnf)
                | (refine ⟨(j), 2, (show _ = _ by omega), ?_⟩; conv => whnf)
                | (refine ⟨(j), 3, (show _ = _ by omega), ?_⟩; conv => whnf)
                | (refine ⟨(j), 4, (show _ = _ by omega), ?_⟩; conv => whnf)
                | (refine ⟨(j), 5, (show _ = _ by omega), ?_⟩; conv => whnf)
                | (refine ⟨0, (show _ = _ by omega), ?_⟩; conv => whnf))
              refine ⟨_, [2], AT, ?_⟩
              conv => whnf
              iterate 2
               refine And.intro ?_ ?_
               focus
                conv => whnf
                repeat' (first | exact True.intro | rfl | refine And.intro ?_ ?_)
                all_goals (conv => whnf)
                repeat' (first | exact True.intro | rfl | refine And.intro ?_ ?_)
                all_goals (try (first | rfl | omega | (simp; first | done | omega)))
              conv => whnf
              conv => whnf
              repeat (first
                | (refine And.intro ?_ ?_; (focus (first | omega | decide | exact EqOk.mk (by kernel_rfl) (by kernel_rfl) (by kernel_rfl) | exact Int.natCast_nonneg _ | ((repeat' refine And.intro ?_ ?_) <;> first | omega | exact Int.natCast_nonneg _ | (simp only [i64max, u8max, u16max, u32max, u64max]; omega) | (simp only [mulSz_eq, Cont.len, colsLen, Col.len, List.length_cons, List.length_nil, List.length_replicate, List.length_append]; first | done | omega) | (simp [mulSz, Cont.len, bne]; first | done | omega)))); conv => whnf)
                | (refine tst_in ?_ ?_; (focus (intro h_; exfalso; first | omega | ((try simp only [decide_eq_true_eq, decide_eq_false_iff_not] at h_); omega) | (simp [mulSz, Cont.len, bne] at h_; first | done | omega))); intro _; conv => whnf)
                | (refine tst_in ?_ ?_; rotate_left; (focus (intro h_; exfalso; first | omega | ((try simp only [decide_eq_true_eq, decide_eq_false_iff_not] at h_); omega) | (simp [mulSz, Cont.len, bne] at h_; first | done | omega))); intro _; conv => whnf)
                | (refine ⟨0, (show _ = _ by omega), ?_⟩; conv => whnf))
              refine ⟨_, [], OV, ?_⟩
              conv => whnf
              iterate 2
               refine And.intro ?_ ?_
               focus
                conv => whnf
                repeat' (first | exact True.intro | rfl | refine And.intro ?_ ?_ | omega)
                all_goals (conv => whnf)
                all_goals (try (first | rfl | omega | (simp; done)))
              conv => whnf
              conv => whnf
              repeat (first
                | (refine And.intro ?_ ?_; (focus (first | omega | decide | exact EqOk.mk (by kernel_rfl) (by kernel_rfl) (by kernel_rfl) | exact Int.natCast_nonneg _ | ((repeat' refine And.intro ?_ ?_) <;> first | omega | exact Int.natCast_nonneg _ | (simp only [i64max, u8max, u16max, u32max, u64max]; omega) | (simp only [mulSz_eq, Cont.len, colsLen, Col.len, List.length_cons, List.length_nil, List.length_replicate, List.length_append]; first | done | omega) | (simp [mulSz, Cont.len, bne]; first | done | omega)))); conv => whnf)
                | (refine tst_in ?_ ?_; (focus (intro h_; exfalso; first | omega | ((try simp only [decide_eq_true_eq, decide_eq_false_iff_not] at h_); omega) | (simp [mulSz, Cont.len, bne] at h_; first | done | omega))); intro _; conv => whnf)
                | (refine tst_in ?_ ?_; rotate_left; (focus (intro h_; exfalso; first | omega | ((try simp only [decide_eq_true_eq, decide_eq_false_iff_not] at h_); omega) | (simp [mulSz, Cont.len, bne] at h_; first | done | omega))); intro _; conv => whnf)
                | (refine ⟨0, (show _ = _ by omega), ?_⟩; conv => whnf))
              refine ⟨_, [2, 3], PR, ?_⟩
              conv => whnf
              iterate 2
               refine And.intro ?_ ?_
               focus
                conv => whnf
                repeat' (first | exact True.intro | rfl | refine And.intro ?_ ?_)
                all_goals (conv => whnf)
                repeat' (first | exact True.intro | rfl | refine And.intro ?_ ?_)
                all_goals (try (first | rfl | omega | (simp; first | done | omega)))
              conv => whnf
              refine ⟨?_, True.intro⟩
              rintro tw _
              conv => whnf
              change List Int at tw
              have SM := SM tw
              conv => whnf
              repeat (first
                | (refine And.intro ?_ ?_; (focus (first | omega | decide | exact EqOk.mk (by kernel_rfl) (by kernel_rfl) (by kernel_rfl) | exact Int.natCast_nonneg _ | ((repeat' refine And.intro ?_ ?_) <;> first | omega | exact Int.natCast_nonneg _ | (simp only [i64max, u8max, u16max, u32max, u64max]; omega) | (simp only [mulSz_eq, Cont.len, colsLen, Col.len, List.length_cons, List.length_nil, List.length_replicate, List.length_append]; first | done | omega) | (simp [mulSz, Cont.len, bne]; first | done | omega)))); conv => whnf)
                | (refine tst_in ?_ ?_; (focus (intro h_; exfalso; first | omega | ((try simp only [decide_eq_true_eq, decide_eq_false_iff_not] at h_); omega) | (simp [mulSz, Cont.len, bne] at h_; first | done | omega))); intro _; conv => whnf)
                | (refine tst_in ?_ ?_; rotate_left; (focus (intro h_; exfalso; first | omega | ((try simp only [decide_eq_true_eq, decide_eq_false_iff_not] at h_); omega) | (simp [mulSz, Cont.len, bne] at h_; first | done | omega))); intro _; conv => whnf)
                | (refine ⟨0, (show _ = _ by omega), ?_⟩; conv => whnf))
              refine ⟨_, [1, 4], SM, ?_⟩
              conv => whnf
              iterate 2
               refine And.intro ?_ ?_
               focus
                conv => whnf
                repeat' (first | exact True.intro | rfl | refine And.intro ?_ ?_)
                all_goals (conv => whnf)
                repeat' (first | exact True.intro | rfl | refine And.intro ?_ ?_)
                all_goals (try (first | rfl | omega | (simp; first | done | omega)))
              conv => whnf
              refine ⟨?_, True.intro⟩
              rintro tz _
              conv => whnf
              change List Int at tz
              conv => whnf
              repeat (first
                | (refine And.intro ?_ ?_; (focus (first | omega | decide | exact EqOk.mk (by kernel_rfl) (by kernel_rfl) (by kernel_rfl) | exact Int.natCast_nonneg _ | ((repeat' refine And.intro ?_ ?_) <;> first | omega | exact Int.natCast_nonneg _ | (simp only [i64max, u8max, u16max, u32max, u64max]; omega) | (simp only [mulSz_eq, Cont.len, colsLen, Col.len, List.length_cons, List.length_nil, List.length_replicate, List.length_append]; first | done | omega) | (simp [mulSz, Cont.len, bne]; first | done | omega)))); conv => whnf)
                | (refine tst_in ?_ ?_; (focus (intro h_; exfalso; first | omega | ((try simp only [decide_eq_true_eq, decide_eq_false_iff_not] at h_); omega) | (simp [mulSz, Cont.len, bne] at h_; first | done | omega))); intro _; conv => whnf)
                | (refine tst_in ?_ ?_; rotate_left; (focus (intro h_; exfalso; first | omega | ((try simp only [decide_eq_true_eq, decide_eq_false_iff_not] at h_); omega) | (simp [mulSz, Cont.len, bne] at h_; first | done | omega))); intro _; conv => whnf)
                | (refine ⟨0, (show _ = _ by omega), ?_⟩; conv => whnf))
              refine ⟨[0, 5], (⟨j + 1, P3, t3, tz⟩ : TQ), ?_, ⟨v, hL4⟩, (by show k - (j + 1) < k - j; omega)⟩
              show stLe _ _ (st37b A B k c (j + 1) P3 t3 tz) _
              unfold st37b ptsS
              conv => whnf
              repeat' (first | exact True.intro | rfl | refine And.intro ?_ ?_)
              all_goals (conv => whnf)
              repeat' (first | exact True.intro | rfl | refine And.intro ?_ ?_)
              all_goals (try omega)
        · have v : j = n := by have := dlt_f v'; omega
          subst v
          have TR := Trim_f P (tb (gi P) t ++ tl) t (t + tl.length) (Rd_tl _ _ _) (by omega) (by omega)
          unfold trOut at TR
          rw [dg_pol hL.pol (Nat.le_refl _)] at TR
          conv => whnf
          repeat (first
            | (refine And.intro ?_ ?_; (focus (first | omega | decide | exact EqOk.mk (by kernel_rfl) (by kernel_rfl) (by kernel_rfl) | exact Int.natCast_nonneg _ | ((repeat' refine And.intro ?_ ?_) <;> first | omega | exact Int.natCast_nonneg _ | (simp only [i64max, u8max, u16max, u32max, u64max]; omega) | (simp only [mulSz_eq, Cont.len, colsLen, Col.len, List.length_cons, List.length_nil, List.length_replicate, List.length_append]; first | done | omega) | (simp [mulSz, Cont.len, bne]; first | done | omega)))); conv => whnf)
            | (refine tst_in ?_ ?_; (focus (intro h_; exfalso; first | omega | ((try simp only [decide_eq_true_eq, decide_eq_false_iff_not] at h_); omega) | (simp [mulSz, Cont.len, bne] at h_; first | done | omega))); intro _; conv => whnf)
            | (refine tst_in ?_ ?_; rotate_left; (focus (intro h_; exfalso; first | omega | ((try simp only [decide_eq_true_eq, decide_eq_false_iff_not] at h_); omega) | (simp [mulSz, Cont.len, bne] at h_; first | done | omega))); intro _; conv => whnf)
            | (refine ⟨0, (show _ = _ by omega), ?_⟩; conv => whnf))
          refine ⟨_, [1], TR, ?_⟩
          conv => whnf
          iterate 2
           refine And.intro ?_ ?_
           focus
            conv => whnf
            repeat' (first | exact True.intro | rfl | refine And.intro ?_ ?_)
            all_goals (conv => whnf)
            repeat' (first | exact True.intro | rfl | refine And.intro ?_ ?_)
            all_goals (try (first | rfl | omega | (simp; first | done | omega)))
          conv => whnf
          refine ⟨?_, True.intro⟩
          rintro tz _
          conv => whnf
          change List Int at tz
          conv => whnf
          repeat (first
            | (refine And.intro ?_ ?_; (focus (first | omega | decide | exact EqOk.mk (by kernel_rfl) (by kernel_rfl) (by kernel_rfl) | exact Int.natCast_nonneg _ | ((repeat' refine And.intro ?_ ?_) <;> first | omega | exact Int.natCast_nonneg _ | (simp only [i64max, u8max, u16max, u32max, u64max]; omega) | (simp only [mulSz_eq, Cont.len, colsLen, Col.len, List.length_cons, List.length_nil, List.length_replicate, List.length_append]; first | done | omega) | (simp [mulSz, Cont.len, bne]; first | done | omega)))); conv => whnf)
            | (refine tst_in ?_ ?_; (focus (intro h_; exfalso; first | omega | ((try simp only [decide_eq_true_eq, decide_eq_false_iff_not] at h_); omega) | (simp [mulSz, Cont.len, bne] at h_; first | done | omega))); intro _; conv => whnf)
            | (refine tst_in ?_ ?_; rotate_left; (focus (intro h_; exfalso; first | omega | ((try simp only [decide_eq_true_eq, decide_eq_false_iff_not] at h_); omega) | (simp [mulSz, Cont.len, bne] at h_; first | done | omega))); intro _; conv => whnf)
            | (refine ⟨0, (show _ = _ by omega), ?_⟩; conv => whnf))
          refine .inl ⟨⟨j, P, t, tz⟩, [0, 2], ?_⟩
          conv => whnf
          repeat' (first | exact True.intro | rfl | refine And.intro ?_ ?_)
          all_goals (conv => whnf)
          repeat' (first | exact True.intro | rfl | refine And.intro ?_ ?_)
          all_goals (try omega)
          exact Lag_end hL
end Go.Proofs.Yteiblfkegnppeaa

set_option linter.unusedVariables false
set_option linter.unusedSimpArgs false
namespace Go.Proofs.Yteiblfkegnppeaa
open Go Go.Fw
theorem fits_weak {P : Program} {f : FuncId} {a : List AV} {hp : List Seg} {o1 o2 : FOut} (h : Fits P f ⟨a, hp, [o1]⟩) (hw : ∀ y, o1.pp y → ∃ y2, o2.pp y2 ∧ o2.res y2 = o1.res y ∧ o2.segs y2 = o1.segs y) : Fits P f ⟨a, hp, [o2]⟩ :=
  ⟨h.1, fun w0 L ρ vs hh hd => (h.2 w0 L ρ vs hh hd).mono fun e w' ⟨o, ho, y, hy, v, ρ', e1, e2, e3, e4⟩ => by
    obtain rfl := List.mem_singleton.1 ho
    obtain ⟨y2, p, r, s⟩ := hw y hy
    exact ⟨o2, List.mem_singleton.2 rfl, y2, p, v, ρ', e1, by rw [r]; exact e2, by rw [s]; exact e3, e4⟩⟩
set_option maxHeartbeats 0 in
set_option maxRecDepth 100000 in
theorem Through_n2 (X Y : Nat → G) (A B : List Int) (n c : Nat) (hA : Rd A X n) (hB : Rd B Y n) (hlA : A.length = c) (hlB : B.length = c) (hc : n ≤ c) (hn : n ≤ 9223372036854775807) (hb : 256 < n ∨ ¬ Dis X n) :
    Fits Try.prog 33 ⟨[.slice 0 0 n c], [ptsS A B], [numOut [.dead, .seg true (.ints .u8 [])] (.tup [.slice 1 0 0 0, .int .i64 1])]⟩ := by
  refine fits_of_body (C := cfg33) (c := k33) (ts := [2, 3]) tokL mixedL (fun | 5 => some ⟨Nat, fun i => st33 X A B n c i, fun i => i ≤ n ∧ Dis X i, fun i => n - i⟩ | _ => none) (fun _ => none)
    Try.func33 (by kernel_rfl) (by kernel_rfl) (by kernel_rfl) (by kernel_rfl) rfl ?_
  obtain ⟨hl, hg⟩ := hA
  unfold ptsS
  conv => whnf
  repeat (first
    | (refine And.intro ?_ ?_; (focus (first | omega | decide | exact EqOk.mk (by kernel_rfl) (by kernel_rfl) (by kernel_rfl) | exact Int.natCast_nonneg _ | ((repeat' refine And.intro ?_ ?_) <;> first | omega | exact Int.natCast_nonneg _ | (simp only [i64max, u8max, u16max, u32max, u64max]; omega) | (simp only [mulSz_eq, Cont.len, colsLen, Col.len, List.length_cons, List.length_nil, List.length_replicate, List.length_append]; first | done | omega) | (simp [mulSz, Cont.len, bne]; first | done | omega)))); conv => whnf)
    | (refine tst_in ?_ ?_; (focus (intro h_; exfalso; first | omega | ((try simp only [decide_eq_true_eq, decide_eq_false_iff_not] at h_); omega) | (simp [mulSz, Cont.len, bne] at h_; first | done | omega))); intro _; conv => whnf)
    | (refine tst_in ?_ ?_; rotate_left; (focus (intro h_; exfalso; first | omega | ((try simp only [decide_eq_true_eq, decide_eq_false_iff_not] at h_); omega) | (simp [mulSz, Cont.len, bne] at h_; first | done | omega))); intro _; conv => whnf)
    | (refine ⟨0, (show _ = _ by omega), ?_⟩; conv => whnf))
  refine tst_in (fun h => ?_) (fun h' => ?_)
  · conv => whnf
    repeat (first
      | (refine And.intro ?_ ?_; (focus (first | omega | decide | exact EqOk.mk (by kernel_rfl) (by kernel_rfl) (by kernel_rfl) | exact Int.natCast_nonneg _ | ((repeat' refine And.intro ?_ ?_) <;> first | omega | exact Int.natCast_nonneg _ | (simp only [i64max, u8max, u16max, u32max, u64max]; omega) | (simp only [mulSz_eq, Cont.len, colsLen, Col.len, List.length_cons, List.length_nil, List.length_replicate, List.length_append]; first | done | omega) | (simp [mulSz, Cont.len, bne]; first | done | omega)))); conv => whnf)
      | (refine tst_in ?_ ?_; (focus (intro h_; exfalso; first | omega | ((try simp only [decide_eq_true_eq, decide_eq_false_iff_not] at h_); omega) | (simp [mulSz, Cont.len, bne] at h_; first | done | omega))); intro _; conv => whnf)
      | (refine tst_in ?_ ?_; rotate_left; (focus (intro h_; exfalso; first | omega | ((try simp only [decide_eq_true_eq, decide_eq_false_iff_not] at h_); omega) | (simp [mulSz, Cont.len, bne] at h_; first | done | omega))); intro _; conv => whnf)
      | (refine ⟨0, (show _ = _ by omega), ?_⟩; conv => whnf))
    refine .inl ⟨(), [0, 9], ?_⟩
    conv => whnf
    repeat' (first | exact True.intro | rfl | refine And.intro ?_ ?_)
    all_goals (conv => whnf)
    repeat' (first | exact True.intro | rfl | refine And.intro ?_ ?_)
    all_goals (try omega)
  · have h : n ≤ 256 := by have := dlt_f h'; omega
    conv => whnf
    repeat (first
      | (refine And.intro ?_ ?_; (focus (first | omega | decide | exact EqOk.mk (by kernel_rfl) (by kernel_rfl) (by kernel_rfl) | exact Int.natCast_nonneg _ | ((repeat' refine And.intro ?_ ?_) <;> first | omega | exact Int.natCast_nonneg _ | (simp only [i64max, u8max, u16max, u32max, u64max]; omega) | (simp only [mulSz_eq, Cont.len, colsLen, Col.len, List.length_cons, List.length_nil, List.length_replicate, List.length_append]; first | done | omega) | (simp [mulSz, Cont.len, bne]; first | done | omega)))); conv => whnf)
      | (refine tst_in ?_ ?_; (focus (intro h_; exfalso; first | omega | ((try simp only [decide_eq_true_eq, decide_eq_false_iff_not] at h_); omega) | (simp [mulSz, Cont.len, bne] at h_; first | done | omega))); intro _; conv => whnf)
      | (refine tst_in ?_ ?_; rotate_left; (focus (intro h_; exfalso; first | omega | ((try simp only [decide_eq_true_eq, decide_eq_false_iff_not] at h_); omega) | (simp [mulSz, Cont.len, bne] at h_; first | done | omega))); intro _; conv => whnf)
      | (refine ⟨0, (show _ = _ by omega), ?_⟩; conv => whnf))
    refine ⟨⟨[0, 1], (0 : Nat), ?_, Nat.zero_le _, fun a b _ hb => absurd hb (by omega)⟩, ?_⟩
    · show stLe _ _ (st33 X A B n c 0) _
      unfold st33 ptsS
      conv => whnf
      repeat' (first | exact True.intro | rfl | refine And.intro ?_ ?_)
      all_goals (conv => whnf)
      repeat' (first | exact True.intro | rfl | refine And.intro ?_ ?_)
      all_goals (try omega)
    · intro (i : Nat) ⟨hi, hD⟩
      have hi : i ≤ n := hi
      show forceSt (st33 X A B n c i) _
      unfold st33 ptsS
      conv => whnf
      repeat (first
        | (refine And.intro ?_ ?_; (focus (first | omega | decide | exact EqOk.mk (by kernel_rfl) (by kernel_rfl) (by kernel_rfl) | exact Int.natCast_nonneg _ | ((repeat' refine And.intro ?_ ?_) <;> first | omega | exact Int.natCast_nonneg _ | (simp only [i64max, u8max, u16max, u32max, u64max]; omega) | (simp only [mulSz_eq, Cont.len, colsLen, Col.len, List.length_cons, List.length_nil, List.length_replicate, List.length_append]; first | done | omega) | (simp [mulSz, Cont.len, bne]; first | done | omega)))); conv => whnf)
        | (refine tst_in ?_ ?_; (focus (intro h_; exfalso; first | omega | ((try simp only [decide_eq_true_eq, decide_eq_false_iff_not] at h_); omega) | (simp [mulSz, Cont.len, bne] at h_; first | done | omega))); intro _; conv => whnf)
        | (refine tst_in ?_ ?_; rotate_left; (focus (intro h_; exfalso; first | omega | ((try simp only [decide_eq_true_eq, decide_eq_false_iff_not] at h_); omega) | (simp [mulSz, Cont.len, bne] at h_; first | done | omega))); intro _; conv => whnf)
        | (refine ⟨0, (show _ = _ by omega), ?_⟩; conv => whnf))
      refine tst_in (fun u => ?_) (fun u' => ?_)
      · have u : i < n := by have := dlt_t u; omega
        have hgi := hg i u
        have hx := (X i).lt
        have hcl := cnt_le X (X i).v i
        have hci : (tb (ci X i) 256).getD (X i).v 0 = (cnt X i (X i).v : Nat) := tab_get _ _ hx
        conv => whnf
        repeat (first
          | (refine And.intro ?_ ?_; (focus (first | omega | decide | exact EqOk.mk (by kernel_rfl) (by kernel_rfl) (by kernel_rfl) | exact Int.natCast_nonneg _ | ((repeat' refine And.intro ?_ ?_) <;> first | omega | exact Int.natCast_nonneg _ | (simp only [i64max, u8max, u16max, u32max, u64max]; omega) | (simp only [mulSz_eq, Cont.len, colsLen, Col.len, List.length_cons, List.length_nil, List.length_replicate, List.length_append, hlA, hlB, tab_len]; first | done | omega) | (simp [mulSz, Cont.len, bne, hlA, hlB, tab_len]; first | done | omega)))); conv => whnf)
          | (refine tst_in ?_ ?_; (focus (intro h_; exfalso; first | omega | ((try simp only [decide_eq_true_eq, decide_eq_false_iff_not] at h_); omega) | (simp [mulSz, Cont.len, bne, hlA, hlB, tab_len] at h_; first | done | omega))); intro _; conv => whnf)
          | (refine tst_in ?_ ?_; rotate_left; (focus (intro h_; exfalso; first | omega | ((try simp only [decide_eq_true_eq, decide_eq_false_iff_not] at h_); omega) | (simp [mulSz, Cont.len, bne, hlA, hlB, tab_len] at h_; first | done | omega))); intro _; conv => whnf)
          | (refine ⟨(i), (show _ = _ by omega), ?_⟩; conv => whnf)
          | (refine ⟨(i), 0, (show _ = _ by omega), ?_⟩; conv => whnf)
          | (refine ⟨(i), 1, (show _ = _ by omega), ?_⟩; conv => whnf)
          | (refine ⟨(i), 2, (show _ = _ by omega), ?_⟩; conv => whnf)
          | (refine ⟨(i), 3, (show _ = _ by omega), ?_⟩; conv => whnf)
          | (refine ⟨(i), 4, (show _ = _ by omega), ?_⟩; conv => whnf)
          | (refine ⟨(i), 5, (show _ = _ by omega), ?_⟩; conv => whnf)
          | (refine ⟨0, (show _ = _ by omega), ?_⟩; conv => whnf))
        rw [hgi]
        have hgx : gi X i = ((X i).v : Nat) := rfl
        rw [hgx]
        refine ⟨⟨by omega, by omega⟩, ?_⟩
        conv => whnf
        repeat (first
          | (refine And.intro ?_ ?_; (focus (first | omega | decide | exact EqOk.mk (by kernel_rfl) (by kernel_rfl) (by kernel_rfl) | exact Int.natCast_nonneg _ | ((repeat' refine And.intro ?_ ?_) <;> first | omega | exact Int.natCast_nonneg _ | (simp only [i64max, u8max, u16max, u32max, u64max]; omega) | (simp only [mulSz_eq, Cont.len, colsLen, Col.len, List.length_cons, List.length_nil, List.length_replicate, List.length_append, tab_len]; first | done | omega) | (simp [mulSz, Cont.len, bne, tab_len]; first | done | omega)))); conv => whnf)
          | (refine tst_in ?_ ?_; (focus (intro h_; exfalso; first | omega | ((try simp only [decide_eq_true_eq, decide_eq_false_iff_not] at h_); omega) | (simp [mulSz, Cont.len, bne, tab_len] at h_; first | done | omega))); intro _; conv => whnf)
          | (refine tst_in ?_ ?_; rotate_left; (focus (intro h_; exfalso; first | omega | ((try simp only [decide_eq_true_eq, decide_eq_false_iff_not] at h_); omega) | (simp [mulSz, Cont.len, bne, tab_len] at h_; first | done | omega))); intro _; conv => whnf)
          | (refine ⟨(i), (show _ = _ by omega), ?_⟩; conv => whnf)
          | (refine ⟨(i), 0, (show _ = _ by omega), ?_⟩; conv => whnf)
          | (refine ⟨(i), 1, (show _ = _ by omega), ?_⟩; conv => whnf)
          | (refine ⟨(i), 2, (show _ = _ by omega), ?_⟩; conv => whnf)
          | (refine ⟨(i), 3, (show _ = _ by omega), ?_⟩; conv => whnf)
          | (refine ⟨(i), 4, (show _ = _ by omega), ?_⟩; conv => whnf)
          | (refine ⟨(i), 5, (show _ = _ by omega), ?_⟩; conv => whnf)
          | (refine ⟨0, (show _ = _ by omega), ?_⟩; conv => whnf))
        rw [show (0 + (((X i).v : Nat) : Int).toNat) = (X i).v by omega, hci]
        conv => whnf
        repeat (first
          | (refine And.intro ?_ ?_; (focus (first | omega | decide | exact EqOk.mk (by kernel_rfl) (by kernel_rfl) (by kernel_rfl) | exact Int.natCast_nonneg _ | ((repeat' refine And.intro ?_ ?_) <;> first | omega | exact Int.natCast_nonneg _ | (simp only [i64max, u8max, u16max, u32max, u64max]; omega) | (simp only [mulSz_eq, Cont.len, colsLen, Col.len, List.length_cons, List.length_nil, List.length_replicate, List.length_append, tab_len]; first | done | omega) | (simp [mulSz, Cont.len, bne, tab_len]; first | done | omega)))); conv => whnf)
          | (refine tst_in ?_ ?_; (focus (intro h_; exfalso; first | omega | ((try simp only [decide_eq_true_eq, decide_eq_false_iff_not] at h_); omega) | (simp [mulSz, Cont.len, bne, tab_len] at h_; first | done | omega))); intro _; conv => whnf)
          | (refine tst_in ?_ ?_; rotate_left; (focus (intro h_; exfalso; first | omega | ((try simp only [decide_eq_true_eq, decide_eq_false_iff_not] at h_); omega) | (simp [mulSz, Cont.len, bne, tab_len] at h_; first | done | omega))); intro _; conv => whnf)
          | (refine ⟨0, (show _ = _ by omega), ?_⟩; conv => whnf))
        have hst : ((tb (ci X i) 256).set (X i).v ((cnt X i (X i).v : Nat) + 1 : Int)).getD (X i).v 0 = (cnt X i (X i).v : Nat) + 1 := by rw [ci_put, tab_get _ _ hx]; unfold ci; rw [show cnt X (i + 1) (X i).v = cnt X i (X i).v + 1 from if_pos rfl]; omega
        rw [show (0 + (((X i).v : Nat) : Int).toNat) = (X i).v by omega, hst]
        have h2 : cnt X (i + 1) (X i).v = cnt X i (X i).v + 1 := if_pos rfl
        refine tst_in (fun w => ?_) (fun w' => ?_)
        · conv => whnf
          repeat (first
            | (refine And.intro ?_ ?_; (focus (first | omega | decide | exact EqOk.mk (by kernel_rfl) (by kernel_rfl) (by kernel_rfl) | exact Int.natCast_nonneg _ | ((repeat' refine And.intro ?_ ?_) <;> first | omega | exact Int.natCast_nonneg _ | (simp only [i64max, u8max, u16max, u32max, u64max]; omega) | (simp only [mulSz_eq, Cont.len, colsLen, Col.len, List.length_cons, List.length_nil, List.length_replicate, List.length_append]; first | done | omega) | (simp [mulSz, Cont.len, bne]; first | done | omega)))); conv => whnf)
            | (refine tst_in ?_ ?_; (focus (intro h_; exfalso; first | omega | ((try simp only [decide_eq_true_eq, decide_eq_false_iff_not] at h_); omega) | (simp [mulSz, Cont.len, bne] at h_; first | done | omega))); intro _; conv => whnf)
            | (refine tst_in ?_ ?_; rotate_left; (focus (intro h_; exfalso; first | omega | ((try simp only [decide_eq_true_eq, decide_eq_false_iff_not] at h_); omega) | (simp [mulSz, Cont.len, bne] at h_; first | done | omega))); intro _; conv => whnf)
            | (refine ⟨0, (show _ = _ by omega), ?_⟩; conv => whnf))
          refine .inl ⟨(), [0, 9], ?_⟩
          conv => whnf
          repeat' (first | exact True.intro | rfl | refine And.intro ?_ ?_)
          all_goals (conv => whnf)
          repeat' (first | exact True.intro | rfl | refine And.intro ?_ ?_)
          all_goals (try omega)
        · have w : cnt X (i + 1) (X i).v ≤ 1 := by have := dlt_f w'; omega
          rw [ci_put]
          conv => whnf
          repeat (first
            | (refine And.intro ?_ ?_; (focus (first | omega | decide | exact EqOk.mk (by kernel_rfl) (by kernel_rfl) (by kernel_rfl) | exact Int.natCast_nonneg _ | ((repeat' refine And.intro ?_ ?_) <;> first | omega | exact Int.natCast_nonneg _ | (simp only [i64max, u8max, u16max, u32max, u64max]; omega) | (simp only [mulSz_eq, Cont.len, colsLen, Col.len, List.length_cons, List.length_nil, List.length_replicate, List.length_append]; first | done | omega) | (simp [mulSz, Cont.len, bne]; first | done | omega)))); conv => whnf)
            | (refine tst_in ?_ ?_; (focus (intro h_; exfalso; first | omega | ((try simp only [decide_eq_true_eq, decide_eq_false_iff_not] at h_); omega) | (simp [mulSz, Cont.len, bne] at h_; first | done | omega))); intro _; conv => whnf)
            | (refine tst_in ?_ ?_; rotate_left; (focus (intro h_; exfalso; first | omega | ((try simp only [decide_eq_true_eq, decide_eq_false_iff_not] at h_); omega) | (simp [mulSz, Cont.len, bne] at h_; first | done | omega))); intro _; conv => whnf)
            | (refine ⟨0, (show _ = _ by omega), ?_⟩; conv => whnf))
          refine ⟨[0, 1], (i + 1 : Nat), ?_, ⟨u, Dis_succ hD w⟩, (by show n - (i + 1) < n - i; omega)⟩
          show stLe _ _ (st33 X A B n c (i + 1)) _
          unfold st33 ptsS
          conv => whnf
          repeat' (first | exact True.intro | rfl | refine And.intro ?_ ?_)
          all_goals (conv => whnf)
          repeat' (first | exact True.intro | rfl | refine And.intro ?_ ?_)
          all_goals (try omega)
      · have u : i = n := by have := dlt_f u'; omega
        subst u
        exact absurd hD (hb.resolve_left (by omega))
noncomputable def disB (X : Nat → G) (n : Nat) : Bool := @decide (Dis X n) (Classical.propDecidable _)
theorem disB_t {X : Nat → G} {n : Nat} (h : Dis X n) : disB X n = true := @decide_eq_true _ (Classical.propDecidable _) h
theorem disB_f {X : Nat → G} {n : Nat} (h : ¬ Dis X n) : disB X n = false := @decide_eq_false _ (Classical.propDecidable _) h
def dzN (b : Bool) (t : Nat) : Nat := match b with | true => t | false => 0
def dzE (b : Bool) : Int := match b with | true => 0 | false => 1
noncomputable def thrGOut (X Y : Nat → G) (n : Nat) : FOut := ⟨TQ, fun x => Dis X n → Thr X Y n x.P x.t, fun x => .tup [.slice 1 0 (dzN (disB X n) x.t) (dzN (disB X n) x.t + x.tl.length), .int .i64 (dzE (disB X n))], fun x => [.dead, .seg true (.ints .u8 (tb (gi x.P) (dzN (disB X n) x.t) ++ x.tl))]⟩
theorem Through_u (X Y : Nat → G) (A B : List Int) (n c : Nat) (hA : Rd A X n) (hB : Rd B Y n) (hlA : A.length = c) (hlB : B.length = c) (hc : n ≤ c) (hn : n ≤ 256) :
    Fits Try.prog 33 ⟨[.slice 0 0 n c], [ptsS A B], [thrGOut X Y n]⟩ := by
  by_cases h : Dis X n
  · exact fits_weak (Through_y X Y A B n c hA hB hlA hlB hc hn h) fun y hy => ⟨y, fun _ => hy, by unfold thrGOut thrOut; rw [disB_t h]; rfl, by unfold thrGOut thrOut; rw [disB_t h]; rfl⟩
  · exact fits_weak (Through_n2 X Y A B n c hA hB hlA hlB hc (by omega) (.inr h)) fun y hy => ⟨⟨0, zf, 0, []⟩, fun h2 => absurd h2 h, by unfold thrGOut; rw [disB_f h]; rfl, by unfold thrGOut; rw [disB_f h]; rfl⟩
theorem refThrough_u (X Y : Nat → G) (A B : List Int) (n c : Nat) (hA : Rd A X n) (hB : Rd B Y n) (hlA : A.length = c) (hlB : B.length = c) (hc : n ≤ c) (hn : n ≤ 256) :
    Fits Try.prog 37 ⟨[.slice 0 0 n c], [ptsS A B], [thrGOut X Y n]⟩ := by
  by_cases h : Dis X n
  · exact fits_weak (refThrough_y X Y A B n c hA hB hlA hlB hc hn h) fun y hy => ⟨y, fun _ => hy, by unfold thrGOut thrOut; rw [disB_t h]; rfl, by unfold thrGOut thrOut; rw [disB_t h]; rfl⟩
  · exact fits_weak (refThrough_n X Y A B n c hA hB hlA hlB hc (by omega) (.inr h)) fun y hy => ⟨⟨0, zf, 0, []⟩, fun h2 => absurd h2 h, by unfold thrGOut; rw [disB_f h]; rfl, by unfold thrGOut; rw [disB_f h]; rfl⟩
theorem thr_same {X Y : Nat → G} {n : Nat} {x y : TQ} (hx : Dis X n → Thr X Y n x.P x.t) (hy : Dis X n → Thr X Y n y.P y.t) : dzN (disB X n) x.t = dzN (disB X n) y.t ∧ dzN (disB X n) x.t ≤ n ∧ (∀ i, i < dzN (disB X n) y.t → y.P i = x.P i) := by
  by_cases h : Dis X n
  · have hx := hx h
    have hy := hy h
    have e : x.P = y.P := Thr_is hx h (zr_mono hy.pol.1 hy.le) fun a ha => by rw [As_le _ _ hy.pol.1 hy.le]; exact hy.val a ha
    have e2 : x.t = y.t := by
      have h1 := hx.pol
      rw [e] at h1
      exact pol_uniq h1 hy.pol
    rw [disB_t h]
    exact ⟨e2, hx.le, fun i _ => by rw [e]⟩
  · rw [disB_f h]
    exact ⟨rfl, Nat.zero_le _, fun i hi => absurd hi (Nat.not_lt_zero i)⟩
end Go.Proofs.Yteiblfkegnppeaa

set_option linter.unusedVariables false
set_option linter.unusedSimpArgs false
namespace Go.Proofs.Yteiblfkegnppeaa
open Go Go.Fw
theorem Same_q2 (F : Nat → G) (A B : List Int) (n n' c d : Nat) (e : n = n') (hA : Rd A F n) (hB : Rd B F n') (hc : n ≤ c) (hd : n' ≤ d) (hn : n ≤ 9223372036854775807) : QFits Try.prog 38 ⟨[.slice 0 0 n c, .slice 1 0 n' d], [.seg false (.ints .u8 A), .seg false (.ints .u8 B)], .bool true⟩ := by
  subst e; exact Same_q F A B n c d hA hB hc hd hn
noncomputable def k8 : Code := (Try.f8.body).getD .skip
noncomputable def ptO (X Y : Nat → G) (i : Nat) (u v : List Int) : Seg := .seg true (.cols [.ints .u8 (tb (gi X) i ++ u), .ints .u8 (tb (gi Y) i ++ v)])
structure PQ where
  i : Nat
  u1 : List Int
  u2 : List Int
  v1 : List Int
  v2 : List Int
noncomputable def st8 (X Y : Nat → G) (A B : List Int) (many : Bool) (n0 c0 i : Nat) (u1 u2 v1 v2 : List Int) : St := ⟨slotsAt 123 [(0, .slice 0 0 n0 c0), (1, .bool many), (5, .slice 1 0 i (i + u1.length)), (6, .slice 2 0 i (i + v1.length)), (7, .int .i64 i)], [ptsS A B, ptO X Y i u1 u2, ptO X Y i v1 v2]⟩
noncomputable def st8b (X Y : Nat → G) (many : Bool) (n i : Nat) (u1 u2 v1 v2 : List Int) : St := ⟨slotsAt 123 [(1, .bool many), (5, .slice 1 0 (n + 1) (n + 1 + u1.length)), (6, .slice 2 0 n (n + v1.length)), (12, .int .i64 i)], [.dead, .seg true (.cols [.ints .u8 (tb (gi X) n ++ 7 :: u1), .ints .u8 (tb (gi Y) n ++ 77 :: u2)]), ptO X Y n v1 v2]⟩
def plan8 : PlanN := .op 0 (.op 1 (.op 2 (.op 3 (.op 4 (.op 5 (.op 6 (.op 7 (.op 8 (.op 9 (.op 10 (.op 11 (.op 12 (.op 13 (.op 14 .done))))))))))))))
noncomputable def cfg8 : Cfg := { cfgk 1 with plan := fun | 6 => some (.nn plan8) | _ => none }
set_option maxHeartbeats 0 in
set_option maxRecDepth 100000 in
theorem law8 (X Y : Nat → G) (many : Bool) (A B : List Int) (n0 c0 : Nat) (hA : Rd A X n0) (hB : Rd B Y n0) (hlA : A.length = c0) (hlB : B.length = c0) (hc : n0 ≤ c0) (hn : n0 ≤ 9223372036854775807) :
    Fits Try.prog 8 ⟨[.slice 0 0 n0 c0, .bool many], [ptsS A B], [numOut [.dead] (.bool true)]⟩ := by
  obtain ⟨n, hn1⟩ : ∃ n, n = min n0 40 := ⟨_, rfl⟩
  refine fits_of_body (C := cfg8) (c := k8) (ts := [4]) tokL mixedL (fun | 4 => some ⟨PQ, fun x => st8 X Y A B many n0 c0 x.i x.u1 x.u2 x.v1 x.v2, fun x => x.i ≤ n ∧ x.u1.length = x.u2.length ∧ x.v1.length = x.v2.length, fun x => n - x.i⟩ | 14 => some ⟨PQ, fun x => st8b X Y many n x.i x.u1 x.u2 x.v1 x.v2, fun x => x.i ≤ n ∧ x.u1.length = x.u2.length ∧ x.v1.length = x.v2.length, fun x => n - x.i⟩ | _ => none) (fun _ => none)
    Try.func8 (by kernel_rfl) (by kernel_rfl) (by kernel_rfl) (by kernel_rfl) rfl ?_
  obtain ⟨hl, hg⟩ := hA
  obtain ⟨hl2, hg2⟩ := hB
  unfold ptsS
  conv => whnf
  repeat (first
    | (refine And.intro ?_ ?_; (focus (first | omega | decide | exact EqOk.mk (by kernel_rfl) (by kernel_rfl) (by kernel_rfl) | exact Int.natCast_nonneg _ | ((repeat' refine And.intro ?_ ?_) <;> first | omega | exact Int.natCast_nonneg _ | (simp only [i64max, u8max, u16max, u32max, u64max]; omega) | (simp only [mulSz_eq, Cont.len, colsLen, Col.len, List.length_cons, List.length_nil, List.length_replicate, List.length_append]; first | done | omega) | (simp [mulSz, Cont.len, bne]; first | done | omega)))); conv => whnf)
    | (refine tst_in ?_ ?_; (focus (intro h_; exfalso; first | omega | ((try simp only [decide_eq_true_eq, decide_eq_false_iff_not] at h_); omega) | (simp [mulSz, Cont.len, bne] at h_; first | done | omega))); intro _; conv => whnf)
    | (refine tst_in ?_ ?_; rotate_left; (focus (intro h_; exfalso; first | omega | ((try simp only [decide_eq_true_eq, decide_eq_false_iff_not] at h_); omega) | (simp [mulSz, Cont.len, bne] at h_; first | done | omega))); intro _; conv => whnf)
    | (refine ⟨0, (show _ = _ by omega), ?_⟩; conv => whnf))
  refine ⟨⟨[0, 9, 10], (⟨0, [], [], [], []⟩ : PQ), ?_, ⟨Nat.zero_le _, rfl, rfl⟩⟩, ?_⟩
  · show stLe _ _ (st8 X Y A B many n0 c0 0 [] [] [] []) _
    unfold st8 ptsS ptO
    conv => whnf
    repeat' (first | exact True.intro | rfl | refine And.intro ?_ ?_)
    all_goals (conv => whnf)
    repeat' (first | exact True.intro | rfl | refine And.intro ?_ ?_)
    all_goals (try omega)
  · intro ⟨i, u1, u2, v1, v2⟩ ⟨hi, hu, hv⟩
    have hi : i ≤ n := hi
    have hu : u1.length = u2.length := hu
    have hv : v1.length = v2.length := hv
    show forceSt (st8 X Y A B many n0 c0 i u1 u2 v1 v2) _
    unfold st8 ptsS ptO
    rcases Nat.lt_or_ge i n with h | h
    · have h1 : i < n0 := by omega
      have h2 : i < 40 := by omega
      have hgi : A.getD i 0 = ((X i).v : Nat) := hg i h1
      have hgi2 : B.getD i 0 = ((Y i).v : Nat) := hg2 i h1
      have hrow : ∀ (Z : Nat → G) (v : Int) (u w : List Int), v = ((Z i).v : Nat) → tb (gi Z) (i + 1) ++ w = List.take i (List.drop 0 (tb (gi Z) i ++ u)) ++ [v] ++ w := fun Z v u w hv => by
        rw [take_tb, hv, ← tab_snoc]; rfl
      conv => whnf
      repeat (first
        | (refine And.intro ?_ ?_; (focus (first | omega | decide | exact EqOk.mk (by kernel_rfl) (by kernel_rfl) (by kernel_rfl) | exact Int.natCast_nonneg _ | ((repeat' refine And.intro ?_ ?_) <;> first | omega | exact Int.natCast_nonneg _ | (simp only [i64max, u8max, u16max, u32max, u64max]; omega) | (simp only [mulSz_eq, Cont.len, colsLen, Col.len, List.length_cons, List.length_nil, List.length_replicate, List.length_append, hlA, hlB, tab_len, hu, hv]; first | done | omega) | (simp [mulSz, Cont.len, bne, hlA, hlB, tab_len, hu, hv]; first | done | omega)))); conv => whnf)
        | (refine tst_in ?_ ?_; (focus (intro h_; exfalso; first | omega | ((try simp only [decide_eq_true_eq, decide_eq_false_iff_not] at h_); omega) | (simp [mulSz, Cont.len, bne, hlA, hlB, tab_len, hu, hv] at h_; first | done | omega))); intro _; conv => whnf)
        | (refine tst_in ?_ ?_; rotate_left; (focus (intro h_; exfalso; first | omega | ((try simp only [decide_eq_true_eq, decide_eq_false_iff_not] at h_); omega) | (simp [mulSz, Cont.len, bne, hlA, hlB, tab_len, hu, hv] at h_; first | done | omega))); intro _; conv => whnf)
        | (refine ⟨(i), (show _ = _ by omega), ?_⟩; conv => whnf)
        | (refine ⟨(i), 0, (show _ = _ by omega), ?_⟩; conv => whnf)
        | (refine ⟨(i), 1, (show _ = _ by omega), ?_⟩; conv => whnf)
        | (refine ⟨(i), 2, (show _ = _ by omega), ?_⟩; conv => whnf)
        | (refine ⟨(i), 3, (show _ = _ by omega), ?_⟩; conv => whnf)
        | (refine ⟨(i), 4, (show _ = _ by omega), ?_⟩; conv => whnf)
        | (refine ⟨(i), 5, (show _ = _ by omega), ?_⟩; conv => whnf)
        | (refine ⟨0, (show _ = _ by omega), ?_⟩; conv => whnf))
      intro r w1 g1 w2 g2
      change List Int at w1 w2
      conv => whnf
      repeat (first
        | (refine And.intro ?_ ?_; (focus (first | omega | decide | exact EqOk.mk (by kernel_rfl) (by kernel_rfl) (by kernel_rfl) | exact Int.natCast_nonneg _ | ((repeat' refine And.intro ?_ ?_) <;> first | omega | exact Int.natCast_nonneg _ | (simp only [i64max, u8max, u16max, u32max, u64max]; omega) | (simp only [mulSz_eq, Cont.len, colsLen, Col.len, List.length_cons, List.length_nil, List.length_replicate, List.length_append, hlA, hlB, tab_len, hu, hv]; first | done | omega) | (simp [mulSz, Cont.len, bne, hlA, hlB, tab_len, hu, hv]; first | done | omega)))); conv => whnf)
        | (refine tst_in ?_ ?_; (focus (intro h_; exfalso; first | omega | ((try simp only [decide_eq_true_eq, decide_eq_false_iff_not] at h_); omega) | (simp [mulSz, Cont.len, bne, hlA, hlB, tab_len, hu, hv] at h_; first | done | omega))); intro _; conv => whnf)
        | (refine tst_in ?_ ?_; rotate_left; (focus (intro h_; exfalso; first | omega | ((try simp only [decide_eq_true_eq, decide_eq_false_iff_not] at h_); omega) | (simp [mulSz, Cont.len, bne, hlA, hlB, tab_len, hu, hv] at h_; first | done | omega))); intro _; conv => whnf)
        | (refine ⟨(i), (show _ = _ by omega), ?_⟩; conv => whnf)
        | (refine ⟨(i), 0, (show _ = _ by omega), ?_⟩; conv => whnf)
        | (refine ⟨(i), 1, (show _ = _ by omega), ?_⟩; conv => whnf)
        | (refine ⟨(i), 2, (show _ = _ by omega), ?_⟩; conv => whnf)
        | (refine ⟨(i), 3, (show _ = _ by omega), ?_⟩; conv => whnf)
        | (refine ⟨(i), 4, (show _ = _ by omega), ?_⟩; conv => whnf)
        | (refine ⟨(i), 5, (show _ = _ by omega), ?_⟩; conv => whnf)
        | (refine ⟨0, (show _ = _ by omega), ?_⟩; conv => whnf))
      intro r2 z1 g3 z2 g4
      change List Int at z1 z2
      conv => whnf
      repeat (first
        | (refine And.intro ?_ ?_; (focus (first | omega | decide | exact EqOk.mk (by kernel_rfl) (by kernel_rfl) (by kernel_rfl) | exact Int.natCast_nonneg _ | ((repeat' refine And.intro ?_ ?_) <;> first | omega | exact Int.natCast_nonneg _ | (simp only [i64max, u8max, u16max, u32max, u64max]; omega) | (simp only [mulSz_eq, Cont.len, colsLen, Col.len, List.length_cons, List.length_nil, List.length_replicate, List.length_append, hlA, hlB, tab_len, hu, hv]; first | done | omega) | (simp [mulSz, Cont.len, bne, hlA, hlB, tab_len, hu, hv]; first | done | omega)))); conv => whnf)
        | (refine tst_in ?_ ?_; (focus (intro h_; exfalso; first | omega | ((try simp only [decide_eq_true_eq, decide_eq_false_iff_not] at h_); omega) | (simp [mulSz, Cont.len, bne, hlA, hlB, tab_len, hu, hv] at h_; first | done | omega))); intro _; conv => whnf)
        | (refine tst_in ?_ ?_; rotate_left; (focus (intro h_; exfalso; first | omega | ((try simp only [decide_eq_true_eq, decide_eq_false_iff_not] at h_); omega) | (simp [mulSz, Cont.len, bne, hlA, hlB, tab_len, hu, hv] at h_; first | done | omega))); intro _; conv => whnf)
        | (refine ⟨(i), (show _ = _ by omega), ?_⟩; conv => whnf)
        | (refine ⟨(i), 0, (show _ = _ by omega), ?_⟩; conv => whnf)
        | (refine ⟨(i), 1, (show _ = _ by omega), ?_⟩; conv => whnf)
        | (refine ⟨(i), 2, (show _ = _ by omega), ?_⟩; conv => whnf)
        | (refine ⟨(i), 3, (show _ = _ by omega), ?_⟩; conv => whnf)
        | (refine ⟨(i), 4, (show _ = _ by omega), ?_⟩; conv => whnf)
        | (refine ⟨(i), 5, (show _ = _ by omega), ?_⟩; conv => whnf)
        | (refine ⟨0, (show _ = _ by omega), ?_⟩; conv => whnf))
      refine ⟨[0, 4, 6], (⟨i + 1, w1, w2, z1, z2⟩ : PQ), ?_, ⟨h, g1.trans g2.symm, g3.trans g4.symm⟩, (by show n - (i + 1) < n - i; omega)⟩
      show stLe _ _ (st8 X Y A B many n0 c0 (i + 1) w1 w2 z1 z2) _
      unfold st8 ptsS ptO
      conv => whnf
      repeat' (first | exact True.intro | rfl | refine And.intro ?_ ?_)
      all_goals (conv => whnf)
      repeat' (first | exact True.intro | rfl | refine And.intro ?_ ?_)
      all_goals (try omega)
      · exact hrow X _ u1 w1 hgi
      · exact hrow Y _ u2 w2 hgi2
      · exact hrow X _ v1 z1 hgi
      · exact hrow Y _ v2 z2 hgi2
    · have h : i = n := by omega
      subst h
      have eT := Through_u X Y
      have eR := refThrough_u X Y (tb (gi X) i ++ v1) (tb (gi Y) i ++ v2) i (i + v1.length) (Rd_tl _ _ _) (Rd_tl _ _ _) (by rw [List.length_append, tab_len]) (by rw [List.length_append, tab_len, hv]) (by omega) (by omega)
      unfold thrGOut ptsS at eT eR
      rcases Nat.lt_or_ge i n0 with hx | hx
      all_goals
        conv => whnf
        repeat (first
          | (refine And.intro ?_ ?_; (focus (first | omega | decide | exact EqOk.mk (by kernel_rfl) (by kernel_rfl) (by kernel_rfl) | exact Int.natCast_nonneg _ | ((repeat' refine And.intro ?_ ?_) <;> first | omega | exact Int.natCast_nonneg _ | (simp only [i64max, u8max, u16max, u32max, u64max]; omega) | (simp only [mulSz_eq, Cont.len, colsLen, Col.len, List.length_cons, List.length_nil, List.length_replicate, List.length_append, tab_len, hu, hv]; first | done | omega) | (simp [mulSz, Cont.len, bne, tab_len, hu, hv]; first | done | omega)))); conv => whnf)
          | (refine tst_in ?_ ?_; (focus (intro h_; exfalso; first | omega | ((try simp only [decide_eq_true_eq, decide_eq_false_iff_not] at h_); omega) | (simp [mulSz, Cont.len, bne, tab_len, hu, hv] at h_; first | done | omega))); intro _; conv => whnf)
          | (refine tst_in ?_ ?_; rotate_left; (focus (intro h_; exfalso; first | omega | ((try simp only [decide_eq_true_eq, decide_eq_false_iff_not] at h_); omega) | (simp [mulSz, Cont.len, bne, tab_len, hu, hv] at h_; first | done | omega))); intro _; conv => whnf)
          | (refine ⟨0, (show _ = _ by omega), ?_⟩; conv => whnf))
        intro r w1 g1 w2 g2
        change List Int at w1 w2
        have er : ∀ (Z : Nat → G) (u w : List Int) (c : Int), List.take i (List.drop 0 (tb (gi Z) i ++ u)) ++ List.take 1 (List.drop 0 [c]) ++ w = tb (gi Z) i ++ c :: w := fun Z u w c => by
          rw [take_tb, List.append_assoc]; rfl
        have eT2 := eT (tb (gi X) i ++ 7 :: w1) (tb (gi Y) i ++ 77 :: w2) i (i + 1 + r) (Rd_tl _ _ _) (Rd_tl _ _ _) (by rw [List.length_append, tab_len, List.length_cons, g1]; omega) (by rw [List.length_append, tab_len, List.length_cons, g2]; omega) (by omega) (by omega)
        have hw : w1.length = w2.length := g1.trans g2.symm
        conv => whnf
        repeat (first
          | (refine And.intro ?_ ?_; (focus (first | omega | decide | exact EqOk.mk (by kernel_rfl) (by kernel_rfl) (by kernel_rfl) | exact Int.natCast_nonneg _ | ((repeat' refine And.intro ?_ ?_) <;> first | omega | exact Int.natCast_nonneg _ | (simp only [i64max, u8max, u16max, u32max, u64max]; omega) | (simp only [mulSz_eq, Cont.len, colsLen, Col.len, List.length_cons, List.length_nil, List.length_replicate, List.length_append, tab_len, hu, hv]; first | done | omega) | (simp [mulSz, Cont.len, bne, tab_len, hu, hv]; first | done | omega)))); conv => whnf)
          | (refine tst_in ?_ ?_; (focus (intro h_; exfalso; first | omega | ((try simp only [decide_eq_true_eq, decide_eq_false_iff_not] at h_); omega) | (simp [mulSz, Cont.len, bne, tab_len, hu, hv] at h_; first | done | omega))); intro _; conv => whnf)
          | (refine tst_in ?_ ?_; rotate_left; (focus (intro h_; exfalso; first | omega | ((try simp only [decide_eq_true_eq, decide_eq_false_iff_not] at h_); omega) | (simp [mulSz, Cont.len, bne, tab_len, hu, hv] at h_; first | done | omega))); intro _; conv => whnf)
          | (refine ⟨0, (show _ = _ by omega), ?_⟩; conv => whnf))
        rw [er X u1 w1 7, er Y u2 w2 77]
        refine ⟨_, [4], eT2, ?_⟩
        conv => whnf
        iterate 2
         refine And.intro ?_ ?_
         focus
          conv => whnf
          repeat' (first | exact True.intro | rfl | refine And.intro ?_ ?_)
          all_goals (conv => whnf)
          repeat' (first | exact True.intro | rfl | refine And.intro ?_ ?_)
          all_goals (try (first | rfl | omega | (simp; first | done | omega)))
        conv => whnf
        refine ⟨?_, True.intro⟩
        rintro (x hx)
        conv => whnf
        conv => whnf
        repeat (first
          | (refine And.intro ?_ ?_; (focus (first | omega | decide | exact EqOk.mk (by kernel_rfl) (by kernel_rfl) (by kernel_rfl) | exact Int.natCast_nonneg _ | ((repeat' refine And.intro ?_ ?_) <;> first | omega | exact Int.natCast_nonneg _ | (simp only [i64max, u8max, u16max, u32max, u64max]; omega) | (simp only [mulSz_eq, Cont.len, colsLen, Col.len, List.length_cons, List.length_nil, List.length_replicate, List.length_append, tab_len, hu, hv]; first | done | omega) | (simp [mulSz, Cont.len, bne, tab_len, hu, hv]; first | done | omega)))); conv => whnf)
          | (refine tst_in ?_ ?_; (focus (intro h_; exfalso; first | omega | ((try simp only [decide_eq_true_eq, decide_eq_false_iff_not] at h_); omega) | (simp [mulSz, Cont.len, bne, tab_len, hu, hv] at h_; first | done | omega))); intro _; conv => whnf)
          | (refine tst_in ?_ ?_; rotate_left; (focus (intro h_; exfalso; first | omega | ((try simp only [decide_eq_true_eq, decide_eq_false_iff_not] at h_); omega) | (simp [mulSz, Cont.len, bne, tab_len, hu, hv] at h_; first | done | omega))); intro _; conv => whnf)
          | (refine ⟨0, (show _ = _ by omega), ?_⟩; conv => whnf))
        refine ⟨_, [2], eR, ?_⟩
        conv => whnf
        iterate 2
         refine And.intro ?_ ?_
         focus
          conv => whnf
          repeat' (first | exact True.intro | rfl | refine And.intro ?_ ?_)
          all_goals (conv => whnf)
          repeat' (first | exact True.intro | rfl | refine And.intro ?_ ?_)
          all_goals (try (first | rfl | omega | (simp; first | done | omega)))
        conv => whnf
        refine ⟨?_, True.intro⟩
        rintro (y hy)
        conv => whnf
        obtain ⟨sm1, sm2, sm3⟩ := thr_same (X := X) (Y := Y) (n := i) hx hy
        obtain ⟨x0, xP, xt, xl⟩ := x
        obtain ⟨y0, yP, yt, yl⟩ := y
        have sm1 : dzN (disB X i) xt = dzN (disB X i) yt := sm1
        have sm2 : dzN (disB X i) xt ≤ i := sm2
        have SQ := Same_q2 xP (tb (gi xP) (dzN (disB X i) xt) ++ xl) (tb (gi yP) (dzN (disB X i) yt) ++ yl) (dzN (disB X i) xt) (dzN (disB X i) yt) (dzN (disB X i) xt + xl.length) (dzN (disB X i) yt + yl.length) sm1 (Rd_tl _ _ _) (Rd_congr (Rd_tl _ _ _) sm3) (by omega) (by omega) (by omega)
        have h77 : (tb (gi Y) i ++ 77 :: w2).getD i 0 = 77 := by rw [g_app, tab_len, if_neg (by omega), Nat.sub_self]; rfl
        generalize dzE (disB X i) = E at *
        conv => whnf
        repeat (first
          | (refine And.intro ?_ ?_; (focus (first | omega | decide | exact EqOk.mk (by kernel_rfl) (by kernel_rfl) (by kernel_rfl) | exact Int.natCast_nonneg _ | ((repeat' refine And.intro ?_ ?_) <;> first | omega | exact Int.natCast_nonneg _ | (simp only [i64max, u8max, u16max, u32max, u64max]; omega) | (simp only [mulSz_eq, Cont.len, colsLen, Col.len, List.length_cons, List.length_nil, List.length_replicate, List.length_append, tab_len, hu, hv]; first | done | omega) | (simp [mulSz, Cont.len, bne, tab_len, hu, hv]; first | done | omega)))); conv => whnf)
          | (refine tst_in ?_ ?_; (focus (intro h_; exfalso; first | omega | ((try simp only [decide_eq_true_eq, decide_eq_false_iff_not] at h_); omega) | (simp [mulSz, Cont.len, bne, tab_len, hu, hv] at h_; first | done | omega))); intro _; conv => whnf)
          | (refine tst_in ?_ ?_; rotate_left; (focus (intro h_; exfalso; first | omega | ((try simp only [decide_eq_true_eq, decide_eq_false_iff_not] at h_); omega) | (simp [mulSz, Cont.len, bne, tab_len, hu, hv] at h_; first | done | omega))); intro _; conv => whnf)
          | (refine ⟨0, (show _ = _ by omega), ?_⟩; conv => whnf))
        refine ⟨_, [5, 6], SQ, ?_⟩
        conv => whnf
        iterate 2
         refine And.intro ?_ ?_
         focus
          conv => whnf
          repeat' (first | exact True.intro | rfl | refine And.intro ?_ ?_)
          all_goals (conv => whnf)
          repeat' (first | exact True.intro | rfl | refine And.intro ?_ ?_)
          all_goals (try (first | rfl | omega | (simp; first | done | omega)))
        conv => whnf
        conv => whnf
        repeat (first
          | (refine And.intro ?_ ?_; (focus (first | omega | decide | exact EqOk.mk (by kernel_rfl) (by kernel_rfl) (by kernel_rfl) | exact Int.natCast_nonneg _ | ((repeat' refine And.intro ?_ ?_) <;> first | omega | exact Int.natCast_nonneg _ | (simp only [i64max, u8max, u16max, u32max, u64max]; omega) | (simp only [mulSz_eq, Cont.len, colsLen, Col.len, List.length_cons, List.length_nil, List.length_replicate, List.length_append, tab_len, hw, hv, h77]; first | done | omega) | (simp [mulSz, Cont.len, bne, tab_len, hw, hv, h77]; first | done | omega)))); conv => whnf)
          | (refine tst_in ?_ ?_; (focus (intro h_; exfalso; first | omega | ((try simp only [decide_eq_true_eq, decide_eq_false_iff_not] at h_); omega) | (simp [mulSz, Cont.len, bne, tab_len, hw, hv, h77] at h_; first | done | omega))); intro _; conv => whnf)
          | (refine tst_in ?_ ?_; rotate_left; (focus (intro h_; exfalso; first | omega | ((try simp only [decide_eq_true_eq, decide_eq_false_iff_not] at h_); omega) | (simp [mulSz, Cont.len, bne, tab_len, hw, hv, h77] at h_; first | done | omega))); intro _; conv => whnf)
          | (refine ⟨(i), (show _ = _ by omega), ?_⟩; conv => whnf)
          | (refine ⟨(i), 0, (show _ = _ by omega), ?_⟩; conv => whnf)
          | (refine ⟨(i), 1, (show _ = _ by omega), ?_⟩; conv => whnf)
          | (refine ⟨(i), 2, (show _ = _ by omega), ?_⟩; conv => whnf)
          | (refine ⟨(i), 3, (show _ = _ by omega), ?_⟩; conv => whnf)
          | (refine ⟨(i), 4, (show _ = _ by omega), ?_⟩; conv => whnf)
          | (refine ⟨(i), 5, (show _ = _ by omega), ?_⟩; conv => whnf)
          | (refine ⟨0, (show _ = _ by omega), ?_⟩; conv => whnf))
        refine ⟨⟨[0, 4, 2], (⟨0, w1, w2, v1, v2⟩ : PQ), ?_, ⟨Nat.zero_le _, hw, hv⟩⟩, ?_⟩
        · show stLe _ _ (st8b X Y many i 0 w1 w2 v1 v2) _
          unfold st8b ptO
          rw [g1]
          conv => whnf
          repeat' (first | exact True.intro | rfl | refine And.intro ?_ ?_)
          all_goals (conv => whnf)
          repeat' (first | exact True.intro | rfl | refine And.intro ?_ ?_)
          all_goals (try omega)
        · intro ⟨j, a1, a2, b1, b2⟩ ⟨hj, ha, hb⟩
          have hj : j ≤ i := hj
          have ha : a1.length = a2.length := ha
          have hb : b1.length = b2.length := hb
          show forceSt (st8b X Y many i j a1 a2 b1 b2) _
          unfold st8b ptO
          conv => whnf
          repeat (first
            | (refine And.intro ?_ ?_; (focus (first | omega | decide | exact EqOk.mk (by kernel_rfl) (by kernel_rfl) (by kernel_rfl) | exact Int.natCast_nonneg _ | ((repeat' refine And.intro ?_ ?_) <;> first | omega | exact Int.natCast_nonneg _ | (simp only [i64max, u8max, u16max, u32max, u64max]; omega) | (simp only [mulSz_eq, Cont.len, colsLen, Col.len, List.length_cons, List.length_nil, List.length_replicate, List.length_append]; first | done | omega) | (simp [mulSz, Cont.len, bne]; first | done | omega)))); conv => whnf)
            | (refine tst_in ?_ ?_; (focus (intro h_; exfalso; first | omega | ((try simp only [decide_eq_true_eq, decide_eq_false_iff_not] at h_); omega) | (simp [mulSz, Cont.len, bne] at h_; first | done | omega))); intro _; conv => whnf)
            | (refine tst_in ?_ ?_; rotate_left; (focus (intro h_; exfalso; first | omega | ((try simp only [decide_eq_true_eq, decide_eq_false_iff_not] at h_); omega) | (simp [mulSz, Cont.len, bne] at h_; first | done | omega))); intro _; conv => whnf)
            | (refine ⟨0, (show _ = _ by omega), ?_⟩; conv => whnf))
          refine tst_in (fun q => ?_) (fun q' => ?_)
          · have q : j < i := by have := dlt_t q; omega
            have c1 : (tb (gi X) i ++ 7 :: a1).getD j 0 = gi X j := tab_app _ _ _ q
            have c2 : (tb (gi Y) i ++ 77 :: a2).getD j 0 = gi Y j := tab_app _ _ _ q
            have c3 : (tb (gi X) i ++ b1).getD j 0 = gi X j := tab_app _ _ _ q
            have c4 : (tb (gi Y) i ++ b2).getD j 0 = gi Y j := tab_app _ _ _ q
            conv => whnf
            repeat (first
              | (refine And.intro ?_ ?_; (focus (first | omega | decide | exact EqOk.mk (by kernel_rfl) (by kernel_rfl) (by kernel_rfl) | exact Int.natCast_nonneg _ | ((repeat' refine And.intro ?_ ?_) <;> first | omega | exact Int.natCast_nonneg _ | (simp only [i64max, u8max, u16max, u32max, u64max]; omega) | (simp only [mulSz_eq, Cont.len, colsLen, Col.len, List.length_cons, List.length_nil, List.length_replicate, List.length_append, tab_len, ha, hb, c1, c2, c3, c4]; first | done | omega) | (simp [mulSz, Cont.len, bne, tab_len, ha, hb, c1, c2, c3, c4]; first | done | omega)))); conv => whnf)
              | (refine tst_in ?_ ?_; (focus (intro h_; exfalso; first | omega | ((try simp only [decide_eq_true_eq, decide_eq_false_iff_not] at h_); omega) | (simp [mulSz, Cont.len, bne, tab_len, ha, hb, c1, c2, c3, c4] at h_; first | done | omega))); intro _; conv => whnf)
              | (refine tst_in ?_ ?_; rotate_left; (focus (intro h_; exfalso; first | omega | ((try simp only [decide_eq_true_eq, decide_eq_false_iff_not] at h_); omega) | (simp [mulSz, Cont.len, bne, tab_len, ha, hb, c1, c2, c3, c4] at h_; first | done | omega))); intro _; conv => whnf)
              | (refine ⟨(j), (show _ = _ by omega), ?_⟩; conv => whnf)
              | (refine ⟨(j), 0, (show _ = _ by omega), ?_⟩; conv => whnf)
              | (refine ⟨(j), 1, (show _ = _ by omega), ?_⟩; conv => whnf)
              | (refine ⟨(j), 2, (show _ = _ by omega), ?_⟩; conv => whnf)
              | (refine ⟨(j), 3, (show _ = _ by omega), ?_⟩; conv => whnf)
              | (refine ⟨(j), 4, (show _ = _ by omega), ?_⟩; conv => whnf)
              | (refine ⟨(j), 5, (show _ = _ by omega), ?_⟩; conv => whnf)
              | (refine ⟨0, (show _ = _ by omega), ?_⟩; conv => whnf))
            rw [c1, c3]
            refine tst_in (fun h_ => absurd h_ (by simp)) (fun h_ => ?_)
            conv => whnf
            repeat (first
              | (refine And.intro ?_ ?_; (focus (first | omega | decide | exact EqOk.mk (by kernel_rfl) (by kernel_rfl) (by kernel_rfl) | exact Int.natCast_nonneg _ | ((repeat' refine And.intro ?_ ?_) <;> first | omega | exact Int.natCast_nonneg _ | (simp only [i64max, u8max, u16max, u32max, u64max]; omega) | (simp only [mulSz_eq, Cont.len, colsLen, Col.len, List.length_cons, List.length_nil, List.length_replicate, List.length_append, tab_len, ha, hb, c1, c2, c3, c4]; first | done | omega) | (simp [mulSz, Cont.len, bne, tab_len, ha, hb, c1, c2, c3, c4]; first | done | omega)))); conv => whnf)
              | (refine tst_in ?_ ?_; (focus (intro h_; exfalso; first | omega | ((try simp only [decide_eq_true_eq, decide_eq_false_iff_not] at h_); omega) | (simp [mulSz, Cont.len, bne, tab_len, ha, hb, c1, c2, c3, c4] at h_; first | done | omega))); intro _; conv => whnf)
              | (refine tst_in ?_ ?_; rotate_left; (focus (intro h_; exfalso; first | omega | ((try simp only [decide_eq_true_eq, decide_eq_false_iff_not] at h_); omega) | (simp [mulSz, Cont.len, bne, tab_len, ha, hb, c1, c2, c3, c4] at h_; first | done | omega))); intro _; conv => whnf)
              | (refine ⟨(j), (show _ = _ by omega), ?_⟩; conv => whnf)
              | (refine ⟨(j), 0, (show _ = _ by omega), ?_⟩; conv => whnf)
              | (refine ⟨(j), 1, (show _ = _ by omega), ?_⟩; conv => whnf)
              | (refine ⟨(j), 2, (show _ = _ by omega), ?_⟩; conv => whnf)
              | (refine ⟨(j), 3, (show _ = _ by omega), ?_⟩; conv => whnf)
              | (refine ⟨(j), 4, (show _ = _ by omega), ?_⟩; conv => whnf)
              | (refine ⟨(j), 5, (show _ = _ by omega), ?_⟩; conv => whnf)
              | (refine ⟨0, (show _ = _ by omega), ?_⟩; conv => whnf))
            rw [c2, c4]
            refine tst_in (fun h_ => absurd h_ (by simp)) (fun h_ => ?_)
            conv => whnf
            repeat (first
              | (refine And.intro ?_ ?_; (focus (first | omega | decide | exact EqOk.mk (by kernel_rfl) (by kernel_rfl) (by kernel_rfl) | exact Int.natCast_nonneg _ | ((repeat' refine And.intro ?_ ?_) <;> first | omega | exact Int.natCast_nonneg _ | (simp only [i64max, u8max, u16max, u32max, u64max]; omega) | (simp only [mulSz_eq, Cont.len, colsLen, Col.len, List.length_cons, List.length_nil, List.length_replicate, List.length_append]; first | done | omega) | (simp [mulSz, Cont.len, bne]; first | done | omega)))); conv => whnf)
              | (refine tst_in ?_ ?_; (focus (intro h_; exfalso; first | omega | ((try simp only [decide_eq_true_eq, decide_eq_false_iff_not] at h_); omega) | (simp [mulSz, Cont.len, bne] at h_; first | done | omega))); intro _; conv => whnf)
              | (refine tst_in ?_ ?_; rotate_left; (focus (intro h_; exfalso; first | omega | ((try simp only [decide_eq_true_eq, decide_eq_false_iff_not] at h_); omega) | (simp [mulSz, Cont.len, bne] at h_; first | done | omega))); intro _; conv => whnf)
              | (refine ⟨0, (show _ = _ by omega), ?_⟩; conv => whnf))
            refine ⟨[0, 1, 2], (⟨j + 1, a1, a2, b1, b2⟩ : PQ), ?_, ⟨q, ha, hb⟩, (by show i - (j + 1) < i - j; omega)⟩
            show stLe _ _ (st8b X Y many i (j + 1) a1 a2 b1 b2) _
            unfold st8b ptO
            conv => whnf
            repeat' (first | exact True.intro | rfl | refine And.intro ?_ ?_)
            all_goals (conv => whnf)
            repeat' (first | exact True.intro | rfl | refine And.intro ?_ ?_)
            all_goals (try omega)
          · have TN := Through_n2 (fun _ => g0) (fun _ => g0) (List.replicate 257 0) (List.replicate 257 0) 257 257 ⟨by rw [List.length_replicate]; omega, fun i hi => by rw [g_rep, if_pos hi]; rfl⟩ ⟨by rw [List.length_replicate]; omega, fun i hi => by rw [g_rep, if_pos hi]; rfl⟩ List.length_replicate List.length_replicate (by omega) (by omega) (.inl (by omega))
            unfold ptsS at TN
            cases many
            · conv => whnf
              repeat (first
                | (refine And.intro ?_ ?_; (focus (first | omega | decide | exact EqOk.mk (by kernel_rfl) (by kernel_rfl) (by kernel_rfl) | exact Int.natCast_nonneg _ | ((repeat' refine And.intro ?_ ?_) <;> first | omega | exact Int.natCast_nonneg _ | (simp only [i64max, u8max, u16max, u32max, u64max]; omega) | (simp only [mulSz_eq, Cont.len, colsLen, Col.len, List.length_cons, List.length_nil, List.length_replicate, List.length_append]; first | done | omega) | (simp [mulSz, Cont.len, bne]; first | done | omega)))); conv => whnf)
                | (refine tst_in ?_ ?_; (focus (intro h_; exfalso; first | omega | ((try simp only [decide_eq_true_eq, decide_eq_false_iff_not] at h_); omega) | (simp [mulSz, Cont.len, bne] at h_; first | done | omega))); intro _; conv => whnf)
                | (refine tst_in ?_ ?_; rotate_left; (focus (intro h_; exfalso; first | omega | ((try simp only [decide_eq_true_eq, decide_eq_false_iff_not] at h_); omega) | (simp [mulSz, Cont.len, bne] at h_; first | done | omega))); intro _; conv => whnf)
                | (refine ⟨0, (show _ = _ by omega), ?_⟩; conv => whnf))
              refine ⟨_, [], awake_f, ?_⟩
              conv => whnf
              iterate 2
               refine And.intro ?_ ?_
               focus
                conv => whnf
                repeat' (first | exact True.intro | rfl | refine And.intro ?_ ?_ | omega)
                all_goals (conv => whnf)
                all_goals (try (first | rfl | omega | (simp; done)))
              conv => whnf
              refine ⟨?_, True.intro⟩
              intro _ _
              conv => whnf
              conv => whnf
              repeat (first
                | (refine And.intro ?_ ?_; (focus (first | omega | decide | exact EqOk.mk (by kernel_rfl) (by kernel_rfl) (by kernel_rfl) | exact Int.natCast_nonneg _ | ((repeat' refine And.intro ?_ ?_) <;> first | omega | exact Int.natCast_nonneg _ | (simp only [i64max, u8max, u16max, u32max, u64max]; omega) | (simp only [mulSz_eq, Cont.len, colsLen, Col.len, List.length_cons, List.length_nil, List.length_replicate, List.length_append]; first | done | omega) | (simp [mulSz, Cont.len, bne]; first | done | omega)))); conv => whnf)
                | (refine tst_in ?_ ?_; (focus (intro h_; exfalso; first | omega | ((try simp only [decide_eq_true_eq, decide_eq_false_iff_not] at h_); omega) | (simp [mulSz, Cont.len, bne] at h_; first | done | omega))); intro _; conv => whnf)
                | (refine tst_in ?_ ?_; rotate_left; (focus (intro h_; exfalso; first | omega | ((try simp only [decide_eq_true_eq, decide_eq_false_iff_not] at h_); omega) | (simp [mulSz, Cont.len, bne] at h_; first | done | omega))); intro _; conv => whnf)
                | (refine ⟨0, (show _ = _ by omega), ?_⟩; conv => whnf))
              refine .inl ⟨(), [0], ?_⟩
              conv => whnf
              repeat' (first | exact True.intro | rfl | refine And.intro ?_ ?_)
              all_goals (conv => whnf)
              repeat' (first | exact True.intro | rfl | refine And.intro ?_ ?_)
              all_goals (try omega)
              all_goals simp
            · conv => whnf
              repeat (first
                | (refine And.intro ?_ ?_; (focus (first | omega | decide | exact EqOk.mk (by kernel_rfl) (by kernel_rfl) (by kernel_rfl) | exact Int.natCast_nonneg _ | ((repeat' refine And.intro ?_ ?_) <;> first | omega | exact Int.natCast_nonneg _ | (simp only [i64max, u8max, u16max, u32max, u64max]; omega) | (simp only [mulSz_eq, Cont.len, colsLen, Col.len, List.length_cons, List.length_nil, List.length_replicate, List.length_append]; first | done | omega) | (simp [mulSz, Cont.len, bne]; first | done | omega)))); conv => whnf)
                | (refine tst_in ?_ ?_; (focus (intro h_; exfalso; first | omega | ((try simp only [decide_eq_true_eq, decide_eq_false_iff_not] at h_); omega) | (simp [mulSz, Cont.len, bne] at h_; first | done | omega))); intro _; conv => whnf)
                | (refine tst_in ?_ ?_; rotate_left; (focus (intro h_; exfalso; first | omega | ((try simp only [decide_eq_true_eq, decide_eq_false_iff_not] at h_); omega) | (simp [mulSz, Cont.len, bne] at h_; first | done | omega))); intro _; conv => whnf)
                | (refine ⟨0, (show _ = _ by omega), ?_⟩; conv => whnf))
              refine ⟨_, [3], TN, ?_⟩
              conv => whnf
              iterate 2
               refine And.intro ?_ ?_
               focus
                conv => whnf
                repeat' (first | exact True.intro | rfl | refine And.intro ?_ ?_ | omega)
                all_goals (conv => whnf)
                all_goals (try (first | rfl | omega | (simp; done)))
              conv => whnf
              refine ⟨?_, True.intro⟩
              intro _ _
              conv => whnf
              conv => whnf
              repeat (first
                | (refine And.intro ?_ ?_; (focus (first | omega | decide | exact EqOk.mk (by kernel_rfl) (by kernel_rfl) (by kernel_rfl) | exact Int.natCast_nonneg _ | ((repeat' refine And.intro ?_ ?_) <;> first | omega | exact Int.natCast_nonneg _ | (simp only [i64max, u8max, u16max, u32max, u64max]; omega) | (simp only [mulSz_eq, Cont.len, colsLen, Col.len, List.length_cons, List.length_nil, List.length_replicate, List.length_append]; first | done | omega) | (simp [mulSz, Cont.len, bne]; first | done | omega)))); conv => whnf)
                | (refine tst_in ?_ ?_; (focus (intro h_; exfalso; first | omega | ((try simp only [decide_eq_true_eq, decide_eq_false_iff_not] at h_); omega) | (simp [mulSz, Cont.len, bne] at h_; first | done | omega))); intro _; conv => whnf)
                | (refine tst_in ?_ ?_; rotate_left; (focus (intro h_; exfalso; first | omega | ((try simp only [decide_eq_true_eq, decide_eq_false_iff_not] at h_); omega) | (simp [mulSz, Cont.len, bne] at h_; first | done | omega))); intro _; conv => whnf)
                | (refine ⟨0, (show _ = _ by omega), ?_⟩; conv => whnf))
              refine ⟨_, [], awake_f, ?_⟩
              conv => whnf
              iterate 2
               refine And.intro ?_ ?_
               focus
                conv => whnf
                repeat' (first | exact True.intro | rfl | refine And.intro ?_ ?_ | omega)
                all_goals (conv => whnf)
                all_goals (try (first | rfl | omega | (simp; done)))
              conv => whnf
              refine ⟨?_, True.intro⟩
              intro _ _
              conv => whnf
              conv => whnf
              repeat (first
                | (refine And.intro ?_ ?_; (focus (first | omega | decide | exact EqOk.mk (by kernel_rfl) (by kernel_rfl) (by kernel_rfl) | exact Int.natCast_nonneg _ | ((repeat' refine And.intro ?_ ?_) <;> first | omega | exact Int.natCast_nonneg _ | (simp only [i64max, u8max, u16max, u32max, u64max]; omega) | (simp only [mulSz_eq, Cont.len, colsLen, Col.len, List.length_cons, List.length_nil, List.length_replicate, List.length_append]; first | done | omega) | (simp [mulSz, Cont.len, bne]; first | done | omega)))); conv => whnf)
                | (refine tst_in ?_ ?_; (focus (intro h_; exfalso; first | omega | ((try simp only [decide_eq_true_eq, decide_eq_false_iff_not] at h_); omega) | (simp [mulSz, Cont.len, bne] at h_; first | done | omega))); intro _; conv => whnf)
                | (refine tst_in ?_ ?_; rotate_left; (focus (intro h_; exfalso; first | omega | ((try simp only [decide_eq_true_eq, decide_eq_false_iff_not] at h_); omega) | (simp [mulSz, Cont.len, bne] at h_; first | done | omega))); intro _; conv => whnf)
                | (refine ⟨0, (show _ = _ by omega), ?_⟩; conv => whnf))
              refine .inl ⟨(), [0], ?_⟩
              conv => whnf
              repeat' (first | exact True.intro | rfl | refine And.intro ?_ ?_)
              all_goals (conv => whnf)
              repeat' (first | exact True.intro | rfl | refine And.intro ?_ ?_)
              all_goals (try omega)
              all_goals simp
theorem colsPt (g : Nat → Int × Int) (c : Nat) : (Cont.cols [.ints .u8 ((List.range c).map fun i => (g i).1), .ints .u8 ((List.range c).map fun i => (g i).2)]).avl = (Cont.avs ((List.range c).flatMap fun i => [.int .u8 (g i).1, .int .u8 (g i).2])).avl := by
  have fl : ∀ {F G : Nat → List AV} {n : Nat}, (∀ i, i < n → F i = G i) → (List.range n).flatMap F = (List.range n).flatMap G := fun {F G n} h => by
    induction n with
    | zero => rfl
    | succ n ih => rw [List.range_succ, List.flatMap_append, List.flatMap_append, ih fun i hi => h i (by omega)]; simp [h n (by omega)]
  show (List.range ((List.range c).map fun i => (g i).1).length).flatMap _ = _
  rw [show ((List.range c).map fun i => (g i).1).length = c by simp]
  refine fl fun i hi => ?_
  show [AV.int .u8 ((tb (fun i => (g i).1) c).getD i 0), AV.int .u8 ((tb (fun i => (g i).2) c).getD i 0)] = _
  rw [tab_get _ _ hi, tab_get _ _ hi]
def lawSpec8 (n0 c0 : Nat) (g : Nat → Int × Int) (many : Bool) : FSpec :=
  ⟨[.slice 0 0 n0 c0, .bool many], [.seg false (.cols [.ints .u8 ((List.range c0).map fun i => (g i).1), .ints .u8 ((List.range c0).map fun i => (g i).2)])], [⟨Unit, fun _ => True, fun _ => .bool true, fun _ => [.dead]⟩]⟩
theorem law8_m (n0 c0 : Nat) (g : Nat → Int × Int) (many : Bool) (hn0 : n0 ≤ c0) (hb0 : c0 * 2 ≤ reachBytes) (hw0 : ∀ i, i < c0 → (Lit.int .u8 (g i).1).wf = true ∧ (Lit.int .u8 (g i).2).wf = true) : Fits Try.prog 8 (lawSpec8 n0 c0 g many) :=
  law8 (fun i => toB (g i).1) (fun i => toB (g i).2) many (tb (fun i => (g i).1) c0) (tb (fun i => (g i).2) c0) n0 c0 (Rd_row _ n0 c0 hn0 fun i hi => (hw0 i hi).1) (Rd_row _ n0 c0 hn0 fun i hi => (hw0 i hi).2) (tab_len _ _) (tab_len _ _) hn0 (by unfold reachBytes at hb0; omega)
end Go.Proofs.Yteiblfkegnppeaa

namespace Go.Proofs.Yteiblfkegnppeaa
open Go Go.Fw
namespace fieldThrough
open Go.ChangeShapes Go.WideShapes Go.ChangeAt Go.RowKit
theorem own : ownKnob Try.prog.godebug = none := by kernel_rfl
theorem laid : laidOutB Try.prog = true := by kernel_rfl

set_option maxRecDepth 100000 in
theorem lifted (os : Os) (started : os.Started) (H : Type) (enc : TypeId × Value → H) :
    ReturnsInHanded {} Try.checked os 8 .any (Rows.fieldThroughSpec.pre6 enc Try.prog Try.f8 Rows.fieldThroughRow.domain false) (Rows.fieldThroughSpec.post enc Try.prog Try.f8 false true false false) := by
  refine returnsInHanded_of_change_sized (C := Try.checked) own started (by kernel_rfl) Try.func8
    (ChangeSpec.witness6 (enc := enc) (C := Try.checked) false ⟨#[], #[.slice none 0 0, .bool false], []⟩ 8 (by kernel_rfl) (by kernel_rfl) (by kernel_rfl) (by kernel_rfl)) ?_
  intro W base args ds gs before hval0 hW _ hsz0 _
  have hsz : (DataW.weightsEach Try.prog (Try.f8.params.toList ++ Rows.fieldThroughSpec.plain.varTypes Try.prog) (ds ++ gs)).all (· ≤ reachBytes) = true := hsz0
  clear hsz0
  have hval : ∀ (j : Nat) t v, Try.f8.params[j]? = some t → args[j]? = some v → Value.okWide Try.prog W .any base t v := hval0
  have hW' := hW
  obtain ⟨p, q, hA0, hV, rfl, hfz, hnd⟩ := hW
  have hA : DataW.TrodAll enc Try.prog W 0 (fun _ => true) true Try.f8.params.toList args.toList ds p := hA0
  rw [Try.params8] at hA hval hsz
  obtain ⟨v0, vs0, d0, ds0, p0, q0, hargs, rfl, rfl, h0, r0⟩ := trodAll_cons hA
  obtain ⟨v1, vs1, d1, ds1, p1, q1, rfl, rfl, rfl, h1, r1⟩ := trodAll_cons r0
  obtain ⟨rfl, rfl, rfl⟩ := trodAll_nil r1
  obtain rfl : args = #[v0, v1] := by cases args; simp_all
  obtain ⟨rfl, rfl⟩ := trodVars_none hV
  obtain ⟨a0, la0, z0, hv0⟩ := okWide_slice Try.underlying55 (hval 0 55 v0 rfl rfl)
  obtain ⟨c0c0, t0_0, e0_0, l0_0, e0_1⟩ : LeafsAre W [.row 2 [.int .u8, .int .u8]] v0.cells.toList := arg_open 12 (by kernel_rfl) h0 (fine_of (j := 0) hsz rfl rfl)
  subst e0_1
  obtain rfl : v0 = c0c0 := by subst hv0; simpa [Value.cells] using e0_0
  obtain ⟨n0_0, c0_0, F0_0, pl0_0, hn0_0, hb0_0, hF0_0, hc0_0⟩ := row_avs (by simp) (by simp [plainSh]) l0_0
  obtain ⟨g0_0, hg0_0⟩ := choose_all (α := Int × Int) (n := c0_0) (p := fun i y => F0_0 i = [.int .u8 y.1, .int .u8 y.2] ∧ (Lit.int .u8 y.1).wf = true ∧ (Lit.int .u8 y.2).wf = true) fun i hi => by
    obtain ⟨y0, t0, e0, ⟨m0, u0, z0⟩, y1, t1, e1, ⟨m1, u1, z1⟩, e⟩ := hF0_0 i hi
    simp only [AvsAre] at e
    exact ⟨(m0, m1), by rw [e0, u0, e1, u1, e], z0, z1⟩
  have hw0_0 := fun i (hi : i < c0_0) => (hg0_0 i hi).2
  rw [flat_congr fun i hi => (hg0_0 i hi).1] at hc0_0
  obtain ⟨x1_0, rfl, rfl, rfl, w1_0⟩ := open_bool Try.underlying4 (hval 1 4 v1 rfl rfl) h1
  clear hA0 hval0
  obtain ⟨dd0_0, cc0_0⟩ := hc0_0 [pl0_0] 0 (by simp) rfl
  have walk := (law8_m n0_0 c0_0 g0_0 x1_0 hn0_0 hb0_0 hw0_0).calls W [pl0_0] [v0, .bool x1_0] (heap_args rfl fun i s hs => by
      match i, hs with
      | 0, hs => simp only [lawSpec8, List.getElem?_cons_zero, Option.some.injEq] at hs; subst hs; exact ⟨_, rfl, (colsPt g0_0 c0_0).symm ▸ cc0_0⟩
      | i + 1, hs => simp [lawSpec8] at hs) (by simp only [lawSpec8, Dens]; exact ⟨_, _, rfl, dd0_0, ⟨_, _, rfl, by simp [Den], rfl⟩⟩) (x := .bool true) (v := .bool true) rfl (by
      intro o ho y hy
      simp [lawSpec8] at ho
      subst ho; rfl)
  refine walk.mono fun e W' ⟨he, hg⟩ => ?_
  subst he
  exact ⟨_, rfl, law_done laid rfl rfl Try.underlying4 (by kernel_rfl) hW' rfl hg⟩

theorem over : Rows.fieldThroughRow.holds Try.pinned (OpenSpec.ofChange Rows.fieldThroughSpec) :=
  OpenClaim.holds_of_wide 8 Try.f8 rfl rfl rfl rfl rfl rfl rfl ⟨rfl, rfl, rfl, rfl, rfl⟩ rfl rfl rfl rfl rfl (by kernel_rfl) Try.func8 (by kernel_rfl)
    (of_decide_eq_true (by kernel_rfl)) (by unfold Func.isWrapper; first | (rw [if_pos (by decide +kernel)]; kernel_rfl) | (rw [if_neg (by decide +kernel)]; exact ⟨rfl, rfl⟩))
    (fun os started H enc _ => lifted os started H enc)

theorem proved : Rows.FieldThroughSaid := over
end fieldThrough
end Go.Proofs.Yteiblfkegnppeaa
