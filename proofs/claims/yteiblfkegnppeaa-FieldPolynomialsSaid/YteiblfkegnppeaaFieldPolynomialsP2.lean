/-
  What the functions that are called give: for FieldPolynomials.
-/
import Derived.Test.YteiblfkegnppeaaRows
import Derived.Test.YteiblfkegnppeaaFv
import Derived.Test.YteiblfkegnppeaaFieldPolynomialsP1
set_option linter.unusedSimpArgs false
set_option linter.unusedVariables false
set_option linter.unusedVariables false
set_option linter.unusedSimpArgs false
namespace Go.Proofs.Yteiblfkegnppeaa
open Go Go.Fw
/-- Times (x + r). -/
noncomputable def mulX (P : Nat → G) (r : G) : Nat → G := pa (sh 1 P) (ps r P)
noncomputable def uP (i : Nat) : G := if i = 0 then g1 else g0
/-- The polynomial of the first k roots. -/
noncomputable def roP (r : Nat → G) : Nat → Nat → G
  | 0 => uP
  | k + 1 => mulX (roP r k) (r k)
theorem zr_mulX {P : Nat → G} {n : Nat} (r : G) (h : Zr P n) : Zr (mulX P r) (n + 1) := by
  refine zr_pa ?_ (zr_mono (zr_ps r h) (by omega))
  have := zr_sh (k := 1) h
  rwa [Nat.add_comm] at this
theorem zr_roP (r : Nat → G) : ∀ k, Zr (roP r k) (k + 1)
  | 0 => fun i hi => if_neg (by omega)
  | k + 1 => zr_mulX (r k) (zr_roP r k)
theorem top_roP (r : Nat → G) : ∀ k, roP r k k = g1
  | 0 => rfl
  | k + 1 => by
    show sh 1 (roP r k) (k + 1) + r k * roP r k (k + 1) = g1
    rw [sh_in _ (by omega), zr_roP r k (k + 1) (Nat.le_refl _), m_zero, a_zero]
    exact top_roP r k
theorem pol_roP (r : Nat → G) (k : Nat) : Pol (roP r k) (k + 1) := ⟨zr_roP r k, fun _ => by rw [Nat.add_sub_cancel, top_roP]; exact g1_nz⟩
/-- From the top down: j places are done. -/
noncomputable def mix (P : Nat → G) (r : G) (k j : Nat) (i : Nat) : G := if k + 1 - j < i ∨ j = k + 2 then mulX P r i else P i
theorem mix_0 {P : Nat → G} {k : Nat} (r : G) (h : Zr P (k + 1)) {i : Nat} (hi : i < k + 2) : mix P r k 0 i = P i := if_neg (by omega)
theorem mulX_0 (P : Nat → G) (r : G) : mulX P r 0 = r * P 0 := by
  show sh 1 P 0 + r * P 0 = _
  rw [sh_out _ (by omega), z_add]
theorem mulX_s (P : Nat → G) (r : G) (i : Nat) : mulX P r (i + 1) = P i + r * P (i + 1) := by
  show sh 1 P (i + 1) + r * P (i + 1) = _
  rw [sh_in _ (by omega), Nat.add_sub_cancel]
noncomputable def k47 : Code := (Try.f47.body).getD .skip
noncomputable def st47 (F : Nat → G) (A : List Int) (n c k : Nat) (tl : List Int) : St := ⟨slotsAt 53 [(3, .slice 1 0 (k + 1) (k + 1 + tl.length)), (13, .slice 0 0 n c), (14, .int .i64 n), (15, .int .i64 k)], [.seg false (.ints .u8 A), .seg true (.ints .u8 (tb (gi (roP F k)) (k + 1) ++ tl))]⟩
noncomputable def st47b (F : Nat → G) (A : List Int) (n c k j : Nat) (tl : List Int) : St := ⟨slotsAt 53 [(3, .slice 1 0 (k + 2) (k + 2 + tl.length)), (5, .int .u8 (gi F k)), (6, .int .i64 ((k : Int) + 1 - j)), (13, .slice 0 0 n c), (14, .int .i64 n), (15, .int .i64 k)], [.seg false (.ints .u8 A), .seg true (.ints .u8 (tb (gi (mix (roP F k) (F k) k j)) (k + 2) ++ tl))]⟩
def plan47 : PlanN := .op 0 (.op 1 (.op 2 (.op 3 (.op 7 (.op 8 (.op 9 (.op 10 (.op 11 (.rd 4 (.rd 5 (.rd 6 (.op 12 (.chk [6, 5, 4] (.op 13 (.op 14 (.op 15 .done))))))))))))))))
noncomputable def cfg47 (F : Nat → G) (A : List Int) (n c : Nat) : Cfg := { cfgk 1 with
  dep := fun | 8 => some fun st => ⟨Nat × List Int, fun p => st47b F A n c (natAt st 15) p.1 p.2, fun p => p.1 ≤ natAt st 15 + 1, fun p => natAt st 15 + 1 - p.1⟩ | _ => none,
  plan := fun | 10 => some (.nn plan47) | _ => none }
set_option maxHeartbeats 0 in
set_option maxRecDepth 100000 in
theorem of_f (F : Nat → G) (A : List Int) (n c : Nat) (hA : Rd A F n) (hc : n ≤ c) (hn : n ≤ 512) :
    Fits Try.prog 47 ⟨[.slice 0 0 n c], [.seg false (.ints .u8 A)], [⟨List Int, fun _ => True, fun tl => .slice 1 0 (n + 1) (n + 1 + tl.length), fun tl => [.dead, .seg true (.ints .u8 (tb (gi (roP F n)) (n + 1) ++ tl))]⟩]⟩ := by
  refine fits_of_body (C := cfg47 F A n c) (c := k47) (ts := [2]) tokL mixedL (fun | 4 => some ⟨Nat × List Int, fun p => st47 F A n c p.1 p.2, fun p => p.1 ≤ n, fun p => n - p.1⟩ | _ => none) (fun _ => none)
    Try.func47 (by kernel_rfl) (by kernel_rfl) (by kernel_rfl) (by kernel_rfl) rfl ?_
  obtain ⟨hl, hg⟩ := hA
  conv => whnf
  refine ⟨by omega, ?_⟩
  refine ⟨⟨by decide, by omega, by show (1 : Int) * ((n : Int) + 1) ≤ 281474976710656; omega, by omega⟩, ?_⟩
  conv => whnf
  rw [show ((n : Int) + 1).toNat = n + 1 by omega]
  refine ⟨by repeat' (first | omega | exact Int.natCast_nonneg _ | (simp only [i64max]; omega) | (simp only [u8max]; omega) | refine And.intro ?_ ?_), ?_⟩
  conv => whnf
  conv => whnf
  repeat (first
    | (refine And.intro ?_ ?_; (focus (first | omega | decide | exact EqOk.mk (by kernel_rfl) (by kernel_rfl) (by kernel_rfl) | exact Int.natCast_nonneg _ | ((repeat' refine And.intro ?_ ?_) <;> first | omega | exact Int.natCast_nonneg _ | (simp only [i64max, u8max, u16max, u32max, u64max]; omega) | (simp only [mulSz_eq, Cont.len, colsLen, Col.len, List.length_cons, List.length_nil, List.length_replicate, List.length_append, List.length_replicate]; first | done | omega) | (simp [mulSz, Cont.len, bne, List.length_replicate]; first | done | omega)))); conv => whnf)
    | (refine tst_in ?_ ?_; (focus (intro h_; exfalso; first | omega | ((try simp only [decide_eq_true_eq, decide_eq_false_iff_not] at h_); omega) | (simp [mulSz, Cont.len, bne, List.length_replicate] at h_; first | done | omega))); intro _; conv => whnf)
    | (refine tst_in ?_ ?_; rotate_left; (focus (intro h_; exfalso; first | omega | ((try simp only [decide_eq_true_eq, decide_eq_false_iff_not] at h_); omega) | (simp [mulSz, Cont.len, bne, List.length_replicate] at h_; first | done | omega))); intro _; conv => whnf)
    | (refine ⟨0, (show _ = _ by omega), ?_⟩; conv => whnf))
  refine ⟨⟨[0, 1], ((0, List.replicate n 0) : Nat × List Int), ?_, Nat.zero_le _⟩, ?_⟩
  · show stLe _ _ (st47 F A n c 0 (List.replicate n 0)) _
    conv => whnf
    repeat' (first | exact True.intro | rfl | refine And.intro ?_ ?_)
    all_goals (conv => whnf)
    repeat' (first | exact True.intro | rfl | refine And.intro ?_ ?_)
    all_goals (try omega)
    show 0 + 1 + (List.replicate n (0 : Int)).length = n + 1
    rw [List.length_replicate]; omega
  · intro ⟨k, tl⟩ (hk : k ≤ n)
    show forceSt (st47 F A n c k tl) _
    conv => whnf
    repeat (first
      | (refine And.intro ?_ ?_; (focus (first | omega | decide | exact EqOk.mk (by kernel_rfl) (by kernel_rfl) (by kernel_rfl) | exact Int.natCast_nonneg _ | ((repeat' refine And.intro ?_ ?_) <;> first | omega | exact Int.natCast_nonneg _ | (simp only [i64max, u8max, u16max, u32max, u64max]; omega) | (simp only [mulSz_eq, Cont.len, colsLen, Col.len, List.length_cons, List.length_nil, List.length_replicate, List.length_append]; first | done | omega) | (simp [mulSz, Cont.len, bne]; first | done | omega)))); conv => whnf)
      | (refine tst_in ?_ ?_; (focus (intro h_; exfalso; first | omega | ((try simp only [decide_eq_true_eq, decide_eq_false_iff_not] at h_); omega) | (simp [mulSz, Cont.len, bne] at h_; first | done | omega))); intro _; conv => whnf)
      | (refine tst_in ?_ ?_; rotate_left; (focus (intro h_; exfalso; first | omega | ((try simp only [decide_eq_true_eq, decide_eq_false_iff_not] at h_); omega) | (simp [mulSz, Cont.len, bne] at h_; first | done | omega))); intro _; conv => whnf)
      | (refine ⟨0, (show _ = _ by omega), ?_⟩; conv => whnf))
    refine tst_in (fun h => ?_) (fun h' => ?_)
    · have h : k < n := by have := dlt_t h; omega
      have hgk := hg k h
      conv => whnf
      repeat (first
        | (refine And.intro ?_ ?_; (focus (first | omega | decide | exact EqOk.mk (by kernel_rfl) (by kernel_rfl) (by kernel_rfl) | exact Int.natCast_nonneg _ | ((repeat' refine And.intro ?_ ?_) <;> first | omega | exact Int.natCast_nonneg _ | (simp only [i64max, u8max, u16max, u32max, u64max]; omega) | (simp only [mulSz_eq, Cont.len, colsLen, Col.len, List.length_cons, List.length_nil, List.length_replicate, List.length_append]; first | done | omega) | (simp [mulSz, Cont.len, bne]; first | done | omega)))); conv => whnf)
        | (refine tst_in ?_ ?_; (focus (intro h_; exfalso; first | omega | ((try simp only [decide_eq_true_eq, decide_eq_false_iff_not] at h_); omega) | (simp [mulSz, Cont.len, bne] at h_; first | done | omega))); intro _; conv => whnf)
        | (refine tst_in ?_ ?_; rotate_left; (focus (intro h_; exfalso; first | omega | ((try simp only [decide_eq_true_eq, decide_eq_false_iff_not] at h_); omega) | (simp [mulSz, Cont.len, bne] at h_; first | done | omega))); intro _; conv => whnf)
        | (refine ⟨0, (show _ = _ by omega), ?_⟩; conv => whnf))
      rw [show (0 + ((k : Nat) : Int).toNat) = k by omega, hgk]
      conv => whnf
      repeat (first
        | (refine And.intro ?_ ?_; (focus (first | omega | decide | exact EqOk.mk (by kernel_rfl) (by kernel_rfl) (by kernel_rfl) | exact Int.natCast_nonneg _ | ((repeat' refine And.intro ?_ ?_) <;> first | omega | exact Int.natCast_nonneg _ | (simp only [i64max, u8max, u16max, u32max, u64max]; omega) | (simp only [mulSz_eq, Cont.len, colsLen, Col.len, List.length_cons, List.length_nil, List.length_replicate, List.length_append, tab_len]; first | done | omega) | (simp [mulSz, Cont.len, bne, tab_len]; first | done | omega)))); conv => whnf)
        | (refine tst_in ?_ ?_; (focus (intro h_; exfalso; first | omega | ((try simp only [decide_eq_true_eq, decide_eq_false_iff_not] at h_); omega) | (simp [mulSz, Cont.len, bne, tab_len] at h_; first | done | omega))); intro _; conv => whnf)
        | (refine tst_in ?_ ?_; rotate_left; (focus (intro h_; exfalso; first | omega | ((try simp only [decide_eq_true_eq, decide_eq_false_iff_not] at h_); omega) | (simp [mulSz, Cont.len, bne, tab_len] at h_; first | done | omega))); intro _; conv => whnf)
        | (refine ⟨0, (show _ = _ by omega), ?_⟩; conv => whnf))
      intro tl2
      change List Int at tl2
      conv => whnf
      repeat (first
        | (refine And.intro ?_ ?_; (focus (first | omega | decide | exact EqOk.mk (by kernel_rfl) (by kernel_rfl) (by kernel_rfl) | exact Int.natCast_nonneg _ | ((repeat' refine And.intro ?_ ?_) <;> first | omega | exact Int.natCast_nonneg _ | (simp only [i64max, u8max, u16max, u32max, u64max]; omega) | (simp only [mulSz_eq, Cont.len, colsLen, Col.len, List.length_cons, List.length_nil, List.length_replicate, List.length_append, tab_len]; first | done | omega) | (simp [mulSz, Cont.len, bne, tab_len]; first | done | omega)))); conv => whnf)
        | (refine tst_in ?_ ?_; (focus (intro h_; exfalso; first | omega | ((try simp only [decide_eq_true_eq, decide_eq_false_iff_not] at h_); omega) | (simp [mulSz, Cont.len, bne, tab_len] at h_; first | done | omega))); intro _; conv => whnf)
        | (refine tst_in ?_ ?_; rotate_left; (focus (intro h_; exfalso; first | omega | ((try simp only [decide_eq_true_eq, decide_eq_false_iff_not] at h_); omega) | (simp [mulSz, Cont.len, bne, tab_len] at h_; first | done | omega))); intro _; conv => whnf)
        | (refine ⟨0, (show _ = _ by omega), ?_⟩; conv => whnf))
      have hz := zr_roP F k
      generalize hP : roP F k = P at *
      refine ⟨⟨[0, 3], ((0, tl2) : Nat × List Int), ?_, Nat.zero_le _⟩, ?_⟩
      · show stLe _ _ (st47b F A n c k 0 tl2) _
        unfold st47b
        rw [hP]
        conv => whnf
        repeat' (first | exact True.intro | rfl | refine And.intro ?_ ?_)
        all_goals (conv => whnf)
        repeat' (first | exact True.intro | rfl | refine And.intro ?_ ?_)
        all_goals (try omega)
        show tb (gi (mix P (F k) k 0)) (k + 2) ++ tl2 = List.take (k + 1) (List.drop 0 (tb (gi P) (k + 1) ++ tl)) ++ [0] ++ tl2
        congr 1
        symm
        refine tab_ext 0 ?_ fun i hi => ?_
        · rw [List.length_append, List.length_take, List.length_drop, List.length_append, tab_len]
          show min (k + 1) (k + 1 + tl.length - 0) + 1 = k + 2
          omega
        · rw [g_app, List.length_take, List.length_drop, List.length_append, tab_len, g_take, g_drop, g_app, tab_len, g_tab, g_one]
          show _ = ((mix P (F k) k 0 i).v : Int)
          rw [mix_0 (F k) hz hi]
          by_cases h2 : i < k + 1
          · rw [if_pos (by omega), if_pos h2, if_pos (by omega), if_pos (by omega), Nat.zero_add]; rfl
          · rw [if_neg (by omega), if_pos (by omega), hz i (by omega)]; rfl
      · intro ⟨j, tl3⟩ hj
        have hj : j ≤ k + 1 := hj
        show forceSt (st47b F A n c k j tl3) _
        unfold st47b
        rw [hP]
        conv => whnf
        repeat (first
          | (refine And.intro ?_ ?_; (focus (first | omega | decide | exact EqOk.mk (by kernel_rfl) (by kernel_rfl) (by kernel_rfl) | exact Int.natCast_nonneg _ | ((repeat' refine And.intro ?_ ?_) <;> first | omega | exact Int.natCast_nonneg _ | (simp only [i64max, u8max, u16max, u32max, u64max]; omega) | (simp only [mulSz_eq, Cont.len, colsLen, Col.len, List.length_cons, List.length_nil, List.length_replicate, List.length_append]; first | done | omega) | (simp [mulSz, Cont.len, bne]; first | done | omega)))); conv => whnf)
          | (refine tst_in ?_ ?_; (focus (intro h_; exfalso; first | omega | ((try simp only [decide_eq_true_eq, decide_eq_false_iff_not] at h_); omega) | (simp [mulSz, Cont.len, bne] at h_; first | done | omega))); intro _; conv => whnf)
          | (refine tst_in ?_ ?_; rotate_left; (focus (intro h_; exfalso; first | omega | ((try simp only [decide_eq_true_eq, decide_eq_false_iff_not] at h_); omega) | (simp [mulSz, Cont.len, bne] at h_; first | done | omega))); intro _; conv => whnf)
          | (refine ⟨0, (show _ = _ by omega), ?_⟩; conv => whnf))
        refine tst_in (fun u => ?_) (fun u' => ?_)
        · have u : (0 : Int) < (k : Int) + 1 - (j : Int) := dlt_t u
          obtain ⟨i, hi⟩ : ∃ i, i + 1 + j = k + 1 := ⟨k - j, by omega⟩
          rw [show (k : Int) + 1 - (j : Int) = (i : Int) + 1 by omega]
          have m1 : mix P (F k) k j i = P i := if_neg (by omega)
          have m2 : mix P (F k) k j (i + 1) = P (i + 1) := if_neg (by omega)
          have TM := Times_g (P (i + 1)) (F k)
          have g1 : (tb (gi (mix P (F k) k j)) (k + 2) ++ tl3).getD i 0 = ((P i).v : Nat) := by rw [tab_app _ _ _ (by omega)]; unfold gi; rw [m1]
          have g2 : (tb (gi (mix P (F k) k j)) (k + 2) ++ tl3).getD (i + 1) 0 = ((P (i + 1)).v : Nat) := by rw [tab_app _ _ _ (by omega)]; unfold gi; rw [m2]
          have hl1 := (P i).lt
          have hl2 := (P (i + 1) * F k).lt
          conv => whnf
          repeat (first
            | (refine And.intro ?_ ?_; (focus (first | omega | decide | exact EqOk.mk (by kernel_rfl) (by kernel_rfl) (by kernel_rfl) | exact Int.natCast_nonneg _ | ((repeat' refine And.intro ?_ ?_) <;> first | omega | exact Int.natCast_nonneg _ | (simp only [i64max, u8max, u16max, u32max, u64max]; omega) | (simp only [mulSz_eq, Cont.len, colsLen, Col.len, List.length_cons, List.length_nil, List.length_replicate, List.length_append, tab_len]; first | done | omega) | (simp [mulSz, Cont.len, bne, tab_len]; first | done | omega)))); conv => whnf)
            | (refine tst_in ?_ ?_; (focus (intro h_; exfalso; first | omega | ((try simp only [decide_eq_true_eq, decide_eq_false_iff_not] at h_); omega) | (simp [mulSz, Cont.len, bne, tab_len] at h_; first | done | omega))); intro _; conv => whnf)
            | (refine tst_in ?_ ?_; rotate_left; (focus (intro h_; exfalso; first | omega | ((try simp only [decide_eq_true_eq, decide_eq_false_iff_not] at h_); omega) | (simp [mulSz, Cont.len, bne, tab_len] at h_; first | done | omega))); intro _; conv => whnf)
            | (refine ⟨0, (show _ = _ by omega), ?_⟩; conv => whnf))
          rw [show (0 + ((i : Nat) + 1 - 1 : Int).toNat) = i by omega, show (0 + ((i : Nat) + 1 : Int).toNat) = i + 1 by omega, g1, g2]
          refine ⟨_, [], TM, ?_⟩
          conv => whnf
          iterate 2
           refine And.intro ?_ ?_
           focus
            conv => whnf
            repeat' (first | exact True.intro | rfl | refine And.intro ?_ ?_ | omega)
            all_goals (conv => whnf)
            all_goals (try (first | rfl | omega | (simp; done)))
          conv => whnf
          have hlen : i < (tb (gi (mix P (F k) k j)) (k + 2) ++ tl3).length := by rw [List.length_append, tab_len]; omega
          conv => whnf
          repeat (first
            | (refine And.intro ?_ ?_; (focus (first | omega | decide | exact EqOk.mk (by kernel_rfl) (by kernel_rfl) (by kernel_rfl) | exact Int.natCast_nonneg _ | ((repeat' refine And.intro ?_ ?_) <;> first | omega | exact Int.natCast_nonneg _ | (simp only [i64max, u8max, u16max, u32max, u64max]; omega) | (simp only [mulSz_eq, Cont.len, colsLen, Col.len, List.length_cons, List.length_nil, List.length_replicate, List.length_append, tab_len]; first | done | omega) | (simp [mulSz, Cont.len, bne, tab_len]; first | done | omega)))); conv => whnf)
            | (refine tst_in ?_ ?_; (focus (intro h_; exfalso; first | omega | ((try simp only [decide_eq_true_eq, decide_eq_false_iff_not] at h_); omega) | (simp [mulSz, Cont.len, bne, tab_len] at h_; first | done | omega))); intro _; conv => whnf)
            | (refine tst_in ?_ ?_; rotate_left; (focus (intro h_; exfalso; first | omega | ((try simp only [decide_eq_true_eq, decide_eq_false_iff_not] at h_); omega) | (simp [mulSz, Cont.len, bne, tab_len] at h_; first | done | omega))); intro _; conv => whnf)
            | (refine ⟨0, (show _ = _ by omega), ?_⟩; conv => whnf))
          refine ⟨[0, 1], ((j + 1, tl3) : Nat × List Int), ?_, (by show j + 1 ≤ k + 1; omega), (by show k + 1 - (j + 1) < k + 1 - j; omega)⟩
          show stLe _ _ (st47b F A n c k (j + 1) tl3) _
          unfold st47b
          rw [hP]
          conv => whnf
          repeat' (first | exact True.intro | rfl | refine And.intro ?_ ?_)
          all_goals (conv => whnf)
          repeat' (first | exact True.intro | rfl | refine And.intro ?_ ?_)
          all_goals (try omega)
          show tb (gi (mix P (F k) k (j + 1))) (k + 2) ++ tl3 = (tb (gi (mix P (F k) k j)) (k + 2) ++ tl3).set (0 + ((i : Nat) + 1 : Int).toNat) (((P i + P (i + 1) * F k : G).v : Nat) : Int)
          rw [show (0 + ((i : Nat) + 1 : Int).toNat) = i + 1 by omega, List.set_append_left _ _ (by rw [tab_len]; omega)]
          congr 1
          refine (tab_put _ (k + 2) (i + 1) _ fun l hl => ?_).symm
          unfold mix
          by_cases e : l = i + 1
          · subst e; rw [if_pos rfl, if_pos (by omega), mulX_s, m_comm]
          · rw [if_neg e]
            by_cases e2 : i + 1 < l
            · rw [if_pos (by omega), if_pos (by omega)]
            · rw [if_neg (by omega), if_neg (by omega)]
        · have u : j = k + 1 := by have : (k : Int) + 1 - (j : Int) ≤ 0 := dlt_f u'; omega
          subst u
          have m0 : mix P (F k) k (k + 1) 0 = P 0 := if_neg (by omega)
          have g0' : (tb (gi (mix P (F k) k (k + 1))) (k + 2) ++ tl3).getD 0 0 = ((P 0).v : Nat) := by rw [tab_app _ _ _ (by omega)]; unfold gi; rw [m0]
          have TM := Times_g (P 0) (F k)
          conv => whnf
          repeat (first
            | (refine And.intro ?_ ?_; (focus (first | omega | decide | exact EqOk.mk (by kernel_rfl) (by kernel_rfl) (by kernel_rfl) | exact Int.natCast_nonneg _ | ((repeat' refine And.intro ?_ ?_) <;> first | omega | exact Int.natCast_nonneg _ | (simp only [i64max, u8max, u16max, u32max, u64max]; omega) | (simp only [mulSz_eq, Cont.len, colsLen, Col.len, List.length_cons, List.length_nil, List.length_replicate, List.length_append, tab_len]; first | done | omega) | (simp [mulSz, Cont.len, bne, tab_len]; first | done | omega)))); conv => whnf)
            | (refine tst_in ?_ ?_; (focus (intro h_; exfalso; first | omega | ((try simp only [decide_eq_true_eq, decide_eq_false_iff_not] at h_); omega) | (simp [mulSz, Cont.len, bne, tab_len] at h_; first | done | omega))); intro _; conv => whnf)
            | (refine tst_in ?_ ?_; rotate_left; (focus (intro h_; exfalso; first | omega | ((try simp only [decide_eq_true_eq, decide_eq_false_iff_not] at h_); omega) | (simp [mulSz, Cont.len, bne, tab_len] at h_; first | done | omega))); intro _; conv => whnf)
            | (refine ⟨0, (show _ = _ by omega), ?_⟩; conv => whnf))
          rw [show (0 + Int.toNat 0) = 0 from rfl, g0']
          refine ⟨_, [], TM, ?_⟩
          conv => whnf
          iterate 2
           refine And.intro ?_ ?_
           focus
            conv => whnf
            repeat' (first | exact True.intro | rfl | refine And.intro ?_ ?_ | omega)
            all_goals (conv => whnf)
            all_goals (try (first | rfl | omega | (simp; done)))
          conv => whnf
          conv => whnf
          repeat (first
            | (refine And.intro ?_ ?_; (focus (first | omega | decide | exact EqOk.mk (by kernel_rfl) (by kernel_rfl) (by kernel_rfl) | exact Int.natCast_nonneg _ | ((repeat' refine And.intro ?_ ?_) <;> first | omega | exact Int.natCast_nonneg _ | (simp only [i64max, u8max, u16max, u32max, u64max]; omega) | (simp only [mulSz_eq, Cont.len, colsLen, Col.len, List.length_cons, List.length_nil, List.length_replicate, List.length_append, tab_len]; first | done | omega) | (simp [mulSz, Cont.len, bne, tab_len]; first | done | omega)))); conv => whnf)
            | (refine tst_in ?_ ?_; (focus (intro h_; exfalso; first | omega | ((try simp only [decide_eq_true_eq, decide_eq_false_iff_not] at h_); omega) | (simp [mulSz, Cont.len, bne, tab_len] at h_; first | done | omega))); intro _; conv => whnf)
            | (refine tst_in ?_ ?_; rotate_left; (focus (intro h_; exfalso; first | omega | ((try simp only [decide_eq_true_eq, decide_eq_false_iff_not] at h_); omega) | (simp [mulSz, Cont.len, bne, tab_len] at h_; first | done | omega))); intro _; conv => whnf)
            | (refine ⟨0, (show _ = _ by omega), ?_⟩; conv => whnf))
          refine ⟨[0, 1], ((k + 1, tl3) : Nat × List Int), ?_, (by show k + 1 ≤ n; omega), (by show n - (k + 1) < n - k; omega)⟩
          show stLe _ _ (st47 F A n c (k + 1) tl3) _
          unfold st47
          rw [show roP F (k + 1) = mulX P (F k) by rw [← hP]; rfl]
          conv => whnf
          repeat' (first | exact True.intro | rfl | refine And.intro ?_ ?_)
          all_goals (conv => whnf)
          repeat' (first | exact True.intro | rfl | refine And.intro ?_ ?_)
          all_goals (try omega)
          show tb (gi (mulX P (F k))) (k + 2) ++ tl3 = (tb (gi (mix P (F k) k (k + 1))) (k + 2) ++ tl3).set (0 + Int.toNat 0) (((P 0 * F k : G).v : Nat) : Int)
          rw [show (0 + Int.toNat 0) = 0 from rfl, List.set_append_left _ _ (by rw [tab_len]; omega)]
          congr 1
          refine (tab_put _ (k + 2) 0 _ fun l hl => ?_).symm
          unfold mix
          by_cases e : l = 0
          · subst e; rw [if_pos rfl, mulX_0, m_comm]
          · rw [if_neg e, if_pos (by omega)]
    · have h : k = n := by have := dlt_f h'; omega
      subst h
      conv => whnf
      repeat (first
        | (refine And.intro ?_ ?_; (focus (first | omega | decide | exact EqOk.mk (by kernel_rfl) (by kernel_rfl) (by kernel_rfl) | exact Int.natCast_nonneg _ | ((repeat' refine And.intro ?_ ?_) <;> first | omega | exact Int.natCast_nonneg _ | (simp only [i64max, u8max, u16max, u32max, u64max]; omega) | (simp only [mulSz_eq, Cont.len, colsLen, Col.len, List.length_cons, List.length_nil, List.length_replicate, List.length_append]; first | done | omega) | (simp [mulSz, Cont.len, bne]; first | done | omega)))); conv => whnf)
        | (refine tst_in ?_ ?_; (focus (intro h_; exfalso; first | omega | ((try simp only [decide_eq_true_eq, decide_eq_false_iff_not] at h_); omega) | (simp [mulSz, Cont.len, bne] at h_; first | done | omega))); intro _; conv => whnf)
        | (refine tst_in ?_ ?_; rotate_left; (focus (intro h_; exfalso; first | omega | ((try simp only [decide_eq_true_eq, decide_eq_false_iff_not] at h_); omega) | (simp [mulSz, Cont.len, bne] at h_; first | done | omega))); intro _; conv => whnf)
        | (refine ⟨0, (show _ = _ by omega), ?_⟩; conv => whnf))
      refine .inl ⟨tl, [0, 1], ?_⟩
      conv => whnf
      repeat' (first | exact True.intro | rfl | refine And.intro ?_ ?_)
      all_goals (conv => whnf)
      repeat' (first | exact True.intro | rfl | refine And.intro ?_ ?_)
      all_goals (try omega)
noncomputable def k30 : Code := (Try.f30.body).getD .skip
def ofN (n N : Nat) : Nat := if 512 ≤ n then 0 else N
def ofE (n : Nat) : Int := if 512 ≤ n then 1 else 0
noncomputable def ofOut (F : Nat → G) (n : Nat) : FOut := ⟨List Int, fun _ => True, fun tl => .tup [.slice 1 0 (ofN n (n + 1)) (ofN n (n + 1) + tl.length), .int .i64 (ofE n)], fun tl => [.dead, .seg true (.ints .u8 (tb (gi (roP F n)) (ofN n (n + 1)) ++ tl))]⟩
set_option maxHeartbeats 0 in
set_option maxRecDepth 100000 in
theorem Of_g (F : Nat → G) (A : List Int) (n c : Nat) (hA : Rd A F n) (hc : n ≤ c) (hn : n ≤ 9223372036854775807) :
    Fits Try.prog 30 ⟨[.slice 0 0 n c], [.seg false (.ints .u8 A)], [ofOut F n]⟩ := by
  unfold ofOut
  refine fits_of_body (C := cfgk 1) (c := k30) (ts := [2, 3]) tokL mixedL (fun _ => none) (fun _ => none)
    Try.func30 (by kernel_rfl) (by kernel_rfl) (by kernel_rfl) (by kernel_rfl) rfl ?_
  by_cases h : 512 ≤ n
  · rw [show ofN n (n + 1) = 0 from if_pos h, show ofE n = 1 from if_pos h]
    conv => whnf
    repeat (first
      | (refine And.intro ?_ ?_; (focus (first | omega | decide | exact EqOk.mk (by kernel_rfl) (by kernel_rfl) (by kernel_rfl) | exact Int.natCast_nonneg _ | ((repeat' refine And.intro ?_ ?_) <;> first | omega | exact Int.natCast_nonneg _ | (simp only [i64max, u8max, u16max, u32max, u64max]; omega) | (simp only [mulSz_eq, Cont.len, colsLen, Col.len, List.length_cons, List.length_nil, List.length_replicate, List.length_append]; first | done | omega) | (simp [mulSz, Cont.len, bne]; first | done | omega)))); conv => whnf)
      | (refine tst_in ?_ ?_; (focus (intro h_; exfalso; first | omega | ((try simp only [decide_eq_true_eq, decide_eq_false_iff_not] at h_); omega) | (simp [mulSz, Cont.len, bne] at h_; first | done | omega))); intro _; conv => whnf)
      | (refine tst_in ?_ ?_; rotate_left; (focus (intro h_; exfalso; first | omega | ((try simp only [decide_eq_true_eq, decide_eq_false_iff_not] at h_); omega) | (simp [mulSz, Cont.len, bne] at h_; first | done | omega))); intro _; conv => whnf)
      | (refine ⟨0, (show _ = _ by omega), ?_⟩; conv => whnf))
    refine .inl ⟨[], [0, 9], ?_⟩
    conv => whnf
    repeat' (first | exact True.intro | rfl | refine And.intro ?_ ?_)
    all_goals (conv => whnf)
    repeat' (first | exact True.intro | rfl | refine And.intro ?_ ?_)
    all_goals (try omega)
  · rw [show ofN n (n + 1) = n + 1 from if_neg h, show ofE n = 0 from if_neg h]
    have OF := of_f F A n c hA hc (by omega)
    conv => whnf
    repeat (first
      | (refine And.intro ?_ ?_; (focus (first | omega | decide | exact EqOk.mk (by kernel_rfl) (by kernel_rfl) (by kernel_rfl) | exact Int.natCast_nonneg _ | ((repeat' refine And.intro ?_ ?_) <;> first | omega | exact Int.natCast_nonneg _ | (simp only [i64max, u8max, u16max, u32max, u64max]; omega) | (simp only [mulSz_eq, Cont.len, colsLen, Col.len, List.length_cons, List.length_nil, List.length_replicate, List.length_append]; first | done | omega) | (simp [mulSz, Cont.len, bne]; first | done | omega)))); conv => whnf)
      | (refine tst_in ?_ ?_; (focus (intro h_; exfalso; first | omega | ((try simp only [decide_eq_true_eq, decide_eq_false_iff_not] at h_); omega) | (simp [mulSz, Cont.len, bne] at h_; first | done | omega))); intro _; conv => whnf)
      | (refine tst_in ?_ ?_; rotate_left; (focus (intro h_; exfalso; first | omega | ((try simp only [decide_eq_true_eq, decide_eq_false_iff_not] at h_); omega) | (simp [mulSz, Cont.len, bne] at h_; first | done | omega))); intro _; conv => whnf)
      | (refine ⟨0, (show _ = _ by omega), ?_⟩; conv => whnf))
    refine ⟨_, [0], OF, ?_⟩
    conv => whnf
    iterate 2
     refine And.intro ?_ ?_
     focus
      conv => whnf
      repeat' (first | exact True.intro | rfl | refine And.intro ?_ ?_)
      all_goals (conv => whnf)
      repeat' (first | exact True.intro | rfl | refine And.intro ?_ ?_)
      all_goals (try (first | rfl | omega | (simp; first | done | omega)))
    conv => whnf
    refine ⟨?_, True.intro⟩
    rintro tl _
    conv => whnf
    change List Int at tl
    conv => whnf
    repeat (first
      | (refine And.intro ?_ ?_; (focus (first | omega | decide | exact EqOk.mk (by kernel_rfl) (by kernel_rfl) (by kernel_rfl) | exact Int.natCast_nonneg _ | ((repeat' refine And.intro ?_ ?_) <;> first | omega | exact Int.natCast_nonneg _ | (simp only [i64max, u8max, u16max, u32max, u64max]; omega) | (simp only [mulSz_eq, Cont.len, colsLen, Col.len, List.length_cons, List.length_nil, List.length_replicate, List.length_append]; first | done | omega) | (simp [mulSz, Cont.len, bne]; first | done | omega)))); conv => whnf)
      | (refine tst_in ?_ ?_; (focus (intro h_; exfalso; first | omega | ((try simp only [decide_eq_true_eq, decide_eq_false_iff_not] at h_); omega) | (simp [mulSz, Cont.len, bne] at h_; first | done | omega))); intro _; conv => whnf)
      | (refine tst_in ?_ ?_; rotate_left; (focus (intro h_; exfalso; first | omega | ((try simp only [decide_eq_true_eq, decide_eq_false_iff_not] at h_); omega) | (simp [mulSz, Cont.len, bne] at h_; first | done | omega))); intro _; conv => whnf)
      | (refine ⟨0, (show _ = _ by omega), ?_⟩; conv => whnf))
    refine .inl ⟨tl, [0, 1], ?_⟩
    conv => whnf
    repeat' (first | exact True.intro | rfl | refine And.intro ?_ ?_)
    all_goals (conv => whnf)
    repeat' (first | exact True.intro | rfl | refine And.intro ?_ ?_)
    all_goals (try omega)
end Go.Proofs.Yteiblfkegnppeaa

set_option linter.unusedVariables false
set_option linter.unusedSimpArgs false
namespace Go.Proofs.Yteiblfkegnppeaa
open Go Go.Fw
/-- The numbers below x at which a polynomial is 0. -/
noncomputable def isR (F : Nat → G) (n x : Nat) : Bool := decide ((As F (toB (x : Int)) n).v = 0)
noncomputable def rl (F : Nat → G) (n : Nat) : Nat → List Int
  | 0 => []
  | x + 1 => if isR F n x = true then rl F n x ++ [(x : Int)] else rl F n x
theorem rl_len (F : Nat → G) (n : Nat) : ∀ x, (rl F n x).length ≤ x
  | 0 => Nat.le_refl _
  | x + 1 => by
    have := rl_len F n x
    unfold rl; split
    · rw [List.length_append]; show _ + 1 ≤ x + 1; omega
    · omega
theorem toB_nat {x : Nat} (h : x < 256) : (toB (x : Int)).v = x := by show ((x : Int).toNat % 256) = x; omega
theorem dg_As {F : Nat → G} {n : Nat} (x : G) : As F x (dg F n) = As F x n := by
  have hp := pol_dg F n
  have := As_pol x hp (dg_le F n)
  rw [← As_ct F x n, ← this]
  exact As_congr x _ fun k hk => (ct_lt F (Nat.lt_of_lt_of_le hk (dg_le F n))).symm
noncomputable def k31 : Code := (Try.f31.body).getD .skip
def rtB (n t : Nat) : Bool := decide (n ≤ 512) && decide (0 < t)
noncomputable def rtL (F : Nat → G) (n : Nat) : List Int := if rtB n (dg F n) = true then rl F n 256 else []
def rtE (n t : Nat) : Int := if 512 < n then 1 else if t = 0 then 6 else 0
noncomputable def rootsOut (F : Nat → G) (n : Nat) : FOut := ⟨List Int, fun _ => True, fun tl => .tup [.slice 1 0 (rtL F n).length ((rtL F n).length + tl.length), .int .i64 (rtE n (dg F n))], fun tl => [.dead, .seg true (.ints .u8 (rtL F n ++ tl))]⟩
noncomputable def st31 (F : Nat → G) (A : List Int) (n t c x : Nat) (tl : List Int) : St := ⟨slotsAt 29 [(0, .slice 0 0 t c), (4, .slice 1 0 (rl F n x).length ((rl F n x).length + tl.length)), (14, .int .i64 x)], [.seg false (.ints .u8 A), .seg true (.ints .u8 (rl F n x ++ tl))]⟩
set_option maxHeartbeats 0 in
set_option maxRecDepth 100000 in
theorem Roots_g (F : Nat → G) (A : List Int) (n c : Nat) (hA : Rd A F n) (hc : n ≤ c) (hn : n ≤ 9223372036854775807) :
    Fits Try.prog 31 ⟨[.slice 0 0 n c], [.seg false (.ints .u8 A)], [rootsOut F n]⟩ := by
  unfold rootsOut
  have TK := tooLong1 n c hn
  have TA := trim_f F A n c hA hc hn
  have hd := dg_le F n
  have AT := fun x : G => at_f F A (dg F n) c x (Rd_le hA hd) (by omega) (by omega)
  have eAs := fun x : G => dg_As (F := F) (n := n) x
  generalize ht : dg F n = t at *
  refine fits_of_body (C := cfgk 1) (c := k31) (ts := [2, 3]) tokL mixedL (fun | 8 => some ⟨Nat × List Int, fun p => st31 F A n t c p.1 p.2, fun p => p.1 ≤ 256, fun p => 256 - p.1⟩ | _ => none) (fun _ => none)
    Try.func31 (by kernel_rfl) (by kernel_rfl) (by kernel_rfl) (by kernel_rfl) rfl ?_
  conv => whnf
  repeat (first
    | (refine And.intro ?_ ?_; (focus (first | omega | decide | exact EqOk.mk (by kernel_rfl) (by kernel_rfl) (by kernel_rfl) | exact Int.natCast_nonneg _ | ((repeat' refine And.intro ?_ ?_) <;> first | omega | exact Int.natCast_nonneg _ | (simp only [i64max, u8max, u16max, u32max, u64max]; omega) | (simp only [mulSz_eq, Cont.len, colsLen, Col.len, List.length_cons, List.length_nil, List.length_replicate, List.length_append]; first | done | omega) | (simp [mulSz, Cont.len, bne]; first | done | omega)))); conv => whnf)
    | (refine tst_in ?_ ?_; (focus (intro h_; exfalso; first | omega | ((try simp only [decide_eq_true_eq, decide_eq_false_iff_not] at h_); omega) | (simp [mulSz, Cont.len, bne] at h_; first | done | omega))); intro _; conv => whnf)
    | (refine tst_in ?_ ?_; rotate_left; (focus (intro h_; exfalso; first | omega | ((try simp only [decide_eq_true_eq, decide_eq_false_iff_not] at h_); omega) | (simp [mulSz, Cont.len, bne] at h_; first | done | omega))); intro _; conv => whnf)
    | (refine ⟨0, (show _ = _ by omega), ?_⟩; conv => whnf))
  refine ⟨_, [1, 0], TK, ?_⟩
  conv => whnf
  iterate 2
   refine And.intro ?_ ?_
   focus
    conv => whnf
    repeat' (first | exact True.intro | rfl | refine And.intro ?_ ?_)
    all_goals (conv => whnf)
    repeat' (first | exact True.intro | rfl | refine And.intro ?_ ?_)
    all_goals (try (first | rfl | omega | (simp; first | done | omega)))
  conv => whnf
  by_cases h : 512 < n
  · have e : rtB n t = false := by unfold rtB; simp; omega
    rw [show rtL F n = [] by unfold rtL; rw [ht, e, if_neg (by decide)], show rtE n t = 1 from if_pos h, decide_eq_true h]
    conv => whnf
    repeat (first
      | (refine And.intro ?_ ?_; (focus (first | omega | decide | exact EqOk.mk (by kernel_rfl) (by kernel_rfl) (by kernel_rfl) | exact Int.natCast_nonneg _ | ((repeat' refine And.intro ?_ ?_) <;> first | omega | exact Int.natCast_nonneg _ | (simp only [i64max, u8max, u16max, u32max, u64max]; omega) | (simp only [mulSz_eq, Cont.len, colsLen, Col.len, List.length_cons, List.length_nil, List.length_replicate, List.length_append]; first | done | omega) | (simp [mulSz, Cont.len, bne]; first | done | omega)))); conv => whnf)
      | (refine tst_in ?_ ?_; (focus (intro h_; exfalso; first | omega | ((try simp only [decide_eq_true_eq, decide_eq_false_iff_not] at h_); omega) | (simp [mulSz, Cont.len, bne] at h_; first | done | omega))); intro _; conv => whnf)
      | (refine tst_in ?_ ?_; rotate_left; (focus (intro h_; exfalso; first | omega | ((try simp only [decide_eq_true_eq, decide_eq_false_iff_not] at h_); omega) | (simp [mulSz, Cont.len, bne] at h_; first | done | omega))); intro _; conv => whnf)
      | (refine ⟨0, (show _ = _ by omega), ?_⟩; conv => whnf))
    refine .inl ⟨[], [0, 9], ?_⟩
    conv => whnf
    repeat' (first | exact True.intro | rfl | refine And.intro ?_ ?_)
    all_goals (conv => whnf)
    repeat' (first | exact True.intro | rfl | refine And.intro ?_ ?_)
    all_goals (try omega)
  · rw [decide_eq_false h]
    conv => whnf
    repeat (first
      | (refine And.intro ?_ ?_; (focus (first | omega | decide | exact EqOk.mk (by kernel_rfl) (by kernel_rfl) (by kernel_rfl) | exact Int.natCast_nonneg _ | ((repeat' refine And.intro ?_ ?_) <;> first | omega | exact Int.natCast_nonneg _ | (simp only [i64max, u8max, u16max, u32max, u64max]; omega) | (simp only [mulSz_eq, Cont.len, colsLen, Col.len, List.length_cons, List.length_nil, List.length_replicate, List.length_append]; first | done | omega) | (simp [mulSz, Cont.len, bne]; first | done | omega)))); conv => whnf)
      | (refine tst_in ?_ ?_; (focus (intro h_; exfalso; first | omega | ((try simp only [decide_eq_true_eq, decide_eq_false_iff_not] at h_); omega) | (simp [mulSz, Cont.len, bne] at h_; first | done | omega))); intro _; conv => whnf)
      | (refine tst_in ?_ ?_; rotate_left; (focus (intro h_; exfalso; first | omega | ((try simp only [decide_eq_true_eq, decide_eq_false_iff_not] at h_); omega) | (simp [mulSz, Cont.len, bne] at h_; first | done | omega))); intro _; conv => whnf)
      | (refine ⟨0, (show _ = _ by omega), ?_⟩; conv => whnf))
    refine ⟨_, [0], TA, ?_⟩
    conv => whnf
    iterate 2
     refine And.intro ?_ ?_
     focus
      conv => whnf
      repeat' (first | exact True.intro | rfl | refine And.intro ?_ ?_ | omega)
      all_goals (conv => whnf)
      all_goals (try (first | rfl | omega | (simp; done)))
    conv => whnf
    refine ⟨?_, True.intro⟩
    intro _ _
    conv => whnf
    conv => whnf
    repeat (first
      | (refine And.intro ?_ ?_; (focus (first | omega | decide | exact EqOk.mk (by kernel_rfl) (by kernel_rfl) (by kernel_rfl) | exact Int.natCast_nonneg _ | ((repeat' refine And.intro ?_ ?_) <;> first | omega | exact Int.natCast_nonneg _ | (simp only [i64max, u8max, u16max, u32max, u64max]; omega) | (simp only [mulSz_eq, Cont.len, colsLen, Col.len, List.length_cons, List.length_nil, List.length_replicate, List.length_append]; first | done | omega) | (simp [mulSz, Cont.len, bne]; first | done | omega)))); conv => whnf)
      | (refine tst_in ?_ ?_; (focus (intro h_; exfalso; first | omega | ((try simp only [decide_eq_true_eq, decide_eq_false_iff_not] at h_); omega) | (simp [mulSz, Cont.len, bne] at h_; first | done | omega))); intro _; conv => whnf)
      | (refine tst_in ?_ ?_; rotate_left; (focus (intro h_; exfalso; first | omega | ((try simp only [decide_eq_true_eq, decide_eq_false_iff_not] at h_); omega) | (simp [mulSz, Cont.len, bne] at h_; first | done | omega))); intro _; conv => whnf)
      | (refine ⟨0, (show _ = _ by omega), ?_⟩; conv => whnf))
    refine tst_in (fun q => ?_) (fun q' => ?_)
    · have q : t = 0 := by simp at q; omega
      have e : rtB n t = false := by unfold rtB; simp; omega
      rw [show rtL F n = [] by unfold rtL; rw [ht, e, if_neg (by decide)], show rtE n t = 6 from (if_neg h).trans (if_pos q)]
      conv => whnf
      repeat (first
        | (refine And.intro ?_ ?_; (focus (first | omega | decide | exact EqOk.mk (by kernel_rfl) (by kernel_rfl) (by kernel_rfl) | exact Int.natCast_nonneg _ | ((repeat' refine And.intro ?_ ?_) <;> first | omega | exact Int.natCast_nonneg _ | (simp only [i64max, u8max, u16max, u32max, u64max]; omega) | (simp only [mulSz_eq, Cont.len, colsLen, Col.len, List.length_cons, List.length_nil, List.length_replicate, List.length_append]; first | done | omega) | (simp [mulSz, Cont.len, bne]; first | done | omega)))); conv => whnf)
        | (refine tst_in ?_ ?_; (focus (intro h_; exfalso; first | omega | ((try simp only [decide_eq_true_eq, decide_eq_false_iff_not] at h_); omega) | (simp [mulSz, Cont.len, bne] at h_; first | done | omega))); intro _; conv => whnf)
        | (refine tst_in ?_ ?_; rotate_left; (focus (intro h_; exfalso; first | omega | ((try simp only [decide_eq_true_eq, decide_eq_false_iff_not] at h_); omega) | (simp [mulSz, Cont.len, bne] at h_; first | done | omega))); intro _; conv => whnf)
        | (refine ⟨0, (show _ = _ by omega), ?_⟩; conv => whnf))
      refine .inl ⟨[], [0, 9], ?_⟩
      conv => whnf
      repeat' (first | exact True.intro | rfl | refine And.intro ?_ ?_)
      all_goals (conv => whnf)
      repeat' (first | exact True.intro | rfl | refine And.intro ?_ ?_)
      all_goals (try omega)
    · have q : t ≠ 0 := by simp at q'; omega
      have e : rtB n t = true := by unfold rtB; simp; omega
      rw [show rtL F n = rl F n 256 by unfold rtL; rw [ht, if_pos e], show rtE n t = 0 from (if_neg h).trans (if_neg q)]
      obtain ⟨Z, hZ⟩ : ∃ Z, Z = 256 := ⟨_, rfl⟩
      conv => whnf
      repeat (first
        | (refine And.intro ?_ ?_; (focus (first | omega | decide | exact EqOk.mk (by kernel_rfl) (by kernel_rfl) (by kernel_rfl) | exact Int.natCast_nonneg _ | ((repeat' refine And.intro ?_ ?_) <;> first | omega | exact Int.natCast_nonneg _ | (simp only [i64max, u8max, u16max, u32max, u64max]; omega) | (simp only [mulSz_eq, Cont.len, colsLen, Col.len, List.length_cons, List.length_nil, List.length_replicate, List.length_append]; first | done | omega) | (simp [mulSz, Cont.len, bne]; first | done | omega)))); conv => whnf)
        | (refine tst_in ?_ ?_; (focus (intro h_; exfalso; first | omega | ((try simp only [decide_eq_true_eq, decide_eq_false_iff_not] at h_); omega) | (simp [mulSz, Cont.len, bne] at h_; first | done | omega))); intro _; conv => whnf)
        | (refine tst_in ?_ ?_; rotate_left; (focus (intro h_; exfalso; first | omega | ((try simp only [decide_eq_true_eq, decide_eq_false_iff_not] at h_); omega) | (simp [mulSz, Cont.len, bne] at h_; first | done | omega))); intro _; conv => whnf)
        | (refine ⟨0, (show _ = _ by omega), ?_⟩; conv => whnf))
      refine ⟨⟨[0, 9], ((0, []) : Nat × List Int), ?_, Nat.zero_le _⟩, ?_⟩
      · show stLe _ _ (st31 F A n t c 0 []) _
        conv => whnf
        repeat' (first | exact True.intro | rfl | refine And.intro ?_ ?_)
        all_goals (conv => whnf)
        repeat' (first | exact True.intro | rfl | refine And.intro ?_ ?_)
        all_goals (try omega)
      · intro ⟨x, tl⟩ (hx : x ≤ 256)
        show forceSt (st31 F A n t c x tl) _
        have hrl := rl_len F n x
        unfold st31
        generalize hL : rl F n x = L at *
        conv => whnf
        repeat (first
          | (refine And.intro ?_ ?_; (focus (first | omega | decide | exact EqOk.mk (by kernel_rfl) (by kernel_rfl) (by kernel_rfl) | exact Int.natCast_nonneg _ | ((repeat' refine And.intro ?_ ?_) <;> first | omega | exact Int.natCast_nonneg _ | (simp only [i64max, u8max, u16max, u32max, u64max]; omega) | (simp only [mulSz_eq, Cont.len, colsLen, Col.len, List.length_cons, List.length_nil, List.length_replicate, List.length_append]; first | done | omega) | (simp [mulSz, Cont.len, bne]; first | done | omega)))); conv => whnf)
          | (refine tst_in ?_ ?_; (focus (intro h_; exfalso; first | omega | ((try simp only [decide_eq_true_eq, decide_eq_false_iff_not] at h_); omega) | (simp [mulSz, Cont.len, bne] at h_; first | done | omega))); intro _; conv => whnf)
          | (refine tst_in ?_ ?_; rotate_left; (focus (intro h_; exfalso; first | omega | ((try simp only [decide_eq_true_eq, decide_eq_false_iff_not] at h_); omega) | (simp [mulSz, Cont.len, bne] at h_; first | done | omega))); intro _; conv => whnf)
          | (refine ⟨0, (show _ = _ by omega), ?_⟩; conv => whnf))
        refine tst_in (fun u => ?_) (fun u' => ?_)
        · have u : x < 256 := by have := dlt_t u; omega
          have AX := AT (toB (x : Int))
          rw [toB_nat u, eAs] at AX
          have hlv := (As F (toB (x : Int)) n).lt
          have hwr : IntKind.u8.wrap (x : Int) = (x : Int) := by rw [u8wrap]; omega
          conv => whnf
          repeat (first
            | (refine And.intro ?_ ?_; (focus (first | omega | decide | exact EqOk.mk (by kernel_rfl) (by kernel_rfl) (by kernel_rfl) | exact Int.natCast_nonneg _ | ((repeat' refine And.intro ?_ ?_) <;> first | omega | exact Int.natCast_nonneg _ | (simp only [i64max, u8max, u16max, u32max, u64max]; omega) | (simp only [mulSz_eq, Cont.len, colsLen, Col.len, List.length_cons, List.length_nil, List.length_replicate, List.length_append]; first | done | omega) | (simp [mulSz, Cont.len, bne]; first | done | omega)))); conv => whnf)
            | (refine tst_in ?_ ?_; (focus (intro h_; exfalso; first | omega | ((try simp only [decide_eq_true_eq, decide_eq_false_iff_not] at h_); omega) | (simp [mulSz, Cont.len, bne] at h_; first | done | omega))); intro _; conv => whnf)
            | (refine tst_in ?_ ?_; rotate_left; (focus (intro h_; exfalso; first | omega | ((try simp only [decide_eq_true_eq, decide_eq_false_iff_not] at h_); omega) | (simp [mulSz, Cont.len, bne] at h_; first | done | omega))); intro _; conv => whnf)
            | (refine ⟨0, (show _ = _ by omega), ?_⟩; conv => whnf))
          rw [hwr]
          refine ⟨_, [0], AX, ?_⟩
          conv => whnf
          iterate 2
           refine And.intro ?_ ?_
           focus
            conv => whnf
            repeat' (first | exact True.intro | rfl | refine And.intro ?_ ?_ | omega)
            all_goals (conv => whnf)
            all_goals (try (first | rfl | omega | (simp; done)))
          conv => whnf
          refine ⟨?_, True.intro⟩
          intro _ _
          conv => whnf
          conv => whnf
          repeat (first
            | (refine And.intro ?_ ?_; (focus (first | omega | decide | exact EqOk.mk (by kernel_rfl) (by kernel_rfl) (by kernel_rfl) | exact Int.natCast_nonneg _ | ((repeat' refine And.intro ?_ ?_) <;> first | omega | exact Int.natCast_nonneg _ | (simp only [i64max, u8max, u16max, u32max, u64max]; omega) | (simp only [mulSz_eq, Cont.len, colsLen, Col.len, List.length_cons, List.length_nil, List.length_replicate, List.length_append]; first | done | omega) | (simp [mulSz, Cont.len, bne]; first | done | omega)))); conv => whnf)
            | (refine tst_in ?_ ?_; (focus (intro h_; exfalso; first | omega | ((try simp only [decide_eq_true_eq, decide_eq_false_iff_not] at h_); omega) | (simp [mulSz, Cont.len, bne] at h_; first | done | omega))); intro _; conv => whnf)
            | (refine tst_in ?_ ?_; rotate_left; (focus (intro h_; exfalso; first | omega | ((try simp only [decide_eq_true_eq, decide_eq_false_iff_not] at h_); omega) | (simp [mulSz, Cont.len, bne] at h_; first | done | omega))); intro _; conv => whnf)
            | (refine ⟨0, (show _ = _ by omega), ?_⟩; conv => whnf))
          refine tst_in (fun w => ?_) (fun w' => ?_)
          · have w : (As F (toB (x : Int)) n).v = 0 := by simp at w; omega
            have e1 : rl F n (x + 1) = L ++ [(x : Int)] := by
              rw [show rl F n (x + 1) = if isR F n x = true then rl F n x ++ [(x : Int)] else rl F n x from rfl, if_pos (show isR F n x = true from decide_eq_true w), hL]
            conv => whnf
            repeat (first
              | (refine And.intro ?_ ?_; (focus (first | omega | decide | exact EqOk.mk (by kernel_rfl) (by kernel_rfl) (by kernel_rfl) | exact Int.natCast_nonneg _ | ((repeat' refine And.intro ?_ ?_) <;> first | omega | exact Int.natCast_nonneg _ | (simp only [i64max, u8max, u16max, u32max, u64max]; omega) | (simp only [mulSz_eq, Cont.len, colsLen, Col.len, List.length_cons, List.length_nil, List.length_replicate, List.length_append]; first | done | omega) | (simp [mulSz, Cont.len, bne]; first | done | omega)))); conv => whnf)
              | (refine tst_in ?_ ?_; (focus (intro h_; exfalso; first | omega | ((try simp only [decide_eq_true_eq, decide_eq_false_iff_not] at h_); omega) | (simp [mulSz, Cont.len, bne] at h_; first | done | omega))); intro _; conv => whnf)
              | (refine tst_in ?_ ?_; rotate_left; (focus (intro h_; exfalso; first | omega | ((try simp only [decide_eq_true_eq, decide_eq_false_iff_not] at h_); omega) | (simp [mulSz, Cont.len, bne] at h_; first | done | omega))); intro _; conv => whnf)
              | (refine ⟨0, (show _ = _ by omega), ?_⟩; conv => whnf))
            rw [hwr]
            intro tl2
            change List Int at tl2
            conv => whnf
            repeat (first
              | (refine And.intro ?_ ?_; (focus (first | omega | decide | exact EqOk.mk (by kernel_rfl) (by kernel_rfl) (by kernel_rfl) | exact Int.natCast_nonneg _ | ((repeat' refine And.intro ?_ ?_) <;> first | omega | exact Int.natCast_nonneg _ | (simp only [i64max, u8max, u16max, u32max, u64max]; omega) | (simp only [mulSz_eq, Cont.len, colsLen, Col.len, List.length_cons, List.length_nil, List.length_replicate, List.length_append]; first | done | omega) | (simp [mulSz, Cont.len, bne]; first | done | omega)))); conv => whnf)
              | (refine tst_in ?_ ?_; (focus (intro h_; exfalso; first | omega | ((try simp only [decide_eq_true_eq, decide_eq_false_iff_not] at h_); omega) | (simp [mulSz, Cont.len, bne] at h_; first | done | omega))); intro _; conv => whnf)
              | (refine tst_in ?_ ?_; rotate_left; (focus (intro h_; exfalso; first | omega | ((try simp only [decide_eq_true_eq, decide_eq_false_iff_not] at h_); omega) | (simp [mulSz, Cont.len, bne] at h_; first | done | omega))); intro _; conv => whnf)
              | (refine ⟨0, (show _ = _ by omega), ?_⟩; conv => whnf))
            refine ⟨[0, 3], ((x + 1, tl2) : Nat × List Int), ?_, u, (by show 256 - (x + 1) < 256 - x; omega)⟩
            show stLe _ _ (st31 F A n t c (x + 1) tl2) _
            unfold st31
            rw [e1]
            conv => whnf
            repeat' (first | exact True.intro | rfl | refine And.intro ?_ ?_)
            all_goals (conv => whnf)
            repeat' (first | exact True.intro | rfl | refine And.intro ?_ ?_)
            all_goals (try omega)
            · show (L ++ [(x : Int)]).length = L.length + 1
              rw [List.length_append]; rfl
            · show (L ++ [(x : Int)]).length + tl2.length = L.length + 1 + tl2.length
              rw [List.length_append]; rfl
            · show L ++ [(x : Int)] ++ tl2 = List.take L.length (List.drop 0 (L ++ tl)) ++ [(x : Int)] ++ tl2
              rw [List.drop_zero, List.take_left]
          · have w : (As F (toB (x : Int)) n).v ≠ 0 := by simp at w'; omega
            have e1 : rl F n (x + 1) = L := by
              rw [show rl F n (x + 1) = if isR F n x = true then rl F n x ++ [(x : Int)] else rl F n x from rfl, if_neg (by unfold isR; rw [decide_eq_true_eq]; exact w), hL]
            conv => whnf
            repeat (first
              | (refine And.intro ?_ ?_; (focus (first | omega | decide | exact EqOk.mk (by kernel_rfl) (by kernel_rfl) (by kernel_rfl) | exact Int.natCast_nonneg _ | ((repeat' refine And.intro ?_ ?_) <;> first | omega | exact Int.natCast_nonneg _ | (simp only [i64max, u8max, u16max, u32max, u64max]; omega) | (simp only [mulSz_eq, Cont.len, colsLen, Col.len, List.length_cons, List.length_nil, List.length_replicate, List.length_append]; first | done | omega) | (simp [mulSz, Cont.len, bne]; first | done | omega)))); conv => whnf)
              | (refine tst_in ?_ ?_; (focus (intro h_; exfalso; first | omega | ((try simp only [decide_eq_true_eq, decide_eq_false_iff_not] at h_); omega) | (simp [mulSz, Cont.len, bne] at h_; first | done | omega))); intro _; conv => whnf)
              | (refine tst_in ?_ ?_; rotate_left; (focus (intro h_; exfalso; first | omega | ((try simp only [decide_eq_true_eq, decide_eq_false_iff_not] at h_); omega) | (simp [mulSz, Cont.len, bne] at h_; first | done | omega))); intro _; conv => whnf)
              | (refine ⟨0, (show _ = _ by omega), ?_⟩; conv => whnf))
            refine ⟨[0, 1], ((x + 1, tl) : Nat × List Int), ?_, u, (by show 256 - (x + 1) < 256 - x; omega)⟩
            show stLe _ _ (st31 F A n t c (x + 1) tl) _
            unfold st31
            rw [e1]
            conv => whnf
            repeat' (first | exact True.intro | rfl | refine And.intro ?_ ?_)
            all_goals (conv => whnf)
            repeat' (first | exact True.intro | rfl | refine And.intro ?_ ?_)
            all_goals (try omega)
        · have u : x = 256 := by have := dlt_f u'; omega
          subst u
          rw [hL]
          conv => whnf
          repeat (first
            | (refine And.intro ?_ ?_; (focus (first | omega | decide | exact EqOk.mk (by kernel_rfl) (by kernel_rfl) (by kernel_rfl) | exact Int.natCast_nonneg _ | ((repeat' refine And.intro ?_ ?_) <;> first | omega | exact Int.natCast_nonneg _ | (simp only [i64max, u8max, u16max, u32max, u64max]; omega) | (simp only [mulSz_eq, Cont.len, colsLen, Col.len, List.length_cons, List.length_nil, List.length_replicate, List.length_append]; first | done | omega) | (simp [mulSz, Cont.len, bne]; first | done | omega)))); conv => whnf)
            | (refine tst_in ?_ ?_; (focus (intro h_; exfalso; first | omega | ((try simp only [decide_eq_true_eq, decide_eq_false_iff_not] at h_); omega) | (simp [mulSz, Cont.len, bne] at h_; first | done | omega))); intro _; conv => whnf)
            | (refine tst_in ?_ ?_; rotate_left; (focus (intro h_; exfalso; first | omega | ((try simp only [decide_eq_true_eq, decide_eq_false_iff_not] at h_); omega) | (simp [mulSz, Cont.len, bne] at h_; first | done | omega))); intro _; conv => whnf)
            | (refine ⟨0, (show _ = _ by omega), ?_⟩; conv => whnf))
          refine .inl ⟨tl, [0, 1], ?_⟩
          conv => whnf
          repeat' (first | exact True.intro | rfl | refine And.intro ?_ ?_)
          all_goals (conv => whnf)
          repeat' (first | exact True.intro | rfl | refine And.intro ?_ ?_)
          all_goals (try omega)
/-- The derivative. -/
noncomputable def sl (P : Nat → G) (i : Nat) : G := if i % 2 = 0 then P (i + 1) else g0
noncomputable def k32 : Code := (Try.f32.body).getD .skip
def slN (n : Nat) : Nat := if 512 < n then 0 else n
noncomputable def slope (F : Nat → G) (n : Nat) : Nat → G := sl (ct F n)
noncomputable def slopeOut (F : Nat → G) (n : Nat) : FOut := numOut [.dead, .seg true (.ints .u8 (tb (gi (slope F n)) (slN n)))] (.tup [.slice 1 0 (dg (slope F n) (slN n)) (slN n), .int .i64 (atE n)])
noncomputable def st32 (F : Nat → G) (A : List Int) (n c j : Nat) : St := ⟨slotsAt 28 [(0, .slice 0 0 n c), (4, .slice 1 0 n n), (5, .int .i64 (2 * j + 1))], [.seg false (.ints .u8 A), .seg true (.ints .u8 (tb (gi (ct (slope F n) (2 * j))) n))]⟩
set_option maxHeartbeats 0 in
set_option maxRecDepth 100000 in
theorem Slope_g (F : Nat → G) (A : List Int) (n c : Nat) (hA : Rd A F n) (hc : n ≤ c) (hn : n ≤ 9223372036854775807) :
    Fits Try.prog 32 ⟨[.slice 0 0 n c], [.seg false (.ints .u8 A)], [slopeOut F n]⟩ := by
  unfold slopeOut
  have TK := tooLong1 n c hn
  have TA := trim_f (slope F n) (tb (gi (slope F n)) n) n n (Rd_tb _ _) (Nat.le_refl _) hn
  refine fits_of_body (C := cfgk 1) (c := k32) (ts := [2, 3]) tokL mixedL (fun | 5 => some ⟨Nat, fun j => st32 F A n c j, fun j => j ≤ n, fun j => n - j⟩ | _ => none) (fun _ => none)
    Try.func32 (by kernel_rfl) (by kernel_rfl) (by kernel_rfl) (by kernel_rfl) rfl ?_
  conv => whnf
  repeat (first
    | (refine And.intro ?_ ?_; (focus (first | omega | decide | exact EqOk.mk (by kernel_rfl) (by kernel_rfl) (by kernel_rfl) | exact Int.natCast_nonneg _ | ((repeat' refine And.intro ?_ ?_) <;> first | omega | exact Int.natCast_nonneg _ | (simp only [i64max, u8max, u16max, u32max, u64max]; omega) | (simp only [mulSz_eq, Cont.len, colsLen, Col.len, List.length_cons, List.length_nil, List.length_replicate, List.length_append]; first | done | omega) | (simp [mulSz, Cont.len, bne]; first | done | omega)))); conv => whnf)
    | (refine tst_in ?_ ?_; (focus (intro h_; exfalso; first | omega | ((try simp only [decide_eq_true_eq, decide_eq_false_iff_not] at h_); omega) | (simp [mulSz, Cont.len, bne] at h_; first | done | omega))); intro _; conv => whnf)
    | (refine tst_in ?_ ?_; rotate_left; (focus (intro h_; exfalso; first | omega | ((try simp only [decide_eq_true_eq, decide_eq_false_iff_not] at h_); omega) | (simp [mulSz, Cont.len, bne] at h_; first | done | omega))); intro _; conv => whnf)
    | (refine ⟨0, (show _ = _ by omega), ?_⟩; conv => whnf))
  refine ⟨_, [1, 0], TK, ?_⟩
  conv => whnf
  iterate 2
   refine And.intro ?_ ?_
   focus
    conv => whnf
    repeat' (first | exact True.intro | rfl | refine And.intro ?_ ?_)
    all_goals (conv => whnf)
    repeat' (first | exact True.intro | rfl | refine And.intro ?_ ?_)
    all_goals (try (first | rfl | omega | (simp; first | done | omega)))
  conv => whnf
  by_cases h : 512 < n
  · rw [show slN n = 0 from if_pos h, show atE n = 1 from if_pos h, decide_eq_true h]
    conv => whnf
    repeat (first
      | (refine And.intro ?_ ?_; (focus (first | omega | decide | exact EqOk.mk (by kernel_rfl) (by kernel_rfl) (by kernel_rfl) | exact Int.natCast_nonneg _ | ((repeat' refine And.intro ?_ ?_) <;> first | omega | exact Int.natCast_nonneg _ | (simp only [i64max, u8max, u16max, u32max, u64max]; omega) | (simp only [mulSz_eq, Cont.len, colsLen, Col.len, List.length_cons, List.length_nil, List.length_replicate, List.length_append]; first | done | omega) | (simp [mulSz, Cont.len, bne]; first | done | omega)))); conv => whnf)
      | (refine tst_in ?_ ?_; (focus (intro h_; exfalso; first | omega | ((try simp only [decide_eq_true_eq, decide_eq_false_iff_not] at h_); omega) | (simp [mulSz, Cont.len, bne] at h_; first | done | omega))); intro _; conv => whnf)
      | (refine tst_in ?_ ?_; rotate_left; (focus (intro h_; exfalso; first | omega | ((try simp only [decide_eq_true_eq, decide_eq_false_iff_not] at h_); omega) | (simp [mulSz, Cont.len, bne] at h_; first | done | omega))); intro _; conv => whnf)
      | (refine ⟨0, (show _ = _ by omega), ?_⟩; conv => whnf))
    refine .inl ⟨(), [0, 9], ?_⟩
    conv => whnf
    repeat' (first | exact True.intro | rfl | refine And.intro ?_ ?_)
    all_goals (conv => whnf)
    repeat' (first | exact True.intro | rfl | refine And.intro ?_ ?_)
    all_goals (try omega)
  · rw [show slN n = n from if_neg h, show atE n = 0 from if_neg h, decide_eq_false h]
    obtain ⟨hl, hg⟩ := hA
    conv => whnf
    repeat (first
      | (refine And.intro ?_ ?_; (focus (first | omega | decide | exact EqOk.mk (by kernel_rfl) (by kernel_rfl) (by kernel_rfl) | exact Int.natCast_nonneg _ | ((repeat' refine And.intro ?_ ?_) <;> first | omega | exact Int.natCast_nonneg _ | (simp only [i64max, u8max, u16max, u32max, u64max]; omega) | (simp only [mulSz_eq, Cont.len, colsLen, Col.len, List.length_cons, List.length_nil, List.length_replicate, List.length_append]; first | done | omega) | (simp [mulSz, Cont.len, bne]; first | done | omega)))); conv => whnf)
      | (refine tst_in ?_ ?_; (focus (intro h_; exfalso; first | omega | ((try simp only [decide_eq_true_eq, decide_eq_false_iff_not] at h_); omega) | (simp [mulSz, Cont.len, bne] at h_; first | done | omega))); intro _; conv => whnf)
      | (refine tst_in ?_ ?_; rotate_left; (focus (intro h_; exfalso; first | omega | ((try simp only [decide_eq_true_eq, decide_eq_false_iff_not] at h_); omega) | (simp [mulSz, Cont.len, bne] at h_; first | done | omega))); intro _; conv => whnf)
      | (refine ⟨0, (show _ = _ by omega), ?_⟩; conv => whnf))
    rw [show ((n : Nat) : Int).toNat = n by omega]
    refine ⟨⟨[0, 2], (0 : Nat), ?_, Nat.zero_le _⟩, ?_⟩
    · show stLe _ _ (st32 F A n c 0) _
      conv => whnf
      repeat' (first | exact True.intro | rfl | refine And.intro ?_ ?_)
      all_goals (conv => whnf)
      repeat' (first | exact True.intro | rfl | refine And.intro ?_ ?_)
      all_goals (try omega)
      exact (tab_ext 0 (List.length_replicate ..) fun k hk => by rw [g_rep, if_pos hk]; show (0 : Int) = ((ct (slope F n) 0 k).v : Nat); rw [show ct (slope F n) 0 k = g0 from if_neg (by omega)]; rfl).symm
    · intro (j : Nat) (hj : j ≤ n)
      show forceSt (st32 F A n c j) _
      conv => whnf
      repeat (first
        | (refine And.intro ?_ ?_; (focus (first | omega | decide | exact EqOk.mk (by kernel_rfl) (by kernel_rfl) (by kernel_rfl) | exact Int.natCast_nonneg _ | ((repeat' refine And.intro ?_ ?_) <;> first | omega | exact Int.natCast_nonneg _ | (simp only [i64max, u8max, u16max, u32max, u64max]; omega) | (simp only [mulSz_eq, Cont.len, colsLen, Col.len, List.length_cons, List.length_nil, List.length_replicate, List.length_append]; first | done | omega) | (simp [mulSz, Cont.len, bne]; first | done | omega)))); conv => whnf)
        | (refine tst_in ?_ ?_; (focus (intro h_; exfalso; first | omega | ((try simp only [decide_eq_true_eq, decide_eq_false_iff_not] at h_); omega) | (simp [mulSz, Cont.len, bne] at h_; first | done | omega))); intro _; conv => whnf)
        | (refine tst_in ?_ ?_; rotate_left; (focus (intro h_; exfalso; first | omega | ((try simp only [decide_eq_true_eq, decide_eq_false_iff_not] at h_); omega) | (simp [mulSz, Cont.len, bne] at h_; first | done | omega))); intro _; conv => whnf)
        | (refine ⟨0, (show _ = _ by omega), ?_⟩; conv => whnf))
      refine tst_in (fun u => ?_) (fun u' => ?_)
      · have u : 2 * j + 1 < n := by have := dlt_t u; omega
        have hgj := hg (2 * j + 1) u
        conv => whnf
        repeat (first
          | (refine And.intro ?_ ?_; (focus (first | omega | decide | exact EqOk.mk (by kernel_rfl) (by kernel_rfl) (by kernel_rfl) | exact Int.natCast_nonneg _ | ((repeat' refine And.intro ?_ ?_) <;> first | omega | exact Int.natCast_nonneg _ | (simp only [i64max, u8max, u16max, u32max, u64max]; omega) | (simp only [mulSz_eq, Cont.len, colsLen, Col.len, List.length_cons, List.length_nil, List.length_replicate, List.length_append, tab_len]; first | done | omega) | (simp [mulSz, Cont.len, bne, tab_len]; first | done | omega)))); conv => whnf)
          | (refine tst_in ?_ ?_; (focus (intro h_; exfalso; first | omega | ((try simp only [decide_eq_true_eq, decide_eq_false_iff_not] at h_); omega) | (simp [mulSz, Cont.len, bne, tab_len] at h_; first | done | omega))); intro _; conv => whnf)
          | (refine tst_in ?_ ?_; rotate_left; (focus (intro h_; exfalso; first | omega | ((try simp only [decide_eq_true_eq, decide_eq_false_iff_not] at h_); omega) | (simp [mulSz, Cont.len, bne, tab_len] at h_; first | done | omega))); intro _; conv => whnf)
          | (refine ⟨0, (show _ = _ by omega), ?_⟩; conv => whnf))
        rw [show (0 + (2 * (j : Nat) + 1 : Int).toNat) = 2 * j + 1 by omega, hgj]
        conv => whnf
        repeat (first
          | (refine And.intro ?_ ?_; (focus (first | omega | decide | exact EqOk.mk (by kernel_rfl) (by kernel_rfl) (by kernel_rfl) | exact Int.natCast_nonneg _ | ((repeat' refine And.intro ?_ ?_) <;> first | omega | exact Int.natCast_nonneg _ | (simp only [i64max, u8max, u16max, u32max, u64max]; omega) | (simp only [mulSz_eq, Cont.len, colsLen, Col.len, List.length_cons, List.length_nil, List.length_replicate, List.length_append, tab_len]; first | done | omega) | (simp [mulSz, Cont.len, bne, tab_len]; first | done | omega)))); conv => whnf)
          | (refine tst_in ?_ ?_; (focus (intro h_; exfalso; first | omega | ((try simp only [decide_eq_true_eq, decide_eq_false_iff_not] at h_); omega) | (simp [mulSz, Cont.len, bne, tab_len] at h_; first | done | omega))); intro _; conv => whnf)
          | (refine tst_in ?_ ?_; rotate_left; (focus (intro h_; exfalso; first | omega | ((try simp only [decide_eq_true_eq, decide_eq_false_iff_not] at h_); omega) | (simp [mulSz, Cont.len, bne, tab_len] at h_; first | done | omega))); intro _; conv => whnf)
          | (refine ⟨0, (show _ = _ by omega), ?_⟩; conv => whnf))
        refine ⟨[0, 1], (j + 1 : Nat), ?_, (by show j + 1 ≤ n; omega), (by show n - (j + 1) < n - j; omega)⟩
        show stLe _ _ (st32 F A n c (j + 1)) _
        conv => whnf
        repeat' (first | exact True.intro | rfl | refine And.intro ?_ ?_)
        all_goals (conv => whnf)
        repeat' (first | exact True.intro | rfl | refine And.intro ?_ ?_)
        all_goals (try omega)
        show tb (gi (ct (slope F n) (2 * (j + 1)))) n = (tb (gi (ct (slope F n) (2 * j))) n).set (0 + (2 * (j : Nat) + 1 - 1 : Int).toNat) (((F (2 * j + 1)).v : Nat) : Int)
        rw [show (0 + (2 * (j : Nat) + 1 - 1 : Int).toNat) = 2 * j by omega]
        refine (tab_put _ n (2 * j) _ fun k hk => ?_).symm
        by_cases e : k = 2 * j
        · subst e
          rw [if_pos rfl, ct_lt _ (by omega)]
          unfold slope sl
          rw [if_pos (by omega), ct_lt _ (by omega)]
        · rw [if_neg e]
          by_cases e2 : k < 2 * j
          · rw [ct_lt _ e2, ct_lt _ (by omega)]
          · rw [show ct (slope F n) (2 * j) k = g0 from if_neg e2]
            by_cases e3 : k = 2 * j + 1
            · subst e3
              rw [ct_lt _ (by omega)]
              unfold slope sl
              rw [if_neg (by omega)]
            · exact if_neg (by omega)
      · have u : n ≤ 2 * j + 1 := by have := dlt_f u'; omega
        have e : tb (gi (ct (slope F n) (2 * j))) n = tb (gi (slope F n)) n := tab_congr fun k hk => by
          unfold gi
          by_cases h2 : k < 2 * j
          · rw [ct_lt _ h2]
          · rw [show ct (slope F n) (2 * j) k = g0 from if_neg h2]
            unfold slope sl
            split
            · rw [show ct F n (k + 1) = g0 from if_neg (by omega)]
            · rfl
        unfold st32
        rw [e]
        conv => whnf
        repeat (first
          | (refine And.intro ?_ ?_; (focus (first | omega | decide | exact EqOk.mk (by kernel_rfl) (by kernel_rfl) (by kernel_rfl) | exact Int.natCast_nonneg _ | ((repeat' refine And.intro ?_ ?_) <;> first | omega | exact Int.natCast_nonneg _ | (simp only [i64max, u8max, u16max, u32max, u64max]; omega) | (simp only [mulSz_eq, Cont.len, colsLen, Col.len, List.length_cons, List.length_nil, List.length_replicate, List.length_append]; first | done | omega) | (simp [mulSz, Cont.len, bne]; first | done | omega)))); conv => whnf)
          | (refine tst_in ?_ ?_; (focus (intro h_; exfalso; first | omega | ((try simp only [decide_eq_true_eq, decide_eq_false_iff_not] at h_); omega) | (simp [mulSz, Cont.len, bne] at h_; first | done | omega))); intro _; conv => whnf)
          | (refine tst_in ?_ ?_; rotate_left; (focus (intro h_; exfalso; first | omega | ((try simp only [decide_eq_true_eq, decide_eq_false_iff_not] at h_); omega) | (simp [mulSz, Cont.len, bne] at h_; first | done | omega))); intro _; conv => whnf)
          | (refine ⟨0, (show _ = _ by omega), ?_⟩; conv => whnf))
        refine ⟨_, [1], TA, ?_⟩
        conv => whnf
        iterate 2
         refine And.intro ?_ ?_
         focus
          conv => whnf
          repeat' (first | exact True.intro | rfl | refine And.intro ?_ ?_ | omega)
          all_goals (conv => whnf)
          all_goals (try (first | rfl | omega | (simp; done)))
        conv => whnf
        refine ⟨?_, True.intro⟩
        intro _ _
        conv => whnf
        conv => whnf
        repeat (first
          | (refine And.intro ?_ ?_; (focus (first | omega | decide | exact EqOk.mk (by kernel_rfl) (by kernel_rfl) (by kernel_rfl) | exact Int.natCast_nonneg _ | ((repeat' refine And.intro ?_ ?_) <;> first | omega | exact Int.natCast_nonneg _ | (simp only [i64max, u8max, u16max, u32max, u64max]; omega) | (simp only [mulSz_eq, Cont.len, colsLen, Col.len, List.length_cons, List.length_nil, List.length_replicate, List.length_append]; first | done | omega) | (simp [mulSz, Cont.len, bne]; first | done | omega)))); conv => whnf)
          | (refine tst_in ?_ ?_; (focus (intro h_; exfalso; first | omega | ((try simp only [decide_eq_true_eq, decide_eq_false_iff_not] at h_); omega) | (simp [mulSz, Cont.len, bne] at h_; first | done | omega))); intro _; conv => whnf)
          | (refine tst_in ?_ ?_; rotate_left; (focus (intro h_; exfalso; first | omega | ((try simp only [decide_eq_true_eq, decide_eq_false_iff_not] at h_); omega) | (simp [mulSz, Cont.len, bne] at h_; first | done | omega))); intro _; conv => whnf)
          | (refine ⟨0, (show _ = _ by omega), ?_⟩; conv => whnf))
        refine .inl ⟨(), [0, 1], ?_⟩
        conv => whnf
        repeat' (first | exact True.intro | rfl | refine And.intro ?_ ?_)
        all_goals (conv => whnf)
        repeat' (first | exact True.intro | rfl | refine And.intro ?_ ?_)
        all_goals (try omega)
end Go.Proofs.Yteiblfkegnppeaa

set_option linter.unusedVariables false
set_option linter.unusedSimpArgs false
namespace Go.Proofs.Yteiblfkegnppeaa
open Go Go.Fw
theorem tb_congr {F H : Nat → G} {N : Nat} (h : ∀ k, k < N → F k = H k) : tb (gi F) N = tb (gi H) N := tab_congr fun k hk => by unfold gi; rw [h k hk]
structure TQ where
  i : Nat
  P : Nat → G
  t : Nat
  tl : List Int
noncomputable def two (r : G) (i : Nat) : G := if i = 0 then r else if i = 1 then g1 else g0
theorem zr_two (r : G) : Zr (two r) 2 := fun i hi => by unfold two; rw [if_neg (by omega), if_neg (by omega)]
theorem Rd_two (r : G) : Rd [((r.v : Nat) : Int), 1] (two r) 2 := ⟨Nat.le_refl _, fun i hi => by
  obtain h | h : i = 0 ∨ i = 1 := by omega
  · subst h; rfl
  · subst h; rfl⟩
theorem prod_two {P : Nat → G} {n : Nat} (h : Zr P n) (r : G) : prodP P (two r) n 2 = mulX P r := by
  unfold prodP
  rw [ct_eq h, ct_eq (zr_two r), ac_comm h (zr_two r)]
  show pa (pa zf (ps (two r 0) (sh 0 P))) (ps (two r 1) (sh 1 P)) = _
  rw [zf_pa, sh_0, show two r 1 = g1 from rfl, ps_1, show two r 0 = r from rfl, pa_comm]
  rfl
theorem dg_two (r : G) : dg (two r) 2 = 2 := by
  show (if (two r 1).v = 0 then dg (two r) 1 else 2) = 2
  rw [if_neg (show ¬ (two r 1).v = 0 from fun q => by cases (show (1 : Nat) = 0 from q))]
end Go.Proofs.Yteiblfkegnppeaa

set_option linter.unusedVariables false
set_option linter.unusedSimpArgs false
namespace Go.Proofs.Yteiblfkegnppeaa
open Go Go.Fw
end Go.Proofs.Yteiblfkegnppeaa

set_option linter.unusedVariables false
set_option linter.unusedSimpArgs false
namespace Go.Proofs.Yteiblfkegnppeaa
open Go Go.Fw
end Go.Proofs.Yteiblfkegnppeaa

set_option linter.unusedVariables false
set_option linter.unusedSimpArgs false
namespace Go.Proofs.Yteiblfkegnppeaa
open Go Go.Fw
def bit (a i : Nat) : Nat := Nat.mod (Nat.div a (Nat.pow 2 i)) 2
noncomputable def rstep (a b i k p : Nat) : Nat := @Bool.rec (fun _ => Nat) p (@Bool.rec (fun _ => Nat) p (Nat.xor p (Nat.pow 2 (Nat.add i k))) (Nat.beq (bit b k) 1)) (Nat.beq (bit a i) 1)
noncomputable def rfold (a b : Nat) (n : Nat) : Nat := @Nat.rec (fun _ => Nat) 0 (fun n p => rstep a b (Nat.div n 8) (Nat.mod n 8) p) n
noncomputable def dstep (i p : Nat) : Nat := @Bool.rec (fun _ => Nat) p (Nat.xor p (Nat.mul 285 (Nat.pow 2 (Nat.sub i 8)))) (Nat.beq (bit p i) 1)
noncomputable def red (p : Nat) (n : Nat) : Nat := @Nat.rec (fun _ => Nat) p (fun n p => dstep (Nat.sub 14 n) p) n
theorem rfold_succ (a b i k : Nat) (hk : k < 8) : rfold a b (8 * i + k + 1) = rstep a b i k (rfold a b (8 * i + k)) := by
  show rstep a b ((8 * i + k) / 8) ((8 * i + k) % 8) (rfold a b (8 * i + k)) = _
  rw [show (8 * i + k) / 8 = i by omega, show (8 * i + k) % 8 = k by omega]
theorem rstep_yes {a b i k p : Nat} (h1 : bit a i = 1) (h2 : bit b k = 1) : rstep a b i k p = p ^^^ 2 ^ (i + k) := by
  unfold rstep
  rw [h1, h2]; rfl
theorem bit_01 (a i : Nat) : bit a i = 0 ∨ bit a i = 1 := Nat.mod_two_eq_zero_or_one _
theorem rstep_no {a b i k p : Nat} (h : bit a i ≠ 1 ∨ bit b k ≠ 1) : rstep a b i k p = p := by
  unfold rstep
  rcases bit_01 a i with h1 | h1 <;> rcases bit_01 b k with h2 | h2 <;> rw [h1, h2] <;> first | rfl | omega
theorem rstep_lt {a b i k p : Nat} (hi : i < 8) (hk : k < 8) (hp : p < 2 ^ 15) : rstep a b i k p < 2 ^ 15 := by
  by_cases h : bit a i = 1 ∧ bit b k = 1
  · rw [rstep_yes h.1 h.2]
    exact Nat.xor_lt_two_pow hp (Nat.pow_lt_pow_right (by decide) (by omega))
  · rw [rstep_no (by omega)]; exact hp
theorem rfold_lt (a b : Nat) : ∀ n, n ≤ 64 → rfold a b n < 2 ^ 15
  | 0, _ => by show 0 < _; decide
  | n + 1, h => rstep_lt (by show n / 8 < 8; omega) (by show n % 8 < 8; omega) (rfold_lt a b n (by omega))
theorem dstep_yes {i p : Nat} (h : bit p i = 1) : dstep i p = p ^^^ (285 * 2 ^ (i - 8)) := by
  unfold dstep; rw [h]; rfl
theorem dstep_no {i p : Nat} (h : bit p i ≠ 1) : dstep i p = p := by
  unfold dstep
  rcases bit_01 p i with h1 | h1
  · rw [h1]; rfl
  · exact absurd h1 h
theorem dstep_lt {i p : Nat} (hi : i ≤ 14) (hp : p < 2 ^ 15) : dstep i p < 2 ^ 15 := by
  by_cases h : bit p i = 1
  · rw [dstep_yes h]
    refine Nat.xor_lt_two_pow hp ?_
    have : 2 ^ (i - 8) ≤ 2 ^ 6 := Nat.pow_le_pow_right (by decide) (by omega)
    omega
  · rw [dstep_no h]; exact hp
theorem red_lt {p : Nat} (hp : p < 2 ^ 15) : ∀ n, red p n < 2 ^ 15
  | 0 => hp
  | n + 1 => dstep_lt (by show 14 - n ≤ 14; omega) (red_lt hp n)
/-- The product, as the document forms it. -/
noncomputable def refT (a b : Nat) : Nat := red (rfold a b 64) 7 % 256
noncomputable def c14 : Code := (Try.f18.body).getD .skip
noncomputable def inv14 (A B : Nat) : LInv := ⟨Nat, fun i => ⟨anyTo 51 [.int .u8 A, .int .u8 B, .any, .any, .any, .int .i64 (rfold A B (8 * i) : Nat), .int .i64 i], []⟩, fun i => i ≤ 8, fun i => 8 - i⟩
noncomputable def inv14b (A B : Nat) (st : St) : LInv := ⟨Nat, fun k => ⟨anyTo 51 [.int .u8 A, .int .u8 B, .any, .any, .any, .int .i64 (rfold A B (8 * natAt st 6 + k) : Nat), .int .i64 (natAt st 6 : Nat), .int .i64 k], []⟩, fun k => k ≤ 8, fun k => 8 - k⟩
noncomputable def cfg14 (A B : Nat) : Cfg := { cfg with dep := fun | 6 => some (inv14b A B) | _ => none }
noncomputable def inv14c (p0 : Nat) : LInv := ⟨Nat, fun n => ⟨anyTo 51 [.any, .any, .any, .any, .any, .int .i64 (red p0 n : Nat), .any, .any, .int .i64 (14 - (n : Int))], []⟩, fun n => n ≤ 7, fun n => 7 - n⟩
set_option maxRecDepth 100000 in
theorem refTimes_q (A B : Nat) (hA : A < 256) (hB : B < 256) : QFits Try.prog 18 ⟨[.int .u8 A, .int .u8 B], [], .int .u8 (refT A B : Nat)⟩ := by
  refine qfits_of_body (C := cfg14 A B) (c := c14) (ts := [4]) wtok wmixed (fun | 3 => some (inv14 A B) | 11 => some (inv14c (rfold A B 64)) | _ => none) (fun _ => none)
    Try.func18 (by kernel_rfl) (by kernel_rfl) (by kernel_rfl) (by kernel_rfl) (by kernel_rfl) rfl rfl ?_
  conv => whnf
  refine ⟨⟨[], (0 : Nat), ?_, Nat.zero_le _⟩, ?_⟩
  · conv => whnf
    repeat' (first | exact True.intro | rfl | refine And.intro ?_ ?_)
  · intro (i : Nat) (hi : i ≤ 8)
    conv => whnf
    refine tst_in (fun hlt => ?_) (fun hge => ?_)
    · skip
      have hlt : i < 8 := by simp at hlt; omega
      conv => whnf
      refine ⟨⟨[], (0 : Nat), ?_, Nat.zero_le _⟩, ?_⟩
      · conv => whnf
        repeat' (first | exact True.intro | rfl | refine And.intro ?_ ?_)
      · have hi : i < 8 := hlt
        clear hlt
        intro (k : Nat) (hk : k ≤ 8)
        have hP := rfold_lt A B (8 * i + k) (by omega)
        show forceSt ⟨anyTo 51 [.int .u8 A, .int .u8 B, .any, .any, .any, .int .i64 (rfold A B (8 * i + k) : Nat), .int .i64 i, .int .i64 k], []⟩ _
        generalize hPe : rfold A B (8 * i + k) = P at hP
        conv => whnf
        refine tst_in (fun hlt => ?_) (fun hge => ?_)
        · skip
          have hlt : k < 8 := by simp at hlt; omega
          have hF := rfold_succ A B i k hlt
          rw [hPe] at hF
          have e1 : (A : Int) / 2 ^ (min (i : Int).toNat IntKind.u8.bits) = ((A / 2 ^ i : Nat) : Int) := by
            rw [Int.toNat_natCast, show min i IntKind.u8.bits = i from Nat.min_eq_left (by show i ≤ 8; omega)]
            simp
          have e2 : (B : Int) / 2 ^ (min (k : Int).toNat IntKind.u8.bits) = ((B / 2 ^ k : Nat) : Int) := by
            rw [Int.toNat_natCast, show min k IntKind.u8.bits = k from Nat.min_eq_left (by show k ≤ 8; omega)]
            simp
          have l1 : A / 2 ^ i ≤ A := Nat.div_le_self _ _
          have l2 : B / 2 ^ k ≤ B := Nat.div_le_self _ _
          have e3 : ((((A / 2 ^ i : Nat) : Int).toNat &&& (1 : Int).toNat : Nat) : Int) = ((bit A i : Nat) : Int) := by
            rw [Int.toNat_natCast, show (1 : Int).toNat = 1 from rfl, Nat.and_one_is_mod]; rfl
          have e4 : ((((B / 2 ^ k : Nat) : Int).toNat &&& (1 : Int).toNat : Nat) : Int) = ((bit B k : Nat) : Int) := by
            rw [Int.toNat_natCast, show (1 : Int).toNat = 1 from rfl, Nat.and_one_is_mod]; rfl
          conv => whnf
          refine ⟨by repeat' (first | omega | exact Int.natCast_nonneg _ | (simp only [i64max]; omega) | (simp only [u8max]; omega) | refine And.intro ?_ ?_), ?_⟩
          conv => whnf
          rw [e1]
          refine ⟨by repeat' (first | omega | exact Int.natCast_nonneg _ | (simp only [i64max]; omega) | (simp only [u8max]; omega) | refine And.intro ?_ ?_), ?_⟩
          conv => whnf
          rw [e3]
          conv => whnf
          refine tst_in (fun h1 => ?_) (fun h1 => ?_)
          · skip
            have h1 : bit A i = 1 := by simp at h1; omega
            conv => whnf
            refine ⟨by repeat' (first | omega | exact Int.natCast_nonneg _ | (simp only [i64max]; omega) | (simp only [u8max]; omega) | refine And.intro ?_ ?_), ?_⟩
            conv => whnf
            rw [e2]
            refine ⟨by repeat' (first | omega | exact Int.natCast_nonneg _ | (simp only [i64max]; omega) | (simp only [u8max]; omega) | refine And.intro ?_ ?_), ?_⟩
            conv => whnf
            rw [e4]
            conv => whnf
            obtain ⟨q, hq⟩ : ∃ q, 2 ^ (i + k) = q := ⟨_, rfl⟩
            have lq : q < 32768 := by
              have : 2 ^ (i + k) < 2 ^ 15 := Nat.pow_lt_pow_right (by decide) (by omega)
              omega
            have e5 : (1 : Int) * 2 ^ (min ((i : Int) + (k : Int)).toNat IntKind.i64.bits) = (q : Int) := by
              rw [show ((i : Int) + (k : Int)).toNat = i + k by omega, show min (i + k) IntKind.i64.bits = i + k from Nat.min_eq_left (by show i + k ≤ 64; omega), Int.one_mul, ← hq]
              simp
            have e6 : (((P : Int).toNat ^^^ (q : Int).toNat : Nat) : Int) = ((P ^^^ q : Nat) : Int) := by rw [Int.toNat_natCast, Int.toNat_natCast]
            have hP15 : (2 : Nat) ^ 15 = 32768 := rfl
            refine tst_in (fun h2 => ?_) (fun h2 => ?_)
            · skip
              have h2 : bit B k = 1 := by simp at h2; omega
              rw [rstep_yes h1 h2, hq] at hF
              conv => whnf
              refine ⟨by repeat' (first | omega | exact Int.natCast_nonneg _ | (simp only [i64max]; omega) | (simp only [u8max]; omega) | refine And.intro ?_ ?_), ?_⟩
              conv => whnf
              refine ⟨by repeat' (first | omega | exact Int.natCast_nonneg _ | (simp only [i64max]; omega) | (simp only [u8max]; omega) | refine And.intro ?_ ?_), ?_⟩
              conv => whnf
              rw [e5]
              refine ⟨by repeat' (first | omega | exact Int.natCast_nonneg _ | (simp only [i64max]; omega) | (simp only [u8max]; omega) | refine And.intro ?_ ?_), ?_⟩
              conv => whnf
              refine ⟨by repeat' (first | omega | exact Int.natCast_nonneg _ | (simp only [i64max]; omega) | (simp only [u8max]; omega) | refine And.intro ?_ ?_), ?_⟩
              conv => whnf
              rw [e6]
              conv => whnf
              refine ⟨by repeat' (first | omega | exact Int.natCast_nonneg _ | (simp only [i64max]; omega) | (simp only [u8max]; omega) | refine And.intro ?_ ?_), ?_⟩
              conv => whnf
              refine ⟨[], k + 1, ?_, ?_, ?_⟩
              · conv => whnf
                repeat' (first | exact True.intro | rfl | refine And.intro ?_ ?_)
                all_goals (conv => whnf)
                all_goals (show ((rfold A B (8 * i + (k + 1)) : Nat) : Int) = ((P ^^^ q : Nat) : Int); rw [← hF]; rfl)
              · show k + 1 ≤ 8
                omega
              · show 8 - (k + 1) < 8 - k
                omega
            · skip
              have h2 : bit B k ≠ 1 := by simp at h2; omega
              rw [rstep_no (.inr h2)] at hF
              conv => whnf
              refine ⟨by repeat' (first | omega | exact Int.natCast_nonneg _ | (simp only [i64max]; omega) | (simp only [u8max]; omega) | refine And.intro ?_ ?_), ?_⟩
              conv => whnf
              refine ⟨[], k + 1, ?_, ?_, ?_⟩
              · conv => whnf
                repeat' (first | exact True.intro | rfl | refine And.intro ?_ ?_)
                all_goals (conv => whnf)
                all_goals (show ((rfold A B (8 * i + (k + 1)) : Nat) : Int) = (P : Int); rw [← hF]; rfl)
              · show k + 1 ≤ 8
                omega
              · show 8 - (k + 1) < 8 - k
                omega
          · skip
            have h1 : bit A i ≠ 1 := by simp at h1; omega
            rw [rstep_no (.inl h1)] at hF
            conv => whnf
            refine ⟨by repeat' (first | omega | exact Int.natCast_nonneg _ | (simp only [i64max]; omega) | (simp only [u8max]; omega) | refine And.intro ?_ ?_), ?_⟩
            conv => whnf
            refine ⟨[], k + 1, ?_, ?_, ?_⟩
            · conv => whnf
              repeat' (first | exact True.intro | rfl | refine And.intro ?_ ?_)
              all_goals (conv => whnf)
              all_goals (show ((rfold A B (8 * i + (k + 1)) : Nat) : Int) = (P : Int); rw [← hF]; rfl)
            · show k + 1 ≤ 8
              omega
            · show 8 - (k + 1) < 8 - k
              omega
        · skip
          have hge : k = 8 := by simp at hge; omega
          subst hge
          conv => whnf
          refine ⟨by repeat' (first | omega | exact Int.natCast_nonneg _ | (simp only [i64max]; omega) | (simp only [u8max]; omega) | refine And.intro ?_ ?_), ?_⟩
          conv => whnf
          refine ⟨[], i + 1, ?_, ?_, ?_⟩
          · conv => whnf
            repeat' (first | exact True.intro | rfl | refine And.intro ?_ ?_)
            all_goals (conv => whnf)
            all_goals (show ((rfold A B (8 * (i + 1)) : Nat) : Int) = (P : Int); rw [← hPe]; rfl)
          · show i + 1 ≤ 8
            omega
          · show 8 - (i + 1) < 8 - i
            omega
    · skip
      have hge : i = 8 := by simp at hge; omega
      subst hge
      conv => whnf
      have hP0 := rfold_lt A B 64 (by decide)
      refine ⟨⟨[], (0 : Nat), ?_, Nat.zero_le _⟩, ?_⟩
      · conv => whnf
        repeat' (first | exact True.intro | rfl | refine And.intro ?_ ?_)
      · intro (n : Nat) (hn : n ≤ 7)
        have hP := red_lt hP0 n
        show forceSt ⟨anyTo 51 [.any, .any, .any, .any, .any, .int .i64 (red (rfold A B 64) n : Nat), .any, .any, .int .i64 (14 - (n : Int))], []⟩ _
        have hF : red (rfold A B 64) (n + 1) = dstep (14 - n) (red (rfold A B 64) n) := rfl
        have hfin : n = 7 → refT A B = red (rfold A B 64) n % 256 := fun h => by rw [h]; rfl
        generalize red (rfold A B 64) n = P at hP hF hfin
        have hP15 : (2 : Nat) ^ 15 = 32768 := rfl
        conv => whnf
        refine tst_in (fun hlt => ?_) (fun hge => ?_)
        · skip
          have hlt : n < 7 := by simp at hlt; omega
          have e1 : (P : Int) / 2 ^ (min (14 - (n : Int)).toNat IntKind.i64.bits) = ((P / 2 ^ (14 - n) : Nat) : Int) := by
            rw [show (14 - (n : Int)).toNat = 14 - n by omega, show min (14 - n) IntKind.i64.bits = 14 - n from Nat.min_eq_left (by show 14 - n ≤ 64; omega)]
            simp
          have l1 : P / 2 ^ (14 - n) ≤ P := Nat.div_le_self _ _
          have e3 : ((((P / 2 ^ (14 - n) : Nat) : Int).toNat &&& (1 : Int).toNat : Nat) : Int) = ((bit P (14 - n) : Nat) : Int) := by
            rw [Int.toNat_natCast, show (1 : Int).toNat = 1 from rfl, Nat.and_one_is_mod]; rfl
          conv => whnf
          refine ⟨by repeat' (first | omega | exact Int.natCast_nonneg _ | (simp only [i64max]; omega) | (simp only [u8max]; omega) | refine And.intro ?_ ?_), ?_⟩
          conv => whnf
          rw [e1]
          generalize hg : P / 2 ^ (14 - n) = g at l1 e3
          refine ⟨by repeat' (first | omega | exact Int.natCast_nonneg _ | (simp only [i64max]; omega) | (simp only [u8max]; omega) | refine And.intro ?_ ?_), ?_⟩
          conv => whnf
          rw [e3]
          conv => whnf
          refine tst_in (fun h1 => ?_) (fun h1 => ?_)
          · skip
            have h1 : bit P (14 - n) = 1 := by simp at h1; omega
            rw [dstep_yes h1] at hF
            obtain ⟨q, hq⟩ : ∃ q, 285 * 2 ^ (14 - n - 8) = q := ⟨_, rfl⟩
            have lq : q < 32768 := by
              have : 2 ^ (14 - n - 8) ≤ 2 ^ 6 := Nat.pow_le_pow_right (by decide) (by omega)
              have h64 : (2 : Nat) ^ 6 = 64 := rfl
              omega
            have e5 : (285 : Int) * 2 ^ (min (14 - (n : Int) - 8).toNat IntKind.i64.bits) = (q : Int) := by
              rw [show (14 - (n : Int) - 8).toNat = 14 - n - 8 by omega, show min (14 - n - 8) IntKind.i64.bits = 14 - n - 8 from Nat.min_eq_left (by show 14 - n - 8 ≤ 64; omega), ← hq]
              simp
            have e6 : (((P : Int).toNat ^^^ (q : Int).toNat : Nat) : Int) = ((P ^^^ q : Nat) : Int) := by rw [Int.toNat_natCast, Int.toNat_natCast]
            rw [hq] at hF
            conv => whnf
            refine ⟨by repeat' (first | omega | exact Int.natCast_nonneg _ | (simp only [i64max]; omega) | (simp only [u8max]; omega) | refine And.intro ?_ ?_), ?_⟩
            conv => whnf
            refine ⟨by repeat' (first | omega | exact Int.natCast_nonneg _ | (simp only [i64max]; omega) | (simp only [u8max]; omega) | refine And.intro ?_ ?_), ?_⟩
            conv => whnf
            rw [e5]
            refine ⟨by repeat' (first | omega | exact Int.natCast_nonneg _ | (simp only [i64max]; omega) | (simp only [u8max]; omega) | refine And.intro ?_ ?_), ?_⟩
            conv => whnf
            refine ⟨by repeat' (first | omega | exact Int.natCast_nonneg _ | (simp only [i64max]; omega) | (simp only [u8max]; omega) | refine And.intro ?_ ?_), ?_⟩
            conv => whnf
            rw [e6]
            conv => whnf
            refine ⟨by repeat' (first | omega | exact Int.natCast_nonneg _ | (simp only [i64max]; omega) | (simp only [u8max]; omega) | refine And.intro ?_ ?_), ?_⟩
            conv => whnf
            refine ⟨[], n + 1, ?_, ?_, ?_⟩
            · conv => whnf
              repeat' (first | exact True.intro | rfl | refine And.intro ?_ ?_)
              · show ((red (rfold A B 64) (n + 1) : Nat) : Int) = ((P ^^^ q : Nat) : Int)
                rw [hF]
              · show 14 - ((n + 1 : Nat) : Int) = 14 - (n : Int) - 1
                omega
            · show n + 1 ≤ 7
              omega
            · show 7 - (n + 1) < 7 - n
              omega
          · skip
            have h1 : bit P (14 - n) ≠ 1 := by simp at h1; omega
            rw [dstep_no h1] at hF
            conv => whnf
            refine ⟨by repeat' (first | omega | exact Int.natCast_nonneg _ | (simp only [i64max]; omega) | (simp only [u8max]; omega) | refine And.intro ?_ ?_), ?_⟩
            conv => whnf
            refine ⟨[], n + 1, ?_, ?_, ?_⟩
            · conv => whnf
              repeat' (first | exact True.intro | rfl | refine And.intro ?_ ?_)
              · show ((red (rfold A B 64) (n + 1) : Nat) : Int) = (P : Int)
                rw [hF]
              · show 14 - ((n + 1 : Nat) : Int) = 14 - (n : Int) - 1
                omega
            · show n + 1 ≤ 7
              omega
            · show 7 - (n + 1) < 7 - n
              omega
        · skip
          have hge : n = 7 := by simp at hge; omega
          conv => whnf
          repeat' (first | exact True.intro | rfl | refine And.intro ?_ ?_)
          all_goals (show ((refT A B : Nat) : Int) = IntKind.u8.wrap (P : Int); rw [u8wrap, hfin hge]; omega)


set_option maxHeartbeats 0 in
set_option maxRecDepth 1000000 in
theorem kT0 : allN (fun a => allN (fun b => Nat.beq (refT (Nat.add 0 a) b) (T (Nat.add 0 a) b)) 256) 32 = true := by kernel_rfl
set_option maxHeartbeats 0 in
set_option maxRecDepth 1000000 in
theorem kT1 : allN (fun a => allN (fun b => Nat.beq (refT (Nat.add 32 a) b) (T (Nat.add 32 a) b)) 256) 32 = true := by kernel_rfl
set_option maxHeartbeats 0 in
set_option maxRecDepth 1000000 in
theorem kT2 : allN (fun a => allN (fun b => Nat.beq (refT (Nat.add 64 a) b) (T (Nat.add 64 a) b)) 256) 32 = true := by kernel_rfl
set_option maxHeartbeats 0 in
set_option maxRecDepth 1000000 in
theorem kT3 : allN (fun a => allN (fun b => Nat.beq (refT (Nat.add 96 a) b) (T (Nat.add 96 a) b)) 256) 32 = true := by kernel_rfl
set_option maxHeartbeats 0 in
set_option maxRecDepth 1000000 in
theorem kT4 : allN (fun a => allN (fun b => Nat.beq (refT (Nat.add 128 a) b) (T (Nat.add 128 a) b)) 256) 32 = true := by kernel_rfl
set_option maxHeartbeats 0 in
set_option maxRecDepth 1000000 in
theorem kT5 : allN (fun a => allN (fun b => Nat.beq (refT (Nat.add 160 a) b) (T (Nat.add 160 a) b)) 256) 32 = true := by kernel_rfl
set_option maxHeartbeats 0 in
set_option maxRecDepth 1000000 in
theorem kT6 : allN (fun a => allN (fun b => Nat.beq (refT (Nat.add 192 a) b) (T (Nat.add 192 a) b)) 256) 32 = true := by kernel_rfl
set_option maxHeartbeats 0 in
set_option maxRecDepth 1000000 in
theorem kT7 : allN (fun a => allN (fun b => Nat.beq (refT (Nat.add 224 a) b) (T (Nat.add 224 a) b)) 256) 32 = true := by kernel_rfl
theorem kT {a b : Nat} (ha : a < 256) (hb : b < 256) : Nat.beq (refT a b) (T a b) = true := by
  have go : ∀ k c, allN (fun a => allN (fun b => Nat.beq (refT (Nat.add k a) b) (T (Nat.add k a) b)) 256) 32 = true → a = k + c → c < 32 → Nat.beq (refT a b) (T a b) = true := fun k c h e hc => by
    subst e; exact allN_out (allN_out h c hc) b hb
  rcases (by omega : a < 32 ∨ (32 ≤ a ∧ a < 64) ∨ (64 ≤ a ∧ a < 96) ∨ (96 ≤ a ∧ a < 128) ∨ (128 ≤ a ∧ a < 160) ∨ (160 ≤ a ∧ a < 192) ∨ (192 ≤ a ∧ a < 224) ∨ (224 ≤ a ∧ a < 256)) with h | h | h | h | h | h | h | h
  · exact go 0 (a - 0) kT0 (by omega) (by omega)
  · exact go 32 (a - 32) kT1 (by omega) (by omega)
  · exact go 64 (a - 64) kT2 (by omega) (by omega)
  · exact go 96 (a - 96) kT3 (by omega) (by omega)
  · exact go 128 (a - 128) kT4 (by omega) (by omega)
  · exact go 160 (a - 160) kT5 (by omega) (by omega)
  · exact go 192 (a - 192) kT6 (by omega) (by omega)
  · exact go 224 (a - 224) kT7 (by omega) (by omega)


noncomputable def chkI (b : Nat) : Bool := fN (pw b 254) fun i => allN (fun a => ifB (Nat.beq (T (T a i) b) a) (Nat.beq (T (T a b) i) a)) 256

set_option maxHeartbeats 0 in
set_option maxRecDepth 1000000 in
theorem kI2 : allN (fun b => chkI (Nat.succ b)) 255 = true := by kernel_rfl

theorem refT_T {a b : Nat} (ha : a < 256) (hb : b < 256) : refT a b = T a b := Nat.eq_of_beq_eq_true (kT ha hb)
theorem inv_ok {a b : Nat} (ha : a < 256) (hb : b < 256) (h0 : b ≠ 0) : T (T a (pw b 254)) b = a ∧ T (T a b) (pw b 254) = a := by
  obtain ⟨c, rfl⟩ : ∃ c, b = c + 1 := ⟨b - 1, by omega⟩
  have h := allN_out kI2 c (by omega)
  unfold chkI at h
  rw [fN_eq] at h
  obtain ⟨h1, h2⟩ := ifB_out (allN_out h a ha)
  exact ⟨Nat.eq_of_beq_eq_true h1, Nat.eq_of_beq_eq_true h2⟩
noncomputable def ovV (A B : Nat) : Int := if B = 0 then 0 else (T A (pw B 254) : Nat)
def ovE (B : Nat) : Int := if B = 0 then 6 else 0

noncomputable def c6 : Code := (Try.f10.body).getD .skip
noncomputable def inv6 (A B : Nat) : LInv := ⟨Nat, fun k => ⟨anyTo 21 [.int .u8 A, .int .u8 B, .any, .any, .any, .any, .int .i64 k], []⟩, fun k => k ≤ 256 ∧ ∀ j, j < k → T j B ≠ A, fun k => 256 - k⟩
set_option maxRecDepth 100000 in
theorem refOver_q (A B : Nat) (hA : A < 256) (hB : B < 256) : QFits Try.prog 10 ⟨[.int .u8 A, .int .u8 B], [], .tup [.int .u8 (ovV A B), .int .i64 (ovE B)]⟩ := by
  refine qfits_of_body (C := cfg) (c := c6) (ts := [4, 5]) wtok wmixed (fun | 4 => some (inv6 A B) | _ => none) (fun _ => none)
    Try.func10 (by kernel_rfl) (by kernel_rfl) (by kernel_rfl) (by kernel_rfl) (by kernel_rfl) rfl rfl ?_
  conv => whnf
  refine tst_in (fun h => ?_) (fun h => ?_)
  · skip
    have h : B = 0 := by simp at h; omega
    conv => whnf
    repeat' (first | exact True.intro | rfl | refine And.intro ?_ ?_)
    · show ovV A B = 0
      unfold ovV; rw [if_pos h]
    · show ovE B = 6
      unfold ovE; rw [if_pos h]
  · skip
    have h : ¬ B = 0 := by simp at h; omega
    conv => whnf
    refine ⟨⟨[], (0 : Nat), ?_, Nat.zero_le _, fun j hj => absurd hj (by omega)⟩, ?_⟩
    · conv => whnf
      repeat' (first | exact True.intro | rfl | refine And.intro ?_ ?_)
    · rintro (k : Nat) ⟨hk, hj⟩
      have hk : k ≤ 256 := hk
      have hj : ∀ j, j < k → T j B ≠ A := hj
      conv => whnf
      refine tst_in (fun hlt => ?_) (fun hge => ?_)
      · skip
        have hlt : k < 256 := by simp at hlt; omega
        have e1 : IntKind.u8.wrap (k : Int) = (k : Int) := by rw [u8wrap]; omega
        have fT := refTimes_q k B hlt hB
        rw [refT_T hlt hB] at fT
        conv => whnf
        rw [e1]
        conv => whnf
        refine ⟨_, [], fT, ?_⟩
        conv => whnf
        iterate 2
         refine And.intro ?_ ?_
         focus
          conv => whnf
          repeat' (first | exact True.intro | rfl | refine And.intro ?_ ?_ | omega)
          all_goals (conv => whnf)
          all_goals (try (first | rfl | omega | (simp; done)))
        conv => whnf
        refine tst_in (fun he => ?_) (fun hne => ?_)
        · skip
          have he : T k B = A := by simp at he; omega
          have hi := (inv_ok hlt hB h).2
          rw [he] at hi
          conv => whnf
          repeat' (first | exact True.intro | rfl | refine And.intro ?_ ?_)
          · show ovV A B = IntKind.u8.wrap (k : Int)
            unfold ovV; rw [if_neg h, e1, hi]
          · show ovE B = 0
            unfold ovE; rw [if_neg h]
        · skip
          have hne : T k B ≠ A := by simp at hne; omega
          conv => whnf
          refine ⟨by repeat' (first | omega | exact Int.natCast_nonneg _ | (simp only [i64max]; omega) | (simp only [u8max]; omega) | refine And.intro ?_ ?_), ?_⟩
          conv => whnf
          refine ⟨[], k + 1, ?_, ⟨?_, ?_⟩, ?_⟩
          · conv => whnf
            repeat' (first | exact True.intro | rfl | refine And.intro ?_ ?_)
          · show k + 1 ≤ 256
            omega
          · intro j hj2
            have hj2 : j < k + 1 := hj2
            rcases Nat.lt_or_ge j k with h3 | h3
            · exact hj j h3
            · have : j = k := by omega
              subst this; exact hne
          · show 256 - (k + 1) < 256 - k
            omega
      · skip
        have hge : k = 256 := by simp at hge; omega
        subst hge
        exact absurd (inv_ok hA hB h).1 (hj _ (T_lt _ _))

theorem refTimes_g (a b : G) : QFits Try.prog 18 ⟨[.int .u8 (a.v : Nat), .int .u8 (b.v : Nat)], [], .int .u8 ((a * b).v : Nat)⟩ := by
  have h := refTimes_q a.v b.v a.lt b.lt
  rw [refT_T a.lt b.lt] at h; exact h
noncomputable def ovG (a b : G) : G := if b.v = 0 then g0 else a * iv b
theorem refOver_g (a b : G) : QFits Try.prog 10 ⟨[.int .u8 (a.v : Nat), .int .u8 (b.v : Nat)], [], .tup [.int .u8 ((ovG a b).v : Nat), .int .i64 (ovE b.v)]⟩ := by
  have h := refOver_q a.v b.v a.lt b.lt
  have e : ovV a.v b.v = ((ovG a b).v : Nat) := by
    unfold ovV ovG
    by_cases h0 : b.v = 0
    · rw [if_pos h0, if_pos h0]; rfl
    · rw [if_neg h0, if_neg h0]; rfl
  rw [e] at h; exact h
end Go.Proofs.Yteiblfkegnppeaa

set_option linter.unusedVariables false
set_option linter.unusedSimpArgs false
namespace Go.Proofs.Yteiblfkegnppeaa
open Go Go.Fw
theorem sumS_succ (F H : Nat → G) (n i k : Nat) : sumS F H n (i + 1) k = if k = i then sumS F H n i i + H i else sumS F H n i k := by
  unfold sumS pa
  rw [ct_succ]
  by_cases h : k = i
  · subst h; rw [if_pos rfl]; show ct F n k + (ct H k k + H k * sh k (fun i => if i = 0 then g1 else g0) k) = _
    rw [sh_in _ (Nat.le_refl _), if_pos (by omega), m_one, a_assoc]
  · rw [if_neg h]; show ct F n k + (ct H i k + H i * sh i (fun i => if i = 0 then g1 else g0) k) = _
    rw [show sh i (fun i => if i = 0 then g1 else g0) k = g0 by (unfold sh; split; exact if_neg (by omega); rfl), m_zero, a_zero]
noncomputable def k59 : Code := (Try.f59.body).getD .skip
noncomputable def st59 (A : List Int) (n c j : Nat) : St := ⟨slotsAt 23 [(0, .slice 0 0 n c), (3, .int .i64 j)], [.seg false (.ints .u8 A)]⟩
noncomputable def trOut (P : Nat → G) (t : Nat) : FOut := ⟨List Int, fun _ => True, fun tl => .slice 1 0 t (t + tl.length), fun tl => [.dead, .seg true (.ints .u8 (tb (gi P) t ++ tl))]⟩
set_option maxHeartbeats 0 in
set_option maxRecDepth 100000 in
theorem Trim_f (F : Nat → G) (A : List Int) (n c : Nat) (hA : Rd A F n) (hc : n ≤ c) (hn : n ≤ 140737488355328) : Fits Try.prog 59 ⟨[.slice 0 0 n c], [.seg false (.ints .u8 A)], [trOut F (dg F n)]⟩ := by
  unfold trOut
  refine fits_of_body (C := cfgk 1) (c := k59) (ts := [2]) tokL mixedL (fun | 2 => some ⟨Nat, fun j => st59 A n c j, fun j => j ≤ n ∧ dg F j = dg F n, fun j => j⟩ | _ => none) (fun _ => none)
    Try.func59 (by kernel_rfl) (by kernel_rfl) (by kernel_rfl) (by kernel_rfl) rfl ?_
  obtain ⟨hl, hg⟩ := hA
  have done : ∀ t : Nat, t ≤ n → List.take t A = tb (gi F) t := fun t ht => tab_ext 0 (by rw [List.length_take]; omega) fun i hi => by rw [g_take, if_pos hi]; exact hg i (by omega)
  have hdle := dg_le F n
  conv => whnf
  repeat (first
    | (refine And.intro ?_ ?_; (focus (first | omega | decide | exact EqOk.mk (by kernel_rfl) (by kernel_rfl) (by kernel_rfl) | exact Int.natCast_nonneg _ | ((repeat' refine And.intro ?_ ?_) <;> first | omega | exact Int.natCast_nonneg _ | (simp only [i64max, u8max, u16max, u32max, u64max]; omega) | (simp only [mulSz_eq, Cont.len, colsLen, Col.len, List.length_cons, List.length_nil, List.length_replicate, List.length_append]; first | done | omega) | (simp [mulSz, Cont.len, bne]; first | done | omega)))); conv => whnf)
    | (refine tst_in ?_ ?_; (focus (intro h_; exfalso; first | omega | ((try simp only [decide_eq_true_eq, decide_eq_false_iff_not] at h_); omega) | (simp [mulSz, Cont.len, bne] at h_; first | done | omega))); intro _; conv => whnf)
    | (refine tst_in ?_ ?_; rotate_left; (focus (intro h_; exfalso; first | omega | ((try simp only [decide_eq_true_eq, decide_eq_false_iff_not] at h_); omega) | (simp [mulSz, Cont.len, bne] at h_; first | done | omega))); intro _; conv => whnf)
    | (refine ⟨0, (show _ = _ by omega), ?_⟩; conv => whnf))
  refine ⟨⟨[0], (n : Nat), ?_, Nat.le_refl _, rfl⟩, ?_⟩
  · show stLe _ _ (st59 A n c n) _
    conv => whnf
    repeat' (first | exact True.intro | rfl | refine And.intro ?_ ?_)
    all_goals (conv => whnf)
    repeat' (first | exact True.intro | rfl | refine And.intro ?_ ?_)
    all_goals (try omega)
  · intro (j : Nat) hj
    obtain ⟨hj, e⟩ := hj
    show forceSt (st59 A n c j) _
    conv => whnf
    repeat (first
      | (refine And.intro ?_ ?_; (focus (first | omega | decide | exact EqOk.mk (by kernel_rfl) (by kernel_rfl) (by kernel_rfl) | exact Int.natCast_nonneg _ | ((repeat' refine And.intro ?_ ?_) <;> first | omega | exact Int.natCast_nonneg _ | (simp only [i64max, u8max, u16max, u32max, u64max]; omega) | (simp only [mulSz_eq, Cont.len, colsLen, Col.len, List.length_cons, List.length_nil, List.length_replicate, List.length_append]; first | done | omega) | (simp [mulSz, Cont.len, bne]; first | done | omega)))); conv => whnf)
      | (refine tst_in ?_ ?_; (focus (intro h_; exfalso; first | omega | ((try simp only [decide_eq_true_eq, decide_eq_false_iff_not] at h_); omega) | (simp [mulSz, Cont.len, bne] at h_; first | done | omega))); intro _; conv => whnf)
      | (refine tst_in ?_ ?_; rotate_left; (focus (intro h_; exfalso; first | omega | ((try simp only [decide_eq_true_eq, decide_eq_false_iff_not] at h_); omega) | (simp [mulSz, Cont.len, bne] at h_; first | done | omega))); intro _; conv => whnf)
      | (refine ⟨0, (show _ = _ by omega), ?_⟩; conv => whnf))
    refine tst_in (fun h => ?_) (fun h' => ?_)
    · have h : 0 < j := by have := dlt_t h; omega
      obtain ⟨i, rfl⟩ : ∃ i, j = i + 1 := ⟨j - 1, by omega⟩
      have hi := gi_in F i
      have h0 := gi_zero F i
      have hgi := hg i (by omega)
      conv => whnf
      repeat (first
        | (refine And.intro ?_ ?_; (focus (first | omega | decide | exact EqOk.mk (by kernel_rfl) (by kernel_rfl) (by kernel_rfl) | exact Int.natCast_nonneg _ | ((repeat' refine And.intro ?_ ?_) <;> first | omega | exact Int.natCast_nonneg _ | (simp only [i64max, u8max, u16max, u32max, u64max]; omega) | (simp only [mulSz_eq, Cont.len, colsLen, Col.len, List.length_cons, List.length_nil, List.length_replicate, List.length_append]; first | done | omega) | (simp [mulSz, Cont.len, bne]; first | done | omega)))); conv => whnf)
        | (refine tst_in ?_ ?_; (focus (intro h_; exfalso; first | omega | ((try simp only [decide_eq_true_eq, decide_eq_false_iff_not] at h_); omega) | (simp [mulSz, Cont.len, bne] at h_; first | done | omega))); intro _; conv => whnf)
        | (refine tst_in ?_ ?_; rotate_left; (focus (intro h_; exfalso; first | omega | ((try simp only [decide_eq_true_eq, decide_eq_false_iff_not] at h_); omega) | (simp [mulSz, Cont.len, bne] at h_; first | done | omega))); intro _; conv => whnf)
        | (refine ⟨0, (show _ = _ by omega), ?_⟩; conv => whnf))
      refine tst_in (fun q => ?_) (fun q' => ?_)
      · have q : gi F i = 0 := by rw [← hgi]; simpa using q
        conv => whnf
        repeat (first
          | (refine And.intro ?_ ?_; (focus (first | omega | decide | exact EqOk.mk (by kernel_rfl) (by kernel_rfl) (by kernel_rfl) | exact Int.natCast_nonneg _ | ((repeat' refine And.intro ?_ ?_) <;> first | omega | exact Int.natCast_nonneg _ | (simp only [i64max, u8max, u16max, u32max, u64max]; omega) | (simp only [mulSz_eq, Cont.len, colsLen, Col.len, List.length_cons, List.length_nil, List.length_replicate, List.length_append]; first | done | omega) | (simp [mulSz, Cont.len, bne]; first | done | omega)))); conv => whnf)
          | (refine tst_in ?_ ?_; (focus (intro h_; exfalso; first | omega | ((try simp only [decide_eq_true_eq, decide_eq_false_iff_not] at h_); omega) | (simp [mulSz, Cont.len, bne] at h_; first | done | omega))); intro _; conv => whnf)
          | (refine tst_in ?_ ?_; rotate_left; (focus (intro h_; exfalso; first | omega | ((try simp only [decide_eq_true_eq, decide_eq_false_iff_not] at h_); omega) | (simp [mulSz, Cont.len, bne] at h_; first | done | omega))); intro _; conv => whnf)
          | (refine ⟨0, (show _ = _ by omega), ?_⟩; conv => whnf))
        refine ⟨[0], (i : Nat), ?_, ⟨by omega, ?_⟩, Nat.lt_succ_self i⟩
        · show stLe _ _ (st59 A n c i) _
          conv => whnf
          repeat' (first | exact True.intro | rfl | refine And.intro ?_ ?_)
          all_goals (conv => whnf)
          repeat' (first | exact True.intro | rfl | refine And.intro ?_ ?_)
          all_goals (try omega)
        · rw [← e]
          show dg F i = if (F i).v = 0 then dg F i else i + 1
          rw [if_pos (by rw [h0.1 q]; rfl)]
      · have q : gi F i ≠ 0 := by rw [← hgi]; simpa using q'
        have e2 : dg F n = i + 1 := by
          rw [← e]
          show (if (F i).v = 0 then dg F i else i + 1) = i + 1
          rw [if_neg (fun z : (F i).v = 0 => q (h0.2 (G.ext z)))]
        rw [e2]
        have d1 := done (i + 1) (by omega)
        conv => whnf
        repeat (first
          | (refine And.intro ?_ ?_; (focus (first | omega | decide | exact EqOk.mk (by kernel_rfl) (by kernel_rfl) (by kernel_rfl) | exact Int.natCast_nonneg _ | ((repeat' refine And.intro ?_ ?_) <;> first | omega | exact Int.natCast_nonneg _ | (simp only [i64max, u8max, u16max, u32max, u64max]; omega) | (simp only [mulSz_eq, Cont.len, colsLen, Col.len, List.length_cons, List.length_nil, List.length_replicate, List.length_append]; first | done | omega) | (simp [mulSz, Cont.len, bne]; first | done | omega)))); conv => whnf)
          | (refine tst_in ?_ ?_; (focus (intro h_; exfalso; first | omega | ((try simp only [decide_eq_true_eq, decide_eq_false_iff_not] at h_); omega) | (simp [mulSz, Cont.len, bne] at h_; first | done | omega))); intro _; conv => whnf)
          | (refine tst_in ?_ ?_; rotate_left; (focus (intro h_; exfalso; first | omega | ((try simp only [decide_eq_true_eq, decide_eq_false_iff_not] at h_); omega) | (simp [mulSz, Cont.len, bne] at h_; first | done | omega))); intro _; conv => whnf)
          | (refine ⟨0, (show _ = _ by omega), ?_⟩; conv => whnf))
        intro tl
        change List Int at tl
        rw [show (((i + 1 : Nat) : Int)).toNat = i + 1 by omega]
        conv => whnf
        repeat (first
          | (refine And.intro ?_ ?_; (focus (first | omega | decide | exact EqOk.mk (by kernel_rfl) (by kernel_rfl) (by kernel_rfl) | exact Int.natCast_nonneg _ | ((repeat' refine And.intro ?_ ?_) <;> first | omega | exact Int.natCast_nonneg _ | (simp only [i64max, u8max, u16max, u32max, u64max]; omega) | (simp only [mulSz_eq, Cont.len, colsLen, Col.len, List.length_cons, List.length_nil, List.length_replicate, List.length_append]; first | done | omega) | (simp [mulSz, Cont.len, bne]; first | done | omega)))); conv => whnf)
          | (refine tst_in ?_ ?_; (focus (intro h_; exfalso; first | omega | ((try simp only [decide_eq_true_eq, decide_eq_false_iff_not] at h_); omega) | (simp [mulSz, Cont.len, bne] at h_; first | done | omega))); intro _; conv => whnf)
          | (refine tst_in ?_ ?_; rotate_left; (focus (intro h_; exfalso; first | omega | ((try simp only [decide_eq_true_eq, decide_eq_false_iff_not] at h_); omega) | (simp [mulSz, Cont.len, bne] at h_; first | done | omega))); intro _; conv => whnf)
          | (refine ⟨0, (show _ = _ by omega), ?_⟩; conv => whnf))
        refine .inl ⟨tl, [0, 2], ?_⟩
        conv => whnf
        repeat' (first | exact True.intro | rfl | refine And.intro ?_ ?_)
        all_goals (conv => whnf)
        repeat' (first | exact True.intro | rfl | refine And.intro ?_ ?_)
        all_goals (try omega)
        show tb (gi F) (i + 1) ++ tl = [] ++ List.take (i + 1) (List.drop 0 A) ++ tl
        rw [List.nil_append, List.drop_zero, d1]
    · have h : j = 0 := by have := dlt_f h'; omega
      subst h
      rw [← e, show dg F 0 = 0 from rfl]
      conv => whnf
      repeat (first
        | (refine And.intro ?_ ?_; (focus (first | omega | decide | exact EqOk.mk (by kernel_rfl) (by kernel_rfl) (by kernel_rfl) | exact Int.natCast_nonneg _ | ((repeat' refine And.intro ?_ ?_) <;> first | omega | exact Int.natCast_nonneg _ | (simp only [i64max, u8max, u16max, u32max, u64max]; omega) | (simp only [mulSz_eq, Cont.len, colsLen, Col.len, List.length_cons, List.length_nil, List.length_replicate, List.length_append]; first | done | omega) | (simp [mulSz, Cont.len, bne]; first | done | omega)))); conv => whnf)
        | (refine tst_in ?_ ?_; (focus (intro h_; exfalso; first | omega | ((try simp only [decide_eq_true_eq, decide_eq_false_iff_not] at h_); omega) | (simp [mulSz, Cont.len, bne] at h_; first | done | omega))); intro _; conv => whnf)
        | (refine tst_in ?_ ?_; rotate_left; (focus (intro h_; exfalso; first | omega | ((try simp only [decide_eq_true_eq, decide_eq_false_iff_not] at h_); omega) | (simp [mulSz, Cont.len, bne] at h_; first | done | omega))); intro _; conv => whnf)
        | (refine ⟨0, (show _ = _ by omega), ?_⟩; conv => whnf))
      intro tl
      change List Int at tl
      conv => whnf
      repeat (first
        | (refine And.intro ?_ ?_; (focus (first | omega | decide | exact EqOk.mk (by kernel_rfl) (by kernel_rfl) (by kernel_rfl) | exact Int.natCast_nonneg _ | ((repeat' refine And.intro ?_ ?_) <;> first | omega | exact Int.natCast_nonneg _ | (simp only [i64max, u8max, u16max, u32max, u64max]; omega) | (simp only [mulSz_eq, Cont.len, colsLen, Col.len, List.length_cons, List.length_nil, List.length_replicate, List.length_append]; first | done | omega) | (simp [mulSz, Cont.len, bne]; first | done | omega)))); conv => whnf)
        | (refine tst_in ?_ ?_; (focus (intro h_; exfalso; first | omega | ((try simp only [decide_eq_true_eq, decide_eq_false_iff_not] at h_); omega) | (simp [mulSz, Cont.len, bne] at h_; first | done | omega))); intro _; conv => whnf)
        | (refine tst_in ?_ ?_; rotate_left; (focus (intro h_; exfalso; first | omega | ((try simp only [decide_eq_true_eq, decide_eq_false_iff_not] at h_); omega) | (simp [mulSz, Cont.len, bne] at h_; first | done | omega))); intro _; conv => whnf)
        | (refine ⟨0, (show _ = _ by omega), ?_⟩; conv => whnf))
      refine .inl ⟨tl, [0, 2], ?_⟩
      conv => whnf
      repeat' (first | exact True.intro | rfl | refine And.intro ?_ ?_)
      all_goals (conv => whnf)
      repeat' (first | exact True.intro | rfl | refine And.intro ?_ ?_)
      all_goals (try omega)
noncomputable def k62 : Code := (Try.f62.body).getD .skip
set_option maxHeartbeats 0 in
set_option maxRecDepth 100000 in
theorem may_q (n c m d : Nat) (hn : n ≤ 9223372036854775807) (hm : m ≤ 9223372036854775807) : QFits Try.prog 62 ⟨[.slice 0 0 n c, .slice 1 0 m d], [.dead, .dead], .bool (decide (¬ (512 < n ∨ 512 < m)))⟩ := by
  refine qfits_of_body (C := cfgk 2) (c := k62) (ts := [4]) tokL mixedL (fun _ => none) (fun _ => none)
    Try.func62 (by kernel_rfl) (by kernel_rfl) (by kernel_rfl) (by kernel_rfl) (by kernel_rfl) rfl rfl ?_
  by_cases hb : 512 < n ∨ 512 < m
  · rw [decide_eq_false (by omega : ¬ ¬ (512 < n ∨ 512 < m))]
    rcases Nat.lt_or_ge 512 n with h | h
    · conv => whnf
      repeat (first
        | (refine And.intro ?_ ?_; (focus (first | omega | decide | exact EqOk.mk (by kernel_rfl) (by kernel_rfl) (by kernel_rfl) | exact Int.natCast_nonneg _ | ((repeat' refine And.intro ?_ ?_) <;> first | omega | exact Int.natCast_nonneg _ | (simp only [i64max, u8max, u16max, u32max, u64max]; omega) | (simp only [mulSz_eq, Cont.len, colsLen, Col.len, List.length_cons, List.length_nil, List.length_replicate, List.length_append]; first | done | omega) | (simp [mulSz, Cont.len, bne]; first | done | omega)))); conv => whnf)
        | (refine tst_in ?_ ?_; (focus (intro h_; exfalso; first | omega | ((try simp only [decide_eq_true_eq, decide_eq_false_iff_not] at h_); omega) | (simp [mulSz, Cont.len, bne] at h_; first | done | omega))); intro _; conv => whnf)
        | (refine tst_in ?_ ?_; rotate_left; (focus (intro h_; exfalso; first | omega | ((try simp only [decide_eq_true_eq, decide_eq_false_iff_not] at h_); omega) | (simp [mulSz, Cont.len, bne] at h_; first | done | omega))); intro _; conv => whnf)
        | (refine ⟨0, (show _ = _ by omega), ?_⟩; conv => whnf))
    · have h2 : 512 < m := by omega
      conv => whnf
      repeat (first
        | (refine And.intro ?_ ?_; (focus (first | omega | decide | exact EqOk.mk (by kernel_rfl) (by kernel_rfl) (by kernel_rfl) | exact Int.natCast_nonneg _ | ((repeat' refine And.intro ?_ ?_) <;> first | omega | exact Int.natCast_nonneg _ | (simp only [i64max, u8max, u16max, u32max, u64max]; omega) | (simp only [mulSz_eq, Cont.len, colsLen, Col.len, List.length_cons, List.length_nil, List.length_replicate, List.length_append]; first | done | omega) | (simp [mulSz, Cont.len, bne]; first | done | omega)))); conv => whnf)
        | (refine tst_in ?_ ?_; (focus (intro h_; exfalso; first | omega | ((try simp only [decide_eq_true_eq, decide_eq_false_iff_not] at h_); omega) | (simp [mulSz, Cont.len, bne] at h_; first | done | omega))); intro _; conv => whnf)
        | (refine tst_in ?_ ?_; rotate_left; (focus (intro h_; exfalso; first | omega | ((try simp only [decide_eq_true_eq, decide_eq_false_iff_not] at h_); omega) | (simp [mulSz, Cont.len, bne] at h_; first | done | omega))); intro _; conv => whnf)
        | (refine ⟨0, (show _ = _ by omega), ?_⟩; conv => whnf))
      rw [dLe_eq]
      exact (decide_eq_false (by omega)).symm
  · rw [decide_eq_true hb]
    conv => whnf
    repeat (first
      | (refine And.intro ?_ ?_; (focus (first | omega | decide | exact EqOk.mk (by kernel_rfl) (by kernel_rfl) (by kernel_rfl) | exact Int.natCast_nonneg _ | ((repeat' refine And.intro ?_ ?_) <;> first | omega | exact Int.natCast_nonneg _ | (simp only [i64max, u8max, u16max, u32max, u64max]; omega) | (simp only [mulSz_eq, Cont.len, colsLen, Col.len, List.length_cons, List.length_nil, List.length_replicate, List.length_append]; first | done | omega) | (simp [mulSz, Cont.len, bne]; first | done | omega)))); conv => whnf)
      | (refine tst_in ?_ ?_; (focus (intro h_; exfalso; first | omega | ((try simp only [decide_eq_true_eq, decide_eq_false_iff_not] at h_); omega) | (simp [mulSz, Cont.len, bne] at h_; first | done | omega))); intro _; conv => whnf)
      | (refine tst_in ?_ ?_; rotate_left; (focus (intro h_; exfalso; first | omega | ((try simp only [decide_eq_true_eq, decide_eq_false_iff_not] at h_); omega) | (simp [mulSz, Cont.len, bne] at h_; first | done | omega))); intro _; conv => whnf)
      | (refine ⟨0, (show _ = _ by omega), ?_⟩; conv => whnf))
    rw [dLe_eq]
    exact (decide_eq_true (by omega)).symm
noncomputable def k48 : Code := (Try.f48.body).getD .skip
noncomputable def polOutT (P : Nat → G) (l : Nat) (E : Int) : FOut := ⟨List Int, fun _ => True, fun tl => .tup [.slice 2 0 l (l + tl.length), .int .i64 E], fun tl => [.dead, .dead, .seg true (.ints .u8 (tb (gi P) l ++ tl))]⟩
noncomputable def st48 (F H : Nat → G) (A B : List Int) (n c m d N i : Nat) : St := ⟨slotsAt 52 [(0, .slice 0 0 n c), (1, .slice 1 0 m d), (6, .slice 2 0 N N), (7, .int .i64 i)], [.seg false (.ints .u8 A), .seg false (.ints .u8 B), .seg true (.ints .u8 (tb (gi (ct F i)) N))]⟩
noncomputable def st48b (F H : Nat → G) (A B : List Int) (n c m d N i : Nat) : St := ⟨slotsAt 52 [(0, .slice 0 0 n c), (1, .slice 1 0 m d), (6, .slice 2 0 N N), (8, .int .i64 i)], [.seg false (.ints .u8 A), .seg false (.ints .u8 B), .seg true (.ints .u8 (tb (gi (sumS F H n i)) N))]⟩
set_option maxHeartbeats 0 in
set_option maxRecDepth 100000 in
theorem refSum_g (F H : Nat → G) (A B : List Int) (n c m d : Nat) (hA : Rd A F n) (hB : Rd B H m) (hc : n ≤ c) (hd : m ≤ d) (hn : n ≤ 9223372036854775807) (hm : m ≤ 9223372036854775807) :
    Fits Try.prog 48 ⟨[.slice 0 0 n c, .slice 1 0 m d], [.seg false (.ints .u8 A), .seg false (.ints .u8 B)],
      [polOutT (sumS F H n m) (dg (sumS F H n m) (okN n m (max n m))) (okE n m)]⟩ := by
  have TL := may_q n c m d hn hm
  unfold polOutT
  refine fits_of_body (C := cfgk 2) (c := k48) (ts := [4, 5]) tokL mixedL (fun | 5 => some ⟨Nat, fun i => st48 F H A B n c m d (max n m) i, fun i => i ≤ n, fun i => n - i⟩ | 9 => some ⟨Nat, fun i => st48b F H A B n c m d (max n m) i, fun i => i ≤ m, fun i => m - i⟩ | _ => none) (fun _ => none)
    Try.func48 (by kernel_rfl) (by kernel_rfl) (by kernel_rfl) (by kernel_rfl) rfl ?_
  conv => whnf
  repeat (first
    | (refine And.intro ?_ ?_; (focus (first | omega | decide | exact EqOk.mk (by kernel_rfl) (by kernel_rfl) (by kernel_rfl) | exact Int.natCast_nonneg _ | ((repeat' refine And.intro ?_ ?_) <;> first | omega | exact Int.natCast_nonneg _ | (simp only [i64max, u8max, u16max, u32max, u64max]; omega) | (simp only [mulSz_eq, Cont.len, colsLen, Col.len, List.length_cons, List.length_nil, List.length_replicate, List.length_append]; first | done | omega) | (simp [mulSz, Cont.len, bne]; first | done | omega)))); conv => whnf)
    | (refine tst_in ?_ ?_; (focus (intro h_; exfalso; first | omega | ((try simp only [decide_eq_true_eq, decide_eq_false_iff_not] at h_); omega) | (simp [mulSz, Cont.len, bne] at h_; first | done | omega))); intro _; conv => whnf)
    | (refine tst_in ?_ ?_; rotate_left; (focus (intro h_; exfalso; first | omega | ((try simp only [decide_eq_true_eq, decide_eq_false_iff_not] at h_); omega) | (simp [mulSz, Cont.len, bne] at h_; first | done | omega))); intro _; conv => whnf)
    | (refine ⟨0, (show _ = _ by omega), ?_⟩; conv => whnf))
  refine ⟨_, [0, 1], TL, ?_⟩
  conv => whnf
  iterate 2
   refine And.intro ?_ ?_
   focus
    conv => whnf
    repeat' (first | exact True.intro | rfl | refine And.intro ?_ ?_)
    all_goals (conv => whnf)
    repeat' (first | exact True.intro | rfl | refine And.intro ?_ ?_)
    all_goals (try (first | rfl | omega | (simp; first | done | omega)))
  conv => whnf
  by_cases hb : 512 < n ∨ 512 < m
  · rw [decide_eq_false (by omega : ¬ ¬ (512 < n ∨ 512 < m)), okN_n _ hb, okE_n hb]
    conv => whnf
    repeat (first
      | (refine And.intro ?_ ?_; (focus (first | omega | decide | exact EqOk.mk (by kernel_rfl) (by kernel_rfl) (by kernel_rfl) | exact Int.natCast_nonneg _ | ((repeat' refine And.intro ?_ ?_) <;> first | omega | exact Int.natCast_nonneg _ | (simp only [i64max, u8max, u16max, u32max, u64max]; omega) | (simp only [mulSz_eq, Cont.len, colsLen, Col.len, List.length_cons, List.length_nil, List.length_replicate, List.length_append]; first | done | omega) | (simp [mulSz, Cont.len, bne]; first | done | omega)))); conv => whnf)
      | (refine tst_in ?_ ?_; (focus (intro h_; exfalso; first | omega | ((try simp only [decide_eq_true_eq, decide_eq_false_iff_not] at h_); omega) | (simp [mulSz, Cont.len, bne] at h_; first | done | omega))); intro _; conv => whnf)
      | (refine tst_in ?_ ?_; rotate_left; (focus (intro h_; exfalso; first | omega | ((try simp only [decide_eq_true_eq, decide_eq_false_iff_not] at h_); omega) | (simp [mulSz, Cont.len, bne] at h_; first | done | omega))); intro _; conv => whnf)
      | (refine ⟨0, (show _ = _ by omega), ?_⟩; conv => whnf))
    refine .inl ⟨[], [0, 1, 9], ?_⟩
    conv => whnf
    repeat' (first | exact True.intro | rfl | refine And.intro ?_ ?_)
    all_goals (conv => whnf)
    repeat' (first | exact True.intro | rfl | refine And.intro ?_ ?_)
    all_goals (try omega)
  · rw [decide_eq_true hb, okN_y _ (by omega) (by omega), okE_y (by omega) (by omega)]
    obtain ⟨N, hN⟩ : ∃ N, N = max n m := ⟨_, rfl⟩
    have TR := Trim_f (sumS F H n m) (tb (gi (sumS F H n m)) N) N N (Rd_tb _ _) (Nat.le_refl _) (by omega)
    obtain ⟨hl, hg⟩ := hA
    obtain ⟨hl2, hg2⟩ := hB
    unfold trOut at TR
    rw [← hN]
    conv => whnf
    repeat (first
      | (refine And.intro ?_ ?_; (focus (first | omega | decide | exact EqOk.mk (by kernel_rfl) (by kernel_rfl) (by kernel_rfl) | exact Int.natCast_nonneg _ | ((repeat' refine And.intro ?_ ?_) <;> first | omega | exact Int.natCast_nonneg _ | (simp only [i64max, u8max, u16max, u32max, u64max]; omega) | (simp only [mulSz_eq, Cont.len, colsLen, Col.len, List.length_cons, List.length_nil, List.length_replicate, List.length_append]; first | done | omega) | (simp [mulSz, Cont.len, bne]; first | done | omega)))); conv => whnf)
      | (refine tst_in ?_ ?_; (focus (intro h_; exfalso; first | omega | ((try simp only [decide_eq_true_eq, decide_eq_false_iff_not] at h_); omega) | (simp [mulSz, Cont.len, bne] at h_; first | done | omega))); intro _; conv => whnf)
      | (refine tst_in ?_ ?_; rotate_left; (focus (intro h_; exfalso; first | omega | ((try simp only [decide_eq_true_eq, decide_eq_false_iff_not] at h_); omega) | (simp [mulSz, Cont.len, bne] at h_; first | done | omega))); intro _; conv => whnf)
      | (refine ⟨0, (show _ = _ by omega), ?_⟩; conv => whnf))
    rw [show (max (n : Int) (m : Int)).toNat = N by omega]
    refine ⟨⟨[0, 1, 2], (0 : Nat), ?_, Nat.zero_le _⟩, ?_⟩
    · show stLe _ _ (st48 F H A B n c m d N 0) _
      conv => whnf
      repeat' (first | exact True.intro | rfl | refine And.intro ?_ ?_)
      all_goals (conv => whnf)
      repeat' (first | exact True.intro | rfl | refine And.intro ?_ ?_)
      all_goals (try omega)
      exact (tab_ext 0 (List.length_replicate ..) fun k hk => by rw [g_rep, if_pos hk]; unfold gi; rw [show ct F 0 k = g0 from if_neg (Nat.not_lt_zero k)]; rfl).symm
    · intro (i : Nat) (hi : i ≤ n)
      show forceSt (st48 F H A B n c m d N i) _
      conv => whnf
      repeat (first
        | (refine And.intro ?_ ?_; (focus (first | omega | decide | exact EqOk.mk (by kernel_rfl) (by kernel_rfl) (by kernel_rfl) | exact Int.natCast_nonneg _ | ((repeat' refine And.intro ?_ ?_) <;> first | omega | exact Int.natCast_nonneg _ | (simp only [i64max, u8max, u16max, u32max, u64max]; omega) | (simp only [mulSz_eq, Cont.len, colsLen, Col.len, List.length_cons, List.length_nil, List.length_replicate, List.length_append]; first | done | omega) | (simp [mulSz, Cont.len, bne]; first | done | omega)))); conv => whnf)
        | (refine tst_in ?_ ?_; (focus (intro h_; exfalso; first | omega | ((try simp only [decide_eq_true_eq, decide_eq_false_iff_not] at h_); omega) | (simp [mulSz, Cont.len, bne] at h_; first | done | omega))); intro _; conv => whnf)
        | (refine tst_in ?_ ?_; rotate_left; (focus (intro h_; exfalso; first | omega | ((try simp only [decide_eq_true_eq, decide_eq_false_iff_not] at h_); omega) | (simp [mulSz, Cont.len, bne] at h_; first | done | omega))); intro _; conv => whnf)
        | (refine ⟨0, (show _ = _ by omega), ?_⟩; conv => whnf))
      refine tst_in (fun h => ?_) (fun h' => ?_)
      · have h : i < n := by have := dlt_t h; omega
        have hgi := hg i h
        conv => whnf
        repeat (first
          | (refine And.intro ?_ ?_; (focus (first | omega | decide | exact EqOk.mk (by kernel_rfl) (by kernel_rfl) (by kernel_rfl) | exact Int.natCast_nonneg _ | ((repeat' refine And.intro ?_ ?_) <;> first | omega | exact Int.natCast_nonneg _ | (simp only [i64max, u8max, u16max, u32max, u64max]; omega) | (simp only [mulSz_eq, Cont.len, colsLen, Col.len, List.length_cons, List.length_nil, List.length_replicate, List.length_append, tab_len]; first | done | omega) | (simp [mulSz, Cont.len, bne, tab_len]; first | done | omega)))); conv => whnf)
          | (refine tst_in ?_ ?_; (focus (intro h_; exfalso; first | omega | ((try simp only [decide_eq_true_eq, decide_eq_false_iff_not] at h_); omega) | (simp [mulSz, Cont.len, bne, tab_len] at h_; first | done | omega))); intro _; conv => whnf)
          | (refine tst_in ?_ ?_; rotate_left; (focus (intro h_; exfalso; first | omega | ((try simp only [decide_eq_true_eq, decide_eq_false_iff_not] at h_); omega) | (simp [mulSz, Cont.len, bne, tab_len] at h_; first | done | omega))); intro _; conv => whnf)
          | (refine ⟨0, (show _ = _ by omega), ?_⟩; conv => whnf))
        rw [show (0 + ((i : Nat) : Int).toNat) = i by omega, hgi]
        conv => whnf
        repeat (first
          | (refine And.intro ?_ ?_; (focus (first | omega | decide | exact EqOk.mk (by kernel_rfl) (by kernel_rfl) (by kernel_rfl) | exact Int.natCast_nonneg _ | ((repeat' refine And.intro ?_ ?_) <;> first | omega | exact Int.natCast_nonneg _ | (simp only [i64max, u8max, u16max, u32max, u64max]; omega) | (simp only [mulSz_eq, Cont.len, colsLen, Col.len, List.length_cons, List.length_nil, List.length_replicate, List.length_append, tab_len]; first | done | omega) | (simp [mulSz, Cont.len, bne, tab_len]; first | done | omega)))); conv => whnf)
          | (refine tst_in ?_ ?_; (focus (intro h_; exfalso; first | omega | ((try simp only [decide_eq_true_eq, decide_eq_false_iff_not] at h_); omega) | (simp [mulSz, Cont.len, bne, tab_len] at h_; first | done | omega))); intro _; conv => whnf)
          | (refine tst_in ?_ ?_; rotate_left; (focus (intro h_; exfalso; first | omega | ((try simp only [decide_eq_true_eq, decide_eq_false_iff_not] at h_); omega) | (simp [mulSz, Cont.len, bne, tab_len] at h_; first | done | omega))); intro _; conv => whnf)
          | (refine ⟨0, (show _ = _ by omega), ?_⟩; conv => whnf))
        refine ⟨[0, 1, 2], (i + 1 : Nat), ?_, h, by show n - (i + 1) < n - i; omega⟩
        show stLe _ _ (st48 F H A B n c m d N (i + 1)) _
        conv => whnf
        repeat' (first | exact True.intro | rfl | refine And.intro ?_ ?_)
        all_goals (conv => whnf)
        repeat' (first | exact True.intro | rfl | refine And.intro ?_ ?_)
        all_goals (try omega)
        show tb (gi (ct F (i + 1))) N = (tb (gi (ct F i)) N).set i (((F i).v : Nat) : Int)
        refine (tab_put _ N i _ fun k hk => ?_).symm
        unfold ct
        by_cases e : k = i
        · subst e; rw [if_pos rfl, if_pos (by omega)]
        · rw [if_neg e]
          by_cases e2 : k < i
          · rw [if_pos e2, if_pos (by omega)]
          · rw [if_neg e2, if_neg (by omega)]
      · have h : i = n := by have := dlt_f h'; omega
        subst h
        conv => whnf
        repeat (first
          | (refine And.intro ?_ ?_; (focus (first | omega | decide | exact EqOk.mk (by kernel_rfl) (by kernel_rfl) (by kernel_rfl) | exact Int.natCast_nonneg _ | ((repeat' refine And.intro ?_ ?_) <;> first | omega | exact Int.natCast_nonneg _ | (simp only [i64max, u8max, u16max, u32max, u64max]; omega) | (simp only [mulSz_eq, Cont.len, colsLen, Col.len, List.length_cons, List.length_nil, List.length_replicate, List.length_append]; first | done | omega) | (simp [mulSz, Cont.len, bne]; first | done | omega)))); conv => whnf)
          | (refine tst_in ?_ ?_; (focus (intro h_; exfalso; first | omega | ((try simp only [decide_eq_true_eq, decide_eq_false_iff_not] at h_); omega) | (simp [mulSz, Cont.len, bne] at h_; first | done | omega))); intro _; conv => whnf)
          | (refine tst_in ?_ ?_; rotate_left; (focus (intro h_; exfalso; first | omega | ((try simp only [decide_eq_true_eq, decide_eq_false_iff_not] at h_); omega) | (simp [mulSz, Cont.len, bne] at h_; first | done | omega))); intro _; conv => whnf)
          | (refine ⟨0, (show _ = _ by omega), ?_⟩; conv => whnf))
        refine ⟨⟨[0, 1, 2], (0 : Nat), ?_, Nat.zero_le _⟩, ?_⟩
        · show stLe _ _ (st48b F H A B i c m d N 0) _
          conv => whnf
          repeat' (first | exact True.intro | rfl | refine And.intro ?_ ?_)
          all_goals (conv => whnf)
          repeat' (first | exact True.intro | rfl | refine And.intro ?_ ?_)
          all_goals (try omega)
          rw [sumS_0]
        · intro (j : Nat) (hj : j ≤ m)
          show forceSt (st48b F H A B i c m d N j) _
          conv => whnf
          repeat (first
            | (refine And.intro ?_ ?_; (focus (first | omega | decide | exact EqOk.mk (by kernel_rfl) (by kernel_rfl) (by kernel_rfl) | exact Int.natCast_nonneg _ | ((repeat' refine And.intro ?_ ?_) <;> first | omega | exact Int.natCast_nonneg _ | (simp only [i64max, u8max, u16max, u32max, u64max]; omega) | (simp only [mulSz_eq, Cont.len, colsLen, Col.len, List.length_cons, List.length_nil, List.length_replicate, List.length_append]; first | done | omega) | (simp [mulSz, Cont.len, bne]; first | done | omega)))); conv => whnf)
            | (refine tst_in ?_ ?_; (focus (intro h_; exfalso; first | omega | ((try simp only [decide_eq_true_eq, decide_eq_false_iff_not] at h_); omega) | (simp [mulSz, Cont.len, bne] at h_; first | done | omega))); intro _; conv => whnf)
            | (refine tst_in ?_ ?_; rotate_left; (focus (intro h_; exfalso; first | omega | ((try simp only [decide_eq_true_eq, decide_eq_false_iff_not] at h_); omega) | (simp [mulSz, Cont.len, bne] at h_; first | done | omega))); intro _; conv => whnf)
            | (refine ⟨0, (show _ = _ by omega), ?_⟩; conv => whnf))
          refine tst_in (fun h => ?_) (fun h' => ?_)
          · have h : j < m := by have := dlt_t h; omega
            have hgi := hg2 j h
            have ho := gi_in (sumS F H i j) j
            have hh := gi_in H j
            have hto : (tb (gi (sumS F H i j)) N).getD j 0 = gi (sumS F H i j) j := tab_get _ _ (by omega)
            conv => whnf
            repeat (first
              | (refine And.intro ?_ ?_; (focus (first | omega | decide | exact EqOk.mk (by kernel_rfl) (by kernel_rfl) (by kernel_rfl) | exact Int.natCast_nonneg _ | ((repeat' refine And.intro ?_ ?_) <;> first | omega | exact Int.natCast_nonneg _ | (simp only [i64max, u8max, u16max, u32max, u64max]; omega) | (simp only [mulSz_eq, Cont.len, colsLen, Col.len, List.length_cons, List.length_nil, List.length_replicate, List.length_append, tab_len]; first | done | omega) | (simp [mulSz, Cont.len, bne, tab_len]; first | done | omega)))); conv => whnf)
              | (refine tst_in ?_ ?_; (focus (intro h_; exfalso; first | omega | ((try simp only [decide_eq_true_eq, decide_eq_false_iff_not] at h_); omega) | (simp [mulSz, Cont.len, bne, tab_len] at h_; first | done | omega))); intro _; conv => whnf)
              | (refine tst_in ?_ ?_; rotate_left; (focus (intro h_; exfalso; first | omega | ((try simp only [decide_eq_true_eq, decide_eq_false_iff_not] at h_); omega) | (simp [mulSz, Cont.len, bne, tab_len] at h_; first | done | omega))); intro _; conv => whnf)
              | (refine ⟨0, (show _ = _ by omega), ?_⟩; conv => whnf))
            rw [show (0 + ((j : Nat) : Int).toNat) = j by omega, hto, hgi]
            refine ⟨⟨ho.1, hh.1, ho.2, hh.2⟩, ?_⟩
            conv => whnf
            repeat (first
              | (refine And.intro ?_ ?_; (focus (first | omega | decide | exact EqOk.mk (by kernel_rfl) (by kernel_rfl) (by kernel_rfl) | exact Int.natCast_nonneg _ | ((repeat' refine And.intro ?_ ?_) <;> first | omega | exact Int.natCast_nonneg _ | (simp only [i64max, u8max, u16max, u32max, u64max]; omega) | (simp only [mulSz_eq, Cont.len, colsLen, Col.len, List.length_cons, List.length_nil, List.length_replicate, List.length_append, tab_len]; first | done | omega) | (simp [mulSz, Cont.len, bne, tab_len]; first | done | omega)))); conv => whnf)
              | (refine tst_in ?_ ?_; (focus (intro h_; exfalso; first | omega | ((try simp only [decide_eq_true_eq, decide_eq_false_iff_not] at h_); omega) | (simp [mulSz, Cont.len, bne, tab_len] at h_; first | done | omega))); intro _; conv => whnf)
              | (refine tst_in ?_ ?_; rotate_left; (focus (intro h_; exfalso; first | omega | ((try simp only [decide_eq_true_eq, decide_eq_false_iff_not] at h_); omega) | (simp [mulSz, Cont.len, bne, tab_len] at h_; first | done | omega))); intro _; conv => whnf)
              | (refine ⟨0, (show _ = _ by omega), ?_⟩; conv => whnf))
            refine ⟨[0, 1, 2], (j + 1 : Nat), ?_, h, by show m - (j + 1) < m - j; omega⟩
            show stLe _ _ (st48b F H A B i c m d N (j + 1)) _
            conv => whnf
            repeat' (first | exact True.intro | rfl | refine And.intro ?_ ?_)
            all_goals (conv => whnf)
            repeat' (first | exact True.intro | rfl | refine And.intro ?_ ?_)
            all_goals (try omega)
            show tb (gi (sumS F H i (j + 1))) N = (tb (gi (sumS F H i j)) N).set (0 + ((j : Nat) : Int).toNat) (((sumS F H i j j + H j : G).v : Nat) : Int)
            rw [show (0 + ((j : Nat) : Int).toNat) = j by omega]
            exact (tab_put _ N j _ fun k hk => sumS_succ F H i j k).symm
          · have h : j = m := by have := dlt_f h'; omega
            subst h
            conv => whnf
            repeat (first
              | (refine And.intro ?_ ?_; (focus (first | omega | decide | exact EqOk.mk (by kernel_rfl) (by kernel_rfl) (by kernel_rfl) | exact Int.natCast_nonneg _ | ((repeat' refine And.intro ?_ ?_) <;> first | omega | exact Int.natCast_nonneg _ | (simp only [i64max, u8max, u16max, u32max, u64max]; omega) | (simp only [mulSz_eq, Cont.len, colsLen, Col.len, List.length_cons, List.length_nil, List.length_replicate, List.length_append]; first | done | omega) | (simp [mulSz, Cont.len, bne]; first | done | omega)))); conv => whnf)
              | (refine tst_in ?_ ?_; (focus (intro h_; exfalso; first | omega | ((try simp only [decide_eq_true_eq, decide_eq_false_iff_not] at h_); omega) | (simp [mulSz, Cont.len, bne] at h_; first | done | omega))); intro _; conv => whnf)
              | (refine tst_in ?_ ?_; rotate_left; (focus (intro h_; exfalso; first | omega | ((try simp only [decide_eq_true_eq, decide_eq_false_iff_not] at h_); omega) | (simp [mulSz, Cont.len, bne] at h_; first | done | omega))); intro _; conv => whnf)
              | (refine ⟨0, (show _ = _ by omega), ?_⟩; conv => whnf))
            refine ⟨_, [2], TR, ?_⟩
            conv => whnf
            iterate 2
             refine And.intro ?_ ?_
             focus
              conv => whnf
              repeat' (first | exact True.intro | rfl | refine And.intro ?_ ?_)
              all_goals (conv => whnf)
              repeat' (first | exact True.intro | rfl | refine And.intro ?_ ?_)
              all_goals (try (first | rfl | omega | (simp; first | done | omega)))
            conv => whnf
            refine ⟨?_, True.intro⟩
            rintro tl _
            conv => whnf
            change List Int at tl
            conv => whnf
            repeat (first
              | (refine And.intro ?_ ?_; (focus (first | omega | decide | exact EqOk.mk (by kernel_rfl) (by kernel_rfl) (by kernel_rfl) | exact Int.natCast_nonneg _ | ((repeat' refine And.intro ?_ ?_) <;> first | omega | exact Int.natCast_nonneg _ | (simp only [i64max, u8max, u16max, u32max, u64max]; omega) | (simp only [mulSz_eq, Cont.len, colsLen, Col.len, List.length_cons, List.length_nil, List.length_replicate, List.length_append]; first | done | omega) | (simp [mulSz, Cont.len, bne]; first | done | omega)))); conv => whnf)
              | (refine tst_in ?_ ?_; (focus (intro h_; exfalso; first | omega | ((try simp only [decide_eq_true_eq, decide_eq_false_iff_not] at h_); omega) | (simp [mulSz, Cont.len, bne] at h_; first | done | omega))); intro _; conv => whnf)
              | (refine tst_in ?_ ?_; rotate_left; (focus (intro h_; exfalso; first | omega | ((try simp only [decide_eq_true_eq, decide_eq_false_iff_not] at h_); omega) | (simp [mulSz, Cont.len, bne] at h_; first | done | omega))); intro _; conv => whnf)
              | (refine ⟨0, (show _ = _ by omega), ?_⟩; conv => whnf))
            refine .inl ⟨tl, [0, 1, 3], ?_⟩
            conv => whnf
            repeat' (first | exact True.intro | rfl | refine And.intro ?_ ?_)
            all_goals (conv => whnf)
            repeat' (first | exact True.intro | rfl | refine And.intro ?_ ?_)
            all_goals (try omega)
end Go.Proofs.Yteiblfkegnppeaa

set_option linter.unusedVariables false
set_option linter.unusedSimpArgs false
namespace Go.Proofs.Yteiblfkegnppeaa
open Go Go.Fw
noncomputable def k57 : Code := (Try.f57.body).getD .skip
noncomputable def st57 (F H : Nat → G) (A B : List Int) (n c m d L i : Nat) : St := ⟨slotsAt 49 [(0, .slice 0 0 n c), (1, .slice 1 0 m d), (5, .slice 2 0 L L), (6, .int .i64 i)], [.seg false (.ints .u8 A), .seg false (.ints .u8 B), .seg true (.ints .u8 (tb (gi (ac F H i)) L))]⟩
noncomputable def st57b (F H : Nat → G) (A B : List Int) (n c m d L i j : Nat) : St := ⟨slotsAt 49 [(0, .slice 0 0 n c), (1, .slice 1 0 m d), (5, .slice 2 0 L L), (6, .int .i64 i), (7, .int .i64 j)], [.seg false (.ints .u8 A), .seg false (.ints .u8 B), .seg true (.ints .u8 (tb (gi (part F H i j)) L))]⟩
def plan57 : PlanN := .op 0 (.op 1 (.op 2 (.op 4 (.op 5 (.op 6 (.op 10 (.op 11 (.op 12 (.op 13 (.op 14 (.op 15 (.op 16 (.op 17 (.rd 3 (.rd 7 (.rd 8 (.rd 9 (.op 18 (.chk [9, 8, 7, 3] (.op 19 (.op 20 (.op 21 .done))))))))))))))))))))))
noncomputable def cfg57 (F H : Nat → G) (A B : List Int) (n c m d L : Nat) : Cfg := { cfgk 2 with
  dep := fun | 6 => some fun st => ⟨Nat, fun j => st57b F H A B n c m d L (natAt st 6) j, fun j => j ≤ m, fun j => m - j⟩ | _ => none,
  plan := fun | 8 => some (.nn plan57) | _ => none }
noncomputable def proOut (P : Nat → G) (l : Nat) : FOut := ⟨List Int, fun _ => True, fun tl => .slice 2 0 l (l + tl.length), fun tl => [.dead, .dead, .seg true (.ints .u8 (tb (gi P) l ++ tl))]⟩
set_option maxHeartbeats 0 in
set_option maxRecDepth 100000 in
theorem refproduct_f (F H : Nat → G) (A B : List Int) (n c m d : Nat) (hA : Rd A F n) (hB : Rd B H m) (hc : n ≤ c) (hd : m ≤ d) (hn : n ≤ 1024) (hm : m ≤ 1024) :
    Fits Try.prog 57 ⟨[.slice 0 0 n c, .slice 1 0 m d], [.seg false (.ints .u8 A), .seg false (.ints .u8 B)], [proOut (prodP F H n m) (plen (dg F n) (dg H m))]⟩ := by
  have hA2 : Rd A (ct F n) n := Rd_congr hA fun i hi => (ct_lt F hi).symm
  have hB2 : Rd B (ct H m) m := Rd_congr hB fun i hi => (ct_lt H hi).symm
  have hpp := pol_prod F H n m
  have hs0 := dg_le F n
  have ht0 := dg_le H m
  have hL2 : plen (dg F n) (dg H m) ≤ n + m := by unfold plen; split <;> omega
  have TR := Trim_f (prodP F H n m) (tb (gi (prodP F H n m)) (n + m)) (n + m) (n + m) (Rd_tb _ _) (Nat.le_refl _) (by omega)
  rw [dg_pol hpp hL2] at TR
  unfold proOut
  unfold trOut at TR
  generalize plen (dg F n) (dg H m) = l at *
  unfold prodP at TR ⊢
  have hzH := zr_ct H m
  generalize ct F n = F' at *
  generalize ct H m = H' at *
  refine fits_of_body (C := cfg57 F' H' A B n c m d (n + m)) (c := k57) (ts := [4]) tokL mixedL (fun | 3 => some ⟨Nat, fun i => st57 F' H' A B n c m d (n + m) i, fun i => i ≤ n, fun i => n - i⟩ | _ => none) (fun _ => none)
    Try.func57 (by kernel_rfl) (by kernel_rfl) (by kernel_rfl) (by kernel_rfl) rfl ?_
  obtain ⟨L, hL⟩ : ∃ L, L = n + m := ⟨_, rfl⟩
  obtain ⟨hl, hg⟩ := hA2
  obtain ⟨hl2, hg2⟩ := hB2
  rw [← hL] at TR ⊢
  conv => whnf
  repeat (first
    | (refine And.intro ?_ ?_; (focus (first | omega | decide | exact EqOk.mk (by kernel_rfl) (by kernel_rfl) (by kernel_rfl) | exact Int.natCast_nonneg _ | ((repeat' refine And.intro ?_ ?_) <;> first | omega | exact Int.natCast_nonneg _ | (simp only [i64max, u8max, u16max, u32max, u64max]; omega) | (simp only [mulSz_eq, Cont.len, colsLen, Col.len, List.length_cons, List.length_nil, List.length_replicate, List.length_append]; first | done | omega) | (simp [mulSz, Cont.len, bne]; first | done | omega)))); conv => whnf)
    | (refine tst_in ?_ ?_; (focus (intro h_; exfalso; first | omega | ((try simp only [decide_eq_true_eq, decide_eq_false_iff_not] at h_); omega) | (simp [mulSz, Cont.len, bne] at h_; first | done | omega))); intro _; conv => whnf)
    | (refine tst_in ?_ ?_; rotate_left; (focus (intro h_; exfalso; first | omega | ((try simp only [decide_eq_true_eq, decide_eq_false_iff_not] at h_); omega) | (simp [mulSz, Cont.len, bne] at h_; first | done | omega))); intro _; conv => whnf)
    | (refine ⟨0, (show _ = _ by omega), ?_⟩; conv => whnf))
  rw [show ((n : Int) + (m : Int)).toNat = L by omega]
  refine ⟨⟨[0, 1, 2], (0 : Nat), ?_, Nat.zero_le _⟩, ?_⟩
  · show stLe _ _ (st57 F' H' A B n c m d L 0) _
    conv => whnf
    repeat' (first | exact True.intro | rfl | refine And.intro ?_ ?_)
    all_goals (conv => whnf)
    repeat' (first | exact True.intro | rfl | refine And.intro ?_ ?_)
    all_goals (try omega)
    exact (tab_ext 0 (List.length_replicate ..) fun k hk => by rw [g_rep, if_pos hk]; rfl).symm
  · intro (i : Nat) (hi : i ≤ n)
    show forceSt (st57 F' H' A B n c m d L i) _
    conv => whnf
    repeat (first
      | (refine And.intro ?_ ?_; (focus (first | omega | decide | exact EqOk.mk (by kernel_rfl) (by kernel_rfl) (by kernel_rfl) | exact Int.natCast_nonneg _ | ((repeat' refine And.intro ?_ ?_) <;> first | omega | exact Int.natCast_nonneg _ | (simp only [i64max, u8max, u16max, u32max, u64max]; omega) | (simp only [mulSz_eq, Cont.len, colsLen, Col.len, List.length_cons, List.length_nil, List.length_replicate, List.length_append]; first | done | omega) | (simp [mulSz, Cont.len, bne]; first | done | omega)))); conv => whnf)
      | (refine tst_in ?_ ?_; (focus (intro h_; exfalso; first | omega | ((try simp only [decide_eq_true_eq, decide_eq_false_iff_not] at h_); omega) | (simp [mulSz, Cont.len, bne] at h_; first | done | omega))); intro _; conv => whnf)
      | (refine tst_in ?_ ?_; rotate_left; (focus (intro h_; exfalso; first | omega | ((try simp only [decide_eq_true_eq, decide_eq_false_iff_not] at h_); omega) | (simp [mulSz, Cont.len, bne] at h_; first | done | omega))); intro _; conv => whnf)
      | (refine ⟨0, (show _ = _ by omega), ?_⟩; conv => whnf))
    refine tst_in (fun r => ?_) (fun r' => ?_)
    · have r : i < n := by have := dlt_t r; omega
      have hgi := hg i (by omega)
      conv => whnf
      repeat (first
        | (refine And.intro ?_ ?_; (focus (first | omega | decide | exact EqOk.mk (by kernel_rfl) (by kernel_rfl) (by kernel_rfl) | exact Int.natCast_nonneg _ | ((repeat' refine And.intro ?_ ?_) <;> first | omega | exact Int.natCast_nonneg _ | (simp only [i64max, u8max, u16max, u32max, u64max]; omega) | (simp only [mulSz_eq, Cont.len, colsLen, Col.len, List.length_cons, List.length_nil, List.length_replicate, List.length_append]; first | done | omega) | (simp [mulSz, Cont.len, bne]; first | done | omega)))); conv => whnf)
        | (refine tst_in ?_ ?_; (focus (intro h_; exfalso; first | omega | ((try simp only [decide_eq_true_eq, decide_eq_false_iff_not] at h_); omega) | (simp [mulSz, Cont.len, bne] at h_; first | done | omega))); intro _; conv => whnf)
        | (refine tst_in ?_ ?_; rotate_left; (focus (intro h_; exfalso; first | omega | ((try simp only [decide_eq_true_eq, decide_eq_false_iff_not] at h_); omega) | (simp [mulSz, Cont.len, bne] at h_; first | done | omega))); intro _; conv => whnf)
        | (refine ⟨0, (show _ = _ by omega), ?_⟩; conv => whnf))
      refine ⟨⟨[0, 1, 2], (0 : Nat), ?_, Nat.zero_le _⟩, ?_⟩
      · show stLe _ _ (st57b F' H' A B n c m d L i 0) _
        conv => whnf
        repeat' (first | exact True.intro | rfl | refine And.intro ?_ ?_)
        all_goals (conv => whnf)
        repeat' (first | exact True.intro | rfl | refine And.intro ?_ ?_)
        all_goals (try omega)
        rw [part_0]
      · intro (j : Nat) (hj : j ≤ m)
        show forceSt (st57b F' H' A B n c m d L i j) _
        conv => whnf
        repeat (first
          | (refine And.intro ?_ ?_; (focus (first | omega | decide | exact EqOk.mk (by kernel_rfl) (by kernel_rfl) (by kernel_rfl) | exact Int.natCast_nonneg _ | ((repeat' refine And.intro ?_ ?_) <;> first | omega | exact Int.natCast_nonneg _ | (simp only [i64max, u8max, u16max, u32max, u64max]; omega) | (simp only [mulSz_eq, Cont.len, colsLen, Col.len, List.length_cons, List.length_nil, List.length_replicate, List.length_append]; first | done | omega) | (simp [mulSz, Cont.len, bne]; first | done | omega)))); conv => whnf)
          | (refine tst_in ?_ ?_; (focus (intro h_; exfalso; first | omega | ((try simp only [decide_eq_true_eq, decide_eq_false_iff_not] at h_); omega) | (simp [mulSz, Cont.len, bne] at h_; first | done | omega))); intro _; conv => whnf)
          | (refine tst_in ?_ ?_; rotate_left; (focus (intro h_; exfalso; first | omega | ((try simp only [decide_eq_true_eq, decide_eq_false_iff_not] at h_); omega) | (simp [mulSz, Cont.len, bne] at h_; first | done | omega))); intro _; conv => whnf)
          | (refine ⟨0, (show _ = _ by omega), ?_⟩; conv => whnf))
        refine tst_in (fun u => ?_) (fun u' => ?_)
        · have u : j < m := by have := dlt_t u; omega
          have hgj := hg2 j (by omega)
          have TM := refTimes_g (F' i) (H' j)
          have ho := gi_in (part F' H' i j) (i + j)
          have hm2 := (F' i * H' j).lt
          have hto : (tb (gi (part F' H' i j)) L).getD (i + j) 0 = gi (part F' H' i j) (i + j) := tab_get _ _ (by omega)
          conv => whnf
          repeat (first
            | (refine And.intro ?_ ?_; (focus (first | omega | decide | exact EqOk.mk (by kernel_rfl) (by kernel_rfl) (by kernel_rfl) | exact Int.natCast_nonneg _ | ((repeat' refine And.intro ?_ ?_) <;> first | omega | exact Int.natCast_nonneg _ | (simp only [i64max, u8max, u16max, u32max, u64max]; omega) | (simp only [mulSz_eq, Cont.len, colsLen, Col.len, List.length_cons, List.length_nil, List.length_replicate, List.length_append, tab_len]; first | done | omega) | (simp [mulSz, Cont.len, bne, tab_len]; first | done | omega)))); conv => whnf)
            | (refine tst_in ?_ ?_; (focus (intro h_; exfalso; first | omega | ((try simp only [decide_eq_true_eq, decide_eq_false_iff_not] at h_); omega) | (simp [mulSz, Cont.len, bne, tab_len] at h_; first | done | omega))); intro _; conv => whnf)
            | (refine tst_in ?_ ?_; rotate_left; (focus (intro h_; exfalso; first | omega | ((try simp only [decide_eq_true_eq, decide_eq_false_iff_not] at h_); omega) | (simp [mulSz, Cont.len, bne, tab_len] at h_; first | done | omega))); intro _; conv => whnf)
            | (refine ⟨0, (show _ = _ by omega), ?_⟩; conv => whnf))
          rw [show (0 + ((j : Nat) : Int).toNat) = j by omega, hgj, show (0 + ((i : Nat) : Int).toNat) = i by omega, hgi]
          refine ⟨_, [], TM, ?_⟩
          conv => whnf
          iterate 2
           refine And.intro ?_ ?_
           focus
            conv => whnf
            repeat' (first | exact True.intro | rfl | refine And.intro ?_ ?_ | omega)
            all_goals (conv => whnf)
            all_goals (try (first | rfl | omega | (simp; done)))
          conv => whnf
          conv => whnf
          repeat (first
            | (refine And.intro ?_ ?_; (focus (first | omega | decide | exact EqOk.mk (by kernel_rfl) (by kernel_rfl) (by kernel_rfl) | exact Int.natCast_nonneg _ | ((repeat' refine And.intro ?_ ?_) <;> first | omega | exact Int.natCast_nonneg _ | (simp only [i64max, u8max, u16max, u32max, u64max]; omega) | (simp only [mulSz_eq, Cont.len, colsLen, Col.len, List.length_cons, List.length_nil, List.length_replicate, List.length_append, tab_len]; first | done | omega) | (simp [mulSz, Cont.len, bne, tab_len]; first | done | omega)))); conv => whnf)
            | (refine tst_in ?_ ?_; (focus (intro h_; exfalso; first | omega | ((try simp only [decide_eq_true_eq, decide_eq_false_iff_not] at h_); omega) | (simp [mulSz, Cont.len, bne, tab_len] at h_; first | done | omega))); intro _; conv => whnf)
            | (refine tst_in ?_ ?_; rotate_left; (focus (intro h_; exfalso; first | omega | ((try simp only [decide_eq_true_eq, decide_eq_false_iff_not] at h_); omega) | (simp [mulSz, Cont.len, bne, tab_len] at h_; first | done | omega))); intro _; conv => whnf)
            | (refine ⟨0, (show _ = _ by omega), ?_⟩; conv => whnf))
          rw [show (0 + ((i : Nat) + (j : Nat) : Int).toNat) = i + j by omega, hto]
          refine ⟨⟨ho.1, by omega, ho.2, by rw [u8max]; omega⟩, ?_⟩
          conv => whnf
          repeat (first
            | (refine And.intro ?_ ?_; (focus (first | omega | decide | exact EqOk.mk (by kernel_rfl) (by kernel_rfl) (by kernel_rfl) | exact Int.natCast_nonneg _ | ((repeat' refine And.intro ?_ ?_) <;> first | omega | exact Int.natCast_nonneg _ | (simp only [i64max, u8max, u16max, u32max, u64max]; omega) | (simp only [mulSz_eq, Cont.len, colsLen, Col.len, List.length_cons, List.length_nil, List.length_replicate, List.length_append, tab_len]; first | done | omega) | (simp [mulSz, Cont.len, bne, tab_len]; first | done | omega)))); conv => whnf)
            | (refine tst_in ?_ ?_; (focus (intro h_; exfalso; first | omega | ((try simp only [decide_eq_true_eq, decide_eq_false_iff_not] at h_); omega) | (simp [mulSz, Cont.len, bne, tab_len] at h_; first | done | omega))); intro _; conv => whnf)
            | (refine tst_in ?_ ?_; rotate_left; (focus (intro h_; exfalso; first | omega | ((try simp only [decide_eq_true_eq, decide_eq_false_iff_not] at h_); omega) | (simp [mulSz, Cont.len, bne, tab_len] at h_; first | done | omega))); intro _; conv => whnf)
            | (refine ⟨0, (show _ = _ by omega), ?_⟩; conv => whnf))
          refine ⟨[0, 1, 2], (j + 1 : Nat), ?_, u, by show m - (j + 1) < m - j; omega⟩
          show stLe _ _ (st57b F' H' A B n c m d L i (j + 1)) _
          conv => whnf
          repeat' (first | exact True.intro | rfl | refine And.intro ?_ ?_)
          all_goals (conv => whnf)
          repeat' (first | exact True.intro | rfl | refine And.intro ?_ ?_)
          all_goals (try omega)
          show tb (gi (part F' H' i (j + 1))) L = (tb (gi (part F' H' i j)) L).set (0 + ((i : Nat) + (j : Nat) : Int).toNat) (((part F' H' i j (i + j) + F' i * H' j : G).v : Nat) : Int)
          rw [show (0 + ((i : Nat) + (j : Nat) : Int).toNat) = i + j by omega]
          exact (tab_put _ L (i + j) _ fun k hk => part_succ F' H' i j k).symm
        · have u : j = m := by have := dlt_f u'; omega
          subst u
          conv => whnf
          repeat (first
            | (refine And.intro ?_ ?_; (focus (first | omega | decide | exact EqOk.mk (by kernel_rfl) (by kernel_rfl) (by kernel_rfl) | exact Int.natCast_nonneg _ | ((repeat' refine And.intro ?_ ?_) <;> first | omega | exact Int.natCast_nonneg _ | (simp only [i64max, u8max, u16max, u32max, u64max]; omega) | (simp only [mulSz_eq, Cont.len, colsLen, Col.len, List.length_cons, List.length_nil, List.length_replicate, List.length_append]; first | done | omega) | (simp [mulSz, Cont.len, bne]; first | done | omega)))); conv => whnf)
            | (refine tst_in ?_ ?_; (focus (intro h_; exfalso; first | omega | ((try simp only [decide_eq_true_eq, decide_eq_false_iff_not] at h_); omega) | (simp [mulSz, Cont.len, bne] at h_; first | done | omega))); intro _; conv => whnf)
            | (refine tst_in ?_ ?_; rotate_left; (focus (intro h_; exfalso; first | omega | ((try simp only [decide_eq_true_eq, decide_eq_false_iff_not] at h_); omega) | (simp [mulSz, Cont.len, bne] at h_; first | done | omega))); intro _; conv => whnf)
            | (refine ⟨0, (show _ = _ by omega), ?_⟩; conv => whnf))
          refine ⟨[0, 1, 2], (i + 1 : Nat), ?_, r, by show n - (i + 1) < n - i; omega⟩
          show stLe _ _ (st57 F' H' A B n c j d L (i + 1)) _
          conv => whnf
          repeat' (first | exact True.intro | rfl | refine And.intro ?_ ?_)
          all_goals (conv => whnf)
          repeat' (first | exact True.intro | rfl | refine And.intro ?_ ?_)
          all_goals (try omega)
          rw [part_end hzH]
    · have r : i = n := by have := dlt_f r'; omega
      subst r
      conv => whnf
      repeat (first
        | (refine And.intro ?_ ?_; (focus (first | omega | decide | exact EqOk.mk (by kernel_rfl) (by kernel_rfl) (by kernel_rfl) | exact Int.natCast_nonneg _ | ((repeat' refine And.intro ?_ ?_) <;> first | omega | exact Int.natCast_nonneg _ | (simp only [i64max, u8max, u16max, u32max, u64max]; omega) | (simp only [mulSz_eq, Cont.len, colsLen, Col.len, List.length_cons, List.length_nil, List.length_replicate, List.length_append]; first | done | omega) | (simp [mulSz, Cont.len, bne]; first | done | omega)))); conv => whnf)
        | (refine tst_in ?_ ?_; (focus (intro h_; exfalso; first | omega | ((try simp only [decide_eq_true_eq, decide_eq_false_iff_not] at h_); omega) | (simp [mulSz, Cont.len, bne] at h_; first | done | omega))); intro _; conv => whnf)
        | (refine tst_in ?_ ?_; rotate_left; (focus (intro h_; exfalso; first | omega | ((try simp only [decide_eq_true_eq, decide_eq_false_iff_not] at h_); omega) | (simp [mulSz, Cont.len, bne] at h_; first | done | omega))); intro _; conv => whnf)
        | (refine ⟨0, (show _ = _ by omega), ?_⟩; conv => whnf))
      refine ⟨_, [2], TR, ?_⟩
      conv => whnf
      iterate 2
       refine And.intro ?_ ?_
       focus
        conv => whnf
        repeat' (first | exact True.intro | rfl | refine And.intro ?_ ?_)
        all_goals (conv => whnf)
        repeat' (first | exact True.intro | rfl | refine And.intro ?_ ?_)
        all_goals (try (first | rfl | omega | (simp; first | done | omega)))
      conv => whnf
      refine ⟨?_, True.intro⟩
      rintro tl _
      conv => whnf
      change List Int at tl
      conv => whnf
      repeat (first
        | (refine And.intro ?_ ?_; (focus (first | omega | decide | exact EqOk.mk (by kernel_rfl) (by kernel_rfl) (by kernel_rfl) | exact Int.natCast_nonneg _ | ((repeat' refine And.intro ?_ ?_) <;> first | omega | exact Int.natCast_nonneg _ | (simp only [i64max, u8max, u16max, u32max, u64max]; omega) | (simp only [mulSz_eq, Cont.len, colsLen, Col.len, List.length_cons, List.length_nil, List.length_replicate, List.length_append]; first | done | omega) | (simp [mulSz, Cont.len, bne]; first | done | omega)))); conv => whnf)
        | (refine tst_in ?_ ?_; (focus (intro h_; exfalso; first | omega | ((try simp only [decide_eq_true_eq, decide_eq_false_iff_not] at h_); omega) | (simp [mulSz, Cont.len, bne] at h_; first | done | omega))); intro _; conv => whnf)
        | (refine tst_in ?_ ?_; rotate_left; (focus (intro h_; exfalso; first | omega | ((try simp only [decide_eq_true_eq, decide_eq_false_iff_not] at h_); omega) | (simp [mulSz, Cont.len, bne] at h_; first | done | omega))); intro _; conv => whnf)
        | (refine ⟨0, (show _ = _ by omega), ?_⟩; conv => whnf))
      refine .inl ⟨tl, [0, 1, 3], ?_⟩
      conv => whnf
      repeat' (first | exact True.intro | rfl | refine And.intro ?_ ?_)
      all_goals (conv => whnf)
      repeat' (first | exact True.intro | rfl | refine And.intro ?_ ?_)
      all_goals (try omega)
noncomputable def k50 : Code := (Try.f50.body).getD .skip
set_option maxHeartbeats 0 in
set_option maxRecDepth 100000 in
theorem refProduct_g (F H : Nat → G) (A B : List Int) (n c m d : Nat) (hA : Rd A F n) (hB : Rd B H m) (hc : n ≤ c) (hd : m ≤ d) (hn : n ≤ 9223372036854775807) (hm : m ≤ 9223372036854775807) :
    Fits Try.prog 50 ⟨[.slice 0 0 n c, .slice 1 0 m d], [.seg false (.ints .u8 A), .seg false (.ints .u8 B)],
      [polOutT (prodP F H n m) (okQ n m (plen (dg F n) (dg H m)) (plen (dg F n) (dg H m))) (okQE n m (plen (dg F n) (dg H m)))]⟩ := by
  have TL := may_q n c m d hn hm
  have hs0 := dg_le F n
  have ht0 := dg_le H m
  unfold polOutT
  refine fits_of_body (C := cfgk 2) (c := k50) (ts := [4, 5]) tokL mixedL (fun _ => none) (fun _ => none)
    Try.func50 (by kernel_rfl) (by kernel_rfl) (by kernel_rfl) (by kernel_rfl) rfl ?_
  conv => whnf
  repeat (first
    | (refine And.intro ?_ ?_; (focus (first | omega | decide | exact EqOk.mk (by kernel_rfl) (by kernel_rfl) (by kernel_rfl) | exact Int.natCast_nonneg _ | ((repeat' refine And.intro ?_ ?_) <;> first | omega | exact Int.natCast_nonneg _ | (simp only [i64max, u8max, u16max, u32max, u64max]; omega) | (simp only [mulSz_eq, Cont.len, colsLen, Col.len, List.length_cons, List.length_nil, List.length_replicate, List.length_append]; first | done | omega) | (simp [mulSz, Cont.len, bne]; first | done | omega)))); conv => whnf)
    | (refine tst_in ?_ ?_; (focus (intro h_; exfalso; first | omega | ((try simp only [decide_eq_true_eq, decide_eq_false_iff_not] at h_); omega) | (simp [mulSz, Cont.len, bne] at h_; first | done | omega))); intro _; conv => whnf)
    | (refine tst_in ?_ ?_; rotate_left; (focus (intro h_; exfalso; first | omega | ((try simp only [decide_eq_true_eq, decide_eq_false_iff_not] at h_); omega) | (simp [mulSz, Cont.len, bne] at h_; first | done | omega))); intro _; conv => whnf)
    | (refine ⟨0, (show _ = _ by omega), ?_⟩; conv => whnf))
  refine ⟨_, [0, 1], TL, ?_⟩
  conv => whnf
  iterate 2
   refine And.intro ?_ ?_
   focus
    conv => whnf
    repeat' (first | exact True.intro | rfl | refine And.intro ?_ ?_)
    all_goals (conv => whnf)
    repeat' (first | exact True.intro | rfl | refine And.intro ?_ ?_)
    all_goals (try (first | rfl | omega | (simp; first | done | omega)))
  conv => whnf
  by_cases hb : 512 < n ∨ 512 < m
  · rw [decide_eq_false (by omega : ¬ ¬ (512 < n ∨ 512 < m)), show okQ n m (plen (dg F n) (dg H m)) (plen (dg F n) (dg H m)) = 0 from if_pos (by omega), show okQE n m (plen (dg F n) (dg H m)) = 1 from if_pos (by omega)]
    conv => whnf
    repeat (first
      | (refine And.intro ?_ ?_; (focus (first | omega | decide | exact EqOk.mk (by kernel_rfl) (by kernel_rfl) (by kernel_rfl) | exact Int.natCast_nonneg _ | ((repeat' refine And.intro ?_ ?_) <;> first | omega | exact Int.natCast_nonneg _ | (simp only [i64max, u8max, u16max, u32max, u64max]; omega) | (simp only [mulSz_eq, Cont.len, colsLen, Col.len, List.length_cons, List.length_nil, List.length_replicate, List.length_append]; first | done | omega) | (simp [mulSz, Cont.len, bne]; first | done | omega)))); conv => whnf)
      | (refine tst_in ?_ ?_; (focus (intro h_; exfalso; first | omega | ((try simp only [decide_eq_true_eq, decide_eq_false_iff_not] at h_); omega) | (simp [mulSz, Cont.len, bne] at h_; first | done | omega))); intro _; conv => whnf)
      | (refine tst_in ?_ ?_; rotate_left; (focus (intro h_; exfalso; first | omega | ((try simp only [decide_eq_true_eq, decide_eq_false_iff_not] at h_); omega) | (simp [mulSz, Cont.len, bne] at h_; first | done | omega))); intro _; conv => whnf)
      | (refine ⟨0, (show _ = _ by omega), ?_⟩; conv => whnf))
    refine .inl ⟨[], [0, 1, 9], ?_⟩
    conv => whnf
    repeat' (first | exact True.intro | rfl | refine And.intro ?_ ?_)
    all_goals (conv => whnf)
    repeat' (first | exact True.intro | rfl | refine And.intro ?_ ?_)
    all_goals (try omega)
  · rw [decide_eq_true hb]
    have TA := Trim_f F A n c hA hc (by omega)
    have TB := Trim_f H B m d hB hd (by omega)
    have PR := fun ta tb' : List Int => refproduct_f F H (tb (gi F) (dg F n) ++ ta) (tb (gi H) (dg H m) ++ tb') (dg F n) (dg F n + ta.length) (dg H m) (dg H m + tb'.length) (Rd_tl _ _ _) (Rd_tl _ _ _) (by omega) (by omega) (by omega) (by omega)
    unfold trOut at TA TB
    unfold proOut at PR
    have eF : dg F (dg F n) = dg F n := by
      have := dg_pol (pol_dg F n) (Nat.le_refl _)
      rw [← this]; conv => lhs; rw [this]
      exact dg_congr _ fun i hi => (ct_lt F (by omega)).symm
    have eH : dg H (dg H m) = dg H m := by
      have := dg_pol (pol_dg H m) (Nat.le_refl _)
      rw [← this]; conv => lhs; rw [this]
      exact dg_congr _ fun i hi => (ct_lt H (by omega)).symm
    have eP : prodP F H (dg F n) (dg H m) = prodP F H n m := by
      unfold prodP
      rw [ct_dg2 F n, ct_dg2 H m]
      exact (ac_le _ _ (pol_dg F n).1 hs0).symm
    rw [eF, eH, eP] at PR
    generalize dg F n = s at *
    generalize dg H m = t at *
    conv => whnf
    repeat (first
      | (refine And.intro ?_ ?_; (focus (first | omega | decide | exact EqOk.mk (by kernel_rfl) (by kernel_rfl) (by kernel_rfl) | exact Int.natCast_nonneg _ | ((repeat' refine And.intro ?_ ?_) <;> first | omega | exact Int.natCast_nonneg _ | (simp only [i64max, u8max, u16max, u32max, u64max]; omega) | (simp only [mulSz_eq, Cont.len, colsLen, Col.len, List.length_cons, List.length_nil, List.length_replicate, List.length_append]; first | done | omega) | (simp [mulSz, Cont.len, bne]; first | done | omega)))); conv => whnf)
      | (refine tst_in ?_ ?_; (focus (intro h_; exfalso; first | omega | ((try simp only [decide_eq_true_eq, decide_eq_false_iff_not] at h_); omega) | (simp [mulSz, Cont.len, bne] at h_; first | done | omega))); intro _; conv => whnf)
      | (refine tst_in ?_ ?_; rotate_left; (focus (intro h_; exfalso; first | omega | ((try simp only [decide_eq_true_eq, decide_eq_false_iff_not] at h_); omega) | (simp [mulSz, Cont.len, bne] at h_; first | done | omega))); intro _; conv => whnf)
      | (refine ⟨0, (show _ = _ by omega), ?_⟩; conv => whnf))
    refine ⟨_, [0], TA, ?_⟩
    conv => whnf
    iterate 2
     refine And.intro ?_ ?_
     focus
      conv => whnf
      repeat' (first | exact True.intro | rfl | refine And.intro ?_ ?_)
      all_goals (conv => whnf)
      repeat' (first | exact True.intro | rfl | refine And.intro ?_ ?_)
      all_goals (try (first | rfl | omega | (simp; first | done | omega)))
    conv => whnf
    refine ⟨?_, True.intro⟩
    rintro ta _
    conv => whnf
    change List Int at ta
    conv => whnf
    repeat (first
      | (refine And.intro ?_ ?_; (focus (first | omega | decide | exact EqOk.mk (by kernel_rfl) (by kernel_rfl) (by kernel_rfl) | exact Int.natCast_nonneg _ | ((repeat' refine And.intro ?_ ?_) <;> first | omega | exact Int.natCast_nonneg _ | (simp only [i64max, u8max, u16max, u32max, u64max]; omega) | (simp only [mulSz_eq, Cont.len, colsLen, Col.len, List.length_cons, List.length_nil, List.length_replicate, List.length_append]; first | done | omega) | (simp [mulSz, Cont.len, bne]; first | done | omega)))); conv => whnf)
      | (refine tst_in ?_ ?_; (focus (intro h_; exfalso; first | omega | ((try simp only [decide_eq_true_eq, decide_eq_false_iff_not] at h_); omega) | (simp [mulSz, Cont.len, bne] at h_; first | done | omega))); intro _; conv => whnf)
      | (refine tst_in ?_ ?_; rotate_left; (focus (intro h_; exfalso; first | omega | ((try simp only [decide_eq_true_eq, decide_eq_false_iff_not] at h_); omega) | (simp [mulSz, Cont.len, bne] at h_; first | done | omega))); intro _; conv => whnf)
      | (refine ⟨0, (show _ = _ by omega), ?_⟩; conv => whnf))
    refine ⟨_, [1], TB, ?_⟩
    conv => whnf
    iterate 2
     refine And.intro ?_ ?_
     focus
      conv => whnf
      repeat' (first | exact True.intro | rfl | refine And.intro ?_ ?_)
      all_goals (conv => whnf)
      repeat' (first | exact True.intro | rfl | refine And.intro ?_ ?_)
      all_goals (try (first | rfl | omega | (simp; first | done | omega)))
    conv => whnf
    refine ⟨?_, True.intro⟩
    rintro tc _
    conv => whnf
    change List Int at tc
    have PR := PR ta tc
    conv => whnf
    repeat (first
      | (refine And.intro ?_ ?_; (focus (first | omega | decide | exact EqOk.mk (by kernel_rfl) (by kernel_rfl) (by kernel_rfl) | exact Int.natCast_nonneg _ | ((repeat' refine And.intro ?_ ?_) <;> first | omega | exact Int.natCast_nonneg _ | (simp only [i64max, u8max, u16max, u32max, u64max]; omega) | (simp only [mulSz_eq, Cont.len, colsLen, Col.len, List.length_cons, List.length_nil, List.length_replicate, List.length_append]; first | done | omega) | (simp [mulSz, Cont.len, bne]; first | done | omega)))); conv => whnf)
      | (refine tst_in ?_ ?_; (focus (intro h_; exfalso; first | omega | ((try simp only [decide_eq_true_eq, decide_eq_false_iff_not] at h_); omega) | (simp [mulSz, Cont.len, bne] at h_; first | done | omega))); intro _; conv => whnf)
      | (refine tst_in ?_ ?_; rotate_left; (focus (intro h_; exfalso; first | omega | ((try simp only [decide_eq_true_eq, decide_eq_false_iff_not] at h_); omega) | (simp [mulSz, Cont.len, bne] at h_; first | done | omega))); intro _; conv => whnf)
      | (refine ⟨0, (show _ = _ by omega), ?_⟩; conv => whnf))
    have hpl : plen s t = if s = 0 ∨ t = 0 then 0 else s + t - 1 := rfl
    by_cases hl : 512 < plen s t
    · rw [show okQ n m (plen s t) (plen s t) = 0 from if_pos (by omega), show okQE n m (plen s t) = 1 from if_pos (by omega)]
      have h0 : ¬ (s = 0 ∨ t = 0) := fun h => by rw [if_pos h] at hpl; omega
      rw [if_neg h0] at hpl
      conv => whnf
      repeat (first
        | (refine And.intro ?_ ?_; (focus (first | omega | decide | exact EqOk.mk (by kernel_rfl) (by kernel_rfl) (by kernel_rfl) | exact Int.natCast_nonneg _ | ((repeat' refine And.intro ?_ ?_) <;> first | omega | exact Int.natCast_nonneg _ | (simp only [i64max, u8max, u16max, u32max, u64max]; omega) | (simp only [mulSz_eq, Cont.len, colsLen, Col.len, List.length_cons, List.length_nil, List.length_replicate, List.length_append]; first | done | omega) | (simp [mulSz, Cont.len, bne]; first | done | omega)))); conv => whnf)
        | (refine tst_in ?_ ?_; (focus (intro h_; exfalso; first | omega | ((try simp only [decide_eq_true_eq, decide_eq_false_iff_not] at h_); omega) | (simp [mulSz, Cont.len, bne] at h_; first | done | omega))); intro _; conv => whnf)
        | (refine tst_in ?_ ?_; rotate_left; (focus (intro h_; exfalso; first | omega | ((try simp only [decide_eq_true_eq, decide_eq_false_iff_not] at h_); omega) | (simp [mulSz, Cont.len, bne] at h_; first | done | omega))); intro _; conv => whnf)
        | (refine ⟨0, (show _ = _ by omega), ?_⟩; conv => whnf))
      refine .inl ⟨[], [0, 1, 9], ?_⟩
      conv => whnf
      repeat' (first | exact True.intro | rfl | refine And.intro ?_ ?_)
      all_goals (conv => whnf)
      repeat' (first | exact True.intro | rfl | refine And.intro ?_ ?_)
      all_goals (try omega)
    · rw [show okQ n m (plen s t) (plen s t) = plen s t from if_neg (by omega), show okQE n m (plen s t) = 0 from if_neg (by omega)]
      rcases Nat.eq_zero_or_pos s with h1 | h1
      · conv => whnf
        repeat (first
          | (refine And.intro ?_ ?_; (focus (first | omega | decide | exact EqOk.mk (by kernel_rfl) (by kernel_rfl) (by kernel_rfl) | exact Int.natCast_nonneg _ | ((repeat' refine And.intro ?_ ?_) <;> first | omega | exact Int.natCast_nonneg _ | (simp only [i64max, u8max, u16max, u32max, u64max]; omega) | (simp only [mulSz_eq, Cont.len, colsLen, Col.len, List.length_cons, List.length_nil, List.length_replicate, List.length_append]; first | done | omega) | (simp [mulSz, Cont.len, bne]; first | done | omega)))); conv => whnf)
          | (refine tst_in ?_ ?_; (focus (intro h_; exfalso; first | omega | ((try simp only [decide_eq_true_eq, decide_eq_false_iff_not] at h_); omega) | (simp [mulSz, Cont.len, bne] at h_; first | done | omega))); intro _; conv => whnf)
          | (refine tst_in ?_ ?_; rotate_left; (focus (intro h_; exfalso; first | omega | ((try simp only [decide_eq_true_eq, decide_eq_false_iff_not] at h_); omega) | (simp [mulSz, Cont.len, bne] at h_; first | done | omega))); intro _; conv => whnf)
          | (refine ⟨0, (show _ = _ by omega), ?_⟩; conv => whnf))
        refine ⟨_, [2, 3], PR, ?_⟩
        conv => whnf
        iterate 2
         refine And.intro ?_ ?_
         focus
          conv => whnf
          repeat' (first | exact True.intro | rfl | refine And.intro ?_ ?_)
          all_goals (conv => whnf)
          repeat' (first | exact True.intro | rfl | refine And.intro ?_ ?_)
          all_goals (try (first | rfl | omega | (simp; first | done | omega)))
        conv => whnf
        refine ⟨?_, True.intro⟩
        rintro tl _
        conv => whnf
        change List Int at tl
        conv => whnf
        repeat (first
          | (refine And.intro ?_ ?_; (focus (first | omega | decide | exact EqOk.mk (by kernel_rfl) (by kernel_rfl) (by kernel_rfl) | exact Int.natCast_nonneg _ | ((repeat' refine And.intro ?_ ?_) <;> first | omega | exact Int.natCast_nonneg _ | (simp only [i64max, u8max, u16max, u32max, u64max]; omega) | (simp only [mulSz_eq, Cont.len, colsLen, Col.len, List.length_cons, List.length_nil, List.length_replicate, List.length_append]; first | done | omega) | (simp [mulSz, Cont.len, bne]; first | done | omega)))); conv => whnf)
          | (refine tst_in ?_ ?_; (focus (intro h_; exfalso; first | omega | ((try simp only [decide_eq_true_eq, decide_eq_false_iff_not] at h_); omega) | (simp [mulSz, Cont.len, bne] at h_; first | done | omega))); intro _; conv => whnf)
          | (refine tst_in ?_ ?_; rotate_left; (focus (intro h_; exfalso; first | omega | ((try simp only [decide_eq_true_eq, decide_eq_false_iff_not] at h_); omega) | (simp [mulSz, Cont.len, bne] at h_; first | done | omega))); intro _; conv => whnf)
          | (refine ⟨0, (show _ = _ by omega), ?_⟩; conv => whnf))
        refine .inl ⟨tl, [0, 1, 4], ?_⟩
        conv => whnf
        repeat' (first | exact True.intro | rfl | refine And.intro ?_ ?_)
        all_goals (conv => whnf)
        repeat' (first | exact True.intro | rfl | refine And.intro ?_ ?_)
        all_goals (try omega)
      · rcases Nat.eq_zero_or_pos t with h2 | h2
        · conv => whnf
          repeat (first
            | (refine And.intro ?_ ?_; (focus (first | omega | decide | exact EqOk.mk (by kernel_rfl) (by kernel_rfl) (by kernel_rfl) | exact Int.natCast_nonneg _ | ((repeat' refine And.intro ?_ ?_) <;> first | omega | exact Int.natCast_nonneg _ | (simp only [i64max, u8max, u16max, u32max, u64max]; omega) | (simp only [mulSz_eq, Cont.len, colsLen, Col.len, List.length_cons, List.length_nil, List.length_replicate, List.length_append]; first | done | omega) | (simp [mulSz, Cont.len, bne]; first | done | omega)))); conv => whnf)
            | (refine tst_in ?_ ?_; (focus (intro h_; exfalso; first | omega | ((try simp only [decide_eq_true_eq, decide_eq_false_iff_not] at h_); omega) | (simp [mulSz, Cont.len, bne] at h_; first | done | omega))); intro _; conv => whnf)
            | (refine tst_in ?_ ?_; rotate_left; (focus (intro h_; exfalso; first | omega | ((try simp only [decide_eq_true_eq, decide_eq_false_iff_not] at h_); omega) | (simp [mulSz, Cont.len, bne] at h_; first | done | omega))); intro _; conv => whnf)
            | (refine ⟨0, (show _ = _ by omega), ?_⟩; conv => whnf))
          refine ⟨_, [2, 3], PR, ?_⟩
          conv => whnf
          iterate 2
           refine And.intro ?_ ?_
           focus
            conv => whnf
            repeat' (first | exact True.intro | rfl | refine And.intro ?_ ?_)
            all_goals (conv => whnf)
            repeat' (first | exact True.intro | rfl | refine And.intro ?_ ?_)
            all_goals (try (first | rfl | omega | (simp; first | done | omega)))
          conv => whnf
          refine ⟨?_, True.intro⟩
          rintro tl _
          conv => whnf
          change List Int at tl
          conv => whnf
          repeat (first
            | (refine And.intro ?_ ?_; (focus (first | omega | decide | exact EqOk.mk (by kernel_rfl) (by kernel_rfl) (by kernel_rfl) | exact Int.natCast_nonneg _ | ((repeat' refine And.intro ?_ ?_) <;> first | omega | exact Int.natCast_nonneg _ | (simp only [i64max, u8max, u16max, u32max, u64max]; omega) | (simp only [mulSz_eq, Cont.len, colsLen, Col.len, List.length_cons, List.length_nil, List.length_replicate, List.length_append]; first | done | omega) | (simp [mulSz, Cont.len, bne]; first | done | omega)))); conv => whnf)
            | (refine tst_in ?_ ?_; (focus (intro h_; exfalso; first | omega | ((try simp only [decide_eq_true_eq, decide_eq_false_iff_not] at h_); omega) | (simp [mulSz, Cont.len, bne] at h_; first | done | omega))); intro _; conv => whnf)
            | (refine tst_in ?_ ?_; rotate_left; (focus (intro h_; exfalso; first | omega | ((try simp only [decide_eq_true_eq, decide_eq_false_iff_not] at h_); omega) | (simp [mulSz, Cont.len, bne] at h_; first | done | omega))); intro _; conv => whnf)
            | (refine ⟨0, (show _ = _ by omega), ?_⟩; conv => whnf))
          refine .inl ⟨tl, [0, 1, 4], ?_⟩
          conv => whnf
          repeat' (first | exact True.intro | rfl | refine And.intro ?_ ?_)
          all_goals (conv => whnf)
          repeat' (first | exact True.intro | rfl | refine And.intro ?_ ?_)
          all_goals (try omega)
        · rw [if_neg (by omega)] at hpl
          conv => whnf
          repeat (first
            | (refine And.intro ?_ ?_; (focus (first | omega | decide | exact EqOk.mk (by kernel_rfl) (by kernel_rfl) (by kernel_rfl) | exact Int.natCast_nonneg _ | ((repeat' refine And.intro ?_ ?_) <;> first | omega | exact Int.natCast_nonneg _ | (simp only [i64max, u8max, u16max, u32max, u64max]; omega) | (simp only [mulSz_eq, Cont.len, colsLen, Col.len, List.length_cons, List.length_nil, List.length_replicate, List.length_append]; first | done | omega) | (simp [mulSz, Cont.len, bne]; first | done | omega)))); conv => whnf)
            | (refine tst_in ?_ ?_; (focus (intro h_; exfalso; first | omega | ((try simp only [decide_eq_true_eq, decide_eq_false_iff_not] at h_); omega) | (simp [mulSz, Cont.len, bne] at h_; first | done | omega))); intro _; conv => whnf)
            | (refine tst_in ?_ ?_; rotate_left; (focus (intro h_; exfalso; first | omega | ((try simp only [decide_eq_true_eq, decide_eq_false_iff_not] at h_); omega) | (simp [mulSz, Cont.len, bne] at h_; first | done | omega))); intro _; conv => whnf)
            | (refine ⟨0, (show _ = _ by omega), ?_⟩; conv => whnf))
          refine ⟨_, [2, 3], PR, ?_⟩
          conv => whnf
          iterate 2
           refine And.intro ?_ ?_
           focus
            conv => whnf
            repeat' (first | exact True.intro | rfl | refine And.intro ?_ ?_)
            all_goals (conv => whnf)
            repeat' (first | exact True.intro | rfl | refine And.intro ?_ ?_)
            all_goals (try (first | rfl | omega | (simp; first | done | omega)))
          conv => whnf
          refine ⟨?_, True.intro⟩
          rintro tl _
          conv => whnf
          change List Int at tl
          conv => whnf
          repeat (first
            | (refine And.intro ?_ ?_; (focus (first | omega | decide | exact EqOk.mk (by kernel_rfl) (by kernel_rfl) (by kernel_rfl) | exact Int.natCast_nonneg _ | ((repeat' refine And.intro ?_ ?_) <;> first | omega | exact Int.natCast_nonneg _ | (simp only [i64max, u8max, u16max, u32max, u64max]; omega) | (simp only [mulSz_eq, Cont.len, colsLen, Col.len, List.length_cons, List.length_nil, List.length_replicate, List.length_append]; first | done | omega) | (simp [mulSz, Cont.len, bne]; first | done | omega)))); conv => whnf)
            | (refine tst_in ?_ ?_; (focus (intro h_; exfalso; first | omega | ((try simp only [decide_eq_true_eq, decide_eq_false_iff_not] at h_); omega) | (simp [mulSz, Cont.len, bne] at h_; first | done | omega))); intro _; conv => whnf)
            | (refine tst_in ?_ ?_; rotate_left; (focus (intro h_; exfalso; first | omega | ((try simp only [decide_eq_true_eq, decide_eq_false_iff_not] at h_); omega) | (simp [mulSz, Cont.len, bne] at h_; first | done | omega))); intro _; conv => whnf)
            | (refine ⟨0, (show _ = _ by omega), ?_⟩; conv => whnf))
          refine .inl ⟨tl, [0, 1, 4], ?_⟩
          conv => whnf
          repeat' (first | exact True.intro | rfl | refine And.intro ?_ ?_)
          all_goals (conv => whnf)
          repeat' (first | exact True.intro | rfl | refine And.intro ?_ ?_)
          all_goals (try omega)
end Go.Proofs.Yteiblfkegnppeaa

set_option linter.unusedVariables false
set_option linter.unusedSimpArgs false
namespace Go.Proofs.Yteiblfkegnppeaa
open Go Go.Fw
structure DR where
  Q : Nat → G
  R : Nat → G
  tq : List Int
  tr : List Int
structure DivP (F H : Nat → G) (s t m : Nat) (Q R : Nat → G) : Prop where
  zq : Zr Q m
  zr : Zr R (t - 1)
  zs : Zr R s
  eq : ct F s = pa (ac Q (ct H t) m) R
noncomputable def rdivOut (F H : Nat → G) (s t m : Nat) : FOut := ⟨DR, fun x => DivP F H s t m x.Q x.R, fun x => .tup [.slice 3 0 (dg x.Q m) (dg x.Q m + x.tq.length), .slice 2 0 (dg x.R s) (dg x.R s + x.tr.length)], fun x => [.dead, .dead, .seg true (.ints .u8 (tb (gi x.R) (dg x.R s) ++ x.tr)), .seg true (.ints .u8 (tb (gi x.Q) (dg x.Q m) ++ x.tq))]⟩
structure RQ where
  Q : Nat → G
  R : Nat → G
  r : Nat
  tl : List Int
structure ROk (a b : Nat → G) (s t m : Nat) (Q R : Nat → G) (r : Nat) : Prop where
  pol : Pol R r
  le : r ≤ s
  zq : Zr Q m
  low : ∀ l, l + t ≤ r → Q l = g0
  eq : a = pa (ac Q b m) R
theorem ROk_in {a b : Nat → G} {s t m : Nat} {Q R : Nat → G} {i : Nat} (h : ROk a b s t m Q R (i + t)) (hb : Pol b t) (ht : 0 < t) (hi : i < m) (tl : List Int) :
    DIn a b s t m i ⟨0, putQ Q i (R (i + t - 1) * iv (b (t - 1))), R, tl⟩ := by
  have e : putQ Q i (R (i + t - 1) * iv (b (t - 1))) i = R (i + t - 1) * iv (b (t - 1)) := if_pos rfl
  refine ⟨Nat.zero_le _, fun l hl => ?_, fun l hl => ?_, h.pol.1, ?_, ?_⟩
  · show (if l = i then _ else Q l) = g0
    rw [if_neg (by omega)]; exact h.zq l hl
  · show (if l = i then _ else Q l) = g0
    rw [if_neg (by omega)]; exact h.low l (by omega)
  · show R (i + t - 1) = putQ _ _ _ _ * b (t - 1)
    rw [e, m_assoc, m_comm (iv _), m_iv (hb.2 ht), m_one]
  · show a = pa (pa (ac (putQ _ _ _) b m) (ps (putQ _ _ _ _) (sh i b))) R
    rw [e, ac_putQ _ b (h.low _ (Nat.le_refl _)) hi, pa_assoc (ac Q b m), pa_self, pa_zf, h.eq]
theorem ROk_out {a b : Nat → G} {s t m i k : Nat} {Q R : Nat → G} {tl : List Int} (h : DIn a b s t m i ⟨k, Q, R, tl⟩) (hb : Pol b t) (ht : 0 < t) (hs : i + t ≤ s) :
    ROk a b s t m Q (pa R (ps (Q i) (sh i b))) (dg (pa R (ps (Q i) (sh i b))) (i + t)) ∧ dg (pa R (ps (Q i) (sh i b))) (i + t) < i + t := by
  obtain ⟨h1, h2, h3, h4, h5, h6⟩ := h
  have hz : Zr (pa R (ps (Q i) (sh i b))) (i + t - 1) := fun l hl => by
    show R l + Q i * sh i b l = g0
    by_cases e : l = i + t - 1
    · rw [e, show R (i + t - 1) = Q i * b (t - 1) from h5, sh_in _ (by omega), show i + t - 1 - i = t - 1 by omega, a_self]
    · rw [show R l = g0 from h4 l (by omega), sh_in _ (by omega), hb.1 _ (by omega), m_zero, a_zero]
  have hz2 : Zr (pa R (ps (Q i) (sh i b))) (i + t) := zr_mono hz (by omega)
  have hp := pol_dg (pa R (ps (Q i) (sh i b))) (i + t)
  rw [ct_eq hz2] at hp
  have hlt : dg (pa R (ps (Q i) (sh i b))) (i + t) < i + t := by
    have h7 := pol_dg (pa R (ps (Q i) (sh i b))) (i + t - 1)
    rw [ct_eq hz] at h7
    have := pol_uniq hp h7
    have := dg_le (pa R (ps (Q i) (sh i b))) (i + t - 1)
    omega
  refine ⟨⟨hp, by omega, h2, fun l hl => h3 l (by omega), ?_⟩, hlt⟩
  have h6 : a = pa (pa (ac Q b m) (ps (Q i) (sh i b))) R := h6
  rw [h6, pa_assoc, pa_comm (ps _ _)]
noncomputable def k63 : Code := (Try.f63.body).getD .skip
noncomputable def st63 (A B : List Int) (n c t d m : Nat) (Q R : Nat → G) (r : Nat) (tl : List Int) : St := ⟨slotsAt 86 [(1, .slice 1 0 t d), (6, .slice 2 0 r (r + tl.length)), (7, .slice 3 0 m m)],
  [.seg false (.ints .u8 A), .seg false (.ints .u8 B), .seg true (.ints .u8 (tb (gi R) r ++ tl)), .seg true (.ints .u8 (tb (gi Q) m))]⟩
noncomputable def st63b (b : Nat → G) (A B : List Int) (n c t d m : Nat) (i : Nat) (k : Nat) (Q R : Nat → G) (tl : List Int) : St := ⟨slotsAt 86 [(1, .slice 1 0 t d), (6, .slice 2 0 (i + t) (i + t + tl.length)), (7, .slice 3 0 m m), (8, .int .i64 i), (9, .int .u8 ((Q i).v : Nat)), (11, .int .i64 k)],
  [.seg false (.ints .u8 A), .seg false (.ints .u8 B), .seg true (.ints .u8 (tb (gi (pa R (ps (Q i) (sh i (ct b k))))) (i + t) ++ tl)), .seg true (.ints .u8 (tb (gi Q) m))]⟩
def plan63 : PlanN := .op 0 (.op 1 (.op 2 (.op 4 (.op 5 (.op 6 (.op 10 (.op 11 (.op 12 (.op 13 (.op 14 (.rd 3 (.rd 7 (.rd 8 (.rd 9 (.op 15 (.chk [9, 8, 7, 3] (.op 16 (.op 17 (.op 18 .done)))))))))))))))))))
noncomputable def cfg63 (a b : Nat → G) (A B : List Int) (n c t d s m : Nat) : Cfg := { cfgk 2 with
  dep := fun | 10 => some fun st => ⟨DQ, fun x => st63b b A B n c t d m (natAt st 8) x.k x.Q x.R x.tl, fun x => DIn a b s t m (natAt st 8) x ∧ natAt st 8 + t ≤ s, fun x => t - x.k⟩ | _ => none,
  plan := fun | 12 => some (.nn plan63) | _ => none }
set_option maxHeartbeats 0 in
set_option maxRecDepth 100000 in
theorem refdivide_f (F H : Nat → G) (A B : List Int) (n c t d : Nat) (hA : Rd A F n) (hB : Rd B H t) (hc : n ≤ c) (hd : t ≤ d) (hn : n ≤ 1024) (ht2 : t ≤ 1024) (ht : 0 < t) (hH : H (t - 1) ≠ g0) :
    Fits Try.prog 63 ⟨[.slice 0 0 n c, .slice 1 0 t d], [.seg false (.ints .u8 A), .seg false (.ints .u8 B)], [rdivOut F H (dg F n) t (dg F n + 1 - t)]⟩ := by
  have TA := Trim_f F A n c hA hc (by omega)
  have hs0 := dg_le F n
  have hb : Pol (ct H t) t := ⟨zr_ct H t, fun _ => by rw [ct_lt H (by omega)]; exact hH⟩
  have hB2 : Rd B (ct H t) t := Rd_congr hB fun i hi => (ct_lt H hi).symm
  have hpF := pol_dg F n
  rw [← ct_dg2 F n] at hpF
  have eF : tb (gi F) (dg F n) = tb (gi (ct F (dg F n))) (dg F n) := tb_congr fun k hk => (ct_lt F hk).symm
  unfold trOut at TA
  rw [eF] at TA
  unfold rdivOut
  have mk : ∀ Q R, Zr Q (dg F n + 1 - t) → Zr R (t - 1) → Zr R (dg F n) → ct F (dg F n) = pa (ac Q (ct H t) (dg F n + 1 - t)) R → DivP F H (dg F n) t (dg F n + 1 - t) Q R := fun Q R h1 h2 h3 h4 => ⟨h1, h2, h3, h4⟩
  generalize hP : DivP F H (dg F n) t (dg F n + 1 - t) = PP at *
  clear eF
  generalize dg F n = s at *
  generalize ct F s = a at *
  generalize ct H t = b at *
  generalize hm : s + 1 - t = m at *
  refine fits_of_body (C := cfg63 a b A B n c t d s m) (c := k63) (ts := [4, 5]) tokL mixedL (fun | 5 => some ⟨RQ, fun x => st63 A B n c t d m x.Q x.R x.r x.tl, fun x => ROk a b s t m x.Q x.R x.r, fun x => x.r⟩ | _ => none) (fun _ => none)
    Try.func63 (by kernel_rfl) (by kernel_rfl) (by kernel_rfl) (by kernel_rfl) rfl ?_
  obtain ⟨hl2, hg2⟩ := hB2
  have hbt := hg2 (t - 1) (by omega)
  conv => whnf
  repeat (first
    | (refine And.intro ?_ ?_; (focus (first | omega | decide | exact EqOk.mk (by kernel_rfl) (by kernel_rfl) (by kernel_rfl) | exact Int.natCast_nonneg _ | ((repeat' refine And.intro ?_ ?_) <;> first | omega | exact Int.natCast_nonneg _ | (simp only [i64max, u8max, u16max, u32max, u64max]; omega) | (simp only [mulSz_eq, Cont.len, colsLen, Col.len, List.length_cons, List.length_nil, List.length_replicate, List.length_append]; first | done | omega) | (simp [mulSz, Cont.len, bne]; first | done | omega)))); conv => whnf)
    | (refine tst_in ?_ ?_; (focus (intro h_; exfalso; first | omega | ((try simp only [decide_eq_true_eq, decide_eq_false_iff_not] at h_); omega) | (simp [mulSz, Cont.len, bne] at h_; first | done | omega))); intro _; conv => whnf)
    | (refine tst_in ?_ ?_; rotate_left; (focus (intro h_; exfalso; first | omega | ((try simp only [decide_eq_true_eq, decide_eq_false_iff_not] at h_); omega) | (simp [mulSz, Cont.len, bne] at h_; first | done | omega))); intro _; conv => whnf)
    | (refine ⟨0, (show _ = _ by omega), ?_⟩; conv => whnf))
  refine ⟨_, [0], TA, ?_⟩
  conv => whnf
  iterate 2
   refine And.intro ?_ ?_
   focus
    conv => whnf
    repeat' (first | exact True.intro | rfl | refine And.intro ?_ ?_)
    all_goals (conv => whnf)
    repeat' (first | exact True.intro | rfl | refine And.intro ?_ ?_)
    all_goals (try (first | rfl | omega | (simp; first | done | omega)))
  conv => whnf
  refine ⟨?_, True.intro⟩
  rintro tl _
  conv => whnf
  change List Int at tl
  conv => whnf
  repeat (first
    | (refine And.intro ?_ ?_; (focus (first | omega | decide | exact EqOk.mk (by kernel_rfl) (by kernel_rfl) (by kernel_rfl) | exact Int.natCast_nonneg _ | ((repeat' refine And.intro ?_ ?_) <;> first | omega | exact Int.natCast_nonneg _ | (simp only [i64max, u8max, u16max, u32max, u64max]; omega) | (simp only [mulSz_eq, Cont.len, colsLen, Col.len, List.length_cons, List.length_nil, List.length_replicate, List.length_append]; first | done | omega) | (simp [mulSz, Cont.len, bne]; first | done | omega)))); conv => whnf)
    | (refine tst_in ?_ ?_; (focus (intro h_; exfalso; first | omega | ((try simp only [decide_eq_true_eq, decide_eq_false_iff_not] at h_); omega) | (simp [mulSz, Cont.len, bne] at h_; first | done | omega))); intro _; conv => whnf)
    | (refine tst_in ?_ ?_; rotate_left; (focus (intro h_; exfalso; first | omega | ((try simp only [decide_eq_true_eq, decide_eq_false_iff_not] at h_); omega) | (simp [mulSz, Cont.len, bne] at h_; first | done | omega))); intro _; conv => whnf)
    | (refine ⟨0, (show _ = _ by omega), ?_⟩; conv => whnf))
  refine tst_in (fun h => ?_) (fun h' => ?_)
  · have h : s < t := by have := dlt_t h; omega
    have hm0 : m = 0 := by omega
    subst hm0
    have e1 : dg a s = s := dg_pol hpF (Nat.le_refl _)
    conv => whnf
    repeat (first
      | (refine And.intro ?_ ?_; (focus (first | omega | decide | exact EqOk.mk (by kernel_rfl) (by kernel_rfl) (by kernel_rfl) | exact Int.natCast_nonneg _ | ((repeat' refine And.intro ?_ ?_) <;> first | omega | exact Int.natCast_nonneg _ | (simp only [i64max, u8max, u16max, u32max, u64max]; omega) | (simp only [mulSz_eq, Cont.len, colsLen, Col.len, List.length_cons, List.length_nil, List.length_replicate, List.length_append]; first | done | omega) | (simp [mulSz, Cont.len, bne]; first | done | omega)))); conv => whnf)
      | (refine tst_in ?_ ?_; (focus (intro h_; exfalso; first | omega | ((try simp only [decide_eq_true_eq, decide_eq_false_iff_not] at h_); omega) | (simp [mulSz, Cont.len, bne] at h_; first | done | omega))); intro _; conv => whnf)
      | (refine tst_in ?_ ?_; rotate_left; (focus (intro h_; exfalso; first | omega | ((try simp only [decide_eq_true_eq, decide_eq_false_iff_not] at h_); omega) | (simp [mulSz, Cont.len, bne] at h_; first | done | omega))); intro _; conv => whnf)
      | (refine ⟨0, (show _ = _ by omega), ?_⟩; conv => whnf))
    refine .inl ⟨⟨zf, a, [], tl⟩, [0, 1, 2, 9], ?_⟩
    conv => whnf
    repeat' (first | exact True.intro | rfl | refine And.intro ?_ ?_)
    all_goals (conv => whnf)
    repeat' (first | exact True.intro | rfl | refine And.intro ?_ ?_)
    all_goals (try omega)
    all_goals first
      | exact e1
      | exact congrArg (fun z => z + tl.length) e1
      | exact congrArg (fun z => tb (gi a) z ++ tl) e1
      | exact mk zf a (zr_zf _) (zr_mono hpF.1 (by omega)) hpF.1 (by rw [ac_zr zf b _ fun _ _ => rfl, zf_pa])
  · have h : t ≤ s := by have := dlt_f h'; omega
    conv => whnf
    repeat (first
      | (refine And.intro ?_ ?_; (focus (first | omega | decide | exact EqOk.mk (by kernel_rfl) (by kernel_rfl) (by kernel_rfl) | exact Int.natCast_nonneg _ | ((repeat' refine And.intro ?_ ?_) <;> first | omega | exact Int.natCast_nonneg _ | (simp only [i64max, u8max, u16max, u32max, u64max]; omega) | (simp only [mulSz_eq, Cont.len, colsLen, Col.len, List.length_cons, List.length_nil, List.length_replicate, List.length_append]; first | done | omega) | (simp [mulSz, Cont.len, bne]; first | done | omega)))); conv => whnf)
      | (refine tst_in ?_ ?_; (focus (intro h_; exfalso; first | omega | ((try simp only [decide_eq_true_eq, decide_eq_false_iff_not] at h_); omega) | (simp [mulSz, Cont.len, bne] at h_; first | done | omega))); intro _; conv => whnf)
      | (refine tst_in ?_ ?_; rotate_left; (focus (intro h_; exfalso; first | omega | ((try simp only [decide_eq_true_eq, decide_eq_false_iff_not] at h_); omega) | (simp [mulSz, Cont.len, bne] at h_; first | done | omega))); intro _; conv => whnf)
      | (refine ⟨0, (show _ = _ by omega), ?_⟩; conv => whnf))
    rw [show ((s : Int) - (t : Int) + 1).toNat = m by omega]
    refine ⟨⟨[0, 1, 2, 3], (⟨zf, a, s, tl⟩ : RQ), ?_, ⟨hpF, Nat.le_refl _, zr_zf m, fun _ _ => rfl, ?_⟩⟩, ?_⟩
    · show stLe _ _ (st63 A B n c t d m zf a s tl) _
      conv => whnf
      repeat' (first | exact True.intro | rfl | refine And.intro ?_ ?_)
      all_goals (conv => whnf)
      repeat' (first | exact True.intro | rfl | refine And.intro ?_ ?_)
      all_goals (try omega)
      exact (tab_ext 0 (List.length_replicate ..) fun k hk => by rw [g_rep, if_pos hk]; rfl).symm
    · show a = pa (ac zf b m) a
      rw [ac_zr zf b m fun _ _ => rfl, zf_pa]
    · intro ⟨Q, R, r, tl⟩ hx
      have hx : ROk a b s t m Q R r := hx
      show forceSt (st63 A B n c t d m Q R r tl) _
      have hle := hx.le
      conv => whnf
      repeat (first
        | (refine And.intro ?_ ?_; (focus (first | omega | decide | exact EqOk.mk (by kernel_rfl) (by kernel_rfl) (by kernel_rfl) | exact Int.natCast_nonneg _ | ((repeat' refine And.intro ?_ ?_) <;> first | omega | exact Int.natCast_nonneg _ | (simp only [i64max, u8max, u16max, u32max, u64max]; omega) | (simp only [mulSz_eq, Cont.len, colsLen, Col.len, List.length_cons, List.length_nil, List.length_replicate, List.length_append]; first | done | omega) | (simp [mulSz, Cont.len, bne]; first | done | omega)))); conv => whnf)
        | (refine tst_in ?_ ?_; (focus (intro h_; exfalso; first | omega | ((try simp only [decide_eq_true_eq, decide_eq_false_iff_not] at h_); omega) | (simp [mulSz, Cont.len, bne] at h_; first | done | omega))); intro _; conv => whnf)
        | (refine tst_in ?_ ?_; rotate_left; (focus (intro h_; exfalso; first | omega | ((try simp only [decide_eq_true_eq, decide_eq_false_iff_not] at h_); omega) | (simp [mulSz, Cont.len, bne] at h_; first | done | omega))); intro _; conv => whnf)
        | (refine ⟨0, (show _ = _ by omega), ?_⟩; conv => whnf))
      refine tst_in (fun u => ?_) (fun u' => ?_)
      · have u : t ≤ r := by have := dle_t u; omega
        obtain ⟨i, rfl⟩ : ∃ i, r = i + t := ⟨r - t, by omega⟩
        have hin := ROk_in hx hb ht (by omega) tl
        have OV := refOver_g (R (i + t - 1)) (b (t - 1))
        rw [show ovG (R (i + t - 1)) (b (t - 1)) = R (i + t - 1) * iv (b (t - 1)) from if_neg (fun q => hb.2 ht (G.ext q)), show ovE (b (t - 1)).v = 0 from if_neg (fun q => hb.2 ht (G.ext q))] at OV
        have hrd : (tb (gi R) (i + t) ++ tl).getD (i + t - 1) 0 = gi R (i + t - 1) := tab_app _ _ _ (by omega)
        conv => whnf
        repeat (first
          | (refine And.intro ?_ ?_; (focus (first | omega | decide | exact EqOk.mk (by kernel_rfl) (by kernel_rfl) (by kernel_rfl) | exact Int.natCast_nonneg _ | ((repeat' refine And.intro ?_ ?_) <;> first | omega | exact Int.natCast_nonneg _ | (simp only [i64max, u8max, u16max, u32max, u64max]; omega) | (simp only [mulSz_eq, Cont.len, colsLen, Col.len, List.length_cons, List.length_nil, List.length_replicate, List.length_append, tab_len]; first | done | omega) | (simp [mulSz, Cont.len, bne, tab_len]; first | done | omega)))); conv => whnf)
          | (refine tst_in ?_ ?_; (focus (intro h_; exfalso; first | omega | ((try simp only [decide_eq_true_eq, decide_eq_false_iff_not] at h_); omega) | (simp [mulSz, Cont.len, bne, tab_len] at h_; first | done | omega))); intro _; conv => whnf)
          | (refine tst_in ?_ ?_; rotate_left; (focus (intro h_; exfalso; first | omega | ((try simp only [decide_eq_true_eq, decide_eq_false_iff_not] at h_); omega) | (simp [mulSz, Cont.len, bne, tab_len] at h_; first | done | omega))); intro _; conv => whnf)
          | (refine ⟨0, (show _ = _ by omega), ?_⟩; conv => whnf))
        rw [show (0 + (((i + t : Nat) : Int) - 1).toNat) = i + t - 1 by omega, hrd, show (0 + ((t : Int) - 1).toNat) = t - 1 by omega, hbt]
        refine ⟨_, [], OV, ?_⟩
        conv => whnf
        iterate 2
         refine And.intro ?_ ?_
         focus
          conv => whnf
          repeat' (first | exact True.intro | rfl | refine And.intro ?_ ?_ | omega)
          all_goals (conv => whnf)
          all_goals (try (first | rfl | omega | (simp; done)))
        conv => whnf
        rw [show ((i + t : Nat) : Int) - (t : Int) = (i : Int) by omega]
        conv => whnf
        repeat (first
          | (refine And.intro ?_ ?_; (focus (first | omega | decide | exact EqOk.mk (by kernel_rfl) (by kernel_rfl) (by kernel_rfl) | exact Int.natCast_nonneg _ | ((repeat' refine And.intro ?_ ?_) <;> first | omega | exact Int.natCast_nonneg _ | (simp only [i64max, u8max, u16max, u32max, u64max]; omega) | (simp only [mulSz_eq, Cont.len, colsLen, Col.len, List.length_cons, List.length_nil, List.length_replicate, List.length_append, tab_len]; first | done | omega) | (simp [mulSz, Cont.len, bne, tab_len]; first | done | omega)))); conv => whnf)
          | (refine tst_in ?_ ?_; (focus (intro h_; exfalso; first | omega | ((try simp only [decide_eq_true_eq, decide_eq_false_iff_not] at h_); omega) | (simp [mulSz, Cont.len, bne, tab_len] at h_; first | done | omega))); intro _; conv => whnf)
          | (refine tst_in ?_ ?_; rotate_left; (focus (intro h_; exfalso; first | omega | ((try simp only [decide_eq_true_eq, decide_eq_false_iff_not] at h_); omega) | (simp [mulSz, Cont.len, bne, tab_len] at h_; first | done | omega))); intro _; conv => whnf)
          | (refine ⟨0, (show _ = _ by omega), ?_⟩; conv => whnf))
        refine ⟨⟨[0, 1, 2, 3], (⟨0, putQ Q i (R (i + t - 1) * iv (b (t - 1))), R, tl⟩ : DQ), ?_, hin, hle⟩, ?_⟩
        · show stLe _ _ (st63b b A B n c t d m i 0 (putQ Q i (R (i + t - 1) * iv (b (t - 1)))) R tl) _
          have e : putQ Q i (R (i + t - 1) * iv (b (t - 1))) i = R (i + t - 1) * iv (b (t - 1)) := if_pos rfl
          unfold st63b
          rw [e]
          conv => whnf
          repeat' (first | exact True.intro | rfl | refine And.intro ?_ ?_)
          all_goals (conv => whnf)
          repeat' (first | exact True.intro | rfl | refine And.intro ?_ ?_)
          all_goals (try omega)
          · show tb (gi (pa R (ps (R (i + t - 1) * iv (b (t - 1))) (sh i (ct b 0))))) (i + t) ++ tl = tb (gi R) (i + t) ++ tl
            rw [show ct b 0 = zf from funext fun i => if_neg (by omega), sh_zf, ps_zf, pa_zf]
          · show tb (gi (putQ Q i (R (i + t - 1) * iv (b (t - 1))))) m = (tb (gi Q) m).set (0 + ((i : Nat) : Int).toNat) (((R (i + t - 1) * iv (b (t - 1)) : G).v : Nat) : Int)
            rw [show (0 + ((i : Nat) : Int).toNat) = i by omega]
            exact (tab_put Q m i _ fun k hk => rfl).symm
        · intro ⟨k, Q2, R2, tl2⟩ ⟨hx2, hle2⟩
          have hx2 : DIn a b s t m i ⟨k, Q2, R2, tl2⟩ := hx2
          have hout := ROk_out (s := s) hx2 hb ht hle
          have hle2 : i + t ≤ s := hle2
          have hk : k ≤ t := hx2.1
          show forceSt (st63b b A B n c t d m i k Q2 R2 tl2) _
          conv => whnf
          repeat (first
            | (refine And.intro ?_ ?_; (focus (first | omega | decide | exact EqOk.mk (by kernel_rfl) (by kernel_rfl) (by kernel_rfl) | exact Int.natCast_nonneg _ | ((repeat' refine And.intro ?_ ?_) <;> first | omega | exact Int.natCast_nonneg _ | (simp only [i64max, u8max, u16max, u32max, u64max]; omega) | (simp only [mulSz_eq, Cont.len, colsLen, Col.len, List.length_cons, List.length_nil, List.length_replicate, List.length_append]; first | done | omega) | (simp [mulSz, Cont.len, bne]; first | done | omega)))); conv => whnf)
            | (refine tst_in ?_ ?_; (focus (intro h_; exfalso; first | omega | ((try simp only [decide_eq_true_eq, decide_eq_false_iff_not] at h_); omega) | (simp [mulSz, Cont.len, bne] at h_; first | done | omega))); intro _; conv => whnf)
            | (refine tst_in ?_ ?_; rotate_left; (focus (intro h_; exfalso; first | omega | ((try simp only [decide_eq_true_eq, decide_eq_false_iff_not] at h_); omega) | (simp [mulSz, Cont.len, bne] at h_; first | done | omega))); intro _; conv => whnf)
            | (refine ⟨0, (show _ = _ by omega), ?_⟩; conv => whnf))
          refine tst_in (fun v => ?_) (fun v' => ?_)
          · have v : k < t := by have := dlt_t v; omega
            have hgj := hg2 k (by omega)
            have TM := refTimes_g (Q2 i) (b k)
            generalize hY : pa R2 (ps (Q2 i) (sh i (ct b k))) = Y
            have ho := gi_in Y (i + k)
            have hm2 := (Q2 i * b k).lt
            have hto : (tb (gi Y) (i + t) ++ tl2).getD (i + k) 0 = gi Y (i + k) := tab_app _ _ _ (by omega)
            conv => whnf
            repeat (first
              | (refine And.intro ?_ ?_; (focus (first | omega | decide | exact EqOk.mk (by kernel_rfl) (by kernel_rfl) (by kernel_rfl) | exact Int.natCast_nonneg _ | ((repeat' refine And.intro ?_ ?_) <;> first | omega | exact Int.natCast_nonneg _ | (simp only [i64max, u8max, u16max, u32max, u64max]; omega) | (simp only [mulSz_eq, Cont.len, colsLen, Col.len, List.length_cons, List.length_nil, List.length_replicate, List.length_append, tab_len]; first | done | omega) | (simp [mulSz, Cont.len, bne, tab_len]; first | done | omega)))); conv => whnf)
              | (refine tst_in ?_ ?_; (focus (intro h_; exfalso; first | omega | ((try simp only [decide_eq_true_eq, decide_eq_false_iff_not] at h_); omega) | (simp [mulSz, Cont.len, bne, tab_len] at h_; first | done | omega))); intro _; conv => whnf)
              | (refine tst_in ?_ ?_; rotate_left; (focus (intro h_; exfalso; first | omega | ((try simp only [decide_eq_true_eq, decide_eq_false_iff_not] at h_); omega) | (simp [mulSz, Cont.len, bne, tab_len] at h_; first | done | omega))); intro _; conv => whnf)
              | (refine ⟨0, (show _ = _ by omega), ?_⟩; conv => whnf))
            rw [show (0 + ((k : Nat) : Int).toNat) = k by omega, hgj]
            refine ⟨_, [], TM, ?_⟩
            conv => whnf
            iterate 2
             refine And.intro ?_ ?_
             focus
              conv => whnf
              repeat' (first | exact True.intro | rfl | refine And.intro ?_ ?_ | omega)
              all_goals (conv => whnf)
              all_goals (try (first | rfl | omega | (simp; done)))
            conv => whnf
            conv => whnf
            repeat (first
              | (refine And.intro ?_ ?_; (focus (first | omega | decide | exact EqOk.mk (by kernel_rfl) (by kernel_rfl) (by kernel_rfl) | exact Int.natCast_nonneg _ | ((repeat' refine And.intro ?_ ?_) <;> first | omega | exact Int.natCast_nonneg _ | (simp only [i64max, u8max, u16max, u32max, u64max]; omega) | (simp only [mulSz_eq, Cont.len, colsLen, Col.len, List.length_cons, List.length_nil, List.length_replicate, List.length_append, tab_len]; first | done | omega) | (simp [mulSz, Cont.len, bne, tab_len]; first | done | omega)))); conv => whnf)
              | (refine tst_in ?_ ?_; (focus (intro h_; exfalso; first | omega | ((try simp only [decide_eq_true_eq, decide_eq_false_iff_not] at h_); omega) | (simp [mulSz, Cont.len, bne, tab_len] at h_; first | done | omega))); intro _; conv => whnf)
              | (refine tst_in ?_ ?_; rotate_left; (focus (intro h_; exfalso; first | omega | ((try simp only [decide_eq_true_eq, decide_eq_false_iff_not] at h_); omega) | (simp [mulSz, Cont.len, bne, tab_len] at h_; first | done | omega))); intro _; conv => whnf)
              | (refine ⟨0, (show _ = _ by omega), ?_⟩; conv => whnf))
            rw [show (0 + ((i : Nat) + (k : Nat) : Int).toNat) = i + k by omega, hto]
            refine ⟨⟨ho.1, by omega, ho.2, by rw [u8max]; omega⟩, ?_⟩
            conv => whnf
            repeat (first
              | (refine And.intro ?_ ?_; (focus (first | omega | decide | exact EqOk.mk (by kernel_rfl) (by kernel_rfl) (by kernel_rfl) | exact Int.natCast_nonneg _ | ((repeat' refine And.intro ?_ ?_) <;> first | omega | exact Int.natCast_nonneg _ | (simp only [i64max, u8max, u16max, u32max, u64max]; omega) | (simp only [mulSz_eq, Cont.len, colsLen, Col.len, List.length_cons, List.length_nil, List.length_replicate, List.length_append, tab_len]; first | done | omega) | (simp [mulSz, Cont.len, bne, tab_len]; first | done | omega)))); conv => whnf)
              | (refine tst_in ?_ ?_; (focus (intro h_; exfalso; first | omega | ((try simp only [decide_eq_true_eq, decide_eq_false_iff_not] at h_); omega) | (simp [mulSz, Cont.len, bne, tab_len] at h_; first | done | omega))); intro _; conv => whnf)
              | (refine tst_in ?_ ?_; rotate_left; (focus (intro h_; exfalso; first | omega | ((try simp only [decide_eq_true_eq, decide_eq_false_iff_not] at h_); omega) | (simp [mulSz, Cont.len, bne, tab_len] at h_; first | done | omega))); intro _; conv => whnf)
              | (refine ⟨0, (show _ = _ by omega), ?_⟩; conv => whnf))
            refine ⟨[0, 1, 2, 3], (⟨k + 1, Q2, R2, tl2⟩ : DQ), ?_, ⟨⟨v, hx2.2⟩, hle2⟩, by show t - (k + 1) < t - k; omega⟩
            show stLe _ _ (st63b b A B n c t d m i (k + 1) Q2 R2 tl2) _
            conv => whnf
            repeat' (first | exact True.intro | rfl | refine And.intro ?_ ?_)
            all_goals (conv => whnf)
            repeat' (first | exact True.intro | rfl | refine And.intro ?_ ?_)
            all_goals (try omega)
            show tb (gi (pa R2 (ps (Q2 i) (sh i (ct b (k + 1)))))) (i + t) ++ tl2 = (tb (gi Y) (i + t) ++ tl2).set (0 + ((i : Nat) + (k : Nat) : Int).toNat) (((Y (i + k) + Q2 i * b k : G).v : Nat) : Int)
            rw [show (0 + ((i : Nat) + (k : Nat) : Int).toNat) = i + k by omega, List.set_append_left _ _ (by rw [tab_len]; omega)]
            congr 1
            refine (tab_put Y (i + t) (i + k) _ fun l hl => ?_).symm
            rw [ct_succ, sh_pa, ps_pa, ← pa_assoc, hY]
            show Y l + Q2 i * sh i (ps (b k) (sh k fun i => if i = 0 then g1 else g0)) l = _
            rw [sh_ps, sh_sh]
            show Y l + Q2 i * (b k * sh (i + k) (fun i => if i = 0 then g1 else g0) l) = _
            by_cases h : l = i + k
            · subst h; rw [if_pos rfl, sh_in _ (Nat.le_refl _), if_pos (by omega), m_one]
            · rw [if_neg h, show sh (i + k) (fun i => if i = 0 then g1 else g0) l = g0 by (unfold sh; split; exact if_neg (by omega); rfl), m_zero, m_zero, a_zero]
          · have v : k = t := by have := dlt_f v'; omega
            subst v
            have eb : ct b k = b := ct_eq hb.1
            unfold st63b
            rw [eb]
            have TR := Trim_f (pa R2 (ps (Q2 i) (sh i b))) (tb (gi (pa R2 (ps (Q2 i) (sh i b)))) (i + k) ++ tl2) (i + k) (i + k + tl2.length) (Rd_tl _ _ _) (by omega) (by omega)
            unfold trOut at TR
            generalize pa R2 (ps (Q2 i) (sh i b)) = R3 at *
            generalize dg R3 (i + k) = r3 at *
            conv => whnf
            repeat (first
              | (refine And.intro ?_ ?_; (focus (first | omega | decide | exact EqOk.mk (by kernel_rfl) (by kernel_rfl) (by kernel_rfl) | exact Int.natCast_nonneg _ | ((repeat' refine And.intro ?_ ?_) <;> first | omega | exact Int.natCast_nonneg _ | (simp only [i64max, u8max, u16max, u32max, u64max]; omega) | (simp only [mulSz_eq, Cont.len, colsLen, Col.len, List.length_cons, List.length_nil, List.length_replicate, List.length_append]; first | done | omega) | (simp [mulSz, Cont.len, bne]; first | done | omega)))); conv => whnf)
              | (refine tst_in ?_ ?_; (focus (intro h_; exfalso; first | omega | ((try simp only [decide_eq_true_eq, decide_eq_false_iff_not] at h_); omega) | (simp [mulSz, Cont.len, bne] at h_; first | done | omega))); intro _; conv => whnf)
              | (refine tst_in ?_ ?_; rotate_left; (focus (intro h_; exfalso; first | omega | ((try simp only [decide_eq_true_eq, decide_eq_false_iff_not] at h_); omega) | (simp [mulSz, Cont.len, bne] at h_; first | done | omega))); intro _; conv => whnf)
              | (refine ⟨0, (show _ = _ by omega), ?_⟩; conv => whnf))
            refine ⟨_, [2], TR, ?_⟩
            conv => whnf
            iterate 2
             refine And.intro ?_ ?_
             focus
              conv => whnf
              repeat' (first | exact True.intro | rfl | refine And.intro ?_ ?_)
              all_goals (conv => whnf)
              repeat' (first | exact True.intro | rfl | refine And.intro ?_ ?_)
              all_goals (try (first | rfl | omega | (simp; first | done | omega)))
            conv => whnf
            refine ⟨?_, True.intro⟩
            rintro tl3 _
            conv => whnf
            change List Int at tl3
            conv => whnf
            repeat (first
              | (refine And.intro ?_ ?_; (focus (first | omega | decide | exact EqOk.mk (by kernel_rfl) (by kernel_rfl) (by kernel_rfl) | exact Int.natCast_nonneg _ | ((repeat' refine And.intro ?_ ?_) <;> first | omega | exact Int.natCast_nonneg _ | (simp only [i64max, u8max, u16max, u32max, u64max]; omega) | (simp only [mulSz_eq, Cont.len, colsLen, Col.len, List.length_cons, List.length_nil, List.length_replicate, List.length_append]; first | done | omega) | (simp [mulSz, Cont.len, bne]; first | done | omega)))); conv => whnf)
              | (refine tst_in ?_ ?_; (focus (intro h_; exfalso; first | omega | ((try simp only [decide_eq_true_eq, decide_eq_false_iff_not] at h_); omega) | (simp [mulSz, Cont.len, bne] at h_; first | done | omega))); intro _; conv => whnf)
              | (refine tst_in ?_ ?_; rotate_left; (focus (intro h_; exfalso; first | omega | ((try simp only [decide_eq_true_eq, decide_eq_false_iff_not] at h_); omega) | (simp [mulSz, Cont.len, bne] at h_; first | done | omega))); intro _; conv => whnf)
              | (refine ⟨0, (show _ = _ by omega), ?_⟩; conv => whnf))
            refine ⟨[0, 1, 4, 3], (⟨Q2, R3, r3, tl3⟩ : RQ), ?_, hout.1, hout.2⟩
            show stLe _ _ (st63 A B n c k d m Q2 R3 r3 tl3) _
            conv => whnf
            repeat' (first | exact True.intro | rfl | refine And.intro ?_ ?_)
            all_goals (conv => whnf)
            repeat' (first | exact True.intro | rfl | refine And.intro ?_ ?_)
            all_goals (try omega)
      · have u : r < t := by have := dle_f u'; omega
        have TQ := Trim_f Q (tb (gi Q) m) m m (Rd_tb _ _) (Nat.le_refl _) (by omega)
        unfold trOut at TQ
        have e1 : dg R s = r := dg_pol hx.pol hle
        conv => whnf
        repeat (first
          | (refine And.intro ?_ ?_; (focus (first | omega | decide | exact EqOk.mk (by kernel_rfl) (by kernel_rfl) (by kernel_rfl) | exact Int.natCast_nonneg _ | ((repeat' refine And.intro ?_ ?_) <;> first | omega | exact Int.natCast_nonneg _ | (simp only [i64max, u8max, u16max, u32max, u64max]; omega) | (simp only [mulSz_eq, Cont.len, colsLen, Col.len, List.length_cons, List.length_nil, List.length_replicate, List.length_append]; first | done | omega) | (simp [mulSz, Cont.len, bne]; first | done | omega)))); conv => whnf)
          | (refine tst_in ?_ ?_; (focus (intro h_; exfalso; first | omega | ((try simp only [decide_eq_true_eq, decide_eq_false_iff_not] at h_); omega) | (simp [mulSz, Cont.len, bne] at h_; first | done | omega))); intro _; conv => whnf)
          | (refine tst_in ?_ ?_; rotate_left; (focus (intro h_; exfalso; first | omega | ((try simp only [decide_eq_true_eq, decide_eq_false_iff_not] at h_); omega) | (simp [mulSz, Cont.len, bne] at h_; first | done | omega))); intro _; conv => whnf)
          | (refine ⟨0, (show _ = _ by omega), ?_⟩; conv => whnf))
        refine ⟨_, [3], TQ, ?_⟩
        conv => whnf
        iterate 2
         refine And.intro ?_ ?_
         focus
          conv => whnf
          repeat' (first | exact True.intro | rfl | refine And.intro ?_ ?_)
          all_goals (conv => whnf)
          repeat' (first | exact True.intro | rfl | refine And.intro ?_ ?_)
          all_goals (try (first | rfl | omega | (simp; first | done | omega)))
        conv => whnf
        refine ⟨?_, True.intro⟩
        rintro tq _
        conv => whnf
        change List Int at tq
        conv => whnf
        repeat (first
          | (refine And.intro ?_ ?_; (focus (first | omega | decide | exact EqOk.mk (by kernel_rfl) (by kernel_rfl) (by kernel_rfl) | exact Int.natCast_nonneg _ | ((repeat' refine And.intro ?_ ?_) <;> first | omega | exact Int.natCast_nonneg _ | (simp only [i64max, u8max, u16max, u32max, u64max]; omega) | (simp only [mulSz_eq, Cont.len, colsLen, Col.len, List.length_cons, List.length_nil, List.length_replicate, List.length_append]; first | done | omega) | (simp [mulSz, Cont.len, bne]; first | done | omega)))); conv => whnf)
          | (refine tst_in ?_ ?_; (focus (intro h_; exfalso; first | omega | ((try simp only [decide_eq_true_eq, decide_eq_false_iff_not] at h_); omega) | (simp [mulSz, Cont.len, bne] at h_; first | done | omega))); intro _; conv => whnf)
          | (refine tst_in ?_ ?_; rotate_left; (focus (intro h_; exfalso; first | omega | ((try simp only [decide_eq_true_eq, decide_eq_false_iff_not] at h_); omega) | (simp [mulSz, Cont.len, bne] at h_; first | done | omega))); intro _; conv => whnf)
          | (refine ⟨0, (show _ = _ by omega), ?_⟩; conv => whnf))
        refine .inl ⟨⟨Q, R, tq, tl⟩, [0, 1, 2, 4], ?_⟩
        conv => whnf
        repeat' (first | exact True.intro | rfl | refine And.intro ?_ ?_)
        all_goals (conv => whnf)
        repeat' (first | exact True.intro | rfl | refine And.intro ?_ ?_)
        all_goals (try omega)
        all_goals first
          | exact e1
          | exact congrArg (fun z => z + tl.length) e1
          | exact congrArg (fun z => tb (gi R) z ++ tl) e1
          | exact mk Q R hx.zq (zr_mono hx.pol.1 (by omega)) (zr_mono hx.pol.1 hle) hx.eq
end Go.Proofs.Yteiblfkegnppeaa

set_option linter.unusedVariables false
set_option linter.unusedSimpArgs false
namespace Go.Proofs.Yteiblfkegnppeaa
open Go Go.Fw
noncomputable def k51 : Code := (Try.f51.body).getD .skip
noncomputable def rdivGOut (F H : Nat → G) (n m : Nat) : FOut := ⟨DR, fun x => dvG n m (dg H m) = true → DivP F H (dg F n) (dg H m) (dg F n + 1 - dg H m) x.Q x.R,
  fun x => .tup [.slice 3 0 (dg x.Q (dvN n m (dg H m) (dg F n + 1 - dg H m))) (dg x.Q (dvN n m (dg H m) (dg F n + 1 - dg H m)) + x.tq.length), .slice 2 0 (dg x.R (dvN n m (dg H m) (dg F n))) (dg x.R (dvN n m (dg H m) (dg F n)) + x.tr.length), .int .i64 (dvE n m (dg H m))],
  fun x => [.dead, .dead, .seg true (.ints .u8 (tb (gi x.R) (dg x.R (dvN n m (dg H m) (dg F n))) ++ x.tr)), .seg true (.ints .u8 (tb (gi x.Q) (dg x.Q (dvN n m (dg H m) (dg F n + 1 - dg H m))) ++ x.tq))]⟩
set_option maxHeartbeats 0 in
set_option maxRecDepth 100000 in
theorem refDivide_g (F H : Nat → G) (A B : List Int) (n c m d : Nat) (hA : Rd A F n) (hB : Rd B H m) (hc : n ≤ c) (hd : m ≤ d) (hn : n ≤ 9223372036854775807) (hm : m ≤ 9223372036854775807) :
    Fits Try.prog 51 ⟨[.slice 0 0 n c, .slice 1 0 m d], [.seg false (.ints .u8 A), .seg false (.ints .u8 B)], [rdivGOut F H n m]⟩ := by
  have TL := may_q n c m d hn hm
  have ht0 := dg_le H m
  have htop := dg_top H m
  unfold rdivGOut
  refine fits_of_body (C := cfgk 2) (c := k51) (ts := [4, 5, 6]) tokL mixedL (fun _ => none) (fun _ => none)
    Try.func51 (by kernel_rfl) (by kernel_rfl) (by kernel_rfl) (by kernel_rfl) rfl ?_
  conv => whnf
  repeat (first
    | (refine And.intro ?_ ?_; (focus (first | omega | decide | exact EqOk.mk (by kernel_rfl) (by kernel_rfl) (by kernel_rfl) | exact Int.natCast_nonneg _ | ((repeat' refine And.intro ?_ ?_) <;> first | omega | exact Int.natCast_nonneg _ | (simp only [i64max, u8max, u16max, u32max, u64max]; omega) | (simp only [mulSz_eq, Cont.len, colsLen, Col.len, List.length_cons, List.length_nil, List.length_replicate, List.length_append]; first | done | omega) | (simp [mulSz, Cont.len, bne]; first | done | omega)))); conv => whnf)
    | (refine tst_in ?_ ?_; (focus (intro h_; exfalso; first | omega | ((try simp only [decide_eq_true_eq, decide_eq_false_iff_not] at h_); omega) | (simp [mulSz, Cont.len, bne] at h_; first | done | omega))); intro _; conv => whnf)
    | (refine tst_in ?_ ?_; rotate_left; (focus (intro h_; exfalso; first | omega | ((try simp only [decide_eq_true_eq, decide_eq_false_iff_not] at h_); omega) | (simp [mulSz, Cont.len, bne] at h_; first | done | omega))); intro _; conv => whnf)
    | (refine ⟨0, (show _ = _ by omega), ?_⟩; conv => whnf))
  refine ⟨_, [0, 1], TL, ?_⟩
  conv => whnf
  iterate 2
   refine And.intro ?_ ?_
   focus
    conv => whnf
    repeat' (first | exact True.intro | rfl | refine And.intro ?_ ?_)
    all_goals (conv => whnf)
    repeat' (first | exact True.intro | rfl | refine And.intro ?_ ?_)
    all_goals (try (first | rfl | omega | (simp; first | done | omega)))
  conv => whnf
  by_cases hb : 512 < n ∨ 512 < m
  · have e : ∀ t, dvG n m t = false := fun t => by unfold dvG; simp; omega
    have e0 : ∀ t N, dvN n m t N = 0 := fun t N => by unfold dvN; rw [e, if_neg (by decide)]
    rw [decide_eq_false (by omega : ¬ ¬ (512 < n ∨ 512 < m)), show dvE n m (dg H m) = 1 from if_pos hb, e0, e0]
    conv => whnf
    repeat (first
      | (refine And.intro ?_ ?_; (focus (first | omega | decide | exact EqOk.mk (by kernel_rfl) (by kernel_rfl) (by kernel_rfl) | exact Int.natCast_nonneg _ | ((repeat' refine And.intro ?_ ?_) <;> first | omega | exact Int.natCast_nonneg _ | (simp only [i64max, u8max, u16max, u32max, u64max]; omega) | (simp only [mulSz_eq, Cont.len, colsLen, Col.len, List.length_cons, List.length_nil, List.length_replicate, List.length_append]; first | done | omega) | (simp [mulSz, Cont.len, bne]; first | done | omega)))); conv => whnf)
      | (refine tst_in ?_ ?_; (focus (intro h_; exfalso; first | omega | ((try simp only [decide_eq_true_eq, decide_eq_false_iff_not] at h_); omega) | (simp [mulSz, Cont.len, bne] at h_; first | done | omega))); intro _; conv => whnf)
      | (refine tst_in ?_ ?_; rotate_left; (focus (intro h_; exfalso; first | omega | ((try simp only [decide_eq_true_eq, decide_eq_false_iff_not] at h_); omega) | (simp [mulSz, Cont.len, bne] at h_; first | done | omega))); intro _; conv => whnf)
      | (refine ⟨0, (show _ = _ by omega), ?_⟩; conv => whnf))
    refine .inl ⟨⟨zf, zf, [], []⟩, [0, 1, 9, 10], ?_⟩
    conv => whnf
    repeat' (first | exact True.intro | rfl | refine And.intro ?_ ?_)
    all_goals (conv => whnf)
    repeat' (first | exact True.intro | rfl | refine And.intro ?_ ?_)
    all_goals (try omega)
    intro h; rw [e] at h; cases h
  · rw [decide_eq_true hb]
    have TB := Trim_f H B m d hB hd (by omega)
    unfold trOut at TB
    have DF := fun tl : List Int => refdivide_f F H A (tb (gi H) (dg H m) ++ tl) n c (dg H m) (dg H m + tl.length) hA (Rd_tl _ _ _) hc (by omega) (by omega) (by omega)
    unfold rdivOut at DF
    generalize dg H m = t at *
    conv => whnf
    repeat (first
      | (refine And.intro ?_ ?_; (focus (first | omega | decide | exact EqOk.mk (by kernel_rfl) (by kernel_rfl) (by kernel_rfl) | exact Int.natCast_nonneg _ | ((repeat' refine And.intro ?_ ?_) <;> first | omega | exact Int.natCast_nonneg _ | (simp only [i64max, u8max, u16max, u32max, u64max]; omega) | (simp only [mulSz_eq, Cont.len, colsLen, Col.len, List.length_cons, List.length_nil, List.length_replicate, List.length_append]; first | done | omega) | (simp [mulSz, Cont.len, bne]; first | done | omega)))); conv => whnf)
      | (refine tst_in ?_ ?_; (focus (intro h_; exfalso; first | omega | ((try simp only [decide_eq_true_eq, decide_eq_false_iff_not] at h_); omega) | (simp [mulSz, Cont.len, bne] at h_; first | done | omega))); intro _; conv => whnf)
      | (refine tst_in ?_ ?_; rotate_left; (focus (intro h_; exfalso; first | omega | ((try simp only [decide_eq_true_eq, decide_eq_false_iff_not] at h_); omega) | (simp [mulSz, Cont.len, bne] at h_; first | done | omega))); intro _; conv => whnf)
      | (refine ⟨0, (show _ = _ by omega), ?_⟩; conv => whnf))
    refine ⟨_, [1], TB, ?_⟩
    conv => whnf
    iterate 2
     refine And.intro ?_ ?_
     focus
      conv => whnf
      repeat' (first | exact True.intro | rfl | refine And.intro ?_ ?_)
      all_goals (conv => whnf)
      repeat' (first | exact True.intro | rfl | refine And.intro ?_ ?_)
      all_goals (try (first | rfl | omega | (simp; first | done | omega)))
    conv => whnf
    refine ⟨?_, True.intro⟩
    rintro tl _
    conv => whnf
    change List Int at tl
    have DF := DF tl
    conv => whnf
    repeat (first
      | (refine And.intro ?_ ?_; (focus (first | omega | decide | exact EqOk.mk (by kernel_rfl) (by kernel_rfl) (by kernel_rfl) | exact Int.natCast_nonneg _ | ((repeat' refine And.intro ?_ ?_) <;> first | omega | exact Int.natCast_nonneg _ | (simp only [i64max, u8max, u16max, u32max, u64max]; omega) | (simp only [mulSz_eq, Cont.len, colsLen, Col.len, List.length_cons, List.length_nil, List.length_replicate, List.length_append]; first | done | omega) | (simp [mulSz, Cont.len, bne]; first | done | omega)))); conv => whnf)
      | (refine tst_in ?_ ?_; (focus (intro h_; exfalso; first | omega | ((try simp only [decide_eq_true_eq, decide_eq_false_iff_not] at h_); omega) | (simp [mulSz, Cont.len, bne] at h_; first | done | omega))); intro _; conv => whnf)
      | (refine tst_in ?_ ?_; rotate_left; (focus (intro h_; exfalso; first | omega | ((try simp only [decide_eq_true_eq, decide_eq_false_iff_not] at h_); omega) | (simp [mulSz, Cont.len, bne] at h_; first | done | omega))); intro _; conv => whnf)
      | (refine ⟨0, (show _ = _ by omega), ?_⟩; conv => whnf))
    refine tst_in (fun h => ?_) (fun h' => ?_)
    · have h : t = 0 := by simp at h; omega
      subst h
      have e : dvG n m 0 = false := by unfold dvG; simp
      have e0 : ∀ N, dvN n m 0 N = 0 := fun N => by unfold dvN; rw [e, if_neg (by decide)]
      rw [show dvE n m 0 = 6 from (if_neg hb).trans (if_pos rfl), e0, e0]
      conv => whnf
      repeat (first
        | (refine And.intro ?_ ?_; (focus (first | omega | decide | exact EqOk.mk (by kernel_rfl) (by kernel_rfl) (by kernel_rfl) | exact Int.natCast_nonneg _ | ((repeat' refine And.intro ?_ ?_) <;> first | omega | exact Int.natCast_nonneg _ | (simp only [i64max, u8max, u16max, u32max, u64max]; omega) | (simp only [mulSz_eq, Cont.len, colsLen, Col.len, List.length_cons, List.length_nil, List.length_replicate, List.length_append]; first | done | omega) | (simp [mulSz, Cont.len, bne]; first | done | omega)))); conv => whnf)
        | (refine tst_in ?_ ?_; (focus (intro h_; exfalso; first | omega | ((try simp only [decide_eq_true_eq, decide_eq_false_iff_not] at h_); omega) | (simp [mulSz, Cont.len, bne] at h_; first | done | omega))); intro _; conv => whnf)
        | (refine tst_in ?_ ?_; rotate_left; (focus (intro h_; exfalso; first | omega | ((try simp only [decide_eq_true_eq, decide_eq_false_iff_not] at h_); omega) | (simp [mulSz, Cont.len, bne] at h_; first | done | omega))); intro _; conv => whnf)
        | (refine ⟨0, (show _ = _ by omega), ?_⟩; conv => whnf))
      refine .inl ⟨⟨zf, zf, [], []⟩, [0, 1, 9, 10], ?_⟩
      conv => whnf
      repeat' (first | exact True.intro | rfl | refine And.intro ?_ ?_)
      all_goals (conv => whnf)
      repeat' (first | exact True.intro | rfl | refine And.intro ?_ ?_)
      all_goals (try omega)
      intro h; rw [e] at h; cases h
    · have h : t ≠ 0 := by simp at h'; omega
      have DF := DF (by omega) (htop (by omega))
      have e : dvG n m t = true := by unfold dvG; simp; omega
      have e0 : ∀ N, dvN n m t N = N := fun N => if_pos e
      rw [show dvE n m t = 0 from (if_neg hb).trans (if_neg h), e0, e0]
      conv => whnf
      repeat (first
        | (refine And.intro ?_ ?_; (focus (first | omega | decide | exact EqOk.mk (by kernel_rfl) (by kernel_rfl) (by kernel_rfl) | exact Int.natCast_nonneg _ | ((repeat' refine And.intro ?_ ?_) <;> first | omega | exact Int.natCast_nonneg _ | (simp only [i64max, u8max, u16max, u32max, u64max]; omega) | (simp only [mulSz_eq, Cont.len, colsLen, Col.len, List.length_cons, List.length_nil, List.length_replicate, List.length_append]; first | done | omega) | (simp [mulSz, Cont.len, bne]; first | done | omega)))); conv => whnf)
        | (refine tst_in ?_ ?_; (focus (intro h_; exfalso; first | omega | ((try simp only [decide_eq_true_eq, decide_eq_false_iff_not] at h_); omega) | (simp [mulSz, Cont.len, bne] at h_; first | done | omega))); intro _; conv => whnf)
        | (refine tst_in ?_ ?_; rotate_left; (focus (intro h_; exfalso; first | omega | ((try simp only [decide_eq_true_eq, decide_eq_false_iff_not] at h_); omega) | (simp [mulSz, Cont.len, bne] at h_; first | done | omega))); intro _; conv => whnf)
        | (refine ⟨0, (show _ = _ by omega), ?_⟩; conv => whnf))
      refine ⟨_, [0, 2], DF, ?_⟩
      conv => whnf
      iterate 2
       refine And.intro ?_ ?_
       focus
        conv => whnf
        repeat' (first | exact True.intro | rfl | refine And.intro ?_ ?_)
        all_goals (conv => whnf)
        repeat' (first | exact True.intro | rfl | refine And.intro ?_ ?_)
        all_goals (try (first | rfl | omega | (simp; first | done | omega)))
      conv => whnf
      refine ⟨?_, True.intro⟩
      rintro (x hx)
      conv => whnf
      conv => whnf
      repeat (first
        | (refine And.intro ?_ ?_; (focus (first | omega | decide | exact EqOk.mk (by kernel_rfl) (by kernel_rfl) (by kernel_rfl) | exact Int.natCast_nonneg _ | ((repeat' refine And.intro ?_ ?_) <;> first | omega | exact Int.natCast_nonneg _ | (simp only [i64max, u8max, u16max, u32max, u64max]; omega) | (simp only [mulSz_eq, Cont.len, colsLen, Col.len, List.length_cons, List.length_nil, List.length_replicate, List.length_append]; first | done | omega) | (simp [mulSz, Cont.len, bne]; first | done | omega)))); conv => whnf)
        | (refine tst_in ?_ ?_; (focus (intro h_; exfalso; first | omega | ((try simp only [decide_eq_true_eq, decide_eq_false_iff_not] at h_); omega) | (simp [mulSz, Cont.len, bne] at h_; first | done | omega))); intro _; conv => whnf)
        | (refine tst_in ?_ ?_; rotate_left; (focus (intro h_; exfalso; first | omega | ((try simp only [decide_eq_true_eq, decide_eq_false_iff_not] at h_); omega) | (simp [mulSz, Cont.len, bne] at h_; first | done | omega))); intro _; conv => whnf)
        | (refine ⟨0, (show _ = _ by omega), ?_⟩; conv => whnf))
      refine .inl ⟨x, [0, 1, 3, 4], ?_⟩
      conv => whnf
      repeat' (first | exact True.intro | rfl | refine And.intro ?_ ?_)
      all_goals (conv => whnf)
      repeat' (first | exact True.intro | rfl | refine And.intro ?_ ?_)
      all_goals (try omega)
      exact fun _ => hx
end Go.Proofs.Yteiblfkegnppeaa

set_option linter.unusedVariables false
set_option linter.unusedSimpArgs false
namespace Go.Proofs.Yteiblfkegnppeaa
open Go Go.Fw
noncomputable def gcdGOut (p q : Nat → G) (n m : Nat) : FOut := ⟨GR, fun x => (512 < n ∨ 512 < m) ∨ GcdOk p q x.A x.l, fun x => .tup [.slice 2 0 (okN n m x.l) (okN n m x.l + x.tl.length), .int .i64 (okE n m)], fun x => [.dead, .dead, .seg true (.ints .u8 (tb (gi x.A) (okN n m x.l) ++ x.tl))]⟩
set_option maxHeartbeats 0 in
set_option maxRecDepth 100000 in
theorem Gcd_g (F H : Nat → G) (A B : List Int) (n c m d : Nat) (hA : Rd A F n) (hB : Rd B H m) (hc : n ≤ c) (hd : m ≤ d) (hn : n ≤ 9223372036854775807) (hm : m ≤ 9223372036854775807) :
    Fits Try.prog 28 ⟨[.slice 0 0 n c, .slice 1 0 m d], [.seg false (.ints .u8 A), .seg false (.ints .u8 B)], [gcdGOut (ct F n) (ct H m) n m]⟩ := by
  by_cases hb : 512 < n ∨ 512 < m
  · have TL := tooLong2 n c m d hn hm
    rw [decide_eq_true hb] at TL
    unfold gcdGOut
    simp only [okN, okE, hb, if_true, true_or]
    refine fits_of_body (C := cfgk 2) (c := k28) (ts := [4, 5]) tokL mixedL (fun _ => none) (fun _ => none)
      Try.func28 (by kernel_rfl) (by kernel_rfl) (by kernel_rfl) (by kernel_rfl) rfl ?_
    conv => whnf
    repeat (first
      | (refine And.intro ?_ ?_; (focus (first | omega | decide | exact EqOk.mk (by kernel_rfl) (by kernel_rfl) (by kernel_rfl) | exact Int.natCast_nonneg _ | ((repeat' refine And.intro ?_ ?_) <;> first | omega | exact Int.natCast_nonneg _ | (simp only [i64max, u8max, u16max, u32max, u64max]; omega) | (simp only [mulSz_eq, Cont.len, colsLen, Col.len, List.length_cons, List.length_nil, List.length_replicate, List.length_append]; first | done | omega) | (simp [mulSz, Cont.len, bne]; first | done | omega)))); conv => whnf)
      | (refine tst_in ?_ ?_; (focus (intro h_; exfalso; first | omega | ((try simp only [decide_eq_true_eq, decide_eq_false_iff_not] at h_); omega) | (simp [mulSz, Cont.len, bne] at h_; first | done | omega))); intro _; conv => whnf)
      | (refine tst_in ?_ ?_; rotate_left; (focus (intro h_; exfalso; first | omega | ((try simp only [decide_eq_true_eq, decide_eq_false_iff_not] at h_); omega) | (simp [mulSz, Cont.len, bne] at h_; first | done | omega))); intro _; conv => whnf)
      | (refine ⟨0, (show _ = _ by omega), ?_⟩; conv => whnf))
    refine ⟨_, [2, 0, 1], TL, ?_⟩
    conv => whnf
    iterate 2
     refine And.intro ?_ ?_
     focus
      conv => whnf
      repeat' (first | exact True.intro | rfl | refine And.intro ?_ ?_)
      all_goals (conv => whnf)
      repeat' (first | exact True.intro | rfl | refine And.intro ?_ ?_)
      all_goals (try (first | rfl | omega | (simp; first | done | omega)))
    conv => whnf
    conv => whnf
    repeat (first
      | (refine And.intro ?_ ?_; (focus (first | omega | decide | exact EqOk.mk (by kernel_rfl) (by kernel_rfl) (by kernel_rfl) | exact Int.natCast_nonneg _ | ((repeat' refine And.intro ?_ ?_) <;> first | omega | exact Int.natCast_nonneg _ | (simp only [i64max, u8max, u16max, u32max, u64max]; omega) | (simp only [mulSz_eq, Cont.len, colsLen, Col.len, List.length_cons, List.length_nil, List.length_replicate, List.length_append]; first | done | omega) | (simp [mulSz, Cont.len, bne]; first | done | omega)))); conv => whnf)
      | (refine tst_in ?_ ?_; (focus (intro h_; exfalso; first | omega | ((try simp only [decide_eq_true_eq, decide_eq_false_iff_not] at h_); omega) | (simp [mulSz, Cont.len, bne] at h_; first | done | omega))); intro _; conv => whnf)
      | (refine tst_in ?_ ?_; rotate_left; (focus (intro h_; exfalso; first | omega | ((try simp only [decide_eq_true_eq, decide_eq_false_iff_not] at h_); omega) | (simp [mulSz, Cont.len, bne] at h_; first | done | omega))); intro _; conv => whnf)
      | (refine ⟨0, (show _ = _ by omega), ?_⟩; conv => whnf))
    refine .inl ⟨⟨zf, 0, []⟩, [0, 1, 9], ?_⟩
    conv => whnf
    repeat' (first | exact True.intro | rfl | refine And.intro ?_ ?_)
    all_goals (conv => whnf)
    repeat' (first | exact True.intro | rfl | refine And.intro ?_ ?_)
    all_goals (try omega)
  · have h := Gcd_y F H A B n c m d hA hB hc hd (by omega) (by omega)
    unfold gcdOut at h
    unfold gcdGOut
    simp only [okN, okE, hb, if_false, false_or]
    exact h
noncomputable def k52 : Code := (Try.f52.body).getD .skip
/-- The first i terms are divided. -/
noncomputable def dvd1 (c : G) (P : Nat → G) (i k : Nat) : G := if k < i then P k * c else P k
noncomputable def st52b (P : Nat → G) (l : Nat) (e : G) (i : Nat) (tl : List Int) : St := ⟨slotsAt 59 [(6, .slice 2 0 l (l + tl.length)), (10, .int .u8 (e.v : Nat)), (11, .int .i64 i)],
  [.dead, .dead, .seg true (.ints .u8 (tb (gi (dvd1 (iv e) P i)) l ++ tl))]⟩
noncomputable def st52 (A B : List Int) (P Q : Nat → G) (la lb : Nat) (ta tc : List Int) : St := ⟨slotsAt 59 [(6, .slice 2 0 la (la + ta.length)), (7, .slice 3 0 lb (lb + tc.length))],
  [.seg false (.ints .u8 A), .seg false (.ints .u8 B), .seg true (.ints .u8 (tb (gi P) la ++ ta)), .seg true (.ints .u8 (tb (gi Q) lb ++ tc))]⟩
structure G52 where
  P : Nat → G
  l : Nat
  e : G
  i : Nat
  tl : List Int
set_option maxHeartbeats 0 in
set_option maxRecDepth 100000 in
theorem refGcd_g (F H : Nat → G) (A B : List Int) (n c m d : Nat) (hA : Rd A F n) (hB : Rd B H m) (hc : n ≤ c) (hd : m ≤ d) (hn : n ≤ 9223372036854775807) (hm : m ≤ 9223372036854775807) :
    Fits Try.prog 52 ⟨[.slice 0 0 n c, .slice 1 0 m d], [.seg false (.ints .u8 A), .seg false (.ints .u8 B)], [gcdGOut (ct F n) (ct H m) n m]⟩ := by
  have TL := may_q n c m d hn hm
  unfold gcdGOut
  refine fits_of_body (C := cfgk 2) (c := k52) (ts := [4, 5]) tokL mixedL (fun | 5 => some ⟨GQ, fun x => st52 A B x.A x.B x.la x.lb x.ta x.tb, GOk (ct F n) (ct H m), fun x => x.lb⟩ | 12 => some ⟨G52, fun x => st52b x.P x.l x.e x.i x.tl, fun x => x.i ≤ x.l ∧ x.l ≤ 512 ∧ 0 < x.l ∧ Pol x.P x.l ∧ x.P (x.l - 1) = x.e ∧ GcdOk (ct F n) (ct H m) (ps (iv x.e) x.P) x.l, fun x => x.l - x.i⟩ | _ => none) (fun _ => none)
    Try.func52 (by kernel_rfl) (by kernel_rfl) (by kernel_rfl) (by kernel_rfl) rfl ?_
  conv => whnf
  repeat (first
    | (refine And.intro ?_ ?_; (focus (first | omega | decide | exact EqOk.mk (by kernel_rfl) (by kernel_rfl) (by kernel_rfl) | exact Int.natCast_nonneg _ | ((repeat' refine And.intro ?_ ?_) <;> first | omega | exact Int.natCast_nonneg _ | (simp only [i64max, u8max, u16max, u32max, u64max]; omega) | (simp only [mulSz_eq, Cont.len, colsLen, Col.len, List.length_cons, List.length_nil, List.length_replicate, List.length_append]; first | done | omega) | (simp [mulSz, Cont.len, bne]; first | done | omega)))); conv => whnf)
    | (refine tst_in ?_ ?_; (focus (intro h_; exfalso; first | omega | ((try simp only [decide_eq_true_eq, decide_eq_false_iff_not] at h_); omega) | (simp [mulSz, Cont.len, bne] at h_; first | done | omega))); intro _; conv => whnf)
    | (refine tst_in ?_ ?_; rotate_left; (focus (intro h_; exfalso; first | omega | ((try simp only [decide_eq_true_eq, decide_eq_false_iff_not] at h_); omega) | (simp [mulSz, Cont.len, bne] at h_; first | done | omega))); intro _; conv => whnf)
    | (refine ⟨0, (show _ = _ by omega), ?_⟩; conv => whnf))
  refine ⟨_, [0, 1], TL, ?_⟩
  conv => whnf
  iterate 2
   refine And.intro ?_ ?_
   focus
    conv => whnf
    repeat' (first | exact True.intro | rfl | refine And.intro ?_ ?_)
    all_goals (conv => whnf)
    repeat' (first | exact True.intro | rfl | refine And.intro ?_ ?_)
    all_goals (try (first | rfl | omega | (simp; first | done | omega)))
  conv => whnf
  by_cases hb : 512 < n ∨ 512 < m
  · rw [decide_eq_false (by omega : ¬ ¬ (512 < n ∨ 512 < m))]
    simp only [okN, okE, hb, if_true, true_or]
    conv => whnf
    repeat (first
      | (refine And.intro ?_ ?_; (focus (first | omega | decide | exact EqOk.mk (by kernel_rfl) (by kernel_rfl) (by kernel_rfl) | exact Int.natCast_nonneg _ | ((repeat' refine And.intro ?_ ?_) <;> first | omega | exact Int.natCast_nonneg _ | (simp only [i64max, u8max, u16max, u32max, u64max]; omega) | (simp only [mulSz_eq, Cont.len, colsLen, Col.len, List.length_cons, List.length_nil, List.length_replicate, List.length_append]; first | done | omega) | (simp [mulSz, Cont.len, bne]; first | done | omega)))); conv => whnf)
      | (refine tst_in ?_ ?_; (focus (intro h_; exfalso; first | omega | ((try simp only [decide_eq_true_eq, decide_eq_false_iff_not] at h_); omega) | (simp [mulSz, Cont.len, bne] at h_; first | done | omega))); intro _; conv => whnf)
      | (refine tst_in ?_ ?_; rotate_left; (focus (intro h_; exfalso; first | omega | ((try simp only [decide_eq_true_eq, decide_eq_false_iff_not] at h_); omega) | (simp [mulSz, Cont.len, bne] at h_; first | done | omega))); intro _; conv => whnf)
      | (refine ⟨0, (show _ = _ by omega), ?_⟩; conv => whnf))
    refine .inl ⟨⟨zf, 0, []⟩, [0, 1, 9], ?_⟩
    conv => whnf
    repeat' (first | exact True.intro | rfl | refine And.intro ?_ ?_)
    all_goals (conv => whnf)
    repeat' (first | exact True.intro | rfl | refine And.intro ?_ ?_)
    all_goals (try omega)
  · rw [decide_eq_true hb]
    simp only [okN, okE, hb, if_false, false_or]
    have TA := Trim_f F A n c hA hc (by omega)
    have TB := Trim_f H B m d hB hd (by omega)
    have hpA := pol_dg F n
    have hpB := pol_dg H m
    have hA0 := dg_le F n
    have hB0 := dg_le H m
    unfold trOut at TA TB
    rw [show tb (gi F) (dg F n) = tb (gi (ct F n)) (dg F n) from tb_congr fun k hk => (ct_lt F (by omega)).symm] at TA
    rw [show tb (gi H) (dg H m) = tb (gi (ct H m)) (dg H m) from tb_congr fun k hk => (ct_lt H (by omega)).symm] at TB
    generalize ct F n = p at *
    generalize ct H m = q at *
    generalize dg F n = s at *
    generalize dg H m = t at *
    conv => whnf
    repeat (first
      | (refine And.intro ?_ ?_; (focus (first | omega | decide | exact EqOk.mk (by kernel_rfl) (by kernel_rfl) (by kernel_rfl) | exact Int.natCast_nonneg _ | ((repeat' refine And.intro ?_ ?_) <;> first | omega | exact Int.natCast_nonneg _ | (simp only [i64max, u8max, u16max, u32max, u64max]; omega) | (simp only [mulSz_eq, Cont.len, colsLen, Col.len, List.length_cons, List.length_nil, List.length_replicate, List.length_append]; first | done | omega) | (simp [mulSz, Cont.len, bne]; first | done | omega)))); conv => whnf)
      | (refine tst_in ?_ ?_; (focus (intro h_; exfalso; first | omega | ((try simp only [decide_eq_true_eq, decide_eq_false_iff_not] at h_); omega) | (simp [mulSz, Cont.len, bne] at h_; first | done | omega))); intro _; conv => whnf)
      | (refine tst_in ?_ ?_; rotate_left; (focus (intro h_; exfalso; first | omega | ((try simp only [decide_eq_true_eq, decide_eq_false_iff_not] at h_); omega) | (simp [mulSz, Cont.len, bne] at h_; first | done | omega))); intro _; conv => whnf)
      | (refine ⟨0, (show _ = _ by omega), ?_⟩; conv => whnf))
    refine ⟨_, [0], TA, ?_⟩
    conv => whnf
    iterate 2
     refine And.intro ?_ ?_
     focus
      conv => whnf
      repeat' (first | exact True.intro | rfl | refine And.intro ?_ ?_)
      all_goals (conv => whnf)
      repeat' (first | exact True.intro | rfl | refine And.intro ?_ ?_)
      all_goals (try (first | rfl | omega | (simp; first | done | omega)))
    conv => whnf
    refine ⟨?_, True.intro⟩
    rintro ta _
    conv => whnf
    change List Int at ta
    conv => whnf
    repeat (first
      | (refine And.intro ?_ ?_; (focus (first | omega | decide | exact EqOk.mk (by kernel_rfl) (by kernel_rfl) (by kernel_rfl) | exact Int.natCast_nonneg _ | ((repeat' refine And.intro ?_ ?_) <;> first | omega | exact Int.natCast_nonneg _ | (simp only [i64max, u8max, u16max, u32max, u64max]; omega) | (simp only [mulSz_eq, Cont.len, colsLen, Col.len, List.length_cons, List.length_nil, List.length_replicate, List.length_append]; first | done | omega) | (simp [mulSz, Cont.len, bne]; first | done | omega)))); conv => whnf)
      | (refine tst_in ?_ ?_; (focus (intro h_; exfalso; first | omega | ((try simp only [decide_eq_true_eq, decide_eq_false_iff_not] at h_); omega) | (simp [mulSz, Cont.len, bne] at h_; first | done | omega))); intro _; conv => whnf)
      | (refine tst_in ?_ ?_; rotate_left; (focus (intro h_; exfalso; first | omega | ((try simp only [decide_eq_true_eq, decide_eq_false_iff_not] at h_); omega) | (simp [mulSz, Cont.len, bne] at h_; first | done | omega))); intro _; conv => whnf)
      | (refine ⟨0, (show _ = _ by omega), ?_⟩; conv => whnf))
    refine ⟨_, [1], TB, ?_⟩
    conv => whnf
    iterate 2
     refine And.intro ?_ ?_
     focus
      conv => whnf
      repeat' (first | exact True.intro | rfl | refine And.intro ?_ ?_)
      all_goals (conv => whnf)
      repeat' (first | exact True.intro | rfl | refine And.intro ?_ ?_)
      all_goals (try (first | rfl | omega | (simp; first | done | omega)))
    conv => whnf
    refine ⟨?_, True.intro⟩
    rintro tc _
    conv => whnf
    change List Int at tc
    conv => whnf
    repeat (first
      | (refine And.intro ?_ ?_; (focus (first | omega | decide | exact EqOk.mk (by kernel_rfl) (by kernel_rfl) (by kernel_rfl) | exact Int.natCast_nonneg _ | ((repeat' refine And.intro ?_ ?_) <;> first | omega | exact Int.natCast_nonneg _ | (simp only [i64max, u8max, u16max, u32max, u64max]; omega) | (simp only [mulSz_eq, Cont.len, colsLen, Col.len, List.length_cons, List.length_nil, List.length_replicate, List.length_append]; first | done | omega) | (simp [mulSz, Cont.len, bne]; first | done | omega)))); conv => whnf)
      | (refine tst_in ?_ ?_; (focus (intro h_; exfalso; first | omega | ((try simp only [decide_eq_true_eq, decide_eq_false_iff_not] at h_); omega) | (simp [mulSz, Cont.len, bne] at h_; first | done | omega))); intro _; conv => whnf)
      | (refine tst_in ?_ ?_; rotate_left; (focus (intro h_; exfalso; first | omega | ((try simp only [decide_eq_true_eq, decide_eq_false_iff_not] at h_); omega) | (simp [mulSz, Cont.len, bne] at h_; first | done | omega))); intro _; conv => whnf)
      | (refine ⟨0, (show _ = _ by omega), ?_⟩; conv => whnf))
    refine ⟨⟨[0, 1, 2, 3], (⟨p, q, s, t, ta, tc⟩ : GQ), ?_, ⟨hpA, hpB, by show s ≤ 512; omega, by show t ≤ 512; omega, fun _ => Iff.rfl⟩⟩, ?_⟩
    · show stLe _ _ (st52 A B p q s t ta tc) _
      conv => whnf
      repeat' (first | exact True.intro | rfl | refine And.intro ?_ ?_)
      all_goals (conv => whnf)
      repeat' (first | exact True.intro | rfl | refine And.intro ?_ ?_)
      all_goals (try omega)
    · intro ⟨P, Q, la, lb, t1, t2⟩ hx
      obtain ⟨hP, hQ, hla, hlb, hS⟩ := hx
      have hP : Pol P la := hP
      have hQ : Pol Q lb := hQ
      have hla : la ≤ 512 := hla
      have hlb : lb ≤ 512 := hlb
      have hS : Same2 p q P Q := hS
      show forceSt (st52 A B P Q la lb t1 t2) _
      conv => whnf
      repeat (first
        | (refine And.intro ?_ ?_; (focus (first | omega | decide | exact EqOk.mk (by kernel_rfl) (by kernel_rfl) (by kernel_rfl) | exact Int.natCast_nonneg _ | ((repeat' refine And.intro ?_ ?_) <;> first | omega | exact Int.natCast_nonneg _ | (simp only [i64max, u8max, u16max, u32max, u64max]; omega) | (simp only [mulSz_eq, Cont.len, colsLen, Col.len, List.length_cons, List.length_nil, List.length_replicate, List.length_append]; first | done | omega) | (simp [mulSz, Cont.len, bne]; first | done | omega)))); conv => whnf)
        | (refine tst_in ?_ ?_; (focus (intro h_; exfalso; first | omega | ((try simp only [decide_eq_true_eq, decide_eq_false_iff_not] at h_); omega) | (simp [mulSz, Cont.len, bne] at h_; first | done | omega))); intro _; conv => whnf)
        | (refine tst_in ?_ ?_; rotate_left; (focus (intro h_; exfalso; first | omega | ((try simp only [decide_eq_true_eq, decide_eq_false_iff_not] at h_); omega) | (simp [mulSz, Cont.len, bne] at h_; first | done | omega))); intro _; conv => whnf)
        | (refine ⟨0, (show _ = _ by omega), ?_⟩; conv => whnf))
      refine tst_in (fun h => ?_) (fun h' => ?_)
      · have h : 0 < lb := by have := dlt_t h; omega
        have DF := refdivide_f P Q (tb (gi P) la ++ t1) (tb (gi Q) lb ++ t2) la (la + t1.length) lb (lb + t2.length) (Rd_tl _ _ _) (Rd_tl _ _ _) (by omega) (by omega) (by omega) (by omega) h (hQ.2 h)
        have e0 : dg P la = la := dg_pol hP (Nat.le_refl _)
        unfold rdivOut at DF
        rw [e0] at DF
        conv => whnf
        repeat (first
          | (refine And.intro ?_ ?_; (focus (first | omega | decide | exact EqOk.mk (by kernel_rfl) (by kernel_rfl) (by kernel_rfl) | exact Int.natCast_nonneg _ | ((repeat' refine And.intro ?_ ?_) <;> first | omega | exact Int.natCast_nonneg _ | (simp only [i64max, u8max, u16max, u32max, u64max]; omega) | (simp only [mulSz_eq, Cont.len, colsLen, Col.len, List.length_cons, List.length_nil, List.length_replicate, List.length_append]; first | done | omega) | (simp [mulSz, Cont.len, bne]; first | done | omega)))); conv => whnf)
          | (refine tst_in ?_ ?_; (focus (intro h_; exfalso; first | omega | ((try simp only [decide_eq_true_eq, decide_eq_false_iff_not] at h_); omega) | (simp [mulSz, Cont.len, bne] at h_; first | done | omega))); intro _; conv => whnf)
          | (refine tst_in ?_ ?_; rotate_left; (focus (intro h_; exfalso; first | omega | ((try simp only [decide_eq_true_eq, decide_eq_false_iff_not] at h_); omega) | (simp [mulSz, Cont.len, bne] at h_; first | done | omega))); intro _; conv => whnf)
          | (refine ⟨0, (show _ = _ by omega), ?_⟩; conv => whnf))
        refine ⟨_, [2, 3], DF, ?_⟩
        conv => whnf
        iterate 2
         refine And.intro ?_ ?_
         focus
          conv => whnf
          repeat' (first | exact True.intro | rfl | refine And.intro ?_ ?_)
          all_goals (conv => whnf)
          repeat' (first | exact True.intro | rfl | refine And.intro ?_ ?_)
          all_goals (try (first | rfl | omega | (simp; first | done | omega)))
        conv => whnf
        refine ⟨?_, True.intro⟩
        rintro (x hx)
        conv => whnf
        obtain ⟨Q2, R2, tq, tr⟩ := x
        have hx : DivP P Q la lb (la + 1 - lb) Q2 R2 := hx
        obtain ⟨g1, g2, g3, g4⟩ := hx
        rw [ct_eq hP.1, ct_eq hQ.1] at g4
        have hR := pol_dg R2 la
        rw [ct_eq g3] at hR
        have hd1 := dg_le R2 la
        have hd2 : dg R2 la ≤ lb - 1 := by
          have := pol_dg R2 (lb - 1)
          rw [ct_eq g2] at this
          have h3 := pol_uniq hR this
          have := dg_le R2 (lb - 1)
          omega
        generalize hr : dg R2 la = r at *
        conv => whnf
        repeat (first
          | (refine And.intro ?_ ?_; (focus (first | omega | decide | exact EqOk.mk (by kernel_rfl) (by kernel_rfl) (by kernel_rfl) | exact Int.natCast_nonneg _ | ((repeat' refine And.intro ?_ ?_) <;> first | omega | exact Int.natCast_nonneg _ | (simp only [i64max, u8max, u16max, u32max, u64max]; omega) | (simp only [mulSz_eq, Cont.len, colsLen, Col.len, List.length_cons, List.length_nil, List.length_replicate, List.length_append]; first | done | omega) | (simp [mulSz, Cont.len, bne]; first | done | omega)))); conv => whnf)
          | (refine tst_in ?_ ?_; (focus (intro h_; exfalso; first | omega | ((try simp only [decide_eq_true_eq, decide_eq_false_iff_not] at h_); omega) | (simp [mulSz, Cont.len, bne] at h_; first | done | omega))); intro _; conv => whnf)
          | (refine tst_in ?_ ?_; rotate_left; (focus (intro h_; exfalso; first | omega | ((try simp only [decide_eq_true_eq, decide_eq_false_iff_not] at h_); omega) | (simp [mulSz, Cont.len, bne] at h_; first | done | omega))); intro _; conv => whnf)
          | (refine ⟨0, (show _ = _ by omega), ?_⟩; conv => whnf))
        refine ⟨[0, 1, 3, 4], (⟨Q, R2, lb, r, t2, tr⟩ : GQ), ?_, ⟨hQ, hR, hlb, by show r ≤ 512; omega, fun d => (Dv_rest g1 g4).symm.trans (hS d)⟩, by show r < lb; omega⟩
        show stLe _ _ (st52 A B Q R2 lb r t2 tr) _
        conv => whnf
        repeat' (first | exact True.intro | rfl | refine And.intro ?_ ?_)
        all_goals (conv => whnf)
        repeat' (first | exact True.intro | rfl | refine And.intro ?_ ?_)
        all_goals (try omega)
      · have h : lb = 0 := by have := dlt_f h'; omega
        subst h
        have hQ0 := zr_all hQ.1
        subst hQ0
        have hd1 := (hS P).1 ⟨Dv_refl P, Dv_zf P⟩
        have hd2 : ∀ d, Dv d p → Dv d q → Dv d P := fun d h1 h2 => ((hS d).2 ⟨h1, h2⟩).1
        conv => whnf
        repeat (first
          | (refine And.intro ?_ ?_; (focus (first | omega | decide | exact EqOk.mk (by kernel_rfl) (by kernel_rfl) (by kernel_rfl) | exact Int.natCast_nonneg _ | ((repeat' refine And.intro ?_ ?_) <;> first | omega | exact Int.natCast_nonneg _ | (simp only [i64max, u8max, u16max, u32max, u64max]; omega) | (simp only [mulSz_eq, Cont.len, colsLen, Col.len, List.length_cons, List.length_nil, List.length_replicate, List.length_append]; first | done | omega) | (simp [mulSz, Cont.len, bne]; first | done | omega)))); conv => whnf)
          | (refine tst_in ?_ ?_; (focus (intro h_; exfalso; first | omega | ((try simp only [decide_eq_true_eq, decide_eq_false_iff_not] at h_); omega) | (simp [mulSz, Cont.len, bne] at h_; first | done | omega))); intro _; conv => whnf)
          | (refine tst_in ?_ ?_; rotate_left; (focus (intro h_; exfalso; first | omega | ((try simp only [decide_eq_true_eq, decide_eq_false_iff_not] at h_); omega) | (simp [mulSz, Cont.len, bne] at h_; first | done | omega))); intro _; conv => whnf)
          | (refine ⟨0, (show _ = _ by omega), ?_⟩; conv => whnf))
        refine tst_in (fun u => ?_) (fun u' => ?_)
        · have u : 0 < la := by have := dlt_t u; omega
          have hrd : (tb (gi P) la ++ t1).getD (la - 1) 0 = gi P (la - 1) := tab_app _ _ _ (by omega)
          conv => whnf
          repeat (first
            | (refine And.intro ?_ ?_; (focus (first | omega | decide | exact EqOk.mk (by kernel_rfl) (by kernel_rfl) (by kernel_rfl) | exact Int.natCast_nonneg _ | ((repeat' refine And.intro ?_ ?_) <;> first | omega | exact Int.natCast_nonneg _ | (simp only [i64max, u8max, u16max, u32max, u64max]; omega) | (simp only [mulSz_eq, Cont.len, colsLen, Col.len, List.length_cons, List.length_nil, List.length_replicate, List.length_append, tab_len]; first | done | omega) | (simp [mulSz, Cont.len, bne, tab_len]; first | done | omega)))); conv => whnf)
            | (refine tst_in ?_ ?_; (focus (intro h_; exfalso; first | omega | ((try simp only [decide_eq_true_eq, decide_eq_false_iff_not] at h_); omega) | (simp [mulSz, Cont.len, bne, tab_len] at h_; first | done | omega))); intro _; conv => whnf)
            | (refine tst_in ?_ ?_; rotate_left; (focus (intro h_; exfalso; first | omega | ((try simp only [decide_eq_true_eq, decide_eq_false_iff_not] at h_); omega) | (simp [mulSz, Cont.len, bne, tab_len] at h_; first | done | omega))); intro _; conv => whnf)
            | (refine ⟨0, (show _ = _ by omega), ?_⟩; conv => whnf))
          rw [show (0 + ((la : Nat) - 1 : Int).toNat) = la - 1 by omega, hrd]
          have hne : P (la - 1) ≠ g0 := hP.2 u
          generalize he : P (la - 1) = e at *
          have hge : gi P (la - 1) = (e.v : Nat) := by unfold gi; rw [he]
          have hmi : iv e * e = g1 := by rw [m_comm]; exact m_iv hne
          have hcz : iv e ≠ g0 := fun z => by rw [z, z_mul] at hmi; exact g1_nz hmi.symm
          have hG : GcdOk p q (ps (iv e) P) la := ⟨⟨zr_ps _ hP.1, fun h z => hcz (by
            have z2 : iv e * P (la - 1) = g0 := z
            rw [he, hmi] at z2; exact absurd z2 g1_nz)⟩, hla, fun _ => by show iv e * P (la - 1) = g1; rw [he, hmi], Dv_psl hcz hd1.1, Dv_psl hcz hd1.2, fun d h1 h2 => Dv_ps (hd2 d h1 h2) _⟩
          rw [hge]
          refine ⟨⟨[0, 1, 2], (⟨P, la, e, 0, t1⟩ : G52), ?_, ⟨Nat.zero_le _, hla, u, hP, he, hG⟩⟩, ?_⟩
          · show stLe _ _ (st52b P la e 0 t1) _
            conv => whnf
            repeat' (first | exact True.intro | rfl | refine And.intro ?_ ?_)
            all_goals (conv => whnf)
            repeat' (first | exact True.intro | rfl | refine And.intro ?_ ?_)
            all_goals (try omega)
          · intro ⟨P2, l2, e2, i, t3⟩ hx
            obtain ⟨hi, hl2, hl0, hP2, he2, hG2⟩ := hx
            have hi : i ≤ l2 := hi
            have hl2 : l2 ≤ 512 := hl2
            have he2 : P2 (l2 - 1) = e2 := he2
            have hP2 : Pol P2 l2 := hP2
            have hG2 : GcdOk p q (ps (iv e2) P2) l2 := hG2
            have hez : e2.v ≠ 0 := fun z => hP2.2 hl0 (by rw [he2]; exact G.ext z)
            show forceSt (st52b P2 l2 e2 i t3) _
            conv => whnf
            repeat (first
              | (refine And.intro ?_ ?_; (focus (first | omega | decide | exact EqOk.mk (by kernel_rfl) (by kernel_rfl) (by kernel_rfl) | exact Int.natCast_nonneg _ | ((repeat' refine And.intro ?_ ?_) <;> first | omega | exact Int.natCast_nonneg _ | (simp only [i64max, u8max, u16max, u32max, u64max]; omega) | (simp only [mulSz_eq, Cont.len, colsLen, Col.len, List.length_cons, List.length_nil, List.length_replicate, List.length_append]; first | done | omega) | (simp [mulSz, Cont.len, bne]; first | done | omega)))); conv => whnf)
              | (refine tst_in ?_ ?_; (focus (intro h_; exfalso; first | omega | ((try simp only [decide_eq_true_eq, decide_eq_false_iff_not] at h_); omega) | (simp [mulSz, Cont.len, bne] at h_; first | done | omega))); intro _; conv => whnf)
              | (refine tst_in ?_ ?_; rotate_left; (focus (intro h_; exfalso; first | omega | ((try simp only [decide_eq_true_eq, decide_eq_false_iff_not] at h_); omega) | (simp [mulSz, Cont.len, bne] at h_; first | done | omega))); intro _; conv => whnf)
              | (refine ⟨0, (show _ = _ by omega), ?_⟩; conv => whnf))
            refine tst_in (fun v => ?_) (fun v' => ?_)
            · have v : i < l2 := by have := dlt_t v; omega
              have OV := refOver_g (P2 i) e2
              rw [show ovG (P2 i) e2 = P2 i * iv e2 from if_neg hez, show ovE e2.v = 0 from if_neg hez] at OV
              have hrd : (tb (gi (dvd1 (iv e2) P2 i)) l2 ++ t3).getD i 0 = ((P2 i).v : Nat) := by
                rw [tab_app _ _ _ v]; unfold gi dvd1; rw [if_neg (Nat.lt_irrefl i)]
              conv => whnf
              repeat (first
                | (refine And.intro ?_ ?_; (focus (first | omega | decide | exact EqOk.mk (by kernel_rfl) (by kernel_rfl) (by kernel_rfl) | exact Int.natCast_nonneg _ | ((repeat' refine And.intro ?_ ?_) <;> first | omega | exact Int.natCast_nonneg _ | (simp only [i64max, u8max, u16max, u32max, u64max]; omega) | (simp only [mulSz_eq, Cont.len, colsLen, Col.len, List.length_cons, List.length_nil, List.length_replicate, List.length_append, tab_len]; first | done | omega) | (simp [mulSz, Cont.len, bne, tab_len]; first | done | omega)))); conv => whnf)
                | (refine tst_in ?_ ?_; (focus (intro h_; exfalso; first | omega | ((try simp only [decide_eq_true_eq, decide_eq_false_iff_not] at h_); omega) | (simp [mulSz, Cont.len, bne, tab_len] at h_; first | done | omega))); intro _; conv => whnf)
                | (refine tst_in ?_ ?_; rotate_left; (focus (intro h_; exfalso; first | omega | ((try simp only [decide_eq_true_eq, decide_eq_false_iff_not] at h_); omega) | (simp [mulSz, Cont.len, bne, tab_len] at h_; first | done | omega))); intro _; conv => whnf)
                | (refine ⟨0, (show _ = _ by omega), ?_⟩; conv => whnf))
              rw [show (0 + ((i : Nat) : Int).toNat) = i by omega, hrd]
              refine ⟨_, [], OV, ?_⟩
              conv => whnf
              iterate 2
               refine And.intro ?_ ?_
               focus
                conv => whnf
                repeat' (first | exact True.intro | rfl | refine And.intro ?_ ?_ | omega)
                all_goals (conv => whnf)
                all_goals (try (first | rfl | omega | (simp; done)))
              conv => whnf
              conv => whnf
              repeat (first
                | (refine And.intro ?_ ?_; (focus (first | omega | decide | exact EqOk.mk (by kernel_rfl) (by kernel_rfl) (by kernel_rfl) | exact Int.natCast_nonneg _ | ((repeat' refine And.intro ?_ ?_) <;> first | omega | exact Int.natCast_nonneg _ | (simp only [i64max, u8max, u16max, u32max, u64max]; omega) | (simp only [mulSz_eq, Cont.len, colsLen, Col.len, List.length_cons, List.length_nil, List.length_replicate, List.length_append, tab_len]; first | done | omega) | (simp [mulSz, Cont.len, bne, tab_len]; first | done | omega)))); conv => whnf)
                | (refine tst_in ?_ ?_; (focus (intro h_; exfalso; first | omega | ((try simp only [decide_eq_true_eq, decide_eq_false_iff_not] at h_); omega) | (simp [mulSz, Cont.len, bne, tab_len] at h_; first | done | omega))); intro _; conv => whnf)
                | (refine tst_in ?_ ?_; rotate_left; (focus (intro h_; exfalso; first | omega | ((try simp only [decide_eq_true_eq, decide_eq_false_iff_not] at h_); omega) | (simp [mulSz, Cont.len, bne, tab_len] at h_; first | done | omega))); intro _; conv => whnf)
                | (refine ⟨0, (show _ = _ by omega), ?_⟩; conv => whnf))
              refine ⟨[0, 1, 2], (⟨P2, l2, e2, i + 1, t3⟩ : G52), ?_, ⟨v, hl2, hl0, hP2, he2, hG2⟩, by show l2 - (i + 1) < l2 - i; omega⟩
              show stLe _ _ (st52b P2 l2 e2 (i + 1) t3) _
              conv => whnf
              repeat' (first | exact True.intro | rfl | refine And.intro ?_ ?_)
              all_goals (conv => whnf)
              repeat' (first | exact True.intro | rfl | refine And.intro ?_ ?_)
              all_goals (try omega)
              show tb (gi (dvd1 (iv e2) P2 (i + 1))) l2 ++ t3 = (tb (gi (dvd1 (iv e2) P2 i)) l2 ++ t3).set (0 + ((i : Nat) : Int).toNat) (((P2 i * iv e2 : G).v : Nat) : Int)
              rw [show (0 + ((i : Nat) : Int).toNat) = i by omega, List.set_append_left _ _ (by rw [tab_len]; omega)]
              congr 1
              refine (tab_put _ l2 i _ fun k hk => ?_).symm
              unfold dvd1
              by_cases e : k = i
              · subst e; rw [if_pos rfl, if_pos (by omega)]
              · rw [if_neg e]
                by_cases e3 : k < i
                · rw [if_pos e3, if_pos (by omega)]
                · rw [if_neg e3, if_neg (by omega)]
            · have v : i = l2 := by have := dlt_f v'; omega
              subst v
              have ep : tb (gi (dvd1 (iv e2) P2 i)) i = tb (gi (ps (iv e2) P2)) i := tb_congr fun k hk => by
                unfold dvd1 ps; rw [if_pos hk, m_comm]
              unfold st52b
              rw [ep]
              conv => whnf
              repeat (first
                | (refine And.intro ?_ ?_; (focus (first | omega | decide | exact EqOk.mk (by kernel_rfl) (by kernel_rfl) (by kernel_rfl) | exact Int.natCast_nonneg _ | ((repeat' refine And.intro ?_ ?_) <;> first | omega | exact Int.natCast_nonneg _ | (simp only [i64max, u8max, u16max, u32max, u64max]; omega) | (simp only [mulSz_eq, Cont.len, colsLen, Col.len, List.length_cons, List.length_nil, List.length_replicate, List.length_append]; first | done | omega) | (simp [mulSz, Cont.len, bne]; first | done | omega)))); conv => whnf)
                | (refine tst_in ?_ ?_; (focus (intro h_; exfalso; first | omega | ((try simp only [decide_eq_true_eq, decide_eq_false_iff_not] at h_); omega) | (simp [mulSz, Cont.len, bne] at h_; first | done | omega))); intro _; conv => whnf)
                | (refine tst_in ?_ ?_; rotate_left; (focus (intro h_; exfalso; first | omega | ((try simp only [decide_eq_true_eq, decide_eq_false_iff_not] at h_); omega) | (simp [mulSz, Cont.len, bne] at h_; first | done | omega))); intro _; conv => whnf)
                | (refine ⟨0, (show _ = _ by omega), ?_⟩; conv => whnf))
              refine .inl ⟨⟨ps (iv e2) P2, i, t3⟩, [0, 1, 2], ?_⟩
              conv => whnf
              repeat' (first | exact True.intro | rfl | refine And.intro ?_ ?_)
              all_goals (conv => whnf)
              repeat' (first | exact True.intro | rfl | refine And.intro ?_ ?_)
              all_goals (try omega)
        · have u : la = 0 := by have := dlt_f u'; omega
          subst u
          conv => whnf
          repeat (first
            | (refine And.intro ?_ ?_; (focus (first | omega | decide | exact EqOk.mk (by kernel_rfl) (by kernel_rfl) (by kernel_rfl) | exact Int.natCast_nonneg _ | ((repeat' refine And.intro ?_ ?_) <;> first | omega | exact Int.natCast_nonneg _ | (simp only [i64max, u8max, u16max, u32max, u64max]; omega) | (simp only [mulSz_eq, Cont.len, colsLen, Col.len, List.length_cons, List.length_nil, List.length_replicate, List.length_append]; first | done | omega) | (simp [mulSz, Cont.len, bne]; first | done | omega)))); conv => whnf)
            | (refine tst_in ?_ ?_; (focus (intro h_; exfalso; first | omega | ((try simp only [decide_eq_true_eq, decide_eq_false_iff_not] at h_); omega) | (simp [mulSz, Cont.len, bne] at h_; first | done | omega))); intro _; conv => whnf)
            | (refine tst_in ?_ ?_; rotate_left; (focus (intro h_; exfalso; first | omega | ((try simp only [decide_eq_true_eq, decide_eq_false_iff_not] at h_); omega) | (simp [mulSz, Cont.len, bne] at h_; first | done | omega))); intro _; conv => whnf)
            | (refine ⟨0, (show _ = _ by omega), ?_⟩; conv => whnf))
          refine .inl ⟨⟨P, 0, t1⟩, [0, 1, 2], ?_⟩
          conv => whnf
          repeat' (first | exact True.intro | rfl | refine And.intro ?_ ?_)
          all_goals (conv => whnf)
          repeat' (first | exact True.intro | rfl | refine And.intro ?_ ?_)
          all_goals (try omega)
          exact ⟨hP, by show 0 ≤ 512; omega, fun h => absurd (show 0 < 0 from h) (by omega), hd1.1, hd1.2, hd2⟩
end Go.Proofs.Yteiblfkegnppeaa
