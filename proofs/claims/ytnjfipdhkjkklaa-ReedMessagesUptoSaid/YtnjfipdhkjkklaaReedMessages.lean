/-
  For any message, numbers and at most 1048576 words: the words of a message and the message that words hold are what the document says, in new memory, and what was handed in stands.
-/
import Derived.Test.YtnjfipdhkjkklaaRows
import Derived.Test.YtnjfipdhkjkklaaFv
import Derived.Test.YtnjfipdhkjkklaaReedMessagesP1
import Derived.Test.YtnjfipdhkjkklaaFa
import Derived.WalkKit
import Derived.JoinedCond
import Derived.Deep.CondSized
import Derived.ProofKit
import Derived.OpenShut
import Derived.SizedLaws
import Derived.ChangeMaps5
set_option linter.unusedSimpArgs false
set_option linter.unusedVariables false
set_option linter.unusedVariables false
set_option linter.unusedSimpArgs false
namespace Go.Proofs.Ytnjfipdhkjkklaa
open Go Go.Fw
/-- What a word's polynomial is at a number. -/
noncomputable def atI (w : ByteArray) (x : Int) : Int := yI (fun k => byteI w (w.size - 1 - k)) w.size x w.size
noncomputable def pwI (x : Int) : Nat → Int
  | 0 => 1
  | j + 1 => M (pwI x j) x
noncomputable def raI (w : ByteArray) (x : Int) : Nat → Int
  | 0 => 0
  | j + 1 => X (raI w x j) (M (byteI w (w.size - 1 - j)) (pwI x j))
theorem pwI_in (x : Int) : ∀ j, inB (pwI x j)
  | 0 => by show (0 : Int) ≤ 1 ∧ (1 : Int) < 256; omega
  | j + 1 => M_in _ _
theorem raI_in (w : ByteArray) (x : Int) : ∀ j, inB (raI w x j)
  | 0 => by show (0 : Int) ≤ 0 ∧ (0 : Int) < 256; omega
  | j + 1 => X_in (raI_in w x j) (M_in _ _)
theorem toG_pwI {x : Int} (hx : inB x) : ∀ j, toG (pwI x j) = gp (toG x) j
  | 0 => rfl
  | j + 1 => by show toG (M (pwI x j) x) = gp (toG x) j * toG x; rw [toG_M (pwI_in x j) hx, toG_pwI hx j]
theorem toG_raI (w : ByteArray) {x : Int} (hx : inB x) : ∀ j, toG (raI w x j) = As (fun k => bv w (w.size - 1 - k)) (toG x) j
  | 0 => rfl
  | j + 1 => by
    show toG (X (raI w x j) (M (byteI w (w.size - 1 - j)) (pwI x j))) = As (fun k => bv w (w.size - 1 - k)) (toG x) j + bv w (w.size - 1 - j) * gp (toG x) j
    rw [toG_X (raI_in w x j) (M_in _ _), toG_M (byteI_in _ _) (pwI_in x j), toG_raI w hx j, toG_pwI hx j]; rfl
theorem ra_at (w : ByteArray) {x : Int} (hx : inB x) : raI w x w.size = atI w x := by
  refine toG_inj (raI_in w x _) (yI_in _ _ _ (fun k => byteI_in w _) _) ?_
  unfold atI
  rw [toG_raI w hx, toG_y _ _ _ (fun k => byteI_in w _) hx _ (Nat.le_refl _), ← Hn_rev]
  exact Hn_congr g0 _ _ fun k _ => rfl
noncomputable def k40 : Code := (Try.f40.body).getD .skip
noncomputable def inv40 (w : ByteArray) (x : Int) : LInv := ⟨Nat, fun j => ⟨slotsAt 26 [(0, .str w), (1, .int .u8 x), (5, .int .u8 (raI w x j)), (6, .int .u8 (pwI x j)), (7, .int .i64 ((w.size : Int) - 1 - j))], []⟩, fun j => j ≤ w.size, fun j => w.size - j⟩
def qf3 : Nat → Bool := fun f => match f with | 40 => true | _ => qf2 f
def cfgP (k : Nat) : Cfg := { cfgN k with sgn := fun _ => false, q := qf3 }
set_option maxHeartbeats 0 in
set_option maxRecDepth 100000 in
theorem refAt_q (w : ByteArray) (x : Int) (hx : inB x) (hw : w.size ≤ 255) : QFits Try.prog 40 ⟨[.str w, .int .u8 x], [], .int .u8 (atI w x)⟩ := by
  refine qfits_of_body (C := cfgP 0) (c := k40) (ts := [4]) tokL mixedL (fun | 4 => some (inv40 w x) | _ => none) (fun _ => none)
    Try.func40 (by kernel_rfl) (by kernel_rfl) (by kernel_rfl) (by kernel_rfl) (by kernel_rfl) rfl rfl ?_
  conv => whnf
  repeat (first
    | (refine And.intro ?_ ?_; (focus (first | omega | decide | exact EqOk.mk (by kernel_rfl) (by kernel_rfl) (by kernel_rfl) | exact Int.natCast_nonneg _ | ((repeat' refine And.intro ?_ ?_) <;> first | omega | exact Int.natCast_nonneg _ | (simp only [i64max, u8max, u16max, u32max, u64max]; omega) | (simp only [mulSz_eq, Cont.len, colsLen, Col.len, List.length_cons, List.length_nil, List.length_replicate, List.length_append]; first | done | omega) | (simp [mulSz, Cont.len, bne]; first | done | omega)))); conv => whnf)
    | (refine tst_in ?_ ?_; (focus (intro h_; exfalso; first | omega | ((try simp only [decide_eq_true_eq, decide_eq_false_iff_not] at h_); omega) | (simp [mulSz, Cont.len, bne] at h_; first | done | omega))); intro _; conv => whnf)
    | (refine tst_in ?_ ?_; rotate_left; (focus (intro h_; exfalso; first | omega | ((try simp only [decide_eq_true_eq, decide_eq_false_iff_not] at h_); omega) | (simp [mulSz, Cont.len, bne] at h_; first | done | omega))); intro _; conv => whnf)
    | (refine ⟨0, (show _ = _ by omega), ?_⟩; conv => whnf))
  refine ⟨⟨[], (0 : Nat), ?_, Nat.zero_le _⟩, ?_⟩
  · show stLe _ _ ⟨slotsAt 26 [(0, .str w), (1, .int .u8 x), (5, .int .u8 (raI w x 0)), (6, .int .u8 (pwI x 0)), (7, .int .i64 ((w.size : Int) - 1 - (0 : Nat)))], []⟩ _
    conv => whnf
    repeat' (first | exact True.intro | rfl | refine And.intro ?_ ?_)
    all_goals (conv => whnf)
    repeat' (first | exact True.intro | rfl | refine And.intro ?_ ?_)
    all_goals (try omega)
  · intro (j : Nat) (hj : j ≤ w.size)
    show forceSt ⟨slotsAt 26 [(0, .str w), (1, .int .u8 x), (5, .int .u8 (raI w x j)), (6, .int .u8 (pwI x j)), (7, .int .i64 ((w.size : Int) - 1 - j))], []⟩ _
    conv => whnf
    repeat (first
      | (refine And.intro ?_ ?_; (focus (first | omega | decide | exact EqOk.mk (by kernel_rfl) (by kernel_rfl) (by kernel_rfl) | exact Int.natCast_nonneg _ | ((repeat' refine And.intro ?_ ?_) <;> first | omega | exact Int.natCast_nonneg _ | (simp only [i64max, u8max, u16max, u32max, u64max]; omega) | (simp only [mulSz_eq, Cont.len, colsLen, Col.len, List.length_cons, List.length_nil, List.length_replicate, List.length_append]; first | done | omega) | (simp [mulSz, Cont.len, bne]; first | done | omega)))); conv => whnf)
      | (refine tst_in ?_ ?_; (focus (intro h_; exfalso; first | omega | ((try simp only [decide_eq_true_eq, decide_eq_false_iff_not] at h_); omega) | (simp [mulSz, Cont.len, bne] at h_; first | done | omega))); intro _; conv => whnf)
      | (refine tst_in ?_ ?_; rotate_left; (focus (intro h_; exfalso; first | omega | ((try simp only [decide_eq_true_eq, decide_eq_false_iff_not] at h_); omega) | (simp [mulSz, Cont.len, bne] at h_; first | done | omega))); intro _; conv => whnf)
      | (refine ⟨0, (show _ = _ by omega), ?_⟩; conv => whnf))
    refine tst_in (fun hlt => ?_) (fun hge => ?_)
    · have hlt : j < w.size := by have : (0 : Int) ≤ (w.size : Int) - 1 - j := of_decide_eq_true (by rw [dLe_eq] at hlt; exact hlt); omega
      have T1 := refTimes_i (byteI_in w (w.size - 1 - j)) (pwI_in x j)
      have T2 := refTimes_i (pwI_in x j) hx
      have hr := raI_in w x j
      have hm := M_in (byteI w (w.size - 1 - j)) (pwI x j)
      unfold inB at hr hm
      conv => whnf
      repeat (first
        | (refine And.intro ?_ ?_; (focus (first | omega | decide | exact EqOk.mk (by kernel_rfl) (by kernel_rfl) (by kernel_rfl) | exact Int.natCast_nonneg _ | ((repeat' refine And.intro ?_ ?_) <;> first | omega | exact Int.natCast_nonneg _ | (simp only [i64max, u8max, u16max, u32max, u64max]; omega) | (simp only [mulSz_eq, Cont.len, colsLen, Col.len, List.length_cons, List.length_nil, List.length_replicate, List.length_append]; first | done | omega) | (simp [mulSz, Cont.len, bne]; first | done | omega)))); conv => whnf)
        | (refine tst_in ?_ ?_; (focus (intro h_; exfalso; first | omega | ((try simp only [decide_eq_true_eq, decide_eq_false_iff_not] at h_); omega) | (simp [mulSz, Cont.len, bne] at h_; first | done | omega))); intro _; conv => whnf)
        | (refine tst_in ?_ ?_; rotate_left; (focus (intro h_; exfalso; first | omega | ((try simp only [decide_eq_true_eq, decide_eq_false_iff_not] at h_); omega) | (simp [mulSz, Cont.len, bne] at h_; first | done | omega))); intro _; conv => whnf)
        | (refine ⟨0, (show _ = _ by omega), ?_⟩; conv => whnf))
      rw [show ((w.size : Int) - 1 - (j : Int)).toNat = w.size - 1 - j by omega]
      refine ⟨_, [], T1, ?_⟩
      conv => whnf
      iterate 2
       refine And.intro ?_ ?_
       focus
        conv => whnf
        repeat' (first | exact True.intro | rfl | refine And.intro ?_ ?_ | omega)
        all_goals (conv => whnf)
        all_goals (try (first | rfl | omega | (simp; done)))
      conv => whnf
      conv => whnf
      repeat (first
        | (refine And.intro ?_ ?_; (focus (first | omega | decide | exact EqOk.mk (by kernel_rfl) (by kernel_rfl) (by kernel_rfl) | exact Int.natCast_nonneg _ | ((repeat' refine And.intro ?_ ?_) <;> first | omega | exact Int.natCast_nonneg _ | (simp only [i64max, u8max, u16max, u32max, u64max]; omega) | (simp only [mulSz_eq, Cont.len, colsLen, Col.len, List.length_cons, List.length_nil, List.length_replicate, List.length_append, u8max]; first | done | omega) | (simp [mulSz, Cont.len, bne, u8max]; first | done | omega)))); conv => whnf)
        | (refine tst_in ?_ ?_; (focus (intro h_; exfalso; first | omega | ((try simp only [decide_eq_true_eq, decide_eq_false_iff_not] at h_); omega) | (simp [mulSz, Cont.len, bne, u8max] at h_; first | done | omega))); intro _; conv => whnf)
        | (refine tst_in ?_ ?_; rotate_left; (focus (intro h_; exfalso; first | omega | ((try simp only [decide_eq_true_eq, decide_eq_false_iff_not] at h_); omega) | (simp [mulSz, Cont.len, bne, u8max] at h_; first | done | omega))); intro _; conv => whnf)
        | (refine ⟨0, (show _ = _ by omega), ?_⟩; conv => whnf))
      refine ⟨_, [], T2, ?_⟩
      conv => whnf
      iterate 2
       refine And.intro ?_ ?_
       focus
        conv => whnf
        repeat' (first | exact True.intro | rfl | refine And.intro ?_ ?_ | omega)
        all_goals (conv => whnf)
        all_goals (try (first | rfl | omega | (simp; done)))
      conv => whnf
      conv => whnf
      repeat (first
        | (refine And.intro ?_ ?_; (focus (first | omega | decide | exact EqOk.mk (by kernel_rfl) (by kernel_rfl) (by kernel_rfl) | exact Int.natCast_nonneg _ | ((repeat' refine And.intro ?_ ?_) <;> first | omega | exact Int.natCast_nonneg _ | (simp only [i64max, u8max, u16max, u32max, u64max]; omega) | (simp only [mulSz_eq, Cont.len, colsLen, Col.len, List.length_cons, List.length_nil, List.length_replicate, List.length_append]; first | done | omega) | (simp [mulSz, Cont.len, bne]; first | done | omega)))); conv => whnf)
        | (refine tst_in ?_ ?_; (focus (intro h_; exfalso; first | omega | ((try simp only [decide_eq_true_eq, decide_eq_false_iff_not] at h_); omega) | (simp [mulSz, Cont.len, bne] at h_; first | done | omega))); intro _; conv => whnf)
        | (refine tst_in ?_ ?_; rotate_left; (focus (intro h_; exfalso; first | omega | ((try simp only [decide_eq_true_eq, decide_eq_false_iff_not] at h_); omega) | (simp [mulSz, Cont.len, bne] at h_; first | done | omega))); intro _; conv => whnf)
        | (refine ⟨0, (show _ = _ by omega), ?_⟩; conv => whnf))
      refine ⟨[], j + 1, ?_, (by show j + 1 ≤ w.size; omega), (by show w.size - (j + 1) < w.size - j; omega)⟩
      show stLe _ _ ⟨slotsAt 26 [(0, .str w), (1, .int .u8 x), (5, .int .u8 (raI w x (j + 1))), (6, .int .u8 (pwI x (j + 1))), (7, .int .i64 ((w.size : Int) - 1 - (j + 1 : Nat)))], []⟩ _
      conv => whnf
      repeat' (first | exact True.intro | rfl | refine And.intro ?_ ?_)
      all_goals (conv => whnf)
      repeat' (first | exact True.intro | rfl | refine And.intro ?_ ?_)
      all_goals (try omega)
    · have hge : j = w.size := by have : ¬ (0 : Int) ≤ (w.size : Int) - 1 - j := of_decide_eq_false (by rw [dLe_eq] at hge; exact hge); omega
      subst hge
      conv => whnf
      repeat (first
        | (refine And.intro ?_ ?_; (focus (first | omega | decide | exact EqOk.mk (by kernel_rfl) (by kernel_rfl) (by kernel_rfl) | exact Int.natCast_nonneg _ | ((repeat' refine And.intro ?_ ?_) <;> first | omega | exact Int.natCast_nonneg _ | (simp only [i64max, u8max, u16max, u32max, u64max]; omega) | (simp only [mulSz_eq, Cont.len, colsLen, Col.len, List.length_cons, List.length_nil, List.length_replicate, List.length_append]; first | done | omega) | (simp [mulSz, Cont.len, bne]; first | done | omega)))); conv => whnf)
        | (refine tst_in ?_ ?_; (focus (intro h_; exfalso; first | omega | ((try simp only [decide_eq_true_eq, decide_eq_false_iff_not] at h_); omega) | (simp [mulSz, Cont.len, bne] at h_; first | done | omega))); intro _; conv => whnf)
        | (refine tst_in ?_ ?_; rotate_left; (focus (intro h_; exfalso; first | omega | ((try simp only [decide_eq_true_eq, decide_eq_false_iff_not] at h_); omega) | (simp [mulSz, Cont.len, bne] at h_; first | done | omega))); intro _; conv => whnf)
        | (refine ⟨0, (show _ = _ by omega), ?_⟩; conv => whnf))
      conv => whnf
      repeat' (first | exact True.intro | rfl | refine And.intro ?_ ?_)
      all_goals (conv => whnf)
      repeat' (first | exact True.intro | rfl | refine And.intro ?_ ?_)
      all_goals (try omega)
      exact (ra_at w hx).symm
noncomputable def k23 : Code := (Try.f23.body).getD .skip
noncomputable def st23 (w : ByteArray) (N j : Nat) (u : List Int) : St := ⟨slotsAt 26 [(0, .str w), (1, .int .i64 N), (6, .slice 0 0 j (j + u.length)), (7, .int .i64 j)], [.seg true (.ints .u8 (tb (syn w) j ++ u))]⟩
noncomputable def inv23 (w : ByteArray) (N : Nat) : LInv := ⟨Nat × List Int, fun x => st23 w N x.1 x.2, fun x => x.1 ≤ N, fun x => N - x.1⟩
noncomputable def synOut (w : ByteArray) (N : Nat) : FOut := ⟨List Int, fun _ => True, fun u => .tup [.slice 0 0 N (N + u.length), .int .i64 0], fun u => [.seg true (.ints .u8 (tb (syn w) N ++ u))]⟩
set_option maxHeartbeats 0 in
set_option maxRecDepth 100000 in
theorem refSyn_y (N : Nat) (w : ByteArray) (h : okR (N : Int) = true) (h1 : N < w.size) (h2 : w.size ≤ 255) : Fits Try.prog 23 ⟨[.str w, .int .i64 N], [], [synOut w N]⟩ := by
  obtain ⟨r1, r2, r3⟩ := okR_iff.1 h
  have CK := refCheck_q (w.size : Int) (N : Int)
  rw [chk_yes ⟨r1, r2, r3, by omega, by omega⟩] at CK
  refine fits_of_body (C := cfgP 0) (c := k23) (ts := [4, 5]) tokL mixedL (fun | 5 => some (inv23 w N) | _ => none) (fun _ => none)
    Try.func23 (by kernel_rfl) (by kernel_rfl) (by kernel_rfl) (by kernel_rfl) rfl ?_
  conv => whnf
  repeat (first
    | (refine And.intro ?_ ?_; (focus (first | omega | decide | exact EqOk.mk (by kernel_rfl) (by kernel_rfl) (by kernel_rfl) | exact Int.natCast_nonneg _ | ((repeat' refine And.intro ?_ ?_) <;> first | omega | exact Int.natCast_nonneg _ | (simp only [i64max, u8max, u16max, u32max, u64max]; omega) | (simp only [mulSz_eq, Cont.len, colsLen, Col.len, List.length_cons, List.length_nil, List.length_replicate, List.length_append]; first | done | omega) | (simp [mulSz, Cont.len, bne]; first | done | omega)))); conv => whnf)
    | (refine tst_in ?_ ?_; (focus (intro h_; exfalso; first | omega | ((try simp only [decide_eq_true_eq, decide_eq_false_iff_not] at h_); omega) | (simp [mulSz, Cont.len, bne] at h_; first | done | omega))); intro _; conv => whnf)
    | (refine tst_in ?_ ?_; rotate_left; (focus (intro h_; exfalso; first | omega | ((try simp only [decide_eq_true_eq, decide_eq_false_iff_not] at h_); omega) | (simp [mulSz, Cont.len, bne] at h_; first | done | omega))); intro _; conv => whnf)
    | (refine ⟨0, (show _ = _ by omega), ?_⟩; conv => whnf))
  refine ⟨_, [], CK, ?_⟩
  conv => whnf
  iterate 2
   refine And.intro ?_ ?_
   focus
    conv => whnf
    repeat' (first | exact True.intro | rfl | refine And.intro ?_ ?_ | omega)
    all_goals (conv => whnf)
    all_goals (try (first | rfl | omega | (simp; done)))
  conv => whnf
  conv => whnf
  repeat (first
    | (refine And.intro ?_ ?_; (focus (first | omega | decide | exact EqOk.mk (by kernel_rfl) (by kernel_rfl) (by kernel_rfl) | exact Int.natCast_nonneg _ | ((repeat' refine And.intro ?_ ?_) <;> first | omega | exact Int.natCast_nonneg _ | (simp only [i64max, u8max, u16max, u32max, u64max]; omega) | (simp only [mulSz_eq, Cont.len, colsLen, Col.len, List.length_cons, List.length_nil, List.length_replicate, List.length_append]; first | done | omega) | (simp [mulSz, Cont.len, bne]; first | done | omega)))); conv => whnf)
    | (refine tst_in ?_ ?_; (focus (intro h_; exfalso; first | omega | ((try simp only [decide_eq_true_eq, decide_eq_false_iff_not] at h_); omega) | (simp [mulSz, Cont.len, bne] at h_; first | done | omega))); intro _; conv => whnf)
    | (refine tst_in ?_ ?_; rotate_left; (focus (intro h_; exfalso; first | omega | ((try simp only [decide_eq_true_eq, decide_eq_false_iff_not] at h_); omega) | (simp [mulSz, Cont.len, bne] at h_; first | done | omega))); intro _; conv => whnf)
    | (refine ⟨0, (show _ = _ by omega), ?_⟩; conv => whnf))
  refine ⟨⟨[9], (0, []), ?_, Nat.zero_le _⟩, ?_⟩
  · show stLe _ _ (st23 w N 0 []) _
    conv => whnf
    repeat' (first | exact True.intro | rfl | refine And.intro ?_ ?_)
    all_goals (conv => whnf)
    repeat' (first | exact True.intro | rfl | refine And.intro ?_ ?_)
    all_goals (try omega)
  · intro ⟨j, u⟩ (hj : j ≤ N)
    show forceSt (st23 w N j u) _
    conv => whnf
    repeat (first
      | (refine And.intro ?_ ?_; (focus (first | omega | decide | exact EqOk.mk (by kernel_rfl) (by kernel_rfl) (by kernel_rfl) | exact Int.natCast_nonneg _ | ((repeat' refine And.intro ?_ ?_) <;> first | omega | exact Int.natCast_nonneg _ | (simp only [i64max, u8max, u16max, u32max, u64max]; omega) | (simp only [mulSz_eq, Cont.len, colsLen, Col.len, List.length_cons, List.length_nil, List.length_replicate, List.length_append]; first | done | omega) | (simp [mulSz, Cont.len, bne]; first | done | omega)))); conv => whnf)
      | (refine tst_in ?_ ?_; (focus (intro h_; exfalso; first | omega | ((try simp only [decide_eq_true_eq, decide_eq_false_iff_not] at h_); omega) | (simp [mulSz, Cont.len, bne] at h_; first | done | omega))); intro _; conv => whnf)
      | (refine tst_in ?_ ?_; rotate_left; (focus (intro h_; exfalso; first | omega | ((try simp only [decide_eq_true_eq, decide_eq_false_iff_not] at h_); omega) | (simp [mulSz, Cont.len, bne] at h_; first | done | omega))); intro _; conv => whnf)
      | (refine ⟨0, (show _ = _ by omega), ?_⟩; conv => whnf))
    refine tst_in (fun hlt => ?_) (fun hge => ?_)
    · have hlt : j < N := by simp at hlt; omega
      have PW := refPower_q j (by omega)
      have AT := refAt_q w ((rp 2 j : Nat) : Int) (rp_in j) h2
      conv => whnf
      repeat (first
        | (refine And.intro ?_ ?_; (focus (first | omega | decide | exact EqOk.mk (by kernel_rfl) (by kernel_rfl) (by kernel_rfl) | exact Int.natCast_nonneg _ | ((repeat' refine And.intro ?_ ?_) <;> first | omega | exact Int.natCast_nonneg _ | (simp only [i64max, u8max, u16max, u32max, u64max]; omega) | (simp only [mulSz_eq, Cont.len, colsLen, Col.len, List.length_cons, List.length_nil, List.length_replicate, List.length_append]; first | done | omega) | (simp [mulSz, Cont.len, bne]; first | done | omega)))); conv => whnf)
        | (refine tst_in ?_ ?_; (focus (intro h_; exfalso; first | omega | ((try simp only [decide_eq_true_eq, decide_eq_false_iff_not] at h_); omega) | (simp [mulSz, Cont.len, bne] at h_; first | done | omega))); intro _; conv => whnf)
        | (refine tst_in ?_ ?_; rotate_left; (focus (intro h_; exfalso; first | omega | ((try simp only [decide_eq_true_eq, decide_eq_false_iff_not] at h_); omega) | (simp [mulSz, Cont.len, bne] at h_; first | done | omega))); intro _; conv => whnf)
        | (refine ⟨0, (show _ = _ by omega), ?_⟩; conv => whnf))
      refine ⟨_, [], PW, ?_⟩
      conv => whnf
      iterate 2
       refine And.intro ?_ ?_
       focus
        conv => whnf
        repeat' (first | exact True.intro | rfl | refine And.intro ?_ ?_ | omega)
        all_goals (conv => whnf)
        all_goals (try (first | rfl | omega | (simp; done)))
      conv => whnf
      conv => whnf
      repeat (first
        | (refine And.intro ?_ ?_; (focus (first | omega | decide | exact EqOk.mk (by kernel_rfl) (by kernel_rfl) (by kernel_rfl) | exact Int.natCast_nonneg _ | ((repeat' refine And.intro ?_ ?_) <;> first | omega | exact Int.natCast_nonneg _ | (simp only [i64max, u8max, u16max, u32max, u64max]; omega) | (simp only [mulSz_eq, Cont.len, colsLen, Col.len, List.length_cons, List.length_nil, List.length_replicate, List.length_append]; first | done | omega) | (simp [mulSz, Cont.len, bne]; first | done | omega)))); conv => whnf)
        | (refine tst_in ?_ ?_; (focus (intro h_; exfalso; first | omega | ((try simp only [decide_eq_true_eq, decide_eq_false_iff_not] at h_); omega) | (simp [mulSz, Cont.len, bne] at h_; first | done | omega))); intro _; conv => whnf)
        | (refine tst_in ?_ ?_; rotate_left; (focus (intro h_; exfalso; first | omega | ((try simp only [decide_eq_true_eq, decide_eq_false_iff_not] at h_); omega) | (simp [mulSz, Cont.len, bne] at h_; first | done | omega))); intro _; conv => whnf)
        | (refine ⟨0, (show _ = _ by omega), ?_⟩; conv => whnf))
      refine ⟨_, [], AT, ?_⟩
      conv => whnf
      iterate 2
       refine And.intro ?_ ?_
       focus
        conv => whnf
        repeat' (first | exact True.intro | rfl | refine And.intro ?_ ?_ | omega)
        all_goals (conv => whnf)
        all_goals (try (first | rfl | omega | (simp; done)))
      conv => whnf
      conv => whnf
      repeat (first
        | (refine And.intro ?_ ?_; (focus (first | omega | decide | exact EqOk.mk (by kernel_rfl) (by kernel_rfl) (by kernel_rfl) | exact Int.natCast_nonneg _ | ((repeat' refine And.intro ?_ ?_) <;> first | omega | exact Int.natCast_nonneg _ | (simp only [i64max, u8max, u16max, u32max, u64max]; omega) | (simp only [mulSz_eq, Cont.len, colsLen, Col.len, List.length_cons, List.length_nil, List.length_replicate, List.length_append, tab_len]; first | done | omega) | (simp [mulSz, Cont.len, bne, tab_len]; first | done | omega)))); conv => whnf)
        | (refine tst_in ?_ ?_; (focus (intro h_; exfalso; first | omega | ((try simp only [decide_eq_true_eq, decide_eq_false_iff_not] at h_); omega) | (simp [mulSz, Cont.len, bne, tab_len] at h_; first | done | omega))); intro _; conv => whnf)
        | (refine tst_in ?_ ?_; rotate_left; (focus (intro h_; exfalso; first | omega | ((try simp only [decide_eq_true_eq, decide_eq_false_iff_not] at h_); omega) | (simp [mulSz, Cont.len, bne, tab_len] at h_; first | done | omega))); intro _; conv => whnf)
        | (refine ⟨0, (show _ = _ by omega), ?_⟩; conv => whnf))
      intro u1
      change List Int at u1
      conv => whnf
      repeat (first
        | (refine And.intro ?_ ?_; (focus (first | omega | decide | exact EqOk.mk (by kernel_rfl) (by kernel_rfl) (by kernel_rfl) | exact Int.natCast_nonneg _ | ((repeat' refine And.intro ?_ ?_) <;> first | omega | exact Int.natCast_nonneg _ | (simp only [i64max, u8max, u16max, u32max, u64max]; omega) | (simp only [mulSz_eq, Cont.len, colsLen, Col.len, List.length_cons, List.length_nil, List.length_replicate, List.length_append]; first | done | omega) | (simp [mulSz, Cont.len, bne]; first | done | omega)))); conv => whnf)
        | (refine tst_in ?_ ?_; (focus (intro h_; exfalso; first | omega | ((try simp only [decide_eq_true_eq, decide_eq_false_iff_not] at h_); omega) | (simp [mulSz, Cont.len, bne] at h_; first | done | omega))); intro _; conv => whnf)
        | (refine tst_in ?_ ?_; rotate_left; (focus (intro h_; exfalso; first | omega | ((try simp only [decide_eq_true_eq, decide_eq_false_iff_not] at h_); omega) | (simp [mulSz, Cont.len, bne] at h_; first | done | omega))); intro _; conv => whnf)
        | (refine ⟨0, (show _ = _ by omega), ?_⟩; conv => whnf))
      refine ⟨[2], (j + 1, u1), ?_, (by show j + 1 ≤ N; omega), (by show N - (j + 1) < N - j; omega)⟩
      show stLe _ _ (st23 w N (j + 1) u1) _
      conv => whnf
      repeat' (first | exact True.intro | rfl | refine And.intro ?_ ?_)
      all_goals (conv => whnf)
      repeat' (first | exact True.intro | rfl | refine And.intro ?_ ?_)
      all_goals (try omega)
      show tb (syn w) (j + 1) ++ u1 = List.take j (List.drop 0 (tb (syn w) j ++ u)) ++ [_] ++ u1
      rw [take_tb2, ← tab_snoc]; rfl
    · have hge : j = N := by simp at hge; omega
      subst hge
      conv => whnf
      repeat (first
        | (refine And.intro ?_ ?_; (focus (first | omega | decide | exact EqOk.mk (by kernel_rfl) (by kernel_rfl) (by kernel_rfl) | exact Int.natCast_nonneg _ | ((repeat' refine And.intro ?_ ?_) <;> first | omega | exact Int.natCast_nonneg _ | (simp only [i64max, u8max, u16max, u32max, u64max]; omega) | (simp only [mulSz_eq, Cont.len, colsLen, Col.len, List.length_cons, List.length_nil, List.length_replicate, List.length_append]; first | done | omega) | (simp [mulSz, Cont.len, bne]; first | done | omega)))); conv => whnf)
        | (refine tst_in ?_ ?_; (focus (intro h_; exfalso; first | omega | ((try simp only [decide_eq_true_eq, decide_eq_false_iff_not] at h_); omega) | (simp [mulSz, Cont.len, bne] at h_; first | done | omega))); intro _; conv => whnf)
        | (refine tst_in ?_ ?_; rotate_left; (focus (intro h_; exfalso; first | omega | ((try simp only [decide_eq_true_eq, decide_eq_false_iff_not] at h_); omega) | (simp [mulSz, Cont.len, bne] at h_; first | done | omega))); intro _; conv => whnf)
        | (refine ⟨0, (show _ = _ by omega), ?_⟩; conv => whnf))
      refine .inl ⟨u, [0], ?_⟩
      conv => whnf
      repeat' (first | exact True.intro | rfl | refine And.intro ?_ ?_)
      all_goals (conv => whnf)
      repeat' (first | exact True.intro | rfl | refine And.intro ?_ ?_)
      all_goals (try omega)
noncomputable def k24 : Code := (Try.f24.body).getD .skip
noncomputable def inv24 (w : ByteArray) (N ca : Nat) (u : List Int) : LInv := ⟨Nat, fun j => ⟨slotsAt 29 [(6, .slice 0 0 N (N + u.length)), (8, .int .i64 j)], [.seg true (.ints .u8 (tb (syn w) N ++ u))]⟩, fun j => j ≤ N ∧ ∀ i, i < j → syn w i = 0, fun j => N - j⟩
set_option maxHeartbeats 0 in
set_option maxRecDepth 100000 in
theorem refWhole_y (N : Nat) (w : ByteArray) (h : okR (N : Int) = true) (h1 : N < w.size) (h2 : w.size ≤ 255) : Fits Try.prog 24 ⟨[.str w, .int .i64 N], [], [numOut [] (.tup [.bool ((codeW N (w.extract 0 (w.size - N))).toList == w.toList), .int .i64 0])]⟩ := by
  obtain ⟨r1, r2, r3⟩ := okR_iff.1 h
  have SY := refSyn_y N w h h1 h2
  unfold synOut at SY
  rw [← allz_whole N w h1 h2]
  have hcase : ∀ (u : List Int), (fun x => match x with | 5 => some (inv24 w N (N + u.length) u) | _ => none) 5 = some (inv24 w N (N + u.length) u) := fun u => rfl
  refine fits_of_body (C := cfgP 0) (c := k24) (ts := [4, 5]) tokL mixedL (fun | 5 => some ⟨Nat × List Int, fun x => (inv24 w N (N + x.2.length) x.2).st x.1, fun x => x.1 ≤ N ∧ ∀ i, i < x.1 → syn w i = 0, fun x => N - x.1⟩ | _ => none) (fun _ => none)
    Try.func24 (by kernel_rfl) (by kernel_rfl) (by kernel_rfl) (by kernel_rfl) rfl ?_
  conv => whnf
  repeat (first
    | (refine And.intro ?_ ?_; (focus (first | omega | decide | exact EqOk.mk (by kernel_rfl) (by kernel_rfl) (by kernel_rfl) | exact Int.natCast_nonneg _ | ((repeat' refine And.intro ?_ ?_) <;> first | omega | exact Int.natCast_nonneg _ | (simp only [i64max, u8max, u16max, u32max, u64max]; omega) | (simp only [mulSz_eq, Cont.len, colsLen, Col.len, List.length_cons, List.length_nil, List.length_replicate, List.length_append]; first | done | omega) | (simp [mulSz, Cont.len, bne]; first | done | omega)))); conv => whnf)
    | (refine tst_in ?_ ?_; (focus (intro h_; exfalso; first | omega | ((try simp only [decide_eq_true_eq, decide_eq_false_iff_not] at h_); omega) | (simp [mulSz, Cont.len, bne] at h_; first | done | omega))); intro _; conv => whnf)
    | (refine tst_in ?_ ?_; rotate_left; (focus (intro h_; exfalso; first | omega | ((try simp only [decide_eq_true_eq, decide_eq_false_iff_not] at h_); omega) | (simp [mulSz, Cont.len, bne] at h_; first | done | omega))); intro _; conv => whnf)
    | (refine ⟨0, (show _ = _ by omega), ?_⟩; conv => whnf))
  refine ⟨_, [], SY, ?_⟩
  conv => whnf
  iterate 2
   refine And.intro ?_ ?_
   focus
    conv => whnf
    repeat' (first | exact True.intro | rfl | refine And.intro ?_ ?_)
    all_goals (conv => whnf)
    repeat' (first | exact True.intro | rfl | refine And.intro ?_ ?_)
    all_goals (try (first | rfl | omega | (simp; first | done | omega)))
  conv => whnf
  refine ⟨?_, True.intro⟩
  rintro u hu
  conv => whnf
  change List Int at u
  conv => whnf
  repeat (first
    | (refine And.intro ?_ ?_; (focus (first | omega | decide | exact EqOk.mk (by kernel_rfl) (by kernel_rfl) (by kernel_rfl) | exact Int.natCast_nonneg _ | ((repeat' refine And.intro ?_ ?_) <;> first | omega | exact Int.natCast_nonneg _ | (simp only [i64max, u8max, u16max, u32max, u64max]; omega) | (simp only [mulSz_eq, Cont.len, colsLen, Col.len, List.length_cons, List.length_nil, List.length_replicate, List.length_append]; first | done | omega) | (simp [mulSz, Cont.len, bne]; first | done | omega)))); conv => whnf)
    | (refine tst_in ?_ ?_; (focus (intro h_; exfalso; first | omega | ((try simp only [decide_eq_true_eq, decide_eq_false_iff_not] at h_); omega) | (simp [mulSz, Cont.len, bne] at h_; first | done | omega))); intro _; conv => whnf)
    | (refine tst_in ?_ ?_; rotate_left; (focus (intro h_; exfalso; first | omega | ((try simp only [decide_eq_true_eq, decide_eq_false_iff_not] at h_); omega) | (simp [mulSz, Cont.len, bne] at h_; first | done | omega))); intro _; conv => whnf)
    | (refine ⟨0, (show _ = _ by omega), ?_⟩; conv => whnf))
  refine ⟨⟨[0], (0, u), ?_, ⟨Nat.zero_le _, fun i hi => absurd hi (by omega)⟩⟩, ?_⟩
  · show stLe _ _ ⟨slotsAt 29 [(6, .slice 0 0 N (N + u.length)), (8, .int .i64 (0 : Nat))], [.seg true (.ints .u8 (tb (syn w) N ++ u))]⟩ _
    conv => whnf
    repeat' (first | exact True.intro | rfl | refine And.intro ?_ ?_)
    all_goals (conv => whnf)
    repeat' (first | exact True.intro | rfl | refine And.intro ?_ ?_)
    all_goals (try omega)
  · intro ⟨j, u⟩ ⟨(hj : j ≤ N), (hz : ∀ i, i < j → syn w i = 0)⟩
    show forceSt ⟨slotsAt 29 [(6, .slice 0 0 N (N + u.length)), (8, .int .i64 j)], [.seg true (.ints .u8 (tb (syn w) N ++ u))]⟩ _
    conv => whnf
    repeat (first
      | (refine And.intro ?_ ?_; (focus (first | omega | decide | exact EqOk.mk (by kernel_rfl) (by kernel_rfl) (by kernel_rfl) | exact Int.natCast_nonneg _ | ((repeat' refine And.intro ?_ ?_) <;> first | omega | exact Int.natCast_nonneg _ | (simp only [i64max, u8max, u16max, u32max, u64max]; omega) | (simp only [mulSz_eq, Cont.len, colsLen, Col.len, List.length_cons, List.length_nil, List.length_replicate, List.length_append]; first | done | omega) | (simp [mulSz, Cont.len, bne]; first | done | omega)))); conv => whnf)
      | (refine tst_in ?_ ?_; (focus (intro h_; exfalso; first | omega | ((try simp only [decide_eq_true_eq, decide_eq_false_iff_not] at h_); omega) | (simp [mulSz, Cont.len, bne] at h_; first | done | omega))); intro _; conv => whnf)
      | (refine tst_in ?_ ?_; rotate_left; (focus (intro h_; exfalso; first | omega | ((try simp only [decide_eq_true_eq, decide_eq_false_iff_not] at h_); omega) | (simp [mulSz, Cont.len, bne] at h_; first | done | omega))); intro _; conv => whnf)
      | (refine ⟨0, (show _ = _ by omega), ?_⟩; conv => whnf))
    refine tst_in (fun hlt => ?_) (fun hge => ?_)
    · have hlt : j < N := by simp at hlt; omega
      have e1 : (tb (syn w) N ++ u).getD (0 + ((j : Int)).toNat) 0 = syn w j := by rw [show 0 + ((j : Int)).toNat = j by omega, tab_app _ _ _ hlt]
      conv => whnf
      repeat (first
        | (refine And.intro ?_ ?_; (focus (first | omega | decide | exact EqOk.mk (by kernel_rfl) (by kernel_rfl) (by kernel_rfl) | exact Int.natCast_nonneg _ | ((repeat' refine And.intro ?_ ?_) <;> first | omega | exact Int.natCast_nonneg _ | (simp only [i64max, u8max, u16max, u32max, u64max]; omega) | (simp only [mulSz_eq, Cont.len, colsLen, Col.len, List.length_cons, List.length_nil, List.length_replicate, List.length_append, tab_len]; first | done | omega) | (simp [mulSz, Cont.len, bne, tab_len]; first | done | omega)))); conv => whnf)
        | (refine tst_in ?_ ?_; (focus (intro h_; exfalso; first | omega | ((try simp only [decide_eq_true_eq, decide_eq_false_iff_not] at h_); omega) | (simp [mulSz, Cont.len, bne, tab_len] at h_; first | done | omega))); intro _; conv => whnf)
        | (refine tst_in ?_ ?_; rotate_left; (focus (intro h_; exfalso; first | omega | ((try simp only [decide_eq_true_eq, decide_eq_false_iff_not] at h_); omega) | (simp [mulSz, Cont.len, bne, tab_len] at h_; first | done | omega))); intro _; conv => whnf)
        | (refine ⟨(j), (show _ = _ by omega), ?_⟩; conv => whnf)
        | (refine ⟨(j), 0, (show _ = _ by omega), ?_⟩; conv => whnf)
        | (refine ⟨(j), 1, (show _ = _ by omega), ?_⟩; conv => whnf)
        | (refine ⟨(j), 2, (show _ = _ by omega), ?_⟩; conv => whnf)
        | (refine ⟨(j), 3, (show _ = _ by omega), ?_⟩; conv => whnf)
        | (refine ⟨(j), 4, (show _ = _ by omega), ?_⟩; conv => whnf)
        | (refine ⟨(j), 5, (show _ = _ by omega), ?_⟩; conv => whnf)
        | (refine ⟨0, (show _ = _ by omega), ?_⟩; conv => whnf))
      rw [e1]
      refine tst_in (fun q1 => ?_) (fun q1' => ?_)
      · have q1 : syn w j ≠ 0 := by simpa using q1
        rw [show allz w N = false from Bool.eq_false_iff.2 fun q => q1 ((allz_iff w N).1 q j hlt)]
        conv => whnf
        repeat (first
          | (refine And.intro ?_ ?_; (focus (first | omega | decide | exact EqOk.mk (by kernel_rfl) (by kernel_rfl) (by kernel_rfl) | exact Int.natCast_nonneg _ | ((repeat' refine And.intro ?_ ?_) <;> first | omega | exact Int.natCast_nonneg _ | (simp only [i64max, u8max, u16max, u32max, u64max]; omega) | (simp only [mulSz_eq, Cont.len, colsLen, Col.len, List.length_cons, List.length_nil, List.length_replicate, List.length_append]; first | done | omega) | (simp [mulSz, Cont.len, bne]; first | done | omega)))); conv => whnf)
          | (refine tst_in ?_ ?_; (focus (intro h_; exfalso; first | omega | ((try simp only [decide_eq_true_eq, decide_eq_false_iff_not] at h_); omega) | (simp [mulSz, Cont.len, bne] at h_; first | done | omega))); intro _; conv => whnf)
          | (refine tst_in ?_ ?_; rotate_left; (focus (intro h_; exfalso; first | omega | ((try simp only [decide_eq_true_eq, decide_eq_false_iff_not] at h_); omega) | (simp [mulSz, Cont.len, bne] at h_; first | done | omega))); intro _; conv => whnf)
          | (refine ⟨0, (show _ = _ by omega), ?_⟩; conv => whnf))
        refine .inl ⟨(), [], ?_⟩
        conv => whnf
        repeat' (first | exact True.intro | rfl | refine And.intro ?_ ?_)
        all_goals (conv => whnf)
        repeat' (first | exact True.intro | rfl | refine And.intro ?_ ?_)
        all_goals (try omega)
      · have q1 : syn w j = 0 := by simpa using q1'
        conv => whnf
        repeat (first
          | (refine And.intro ?_ ?_; (focus (first | omega | decide | exact EqOk.mk (by kernel_rfl) (by kernel_rfl) (by kernel_rfl) | exact Int.natCast_nonneg _ | ((repeat' refine And.intro ?_ ?_) <;> first | omega | exact Int.natCast_nonneg _ | (simp only [i64max, u8max, u16max, u32max, u64max]; omega) | (simp only [mulSz_eq, Cont.len, colsLen, Col.len, List.length_cons, List.length_nil, List.length_replicate, List.length_append]; first | done | omega) | (simp [mulSz, Cont.len, bne]; first | done | omega)))); conv => whnf)
          | (refine tst_in ?_ ?_; (focus (intro h_; exfalso; first | omega | ((try simp only [decide_eq_true_eq, decide_eq_false_iff_not] at h_); omega) | (simp [mulSz, Cont.len, bne] at h_; first | done | omega))); intro _; conv => whnf)
          | (refine tst_in ?_ ?_; rotate_left; (focus (intro h_; exfalso; first | omega | ((try simp only [decide_eq_true_eq, decide_eq_false_iff_not] at h_); omega) | (simp [mulSz, Cont.len, bne] at h_; first | done | omega))); intro _; conv => whnf)
          | (refine ⟨0, (show _ = _ by omega), ?_⟩; conv => whnf))
        refine ⟨[0], (j + 1, u), ?_, ⟨(by show j + 1 ≤ N; omega), fun i hi => (by by_cases h : i = j; (subst h; exact q1); exact hz i (by omega))⟩, (by show N - (j + 1) < N - j; omega)⟩
        show stLe _ _ ⟨slotsAt 29 [(6, .slice 0 0 N (N + u.length)), (8, .int .i64 (j + 1 : Nat))], [.seg true (.ints .u8 (tb (syn w) N ++ u))]⟩ _
        conv => whnf
        repeat' (first | exact True.intro | rfl | refine And.intro ?_ ?_)
        all_goals (conv => whnf)
        repeat' (first | exact True.intro | rfl | refine And.intro ?_ ?_)
        all_goals (try omega)
    · have hge : j = N := by simp at hge; omega
      subst hge
      rw [show allz w j = true from (allz_iff w j).2 hz]
      conv => whnf
      repeat (first
        | (refine And.intro ?_ ?_; (focus (first | omega | decide | exact EqOk.mk (by kernel_rfl) (by kernel_rfl) (by kernel_rfl) | exact Int.natCast_nonneg _ | ((repeat' refine And.intro ?_ ?_) <;> first | omega | exact Int.natCast_nonneg _ | (simp only [i64max, u8max, u16max, u32max, u64max]; omega) | (simp only [mulSz_eq, Cont.len, colsLen, Col.len, List.length_cons, List.length_nil, List.length_replicate, List.length_append]; first | done | omega) | (simp [mulSz, Cont.len, bne]; first | done | omega)))); conv => whnf)
        | (refine tst_in ?_ ?_; (focus (intro h_; exfalso; first | omega | ((try simp only [decide_eq_true_eq, decide_eq_false_iff_not] at h_); omega) | (simp [mulSz, Cont.len, bne] at h_; first | done | omega))); intro _; conv => whnf)
        | (refine tst_in ?_ ?_; rotate_left; (focus (intro h_; exfalso; first | omega | ((try simp only [decide_eq_true_eq, decide_eq_false_iff_not] at h_); omega) | (simp [mulSz, Cont.len, bne] at h_; first | done | omega))); intro _; conv => whnf)
        | (refine ⟨0, (show _ = _ by omega), ?_⟩; conv => whnf))
      refine .inl ⟨(), [], ?_⟩
      conv => whnf
      repeat' (first | exact True.intro | rfl | refine And.intro ?_ ?_)
      all_goals (conv => whnf)
      repeat' (first | exact True.intro | rfl | refine And.intro ?_ ?_)
      all_goals (try omega)
end Go.Proofs.Ytnjfipdhkjkklaa

set_option linter.unusedVariables false
set_option linter.unusedSimpArgs false
namespace Go.Proofs.Ytnjfipdhkjkklaa
open Go Go.Fw
end Go.Proofs.Ytnjfipdhkjkklaa

set_option linter.unusedVariables false
set_option linter.unusedSimpArgs false
namespace Go.Proofs.Ytnjfipdhkjkklaa
open Go Go.Fw
/-- The data, moved: the term without x first. -/
def mD (N : Nat) (s : ByteArray) (m : Nat) : Int := if N ≤ m then byteI s (s.size + N - 1 - m) else 0
def fD (N : Nat) (s : ByteArray) (i m : Nat) : Int := if s.size + N - 1 - m < i ∧ N ≤ m then byteI s (s.size + N - 1 - m) else 0
/-- What stands there behind j steps of the division. -/
noncomputable def pF (N : Nat) (s : ByteArray) (j m : Nat) : Int := if m + j < s.size + N then X (mD N s m) (if s.size ≤ m + j then encF N s j (s.size + N - 1 - j - m) else 0) else 0
noncomputable def midP (N : Nat) (s : ByteArray) (j k m : Nat) : Int := if s.size - 1 - j ≤ m ∧ m < s.size - 1 - j + k then X (pF N s j m) (M (pF N s j (s.size + N - 1 - j)) (gN N (m - (s.size - 1 - j)))) else pF N s j m
theorem mD_in (N : Nat) (s : ByteArray) (m : Nat) : inB (mD N s m) := by
  unfold mD; split
  · exact byteI_in _ _
  · exact ⟨by omega, by omega⟩
theorem pF_in (N : Nat) (s : ByteArray) (j m : Nat) : inB (pF N s j m) := by
  unfold pF; split
  · refine X_in (mD_in N s m) ?_
    split
    · exact encF_in N s j _
    · exact ⟨by omega, by omega⟩
  · exact ⟨by omega, by omega⟩
theorem midP_in (N : Nat) (s : ByteArray) (j k m : Nat) : inB (midP N s j k m) := by
  unfold midP; split
  · exact X_in (pF_in N s j m) (M_in _ _)
  · exact pF_in N s j m
theorem toG_p (N : Nat) (s : ByteArray) (j m : Nat) : toG (pF N s j m) = if m + j < s.size + N then toG (mD N s m) + (if s.size ≤ m + j then eG N s j (s.size + N - 1 - j - m) else g0) else g0 := by
  unfold pF
  by_cases h : m + j < s.size + N
  · rw [if_pos h, if_pos h, toG_X (mD_in N s m) (by split; exact encF_in N s j _; exact ⟨by omega, by omega⟩)]
    by_cases h2 : s.size ≤ m + j
    · rw [if_pos h2, if_pos h2]; rfl
    · rw [if_neg h2, if_neg h2]; rfl
  · rw [if_neg h, if_neg h]; rfl
theorem pF_zero (N : Nat) (s : ByteArray) (m : Nat) (hm : m < s.size + N) : pF N s 0 m = fD N s s.size m := by
  unfold pF fD
  rw [if_pos (by omega)]
  have h0 : (if s.size ≤ m + 0 then encF N s 0 (s.size + N - 1 - 0 - m) else 0) = 0 := by split <;> rfl
  rw [h0, X_zero (mD_in N s m).1]
  unfold mD
  by_cases h : N ≤ m
  · rw [if_pos h, if_pos ⟨by omega, h⟩]
  · rw [if_neg h, if_neg (fun q => h q.2)]
theorem pF_last (N : Nat) (s : ByteArray) (m : Nat) (hm : m < N) : pF N s s.size m = enc N s (N - 1 - m) := by
  unfold pF enc
  rw [if_pos (by omega), if_pos (by omega)]
  unfold mD
  rw [if_neg (by omega)]
  have e : s.size + N - 1 - s.size - m = N - 1 - m := by omega
  rw [e, zero_X (encF_in N s _ _).1]
theorem midP_all (N : Nat) (s : ByteArray) (j : Nat) (hN : 1 ≤ N) (hj : j < s.size) (m : Nat) (hm : m < s.size + N) : midP N s j (N + 1) m = pF N s (j + 1) m := by
  refine toG_inj (midP_in N s j _ m) (pF_in N s (j + 1) m) ?_
  have hlead : toG (pF N s j (s.size + N - 1 - j)) = bv s j + eG N s j 0 := by
    rw [toG_p, if_pos (by omega), if_pos (by omega)]
    unfold mD
    rw [if_pos (by omega), show s.size + N - 1 - (s.size + N - 1 - j) = j by omega, show s.size + N - 1 - j - (s.size + N - 1 - j) = 0 by omega]; rfl
  unfold midP
  by_cases h : s.size - 1 - j ≤ m ∧ m < s.size - 1 - j + (N + 1)
  · rw [if_pos h, toG_X (pF_in N s j m) (M_in _ _), toG_M (pF_in N s j _) (gN_in N _), hlead]
    by_cases ht : m = s.size + N - 1 - j
    · rw [ht, hlead, toG_p, if_neg (by omega)]
      have e : s.size + N - 1 - j - (s.size - 1 - j) = N := by omega
      rw [e]
      have := gG_top N
      unfold gG at this
      rw [this, m_one, a_self]
    · rw [toG_p, toG_p, if_pos (show m + j < s.size + N by omega), if_pos (show m + (j + 1) < s.size + N by omega), if_pos (show s.size ≤ m + (j + 1) by omega), eG_succ]
      have e1 : N - 1 - (s.size + N - 1 - (j + 1) - m) = m - (s.size - 1 - j) := by omega
      have e2 : s.size + N - 1 - (j + 1) - m + 1 = s.size + N - 1 - j - m := by omega
      rw [e1, e2]
      by_cases h2 : s.size ≤ m + j
      · rw [if_pos h2, if_pos (by omega)]
        unfold gG
        rw [a_assoc]
      · rw [if_neg h2, if_neg (by omega), a_zero, z_add]
        unfold gG
        rfl
  · rw [if_neg h, toG_p, toG_p]
    by_cases h1 : m + j < s.size + N
    · rw [if_pos h1, if_pos (show m + (j + 1) < s.size + N by omega), if_neg (show ¬ s.size ≤ m + j by omega), if_neg (show ¬ s.size ≤ m + (j + 1) by omega)]
    · rw [if_neg h1, if_neg (show ¬ m + (j + 1) < s.size + N by omega)]
theorem midP_set (N : Nat) (s : ByteArray) (j k : Nat) (hj : j < s.size) (hk : k < N + 1) (x : Int) (hx : x = X (midP N s j k (s.size - 1 - j + k)) (M (pF N s j (s.size + N - 1 - j)) (gN N k))) : (tb (midP N s j k) (s.size + N)).set (s.size - 1 - j + k) x = tb (midP N s j (k + 1)) (s.size + N) := by
  apply row_ext 0 (by simp [tab_len])
  intro m hm
  rw [List.length_set, tab_len] at hm
  rw [g_set, tab_get _ _ hm, tab_get _ _ hm, tab_len]
  by_cases h : s.size - 1 - j + k = m
  · rw [if_pos ⟨h, by omega⟩, hx, h]
    unfold midP
    rw [if_neg (by omega), if_pos (by omega), show m - (s.size - 1 - j) = k by omega]
  · rw [if_neg (fun q => h q.1)]
    unfold midP
    by_cases h2 : s.size - 1 - j ≤ m ∧ m < s.size - 1 - j + k
    · rw [if_pos h2, if_pos (by omega)]
    · rw [if_neg h2, if_neg (by omega)]
theorem fD_set (N : Nat) (s : ByteArray) (i : Nat) (hi : i < s.size) : (tb (fD N s i) (s.size + N)).set (s.size + N - 1 - i) (byteI s i) = tb (fD N s (i + 1)) (s.size + N) := by
  apply row_ext 0 (by simp [tab_len])
  intro m hm
  rw [List.length_set, tab_len] at hm
  rw [g_set, tab_get _ _ hm, tab_get _ _ hm, tab_len]
  unfold fD
  by_cases h : s.size + N - 1 - i = m
  · rw [if_pos ⟨h, by omega⟩, if_pos (by omega), show s.size + N - 1 - m = i by omega]
  · rw [if_neg (fun q => h q.1)]
    by_cases h2 : s.size + N - 1 - m < i ∧ N ≤ m
    · rw [if_pos h2, if_pos (by omega)]
    · rw [if_neg h2, if_neg (by omega)]
noncomputable def k22 : Code := (Try.f22.body).getD .skip
noncomputable def hp22 (N : Nat) (s : ByteArray) (f : Nat → Int) : List Seg := [.seg true (.ints .u8 (tb (gN N) (N + 1))), .seg true (.ints .u8 (tb f (s.size + N)))]
noncomputable def st22a (N : Nat) (s : ByteArray) (i : Nat) : St := ⟨slotsAt 115 [(0, .str s), (1, .int .i64 N), (6, .slice 0 0 (N + 1) (N + 1)), (8, .slice 1 0 (s.size + N) (s.size + N)), (9, .int .i64 i)], hp22 N s (fD N s i)⟩
noncomputable def inv22a (N : Nat) (s : ByteArray) : LInv := ⟨Nat, fun i => st22a N s i, fun i => i ≤ s.size, fun i => s.size - i⟩
noncomputable def st22b (N : Nat) (s : ByteArray) (j : Nat) : St := ⟨slotsAt 115 [(0, .str s), (1, .int .i64 N), (6, .slice 0 0 (N + 1) (N + 1)), (8, .slice 1 0 (s.size + N) (s.size + N)), (10, .int .i64 ((s.size : Int) + N - 1 - j))], hp22 N s (pF N s j)⟩
noncomputable def inv22b (N : Nat) (s : ByteArray) : LInv := ⟨Nat, fun j => st22b N s j, fun j => j ≤ s.size, fun j => s.size - j⟩
noncomputable def st22c (N : Nat) (s : ByteArray) (j k : Nat) : St := ⟨slotsAt 115 [(0, .str s), (1, .int .i64 N), (6, .slice 0 0 (N + 1) (N + 1)), (8, .slice 1 0 (s.size + N) (s.size + N)), (10, .int .i64 ((s.size : Int) + N - 1 - j)), (11, .int .u8 (pF N s j (s.size + N - 1 - j))), (12, .int .i64 k)], hp22 N s (midP N s j k)⟩
noncomputable def inv22c (N : Nat) (s : ByteArray) (j : Nat) : LInv := ⟨Nat, fun k => st22c N s j k, fun k => k ≤ N + 1, fun k => N + 1 - k⟩
noncomputable def st22d (N : Nat) (s : ByteArray) (t : Nat) (u : List Int) : St := ⟨slotsAt 115 [(8, .slice 0 0 (s.size + N) (s.size + N)), (13, .slice 1 0 (s.size + t) (s.size + t + u.length)), (14, .int .i64 ((N : Int) - 1 - t))], [.seg true (.ints .u8 (tb (pF N s s.size) (s.size + N))), .seg true (.ints .u8 (bytL s ++ tb (enc N s) t ++ u))]⟩
noncomputable def inv22d (N : Nat) (s : ByteArray) : LInv := ⟨Nat × List Int, fun x => st22d N s x.1 x.2, fun x => x.1 ≤ N, fun x => N - x.1⟩
def plan22 : PlanN := .op 0 (.op 1 (.op 2 (.op 4 (.op 6 (.op 7 (.op 8 (.op 10 (.op 14 (.op 15 (.op 16 (.op 17 (.op 18 (.rd 3 (.rd 5 (.rd 9 (.rd 11 (.rd 12 (.rd 13 (.op 19 (.chk [13, 12, 11, 9, 5, 3] (.op 20 (.op 21 (.op 22 .done)))))))))))))))))))))))
noncomputable def cfg22 (N : Nat) (s : ByteArray) : Cfg := { cfgP 0 with dep := fun | 14 => some (fun st => inv22c N s (s.size + N - 1 - natAt st 10)) | _ => none, plan := fun | 16 => some (.nn plan22) | _ => none }
set_option maxHeartbeats 0 in
set_option maxRecDepth 100000 in
theorem refEncode_y (N : Nat) (s : ByteArray) (h : okR (N : Int) = true) (h1 : 1 ≤ s.size) (h2 : s.size + N ≤ 255) : Fits Try.prog 22 ⟨[.str s, .int .i64 N], [], [numOut [] (.tup [.str (codeW N s), .int .i64 0])]⟩ := by
  obtain ⟨r1, r2, r3⟩ := okR_iff.1 h
  have CK := refCheck_q ((s.size : Int) + N) (N : Int)
  rw [chk_yes ⟨r1, r2, r3, by omega, by omega⟩] at CK
  have GE : Fits Try.prog 38 ⟨[.int .i64 N], [], [numOut [.seg true (.ints .u8 (tb (gN N) (N + 1)))] (.tup [.slice 0 0 (N + 1) (N + 1), .int .i64 0])]⟩ := by
    have h0 := refGen_ok N h
    rw [gen_tb] at h0
    exact h0
  refine fits_of_body (C := cfg22 N s) (c := k22) (ts := [4, 5]) tokL mixedL (fun | 6 => some (inv22a N s) | 10 => some (inv22b N s) | 19 => some (inv22d N s) | _ => none) (fun _ => none)
    Try.func22 (by kernel_rfl) (by kernel_rfl) (by kernel_rfl) (by kernel_rfl) rfl ?_
  conv => whnf
  repeat (first
    | (refine And.intro ?_ ?_; (focus (first | omega | decide | exact EqOk.mk (by kernel_rfl) (by kernel_rfl) (by kernel_rfl) | exact Int.natCast_nonneg _ | ((repeat' refine And.intro ?_ ?_) <;> first | omega | exact Int.natCast_nonneg _ | (simp only [i64max, u8max, u16max, u32max, u64max]; omega) | (simp only [mulSz_eq, Cont.len, colsLen, Col.len, List.length_cons, List.length_nil, List.length_replicate, List.length_append]; first | done | omega) | (simp [mulSz, Cont.len, bne]; first | done | omega)))); conv => whnf)
    | (refine tst_in ?_ ?_; (focus (intro h_; exfalso; first | omega | ((try simp only [decide_eq_true_eq, decide_eq_false_iff_not] at h_); omega) | (simp [mulSz, Cont.len, bne] at h_; first | done | omega))); intro _; conv => whnf)
    | (refine tst_in ?_ ?_; rotate_left; (focus (intro h_; exfalso; first | omega | ((try simp only [decide_eq_true_eq, decide_eq_false_iff_not] at h_); omega) | (simp [mulSz, Cont.len, bne] at h_; first | done | omega))); intro _; conv => whnf)
    | (refine ⟨0, (show _ = _ by omega), ?_⟩; conv => whnf))
  refine ⟨_, [], CK, ?_⟩
  conv => whnf
  iterate 2
   refine And.intro ?_ ?_
   focus
    conv => whnf
    repeat' (first | exact True.intro | rfl | refine And.intro ?_ ?_ | omega)
    all_goals (conv => whnf)
    all_goals (try (first | rfl | omega | (simp; done)))
  conv => whnf
  conv => whnf
  repeat (first
    | (refine And.intro ?_ ?_; (focus (first | omega | decide | exact EqOk.mk (by kernel_rfl) (by kernel_rfl) (by kernel_rfl) | exact Int.natCast_nonneg _ | ((repeat' refine And.intro ?_ ?_) <;> first | omega | exact Int.natCast_nonneg _ | (simp only [i64max, u8max, u16max, u32max, u64max]; omega) | (simp only [mulSz_eq, Cont.len, colsLen, Col.len, List.length_cons, List.length_nil, List.length_replicate, List.length_append]; first | done | omega) | (simp [mulSz, Cont.len, bne]; first | done | omega)))); conv => whnf)
    | (refine tst_in ?_ ?_; (focus (intro h_; exfalso; first | omega | ((try simp only [decide_eq_true_eq, decide_eq_false_iff_not] at h_); omega) | (simp [mulSz, Cont.len, bne] at h_; first | done | omega))); intro _; conv => whnf)
    | (refine tst_in ?_ ?_; rotate_left; (focus (intro h_; exfalso; first | omega | ((try simp only [decide_eq_true_eq, decide_eq_false_iff_not] at h_); omega) | (simp [mulSz, Cont.len, bne] at h_; first | done | omega))); intro _; conv => whnf)
    | (refine ⟨0, (show _ = _ by omega), ?_⟩; conv => whnf))
  refine ⟨_, [], GE, ?_⟩
  conv => whnf
  iterate 2
   refine And.intro ?_ ?_
   focus
    conv => whnf
    repeat' (first | exact True.intro | rfl | refine And.intro ?_ ?_ | omega)
    all_goals (conv => whnf)
    all_goals (try (first | rfl | omega | (simp; done)))
  conv => whnf
  refine ⟨?_, True.intro⟩
  intro _ _
  conv => whnf
  conv => whnf
  repeat (first
    | (refine And.intro ?_ ?_; (focus (first | omega | decide | exact EqOk.mk (by kernel_rfl) (by kernel_rfl) (by kernel_rfl) | exact Int.natCast_nonneg _ | ((repeat' refine And.intro ?_ ?_) <;> first | omega | exact Int.natCast_nonneg _ | (simp only [i64max, u8max, u16max, u32max, u64max]; omega) | (simp only [mulSz_eq, Cont.len, colsLen, Col.len, List.length_cons, List.length_nil, List.length_replicate, List.length_append]; first | done | omega) | (simp [mulSz, Cont.len, bne]; first | done | omega)))); conv => whnf)
    | (refine tst_in ?_ ?_; (focus (intro h_; exfalso; first | omega | ((try simp only [decide_eq_true_eq, decide_eq_false_iff_not] at h_); omega) | (simp [mulSz, Cont.len, bne] at h_; first | done | omega))); intro _; conv => whnf)
    | (refine tst_in ?_ ?_; rotate_left; (focus (intro h_; exfalso; first | omega | ((try simp only [decide_eq_true_eq, decide_eq_false_iff_not] at h_); omega) | (simp [mulSz, Cont.len, bne] at h_; first | done | omega))); intro _; conv => whnf)
    | (refine ⟨0, (show _ = _ by omega), ?_⟩; conv => whnf))
  refine ⟨⟨[0, 1], (0 : Nat), ?_, Nat.zero_le _⟩, ?_⟩
  · show stLe _ _ (st22a N s 0) _
    conv => whnf
    repeat' (first | exact True.intro | rfl | refine And.intro ?_ ?_)
    all_goals (conv => whnf)
    repeat' (first | exact True.intro | rfl | refine And.intro ?_ ?_)
    all_goals (try omega)
    rw [show ((s.size : Int) + (N : Int)).toNat = s.size + N by omega]
    exact (tab_ext 0 (List.length_replicate ..) fun k hk => by rw [g_rep, if_pos hk]; unfold fD; rw [if_neg (by omega)]).symm
  · intro (i : Nat) (hi : i ≤ s.size)
    show forceSt (st22a N s i) _
    conv => whnf
    repeat (first
      | (refine And.intro ?_ ?_; (focus (first | omega | decide | exact EqOk.mk (by kernel_rfl) (by kernel_rfl) (by kernel_rfl) | exact Int.natCast_nonneg _ | ((repeat' refine And.intro ?_ ?_) <;> first | omega | exact Int.natCast_nonneg _ | (simp only [i64max, u8max, u16max, u32max, u64max]; omega) | (simp only [mulSz_eq, Cont.len, colsLen, Col.len, List.length_cons, List.length_nil, List.length_replicate, List.length_append]; first | done | omega) | (simp [mulSz, Cont.len, bne]; first | done | omega)))); conv => whnf)
      | (refine tst_in ?_ ?_; (focus (intro h_; exfalso; first | omega | ((try simp only [decide_eq_true_eq, decide_eq_false_iff_not] at h_); omega) | (simp [mulSz, Cont.len, bne] at h_; first | done | omega))); intro _; conv => whnf)
      | (refine tst_in ?_ ?_; rotate_left; (focus (intro h_; exfalso; first | omega | ((try simp only [decide_eq_true_eq, decide_eq_false_iff_not] at h_); omega) | (simp [mulSz, Cont.len, bne] at h_; first | done | omega))); intro _; conv => whnf)
      | (refine ⟨0, (show _ = _ by omega), ?_⟩; conv => whnf))
    refine tst_in (fun hlt => ?_) (fun hge => ?_)
    · have hlt : i < s.size := by simp at hlt; omega
      conv => whnf
      repeat (first
        | (refine And.intro ?_ ?_; (focus (first | omega | decide | exact EqOk.mk (by kernel_rfl) (by kernel_rfl) (by kernel_rfl) | exact Int.natCast_nonneg _ | ((repeat' refine And.intro ?_ ?_) <;> first | omega | exact Int.natCast_nonneg _ | (simp only [i64max, u8max, u16max, u32max, u64max]; omega) | (simp only [mulSz_eq, Cont.len, colsLen, Col.len, List.length_cons, List.length_nil, List.length_replicate, List.length_append, tab_len]; first | done | omega) | (simp [mulSz, Cont.len, bne, tab_len]; first | done | omega)))); conv => whnf)
        | (refine tst_in ?_ ?_; (focus (intro h_; exfalso; first | omega | ((try simp only [decide_eq_true_eq, decide_eq_false_iff_not] at h_); omega) | (simp [mulSz, Cont.len, bne, tab_len] at h_; first | done | omega))); intro _; conv => whnf)
        | (refine tst_in ?_ ?_; rotate_left; (focus (intro h_; exfalso; first | omega | ((try simp only [decide_eq_true_eq, decide_eq_false_iff_not] at h_); omega) | (simp [mulSz, Cont.len, bne, tab_len] at h_; first | done | omega))); intro _; conv => whnf)
        | (refine ⟨(s.size+N-1-i), (show _ = _ by omega), ?_⟩; conv => whnf)
        | (refine ⟨(s.size+N-1-i), 0, (show _ = _ by omega), ?_⟩; conv => whnf)
        | (refine ⟨(s.size+N-1-i), 1, (show _ = _ by omega), ?_⟩; conv => whnf)
        | (refine ⟨(s.size+N-1-i), 2, (show _ = _ by omega), ?_⟩; conv => whnf)
        | (refine ⟨(s.size+N-1-i), 3, (show _ = _ by omega), ?_⟩; conv => whnf)
        | (refine ⟨(s.size+N-1-i), 4, (show _ = _ by omega), ?_⟩; conv => whnf)
        | (refine ⟨(s.size+N-1-i), 5, (show _ = _ by omega), ?_⟩; conv => whnf)
        | (refine ⟨0, (show _ = _ by omega), ?_⟩; conv => whnf))
      refine ⟨[0, 1], i + 1, ?_, (by show i + 1 ≤ s.size; omega), (by show s.size - (i + 1) < s.size - i; omega)⟩
      show stLe _ _ (st22a N s (i + 1)) _
      conv => whnf
      repeat' (first | exact True.intro | rfl | refine And.intro ?_ ?_)
      all_goals (conv => whnf)
      repeat' (first | exact True.intro | rfl | refine And.intro ?_ ?_)
      all_goals (try omega)
      rw [show 0 + (((s.size + N : Nat) : Int) - 1 - (i : Int)).toNat = s.size + N - 1 - i by omega]
      exact (fD_set N s i hlt).symm
    · have hge : i = s.size := by simp at hge; omega
      clear hi
      subst hge
      conv => whnf
      repeat (first
        | (refine And.intro ?_ ?_; (focus (first | omega | decide | exact EqOk.mk (by kernel_rfl) (by kernel_rfl) (by kernel_rfl) | exact Int.natCast_nonneg _ | ((repeat' refine And.intro ?_ ?_) <;> first | omega | exact Int.natCast_nonneg _ | (simp only [i64max, u8max, u16max, u32max, u64max]; omega) | (simp only [mulSz_eq, Cont.len, colsLen, Col.len, List.length_cons, List.length_nil, List.length_replicate, List.length_append, tab_len]; first | done | omega) | (simp [mulSz, Cont.len, bne, tab_len]; first | done | omega)))); conv => whnf)
        | (refine tst_in ?_ ?_; (focus (intro h_; exfalso; first | omega | ((try simp only [decide_eq_true_eq, decide_eq_false_iff_not] at h_); omega) | (simp [mulSz, Cont.len, bne, tab_len] at h_; first | done | omega))); intro _; conv => whnf)
        | (refine tst_in ?_ ?_; rotate_left; (focus (intro h_; exfalso; first | omega | ((try simp only [decide_eq_true_eq, decide_eq_false_iff_not] at h_); omega) | (simp [mulSz, Cont.len, bne, tab_len] at h_; first | done | omega))); intro _; conv => whnf)
        | (refine ⟨0, (show _ = _ by omega), ?_⟩; conv => whnf))
      refine ⟨⟨[0, 1], (0 : Nat), ?_, Nat.zero_le _⟩, ?_⟩
      · show stLe _ _ (st22b N s 0) _
        conv => whnf
        repeat' (first | exact True.intro | rfl | refine And.intro ?_ ?_)
        all_goals (conv => whnf)
        repeat' (first | exact True.intro | rfl | refine And.intro ?_ ?_)
        all_goals (try omega)
        exact tab_congr fun m hm => pF_zero N s m hm
      · intro (j : Nat) (hj : j ≤ s.size)
        show forceSt (st22b N s j) _
        conv => whnf
        repeat (first
          | (refine And.intro ?_ ?_; (focus (first | omega | decide | exact EqOk.mk (by kernel_rfl) (by kernel_rfl) (by kernel_rfl) | exact Int.natCast_nonneg _ | ((repeat' refine And.intro ?_ ?_) <;> first | omega | exact Int.natCast_nonneg _ | (simp only [i64max, u8max, u16max, u32max, u64max]; omega) | (simp only [mulSz_eq, Cont.len, colsLen, Col.len, List.length_cons, List.length_nil, List.length_replicate, List.length_append]; first | done | omega) | (simp [mulSz, Cont.len, bne]; first | done | omega)))); conv => whnf)
          | (refine tst_in ?_ ?_; (focus (intro h_; exfalso; first | omega | ((try simp only [decide_eq_true_eq, decide_eq_false_iff_not] at h_); omega) | (simp [mulSz, Cont.len, bne] at h_; first | done | omega))); intro _; conv => whnf)
          | (refine tst_in ?_ ?_; rotate_left; (focus (intro h_; exfalso; first | omega | ((try simp only [decide_eq_true_eq, decide_eq_false_iff_not] at h_); omega) | (simp [mulSz, Cont.len, bne] at h_; first | done | omega))); intro _; conv => whnf)
          | (refine ⟨0, (show _ = _ by omega), ?_⟩; conv => whnf))
        refine tst_in (fun hlt => ?_) (fun hge => ?_)
        · have hlt : j < s.size := by have : (N : Int) ≤ (s.size : Int) + N - 1 - j := of_decide_eq_true (by rw [dLe_eq] at hlt; exact hlt); omega
          have e1 : (tb (pF N s j) (s.size + N)).getD (0 + ((s.size : Int) + (N : Int) - 1 - (j : Int)).toNat) 0 = pF N s j (s.size + N - 1 - j) := by rw [show 0 + ((s.size : Int) + (N : Int) - 1 - (j : Int)).toNat = s.size + N - 1 - j by omega, tab_get _ _ (by omega)]
          conv => whnf
          repeat (first
            | (refine And.intro ?_ ?_; (focus (first | omega | decide | exact EqOk.mk (by kernel_rfl) (by kernel_rfl) (by kernel_rfl) | exact Int.natCast_nonneg _ | ((repeat' refine And.intro ?_ ?_) <;> first | omega | exact Int.natCast_nonneg _ | (simp only [i64max, u8max, u16max, u32max, u64max]; omega) | (simp only [mulSz_eq, Cont.len, colsLen, Col.len, List.length_cons, List.length_nil, List.length_replicate, List.length_append, tab_len]; first | done | omega) | (simp [mulSz, Cont.len, bne, tab_len]; first | done | omega)))); conv => whnf)
            | (refine tst_in ?_ ?_; (focus (intro h_; exfalso; first | omega | ((try simp only [decide_eq_true_eq, decide_eq_false_iff_not] at h_); omega) | (simp [mulSz, Cont.len, bne, tab_len] at h_; first | done | omega))); intro _; conv => whnf)
            | (refine tst_in ?_ ?_; rotate_left; (focus (intro h_; exfalso; first | omega | ((try simp only [decide_eq_true_eq, decide_eq_false_iff_not] at h_); omega) | (simp [mulSz, Cont.len, bne, tab_len] at h_; first | done | omega))); intro _; conv => whnf)
            | (refine ⟨(s.size+N-1-j), (show _ = _ by omega), ?_⟩; conv => whnf)
            | (refine ⟨(s.size+N-1-j), 0, (show _ = _ by omega), ?_⟩; conv => whnf)
            | (refine ⟨(s.size+N-1-j), 1, (show _ = _ by omega), ?_⟩; conv => whnf)
            | (refine ⟨(s.size+N-1-j), 2, (show _ = _ by omega), ?_⟩; conv => whnf)
            | (refine ⟨(s.size+N-1-j), 3, (show _ = _ by omega), ?_⟩; conv => whnf)
            | (refine ⟨(s.size+N-1-j), 4, (show _ = _ by omega), ?_⟩; conv => whnf)
            | (refine ⟨(s.size+N-1-j), 5, (show _ = _ by omega), ?_⟩; conv => whnf)
            | (refine ⟨0, (show _ = _ by omega), ?_⟩; conv => whnf))
          refine ⟨⟨[0, 1], (0 : Nat), ?_, Nat.zero_le _⟩, ?_⟩
          · show stLe _ _ (st22c N s (s.size + N - 1 - ((s.size : Int) + N - 1 - j).toNat) 0) _
            rw [show s.size + N - 1 - ((s.size : Int) + N - 1 - j).toNat = j by omega]
            conv => whnf
            repeat' (first | exact True.intro | rfl | refine And.intro ?_ ?_)
            all_goals (conv => whnf)
            repeat' (first | exact True.intro | rfl | refine And.intro ?_ ?_)
            all_goals (try omega)
            all_goals first | exact e1.symm | exact tab_congr fun m hm => by unfold midP; rw [if_neg (by omega)]
          · show ∀ k : Nat, k ≤ N + 1 → forceSt (st22c N s (s.size + N - 1 - ((s.size : Int) + N - 1 - j).toNat) k) _
            rw [show s.size + N - 1 - ((s.size : Int) + N - 1 - j).toNat = j by omega]
            intro k hk
            have hl := pF_in N s j (s.size + N - 1 - j)
            have T1 := refTimes_i hl (gN_in N k)
            have hm := midP_in N s j k (s.size - 1 - j + k)
            have hM := M_in (pF N s j (s.size + N - 1 - j)) (gN N k)
            unfold inB at hm hM
            conv => whnf
            repeat (first
              | (refine And.intro ?_ ?_; (focus (first | omega | decide | exact EqOk.mk (by kernel_rfl) (by kernel_rfl) (by kernel_rfl) | exact Int.natCast_nonneg _ | ((repeat' refine And.intro ?_ ?_) <;> first | omega | exact Int.natCast_nonneg _ | (simp only [i64max, u8max, u16max, u32max, u64max]; omega) | (simp only [mulSz_eq, Cont.len, colsLen, Col.len, List.length_cons, List.length_nil, List.length_replicate, List.length_append]; first | done | omega) | (simp [mulSz, Cont.len, bne]; first | done | omega)))); conv => whnf)
              | (refine tst_in ?_ ?_; (focus (intro h_; exfalso; first | omega | ((try simp only [decide_eq_true_eq, decide_eq_false_iff_not] at h_); omega) | (simp [mulSz, Cont.len, bne] at h_; first | done | omega))); intro _; conv => whnf)
              | (refine tst_in ?_ ?_; rotate_left; (focus (intro h_; exfalso; first | omega | ((try simp only [decide_eq_true_eq, decide_eq_false_iff_not] at h_); omega) | (simp [mulSz, Cont.len, bne] at h_; first | done | omega))); intro _; conv => whnf)
              | (refine ⟨0, (show _ = _ by omega), ?_⟩; conv => whnf))
            refine tst_in (fun g1 => ?_) (fun g1' => ?_)
            · have g1 : k < N + 1 := by simp at g1; omega
              have e2 : (tb (gN N) (N + 1)).getD (0 + ((k : Int)).toNat) 0 = gN N k := by rw [show 0 + ((k : Int)).toNat = k by omega, tab_get _ _ g1]
              conv => whnf
              repeat (first
                | (refine And.intro ?_ ?_; (focus (first | omega | decide | exact EqOk.mk (by kernel_rfl) (by kernel_rfl) (by kernel_rfl) | exact Int.natCast_nonneg _ | ((repeat' refine And.intro ?_ ?_) <;> first | omega | exact Int.natCast_nonneg _ | (simp only [i64max, u8max, u16max, u32max, u64max]; omega) | (simp only [mulSz_eq, Cont.len, colsLen, Col.len, List.length_cons, List.length_nil, List.length_replicate, List.length_append, tab_len]; first | done | omega) | (simp [mulSz, Cont.len, bne, tab_len]; first | done | omega)))); conv => whnf)
                | (refine tst_in ?_ ?_; (focus (intro h_; exfalso; first | omega | ((try simp only [decide_eq_true_eq, decide_eq_false_iff_not] at h_); omega) | (simp [mulSz, Cont.len, bne, tab_len] at h_; first | done | omega))); intro _; conv => whnf)
                | (refine tst_in ?_ ?_; rotate_left; (focus (intro h_; exfalso; first | omega | ((try simp only [decide_eq_true_eq, decide_eq_false_iff_not] at h_); omega) | (simp [mulSz, Cont.len, bne, tab_len] at h_; first | done | omega))); intro _; conv => whnf)
                | (refine ⟨(k), (show _ = _ by omega), ?_⟩; conv => whnf)
                | (refine ⟨(k), 0, (show _ = _ by omega), ?_⟩; conv => whnf)
                | (refine ⟨(k), 1, (show _ = _ by omega), ?_⟩; conv => whnf)
                | (refine ⟨(k), 2, (show _ = _ by omega), ?_⟩; conv => whnf)
                | (refine ⟨(k), 3, (show _ = _ by omega), ?_⟩; conv => whnf)
                | (refine ⟨(k), 4, (show _ = _ by omega), ?_⟩; conv => whnf)
                | (refine ⟨(k), 5, (show _ = _ by omega), ?_⟩; conv => whnf)
                | (refine ⟨(s.size-1-j+k), (show _ = _ by omega), ?_⟩; conv => whnf)
                | (refine ⟨(s.size-1-j+k), 0, (show _ = _ by omega), ?_⟩; conv => whnf)
                | (refine ⟨(s.size-1-j+k), 1, (show _ = _ by omega), ?_⟩; conv => whnf)
                | (refine ⟨(s.size-1-j+k), 2, (show _ = _ by omega), ?_⟩; conv => whnf)
                | (refine ⟨(s.size-1-j+k), 3, (show _ = _ by omega), ?_⟩; conv => whnf)
                | (refine ⟨(s.size-1-j+k), 4, (show _ = _ by omega), ?_⟩; conv => whnf)
                | (refine ⟨(s.size-1-j+k), 5, (show _ = _ by omega), ?_⟩; conv => whnf)
                | (refine ⟨0, (show _ = _ by omega), ?_⟩; conv => whnf))
              rw [e2]
              refine ⟨_, [], T1, ?_⟩
              conv => whnf
              iterate 2
               refine And.intro ?_ ?_
               focus
                conv => whnf
                repeat' (first | exact True.intro | rfl | refine And.intro ?_ ?_ | omega)
                all_goals (conv => whnf)
                all_goals (try (first | rfl | omega | (simp; done)))
              conv => whnf
              conv => whnf
              repeat (first
                | (refine And.intro ?_ ?_; (focus (first | omega | decide | exact EqOk.mk (by kernel_rfl) (by kernel_rfl) (by kernel_rfl) | exact Int.natCast_nonneg _ | ((repeat' refine And.intro ?_ ?_) <;> first | omega | exact Int.natCast_nonneg _ | (simp only [i64max, u8max, u16max, u32max, u64max]; omega) | (simp only [mulSz_eq, Cont.len, colsLen, Col.len, List.length_cons, List.length_nil, List.length_replicate, List.length_append, tab_len]; first | done | omega) | (simp [mulSz, Cont.len, bne, tab_len]; first | done | omega)))); conv => whnf)
                | (refine tst_in ?_ ?_; (focus (intro h_; exfalso; first | omega | ((try simp only [decide_eq_true_eq, decide_eq_false_iff_not] at h_); omega) | (simp [mulSz, Cont.len, bne, tab_len] at h_; first | done | omega))); intro _; conv => whnf)
                | (refine tst_in ?_ ?_; rotate_left; (focus (intro h_; exfalso; first | omega | ((try simp only [decide_eq_true_eq, decide_eq_false_iff_not] at h_); omega) | (simp [mulSz, Cont.len, bne, tab_len] at h_; first | done | omega))); intro _; conv => whnf)
                | (refine ⟨(k), (show _ = _ by omega), ?_⟩; conv => whnf)
                | (refine ⟨(k), 0, (show _ = _ by omega), ?_⟩; conv => whnf)
                | (refine ⟨(k), 1, (show _ = _ by omega), ?_⟩; conv => whnf)
                | (refine ⟨(k), 2, (show _ = _ by omega), ?_⟩; conv => whnf)
                | (refine ⟨(k), 3, (show _ = _ by omega), ?_⟩; conv => whnf)
                | (refine ⟨(k), 4, (show _ = _ by omega), ?_⟩; conv => whnf)
                | (refine ⟨(k), 5, (show _ = _ by omega), ?_⟩; conv => whnf)
                | (refine ⟨(s.size-1-j+k), (show _ = _ by omega), ?_⟩; conv => whnf)
                | (refine ⟨(s.size-1-j+k), 0, (show _ = _ by omega), ?_⟩; conv => whnf)
                | (refine ⟨(s.size-1-j+k), 1, (show _ = _ by omega), ?_⟩; conv => whnf)
                | (refine ⟨(s.size-1-j+k), 2, (show _ = _ by omega), ?_⟩; conv => whnf)
                | (refine ⟨(s.size-1-j+k), 3, (show _ = _ by omega), ?_⟩; conv => whnf)
                | (refine ⟨(s.size-1-j+k), 4, (show _ = _ by omega), ?_⟩; conv => whnf)
                | (refine ⟨(s.size-1-j+k), 5, (show _ = _ by omega), ?_⟩; conv => whnf)
                | (refine ⟨0, (show _ = _ by omega), ?_⟩; conv => whnf))
              have e4 : (tb (midP N s j k) (s.size + N)).getD (0 + ((s.size : Int) + (N : Int) - 1 - (j : Int) - (N : Int) + (k : Int)).toNat) 0 = midP N s j k (s.size - 1 - j + k) := by rw [show 0 + ((s.size : Int) + (N : Int) - 1 - (j : Int) - (N : Int) + (k : Int)).toNat = s.size - 1 - j + k by omega, tab_get _ _ (by omega)]
              rw [e4]
              conv => whnf
              repeat (first
                | (refine And.intro ?_ ?_; (focus (first | omega | decide | exact EqOk.mk (by kernel_rfl) (by kernel_rfl) (by kernel_rfl) | exact Int.natCast_nonneg _ | ((repeat' refine And.intro ?_ ?_) <;> first | omega | exact Int.natCast_nonneg _ | (simp only [i64max, u8max, u16max, u32max, u64max]; omega) | (simp only [mulSz_eq, Cont.len, colsLen, Col.len, List.length_cons, List.length_nil, List.length_replicate, List.length_append, tab_len, u8max]; first | done | omega) | (simp [mulSz, Cont.len, bne, tab_len, u8max]; first | done | omega)))); conv => whnf)
                | (refine tst_in ?_ ?_; (focus (intro h_; exfalso; first | omega | ((try simp only [decide_eq_true_eq, decide_eq_false_iff_not] at h_); omega) | (simp [mulSz, Cont.len, bne, tab_len, u8max] at h_; first | done | omega))); intro _; conv => whnf)
                | (refine tst_in ?_ ?_; rotate_left; (focus (intro h_; exfalso; first | omega | ((try simp only [decide_eq_true_eq, decide_eq_false_iff_not] at h_); omega) | (simp [mulSz, Cont.len, bne, tab_len, u8max] at h_; first | done | omega))); intro _; conv => whnf)
                | (refine ⟨(k), (show _ = _ by omega), ?_⟩; conv => whnf)
                | (refine ⟨(k), 0, (show _ = _ by omega), ?_⟩; conv => whnf)
                | (refine ⟨(k), 1, (show _ = _ by omega), ?_⟩; conv => whnf)
                | (refine ⟨(k), 2, (show _ = _ by omega), ?_⟩; conv => whnf)
                | (refine ⟨(k), 3, (show _ = _ by omega), ?_⟩; conv => whnf)
                | (refine ⟨(k), 4, (show _ = _ by omega), ?_⟩; conv => whnf)
                | (refine ⟨(k), 5, (show _ = _ by omega), ?_⟩; conv => whnf)
                | (refine ⟨(s.size-1-j+k), (show _ = _ by omega), ?_⟩; conv => whnf)
                | (refine ⟨(s.size-1-j+k), 0, (show _ = _ by omega), ?_⟩; conv => whnf)
                | (refine ⟨(s.size-1-j+k), 1, (show _ = _ by omega), ?_⟩; conv => whnf)
                | (refine ⟨(s.size-1-j+k), 2, (show _ = _ by omega), ?_⟩; conv => whnf)
                | (refine ⟨(s.size-1-j+k), 3, (show _ = _ by omega), ?_⟩; conv => whnf)
                | (refine ⟨(s.size-1-j+k), 4, (show _ = _ by omega), ?_⟩; conv => whnf)
                | (refine ⟨(s.size-1-j+k), 5, (show _ = _ by omega), ?_⟩; conv => whnf)
                | (refine ⟨0, (show _ = _ by omega), ?_⟩; conv => whnf))
              refine ⟨[0, 1], k + 1, ?_, (by show k + 1 ≤ N + 1; omega), (by show N + 1 - (k + 1) < N + 1 - k; omega)⟩
              show stLe _ _ (st22c N s (s.size + N - 1 - ((s.size : Int) + N - 1 - j).toNat) (k + 1)) _
              rw [show s.size + N - 1 - ((s.size : Int) + N - 1 - j).toNat = j by omega]
              conv => whnf
              repeat' (first | exact True.intro | rfl | refine And.intro ?_ ?_)
              all_goals (conv => whnf)
              repeat' (first | exact True.intro | rfl | refine And.intro ?_ ?_)
              all_goals (try omega)
              rw [show 0 + ((s.size : Int) + (N : Int) - 1 - (j : Int) - (N : Int) + (k : Int)).toNat = s.size - 1 - j + k by omega]
              exact (midP_set N s j k hlt g1 _ rfl).symm
            · have hge : k = N + 1 := by simp at g1'; omega
              subst hge
              conv => whnf
              repeat (first
                | (refine And.intro ?_ ?_; (focus (first | omega | decide | exact EqOk.mk (by kernel_rfl) (by kernel_rfl) (by kernel_rfl) | exact Int.natCast_nonneg _ | ((repeat' refine And.intro ?_ ?_) <;> first | omega | exact Int.natCast_nonneg _ | (simp only [i64max, u8max, u16max, u32max, u64max]; omega) | (simp only [mulSz_eq, Cont.len, colsLen, Col.len, List.length_cons, List.length_nil, List.length_replicate, List.length_append]; first | done | omega) | (simp [mulSz, Cont.len, bne]; first | done | omega)))); conv => whnf)
                | (refine tst_in ?_ ?_; (focus (intro h_; exfalso; first | omega | ((try simp only [decide_eq_true_eq, decide_eq_false_iff_not] at h_); omega) | (simp [mulSz, Cont.len, bne] at h_; first | done | omega))); intro _; conv => whnf)
                | (refine tst_in ?_ ?_; rotate_left; (focus (intro h_; exfalso; first | omega | ((try simp only [decide_eq_true_eq, decide_eq_false_iff_not] at h_); omega) | (simp [mulSz, Cont.len, bne] at h_; first | done | omega))); intro _; conv => whnf)
                | (refine ⟨0, (show _ = _ by omega), ?_⟩; conv => whnf))
              refine ⟨[0, 1], j + 1, ?_, (by show j + 1 ≤ s.size; omega), (by show s.size - (j + 1) < s.size - j; omega)⟩
              show stLe _ _ (st22b N s (j + 1)) _
              conv => whnf
              repeat' (first | exact True.intro | rfl | refine And.intro ?_ ?_)
              all_goals (conv => whnf)
              repeat' (first | exact True.intro | rfl | refine And.intro ?_ ?_)
              all_goals (try omega)
              exact tab_congr fun m hm => (midP_all N s j (by omega) hlt m hm).symm
        · have hge : j = s.size := by have : ¬ (N : Int) ≤ (s.size : Int) + N - 1 - j := of_decide_eq_false (by rw [dLe_eq] at hge; exact hge); omega
          clear hj
          subst hge
          conv => whnf
          repeat (first
            | (refine And.intro ?_ ?_; (focus (first | omega | decide | exact EqOk.mk (by kernel_rfl) (by kernel_rfl) (by kernel_rfl) | exact Int.natCast_nonneg _ | ((repeat' refine And.intro ?_ ?_) <;> first | omega | exact Int.natCast_nonneg _ | (simp only [i64max, u8max, u16max, u32max, u64max]; omega) | (simp only [mulSz_eq, Cont.len, colsLen, Col.len, List.length_cons, List.length_nil, List.length_replicate, List.length_append]; first | done | omega) | (simp [mulSz, Cont.len, bne]; first | done | omega)))); conv => whnf)
            | (refine tst_in ?_ ?_; (focus (intro h_; exfalso; first | omega | ((try simp only [decide_eq_true_eq, decide_eq_false_iff_not] at h_); omega) | (simp [mulSz, Cont.len, bne] at h_; first | done | omega))); intro _; conv => whnf)
            | (refine tst_in ?_ ?_; rotate_left; (focus (intro h_; exfalso; first | omega | ((try simp only [decide_eq_true_eq, decide_eq_false_iff_not] at h_); omega) | (simp [mulSz, Cont.len, bne] at h_; first | done | omega))); intro _; conv => whnf)
            | (refine ⟨0, (show _ = _ by omega), ?_⟩; conv => whnf))
          intro q
          conv => whnf
          repeat (first
            | (refine And.intro ?_ ?_; (focus (first | omega | decide | exact EqOk.mk (by kernel_rfl) (by kernel_rfl) (by kernel_rfl) | exact Int.natCast_nonneg _ | ((repeat' refine And.intro ?_ ?_) <;> first | omega | exact Int.natCast_nonneg _ | (simp only [i64max, u8max, u16max, u32max, u64max]; omega) | (simp only [mulSz_eq, Cont.len, colsLen, Col.len, List.length_cons, List.length_nil, List.length_replicate, List.length_append]; first | done | omega) | (simp [mulSz, Cont.len, bne]; first | done | omega)))); conv => whnf)
            | (refine tst_in ?_ ?_; (focus (intro h_; exfalso; first | omega | ((try simp only [decide_eq_true_eq, decide_eq_false_iff_not] at h_); omega) | (simp [mulSz, Cont.len, bne] at h_; first | done | omega))); intro _; conv => whnf)
            | (refine tst_in ?_ ?_; rotate_left; (focus (intro h_; exfalso; first | omega | ((try simp only [decide_eq_true_eq, decide_eq_false_iff_not] at h_); omega) | (simp [mulSz, Cont.len, bne] at h_; first | done | omega))); intro _; conv => whnf)
            | (refine ⟨0, (show _ = _ by omega), ?_⟩; conv => whnf))
          have hb : List.map (fun b : UInt8 => (b.toNat : Int)) s.data.toList = bytL s := rfl
          refine ⟨⟨[1, 2], (0, List.replicate q 0), ?_, Nat.zero_le _⟩, ?_⟩
          · show stLe _ _ (st22d N s 0 (List.replicate q 0)) _
            conv => whnf
            repeat' (first | exact True.intro | rfl | refine And.intro ?_ ?_)
            all_goals (conv => whnf)
            repeat' (first | exact True.intro | rfl | refine And.intro ?_ ?_)
            all_goals (try omega)
            all_goals first | (rw [List.length_replicate]; omega) | (show bytL s ++ [] ++ List.replicate q 0 = _; rw [List.append_nil, hb])
          · intro ⟨t, u⟩ (ht : t ≤ N)
            show forceSt (st22d N s t u) _
            have hpl : ∀ m, m < N → (tb (pF N s s.size) (s.size + N)).getD m 0 = enc N s (N - 1 - m) := fun m hm => by rw [tab_get _ _ (by omega), pF_last N s m hm]
            conv => whnf
            repeat (first
              | (refine And.intro ?_ ?_; (focus (first | omega | decide | exact EqOk.mk (by kernel_rfl) (by kernel_rfl) (by kernel_rfl) | exact Int.natCast_nonneg _ | ((repeat' refine And.intro ?_ ?_) <;> first | omega | exact Int.natCast_nonneg _ | (simp only [i64max, u8max, u16max, u32max, u64max]; omega) | (simp only [mulSz_eq, Cont.len, colsLen, Col.len, List.length_cons, List.length_nil, List.length_replicate, List.length_append]; first | done | omega) | (simp [mulSz, Cont.len, bne]; first | done | omega)))); conv => whnf)
              | (refine tst_in ?_ ?_; (focus (intro h_; exfalso; first | omega | ((try simp only [decide_eq_true_eq, decide_eq_false_iff_not] at h_); omega) | (simp [mulSz, Cont.len, bne] at h_; first | done | omega))); intro _; conv => whnf)
              | (refine tst_in ?_ ?_; rotate_left; (focus (intro h_; exfalso; first | omega | ((try simp only [decide_eq_true_eq, decide_eq_false_iff_not] at h_); omega) | (simp [mulSz, Cont.len, bne] at h_; first | done | omega))); intro _; conv => whnf)
              | (refine ⟨0, (show _ = _ by omega), ?_⟩; conv => whnf))
            refine tst_in (fun g1 => ?_) (fun g1' => ?_)
            · have g1 : t < N := by have : (0 : Int) ≤ (N : Int) - 1 - t := of_decide_eq_true (by rw [dLe_eq] at g1; exact g1); omega
              have e3 : (tb (pF N s s.size) (s.size + N)).getD (0 + ((N : Int) - 1 - (t : Int)).toNat) 0 = enc N s t := by rw [show 0 + ((N : Int) - 1 - (t : Int)).toNat = N - 1 - t by omega, hpl _ (by omega)]; congr 1; omega
              conv => whnf
              repeat (first
                | (refine And.intro ?_ ?_; (focus (first | omega | decide | exact EqOk.mk (by kernel_rfl) (by kernel_rfl) (by kernel_rfl) | exact Int.natCast_nonneg _ | ((repeat' refine And.intro ?_ ?_) <;> first | omega | exact Int.natCast_nonneg _ | (simp only [i64max, u8max, u16max, u32max, u64max]; omega) | (simp only [mulSz_eq, Cont.len, colsLen, Col.len, List.length_cons, List.length_nil, List.length_replicate, List.length_append, tab_len, bytL_len]; first | done | omega) | (simp [mulSz, Cont.len, bne, tab_len, bytL_len]; first | done | omega)))); conv => whnf)
                | (refine tst_in ?_ ?_; (focus (intro h_; exfalso; first | omega | ((try simp only [decide_eq_true_eq, decide_eq_false_iff_not] at h_); omega) | (simp [mulSz, Cont.len, bne, tab_len, bytL_len] at h_; first | done | omega))); intro _; conv => whnf)
                | (refine tst_in ?_ ?_; rotate_left; (focus (intro h_; exfalso; first | omega | ((try simp only [decide_eq_true_eq, decide_eq_false_iff_not] at h_); omega) | (simp [mulSz, Cont.len, bne, tab_len, bytL_len] at h_; first | done | omega))); intro _; conv => whnf)
                | (refine ⟨(N-1-t), (show _ = _ by omega), ?_⟩; conv => whnf)
                | (refine ⟨(N-1-t), 0, (show _ = _ by omega), ?_⟩; conv => whnf)
                | (refine ⟨(N-1-t), 1, (show _ = _ by omega), ?_⟩; conv => whnf)
                | (refine ⟨(N-1-t), 2, (show _ = _ by omega), ?_⟩; conv => whnf)
                | (refine ⟨(N-1-t), 3, (show _ = _ by omega), ?_⟩; conv => whnf)
                | (refine ⟨(N-1-t), 4, (show _ = _ by omega), ?_⟩; conv => whnf)
                | (refine ⟨(N-1-t), 5, (show _ = _ by omega), ?_⟩; conv => whnf)
                | (refine ⟨0, (show _ = _ by omega), ?_⟩; conv => whnf))
              intro u1
              change List Int at u1
              conv => whnf
              repeat (first
                | (refine And.intro ?_ ?_; (focus (first | omega | decide | exact EqOk.mk (by kernel_rfl) (by kernel_rfl) (by kernel_rfl) | exact Int.natCast_nonneg _ | ((repeat' refine And.intro ?_ ?_) <;> first | omega | exact Int.natCast_nonneg _ | (simp only [i64max, u8max, u16max, u32max, u64max]; omega) | (simp only [mulSz_eq, Cont.len, colsLen, Col.len, List.length_cons, List.length_nil, List.length_replicate, List.length_append]; first | done | omega) | (simp [mulSz, Cont.len, bne]; first | done | omega)))); conv => whnf)
                | (refine tst_in ?_ ?_; (focus (intro h_; exfalso; first | omega | ((try simp only [decide_eq_true_eq, decide_eq_false_iff_not] at h_); omega) | (simp [mulSz, Cont.len, bne] at h_; first | done | omega))); intro _; conv => whnf)
                | (refine tst_in ?_ ?_; rotate_left; (focus (intro h_; exfalso; first | omega | ((try simp only [decide_eq_true_eq, decide_eq_false_iff_not] at h_); omega) | (simp [mulSz, Cont.len, bne] at h_; first | done | omega))); intro _; conv => whnf)
                | (refine ⟨0, (show _ = _ by omega), ?_⟩; conv => whnf))
              refine ⟨[0, 3], (t + 1, u1), ?_, (by show t + 1 ≤ N; omega), (by show N - (t + 1) < N - t; omega)⟩
              show stLe _ _ (st22d N s (t + 1) u1) _
              conv => whnf
              repeat' (first | exact True.intro | rfl | refine And.intro ?_ ?_)
              all_goals (conv => whnf)
              repeat' (first | exact True.intro | rfl | refine And.intro ?_ ?_)
              all_goals (try omega)
              show bytL s ++ tb (enc N s) (t + 1) ++ u1 = List.take (s.size + t) (List.drop 0 (bytL s ++ tb (enc N s) t ++ u)) ++ [(tb (pF N s s.size) (s.size + N)).getD (0 + ((N : Int) - 1 - (t : Int)).toNat) 0] ++ u1
              rw [e3, List.drop_zero, List.take_left' (by rw [List.length_append, bytL_len, tab_len]), ← tab_snoc]
              simp only [List.append_assoc]
            · have hge : t = N := by have : ¬ (0 : Int) ≤ (N : Int) - 1 - t := of_decide_eq_false (by rw [dLe_eq] at g1'; exact g1'); omega
              subst hge
              conv => whnf
              repeat (first
                | (refine And.intro ?_ ?_; (focus (first | omega | decide | exact EqOk.mk (by kernel_rfl) (by kernel_rfl) (by kernel_rfl) | exact Int.natCast_nonneg _ | ((repeat' refine And.intro ?_ ?_) <;> first | omega | exact Int.natCast_nonneg _ | (simp only [i64max, u8max, u16max, u32max, u64max]; omega) | (simp only [mulSz_eq, Cont.len, colsLen, Col.len, List.length_cons, List.length_nil, List.length_replicate, List.length_append, tab_len, bytL_len]; first | done | omega) | (simp [mulSz, Cont.len, bne, tab_len, bytL_len]; first | done | omega)))); conv => whnf)
                | (refine tst_in ?_ ?_; (focus (intro h_; exfalso; first | omega | ((try simp only [decide_eq_true_eq, decide_eq_false_iff_not] at h_); omega) | (simp [mulSz, Cont.len, bne, tab_len, bytL_len] at h_; first | done | omega))); intro _; conv => whnf)
                | (refine tst_in ?_ ?_; rotate_left; (focus (intro h_; exfalso; first | omega | ((try simp only [decide_eq_true_eq, decide_eq_false_iff_not] at h_); omega) | (simp [mulSz, Cont.len, bne, tab_len, bytL_len] at h_; first | done | omega))); intro _; conv => whnf)
                | (refine ⟨0, (show _ = _ by omega), ?_⟩; conv => whnf))
              refine .inl ⟨(), [], ?_⟩
              conv => whnf
              repeat' (first | exact True.intro | rfl | refine And.intro ?_ ?_)
              all_goals (conv => whnf)
              repeat' (first | exact True.intro | rfl | refine And.intro ?_ ?_)
              all_goals (try omega)
              show codeW t s = tx (List.take (s.size + t) (List.drop 0 (bytL s ++ tb (enc t s) t ++ u)))
              rw [List.drop_zero, List.take_left' (by rw [List.length_append, bytL_len, tab_len])]
              unfold codeW
              apply bytL_inj
              rw [bytL_app, bytL_tb _ _ (fun k _ => enc_in t s k), bytL_tx _ (fun x hx => ?_)]
              rcases List.mem_append.1 hx with hx | hx
              · unfold bytL at hx
                obtain ⟨b, _, rfl⟩ := List.mem_map.1 hx
                have := UInt8.toNat_lt b
                omega
              · unfold tb at hx
                obtain ⟨k, _, rfl⟩ := List.mem_map.1 hx
                exact enc_in t s k
end Go.Proofs.Ytnjfipdhkjkklaa

set_option linter.unusedVariables false
set_option linter.unusedSimpArgs false
namespace Go.Proofs.Ytnjfipdhkjkklaa
open Go Go.Fw
end Go.Proofs.Ytnjfipdhkjkklaa

set_option linter.unusedVariables false
set_option linter.unusedSimpArgs false
namespace Go.Proofs.Ytnjfipdhkjkklaa
open Go Go.Fw
/-- The message's words, or none: how many, what is said. -/
def okM (s : ByteArray) (n r : Int) : Prop := 2 ≤ r ∧ r ≤ 64 ∧ r % 2 = 0 ∧ r < n ∧ n ≤ 255 ∧ s.size ≤ 32768
noncomputable def wN (s : ByteArray) (n r : Int) : Nat := if 2 ≤ r ∧ r ≤ 64 ∧ r % 2 = 0 ∧ r < n ∧ n ≤ 255 ∧ s.size ≤ 32768 then cnt s.size (n.toNat - r.toNat) else 0
noncomputable def wE (s : ByteArray) (n r : Int) : Int := if 2 ≤ r ∧ r ≤ 64 ∧ r % 2 = 0 ∧ r < n ∧ n ≤ 255 ∧ s.size ≤ 32768 then 0 else 1
noncomputable def wW (s : ByteArray) (n r : Int) : Nat → ByteArray := wordsT r.toNat s (n.toNat - r.toNat)
noncomputable def wOutG (s : ByteArray) (n r : Int) : FOut := ⟨List ByteArray, fun _ => True, fun u => .tup [.slice 0 0 (wN s n r) (wN s n r + u.length), .int .i64 (wE s n r)], fun u => [.seg true (.strs (tb (wW s n r) (wN s n r) ++ u))]⟩
theorem wN_no {s : ByteArray} {n r : Int} (h : ¬ okM s n r) : wN s n r = 0 ∧ wE s n r = 1 := by unfold wN wE; unfold okM at h; rw [if_neg h, if_neg h]; exact ⟨rfl, rfl⟩
theorem wN_yes {s : ByteArray} {n r : Int} (h : okM s n r) : wN s n r = cnt s.size (n.toNat - r.toNat) ∧ wE s n r = 0 := by unfold wN wE; unfold okM at h; rw [if_pos h, if_pos h]; exact ⟨rfl, rfl⟩
theorem cnt_le (n L : Nat) (hL : 1 ≤ L) : cnt n L ≤ n := by
  unfold cnt
  rw [Nat.div_le_iff_le_mul_add_pred (by omega)]
  have := Nat.le_mul_of_pos_left n (show 0 < L by omega)
  omega
theorem wN_le (s : ByteArray) (n r : Int) : wN s n r ≤ 32768 := by
  unfold wN; split
  · rename_i h
    have := cnt_le s.size (n.toNat - r.toNat) (by omega)
    omega
  · omega
set_option maxHeartbeats 0 in
set_option maxRecDepth 100000 in
theorem Words_g (s : ByteArray) (n r : Int) (hs : s.size ≤ 9223372036854775807) : Fits Try.prog 15 ⟨[.str s, .int .i64 n, .int .i64 r], [], [wOutG s n r]⟩ := by
  unfold wOutG
  by_cases h : okM s n r
  · obtain ⟨h1, h2⟩ := wN_yes h
    obtain ⟨q1, q2, q3, q4, q5, q6⟩ := id h
    rw [h1, h2]
    have := Words_y r.toNat n.toNat s (okR_iff.2 (by omega)) (by omega) (by omega) q6
    unfold wRes at this
    rw [show ((n.toNat : Nat) : Int) = n by omega, show ((r.toNat : Nat) : Int) = r by omega] at this
    exact this
  · obtain ⟨h1, h2⟩ := wN_no h
    rw [h1, h2]
    by_cases hc : 2 ≤ r ∧ r ≤ 64 ∧ r % 2 = 0 ∧ r < n ∧ n ≤ 255
    · have CK := Check_q n r
      rw [chk_yes hc] at CK
      have h3 : 32768 < s.size := by unfold okM at h; omega
      refine fits_of_body (C := cfgP 0) (c := k15) (ts := [6, 7]) tokL mixedL (fun _ => none) (fun _ => none)
        Try.func15 (by kernel_rfl) (by kernel_rfl) (by kernel_rfl) (by kernel_rfl) rfl ?_
      conv => whnf
      repeat (first
        | (refine And.intro ?_ ?_; (focus (first | omega | decide | exact EqOk.mk (by kernel_rfl) (by kernel_rfl) (by kernel_rfl) | exact Int.natCast_nonneg _ | ((repeat' refine And.intro ?_ ?_) <;> first | omega | exact Int.natCast_nonneg _ | (simp only [i64max, u8max, u16max, u32max, u64max]; omega) | (simp only [mulSz_eq, Cont.len, colsLen, Col.len, List.length_cons, List.length_nil, List.length_replicate, List.length_append]; first | done | omega) | (simp [mulSz, Cont.len, bne]; first | done | omega)))); conv => whnf)
        | (refine tst_in ?_ ?_; (focus (intro h_; exfalso; first | omega | ((try simp only [decide_eq_true_eq, decide_eq_false_iff_not] at h_); omega) | (simp [mulSz, Cont.len, bne] at h_; first | done | omega))); intro _; conv => whnf)
        | (refine tst_in ?_ ?_; rotate_left; (focus (intro h_; exfalso; first | omega | ((try simp only [decide_eq_true_eq, decide_eq_false_iff_not] at h_); omega) | (simp [mulSz, Cont.len, bne] at h_; first | done | omega))); intro _; conv => whnf)
        | (refine ⟨0, (show _ = _ by omega), ?_⟩; conv => whnf))
      refine ⟨_, [], CK, ?_⟩
      conv => whnf
      iterate 2
       refine And.intro ?_ ?_
       focus
        conv => whnf
        repeat' (first | exact True.intro | rfl | refine And.intro ?_ ?_ | omega)
        all_goals (conv => whnf)
        all_goals (try (first | rfl | omega | (simp; done)))
      conv => whnf
      conv => whnf
      repeat (first
        | (refine And.intro ?_ ?_; (focus (first | omega | decide | exact EqOk.mk (by kernel_rfl) (by kernel_rfl) (by kernel_rfl) | exact Int.natCast_nonneg _ | ((repeat' refine And.intro ?_ ?_) <;> first | omega | exact Int.natCast_nonneg _ | (simp only [i64max, u8max, u16max, u32max, u64max]; omega) | (simp only [mulSz_eq, Cont.len, colsLen, Col.len, List.length_cons, List.length_nil, List.length_replicate, List.length_append]; first | done | omega) | (simp [mulSz, Cont.len, bne]; first | done | omega)))); conv => whnf)
        | (refine tst_in ?_ ?_; (focus (intro h_; exfalso; first | omega | ((try simp only [decide_eq_true_eq, decide_eq_false_iff_not] at h_); omega) | (simp [mulSz, Cont.len, bne] at h_; first | done | omega))); intro _; conv => whnf)
        | (refine tst_in ?_ ?_; rotate_left; (focus (intro h_; exfalso; first | omega | ((try simp only [decide_eq_true_eq, decide_eq_false_iff_not] at h_); omega) | (simp [mulSz, Cont.len, bne] at h_; first | done | omega))); intro _; conv => whnf)
        | (refine ⟨0, (show _ = _ by omega), ?_⟩; conv => whnf))
      refine .inl ⟨[], [9], ?_⟩
      conv => whnf
      repeat' (first | exact True.intro | rfl | refine And.intro ?_ ?_)
      all_goals (conv => whnf)
      repeat' (first | exact True.intro | rfl | refine And.intro ?_ ?_)
      all_goals (try omega)
    · have CK := Check_q n r
      rw [chk_no hc] at CK
      refine fits_of_body (C := cfgP 0) (c := k15) (ts := [6, 7]) tokL mixedL (fun _ => none) (fun _ => none)
        Try.func15 (by kernel_rfl) (by kernel_rfl) (by kernel_rfl) (by kernel_rfl) rfl ?_
      conv => whnf
      repeat (first
        | (refine And.intro ?_ ?_; (focus (first | omega | decide | exact EqOk.mk (by kernel_rfl) (by kernel_rfl) (by kernel_rfl) | exact Int.natCast_nonneg _ | ((repeat' refine And.intro ?_ ?_) <;> first | omega | exact Int.natCast_nonneg _ | (simp only [i64max, u8max, u16max, u32max, u64max]; omega) | (simp only [mulSz_eq, Cont.len, colsLen, Col.len, List.length_cons, List.length_nil, List.length_replicate, List.length_append]; first | done | omega) | (simp [mulSz, Cont.len, bne]; first | done | omega)))); conv => whnf)
        | (refine tst_in ?_ ?_; (focus (intro h_; exfalso; first | omega | ((try simp only [decide_eq_true_eq, decide_eq_false_iff_not] at h_); omega) | (simp [mulSz, Cont.len, bne] at h_; first | done | omega))); intro _; conv => whnf)
        | (refine tst_in ?_ ?_; rotate_left; (focus (intro h_; exfalso; first | omega | ((try simp only [decide_eq_true_eq, decide_eq_false_iff_not] at h_); omega) | (simp [mulSz, Cont.len, bne] at h_; first | done | omega))); intro _; conv => whnf)
        | (refine ⟨0, (show _ = _ by omega), ?_⟩; conv => whnf))
      refine ⟨_, [], CK, ?_⟩
      conv => whnf
      iterate 2
       refine And.intro ?_ ?_
       focus
        conv => whnf
        repeat' (first | exact True.intro | rfl | refine And.intro ?_ ?_ | omega)
        all_goals (conv => whnf)
        all_goals (try (first | rfl | omega | (simp; done)))
      conv => whnf
      conv => whnf
      repeat (first
        | (refine And.intro ?_ ?_; (focus (first | omega | decide | exact EqOk.mk (by kernel_rfl) (by kernel_rfl) (by kernel_rfl) | exact Int.natCast_nonneg _ | ((repeat' refine And.intro ?_ ?_) <;> first | omega | exact Int.natCast_nonneg _ | (simp only [i64max, u8max, u16max, u32max, u64max]; omega) | (simp only [mulSz_eq, Cont.len, colsLen, Col.len, List.length_cons, List.length_nil, List.length_replicate, List.length_append]; first | done | omega) | (simp [mulSz, Cont.len, bne]; first | done | omega)))); conv => whnf)
        | (refine tst_in ?_ ?_; (focus (intro h_; exfalso; first | omega | ((try simp only [decide_eq_true_eq, decide_eq_false_iff_not] at h_); omega) | (simp [mulSz, Cont.len, bne] at h_; first | done | omega))); intro _; conv => whnf)
        | (refine tst_in ?_ ?_; rotate_left; (focus (intro h_; exfalso; first | omega | ((try simp only [decide_eq_true_eq, decide_eq_false_iff_not] at h_); omega) | (simp [mulSz, Cont.len, bne] at h_; first | done | omega))); intro _; conv => whnf)
        | (refine ⟨0, (show _ = _ by omega), ?_⟩; conv => whnf))
      refine .inl ⟨[], [9], ?_⟩
      conv => whnf
      repeat' (first | exact True.intro | rfl | refine And.intro ?_ ?_)
      all_goals (conv => whnf)
      repeat' (first | exact True.intro | rfl | refine And.intro ?_ ?_)
      all_goals (try omega)
noncomputable def k16 : Code := (Try.f16.body).getD .skip
noncomputable def st16 (N Q : Nat) (s : ByteArray) (i : Nat) (u : List ByteArray) : St := ⟨slotsAt 51 [(0, .str s), (1, .int .i64 Q), (2, .int .i64 N), (8, .slice 0 0 i (i + u.length)), (9, .int .i64 (i * (Q - N) : Nat))], [.seg true (.strs (tb (wordsT N s (Q - N)) i ++ u))]⟩
noncomputable def inv16 (N Q : Nat) (s : ByteArray) : LInv := ⟨Nat × List ByteArray, fun x => st16 N Q s x.1 x.2, fun x => x.1 = 0 ∨ (x.1 - 1) * (Q - N) < s.size, fun x => s.size - x.1 * (Q - N)⟩
set_option maxHeartbeats 0 in
set_option maxRecDepth 100000 in
theorem refWords_y (N Q : Nat) (s : ByteArray) (h : okR (N : Int) = true) (h1 : N < Q) (h2 : Q ≤ 255) (hs : s.size ≤ 32768) :
    Fits Try.prog 16 ⟨[.str s, .int .i64 Q, .int .i64 N], [], [wRes N s (Q - N)]⟩ := by
  obtain ⟨r1, r2, r3⟩ := okR_iff.1 h
  have CK := refCheck_q (Q : Int) (N : Int)
  rw [chk_yes ⟨r1, r2, r3, by omega, by omega⟩] at CK
  refine fits_of_body (C := cfgP 0) (c := k16) (ts := [6, 7]) tokL mixedL (fun | 5 => some (inv16 N Q s) | _ => none) (fun _ => none)
    Try.func16 (by kernel_rfl) (by kernel_rfl) (by kernel_rfl) (by kernel_rfl) rfl ?_
  unfold wRes
  conv => whnf
  repeat (first
    | (refine And.intro ?_ ?_; (focus (first | omega | decide | exact EqOk.mk (by kernel_rfl) (by kernel_rfl) (by kernel_rfl) | exact Int.natCast_nonneg _ | ((repeat' refine And.intro ?_ ?_) <;> first | omega | exact Int.natCast_nonneg _ | (simp only [i64max, u8max, u16max, u32max, u64max]; omega) | (simp only [mulSz_eq, Cont.len, colsLen, Col.len, List.length_cons, List.length_nil, List.length_replicate, List.length_append]; first | done | omega) | (simp [mulSz, Cont.len, bne]; first | done | omega)))); conv => whnf)
    | (refine tst_in ?_ ?_; (focus (intro h_; exfalso; first | omega | ((try simp only [decide_eq_true_eq, decide_eq_false_iff_not] at h_); omega) | (simp [mulSz, Cont.len, bne] at h_; first | done | omega))); intro _; conv => whnf)
    | (refine tst_in ?_ ?_; rotate_left; (focus (intro h_; exfalso; first | omega | ((try simp only [decide_eq_true_eq, decide_eq_false_iff_not] at h_); omega) | (simp [mulSz, Cont.len, bne] at h_; first | done | omega))); intro _; conv => whnf)
    | (refine ⟨0, (show _ = _ by omega), ?_⟩; conv => whnf))
  refine ⟨_, [], CK, ?_⟩
  conv => whnf
  iterate 2
   refine And.intro ?_ ?_
   focus
    conv => whnf
    repeat' (first | exact True.intro | rfl | refine And.intro ?_ ?_ | omega)
    all_goals (conv => whnf)
    all_goals (try (first | rfl | omega | (simp; done)))
  conv => whnf
  conv => whnf
  repeat (first
    | (refine And.intro ?_ ?_; (focus (first | omega | decide | exact EqOk.mk (by kernel_rfl) (by kernel_rfl) (by kernel_rfl) | exact Int.natCast_nonneg _ | ((repeat' refine And.intro ?_ ?_) <;> first | omega | exact Int.natCast_nonneg _ | (simp only [i64max, u8max, u16max, u32max, u64max]; omega) | (simp only [mulSz_eq, Cont.len, colsLen, Col.len, List.length_cons, List.length_nil, List.length_replicate, List.length_append]; first | done | omega) | (simp [mulSz, Cont.len, bne]; first | done | omega)))); conv => whnf)
    | (refine tst_in ?_ ?_; (focus (intro h_; exfalso; first | omega | ((try simp only [decide_eq_true_eq, decide_eq_false_iff_not] at h_); omega) | (simp [mulSz, Cont.len, bne] at h_; first | done | omega))); intro _; conv => whnf)
    | (refine tst_in ?_ ?_; rotate_left; (focus (intro h_; exfalso; first | omega | ((try simp only [decide_eq_true_eq, decide_eq_false_iff_not] at h_); omega) | (simp [mulSz, Cont.len, bne] at h_; first | done | omega))); intro _; conv => whnf)
    | (refine ⟨0, (show _ = _ by omega), ?_⟩; conv => whnf))
  refine ⟨⟨[9], (0, []), ?_, .inl rfl⟩, ?_⟩
  · show stLe _ _ (st16 N Q s 0 []) _
    conv => whnf
    repeat' (first | exact True.intro | rfl | refine And.intro ?_ ?_)
    all_goals (conv => whnf)
    repeat' (first | exact True.intro | rfl | refine And.intro ?_ ?_)
    all_goals (try omega)
    all_goals omega
  · intro ⟨i, u⟩ (hi : i = 0 ∨ (i - 1) * (Q - N) < s.size)
    show forceSt (st16 N Q s i u) _
    obtain ⟨L, hL⟩ : ∃ L, L = Q - N := ⟨_, rfl⟩
    have e2 : (i + 1) * L = i * L + L := by rw [Nat.add_mul, Nat.one_mul]
    have hil : i ≤ i * L := Nat.le_mul_of_pos_right i (by omega)
    have hi3 : i = 0 ∨ i * L < s.size + L := by
      rcases hi with h0 | h0
      · exact .inl h0
      · by_cases h00 : i = 0
        · exact .inl h00
        · refine .inr ?_
          rw [← hL] at h0
          have : i * L = (i - 1) * L + L := by conv => lhs; rw [show i = i - 1 + 1 by omega, Nat.add_mul, Nat.one_mul]
          omega
    unfold st16
    rw [← hL]
    conv => whnf
    repeat (first
      | (refine And.intro ?_ ?_; (focus (first | omega | decide | exact EqOk.mk (by kernel_rfl) (by kernel_rfl) (by kernel_rfl) | exact Int.natCast_nonneg _ | ((repeat' refine And.intro ?_ ?_) <;> first | omega | exact Int.natCast_nonneg _ | (simp only [i64max, u8max, u16max, u32max, u64max]; omega) | (simp only [mulSz_eq, Cont.len, colsLen, Col.len, List.length_cons, List.length_nil, List.length_replicate, List.length_append]; first | done | omega) | (simp [mulSz, Cont.len, bne]; first | done | omega)))); conv => whnf)
      | (refine tst_in ?_ ?_; (focus (intro h_; exfalso; first | omega | ((try simp only [decide_eq_true_eq, decide_eq_false_iff_not] at h_); omega) | (simp [mulSz, Cont.len, bne] at h_; first | done | omega))); intro _; conv => whnf)
      | (refine tst_in ?_ ?_; rotate_left; (focus (intro h_; exfalso; first | omega | ((try simp only [decide_eq_true_eq, decide_eq_false_iff_not] at h_); omega) | (simp [mulSz, Cont.len, bne] at h_; first | done | omega))); intro _; conv => whnf)
      | (refine ⟨0, (show _ = _ by omega), ?_⟩; conv => whnf))
    refine tst_in (fun g1 => ?_) (fun g1' => ?_)
    · have g1 : i * L < s.size := by
        have g2 : ((i * L : Nat) : Int) < (s.size : Int) := of_decide_eq_true (by rw [dLt_eq] at g1; exact g1)
        omega
      have hps := pieces_size s L i
      have hp1 : 1 ≤ (pieces s L i).size := by unfold pieces; rw [ByteArray.size_extract]; omega
      have EN := refEncode_y N (pieces s L i) h hp1 (by omega)
      conv => whnf
      repeat (first
        | (refine And.intro ?_ ?_; (focus (first | omega | decide | exact EqOk.mk (by kernel_rfl) (by kernel_rfl) (by kernel_rfl) | exact Int.natCast_nonneg _ | ((repeat' refine And.intro ?_ ?_) <;> first | omega | exact Int.natCast_nonneg _ | (simp only [i64max, u8max, u16max, u32max, u64max]; omega) | (simp only [mulSz_eq, Cont.len, colsLen, Col.len, List.length_cons, List.length_nil, List.length_replicate, List.length_append]; first | done | omega) | (simp [mulSz, Cont.len, bne]; first | done | omega)))); conv => whnf)
        | (refine tst_in ?_ ?_; (focus (intro h_; exfalso; first | omega | ((try simp only [decide_eq_true_eq, decide_eq_false_iff_not] at h_); omega) | (simp [mulSz, Cont.len, bne] at h_; first | done | omega))); intro _; conv => whnf)
        | (refine tst_in ?_ ?_; rotate_left; (focus (intro h_; exfalso; first | omega | ((try simp only [decide_eq_true_eq, decide_eq_false_iff_not] at h_); omega) | (simp [mulSz, Cont.len, bne] at h_; first | done | omega))); intro _; conv => whnf)
        | (refine ⟨0, (show _ = _ by omega), ?_⟩; conv => whnf))
      rw [show s.extract ((i * L : Nat) : Int).toNat (min (s.size : Int) (((i * L : Nat) : Int) + (Q : Int) - (N : Int))).toNat = pieces s L i by unfold pieces; congr 1; omega]
      refine ⟨_, [], EN, ?_⟩
      conv => whnf
      iterate 2
       refine And.intro ?_ ?_
       focus
        conv => whnf
        repeat' (first | exact True.intro | rfl | refine And.intro ?_ ?_ | omega)
        all_goals (conv => whnf)
        all_goals (try (first | rfl | omega | (simp; done)))
      conv => whnf
      refine ⟨?_, True.intro⟩
      intro _ _
      conv => whnf
      conv => whnf
      repeat (first
        | (refine And.intro ?_ ?_; (focus (first | omega | decide | exact EqOk.mk (by kernel_rfl) (by kernel_rfl) (by kernel_rfl) | exact Int.natCast_nonneg _ | ((repeat' refine And.intro ?_ ?_) <;> first | omega | exact Int.natCast_nonneg _ | (simp only [i64max, u8max, u16max, u32max, u64max]; omega) | (simp only [mulSz_eq, Cont.len, colsLen, Col.len, List.length_cons, List.length_nil, List.length_replicate, List.length_append, tab_len]; first | done | omega) | (simp [mulSz, Cont.len, bne, tab_len]; first | done | omega)))); conv => whnf)
        | (refine tst_in ?_ ?_; (focus (intro h_; exfalso; first | omega | ((try simp only [decide_eq_true_eq, decide_eq_false_iff_not] at h_); omega) | (simp [mulSz, Cont.len, bne, tab_len] at h_; first | done | omega))); intro _; conv => whnf)
        | (refine tst_in ?_ ?_; rotate_left; (focus (intro h_; exfalso; first | omega | ((try simp only [decide_eq_true_eq, decide_eq_false_iff_not] at h_); omega) | (simp [mulSz, Cont.len, bne, tab_len] at h_; first | done | omega))); intro _; conv => whnf)
        | (refine ⟨0, (show _ = _ by omega), ?_⟩; conv => whnf))
      intro u1
      change List ByteArray at u1
      conv => whnf
      repeat (first
        | (refine And.intro ?_ ?_; (focus (first | omega | decide | exact EqOk.mk (by kernel_rfl) (by kernel_rfl) (by kernel_rfl) | exact Int.natCast_nonneg _ | ((repeat' refine And.intro ?_ ?_) <;> first | omega | exact Int.natCast_nonneg _ | (simp only [i64max, u8max, u16max, u32max, u64max]; omega) | (simp only [mulSz_eq, Cont.len, colsLen, Col.len, List.length_cons, List.length_nil, List.length_replicate, List.length_append]; first | done | omega) | (simp [mulSz, Cont.len, bne]; first | done | omega)))); conv => whnf)
        | (refine tst_in ?_ ?_; (focus (intro h_; exfalso; first | omega | ((try simp only [decide_eq_true_eq, decide_eq_false_iff_not] at h_); omega) | (simp [mulSz, Cont.len, bne] at h_; first | done | omega))); intro _; conv => whnf)
        | (refine tst_in ?_ ?_; rotate_left; (focus (intro h_; exfalso; first | omega | ((try simp only [decide_eq_true_eq, decide_eq_false_iff_not] at h_); omega) | (simp [mulSz, Cont.len, bne] at h_; first | done | omega))); intro _; conv => whnf)
        | (refine ⟨0, (show _ = _ by omega), ?_⟩; conv => whnf))
      refine ⟨[2], (i + 1, u1), ?_, .inr (by show (i + 1 - 1) * (Q - N) < s.size; rw [← hL]; exact g1), (by show s.size - (i + 1) * (Q - N) < s.size - i * (Q - N); rw [← hL]; omega)⟩
      show stLe _ _ (st16 N Q s (i + 1) u1) _
      unfold st16
      rw [← hL]
      conv => whnf
      repeat' (first | exact True.intro | rfl | refine And.intro ?_ ?_)
      all_goals (conv => whnf)
      repeat' (first | exact True.intro | rfl | refine And.intro ?_ ?_)
      all_goals (try omega)
      show tb (wordsT N s L) (i + 1) ++ u1 = List.take i (List.drop 0 (tb (wordsT N s L) i ++ u)) ++ [codeW N (pieces s L i)] ++ u1
      rw [take_tb2, ← tab_snoc]; rfl
    · have g1 : s.size ≤ i * L := by
        have g2 : ¬ ((i * L : Nat) : Int) < (s.size : Int) := of_decide_eq_false (by rw [dLt_eq] at g1'; exact g1')
        omega
      have hcn : cnt s.size L = i := by
        rcases hi with h0 | h0
        · rw [h0, Nat.zero_mul] at g1
          rw [h0]
          unfold cnt
          exact Nat.div_eq_of_lt (by omega)
        · by_cases h00 : i = 0
          · rw [h00, Nat.zero_mul] at g1
            rw [h00]
            unfold cnt
            exact Nat.div_eq_of_lt (by omega)
          · rw [cnt_is s.size L (i - 1) (by omega) (by rw [hL]; exact h0) (by rw [show i - 1 + 1 = i by omega]; exact g1)]
            omega
      rw [hcn]
      conv => whnf
      repeat (first
        | (refine And.intro ?_ ?_; (focus (first | omega | decide | exact EqOk.mk (by kernel_rfl) (by kernel_rfl) (by kernel_rfl) | exact Int.natCast_nonneg _ | ((repeat' refine And.intro ?_ ?_) <;> first | omega | exact Int.natCast_nonneg _ | (simp only [i64max, u8max, u16max, u32max, u64max]; omega) | (simp only [mulSz_eq, Cont.len, colsLen, Col.len, List.length_cons, List.length_nil, List.length_replicate, List.length_append]; first | done | omega) | (simp [mulSz, Cont.len, bne]; first | done | omega)))); conv => whnf)
        | (refine tst_in ?_ ?_; (focus (intro h_; exfalso; first | omega | ((try simp only [decide_eq_true_eq, decide_eq_false_iff_not] at h_); omega) | (simp [mulSz, Cont.len, bne] at h_; first | done | omega))); intro _; conv => whnf)
        | (refine tst_in ?_ ?_; rotate_left; (focus (intro h_; exfalso; first | omega | ((try simp only [decide_eq_true_eq, decide_eq_false_iff_not] at h_); omega) | (simp [mulSz, Cont.len, bne] at h_; first | done | omega))); intro _; conv => whnf)
        | (refine ⟨0, (show _ = _ by omega), ?_⟩; conv => whnf))
      refine .inl ⟨u, [0], ?_⟩
      conv => whnf
      repeat' (first | exact True.intro | rfl | refine And.intro ?_ ?_)
      all_goals (conv => whnf)
      repeat' (first | exact True.intro | rfl | refine And.intro ?_ ?_)
      all_goals (try omega)
set_option maxHeartbeats 0 in
set_option maxRecDepth 100000 in
theorem refWords_g (s : ByteArray) (n r : Int) (hs : s.size ≤ 9223372036854775807) : Fits Try.prog 16 ⟨[.str s, .int .i64 n, .int .i64 r], [], [wOutG s n r]⟩ := by
  unfold wOutG
  by_cases h : okM s n r
  · obtain ⟨h1, h2⟩ := wN_yes h
    obtain ⟨q1, q2, q3, q4, q5, q6⟩ := id h
    rw [h1, h2]
    have := refWords_y r.toNat n.toNat s (okR_iff.2 (by omega)) (by omega) (by omega) q6
    unfold wRes at this
    rw [show ((n.toNat : Nat) : Int) = n by omega, show ((r.toNat : Nat) : Int) = r by omega] at this
    exact this
  · obtain ⟨h1, h2⟩ := wN_no h
    rw [h1, h2]
    by_cases hc : 2 ≤ r ∧ r ≤ 64 ∧ r % 2 = 0 ∧ r < n ∧ n ≤ 255
    · have CK := refCheck_q n r
      rw [chk_yes hc] at CK
      have h3 : 32768 < s.size := by unfold okM at h; omega
      refine fits_of_body (C := cfgP 0) (c := k16) (ts := [6, 7]) tokL mixedL (fun _ => none) (fun _ => none)
        Try.func16 (by kernel_rfl) (by kernel_rfl) (by kernel_rfl) (by kernel_rfl) rfl ?_
      conv => whnf
      repeat (first
        | (refine And.intro ?_ ?_; (focus (first | omega | decide | exact EqOk.mk (by kernel_rfl) (by kernel_rfl) (by kernel_rfl) | exact Int.natCast_nonneg _ | ((repeat' refine And.intro ?_ ?_) <;> first | omega | exact Int.natCast_nonneg _ | (simp only [i64max, u8max, u16max, u32max, u64max]; omega) | (simp only [mulSz_eq, Cont.len, colsLen, Col.len, List.length_cons, List.length_nil, List.length_replicate, List.length_append]; first | done | omega) | (simp [mulSz, Cont.len, bne]; first | done | omega)))); conv => whnf)
        | (refine tst_in ?_ ?_; (focus (intro h_; exfalso; first | omega | ((try simp only [decide_eq_true_eq, decide_eq_false_iff_not] at h_); omega) | (simp [mulSz, Cont.len, bne] at h_; first | done | omega))); intro _; conv => whnf)
        | (refine tst_in ?_ ?_; rotate_left; (focus (intro h_; exfalso; first | omega | ((try simp only [decide_eq_true_eq, decide_eq_false_iff_not] at h_); omega) | (simp [mulSz, Cont.len, bne] at h_; first | done | omega))); intro _; conv => whnf)
        | (refine ⟨0, (show _ = _ by omega), ?_⟩; conv => whnf))
      refine ⟨_, [], CK, ?_⟩
      conv => whnf
      iterate 2
       refine And.intro ?_ ?_
       focus
        conv => whnf
        repeat' (first | exact True.intro | rfl | refine And.intro ?_ ?_ | omega)
        all_goals (conv => whnf)
        all_goals (try (first | rfl | omega | (simp; done)))
      conv => whnf
      conv => whnf
      repeat (first
        | (refine And.intro ?_ ?_; (focus (first | omega | decide | exact EqOk.mk (by kernel_rfl) (by kernel_rfl) (by kernel_rfl) | exact Int.natCast_nonneg _ | ((repeat' refine And.intro ?_ ?_) <;> first | omega | exact Int.natCast_nonneg _ | (simp only [i64max, u8max, u16max, u32max, u64max]; omega) | (simp only [mulSz_eq, Cont.len, colsLen, Col.len, List.length_cons, List.length_nil, List.length_replicate, List.length_append]; first | done | omega) | (simp [mulSz, Cont.len, bne]; first | done | omega)))); conv => whnf)
        | (refine tst_in ?_ ?_; (focus (intro h_; exfalso; first | omega | ((try simp only [decide_eq_true_eq, decide_eq_false_iff_not] at h_); omega) | (simp [mulSz, Cont.len, bne] at h_; first | done | omega))); intro _; conv => whnf)
        | (refine tst_in ?_ ?_; rotate_left; (focus (intro h_; exfalso; first | omega | ((try simp only [decide_eq_true_eq, decide_eq_false_iff_not] at h_); omega) | (simp [mulSz, Cont.len, bne] at h_; first | done | omega))); intro _; conv => whnf)
        | (refine ⟨0, (show _ = _ by omega), ?_⟩; conv => whnf))
      refine .inl ⟨[], [9], ?_⟩
      conv => whnf
      repeat' (first | exact True.intro | rfl | refine And.intro ?_ ?_)
      all_goals (conv => whnf)
      repeat' (first | exact True.intro | rfl | refine And.intro ?_ ?_)
      all_goals (try omega)
    · have CK := refCheck_q n r
      rw [chk_no hc] at CK
      refine fits_of_body (C := cfgP 0) (c := k16) (ts := [6, 7]) tokL mixedL (fun _ => none) (fun _ => none)
        Try.func16 (by kernel_rfl) (by kernel_rfl) (by kernel_rfl) (by kernel_rfl) rfl ?_
      conv => whnf
      repeat (first
        | (refine And.intro ?_ ?_; (focus (first | omega | decide | exact EqOk.mk (by kernel_rfl) (by kernel_rfl) (by kernel_rfl) | exact Int.natCast_nonneg _ | ((repeat' refine And.intro ?_ ?_) <;> first | omega | exact Int.natCast_nonneg _ | (simp only [i64max, u8max, u16max, u32max, u64max]; omega) | (simp only [mulSz_eq, Cont.len, colsLen, Col.len, List.length_cons, List.length_nil, List.length_replicate, List.length_append]; first | done | omega) | (simp [mulSz, Cont.len, bne]; first | done | omega)))); conv => whnf)
        | (refine tst_in ?_ ?_; (focus (intro h_; exfalso; first | omega | ((try simp only [decide_eq_true_eq, decide_eq_false_iff_not] at h_); omega) | (simp [mulSz, Cont.len, bne] at h_; first | done | omega))); intro _; conv => whnf)
        | (refine tst_in ?_ ?_; rotate_left; (focus (intro h_; exfalso; first | omega | ((try simp only [decide_eq_true_eq, decide_eq_false_iff_not] at h_); omega) | (simp [mulSz, Cont.len, bne] at h_; first | done | omega))); intro _; conv => whnf)
        | (refine ⟨0, (show _ = _ by omega), ?_⟩; conv => whnf))
      refine ⟨_, [], CK, ?_⟩
      conv => whnf
      iterate 2
       refine And.intro ?_ ?_
       focus
        conv => whnf
        repeat' (first | exact True.intro | rfl | refine And.intro ?_ ?_ | omega)
        all_goals (conv => whnf)
        all_goals (try (first | rfl | omega | (simp; done)))
      conv => whnf
      conv => whnf
      repeat (first
        | (refine And.intro ?_ ?_; (focus (first | omega | decide | exact EqOk.mk (by kernel_rfl) (by kernel_rfl) (by kernel_rfl) | exact Int.natCast_nonneg _ | ((repeat' refine And.intro ?_ ?_) <;> first | omega | exact Int.natCast_nonneg _ | (simp only [i64max, u8max, u16max, u32max, u64max]; omega) | (simp only [mulSz_eq, Cont.len, colsLen, Col.len, List.length_cons, List.length_nil, List.length_replicate, List.length_append]; first | done | omega) | (simp [mulSz, Cont.len, bne]; first | done | omega)))); conv => whnf)
        | (refine tst_in ?_ ?_; (focus (intro h_; exfalso; first | omega | ((try simp only [decide_eq_true_eq, decide_eq_false_iff_not] at h_); omega) | (simp [mulSz, Cont.len, bne] at h_; first | done | omega))); intro _; conv => whnf)
        | (refine tst_in ?_ ?_; rotate_left; (focus (intro h_; exfalso; first | omega | ((try simp only [decide_eq_true_eq, decide_eq_false_iff_not] at h_); omega) | (simp [mulSz, Cont.len, bne] at h_; first | done | omega))); intro _; conv => whnf)
        | (refine ⟨0, (show _ = _ by omega), ?_⟩; conv => whnf))
      refine .inl ⟨[], [9], ?_⟩
      conv => whnf
      repeat' (first | exact True.intro | rfl | refine And.intro ?_ ?_)
      all_goals (conv => whnf)
      repeat' (first | exact True.intro | rfl | refine And.intro ?_ ?_)
      all_goals (try omega)
noncomputable def k19 : Code := (Try.f19.body).getD .skip
def st19 (W : Nat → ByteArray) (n ca cb : Nat) (t u : List ByteArray) (i : Nat) : St := ⟨slotsAt 26 [(0, .slice 0 0 n ca), (1, .slice 1 0 n cb), (5, .int .i64 i)], [.seg false (.strs (tb W n ++ t)), .seg false (.strs (tb W n ++ u))]⟩
def inv19 (W : Nat → ByteArray) (n ca cb : Nat) (t u : List ByteArray) : LInv := ⟨Nat, fun i => st19 W n ca cb t u i, fun i => i ≤ n, fun i => n - i⟩
def qf4 : Nat → Bool := fun f => match f with | 19 => true | _ => qf3 f
def cfgQ (k : Nat) : Cfg := { cfgN k with sgn := fun _ => false, q := qf4 }
set_option maxHeartbeats 0 in
set_option maxRecDepth 100000 in
theorem sameT_q (W : Nat → ByteArray) (n ca cb : Nat) (t u : List ByteArray) (hn : n ≤ 8796093022208) : QFits Try.prog 19 ⟨[.slice 0 0 n ca, .slice 1 0 n cb], [.seg false (.strs (tb W n ++ t)), .seg false (.strs (tb W n ++ u))], .bool true⟩ := by
  refine qfits_of_body (C := cfgQ 2) (c := k19) (ts := [4]) tokL mixedL (fun | 4 => some (inv19 W n ca cb t u) | _ => none) (fun _ => none)
    Try.func19 (by kernel_rfl) (by kernel_rfl) (by kernel_rfl) (by kernel_rfl) (by kernel_rfl) rfl rfl ?_
  conv => whnf
  repeat (first
    | (refine And.intro ?_ ?_; (focus (first | omega | decide | exact EqOk.mk (by kernel_rfl) (by kernel_rfl) (by kernel_rfl) | exact Int.natCast_nonneg _ | ((repeat' refine And.intro ?_ ?_) <;> first | omega | exact Int.natCast_nonneg _ | (simp only [i64max, u8max, u16max, u32max, u64max]; omega) | (simp only [mulSz_eq, Cont.len, colsLen, Col.len, List.length_cons, List.length_nil, List.length_replicate, List.length_append]; first | done | omega) | (simp [mulSz, Cont.len, bne]; first | done | omega)))); conv => whnf)
    | (refine tst_in ?_ ?_; (focus (intro h_; exfalso; first | omega | ((try simp only [decide_eq_true_eq, decide_eq_false_iff_not] at h_); omega) | (simp [mulSz, Cont.len, bne] at h_; first | done | omega))); intro _; conv => whnf)
    | (refine tst_in ?_ ?_; rotate_left; (focus (intro h_; exfalso; first | omega | ((try simp only [decide_eq_true_eq, decide_eq_false_iff_not] at h_); omega) | (simp [mulSz, Cont.len, bne] at h_; first | done | omega))); intro _; conv => whnf)
    | (refine ⟨0, (show _ = _ by omega), ?_⟩; conv => whnf))
  refine ⟨⟨[0, 1], (0 : Nat), ?_, Nat.zero_le _⟩, ?_⟩
  · show stLe _ _ (st19 W n ca cb t u 0) _
    conv => whnf
    repeat' (first | exact True.intro | rfl | refine And.intro ?_ ?_)
    all_goals (conv => whnf)
    repeat' (first | exact True.intro | rfl | refine And.intro ?_ ?_)
    all_goals (try omega)
  · intro (i : Nat) (hi : i ≤ n)
    show forceSt (st19 W n ca cb t u i) _
    conv => whnf
    repeat (first
      | (refine And.intro ?_ ?_; (focus (first | omega | decide | exact EqOk.mk (by kernel_rfl) (by kernel_rfl) (by kernel_rfl) | exact Int.natCast_nonneg _ | ((repeat' refine And.intro ?_ ?_) <;> first | omega | exact Int.natCast_nonneg _ | (simp only [i64max, u8max, u16max, u32max, u64max]; omega) | (simp only [mulSz_eq, Cont.len, colsLen, Col.len, List.length_cons, List.length_nil, List.length_replicate, List.length_append]; first | done | omega) | (simp [mulSz, Cont.len, bne]; first | done | omega)))); conv => whnf)
      | (refine tst_in ?_ ?_; (focus (intro h_; exfalso; first | omega | ((try simp only [decide_eq_true_eq, decide_eq_false_iff_not] at h_); omega) | (simp [mulSz, Cont.len, bne] at h_; first | done | omega))); intro _; conv => whnf)
      | (refine tst_in ?_ ?_; rotate_left; (focus (intro h_; exfalso; first | omega | ((try simp only [decide_eq_true_eq, decide_eq_false_iff_not] at h_); omega) | (simp [mulSz, Cont.len, bne] at h_; first | done | omega))); intro _; conv => whnf)
      | (refine ⟨0, (show _ = _ by omega), ?_⟩; conv => whnf))
    refine tst_in (fun g1 => ?_) (fun g1' => ?_)
    · have g1 : i < n := by simp at g1; omega
      have a1 : (tb W n ++ t).getD i ByteArray.empty = W i := tab_app _ _ _ g1
      have a2 : (tb W n ++ u).getD i ByteArray.empty = W i := tab_app _ _ _ g1
      conv => whnf
      repeat (first
        | (refine And.intro ?_ ?_; (focus (first | omega | decide | exact EqOk.mk (by kernel_rfl) (by kernel_rfl) (by kernel_rfl) | exact Int.natCast_nonneg _ | ((repeat' refine And.intro ?_ ?_) <;> first | omega | exact Int.natCast_nonneg _ | (simp only [i64max, u8max, u16max, u32max, u64max]; omega) | (simp only [mulSz_eq, Cont.len, colsLen, Col.len, List.length_cons, List.length_nil, List.length_replicate, List.length_append, tab_len]; first | done | omega) | (simp [mulSz, Cont.len, bne, tab_len]; first | done | omega)))); conv => whnf)
        | (refine tst_in ?_ ?_; (focus (intro h_; exfalso; first | omega | ((try simp only [decide_eq_true_eq, decide_eq_false_iff_not] at h_); omega) | (simp [mulSz, Cont.len, bne, tab_len] at h_; first | done | omega))); intro _; conv => whnf)
        | (refine tst_in ?_ ?_; rotate_left; (focus (intro h_; exfalso; first | omega | ((try simp only [decide_eq_true_eq, decide_eq_false_iff_not] at h_); omega) | (simp [mulSz, Cont.len, bne, tab_len] at h_; first | done | omega))); intro _; conv => whnf)
        | (refine ⟨(i), (show _ = _ by omega), ?_⟩; conv => whnf)
        | (refine ⟨(i), 0, (show _ = _ by omega), ?_⟩; conv => whnf)
        | (refine ⟨(i), 1, (show _ = _ by omega), ?_⟩; conv => whnf)
        | (refine ⟨(i), 2, (show _ = _ by omega), ?_⟩; conv => whnf)
        | (refine ⟨(i), 3, (show _ = _ by omega), ?_⟩; conv => whnf)
        | (refine ⟨(i), 4, (show _ = _ by omega), ?_⟩; conv => whnf)
        | (refine ⟨(i), 5, (show _ = _ by omega), ?_⟩; conv => whnf)
        | (refine ⟨0, (show _ = _ by omega), ?_⟩; conv => whnf))
      rw [show 0 + ((i : Int)).toNat = i by omega, a1, a2, eqSelf]
      conv => whnf
      repeat (first
        | (refine And.intro ?_ ?_; (focus (first | omega | decide | exact EqOk.mk (by kernel_rfl) (by kernel_rfl) (by kernel_rfl) | exact Int.natCast_nonneg _ | ((repeat' refine And.intro ?_ ?_) <;> first | omega | exact Int.natCast_nonneg _ | (simp only [i64max, u8max, u16max, u32max, u64max]; omega) | (simp only [mulSz_eq, Cont.len, colsLen, Col.len, List.length_cons, List.length_nil, List.length_replicate, List.length_append]; first | done | omega) | (simp [mulSz, Cont.len, bne]; first | done | omega)))); conv => whnf)
        | (refine tst_in ?_ ?_; (focus (intro h_; exfalso; first | omega | ((try simp only [decide_eq_true_eq, decide_eq_false_iff_not] at h_); omega) | (simp [mulSz, Cont.len, bne] at h_; first | done | omega))); intro _; conv => whnf)
        | (refine tst_in ?_ ?_; rotate_left; (focus (intro h_; exfalso; first | omega | ((try simp only [decide_eq_true_eq, decide_eq_false_iff_not] at h_); omega) | (simp [mulSz, Cont.len, bne] at h_; first | done | omega))); intro _; conv => whnf)
        | (refine ⟨0, (show _ = _ by omega), ?_⟩; conv => whnf))
      refine ⟨[0, 1], i + 1, ?_, (by show i + 1 ≤ n; omega), (by show n - (i + 1) < n - i; omega)⟩
      show stLe _ _ (st19 W n ca cb t u (i + 1)) _
      conv => whnf
      repeat' (first | exact True.intro | rfl | refine And.intro ?_ ?_)
      all_goals (conv => whnf)
      repeat' (first | exact True.intro | rfl | refine And.intro ?_ ?_)
      all_goals (try omega)
    · have hge : i = n := by simp at g1'; omega
      conv => whnf
      repeat (first
        | (refine And.intro ?_ ?_; (focus (first | omega | decide | exact EqOk.mk (by kernel_rfl) (by kernel_rfl) (by kernel_rfl) | exact Int.natCast_nonneg _ | ((repeat' refine And.intro ?_ ?_) <;> first | omega | exact Int.natCast_nonneg _ | (simp only [i64max, u8max, u16max, u32max, u64max]; omega) | (simp only [mulSz_eq, Cont.len, colsLen, Col.len, List.length_cons, List.length_nil, List.length_replicate, List.length_append]; first | done | omega) | (simp [mulSz, Cont.len, bne]; first | done | omega)))); conv => whnf)
        | (refine tst_in ?_ ?_; (focus (intro h_; exfalso; first | omega | ((try simp only [decide_eq_true_eq, decide_eq_false_iff_not] at h_); omega) | (simp [mulSz, Cont.len, bne] at h_; first | done | omega))); intro _; conv => whnf)
        | (refine tst_in ?_ ?_; rotate_left; (focus (intro h_; exfalso; first | omega | ((try simp only [decide_eq_true_eq, decide_eq_false_iff_not] at h_); omega) | (simp [mulSz, Cont.len, bne] at h_; first | done | omega))); intro _; conv => whnf)
        | (refine ⟨0, (show _ = _ by omega), ?_⟩; conv => whnf))
end Go.Proofs.Ytnjfipdhkjkklaa

set_option linter.unusedVariables false
set_option linter.unusedSimpArgs false
namespace Go.Proofs.Ytnjfipdhkjkklaa
open Go Go.Fw
noncomputable def k18 : Code := (Try.f18.body).getD .skip
noncomputable def st18a (W : Nat → ByteArray) (n ca N : Nat) (t : List ByteArray) (i : Nat) (u : List Int) : St := ⟨slotsAt 66 [(0, .slice 0 0 n ca), (1, .int .i64 N), (6, .slice 1 0 (catD W N i).length ((catD W N i).length + u.length)), (7, .int .i64 i)], [.seg false (.strs (tb W n ++ t)), .seg true (.ints .u8 (catD W N i ++ u))]⟩
noncomputable def inv18a (W : Nat → ByteArray) (n ca N : Nat) (t : List ByteArray) : LInv := ⟨Nat × List Int, fun x => st18a W n ca N t x.1 x.2, fun x => x.1 ≤ n ∧ (∀ j, j < x.1 → goodW W N j), fun x => n - x.1⟩
noncomputable def st18b (W : Nat → ByteArray) (n ca N : Nat) (t : List ByteArray) (i : Nat) (u : List Int) : St := ⟨slotsAt 66 [(0, .slice 0 0 n ca), (1, .int .i64 N), (6, .slice 1 0 (catD W N n).length ((catD W N n).length + u.length)), (8, .int .i64 i)], [.seg false (.strs (tb W n ++ t)), .seg true (.ints .u8 (catD W N n ++ u))]⟩
noncomputable def inv18b (W : Nat → ByteArray) (n ca N : Nat) (t : List ByteArray) : LInv := ⟨Nat × List Int, fun x => st18b W n ca N t x.1 x.2, fun x => x.1 ≤ n ∧ (∀ j, j < x.1 → whl N (W j)), fun x => n - x.1⟩
theorem tot_bound (W : Nat → ByteArray) (N : Nat) : ∀ n, (∀ j, j < n → goodW W N j) → tot W N n ≤ 255 * n
  | 0, _ => Nat.le_refl _
  | n + 1, h => by
    have := tot_bound W N n fun j hj => h j (by omega)
    have h2 := (h n (by omega)).2
    show tot W N n + _ ≤ _
    omega
set_option maxHeartbeats 0 in
set_option maxRecDepth 100000 in
theorem refMessage_y (W : Nat → ByteArray) (n ca N : Nat) (t : List ByteArray) (X : ByteArray) (e : Int) (h : okR (N : Int) = true) (hn : n ≤ 1048576) (hca : n ≤ ca) (hW : ∀ i, i < n → (W i).size ≤ 140737488355328) (hM : Msg W N n X e) :
    Fits Try.prog 18 ⟨[.slice 0 0 n ca, .int .i64 N], [.seg false (.strs (tb W n ++ t))], [numOut [.dead] (.tup [.str X, .int .i64 e])]⟩ := by
  obtain ⟨r1, r2, r3⟩ := okR_iff.1 h
  have CK := refCheck_q ((N : Int) + 1) (N : Int)
  rw [chk_yes ⟨r1, r2, r3, by omega, by omega⟩] at CK
  refine fits_of_body (C := cfgP 1) (c := k18) (ts := [4, 5]) tokL mixedL (fun | 5 => some (inv18a W n ca N t) | 13 => some (inv18b W n ca N t) | _ => none) (fun _ => none)
    Try.func18 (by kernel_rfl) (by kernel_rfl) (by kernel_rfl) (by kernel_rfl) rfl ?_
  conv => whnf
  repeat (first
    | (refine And.intro ?_ ?_; (focus (first | omega | decide | exact EqOk.mk (by kernel_rfl) (by kernel_rfl) (by kernel_rfl) | exact Int.natCast_nonneg _ | ((repeat' refine And.intro ?_ ?_) <;> first | omega | exact Int.natCast_nonneg _ | (simp only [i64max, u8max, u16max, u32max, u64max]; omega) | (simp only [mulSz_eq, Cont.len, colsLen, Col.len, List.length_cons, List.length_nil, List.length_replicate, List.length_append]; first | done | omega) | (simp [mulSz, Cont.len, bne]; first | done | omega)))); conv => whnf)
    | (refine tst_in ?_ ?_; (focus (intro h_; exfalso; first | omega | ((try simp only [decide_eq_true_eq, decide_eq_false_iff_not] at h_); omega) | (simp [mulSz, Cont.len, bne] at h_; first | done | omega))); intro _; conv => whnf)
    | (refine tst_in ?_ ?_; rotate_left; (focus (intro h_; exfalso; first | omega | ((try simp only [decide_eq_true_eq, decide_eq_false_iff_not] at h_); omega) | (simp [mulSz, Cont.len, bne] at h_; first | done | omega))); intro _; conv => whnf)
    | (refine ⟨0, (show _ = _ by omega), ?_⟩; conv => whnf))
  refine ⟨_, [], CK, ?_⟩
  conv => whnf
  iterate 2
   refine And.intro ?_ ?_
   focus
    conv => whnf
    repeat' (first | exact True.intro | rfl | refine And.intro ?_ ?_ | omega)
    all_goals (conv => whnf)
    all_goals (try (first | rfl | omega | (simp; done)))
  conv => whnf
  conv => whnf
  repeat (first
    | (refine And.intro ?_ ?_; (focus (first | omega | decide | exact EqOk.mk (by kernel_rfl) (by kernel_rfl) (by kernel_rfl) | exact Int.natCast_nonneg _ | ((repeat' refine And.intro ?_ ?_) <;> first | omega | exact Int.natCast_nonneg _ | (simp only [i64max, u8max, u16max, u32max, u64max]; omega) | (simp only [mulSz_eq, Cont.len, colsLen, Col.len, List.length_cons, List.length_nil, List.length_replicate, List.length_append]; first | done | omega) | (simp [mulSz, Cont.len, bne]; first | done | omega)))); conv => whnf)
    | (refine tst_in ?_ ?_; (focus (intro h_; exfalso; first | omega | ((try simp only [decide_eq_true_eq, decide_eq_false_iff_not] at h_); omega) | (simp [mulSz, Cont.len, bne] at h_; first | done | omega))); intro _; conv => whnf)
    | (refine tst_in ?_ ?_; rotate_left; (focus (intro h_; exfalso; first | omega | ((try simp only [decide_eq_true_eq, decide_eq_false_iff_not] at h_); omega) | (simp [mulSz, Cont.len, bne] at h_; first | done | omega))); intro _; conv => whnf)
    | (refine ⟨0, (show _ = _ by omega), ?_⟩; conv => whnf))
  refine ⟨⟨[0, 9], (0, []), ?_, ⟨Nat.zero_le _, fun j hj => absurd hj (by omega)⟩⟩, ?_⟩
  · show stLe _ _ (st18a W n ca N t 0 []) _
    conv => whnf
    repeat' (first | exact True.intro | rfl | refine And.intro ?_ ?_)
    all_goals (conv => whnf)
    repeat' (first | exact True.intro | rfl | refine And.intro ?_ ?_)
    all_goals (try omega)
  · intro ⟨i, u⟩ ⟨(hi : i ≤ n), (hg : ∀ j, j < i → goodW W N j)⟩
    show forceSt (st18a W n ca N t i u) _
    conv => whnf
    repeat (first
      | (refine And.intro ?_ ?_; (focus (first | omega | decide | exact EqOk.mk (by kernel_rfl) (by kernel_rfl) (by kernel_rfl) | exact Int.natCast_nonneg _ | ((repeat' refine And.intro ?_ ?_) <;> first | omega | exact Int.natCast_nonneg _ | (simp only [i64max, u8max, u16max, u32max, u64max]; omega) | (simp only [mulSz_eq, Cont.len, colsLen, Col.len, List.length_cons, List.length_nil, List.length_replicate, List.length_append]; first | done | omega) | (simp [mulSz, Cont.len, bne]; first | done | omega)))); conv => whnf)
      | (refine tst_in ?_ ?_; (focus (intro h_; exfalso; first | omega | ((try simp only [decide_eq_true_eq, decide_eq_false_iff_not] at h_); omega) | (simp [mulSz, Cont.len, bne] at h_; first | done | omega))); intro _; conv => whnf)
      | (refine tst_in ?_ ?_; rotate_left; (focus (intro h_; exfalso; first | omega | ((try simp only [decide_eq_true_eq, decide_eq_false_iff_not] at h_); omega) | (simp [mulSz, Cont.len, bne] at h_; first | done | omega))); intro _; conv => whnf)
      | (refine ⟨0, (show _ = _ by omega), ?_⟩; conv => whnf))
    refine tst_in (fun g1 => ?_) (fun g1' => ?_)
    · have hlt : i < n := by simp at g1; omega
      have a1 : (tb W n ++ t).getD i ByteArray.empty = W i := tab_app _ _ _ hlt
      have hz := hW i hlt
      have hdz := dataT_size N (W i)
      have hcl := catD_len W N i
      have htb := tot_bound W N i hg
      by_cases hgi : goodW W N i
      · obtain ⟨q1, q2⟩ := id hgi
        have C2 := refCheck_q ((W i).size : Int) (N : Int)
        rw [chk_yes ⟨r1, r2, r3, by omega, by omega⟩] at C2
        conv => whnf
        repeat (first
          | (refine And.intro ?_ ?_; (focus (first | omega | decide | exact EqOk.mk (by kernel_rfl) (by kernel_rfl) (by kernel_rfl) | exact Int.natCast_nonneg _ | ((repeat' refine And.intro ?_ ?_) <;> first | omega | exact Int.natCast_nonneg _ | (simp only [i64max, u8max, u16max, u32max, u64max]; omega) | (simp only [mulSz_eq, Cont.len, colsLen, Col.len, List.length_cons, List.length_nil, List.length_replicate, List.length_append, tab_len]; first | done | omega) | (simp [mulSz, Cont.len, bne, tab_len]; first | done | omega)))); conv => whnf)
          | (refine tst_in ?_ ?_; (focus (intro h_; exfalso; first | omega | ((try simp only [decide_eq_true_eq, decide_eq_false_iff_not] at h_); omega) | (simp [mulSz, Cont.len, bne, tab_len] at h_; first | done | omega))); intro _; conv => whnf)
          | (refine tst_in ?_ ?_; rotate_left; (focus (intro h_; exfalso; first | omega | ((try simp only [decide_eq_true_eq, decide_eq_false_iff_not] at h_); omega) | (simp [mulSz, Cont.len, bne, tab_len] at h_; first | done | omega))); intro _; conv => whnf)
          | (refine ⟨(i), (show _ = _ by omega), ?_⟩; conv => whnf)
          | (refine ⟨(i), 0, (show _ = _ by omega), ?_⟩; conv => whnf)
          | (refine ⟨(i), 1, (show _ = _ by omega), ?_⟩; conv => whnf)
          | (refine ⟨(i), 2, (show _ = _ by omega), ?_⟩; conv => whnf)
          | (refine ⟨(i), 3, (show _ = _ by omega), ?_⟩; conv => whnf)
          | (refine ⟨(i), 4, (show _ = _ by omega), ?_⟩; conv => whnf)
          | (refine ⟨(i), 5, (show _ = _ by omega), ?_⟩; conv => whnf)
          | (refine ⟨0, (show _ = _ by omega), ?_⟩; conv => whnf))
        rw [show 0 + ((i : Int)).toNat = i by omega, a1]
        conv => whnf
        repeat (first
          | (refine And.intro ?_ ?_; (focus (first | omega | decide | exact EqOk.mk (by kernel_rfl) (by kernel_rfl) (by kernel_rfl) | exact Int.natCast_nonneg _ | ((repeat' refine And.intro ?_ ?_) <;> first | omega | exact Int.natCast_nonneg _ | (simp only [i64max, u8max, u16max, u32max, u64max]; omega) | (simp only [mulSz_eq, Cont.len, colsLen, Col.len, List.length_cons, List.length_nil, List.length_replicate, List.length_append]; first | done | omega) | (simp [mulSz, Cont.len, bne]; first | done | omega)))); conv => whnf)
          | (refine tst_in ?_ ?_; (focus (intro h_; exfalso; first | omega | ((try simp only [decide_eq_true_eq, decide_eq_false_iff_not] at h_); omega) | (simp [mulSz, Cont.len, bne] at h_; first | done | omega))); intro _; conv => whnf)
          | (refine tst_in ?_ ?_; rotate_left; (focus (intro h_; exfalso; first | omega | ((try simp only [decide_eq_true_eq, decide_eq_false_iff_not] at h_); omega) | (simp [mulSz, Cont.len, bne] at h_; first | done | omega))); intro _; conv => whnf)
          | (refine ⟨0, (show _ = _ by omega), ?_⟩; conv => whnf))
        refine ⟨_, [], C2, ?_⟩
        conv => whnf
        iterate 2
         refine And.intro ?_ ?_
         focus
          conv => whnf
          repeat' (first | exact True.intro | rfl | refine And.intro ?_ ?_ | omega)
          all_goals (conv => whnf)
          all_goals (try (first | rfl | omega | (simp; done)))
        conv => whnf
        conv => whnf
        repeat (first
          | (refine And.intro ?_ ?_; (focus (first | omega | decide | exact EqOk.mk (by kernel_rfl) (by kernel_rfl) (by kernel_rfl) | exact Int.natCast_nonneg _ | ((repeat' refine And.intro ?_ ?_) <;> first | omega | exact Int.natCast_nonneg _ | (simp only [i64max, u8max, u16max, u32max, u64max]; omega) | (simp only [mulSz_eq, Cont.len, colsLen, Col.len, List.length_cons, List.length_nil, List.length_replicate, List.length_append, tab_len]; first | done | omega) | (simp [mulSz, Cont.len, bne, tab_len]; first | done | omega)))); conv => whnf)
          | (refine tst_in ?_ ?_; (focus (intro h_; exfalso; first | omega | ((try simp only [decide_eq_true_eq, decide_eq_false_iff_not] at h_); omega) | (simp [mulSz, Cont.len, bne, tab_len] at h_; first | done | omega))); intro _; conv => whnf)
          | (refine tst_in ?_ ?_; rotate_left; (focus (intro h_; exfalso; first | omega | ((try simp only [decide_eq_true_eq, decide_eq_false_iff_not] at h_); omega) | (simp [mulSz, Cont.len, bne, tab_len] at h_; first | done | omega))); intro _; conv => whnf)
          | (refine ⟨(i), (show _ = _ by omega), ?_⟩; conv => whnf)
          | (refine ⟨(i), 0, (show _ = _ by omega), ?_⟩; conv => whnf)
          | (refine ⟨(i), 1, (show _ = _ by omega), ?_⟩; conv => whnf)
          | (refine ⟨(i), 2, (show _ = _ by omega), ?_⟩; conv => whnf)
          | (refine ⟨(i), 3, (show _ = _ by omega), ?_⟩; conv => whnf)
          | (refine ⟨(i), 4, (show _ = _ by omega), ?_⟩; conv => whnf)
          | (refine ⟨(i), 5, (show _ = _ by omega), ?_⟩; conv => whnf)
          | (refine ⟨0, (show _ = _ by omega), ?_⟩; conv => whnf))
        rw [show 0 + ((i : Int)).toNat = i by omega, a1]
        conv => whnf
        repeat (first
          | (refine And.intro ?_ ?_; (focus (first | omega | decide | exact EqOk.mk (by kernel_rfl) (by kernel_rfl) (by kernel_rfl) | exact Int.natCast_nonneg _ | ((repeat' refine And.intro ?_ ?_) <;> first | omega | exact Int.natCast_nonneg _ | (simp only [i64max, u8max, u16max, u32max, u64max]; omega) | (simp only [mulSz_eq, Cont.len, colsLen, Col.len, List.length_cons, List.length_nil, List.length_replicate, List.length_append, tab_len]; first | done | omega) | (simp [mulSz, Cont.len, bne, tab_len]; first | done | omega)))); conv => whnf)
          | (refine tst_in ?_ ?_; (focus (intro h_; exfalso; first | omega | ((try simp only [decide_eq_true_eq, decide_eq_false_iff_not] at h_); omega) | (simp [mulSz, Cont.len, bne, tab_len] at h_; first | done | omega))); intro _; conv => whnf)
          | (refine tst_in ?_ ?_; rotate_left; (focus (intro h_; exfalso; first | omega | ((try simp only [decide_eq_true_eq, decide_eq_false_iff_not] at h_); omega) | (simp [mulSz, Cont.len, bne, tab_len] at h_; first | done | omega))); intro _; conv => whnf)
          | (refine ⟨(i), (show _ = _ by omega), ?_⟩; conv => whnf)
          | (refine ⟨(i), 0, (show _ = _ by omega), ?_⟩; conv => whnf)
          | (refine ⟨(i), 1, (show _ = _ by omega), ?_⟩; conv => whnf)
          | (refine ⟨(i), 2, (show _ = _ by omega), ?_⟩; conv => whnf)
          | (refine ⟨(i), 3, (show _ = _ by omega), ?_⟩; conv => whnf)
          | (refine ⟨(i), 4, (show _ = _ by omega), ?_⟩; conv => whnf)
          | (refine ⟨(i), 5, (show _ = _ by omega), ?_⟩; conv => whnf)
          | (refine ⟨0, (show _ = _ by omega), ?_⟩; conv => whnf))
        rw [show (W i).extract 0 (((W i).size : Int) - (N : Int)).toNat = dataT N (W i) by unfold dataT; congr 1; omega]
        conv => whnf
        repeat (first
          | (refine And.intro ?_ ?_; (focus (first | omega | decide | exact EqOk.mk (by kernel_rfl) (by kernel_rfl) (by kernel_rfl) | exact Int.natCast_nonneg _ | ((repeat' refine And.intro ?_ ?_) <;> first | omega | exact Int.natCast_nonneg _ | (simp only [i64max, u8max, u16max, u32max, u64max]; omega) | (simp only [mulSz_eq, Cont.len, colsLen, Col.len, List.length_cons, List.length_nil, List.length_replicate, List.length_append, tab_len]; first | done | omega) | (simp [mulSz, Cont.len, bne, tab_len]; first | done | omega)))); conv => whnf)
          | (refine tst_in ?_ ?_; (focus (intro h_; exfalso; first | omega | ((try simp only [decide_eq_true_eq, decide_eq_false_iff_not] at h_); omega) | (simp [mulSz, Cont.len, bne, tab_len] at h_; first | done | omega))); intro _; conv => whnf)
          | (refine tst_in ?_ ?_; rotate_left; (focus (intro h_; exfalso; first | omega | ((try simp only [decide_eq_true_eq, decide_eq_false_iff_not] at h_); omega) | (simp [mulSz, Cont.len, bne, tab_len] at h_; first | done | omega))); intro _; conv => whnf)
          | (refine ⟨(i), (show _ = _ by omega), ?_⟩; conv => whnf)
          | (refine ⟨(i), 0, (show _ = _ by omega), ?_⟩; conv => whnf)
          | (refine ⟨(i), 1, (show _ = _ by omega), ?_⟩; conv => whnf)
          | (refine ⟨(i), 2, (show _ = _ by omega), ?_⟩; conv => whnf)
          | (refine ⟨(i), 3, (show _ = _ by omega), ?_⟩; conv => whnf)
          | (refine ⟨(i), 4, (show _ = _ by omega), ?_⟩; conv => whnf)
          | (refine ⟨(i), 5, (show _ = _ by omega), ?_⟩; conv => whnf)
          | (refine ⟨0, (show _ = _ by omega), ?_⟩; conv => whnf))
        intro u1
        change List Int at u1
        conv => whnf
        repeat (first
          | (refine And.intro ?_ ?_; (focus (first | omega | decide | exact EqOk.mk (by kernel_rfl) (by kernel_rfl) (by kernel_rfl) | exact Int.natCast_nonneg _ | ((repeat' refine And.intro ?_ ?_) <;> first | omega | exact Int.natCast_nonneg _ | (simp only [i64max, u8max, u16max, u32max, u64max]; omega) | (simp only [mulSz_eq, Cont.len, colsLen, Col.len, List.length_cons, List.length_nil, List.length_replicate, List.length_append]; first | done | omega) | (simp [mulSz, Cont.len, bne]; first | done | omega)))); conv => whnf)
          | (refine tst_in ?_ ?_; (focus (intro h_; exfalso; first | omega | ((try simp only [decide_eq_true_eq, decide_eq_false_iff_not] at h_); omega) | (simp [mulSz, Cont.len, bne] at h_; first | done | omega))); intro _; conv => whnf)
          | (refine tst_in ?_ ?_; rotate_left; (focus (intro h_; exfalso; first | omega | ((try simp only [decide_eq_true_eq, decide_eq_false_iff_not] at h_); omega) | (simp [mulSz, Cont.len, bne] at h_; first | done | omega))); intro _; conv => whnf)
          | (refine ⟨0, (show _ = _ by omega), ?_⟩; conv => whnf))
        refine ⟨[0, 2], (i + 1, u1), ?_, ⟨(by show i + 1 ≤ n; omega), fun j hj => (by by_cases h : j = i; (subst h; exact hgi); exact hg j (by omega))⟩, (by show n - (i + 1) < n - i; omega)⟩
        have hcl2 : (catD W N (i + 1)).length = (catD W N i).length + (dataT N (W i)).size := by show (catD W N i ++ bytL (dataT N (W i))).length = _; rw [List.length_append, bytL_len]
        show stLe _ _ (st18a W n ca N t (i + 1) u1) _
        conv => whnf
        repeat' (first | exact True.intro | rfl | refine And.intro ?_ ?_)
        all_goals (conv => whnf)
        repeat' (first | exact True.intro | rfl | refine And.intro ?_ ?_)
        all_goals (try omega)
        all_goals first | exact hcl2 | (rw [hcl2]; done) | (show catD W N i ++ bytL (dataT N (W i)) ++ u1 = List.take (catD W N i).length _ ++ bytL (dataT N (W i)) ++ u1; rw [List.drop_zero, List.take_left' rfl])
      · obtain ⟨rfl, rfl⟩ := msg_bad hM hlt hgi
        have C2 := refCheck_q ((W i).size : Int) (N : Int)
        rw [chk_no (fun q => hgi ⟨by omega, by omega⟩)] at C2
        conv => whnf
        repeat (first
          | (refine And.intro ?_ ?_; (focus (first | omega | decide | exact EqOk.mk (by kernel_rfl) (by kernel_rfl) (by kernel_rfl) | exact Int.natCast_nonneg _ | ((repeat' refine And.intro ?_ ?_) <;> first | omega | exact Int.natCast_nonneg _ | (simp only [i64max, u8max, u16max, u32max, u64max]; omega) | (simp only [mulSz_eq, Cont.len, colsLen, Col.len, List.length_cons, List.length_nil, List.length_replicate, List.length_append, tab_len]; first | done | omega) | (simp [mulSz, Cont.len, bne, tab_len]; first | done | omega)))); conv => whnf)
          | (refine tst_in ?_ ?_; (focus (intro h_; exfalso; first | omega | ((try simp only [decide_eq_true_eq, decide_eq_false_iff_not] at h_); omega) | (simp [mulSz, Cont.len, bne, tab_len] at h_; first | done | omega))); intro _; conv => whnf)
          | (refine tst_in ?_ ?_; rotate_left; (focus (intro h_; exfalso; first | omega | ((try simp only [decide_eq_true_eq, decide_eq_false_iff_not] at h_); omega) | (simp [mulSz, Cont.len, bne, tab_len] at h_; first | done | omega))); intro _; conv => whnf)
          | (refine ⟨(i), (show _ = _ by omega), ?_⟩; conv => whnf)
          | (refine ⟨(i), 0, (show _ = _ by omega), ?_⟩; conv => whnf)
          | (refine ⟨(i), 1, (show _ = _ by omega), ?_⟩; conv => whnf)
          | (refine ⟨(i), 2, (show _ = _ by omega), ?_⟩; conv => whnf)
          | (refine ⟨(i), 3, (show _ = _ by omega), ?_⟩; conv => whnf)
          | (refine ⟨(i), 4, (show _ = _ by omega), ?_⟩; conv => whnf)
          | (refine ⟨(i), 5, (show _ = _ by omega), ?_⟩; conv => whnf)
          | (refine ⟨0, (show _ = _ by omega), ?_⟩; conv => whnf))
        rw [show 0 + ((i : Int)).toNat = i by omega, a1]
        conv => whnf
        repeat (first
          | (refine And.intro ?_ ?_; (focus (first | omega | decide | exact EqOk.mk (by kernel_rfl) (by kernel_rfl) (by kernel_rfl) | exact Int.natCast_nonneg _ | ((repeat' refine And.intro ?_ ?_) <;> first | omega | exact Int.natCast_nonneg _ | (simp only [i64max, u8max, u16max, u32max, u64max]; omega) | (simp only [mulSz_eq, Cont.len, colsLen, Col.len, List.length_cons, List.length_nil, List.length_replicate, List.length_append]; first | done | omega) | (simp [mulSz, Cont.len, bne]; first | done | omega)))); conv => whnf)
          | (refine tst_in ?_ ?_; (focus (intro h_; exfalso; first | omega | ((try simp only [decide_eq_true_eq, decide_eq_false_iff_not] at h_); omega) | (simp [mulSz, Cont.len, bne] at h_; first | done | omega))); intro _; conv => whnf)
          | (refine tst_in ?_ ?_; rotate_left; (focus (intro h_; exfalso; first | omega | ((try simp only [decide_eq_true_eq, decide_eq_false_iff_not] at h_); omega) | (simp [mulSz, Cont.len, bne] at h_; first | done | omega))); intro _; conv => whnf)
          | (refine ⟨0, (show _ = _ by omega), ?_⟩; conv => whnf))
        refine ⟨_, [], C2, ?_⟩
        conv => whnf
        iterate 2
         refine And.intro ?_ ?_
         focus
          conv => whnf
          repeat' (first | exact True.intro | rfl | refine And.intro ?_ ?_ | omega)
          all_goals (conv => whnf)
          all_goals (try (first | rfl | omega | (simp; done)))
        conv => whnf
        conv => whnf
        repeat (first
          | (refine And.intro ?_ ?_; (focus (first | omega | decide | exact EqOk.mk (by kernel_rfl) (by kernel_rfl) (by kernel_rfl) | exact Int.natCast_nonneg _ | ((repeat' refine And.intro ?_ ?_) <;> first | omega | exact Int.natCast_nonneg _ | (simp only [i64max, u8max, u16max, u32max, u64max]; omega) | (simp only [mulSz_eq, Cont.len, colsLen, Col.len, List.length_cons, List.length_nil, List.length_replicate, List.length_append]; first | done | omega) | (simp [mulSz, Cont.len, bne]; first | done | omega)))); conv => whnf)
          | (refine tst_in ?_ ?_; (focus (intro h_; exfalso; first | omega | ((try simp only [decide_eq_true_eq, decide_eq_false_iff_not] at h_); omega) | (simp [mulSz, Cont.len, bne] at h_; first | done | omega))); intro _; conv => whnf)
          | (refine tst_in ?_ ?_; rotate_left; (focus (intro h_; exfalso; first | omega | ((try simp only [decide_eq_true_eq, decide_eq_false_iff_not] at h_); omega) | (simp [mulSz, Cont.len, bne] at h_; first | done | omega))); intro _; conv => whnf)
          | (refine ⟨0, (show _ = _ by omega), ?_⟩; conv => whnf))
        refine .inl ⟨(), [0], ?_⟩
        conv => whnf
        repeat' (first | exact True.intro | rfl | refine And.intro ?_ ?_)
        all_goals (conv => whnf)
        repeat' (first | exact True.intro | rfl | refine And.intro ?_ ?_)
        all_goals (try omega)
    · have hge : i = n := by simp at g1'; omega
      rw [hge] at hg ⊢
      clear hi g1'
      have hcl := catD_len W N n
      conv => whnf
      repeat (first
        | (refine And.intro ?_ ?_; (focus (first | omega | decide | exact EqOk.mk (by kernel_rfl) (by kernel_rfl) (by kernel_rfl) | exact Int.natCast_nonneg _ | ((repeat' refine And.intro ?_ ?_) <;> first | omega | exact Int.natCast_nonneg _ | (simp only [i64max, u8max, u16max, u32max, u64max]; omega) | (simp only [mulSz_eq, Cont.len, colsLen, Col.len, List.length_cons, List.length_nil, List.length_replicate, List.length_append]; first | done | omega) | (simp [mulSz, Cont.len, bne]; first | done | omega)))); conv => whnf)
        | (refine tst_in ?_ ?_; (focus (intro h_; exfalso; first | omega | ((try simp only [decide_eq_true_eq, decide_eq_false_iff_not] at h_); omega) | (simp [mulSz, Cont.len, bne] at h_; first | done | omega))); intro _; conv => whnf)
        | (refine tst_in ?_ ?_; rotate_left; (focus (intro h_; exfalso; first | omega | ((try simp only [decide_eq_true_eq, decide_eq_false_iff_not] at h_); omega) | (simp [mulSz, Cont.len, bne] at h_; first | done | omega))); intro _; conv => whnf)
        | (refine ⟨0, (show _ = _ by omega), ?_⟩; conv => whnf))
      refine tst_in (fun g2 => ?_) (fun g2' => ?_)
      · have g2 : 32768 < tot W N n := by simp at g2; omega
        obtain ⟨rfl, rfl⟩ := msg_long hM n (Nat.le_refl _) g2
        conv => whnf
        repeat (first
          | (refine And.intro ?_ ?_; (focus (first | omega | decide | exact EqOk.mk (by kernel_rfl) (by kernel_rfl) (by kernel_rfl) | exact Int.natCast_nonneg _ | ((repeat' refine And.intro ?_ ?_) <;> first | omega | exact Int.natCast_nonneg _ | (simp only [i64max, u8max, u16max, u32max, u64max]; omega) | (simp only [mulSz_eq, Cont.len, colsLen, Col.len, List.length_cons, List.length_nil, List.length_replicate, List.length_append]; first | done | omega) | (simp [mulSz, Cont.len, bne]; first | done | omega)))); conv => whnf)
          | (refine tst_in ?_ ?_; (focus (intro h_; exfalso; first | omega | ((try simp only [decide_eq_true_eq, decide_eq_false_iff_not] at h_); omega) | (simp [mulSz, Cont.len, bne] at h_; first | done | omega))); intro _; conv => whnf)
          | (refine tst_in ?_ ?_; rotate_left; (focus (intro h_; exfalso; first | omega | ((try simp only [decide_eq_true_eq, decide_eq_false_iff_not] at h_); omega) | (simp [mulSz, Cont.len, bne] at h_; first | done | omega))); intro _; conv => whnf)
          | (refine ⟨0, (show _ = _ by omega), ?_⟩; conv => whnf))
        refine .inl ⟨(), [0], ?_⟩
        conv => whnf
        repeat' (first | exact True.intro | rfl | refine And.intro ?_ ?_)
        all_goals (conv => whnf)
        repeat' (first | exact True.intro | rfl | refine And.intro ?_ ?_)
        all_goals (try omega)
      · have g2 : tot W N n ≤ 32768 := by simp at g2'; omega
        conv => whnf
        repeat (first
          | (refine And.intro ?_ ?_; (focus (first | omega | decide | exact EqOk.mk (by kernel_rfl) (by kernel_rfl) (by kernel_rfl) | exact Int.natCast_nonneg _ | ((repeat' refine And.intro ?_ ?_) <;> first | omega | exact Int.natCast_nonneg _ | (simp only [i64max, u8max, u16max, u32max, u64max]; omega) | (simp only [mulSz_eq, Cont.len, colsLen, Col.len, List.length_cons, List.length_nil, List.length_replicate, List.length_append]; first | done | omega) | (simp [mulSz, Cont.len, bne]; first | done | omega)))); conv => whnf)
          | (refine tst_in ?_ ?_; (focus (intro h_; exfalso; first | omega | ((try simp only [decide_eq_true_eq, decide_eq_false_iff_not] at h_); omega) | (simp [mulSz, Cont.len, bne] at h_; first | done | omega))); intro _; conv => whnf)
          | (refine tst_in ?_ ?_; rotate_left; (focus (intro h_; exfalso; first | omega | ((try simp only [decide_eq_true_eq, decide_eq_false_iff_not] at h_); omega) | (simp [mulSz, Cont.len, bne] at h_; first | done | omega))); intro _; conv => whnf)
          | (refine ⟨0, (show _ = _ by omega), ?_⟩; conv => whnf))
        refine ⟨⟨[0, 1], (0, u), ?_, ⟨Nat.zero_le _, fun j hj => absurd hj (by omega)⟩⟩, ?_⟩
        · show stLe _ _ (st18b W n ca N t 0 u) _
          conv => whnf
          repeat' (first | exact True.intro | rfl | refine And.intro ?_ ?_)
          all_goals (conv => whnf)
          repeat' (first | exact True.intro | rfl | refine And.intro ?_ ?_)
          all_goals (try omega)
        · intro ⟨i, u⟩ ⟨(hi : i ≤ n), (hw : ∀ j, j < i → whl N (W j))⟩
          show forceSt (st18b W n ca N t i u) _
          conv => whnf
          repeat (first
            | (refine And.intro ?_ ?_; (focus (first | omega | decide | exact EqOk.mk (by kernel_rfl) (by kernel_rfl) (by kernel_rfl) | exact Int.natCast_nonneg _ | ((repeat' refine And.intro ?_ ?_) <;> first | omega | exact Int.natCast_nonneg _ | (simp only [i64max, u8max, u16max, u32max, u64max]; omega) | (simp only [mulSz_eq, Cont.len, colsLen, Col.len, List.length_cons, List.length_nil, List.length_replicate, List.length_append]; first | done | omega) | (simp [mulSz, Cont.len, bne]; first | done | omega)))); conv => whnf)
            | (refine tst_in ?_ ?_; (focus (intro h_; exfalso; first | omega | ((try simp only [decide_eq_true_eq, decide_eq_false_iff_not] at h_); omega) | (simp [mulSz, Cont.len, bne] at h_; first | done | omega))); intro _; conv => whnf)
            | (refine tst_in ?_ ?_; rotate_left; (focus (intro h_; exfalso; first | omega | ((try simp only [decide_eq_true_eq, decide_eq_false_iff_not] at h_); omega) | (simp [mulSz, Cont.len, bne] at h_; first | done | omega))); intro _; conv => whnf)
            | (refine ⟨0, (show _ = _ by omega), ?_⟩; conv => whnf))
          refine tst_in (fun g1 => ?_) (fun g1' => ?_)
          · have hlt : i < n := by simp at g1; omega
            have a1 : (tb W n ++ t).getD i ByteArray.empty = W i := tab_app _ _ _ hlt
            obtain ⟨q1, q2⟩ := hg i hlt
            have WH := refWhole_y N (W i) h q1 q2
            conv => whnf
            repeat (first
              | (refine And.intro ?_ ?_; (focus (first | omega | decide | exact EqOk.mk (by kernel_rfl) (by kernel_rfl) (by kernel_rfl) | exact Int.natCast_nonneg _ | ((repeat' refine And.intro ?_ ?_) <;> first | omega | exact Int.natCast_nonneg _ | (simp only [i64max, u8max, u16max, u32max, u64max]; omega) | (simp only [mulSz_eq, Cont.len, colsLen, Col.len, List.length_cons, List.length_nil, List.length_replicate, List.length_append, tab_len]; first | done | omega) | (simp [mulSz, Cont.len, bne, tab_len]; first | done | omega)))); conv => whnf)
              | (refine tst_in ?_ ?_; (focus (intro h_; exfalso; first | omega | ((try simp only [decide_eq_true_eq, decide_eq_false_iff_not] at h_); omega) | (simp [mulSz, Cont.len, bne, tab_len] at h_; first | done | omega))); intro _; conv => whnf)
              | (refine tst_in ?_ ?_; rotate_left; (focus (intro h_; exfalso; first | omega | ((try simp only [decide_eq_true_eq, decide_eq_false_iff_not] at h_); omega) | (simp [mulSz, Cont.len, bne, tab_len] at h_; first | done | omega))); intro _; conv => whnf)
              | (refine ⟨(i), (show _ = _ by omega), ?_⟩; conv => whnf)
              | (refine ⟨(i), 0, (show _ = _ by omega), ?_⟩; conv => whnf)
              | (refine ⟨(i), 1, (show _ = _ by omega), ?_⟩; conv => whnf)
              | (refine ⟨(i), 2, (show _ = _ by omega), ?_⟩; conv => whnf)
              | (refine ⟨(i), 3, (show _ = _ by omega), ?_⟩; conv => whnf)
              | (refine ⟨(i), 4, (show _ = _ by omega), ?_⟩; conv => whnf)
              | (refine ⟨(i), 5, (show _ = _ by omega), ?_⟩; conv => whnf)
              | (refine ⟨0, (show _ = _ by omega), ?_⟩; conv => whnf))
            rw [show 0 + ((i : Int)).toNat = i by omega, a1]
            by_cases hwi : whl N (W i)
            · rw [show ((codeW N ((W i).extract 0 ((W i).size - N))).toList == (W i).toList) = true by rw [beq_bytes]; exact decide_eq_true hwi] at WH
              refine ⟨_, [], WH, ?_⟩
              conv => whnf
              iterate 2
               refine And.intro ?_ ?_
               focus
                conv => whnf
                repeat' (first | exact True.intro | rfl | refine And.intro ?_ ?_ | omega)
                all_goals (conv => whnf)
                all_goals (try (first | rfl | omega | (simp; done)))
              conv => whnf
              refine ⟨?_, True.intro⟩
              intro _ _
              conv => whnf
              conv => whnf
              repeat (first
                | (refine And.intro ?_ ?_; (focus (first | omega | decide | exact EqOk.mk (by kernel_rfl) (by kernel_rfl) (by kernel_rfl) | exact Int.natCast_nonneg _ | ((repeat' refine And.intro ?_ ?_) <;> first | omega | exact Int.natCast_nonneg _ | (simp only [i64max, u8max, u16max, u32max, u64max]; omega) | (simp only [mulSz_eq, Cont.len, colsLen, Col.len, List.length_cons, List.length_nil, List.length_replicate, List.length_append]; first | done | omega) | (simp [mulSz, Cont.len, bne]; first | done | omega)))); conv => whnf)
                | (refine tst_in ?_ ?_; (focus (intro h_; exfalso; first | omega | ((try simp only [decide_eq_true_eq, decide_eq_false_iff_not] at h_); omega) | (simp [mulSz, Cont.len, bne] at h_; first | done | omega))); intro _; conv => whnf)
                | (refine tst_in ?_ ?_; rotate_left; (focus (intro h_; exfalso; first | omega | ((try simp only [decide_eq_true_eq, decide_eq_false_iff_not] at h_); omega) | (simp [mulSz, Cont.len, bne] at h_; first | done | omega))); intro _; conv => whnf)
                | (refine ⟨0, (show _ = _ by omega), ?_⟩; conv => whnf))
              refine ⟨[0, 1], (i + 1, u), ?_, ⟨(by show i + 1 ≤ n; omega), fun j hj => (by by_cases h : j = i; (subst h; exact hwi); exact hw j (by omega))⟩, (by show n - (i + 1) < n - i; omega)⟩
              show stLe _ _ (st18b W n ca N t (i + 1) u) _
              conv => whnf
              repeat' (first | exact True.intro | rfl | refine And.intro ?_ ?_)
              all_goals (conv => whnf)
              repeat' (first | exact True.intro | rfl | refine And.intro ?_ ?_)
              all_goals (try omega)
            · rw [show ((codeW N ((W i).extract 0 ((W i).size - N))).toList == (W i).toList) = false by rw [beq_bytes]; exact decide_eq_false hwi] at WH
              obtain ⟨rfl, rfl⟩ := msg_none hM hg g2 hlt hwi
              refine ⟨_, [], WH, ?_⟩
              conv => whnf
              iterate 2
               refine And.intro ?_ ?_
               focus
                conv => whnf
                repeat' (first | exact True.intro | rfl | refine And.intro ?_ ?_ | omega)
                all_goals (conv => whnf)
                all_goals (try (first | rfl | omega | (simp; done)))
              conv => whnf
              refine ⟨?_, True.intro⟩
              intro _ _
              conv => whnf
              conv => whnf
              repeat (first
                | (refine And.intro ?_ ?_; (focus (first | omega | decide | exact EqOk.mk (by kernel_rfl) (by kernel_rfl) (by kernel_rfl) | exact Int.natCast_nonneg _ | ((repeat' refine And.intro ?_ ?_) <;> first | omega | exact Int.natCast_nonneg _ | (simp only [i64max, u8max, u16max, u32max, u64max]; omega) | (simp only [mulSz_eq, Cont.len, colsLen, Col.len, List.length_cons, List.length_nil, List.length_replicate, List.length_append]; first | done | omega) | (simp [mulSz, Cont.len, bne]; first | done | omega)))); conv => whnf)
                | (refine tst_in ?_ ?_; (focus (intro h_; exfalso; first | omega | ((try simp only [decide_eq_true_eq, decide_eq_false_iff_not] at h_); omega) | (simp [mulSz, Cont.len, bne] at h_; first | done | omega))); intro _; conv => whnf)
                | (refine tst_in ?_ ?_; rotate_left; (focus (intro h_; exfalso; first | omega | ((try simp only [decide_eq_true_eq, decide_eq_false_iff_not] at h_); omega) | (simp [mulSz, Cont.len, bne] at h_; first | done | omega))); intro _; conv => whnf)
                | (refine ⟨0, (show _ = _ by omega), ?_⟩; conv => whnf))
              refine .inl ⟨(), [0], ?_⟩
              conv => whnf
              repeat' (first | exact True.intro | rfl | refine And.intro ?_ ?_)
              all_goals (conv => whnf)
              repeat' (first | exact True.intro | rfl | refine And.intro ?_ ?_)
              all_goals (try omega)
          · have hge : i = n := by simp at g1'; omega
            subst hge
            obtain ⟨hX, rfl⟩ := msg_all hM hg g2 hw
            conv => whnf
            repeat (first
              | (refine And.intro ?_ ?_; (focus (first | omega | decide | exact EqOk.mk (by kernel_rfl) (by kernel_rfl) (by kernel_rfl) | exact Int.natCast_nonneg _ | ((repeat' refine And.intro ?_ ?_) <;> first | omega | exact Int.natCast_nonneg _ | (simp only [i64max, u8max, u16max, u32max, u64max]; omega) | (simp only [mulSz_eq, Cont.len, colsLen, Col.len, List.length_cons, List.length_nil, List.length_replicate, List.length_append]; first | done | omega) | (simp [mulSz, Cont.len, bne]; first | done | omega)))); conv => whnf)
              | (refine tst_in ?_ ?_; (focus (intro h_; exfalso; first | omega | ((try simp only [decide_eq_true_eq, decide_eq_false_iff_not] at h_); omega) | (simp [mulSz, Cont.len, bne] at h_; first | done | omega))); intro _; conv => whnf)
              | (refine tst_in ?_ ?_; rotate_left; (focus (intro h_; exfalso; first | omega | ((try simp only [decide_eq_true_eq, decide_eq_false_iff_not] at h_); omega) | (simp [mulSz, Cont.len, bne] at h_; first | done | omega))); intro _; conv => whnf)
              | (refine ⟨0, (show _ = _ by omega), ?_⟩; conv => whnf))
            refine .inl ⟨(), [0], ?_⟩
            conv => whnf
            repeat' (first | exact True.intro | rfl | refine And.intro ?_ ?_)
            all_goals (conv => whnf)
            repeat' (first | exact True.intro | rfl | refine And.intro ?_ ?_)
            all_goals (try omega)
            show X = tx _
            rw [List.drop_zero, List.take_left' rfl, ← hX, tx_bytL]
set_option maxHeartbeats 0 in
set_option maxRecDepth 100000 in
theorem refMessage_r (n ca : Nat) (l : List ByteArray) (r : Int) (hr : -9223372036854775808 ≤ r ∧ r ≤ 9223372036854775807) (h : ¬ okR r = true) :
    Fits Try.prog 18 ⟨[.slice 0 0 n ca, .int .i64 r], [.seg false (.strs l)], [numOut [.dead] (.tup [.str ⟨#[]⟩, .int .i64 1])]⟩ := by
  have CK := refCheck_q (IntKind.i64.wrap (r + 1)) r
  rw [chk_no (fun q => h (okR_iff.2 ⟨q.1, q.2.1, q.2.2.1⟩))] at CK
  refine fits_of_body (C := { cfgP 1 with wr := fun i => Nat.beq i 1 }) (c := k18) (ts := [4, 5]) tokL mixedL (fun _ => none) (fun _ => none)
    Try.func18 (by kernel_rfl) (by kernel_rfl) (by kernel_rfl) (by kernel_rfl) rfl ?_
  conv => whnf
  repeat (first
    | (refine And.intro ?_ ?_; (focus (first | omega | decide | exact EqOk.mk (by kernel_rfl) (by kernel_rfl) (by kernel_rfl) | exact Int.natCast_nonneg _ | ((repeat' refine And.intro ?_ ?_) <;> first | omega | exact Int.natCast_nonneg _ | (simp only [i64max, u8max, u16max, u32max, u64max]; omega) | (simp only [mulSz_eq, Cont.len, colsLen, Col.len, List.length_cons, List.length_nil, List.length_replicate, List.length_append]; first | done | omega) | (simp [mulSz, Cont.len, bne]; first | done | omega)))); conv => whnf)
    | (refine tst_in ?_ ?_; (focus (intro h_; exfalso; first | omega | ((try simp only [decide_eq_true_eq, decide_eq_false_iff_not] at h_); omega) | (simp [mulSz, Cont.len, bne] at h_; first | done | omega))); intro _; conv => whnf)
    | (refine tst_in ?_ ?_; rotate_left; (focus (intro h_; exfalso; first | omega | ((try simp only [decide_eq_true_eq, decide_eq_false_iff_not] at h_); omega) | (simp [mulSz, Cont.len, bne] at h_; first | done | omega))); intro _; conv => whnf)
    | (refine ⟨0, (show _ = _ by omega), ?_⟩; conv => whnf))
  refine ⟨_, [], CK, ?_⟩
  conv => whnf
  iterate 2
   refine And.intro ?_ ?_
   focus
    conv => whnf
    repeat' (first | exact True.intro | rfl | refine And.intro ?_ ?_ | omega)
    all_goals (conv => whnf)
    all_goals (try (first | rfl | omega | (simp; done)))
  conv => whnf
  conv => whnf
  repeat (first
    | (refine And.intro ?_ ?_; (focus (first | omega | decide | exact EqOk.mk (by kernel_rfl) (by kernel_rfl) (by kernel_rfl) | exact Int.natCast_nonneg _ | ((repeat' refine And.intro ?_ ?_) <;> first | omega | exact Int.natCast_nonneg _ | (simp only [i64max, u8max, u16max, u32max, u64max]; omega) | (simp only [mulSz_eq, Cont.len, colsLen, Col.len, List.length_cons, List.length_nil, List.length_replicate, List.length_append]; first | done | omega) | (simp [mulSz, Cont.len, bne]; first | done | omega)))); conv => whnf)
    | (refine tst_in ?_ ?_; (focus (intro h_; exfalso; first | omega | ((try simp only [decide_eq_true_eq, decide_eq_false_iff_not] at h_); omega) | (simp [mulSz, Cont.len, bne] at h_; first | done | omega))); intro _; conv => whnf)
    | (refine tst_in ?_ ?_; rotate_left; (focus (intro h_; exfalso; first | omega | ((try simp only [decide_eq_true_eq, decide_eq_false_iff_not] at h_); omega) | (simp [mulSz, Cont.len, bne] at h_; first | done | omega))); intro _; conv => whnf)
    | (refine ⟨0, (show _ = _ by omega), ?_⟩; conv => whnf))
  refine .inl ⟨(), [0], ?_⟩
  conv => whnf
  repeat' (first | exact True.intro | rfl | refine And.intro ?_ ?_)
  all_goals (conv => whnf)
  repeat' (first | exact True.intro | rfl | refine And.intro ?_ ?_)
  all_goals (try omega)
set_option maxHeartbeats 0 in
set_option maxRecDepth 100000 in
theorem Message_r (n ca : Nat) (l : List ByteArray) (r : Int) (h : ¬ okR r = true) :
    Fits Try.prog 17 ⟨[.slice 0 0 n ca, .int .i64 r], [.seg false (.strs l)], [numOut [.dead] (.tup [.str ⟨#[]⟩, .int .i64 1])]⟩ := by
  have AC := areChecks_q r
  rw [Bool.eq_false_iff.2 h] at AC
  refine fits_of_body (C := cfgP 1) (c := k17) (ts := [4, 5]) tokL mixedL (fun _ => none) (fun _ => none)
    Try.func17 (by kernel_rfl) (by kernel_rfl) (by kernel_rfl) (by kernel_rfl) rfl ?_
  conv => whnf
  repeat (first
    | (refine And.intro ?_ ?_; (focus (first | omega | decide | exact EqOk.mk (by kernel_rfl) (by kernel_rfl) (by kernel_rfl) | exact Int.natCast_nonneg _ | ((repeat' refine And.intro ?_ ?_) <;> first | omega | exact Int.natCast_nonneg _ | (simp only [i64max, u8max, u16max, u32max, u64max]; omega) | (simp only [mulSz_eq, Cont.len, colsLen, Col.len, List.length_cons, List.length_nil, List.length_replicate, List.length_append]; first | done | omega) | (simp [mulSz, Cont.len, bne]; first | done | omega)))); conv => whnf)
    | (refine tst_in ?_ ?_; (focus (intro h_; exfalso; first | omega | ((try simp only [decide_eq_true_eq, decide_eq_false_iff_not] at h_); omega) | (simp [mulSz, Cont.len, bne] at h_; first | done | omega))); intro _; conv => whnf)
    | (refine tst_in ?_ ?_; rotate_left; (focus (intro h_; exfalso; first | omega | ((try simp only [decide_eq_true_eq, decide_eq_false_iff_not] at h_); omega) | (simp [mulSz, Cont.len, bne] at h_; first | done | omega))); intro _; conv => whnf)
    | (refine ⟨0, (show _ = _ by omega), ?_⟩; conv => whnf))
  refine ⟨_, [], AC, ?_⟩
  conv => whnf
  iterate 2
   refine And.intro ?_ ?_
   focus
    conv => whnf
    repeat' (first | exact True.intro | rfl | refine And.intro ?_ ?_ | omega)
    all_goals (conv => whnf)
    all_goals (try (first | rfl | omega | (simp; done)))
  conv => whnf
  conv => whnf
  repeat (first
    | (refine And.intro ?_ ?_; (focus (first | omega | decide | exact EqOk.mk (by kernel_rfl) (by kernel_rfl) (by kernel_rfl) | exact Int.natCast_nonneg _ | ((repeat' refine And.intro ?_ ?_) <;> first | omega | exact Int.natCast_nonneg _ | (simp only [i64max, u8max, u16max, u32max, u64max]; omega) | (simp only [mulSz_eq, Cont.len, colsLen, Col.len, List.length_cons, List.length_nil, List.length_replicate, List.length_append]; first | done | omega) | (simp [mulSz, Cont.len, bne]; first | done | omega)))); conv => whnf)
    | (refine tst_in ?_ ?_; (focus (intro h_; exfalso; first | omega | ((try simp only [decide_eq_true_eq, decide_eq_false_iff_not] at h_); omega) | (simp [mulSz, Cont.len, bne] at h_; first | done | omega))); intro _; conv => whnf)
    | (refine tst_in ?_ ?_; rotate_left; (focus (intro h_; exfalso; first | omega | ((try simp only [decide_eq_true_eq, decide_eq_false_iff_not] at h_); omega) | (simp [mulSz, Cont.len, bne] at h_; first | done | omega))); intro _; conv => whnf)
    | (refine ⟨0, (show _ = _ by omega), ?_⟩; conv => whnf))
  refine .inl ⟨(), [0], ?_⟩
  conv => whnf
  repeat' (first | exact True.intro | rfl | refine And.intro ?_ ?_)
  all_goals (conv => whnf)
  repeat' (first | exact True.intro | rfl | refine And.intro ?_ ?_)
  all_goals (try omega)
theorem catD_in (W : Nat → ByteArray) (N : Nat) : ∀ n, ∀ x ∈ catD W N n, 0 ≤ x ∧ x < 256
  | 0, x, h => by cases h
  | n + 1, x, h => by
    rcases List.mem_append.1 (show x ∈ catD W N n ++ bytL (dataT N (W n)) from h) with h | h
    · exact catD_in W N n x h
    · unfold bytL at h
      obtain ⟨b, _, rfl⟩ := List.mem_map.1 h
      have := UInt8.toNat_lt b
      omega
theorem msg_ex (W : Nat → ByteArray) (N n : Nat) : ∃ X e, Msg W N n X e := by
  by_cases hg : ∀ j, j < n → goodW W N j
  · by_cases hL : tot W N n ≤ 32768
    · by_cases hw : ∀ j, j < n → whl N (W j)
      · exact ⟨tx (catD W N n), 0, .all _ hg hL hw (bytL_tx _ (catD_in W N n))⟩
      · obtain ⟨j, hj⟩ := Classical.not_forall.1 hw
        obtain ⟨hj, h⟩ := Classical.not_imp.1 hj
        exact ⟨_, _, .none j hg hL hj h⟩
    · exact ⟨_, _, .long hg (by omega)⟩
  · obtain ⟨j, hj⟩ := Classical.not_forall.1 hg
    obtain ⟨hj, h⟩ := Classical.not_imp.1 hj
    exact ⟨_, _, .bad j hj h⟩
theorem msg_pair (W : Nat → ByteArray) (n : Nat) (r : Int) (hr : -9223372036854775808 ≤ r ∧ r ≤ 9223372036854775807) (hn : n ≤ 1048576) (hW : ∀ i, i < n → (W i).size ≤ 140737488355328) :
    ∃ X e, ∀ (ca : Nat) (t : List ByteArray), n ≤ ca → Fits Try.prog 17 ⟨[.slice 0 0 n ca, .int .i64 r], [.seg false (.strs (tb W n ++ t))], [numOut [.dead] (.tup [.str X, .int .i64 e])]⟩ ∧ Fits Try.prog 18 ⟨[.slice 0 0 n ca, .int .i64 r], [.seg false (.strs (tb W n ++ t))], [numOut [.dead] (.tup [.str X, .int .i64 e])]⟩ := by
  by_cases h : okR r = true
  · obtain ⟨r1, r2, r3⟩ := okR_iff.1 h
    obtain ⟨N, rfl⟩ : ∃ N : Nat, r = N := ⟨r.toNat, by omega⟩
    obtain ⟨X, e, hM⟩ := msg_ex W N n
    exact ⟨X, e, fun ca t hca => ⟨Message_y W n ca N t X e h (by omega) hca hW hM, refMessage_y W n ca N t X e h hn hca hW hM⟩⟩
  · exact ⟨_, _, fun ca t hca => ⟨Message_r n ca _ r h, refMessage_r n ca _ r hr h⟩⟩
end Go.Proofs.Ytnjfipdhkjkklaa

set_option linter.unusedVariables false
set_option linter.unusedSimpArgs false
namespace Go.Proofs.Ytnjfipdhkjkklaa
open Go Go.Fw
noncomputable def k5 : Code := (Try.f5.body).getD .skip
structure L5 where
  S : List ByteArray
  q : Nat
  v : List ByteArray
  i : Nat
noncomputable def st5 (s : ByteArray) (n r : Int) (W : Nat → ByteArray) (c : Nat) (S : List ByteArray) (q : Nat) (v : List ByteArray) (i : Nat) : St :=
  ⟨slotsAt 94 [(0, .str s), (1, .int .i64 n), (2, .int .i64 r), (9, .slice 1 0 (wN s n r) (wN s n r + q)), (11, .slice 2 0 (wN s n r) (wN s n r + v.length)), (18, .int .i64 i)], [.seg false (.strs (tb W c)), .seg true (.strs S), .seg true (.strs (tb (wW s n r) (wN s n r) ++ v))]⟩
noncomputable def inv5m (s : ByteArray) (n r : Int) (W : Nat → ByteArray) (c : Nat) : LInv := ⟨L5, fun x => st5 s n r W c x.S x.q x.v x.i, fun x => x.i ≤ wN s n r ∧ x.S.length = wN s n r + x.q, fun x => wN s n r - x.i⟩
theorem tb_split (W : Nat → ByteArray) (k c : Nat) (h : k ≤ c) : tb W c = tb W k ++ tb (fun i => W (k + i)) (c - k) := by
  apply row_ext ByteArray.empty
  · rw [List.length_append, tab_len, tab_len, tab_len]; omega
  · intro i hi
    rw [tab_len] at hi
    rw [g_app, tab_len, tab_get _ _ hi]
    by_cases h2 : i < k
    · rw [if_pos h2, tab_get _ _ h2]
    · rw [if_neg h2, tab_get _ _ (by omega), show k + (i - k) = i by omega]
set_option maxHeartbeats 0 in
set_option maxRecDepth 100000 in
theorem messages_f (s : ByteArray) (n r : Int) (W : Nat → ByteArray) (k c : Nat) (hs : s.size ≤ 9223372036854775807) (hr : -9223372036854775808 ≤ r ∧ r ≤ 9223372036854775807) (hk : k ≤ c) (hc : c ≤ 1048576) (hW : ∀ i, i < c → (W i).size ≤ 140737488355328) :
    Fits Try.prog 5 ⟨[.str s, .int .i64 n, .int .i64 r, .slice 0 0 k c], [.seg false (.strs (tb W c))], [numOut [.dead] (.bool true)]⟩ := by
  obtain ⟨X, e, MP⟩ := msg_pair W k r hr (by omega) fun i hi => hW i (by omega)
  have W1 := Words_g s n r hs
  have W2 := refWords_g s n r hs
  unfold wOutG at W1 W2
  have hn := wN_le s n r
  have z1 : decide (e = e) = true := by simp
  have z5 : decide (wE s n r = wE s n r) = true := by simp
  have hSM : ∀ u v : List ByteArray, QFits Try.prog 19 ⟨[.slice 0 0 (wN s n r) (wN s n r + u.length), .slice 1 0 (wN s n r) (wN s n r + v.length)], [.seg false (.strs (tb (wW s n r) (wN s n r) ++ u)), .seg false (.strs (tb (wW s n r) (wN s n r) ++ v))], .bool true⟩ := fun u v => sameT_q _ _ _ _ u v (by omega)
  have MR := (MP c (tb (fun i => W (k + i)) (c - k)) hk).2
  rw [← tb_split W k c hk] at MR
  refine fits_of_body (C := cfgQ 1) (c := k5) (ts := [8]) tokL mixedL (fun | 9 => some (inv5m s n r W c) | _ => none) (fun _ => none)
    Try.func5 (by kernel_rfl) (by kernel_rfl) (by kernel_rfl) (by kernel_rfl) rfl ?_
  conv => whnf
  repeat (first
    | (refine And.intro ?_ ?_; (focus (first | omega | decide | exact EqOk.mk (by kernel_rfl) (by kernel_rfl) (by kernel_rfl) | exact Int.natCast_nonneg _ | ((repeat' refine And.intro ?_ ?_) <;> first | omega | exact Int.natCast_nonneg _ | (simp only [i64max, u8max, u16max, u32max, u64max]; omega) | (simp only [mulSz_eq, Cont.len, colsLen, Col.len, List.length_cons, List.length_nil, List.length_replicate, List.length_append]; first | done | omega) | (simp [mulSz, Cont.len, bne]; first | done | omega)))); conv => whnf)
    | (refine tst_in ?_ ?_; (focus (intro h_; exfalso; first | omega | ((try simp only [decide_eq_true_eq, decide_eq_false_iff_not] at h_); omega) | (simp [mulSz, Cont.len, bne] at h_; first | done | omega))); intro _; conv => whnf)
    | (refine tst_in ?_ ?_; rotate_left; (focus (intro h_; exfalso; first | omega | ((try simp only [decide_eq_true_eq, decide_eq_false_iff_not] at h_); omega) | (simp [mulSz, Cont.len, bne] at h_; first | done | omega))); intro _; conv => whnf)
    | (refine ⟨0, (show _ = _ by omega), ?_⟩; conv => whnf))
  refine ⟨_, [], W1, ?_⟩
  conv => whnf
  iterate 2
   refine And.intro ?_ ?_
   focus
    conv => whnf
    repeat' (first | exact True.intro | rfl | refine And.intro ?_ ?_)
    all_goals (conv => whnf)
    repeat' (first | exact True.intro | rfl | refine And.intro ?_ ?_)
    all_goals (try (first | rfl | omega | (simp; first | done | omega)))
  conv => whnf
  refine ⟨?_, True.intro⟩
  rintro u hu
  conv => whnf
  change List ByteArray at u
  conv => whnf
  repeat (first
    | (refine And.intro ?_ ?_; (focus (first | omega | decide | exact EqOk.mk (by kernel_rfl) (by kernel_rfl) (by kernel_rfl) | exact Int.natCast_nonneg _ | ((repeat' refine And.intro ?_ ?_) <;> first | omega | exact Int.natCast_nonneg _ | (simp only [i64max, u8max, u16max, u32max, u64max]; omega) | (simp only [mulSz_eq, Cont.len, colsLen, Col.len, List.length_cons, List.length_nil, List.length_replicate, List.length_append]; first | done | omega) | (simp [mulSz, Cont.len, bne]; first | done | omega)))); conv => whnf)
    | (refine tst_in ?_ ?_; (focus (intro h_; exfalso; first | omega | ((try simp only [decide_eq_true_eq, decide_eq_false_iff_not] at h_); omega) | (simp [mulSz, Cont.len, bne] at h_; first | done | omega))); intro _; conv => whnf)
    | (refine tst_in ?_ ?_; rotate_left; (focus (intro h_; exfalso; first | omega | ((try simp only [decide_eq_true_eq, decide_eq_false_iff_not] at h_); omega) | (simp [mulSz, Cont.len, bne] at h_; first | done | omega))); intro _; conv => whnf)
    | (refine ⟨0, (show _ = _ by omega), ?_⟩; conv => whnf))
  refine ⟨_, [], W2, ?_⟩
  conv => whnf
  iterate 2
   refine And.intro ?_ ?_
   focus
    conv => whnf
    repeat' (first | exact True.intro | rfl | refine And.intro ?_ ?_)
    all_goals (conv => whnf)
    repeat' (first | exact True.intro | rfl | refine And.intro ?_ ?_)
    all_goals (try (first | rfl | omega | (simp; first | done | omega)))
  conv => whnf
  refine ⟨?_, True.intro⟩
  rintro v hv
  conv => whnf
  change List ByteArray at v
  conv => whnf
  repeat (first
    | (refine And.intro ?_ ?_; (focus (first | omega | decide | exact EqOk.mk (by kernel_rfl) (by kernel_rfl) (by kernel_rfl) | exact Int.natCast_nonneg _ | ((repeat' refine And.intro ?_ ?_) <;> first | omega | exact Int.natCast_nonneg _ | (simp only [i64max, u8max, u16max, u32max, u64max]; omega) | (simp only [mulSz_eq, Cont.len, colsLen, Col.len, List.length_cons, List.length_nil, List.length_replicate, List.length_append, tab_len]; first | done | omega) | (simp [mulSz, Cont.len, bne, tab_len]; first | done | omega)))); conv => whnf)
    | (refine tst_in ?_ ?_; (focus (intro h_; exfalso; first | omega | ((try simp only [decide_eq_true_eq, decide_eq_false_iff_not] at h_); omega) | (simp [mulSz, Cont.len, bne, tab_len] at h_; first | done | omega))); intro _; conv => whnf)
    | (refine tst_in ?_ ?_; rotate_left; (focus (intro h_; exfalso; first | omega | ((try simp only [decide_eq_true_eq, decide_eq_false_iff_not] at h_); omega) | (simp [mulSz, Cont.len, bne, tab_len] at h_; first | done | omega))); intro _; conv => whnf)
    | (refine ⟨0, (show _ = _ by omega), ?_⟩; conv => whnf))
  intro x
  change List ByteArray at x
  have ex : List.take k (List.drop 0 (tb W c)) = tb W k := by rw [tb_split W k c hk, take_tb2]
  have MM := (MP (k + x.length) x (by omega)).1
  have SM2 := sameT_q W k (k + x.length) c x (tb (fun i => W (k + i)) (c - k)) (by omega)
  rw [← tb_split W k c hk] at SM2
  conv => whnf
  repeat (first
    | (refine And.intro ?_ ?_; (focus (first | omega | decide | exact EqOk.mk (by kernel_rfl) (by kernel_rfl) (by kernel_rfl) | exact Int.natCast_nonneg _ | ((repeat' refine And.intro ?_ ?_) <;> first | omega | exact Int.natCast_nonneg _ | (simp only [i64max, u8max, u16max, u32max, u64max]; omega) | (simp only [mulSz_eq, Cont.len, colsLen, Col.len, List.length_cons, List.length_nil, List.length_replicate, List.length_append, tab_len]; first | done | omega) | (simp [mulSz, Cont.len, bne, tab_len]; first | done | omega)))); conv => whnf)
    | (refine tst_in ?_ ?_; (focus (intro h_; exfalso; first | omega | ((try simp only [decide_eq_true_eq, decide_eq_false_iff_not] at h_); omega) | (simp [mulSz, Cont.len, bne, tab_len] at h_; first | done | omega))); intro _; conv => whnf)
    | (refine tst_in ?_ ?_; rotate_left; (focus (intro h_; exfalso; first | omega | ((try simp only [decide_eq_true_eq, decide_eq_false_iff_not] at h_); omega) | (simp [mulSz, Cont.len, bne, tab_len] at h_; first | done | omega))); intro _; conv => whnf)
    | (refine ⟨0, (show _ = _ by omega), ?_⟩; conv => whnf))
  have e1 : List.take (mulSz ({ d := Ty.str, size := 1, bytes := 16, zero := Value.string ⟨#[]⟩ } : TyI).size 0) (List.drop 0 ([] : List ByteArray)) ++ List.take (mulSz ({ d := Ty.str, size := 1, bytes := 16, zero := Value.string ⟨#[]⟩ } : TyI).size k) (List.drop 0 (tb W c)) ++ x = tb W k ++ x := by
    show List.take 0 _ ++ List.take k _ ++ x = _
    rw [ex]; rfl
  rw [e1]
  refine ⟨_, [4], MM, ?_⟩
  conv => whnf
  iterate 2
   refine And.intro ?_ ?_
   focus
    conv => whnf
    repeat' (first | exact True.intro | rfl | refine And.intro ?_ ?_ | omega)
    all_goals (conv => whnf)
    all_goals (try (first | rfl | omega | (simp; done)))
  conv => whnf
  refine ⟨?_, True.intro⟩
  intro _ _
  conv => whnf
  conv => whnf
  repeat (first
    | (refine And.intro ?_ ?_; (focus (first | omega | decide | exact EqOk.mk (by kernel_rfl) (by kernel_rfl) (by kernel_rfl) | exact Int.natCast_nonneg _ | ((repeat' refine And.intro ?_ ?_) <;> first | omega | exact Int.natCast_nonneg _ | (simp only [i64max, u8max, u16max, u32max, u64max]; omega) | (simp only [mulSz_eq, Cont.len, colsLen, Col.len, List.length_cons, List.length_nil, List.length_replicate, List.length_append]; first | done | omega) | (simp [mulSz, Cont.len, bne]; first | done | omega)))); conv => whnf)
    | (refine tst_in ?_ ?_; (focus (intro h_; exfalso; first | omega | ((try simp only [decide_eq_true_eq, decide_eq_false_iff_not] at h_); omega) | (simp [mulSz, Cont.len, bne] at h_; first | done | omega))); intro _; conv => whnf)
    | (refine tst_in ?_ ?_; rotate_left; (focus (intro h_; exfalso; first | omega | ((try simp only [decide_eq_true_eq, decide_eq_false_iff_not] at h_); omega) | (simp [mulSz, Cont.len, bne] at h_; first | done | omega))); intro _; conv => whnf)
    | (refine ⟨0, (show _ = _ by omega), ?_⟩; conv => whnf))
  refine ⟨_, [0], MR, ?_⟩
  conv => whnf
  iterate 2
   refine And.intro ?_ ?_
   focus
    conv => whnf
    repeat' (first | exact True.intro | rfl | refine And.intro ?_ ?_ | omega)
    all_goals (conv => whnf)
    all_goals (try (first | rfl | omega | (simp; done)))
  conv => whnf
  refine ⟨?_, True.intro⟩
  intro _ _
  conv => whnf
  conv => whnf
  repeat (first
    | (refine And.intro ?_ ?_; (focus (first | omega | decide | exact EqOk.mk (by kernel_rfl) (by kernel_rfl) (by kernel_rfl) | exact Int.natCast_nonneg _ | ((repeat' refine And.intro ?_ ?_) <;> first | omega | exact Int.natCast_nonneg _ | (simp only [i64max, u8max, u16max, u32max, u64max]; omega) | (simp only [mulSz_eq, Cont.len, colsLen, Col.len, List.length_cons, List.length_nil, List.length_replicate, List.length_append]; first | done | omega) | (simp [mulSz, Cont.len, bne]; first | done | omega)))); conv => whnf)
    | (refine tst_in ?_ ?_; (focus (intro h_; exfalso; first | omega | ((try simp only [decide_eq_true_eq, decide_eq_false_iff_not] at h_); omega) | (simp [mulSz, Cont.len, bne] at h_; first | done | omega))); intro _; conv => whnf)
    | (refine tst_in ?_ ?_; rotate_left; (focus (intro h_; exfalso; first | omega | ((try simp only [decide_eq_true_eq, decide_eq_false_iff_not] at h_); omega) | (simp [mulSz, Cont.len, bne] at h_; first | done | omega))); intro _; conv => whnf)
    | (refine ⟨0, (show _ = _ by omega), ?_⟩; conv => whnf))
  have SM1 := hSM u v
  refine ⟨_, [1, 2], SM1, ?_⟩
  conv => whnf
  iterate 2
   refine And.intro ?_ ?_
   focus
    conv => whnf
    repeat' (first | exact True.intro | rfl | refine And.intro ?_ ?_)
    all_goals (conv => whnf)
    repeat' (first | exact True.intro | rfl | refine And.intro ?_ ?_)
    all_goals (try (first | rfl | omega | (simp; first | done | omega)))
  conv => whnf
  conv => whnf
  repeat (first
    | (refine And.intro ?_ ?_; (focus (first | omega | decide | exact EqOk.mk (by kernel_rfl) (by kernel_rfl) (by kernel_rfl) | exact Int.natCast_nonneg _ | ((repeat' refine And.intro ?_ ?_) <;> first | omega | exact Int.natCast_nonneg _ | (simp only [i64max, u8max, u16max, u32max, u64max]; omega) | (simp only [mulSz_eq, Cont.len, colsLen, Col.len, List.length_cons, List.length_nil, List.length_replicate, List.length_append]; first | done | omega) | (simp [mulSz, Cont.len, bne]; first | done | omega)))); conv => whnf)
    | (refine tst_in ?_ ?_; (focus (intro h_; exfalso; first | omega | ((try simp only [decide_eq_true_eq, decide_eq_false_iff_not] at h_); omega) | (simp [mulSz, Cont.len, bne] at h_; first | done | omega))); intro _; conv => whnf)
    | (refine tst_in ?_ ?_; rotate_left; (focus (intro h_; exfalso; first | omega | ((try simp only [decide_eq_true_eq, decide_eq_false_iff_not] at h_); omega) | (simp [mulSz, Cont.len, bne] at h_; first | done | omega))); intro _; conv => whnf)
    | (refine ⟨0, (show _ = _ by omega), ?_⟩; conv => whnf))
  rw [eqSelf]
  conv => whnf
  repeat (first
    | (refine And.intro ?_ ?_; (focus (first | omega | decide | exact EqOk.mk (by kernel_rfl) (by kernel_rfl) (by kernel_rfl) | exact Int.natCast_nonneg _ | ((repeat' refine And.intro ?_ ?_) <;> first | omega | exact Int.natCast_nonneg _ | (simp only [i64max, u8max, u16max, u32max, u64max]; omega) | (simp only [mulSz_eq, Cont.len, colsLen, Col.len, List.length_cons, List.length_nil, List.length_replicate, List.length_append]; first | done | omega) | (simp [mulSz, Cont.len, bne]; first | done | omega)))); conv => whnf)
    | (refine tst_in ?_ ?_; (focus (intro h_; exfalso; first | omega | ((try simp only [decide_eq_true_eq, decide_eq_false_iff_not] at h_); omega) | (simp [mulSz, Cont.len, bne] at h_; first | done | omega))); intro _; conv => whnf)
    | (refine tst_in ?_ ?_; rotate_left; (focus (intro h_; exfalso; first | omega | ((try simp only [decide_eq_true_eq, decide_eq_false_iff_not] at h_); omega) | (simp [mulSz, Cont.len, bne] at h_; first | done | omega))); intro _; conv => whnf)
    | (refine ⟨0, (show _ = _ by omega), ?_⟩; conv => whnf))
  refine ⟨_, [4, 0], SM2, ?_⟩
  conv => whnf
  iterate 2
   refine And.intro ?_ ?_
   focus
    conv => whnf
    repeat' (first | exact True.intro | rfl | refine And.intro ?_ ?_)
    all_goals (conv => whnf)
    repeat' (first | exact True.intro | rfl | refine And.intro ?_ ?_)
    all_goals (try (first | rfl | omega | (simp; first | done | omega)))
  conv => whnf
  conv => whnf
  repeat (first
    | (refine And.intro ?_ ?_; (focus (first | omega | decide | exact EqOk.mk (by kernel_rfl) (by kernel_rfl) (by kernel_rfl) | exact Int.natCast_nonneg _ | ((repeat' refine And.intro ?_ ?_) <;> first | omega | exact Int.natCast_nonneg _ | (simp only [i64max, u8max, u16max, u32max, u64max]; omega) | (simp only [mulSz_eq, Cont.len, colsLen, Col.len, List.length_cons, List.length_nil, List.length_replicate, List.length_append]; first | done | omega) | (simp [mulSz, Cont.len, bne]; first | done | omega)))); conv => whnf)
    | (refine tst_in ?_ ?_; (focus (intro h_; exfalso; first | omega | ((try simp only [decide_eq_true_eq, decide_eq_false_iff_not] at h_); omega) | (simp [mulSz, Cont.len, bne] at h_; first | done | omega))); intro _; conv => whnf)
    | (refine tst_in ?_ ?_; rotate_left; (focus (intro h_; exfalso; first | omega | ((try simp only [decide_eq_true_eq, decide_eq_false_iff_not] at h_); omega) | (simp [mulSz, Cont.len, bne] at h_; first | done | omega))); intro _; conv => whnf)
    | (refine ⟨0, (show _ = _ by omega), ?_⟩; conv => whnf))
  refine ⟨⟨[0, 1, 2], ⟨tb (wW s n r) (wN s n r) ++ u, u.length, v, 0⟩, ?_, ⟨Nat.zero_le _, by rw [List.length_append, tab_len]⟩⟩, ?_⟩
  · show stLe _ _ (st5 s n r W c _ u.length v 0) _
    conv => whnf
    repeat' (first | exact True.intro | rfl | refine And.intro ?_ ?_)
    all_goals (conv => whnf)
    repeat' (first | exact True.intro | rfl | refine And.intro ?_ ?_)
    all_goals (try omega)
  · intro ⟨S, q, v, i⟩ ⟨(hi : i ≤ wN s n r), (hS : S.length = wN s n r + q)⟩
    show forceSt (st5 s n r W c S q v i) _
    conv => whnf
    repeat (first
      | (refine And.intro ?_ ?_; (focus (first | omega | decide | exact EqOk.mk (by kernel_rfl) (by kernel_rfl) (by kernel_rfl) | exact Int.natCast_nonneg _ | ((repeat' refine And.intro ?_ ?_) <;> first | omega | exact Int.natCast_nonneg _ | (simp only [i64max, u8max, u16max, u32max, u64max]; omega) | (simp only [mulSz_eq, Cont.len, colsLen, Col.len, List.length_cons, List.length_nil, List.length_replicate, List.length_append]; first | done | omega) | (simp [mulSz, Cont.len, bne]; first | done | omega)))); conv => whnf)
      | (refine tst_in ?_ ?_; (focus (intro h_; exfalso; first | omega | ((try simp only [decide_eq_true_eq, decide_eq_false_iff_not] at h_); omega) | (simp [mulSz, Cont.len, bne] at h_; first | done | omega))); intro _; conv => whnf)
      | (refine tst_in ?_ ?_; rotate_left; (focus (intro h_; exfalso; first | omega | ((try simp only [decide_eq_true_eq, decide_eq_false_iff_not] at h_); omega) | (simp [mulSz, Cont.len, bne] at h_; first | done | omega))); intro _; conv => whnf)
      | (refine ⟨0, (show _ = _ by omega), ?_⟩; conv => whnf))
    refine tst_in (fun hlt => ?_) (fun hge => ?_)
    · have hlt : i < wN s n r := by simp at hlt; omega
      conv => whnf
      repeat (first
        | (refine And.intro ?_ ?_; (focus (first | omega | decide | exact EqOk.mk (by kernel_rfl) (by kernel_rfl) (by kernel_rfl) | exact Int.natCast_nonneg _ | ((repeat' refine And.intro ?_ ?_) <;> first | omega | exact Int.natCast_nonneg _ | (simp only [i64max, u8max, u16max, u32max, u64max]; omega) | (simp only [mulSz_eq, Cont.len, colsLen, Col.len, List.length_cons, List.length_nil, List.length_replicate, List.length_append, hS]; first | done | omega) | (simp [mulSz, Cont.len, bne, hS]; first | done | omega)))); conv => whnf)
        | (refine tst_in ?_ ?_; (focus (intro h_; exfalso; first | omega | ((try simp only [decide_eq_true_eq, decide_eq_false_iff_not] at h_); omega) | (simp [mulSz, Cont.len, bne, hS] at h_; first | done | omega))); intro _; conv => whnf)
        | (refine tst_in ?_ ?_; rotate_left; (focus (intro h_; exfalso; first | omega | ((try simp only [decide_eq_true_eq, decide_eq_false_iff_not] at h_); omega) | (simp [mulSz, Cont.len, bne, hS] at h_; first | done | omega))); intro _; conv => whnf)
        | (refine ⟨(i), (show _ = _ by omega), ?_⟩; conv => whnf)
        | (refine ⟨(i), 0, (show _ = _ by omega), ?_⟩; conv => whnf)
        | (refine ⟨(i), 1, (show _ = _ by omega), ?_⟩; conv => whnf)
        | (refine ⟨(i), 2, (show _ = _ by omega), ?_⟩; conv => whnf)
        | (refine ⟨(i), 3, (show _ = _ by omega), ?_⟩; conv => whnf)
        | (refine ⟨(i), 4, (show _ = _ by omega), ?_⟩; conv => whnf)
        | (refine ⟨(i), 5, (show _ = _ by omega), ?_⟩; conv => whnf)
        | (refine ⟨0, (show _ = _ by omega), ?_⟩; conv => whnf))
      refine ⟨[0, 1, 2], ⟨S.set (0 + ((i : Int)).toNat) ⟨#[120]⟩, q, v, i + 1⟩, ?_, ⟨(by show i + 1 ≤ wN s n r; omega), (List.length_set ..).trans hS⟩, (by show wN s n r - (i + 1) < wN s n r - i; omega)⟩
      show stLe _ _ (st5 s n r W c _ q v (i + 1)) _
      conv => whnf
      repeat' (first | exact True.intro | rfl | refine And.intro ?_ ?_)
      all_goals (conv => whnf)
      repeat' (first | exact True.intro | rfl | refine And.intro ?_ ?_)
      all_goals (try omega)
    · have hge : i = wN s n r := by simp at hge; omega
      conv => whnf
      repeat (first
        | (refine And.intro ?_ ?_; (focus (first | omega | decide | exact EqOk.mk (by kernel_rfl) (by kernel_rfl) (by kernel_rfl) | exact Int.natCast_nonneg _ | ((repeat' refine And.intro ?_ ?_) <;> first | omega | exact Int.natCast_nonneg _ | (simp only [i64max, u8max, u16max, u32max, u64max]; omega) | (simp only [mulSz_eq, Cont.len, colsLen, Col.len, List.length_cons, List.length_nil, List.length_replicate, List.length_append]; first | done | omega) | (simp [mulSz, Cont.len, bne]; first | done | omega)))); conv => whnf)
        | (refine tst_in ?_ ?_; (focus (intro h_; exfalso; first | omega | ((try simp only [decide_eq_true_eq, decide_eq_false_iff_not] at h_); omega) | (simp [mulSz, Cont.len, bne] at h_; first | done | omega))); intro _; conv => whnf)
        | (refine tst_in ?_ ?_; rotate_left; (focus (intro h_; exfalso; first | omega | ((try simp only [decide_eq_true_eq, decide_eq_false_iff_not] at h_); omega) | (simp [mulSz, Cont.len, bne] at h_; first | done | omega))); intro _; conv => whnf)
        | (refine ⟨0, (show _ = _ by omega), ?_⟩; conv => whnf))
      refine ⟨_, [], W1, ?_⟩
      conv => whnf
      iterate 2
       refine And.intro ?_ ?_
       focus
        conv => whnf
        repeat' (first | exact True.intro | rfl | refine And.intro ?_ ?_)
        all_goals (conv => whnf)
        repeat' (first | exact True.intro | rfl | refine And.intro ?_ ?_)
        all_goals (try (first | rfl | omega | (simp; first | done | omega)))
      conv => whnf
      refine ⟨?_, True.intro⟩
      rintro u2 hu2
      conv => whnf
      change List ByteArray at u2
      have SM3 := hSM u2 v
      conv => whnf
      repeat (first
        | (refine And.intro ?_ ?_; (focus (first | omega | decide | exact EqOk.mk (by kernel_rfl) (by kernel_rfl) (by kernel_rfl) | exact Int.natCast_nonneg _ | ((repeat' refine And.intro ?_ ?_) <;> first | omega | exact Int.natCast_nonneg _ | (simp only [i64max, u8max, u16max, u32max, u64max]; omega) | (simp only [mulSz_eq, Cont.len, colsLen, Col.len, List.length_cons, List.length_nil, List.length_replicate, List.length_append]; first | done | omega) | (simp [mulSz, Cont.len, bne]; first | done | omega)))); conv => whnf)
        | (refine tst_in ?_ ?_; (focus (intro h_; exfalso; first | omega | ((try simp only [decide_eq_true_eq, decide_eq_false_iff_not] at h_); omega) | (simp [mulSz, Cont.len, bne] at h_; first | done | omega))); intro _; conv => whnf)
        | (refine tst_in ?_ ?_; rotate_left; (focus (intro h_; exfalso; first | omega | ((try simp only [decide_eq_true_eq, decide_eq_false_iff_not] at h_); omega) | (simp [mulSz, Cont.len, bne] at h_; first | done | omega))); intro _; conv => whnf)
        | (refine ⟨0, (show _ = _ by omega), ?_⟩; conv => whnf))
      refine ⟨_, [3, 2], SM3, ?_⟩
      conv => whnf
      iterate 2
       refine And.intro ?_ ?_
       focus
        conv => whnf
        repeat' (first | exact True.intro | rfl | refine And.intro ?_ ?_)
        all_goals (conv => whnf)
        repeat' (first | exact True.intro | rfl | refine And.intro ?_ ?_)
        all_goals (try (first | rfl | omega | (simp; first | done | omega)))
      conv => whnf
      conv => whnf
      repeat (first
        | (refine And.intro ?_ ?_; (focus (first | omega | decide | exact EqOk.mk (by kernel_rfl) (by kernel_rfl) (by kernel_rfl) | exact Int.natCast_nonneg _ | ((repeat' refine And.intro ?_ ?_) <;> first | omega | exact Int.natCast_nonneg _ | (simp only [i64max, u8max, u16max, u32max, u64max]; omega) | (simp only [mulSz_eq, Cont.len, colsLen, Col.len, List.length_cons, List.length_nil, List.length_replicate, List.length_append]; first | done | omega) | (simp [mulSz, Cont.len, bne]; first | done | omega)))); conv => whnf)
        | (refine tst_in ?_ ?_; (focus (intro h_; exfalso; first | omega | ((try simp only [decide_eq_true_eq, decide_eq_false_iff_not] at h_); omega) | (simp [mulSz, Cont.len, bne] at h_; first | done | omega))); intro _; conv => whnf)
        | (refine tst_in ?_ ?_; rotate_left; (focus (intro h_; exfalso; first | omega | ((try simp only [decide_eq_true_eq, decide_eq_false_iff_not] at h_); omega) | (simp [mulSz, Cont.len, bne] at h_; first | done | omega))); intro _; conv => whnf)
        | (refine ⟨0, (show _ = _ by omega), ?_⟩; conv => whnf))
      refine .inl ⟨(), [0], ?_⟩
      conv => whnf
      repeat' (first | exact True.intro | rfl | refine And.intro ?_ ?_)
      all_goals (conv => whnf)
      repeat' (first | exact True.intro | rfl | refine And.intro ?_ ?_)
      all_goals (try omega)
def lawSpec5 (s : ByteArray) (n r : Int) (k c : Nat) (g : Nat → ByteArray) : FSpec := ⟨[.str s, .int .i64 n, .int .i64 r, .slice 0 0 k c], [.seg false (.strs ((List.range c).map g))], [numOut [.dead] (.bool true)]⟩
theorem law_m5 (s : ByteArray) (n r : Int) (k c : Nat) (g : Nat → ByteArray) (w0 : s.size ≤ maxLen) (w2 : (Lit.int .i64 r).wf = true) (hk : k ≤ c) (hc : c ≤ 1048576) (hW : ∀ i, i < c → (g i).size ≤ reachBytes) : Fits Try.prog 5 (lawSpec5 s n r k c g) := by
  simp [Lit.wf, IntKind.min, IntKind.max, IntKind.signed, IntKind.bits] at w2
  unfold maxLen at w0
  exact messages_f s n r g k c (by omega) (by omega) hk hc fun i hi => Nat.le_trans (hW i hi) (by show (140737488351232 : Nat) ≤ _; omega)
end Go.Proofs.Ytnjfipdhkjkklaa

namespace Go.Proofs.Ytnjfipdhkjkklaa
open Go Go.Fw
namespace reedMessages
open Go.ChangeShapes Go.WideShapes Go.ChangeAt Go.RowKit
theorem own : ownKnob Try.prog.godebug = none := by kernel_rfl
theorem laid : laidOutB Try.prog = true := by kernel_rfl

theorem bulkl (H : Type) : BulkLike (Rows.uptoBulk (H := H)) Rows.uptoBulkAll :=
  ⟨by simp [Rows.uptoBulkAll], fun _ _ => by simp [Rows.uptoBulkAll], fun _ _ => by simp [Rows.uptoBulk], fun _ => by simp [Rows.uptoBulk], fun _ => by simp [Rows.uptoBulk], fun d => by
    cases d with
    | lit l => cases l <;> simp [Rows.uptoBulk]
    | nil => simp [Rows.uptoBulk]
    | ptr d => simp [Rows.uptoBulk]
    | slice elems spare => simp [Rows.uptoBulk]
    | agg parts => simp [Rows.uptoBulk]
    | iface t d => simp [Rows.uptoBulk]
    | map entries => simp [Rows.uptoBulk]
    | held h => simp [Rows.uptoBulk]⟩
set_option maxRecDepth 100000 in
theorem lifted (os : Os) (started : os.Started) (H : Type) (enc : TypeId × Value → H) (F : Stop.Interp) :
    ReturnsInHanded {} Try.checked os 5 .any ((Rows.OpenSpec.upto Rows.reedMessagesSpec).pre6 enc Try.prog Try.f5 Rows.reedMessagesUptoRow.domain false) (((Rows.OpenSpec.upto Rows.reedMessagesSpec).at F).post enc Try.prog Try.f5 false true false false) := by
  refine returnsInHanded_of_cond_sized (C := Try.checked) (s := Rows.OpenSpec.upto Rows.reedMessagesSpec) (k := Rows.uptoSmall) rfl own started (by kernel_rfl) Try.func5
    (OpenSpec.witness (enc := enc) (C := Try.checked) (s := Rows.OpenSpec.upto Rows.reedMessagesSpec) (k := Rows.uptoSmall) rfl false ⟨#[], #[.string .empty, .int .i64 0, .int .i64 0, .slice none 0 0], []⟩ 8 (by kernel_rfl) (by kernel_rfl) (by kernel_rfl)
      (x := ([.lit (.string []), .lit (.int .i64 0), .lit (.int .i64 0), .nil], [], [])) (by kernel_rfl) rfl (by kernel_rfl)) ?_
  intro W base args ds gs before hval0 hW _ hk hsz0 _
  have hsz : (DataW.weightsEach Try.prog (Try.f5.params.toList ++ Rows.reedMessagesSpec.plain.varTypes Try.prog) (ds ++ gs)).all (· ≤ reachBytes) = true := hsz0
  clear hsz0
  have hk2 : Rows.uptoBulkAll (ds ++ gs) ≤ 1048576 := of_decide_eq_true hk
  have hval : ∀ (j : Nat) t v, Try.f5.params[j]? = some t → args[j]? = some v → Value.okWide Try.prog W .any base t v := hval0
  have hW' := hW
  obtain ⟨p, q, hA0, hV, rfl, hfz, hnd⟩ := hW
  have hA : DataW.TrodAll enc Try.prog W 0 (fun _ => true) true Try.f5.params.toList args.toList ds p := hA0
  rw [Try.params5] at hA hval hsz
  obtain ⟨v0, vs0, d0, ds0, p0, q0, hargs, rfl, rfl, h0, r0⟩ := trodAll_cons hA
  obtain ⟨v1, vs1, d1, ds1, p1, q1, rfl, rfl, rfl, h1, r1⟩ := trodAll_cons r0
  obtain ⟨v2, vs2, d2, ds2, p2, q2, rfl, rfl, rfl, h2, r2⟩ := trodAll_cons r1
  obtain ⟨v3, vs3, d3, ds3, p3, q3, rfl, rfl, rfl, h3, r3⟩ := trodAll_cons r2
  obtain ⟨rfl, rfl, rfl⟩ := trodAll_nil r3
  obtain rfl : args = #[v0, v1, v2, v3] := by cases args; simp_all
  obtain ⟨rfl, rfl⟩ := trodVars_none hV
  simp only [List.cons_append, List.nil_append, Rows.uptoBulkAll] at hk2
  have m0 := arg_bulk (M := 1048576) (bulkl H) (ss := [.str]) 12 (by kernel_rfl) h0 (by omega)
  have m3 := arg_bulk (M := 1048576) (bulkl H) (ss := [.row 16 [.str]]) 12 (by kernel_rfl) h3 (by omega)
  obtain ⟨x0_0, rfl, rfl, rfl, w0_0⟩ := Go.ChangeMaps.open_string Try.underlying9 (hval 0 9 v0 rfl rfl) h0
  obtain ⟨x1_0, rfl, rfl, rfl, w1_0⟩ := open_int Try.underlying3 (hval 1 3 v1 rfl rfl) h1
  obtain ⟨x2_0, rfl, rfl, rfl, w2_0⟩ := open_int Try.underlying3 (hval 2 3 v2 rfl rfl) h2
  obtain ⟨a3, la3, z3, hv3⟩ := okWide_slice Try.underlying36 (hval 3 36 v3 rfl rfl)
  obtain ⟨c3c0, t3_0, e3_0, l3_0, e3_1⟩ : LeafsAre W [.row 16 [.str]] v3.cells.toList := arg_open 12 (by kernel_rfl) h3 (fine_of (j := 3) hsz rfl rfl)
  subst e3_1
  obtain rfl : v3 = c3c0 := by subst hv3; simpa [Value.cells] using e3_0
  obtain ⟨n3_0, c3_0, g3_0, pl3_0, hn3_0, hb3_0, hw3_0, hc3_0⟩ := row_strs l3_0
  have hm0_0 : x0_0.size ≤ 1048576 := str_le (m0.at (j := 0) rfl rfl)
  have hm3_0 : c3_0 ≤ 1048576 := cap_le hc3_0 (by have q := m3; rw [hv3] at q ⊢; exact q.at (j := 0) rfl rfl)
  clear hA0 hval0
  obtain ⟨dd3_0, cc3_0⟩ := hc3_0 [pl3_0] 0 (by simp) rfl
  have walk := (law_m5 x0_0 x1_0 x2_0 n3_0 c3_0 g3_0 w0_0 w2_0 hn3_0 hm3_0 hw3_0).calls W [pl3_0] [.string x0_0, .int .i64 x1_0, .int .i64 x2_0, v3] (heap_args rfl fun i s hs => by
      match i, hs with
      | 0, hs => simp only [lawSpec5, numOut, List.getElem?_cons_zero, Option.some.injEq] at hs; subst hs; exact ⟨_, rfl, cc3_0⟩
      | i + 1, hs => simp [lawSpec5, numOut] at hs) (by simp only [lawSpec5, numOut, Dens]; exact ⟨_, _, rfl, by simp [Den], ⟨_, _, rfl, by simp [Den], ⟨_, _, rfl, by simp [Den], ⟨_, _, rfl, dd3_0, rfl⟩⟩⟩⟩) (x := .bool true) (v := .bool true) rfl (by
      intro o ho y hy
      simp [lawSpec5, numOut] at ho
      subst ho; rfl)
  refine walk.mono fun e W' ⟨he, hg⟩ => ?_
  subst he
  exact ⟨_, rfl, law_done laid rfl rfl Try.underlying4 (by kernel_rfl) hW' rfl hg⟩

theorem over : Rows.reedMessagesUptoRow.holds Try.pinned (Rows.OpenSpec.upto Rows.reedMessagesSpec) :=
  OpenClaim.holds_of_cond 5 Try.f5 rfl rfl rfl rfl rfl rfl rfl ⟨rfl, rfl, rfl, rfl, rfl⟩ rfl rfl rfl rfl rfl (by kernel_rfl) Try.func5 (by kernel_rfl)
    (of_decide_eq_true (by kernel_rfl)) (by unfold Func.isWrapper; first | (rw [if_pos (by decide +kernel)]; kernel_rfl) | (rw [if_neg (by decide +kernel)]; exact ⟨rfl, rfl⟩))
    (fun os started H enc _ F => lifted os started H enc F)

theorem proved : Rows.ReedMessagesUptoSaid := over
end reedMessages
end Go.Proofs.Ytnjfipdhkjkklaa
