/-
  The same walk: calls, loops, functions and laws. No condition: each theorem states its own.
-/
import Derived.Test.YtmchfbjbcioccaaFw
import Derived.OrdersHeld
import Derived.Scope
import Derived.ChangeSame
import Derived.ProofKit
import Derived.OpenShut
import Derived.Carry
set_option linter.unusedSimpArgs false
set_option linter.unusedVariables false
namespace Go.Fw
open Go Go.RowKit

/-- Elements of a type, laid together as a content. -/
def gatherB : List AV → (List Bool → Prop) → Prop
  | [], K => K []
  | .bool b :: r, K => gatherB r fun l => K (b :: l)
  | _ :: _, _ => False
def gatherI (k : IntKind) : List AV → (List Int → Prop) → Prop
  | [], K => K []
  | .int k' n :: r, K => guardT (ikEq k k') (gatherI k r fun l => K (n :: l))
  | _ :: _, _ => False
def gatherF (k : FloatKind) : List AV → (List Nat → Prop) → Prop
  | [], K => K []
  | .flt k' n :: r, K => guardT (fkEq k k') (gatherF k r fun l => K (n :: l))
  | _ :: _, _ => False
def gatherC (k : FloatKind) : List AV → (List (Nat × Nat) → Prop) → Prop
  | [], K => K []
  | .cpx k' a b :: r, K => guardT (fkEq k k') (gatherC k r fun l => K ((a, b) :: l))
  | _ :: _, _ => False
def gatherS : List AV → (List ByteArray → Prop) → Prop
  | [], K => K []
  | .str s :: r, K => gatherS r fun l => K (s :: l)
  | _ :: _, _ => False
def gatherO : List AV → (List AV → Prop) → Prop
  | [], K => K []
  | x :: r, K => guardT (isOne x) (gatherO r fun l => K (x :: l))

def gather (d : Ty) (xs : List AV) (K : Cont → Prop) : Prop :=
  match d with
  | .bool => gatherB xs fun l => K (.bools l)
  | .int k => gatherI k xs fun l => K (.ints k l)
  | .float k => gatherF k xs fun l => K (.flts k l)
  | .cpx k => gatherC k xs fun l => K (.cpxs k l)
  | .str => gatherS xs fun l => K (.strs l)
  | _ => gatherO xs fun l => K (.avs l)

theorem gatherB_out : ∀ (xs : List AV) (K : List Bool → Prop), gatherB xs K → ∃ l, K l ∧ xs = l.map .bool
  | [], K, h => ⟨[], h, rfl⟩
  | x :: r, K, h => by
    cases x <;> simp only [gatherB] at h <;> try exact h.elim
    obtain ⟨l, h1, h2⟩ := gatherB_out r _ h
    exact ⟨_, h1, by simp [h2]⟩
theorem gatherI_out {k : IntKind} : ∀ (xs : List AV) (K : List Int → Prop), gatherI k xs K → ∃ l, K l ∧ xs = l.map (.int k)
  | [], K, h => ⟨[], h, rfl⟩
  | x :: r, K, h => by
    cases x <;> simp only [gatherI, guardT_eq] at h <;> try exact h.elim
    have e := ikEq_eq h.1; subst e
    obtain ⟨l, h1, h2⟩ := gatherI_out r _ h.2
    exact ⟨_, h1, by simp [h2]⟩
theorem gatherF_out {k : FloatKind} : ∀ (xs : List AV) (K : List Nat → Prop), gatherF k xs K → ∃ l, K l ∧ xs = l.map (.flt k)
  | [], K, h => ⟨[], h, rfl⟩
  | x :: r, K, h => by
    cases x <;> simp only [gatherF, guardT_eq] at h <;> try exact h.elim
    have e := fkEq_eq h.1; subst e
    obtain ⟨l, h1, h2⟩ := gatherF_out r _ h.2
    exact ⟨_, h1, by simp [h2]⟩
theorem gatherC_out {k : FloatKind} : ∀ (xs : List AV) (K : List (Nat × Nat) → Prop), gatherC k xs K → ∃ l, K l ∧ xs = l.map (fun p => .cpx k p.1 p.2)
  | [], K, h => ⟨[], h, rfl⟩
  | x :: r, K, h => by
    cases x <;> simp only [gatherC, guardT_eq] at h <;> try exact h.elim
    have e := fkEq_eq h.1; subst e
    obtain ⟨l, h1, h2⟩ := gatherC_out r _ h.2
    exact ⟨_, h1, by simp [h2]⟩
theorem gatherS_out : ∀ (xs : List AV) (K : List ByteArray → Prop), gatherS xs K → ∃ l, K l ∧ xs = l.map .str
  | [], K, h => ⟨[], h, rfl⟩
  | x :: r, K, h => by
    cases x <;> simp only [gatherS] at h <;> try exact h.elim
    obtain ⟨l, h1, h2⟩ := gatherS_out r _ h
    exact ⟨_, h1, by simp [h2]⟩
theorem gatherO_out : ∀ (xs : List AV) (K : List AV → Prop), gatherO xs K → K xs ∧ ∀ x ∈ xs, isOne x = true
  | [], K, h => ⟨h, by simp⟩
  | x :: r, K, h => by
    simp only [gatherO, guardT_eq] at h
    obtain ⟨h1, h⟩ := h
    obtain ⟨g1, g2⟩ := gatherO_out r _ h
    exact ⟨g1, fun y hy => by rcases List.mem_cons.1 hy with rfl | hy; exact h1; exact g2 y hy⟩

theorem gather_out {d : Ty} {xs : List AV} {K : Cont → Prop} (h : gather d xs K) : ∃ c, K c ∧ c.avl = xs ∧ ∀ x ∈ xs, isOne x = true := by
  unfold gather at h
  split at h
  · obtain ⟨l, h1, h2⟩ := gatherB_out _ _ h; exact ⟨_, h1, by simp [Cont.avl, h2], fun x hx => by rw [h2] at hx; obtain ⟨b, _, rfl⟩ := List.mem_map.1 hx; rfl⟩
  · obtain ⟨l, h1, h2⟩ := gatherI_out _ _ h; exact ⟨_, h1, by simp [Cont.avl, h2], fun x hx => by rw [h2] at hx; obtain ⟨b, _, rfl⟩ := List.mem_map.1 hx; rfl⟩
  · obtain ⟨l, h1, h2⟩ := gatherF_out _ _ h; exact ⟨_, h1, by simp [Cont.avl, h2], fun x hx => by rw [h2] at hx; obtain ⟨b, _, rfl⟩ := List.mem_map.1 hx; rfl⟩
  · obtain ⟨l, h1, h2⟩ := gatherC_out _ _ h; exact ⟨_, h1, by simp [Cont.avl, h2], fun x hx => by rw [h2] at hx; obtain ⟨b, _, rfl⟩ := List.mem_map.1 hx; rfl⟩
  · obtain ⟨l, h1, h2⟩ := gatherS_out _ _ h; exact ⟨_, h1, by simp [Cont.avl, h2], fun x hx => by rw [h2] at hx; obtain ⟨b, _, rfl⟩ := List.mem_map.1 hx; rfl⟩
  · obtain ⟨h1, h2⟩ := gatherO_out _ _ h; exact ⟨_, h1, rfl, h2⟩

/-- The parts of a literal, all of them, in their order: 0, 1, 2, .. -/
def partsAV (st : St) : Nat → List (Nat × Operand) → (List AV → Prop) → Prop
  | _, [], K => K []
  | i, (j, x) :: r, K => guardT (Nat.beq i j) (partsAV st (i + 1) r fun l => K (av st x :: l))

def pushL {α : Type} (l : List α) (x : α) (K : List α → Prop) : Prop := match l with | [] => K [x] | l => K (l ++ [x])
theorem pushL_eq {α : Type} (l : List α) (x : α) (K : List α → Prop) : pushL l x K = K (l ++ [x]) := by cases l <;> rfl
def Col.push (c : Col) (x : AV) (K : Col → Prop) : Prop :=
  match c, x with
  | .bools l, .bool b => pushL l b fun l => K (.bools l)
  | .ints k l, .int k' n => guardT (ikEq k k') (pushL l n fun l => K (.ints k l))
  | .flts k l, .flt k' n => guardT (fkEq k k') (pushL l n fun l => K (.flts k l))
  | .cpxs k l, .cpx k' a b => guardT (fkEq k k') (pushL l (a, b) fun l => K (.cpxs k l))
  | .strs l, .str s => pushL l s fun l => K (.strs l)
  | _, _ => False
theorem Col.push_out {c : Col} {x : AV} {K : Col → Prop} (h : c.push x K) : ∃ r d : Col, K r ∧ IsJoin r c d ∧ d.len = 1 ∧ d.at 0 = x ∧ isOne x = true := by
  unfold Col.push at h
  simp only [guardT_eq, pushL_eq] at h
  split at h
  · rename_i l b; exact ⟨_, .bools [b], h, ⟨by simp [Col.len], rfl, fun i hi => by simp only [Col.at, getD_app1 _ _ _ _ hi], fun i => by simp only [Col.at, Col.len, getD_app2]⟩, rfl, rfl, rfl⟩
  · rename_i k l k' b; have e := ikEq_eq h.1; subst e; exact ⟨_, .ints k [b], h.2, ⟨by simp [Col.len], ikEq_refl _, fun i hi => by simp only [Col.at, getD_app1 _ _ _ _ hi], fun i => by simp only [Col.at, Col.len, getD_app2]⟩, rfl, rfl, rfl⟩
  · rename_i k l k' b; have e := fkEq_eq h.1; subst e; exact ⟨_, .flts k [b], h.2, ⟨by simp [Col.len], fkEq_refl _, fun i hi => by simp only [Col.at, getD_app1 _ _ _ _ hi], fun i => by simp only [Col.at, Col.len, getD_app2]⟩, rfl, rfl, rfl⟩
  · rename_i k l k' x y; have e := fkEq_eq h.1; subst e; exact ⟨_, .cpxs k [(x, y)], h.2, ⟨by simp [Col.len], fkEq_refl _, fun i hi => by simp only [Col.at, getD_app1 _ _ _ _ hi], fun i => by simp only [Col.at, Col.len, getD_app2]⟩, rfl, rfl, rfl⟩
  · rename_i l b; exact ⟨_, .strs [b], h, ⟨by simp [Col.len], rfl, fun i hi => by simp only [Col.at, getD_app1 _ _ _ _ hi], fun i => by simp only [Col.at, Col.len, getD_app2]⟩, rfl, rfl, rfl⟩
  · exact h.elim
def colsPush : List Col → List AV → (List Col → Prop) → Prop
  | [], [], K => K []
  | c :: r, x :: xs, K => c.push x fun c' => colsPush r xs fun r' => K (c' :: r')
  | _, _, _ => False
theorem colsPush_out : ∀ {cs : List Col} {xs : List AV} {K : List Col → Prop}, colsPush cs xs K → ∃ r b, K r ∧ r.length = cs.length ∧ b.length = cs.length ∧ xs.length = cs.length ∧ (∀ x ∈ xs, isOne x = true) ∧
    (∀ (j : Nat) x c d, r[j]? = some x → cs[j]? = some c → b[j]? = some d → IsJoin x c d) ∧ Even b 1 ∧ b.map (fun d => d.at 0) = xs
  | [], [], K, h => ⟨[], [], h, rfl, rfl, rfl, by simp, by simp, by simp [Even], rfl⟩
  | c :: cs, x :: xs, K, h => by
    rw [colsPush] at h
    obtain ⟨y, d, h, hj, hd1, hd2, ho⟩ := Col.push_out h
    obtain ⟨r, b, h1, h2, h3, h4, h5, h6, h7, h8⟩ := colsPush_out h
    refine ⟨y :: r, d :: b, h1, by simp [h2], by simp [h3], by simp [h4], fun z hz => ?_, fun j z c' d' hz hc hd => ?_, fun z hz => ?_, by simp [hd2, h8]⟩
    · rcases List.mem_cons.1 hz with rfl | hz
      · exact ho
      · exact h5 z hz
    · cases j with
      | zero => simp at hz hc hd; subst hz; subst hc; subst hd; exact hj
      | succ j => exact h6 j z c' d' (by simpa using hz) (by simpa using hc) (by simpa using hd)
    · rcases List.mem_cons.1 hz with rfl | hz
      · exact hd1
      · exact h7 z hz
  | [], _ :: _, K, h => by simp [colsPush] at h
  | _ :: _, [], K, h => by simp [colsPush] at h
def recsPush : List Col → List AV → (List Col → Prop) → Prop
  | cs, [], K => K cs
  | cs, .agg xs :: r, K => colsPush cs xs fun cs' => recsPush cs' r K
  | _, _ :: _, _ => False
theorem even_get {cs : List Col} {n j : Nat} {c : Col} (h : Even cs n) (hc : cs[j]? = some c) : c.len = n := h c (List.mem_of_getElem? hc)
theorem even_head {cs : List Col} {n : Nat} (h : Even cs n) (hp : 0 < cs.length) : colsLen cs = n := by
  cases cs with
  | nil => simp at hp
  | cons c r => exact h c (by simp)
theorem recsPush_out : ∀ (xs : List AV) {cs : List Col} {n : Nat} {K : List Col → Prop}, 0 < cs.length → Even cs n → recsPush cs xs K →
    ∃ r, K r ∧ (∀ x ∈ xs, (flatA x).length = cs.length) ∧ colsAvl r = colsAvl cs ++ xs.flatMap flatA ∧ (∀ x ∈ xs.flatMap flatA, isOne x = true) ∧ (∀ x ∈ xs, ∃ ys, x = .agg ys)
  | [], cs, n, K, _, _, h => ⟨cs, h, by simp, by simp, by simp, by simp⟩
  | x :: xs, cs, n, K, hp, he, h => by
    cases x <;> simp only [recsPush] at h <;> try exact h.elim
    rename_i ys
    obtain ⟨r, b, h1, h2, h3, h4, h5, h6, h7, h8⟩ := colsPush_out h
    have hn := even_head he hp
    obtain ⟨e1, e2⟩ := cols_app h2 h3 (by rw [hn]; exact he) h6
    have hb1 : colsLen b = 1 := even_head h7 (by omega)
    have eb : colsAvl b = ys := by
      refine colsAvl_ext hb1 (by rw [h4, h3, Nat.one_mul]) fun i j c hi hc => ?_
      obtain rfl : i = 0 := by omega
      rw [Nat.zero_mul, Nat.zero_add, ← h8, List.getElem?_map, hc]; rfl
    have her : Even r (n + 1) := fun c hc => by
      obtain ⟨j, hj, rfl⟩ := List.mem_iff_getElem.1 hc
      have ha : cs[j]? = some (cs[j]'(by omega)) := List.getElem?_eq_getElem (by omega)
      have hbj : b[j]? = some (b[j]'(by omega)) := List.getElem?_eq_getElem (by omega)
      have := (h6 j _ _ _ (List.getElem?_eq_getElem hj) ha hbj).1
      rw [this, even_get he ha, even_get h7 hbj]
    obtain ⟨q, g1, g2, g3, g4, g5⟩ := recsPush_out xs (by omega) her h1
    refine ⟨q, g1, fun z hz => ?_, ?_, fun z hz => ?_, fun z hz => ?_⟩
    · rcases List.mem_cons.1 hz with rfl | hz
      · simpa [flatA] using h4
      · rw [g2 z hz, h2]
    · rw [g3, e1, eb, List.append_assoc]; rfl
    · rw [List.flatMap_cons] at hz
      rcases List.mem_append.1 hz with hz | hz
      · exact h5 z hz
      · exact g4 z hz
    · rcases List.mem_cons.1 hz with rfl | hz
      · exact ⟨_, rfl⟩
      · exact g5 z hz
/-- No structs, column by column. -/
def ecols : List Value → (List Col → Prop) → Prop
  | [], K => K []
  | .bool _ :: r, K => ecols r fun cs => K (.bools [] :: cs)
  | .int k _ :: r, K => ecols r fun cs => K (.ints k [] :: cs)
  | .float k _ :: r, K => ecols r fun cs => K (.flts k [] :: cs)
  | .complex k _ _ :: r, K => ecols r fun cs => K (.cpxs k [] :: cs)
  | .string _ :: r, K => ecols r fun cs => K (.strs [] :: cs)
  | _ :: _, _ => False
theorem ecols_out : ∀ {zs : List Value} {K : List Col → Prop}, ecols zs K → ∃ cs, K cs ∧ cs.length = zs.length ∧ Even cs 0
  | [], K, h => ⟨[], h, rfl, by simp [Even]⟩
  | z :: r, K, h => by
    have key : ∀ c : Col, c.len = 0 → ecols r (fun cs => K (c :: cs)) → ∃ cs, K cs ∧ cs.length = (z :: r).length ∧ Even cs 0 := fun c hc h => by
      obtain ⟨cs, h1, h2, h3⟩ := ecols_out h
      exact ⟨c :: cs, h1, by simp [h2], fun d hd => by rcases List.mem_cons.1 hd with rfl | hd; exact hc; exact h3 d hd⟩
    cases z <;> simp only [ecols] at h <;> try exact h.elim
    all_goals exact key _ rfl h

/-- []T{x0, x1, ..}. -/
def buildSliceAV (T : List (Nat × TyI)) (st : St) (t len : Nat) (ps : List (Nat × Operand)) (K : AV → List Seg → Prop) : Prop :=
  match elemOfT T t with
  | some (_, j) => guardT (Nat.ble len 16777216) <| partsAV st 0 ps fun xs => guardT (Nat.beq xs.length len) <|
    match Nat.beq j.size 1 with
    | true => gather j.d xs fun c => K (.slice st.hp.length 0 len len) (st.hp ++ [.seg true c])
    | false => guardT (Nat.blt 0 j.size && (Nat.beq j.zero.cells.toList.length j.size && Nat.ble (len * j.size) 16777216)) <| ecols j.zero.cells.toList fun cs => recsPush cs xs fun cs' => K (.slice st.hp.length 0 len len) (st.hp ++ [.seg true (.cols cs')])
  | none => False

/-- A variable of its own. -/
def boxAV (st : St) (x : AV) (K : AV → List Seg → Prop) : Prop :=
  match x with
  | .agg cs => gatherO cs fun l => K (.ptr st.hp.length 0) (st.hp ++ [.seg true (.avs l)])
  | x => guardT (isOne x) (K (.ptr st.hp.length 0) (st.hp ++ [.seg true (.avs [x])]))

def allocAV (T : List (Nat × TyI)) (st : St) (t : Nat) (K : AV → List Seg → Prop) : Prop :=
  match tyAt T t with
  | some i => gatherO (i.zero.cells.toList.map avScalar) fun l => K (.ptr st.hp.length 0) (st.hp ++ [.seg true (.avs l)])
  | none => False

section
variable {P : Program} {T : List (Nat × TyI)} {w0 : World} {L : Nat → Prop} {ρ : Plc} {st : St} {a : Act} {w : World}

theorem partsAV_out (hd : ∀ x, Den ρ (av st x) (a.eval x)) : ∀ (ps : List (Nat × Operand)) (i : Nat) (K : List AV → Prop), partsAV st i ps K → ∃ xs, K xs ∧ xs.length = ps.length ∧ Dens ρ xs (ps.map fun p => a.eval p.2) ∧ ps.map (·.1) = List.range' i ps.length
  | [], i, K, h => ⟨[], h, rfl, by simp [Dens], rfl⟩
  | (j, x) :: r, i, K, h => by
    simp only [partsAV, guardT_eq] at h
    obtain ⟨h0, h⟩ := h
    have h0 := Nat.eq_of_beq_eq_true h0
    obtain ⟨xs, h1, h2, h3, h4⟩ := partsAV_out hd r (i + 1) _ h
    exact ⟨_, h1, by simp [h2], by simp only [List.map_cons, Dens]; exact ⟨_, _, rfl, hd x, h3⟩, by simp [h4, ← h0, List.range'_succ]⟩

/-- A literal's parts fill its cells. -/
theorem fill_row : ∀ (vs : List Value) (i : Nat) (cells : Array Value), (∀ v ∈ vs, v.oneCell' = true) → i + vs.length = cells.size →
    Instr.fill (fun i => some (i * 1, 1)) cells ((List.range' i vs.length).zip vs) = some (cells.toList.take i ++ vs).toArray
  | [], i, cells, _, h => by
    simp only [List.length_nil, Nat.add_zero] at h
    simp only [List.length_nil, List.range'_zero, List.zip_nil_right, Instr.fill, List.append_nil, Option.some.injEq]
    rw [List.take_of_length_le (by simp [h])]
  | v :: vs, i, cells, h1, h => by
    simp only [List.length_cons] at h
    have hone := cells_one (h1 v (by simp))
    have ih := fill_row vs (i + 1) (cells.setIfInBounds i v) (fun u hu => h1 u (by simp [hu])) (by simp; omega)
    have hc : ¬ ((decide (v.cells.size ≠ 1) || decide (i * 1 + v.cells.size > cells.size)) = true) := by rw [hone]; simp; omega
    have e : v.cells.zipIdx.foldl (fun cs (x : Value × Nat) => cs.setIfInBounds (i * 1 + x.2) x.1) cells = cells.setIfInBounds i v := by rw [hone]; simp [Array.zipIdx]
    have e2 : (cells.setIfInBounds i v).toList.take (i + 1) ++ vs = cells.toList.take i ++ v :: vs := by
      have := splice_succ cells.toList i v ([] : List Value) (by simp; omega)
      have e3 : (cells.toList.set i v).take (i + 1) = cells.toList.take i ++ [v] := by
        rw [List.take_succ_eq_append_getElem (by simp; omega)]
        have e4 : (cells.toList.set i v).take i = cells.toList.take i := by
          apply List.ext_getElem?
          intro m
          simp only [List.getElem?_take]
          split
          · rw [List.getElem?_set_ne (by omega)]
          · rfl
        rw [e4]; simp
      rw [Array.toList_setIfInBounds, e3]; simp
    rw [e2] at ih
    rw [← ih]
    simp only [List.length_cons, List.range'_succ, List.zip_cons_cons, Instr.fill]
    rw [if_neg hc]
    congr 1

/-- A literal's structs fill its cells. -/
theorem fill_recs (m : Nat) : ∀ (vs : List Value) (i : Nat) (l : List Value), (∀ v ∈ vs, v.cells.size = m) → (i + vs.length) * m = l.length →
    Instr.fill (fun i => some (i * m, m)) l.toArray ((List.range' i vs.length).zip vs) = some (l.take (i * m) ++ vs.flatMap fun v => v.cells.toList).toArray
  | [], i, l, _, h => by
    simp only [List.length_nil, Nat.add_zero] at h
    simp only [List.length_nil, List.range'_zero, List.zip_nil_right, Instr.fill, List.flatMap_nil, List.append_nil, Option.some.injEq]
    rw [List.take_of_length_le (by omega)]
  | v :: vs, i, l, h1, h => by
    simp only [List.length_cons] at h
    have hv := h1 v (by simp)
    have hle : i * m + m ≤ l.length := by
      rw [← h, show i + (vs.length + 1) = (i + 1) + vs.length by omega, Nat.add_mul, Nat.add_mul]; omega
    have hc : ¬ ((decide (v.cells.size ≠ m) || decide (i * m + v.cells.size > l.toArray.size)) = true) := by simp [hv]; omega
    have hfold : v.cells.zipIdx.foldl (fun cs (x : Value × Nat) => cs.setIfInBounds (i * m + x.2) x.1) l.toArray = (l.take (i * m) ++ v.cells.toList ++ l.drop (i * m + m)).toArray := by
      have hvl : v.cells.toList.length = m := by simpa using hv
      have := setCellsA v.cells.toList 0 (i * m) l (by rw [hvl]; omega)
      rw [← Array.toList_inj]
      simp only [Nat.add_zero] at this
      rw [hvl] at this
      rw [← this]
      have e : v.cells.zipIdx = (v.cells.toList.zipIdx 0).toArray := by
        rw [← Array.toList_inj]; simp
      rw [e, List.foldl_toArray]
    have hvl : v.cells.toList.length = m := by simpa using hv
    have ih := fill_recs m vs (i + 1) (l.take (i * m) ++ v.cells.toList ++ l.drop (i * m + m)) (fun u hu => h1 u (by simp [hu])) (by
      simp only [List.length_append, List.length_take, List.length_drop, hvl]
      rw [show i + 1 + vs.length = i + (vs.length + 1) by omega, h]; omega)
    have e2 : (l.take (i * m) ++ v.cells.toList ++ l.drop (i * m + m)).take ((i + 1) * m) = l.take (i * m) ++ v.cells.toList := by
      rw [List.take_left']
      simp only [List.length_append, List.length_take, hvl, Nat.add_mul, Nat.one_mul]
      omega
    rw [e2] at ih
    rw [List.flatMap_cons, ← List.append_assoc, ← ih]
    simp only [List.length_cons, List.range'_succ, List.zip_cons_cons, Instr.fill]
    rw [if_neg hc]
    congr 1
theorem dens_flat {ρ : Plc} : ∀ {xs : List AV} {vs : List Value}, Dens ρ xs vs → (∀ x ∈ xs, ∃ ys, x = .agg ys) → Dens ρ (xs.flatMap flatA) (vs.flatMap fun v => v.cells.toList) ∧ vs.map (fun v => v.cells.size) = xs.map fun x => (flatA x).length
  | [], vs, h, _ => by simp only [Dens] at h; subst h; exact ⟨by simp [Dens], rfl⟩
  | x :: xs, vs, h, hx => by
    simp only [Dens] at h
    obtain ⟨v, r, rfl, h1, h2⟩ := h
    obtain ⟨ys, rfl⟩ := hx x (by simp)
    obtain ⟨g1, g2⟩ := dens_flat h2 fun z hz => hx z (by simp [hz])
    have hf := flatA_den (x := .agg ys) rfl h1
    refine ⟨hf.append g1, ?_⟩
    simp only [List.map_cons, g2, List.cons.injEq, and_true]
    rw [hf.len]; simp

theorem buildSlice_sound (hT : TOk P T) {t len : Nat} {ps : Array (Nat × Operand)} {K : AV → List Seg → Prop} (h : buildSliceAV T st t len ps.toList K) (hr : Rep w0 L ρ st a w) :
    ∃ y H' ρ' v w', K y H' ∧ (Instr.buildSlice t len (ps.map fun (i, x) => (i, a.eval x))).run P w = .ok v w' ∧ Den (ρ ++ ρ') y v ∧ Rep w0 L (ρ ++ ρ') { st with hp := H' } a w' := by
  unfold buildSliceAV at h
  simp only [guardT_eq] at h
  split at h
  · rename_i e j hej
    obtain ⟨hu, hj, hag⟩ := elemOfT_some hT hej
    obtain ⟨hle, h⟩ := h
    have hle : len ≤ 16777216 := by simpa using hle
    obtain ⟨xs, ⟨hlen, h⟩, hxl, hd, hidx⟩ := partsAV_out (av_den hr) _ _ _ h
    have hlen := Nat.eq_of_beq_eq_true hlen
    obtain ⟨ji, g1, g2, g3, g4⟩ := info_of hag
    have hn := hr.heap.names
    have hpl : pl (ρ ++ [(w.heap.size, 0)]) st.hp.length = (w.heap.size, 0) := by simp [pl, ← hn]
    have hpsl : ps.toList.length = len := by rw [← hxl, hlen]
    have hvl : (ps.toList.map fun p => a.eval p.2).length = len := by rw [List.length_map, hpsl]
    have hzip : (ps.map fun (i, x) => (i, a.eval x)).toList = (List.range' 0 (ps.toList.map fun p => a.eval p.2).length).zip (ps.toList.map fun p => a.eval p.2) := by
      rw [hvl, ← hpsl, ← hidx, Array.toList_map]
      generalize ps.toList = l
      induction l with
      | nil => rfl
      | cons p l ih => simp only [List.map_cons, List.zip_cons_cons, ih]
    have hz2 : (zeroValue e).run P w = .ok j.zero w := by simp [zeroValue, typeInfo, g1, g4]
    split at h
    · rename_i hs
      have hs := Nat.eq_of_beq_eq_true hs
      obtain ⟨c, hk, hc, hone⟩ := gather_out h
      have h1 := dens_one hd hone
      refine ⟨_, _, _, .slice (some ⟨w.heap.size, 0, none⟩) len len, _, hk, ?_, ?_, hr.newRow (c := c) e (by rw [hc]; exact hd) h1⟩
      · have hfill := fun cells (hcs : len = cells.size) => fill_row (ps.toList.map fun p => a.eval p.2) 0 cells h1 (by rw [hvl, Nat.zero_add]; exact hcs)
        have hb : ¬ len * 1 > 2 ^ 24 := by have : (2 : Nat) ^ 24 = 16777216 := by decide
                                           omega
        simp only [Instr.buildSlice, Sem.run_bind, run_underlying hu, Result.andThen_ok, run_sizeOf hag, hs, hb, if_false, hzip]
        split
        · simp only [Sem.run_bind, Sem.run_pure, Result.andThen_ok]
          rw [hfill _ (by simp)]
          simp [newRow]
        · simp only [Sem.run_bind, Sem.run_pure, Result.andThen_ok, hz2]
          rw [hfill _ (by simp)]
          simp [newRow]
      · simp only [Den, hpl]; exact ⟨by simp [hn], by omega, .inl (by simp)⟩
    · rename_i hs
      obtain ⟨hb, h⟩ := h
      simp only [Bool.and_eq_true, Nat.blt_eq, Nat.ble_eq] at hb
      obtain ⟨hpos, hzl, hbig⟩ := hb
      have hzl := Nat.eq_of_beq_eq_true hzl
      obtain ⟨cs, h, hcl, hev⟩ := ecols_out h
      obtain ⟨cs', hk, h2, h3, h4, h5⟩ := recsPush_out xs (by omega) hev h
      obtain ⟨d1, d2⟩ := dens_flat hd h5
      have h0 : colsAvl cs = [] := List.eq_nil_of_length_eq_zero (by rw [colsAvl_len, even_head hev (by omega), Nat.zero_mul])
      rw [h0, List.nil_append] at h3
      have hvs : ∀ v ∈ ps.toList.map fun p => a.eval p.2, v.cells.size = j.size := fun v hv => by
        have : v.cells.size ∈ (ps.toList.map fun p => a.eval p.2).map fun v => v.cells.size := List.mem_map_of_mem hv
        rw [d2] at this
        obtain ⟨x, hx, e⟩ := List.mem_map.1 this
        rw [← e, h2 x hx, hcl, hzl]
      refine ⟨_, _, _, .slice (some ⟨w.heap.size, 0, none⟩) len len, _, hk, ?_, ?_, hr.newRow (c := .cols cs') (vs := (ps.toList.map fun p => a.eval p.2).flatMap fun v => v.cells.toList) e (by simp only [Cont.avl]; rw [h3]; exact d1) (dens_one d1 h4)⟩
      · have hfill := fun (cells : Array Value) (hcs : len * j.size = cells.size) => fill_recs j.size (ps.toList.map fun p => a.eval p.2) 0 cells.toList hvs (by rw [hvl, Nat.zero_add, hcs]; simp)
        have hb : ¬ len * j.size > 2 ^ 24 := by have : (2 : Nat) ^ 24 = 16777216 := by decide
                                                omega
        simp only [Array.toArray_toList] at hfill
        simp only [Instr.buildSlice, Sem.run_bind, run_underlying hu, Result.andThen_ok, run_sizeOf hag, hb, if_false, hzip]
        split
        · simp only [Sem.run_bind, Sem.run_pure, Result.andThen_ok]
          rw [hfill _ (by simp)]
          simp [newRow]
        · simp only [Sem.run_bind, Sem.run_pure, Result.andThen_ok, hz2]
          rw [hfill _ (by simp)]
          simp [newRow]
      · simp only [Den, hpl]; exact ⟨by simp [hn], by omega, .inl (by simp)⟩
  · exact h.elim

theorem box_sound {x : AV} {K : AV → List Seg → Prop} (h : boxAV st x K) (hr : Rep w0 L ρ st a w) (t : TypeId) {vx : Value} (hx : Den ρ x vx) :
    ∃ y H' ρ' v w', K y H' ∧ (Instr.box t vx).run P w = .ok v w' ∧ Den (ρ ++ ρ') y v ∧ Rep w0 L (ρ ++ ρ') { st with hp := H' } a w' := by
  have hn := hr.heap.names
  have hpl : pl (ρ ++ [(w.heap.size, 0)]) st.hp.length = (w.heap.size, 0) := by simp [pl, ← hn]
  unfold boxAV at h
  simp only [guardT_eq] at h
  split at h
  · rename_i cs
    obtain ⟨h1, h2⟩ := gatherO_out _ _ h
    simp only [Den] at hx
    obtain ⟨vs, rfl, hd⟩ := hx
    refine ⟨_, _, _, .pointer (some ⟨w.heap.size, 0, none⟩), _, h1, ?_, ?_, hr.newRow (c := .avs cs) t hd (dens_one hd h2)⟩
    · simp [Instr.box, newVar, newRow, Value.cells]
    · simp only [Den, hpl]; exact ⟨by simp [hn], trivial⟩
  · obtain ⟨h1, h2⟩ := h
    have hone := den_one h1 hx
    refine ⟨_, _, _, .pointer (some ⟨w.heap.size, 0, none⟩), _, h2, ?_, ?_, hr.newRow (c := .avs [x]) (vs := [vx]) t (by simp only [Cont.avl, Dens]; exact ⟨vx, [], rfl, hx, rfl⟩) (by simpa using hone)⟩
    · simp [Instr.box, newVar, newRow, cells_one hone]
    · simp only [Den, hpl]; exact ⟨by simp [hn], trivial⟩

theorem alloc_sound (hT : TOk P T) {t : Nat} {K : AV → List Seg → Prop} (h : allocAV T st t K) (hr : Rep w0 L ρ st a w) :
    ∃ y H' ρ' v w', K y H' ∧ (Instr.alloc t true (.tuple #[])).run P w = .ok v w' ∧ Den (ρ ++ ρ') y v ∧ Rep w0 L (ρ ++ ρ') { st with hp := H' } a w' := by
  have hn := hr.heap.names
  have hpl : pl (ρ ++ [(w.heap.size, 0)]) st.hp.length = (w.heap.size, 0) := by simp [pl, ← hn]
  unfold allocAV at h
  split at h
  · rename_i i hi
    obtain ⟨h1, h2⟩ := gatherO_out _ _ h
    obtain ⟨ji, g1, g2, g3, g4⟩ := info_of (hT.at hi)
    have hd := avScalars_den ρ i.zero.cells.toList
    refine ⟨_, _, _, .pointer (some ⟨w.heap.size, 0, none⟩), _, h1, ?_, ?_, hr.newRow (c := .avs (i.zero.cells.toList.map avScalar)) (vs := i.zero.cells.toList) t hd (dens_one hd h2)⟩
    · simp [Instr.alloc, zeroValue, typeInfo, g1, g4, newVar, newRow]
    · simp only [Den, hpl]; exact ⟨by simp [hn], trivial⟩
  · exact h.elim

/-- A new row whose tail is marked. -/
theorem Rep.newRowM (h : Rep w0 L ρ st a w) {c : Cont} {vs : List Value} (e : TypeId) (hd : Dens ρ c.avl vs) (h1 : ∀ v ∈ vs, v.oneCell' = true) :
    Rep w0 L (ρ ++ [(w.heap.size, 0)]) { st with hp := st.hp ++ [.seg true c] } a (w.alloc (.cells vs.toArray e (vs.length, vs.length + 1))) := by
  have hn := h.heap.names
  have hw : HeapOk w0.heap.size L ρ st.hp (w.alloc (.cells vs.toArray e (vs.length, vs.length + 1))) := h.heap.world fun n s hs hl => Below.heap_alloc w _ _ (h.heap.lt hs hl)
  have hp : pl (ρ ++ [(w.heap.size, 0)]) st.hp.length = (w.heap.size, 0) := by simp [pl, ← hn]
  have hget : (w.alloc (.cells vs.toArray e (vs.length, vs.length + 1))).heap[w.heap.size]? = some (.cells vs.toArray e (vs.length, vs.length + 1)) := Array.getElem?_push_size
  refine ⟨h.slots.grow _, hw.push (fun i y hi => ?_) (fun _ _ => .inl h.kept.size) (fun _ m s hs hl => ?_), h.kept.alloc _, h.defers⟩
  · obtain ⟨v, g1, g2⟩ := (hd.grow [(w.heap.size, 0)]).get i y hi
    have hi' : i < vs.length := (List.getElem?_eq_some_iff.1 g1).1
    refine ⟨v, ?_, g2, h1 v (List.mem_of_getElem? g1), fun _ => ?_⟩
    · rw [hp]
      simp only [World.cell?, hget, Nat.zero_add]
      simpa using g1
    · rw [hp]
      simp only [World.frozen?, hget, Nat.zero_add]
      simp; omega
  · have := h.heap.lt hs hl
    simp; omega

/-- []byte(s). -/
def bytesAV (T : List (Nat × TyI)) (hp : List Seg) (src dst : Nat) (x : AV) (K : AV → List Seg → Prop) : Prop :=
  match tyAt T src, elemOfT T dst, x with
  | some i, some (_, j), .str b =>
    (match i.d, j.d with
     | .str, .int .u8 => ∀ n : Nat, K (.slice hp.length 0 b.size (b.size + n)) (hp ++ [.seg true (.ints .u8 (b.data.toList.map (fun b => (b.toNat : Int)) ++ List.replicate n 0))])
     | _, _ => False)
  | _, _, _ => False
theorem bytes_sound (hT : TOk P T) {src dst : Nat} {x : AV} {K : AV → List Seg → Prop} (h : bytesAV T st.hp src dst x K) (hr : Rep w0 L ρ st a w) {vx : Value} (hx : Den ρ x vx) :
    ∃ y H' ρ' v w', K y H' ∧ (convert src dst vx).run P w = .ok v w' ∧ Den (ρ ++ ρ') y v ∧ Rep w0 L (ρ ++ ρ') { st with hp := H' } a w' := by
  unfold bytesAV at h
  split at h
  · rename_i i e j b hi hel
    split at h
    · rename_i hid hjd
      simp only [Den] at hx
      obtain ⟨hu, hj, hag⟩ := elemOfT_some hT hel
      have hus := und_str (hT.at hi) hid
      have hue := und_int hag hjd
      have hge := grownCap_ge w b.size 0 e
      obtain ⟨n, hn⟩ : ∃ n, grownCap w b.size 0 e = b.size + n := ⟨grownCap w b.size 0 e - b.size, by omega⟩
      have h := h n
      let vs : List Value := b.data.toList.map (fun b => Value.int .u8 b.toNat) ++ List.replicate n (.int .u8 0)
      let ct : Cont := .ints .u8 (b.data.toList.map (fun b => (b.toNat : Int)) ++ List.replicate n 0)
      have hbl : b.data.toList.length = b.size := rfl
      have hvl : vs.length = b.size + n := by simp only [vs, List.length_append, List.length_map, List.length_replicate, hbl]
      have havl : ct.avl = (b.data.toList.map (fun b => AV.int .u8 b.toNat)) ++ List.replicate n (.int .u8 0) := by simp [ct, Cont.avl]
      have hd : Dens ρ ct.avl vs := by
        rw [havl]
        refine Dens.append ?_ ?_
        · generalize b.data.toList = l
          induction l with
          | nil => simp [Dens]
          | cons y l ih => simp only [List.map_cons, Dens]; exact ⟨_, _, rfl, by simp [Den], ih⟩
        · exact dens_replicate (by simp [Den]) n
      have h1 : ∀ v ∈ vs, v.oneCell' = true := by
        intro v hv
        rcases List.mem_append.1 hv with hv | hv
        · obtain ⟨_, _, rfl⟩ := List.mem_map.1 hv; rfl
        · rw [(List.mem_replicate.1 hv).2]; rfl
      have hrow := hr.drew.newRowM (c := ct) (vs := vs) e hd h1
      have hrun : (convert src dst vx).run P w = .ok (.slice (some ⟨w.heap.size, 0, none⟩) b.size (b.size + n)) (w.drew.alloc (.cells vs.toArray e (vs.length, vs.length + 1))) := by
        rw [hx]
        have hcells : (b.data.map (fun b => Value.int .u8 b.toNat) ++ Array.replicate (grownCap w b.size 0 e - b.size) (.int .u8 0)) = vs.toArray := by
          rw [← Array.toList_inj, hn, Nat.add_sub_cancel_left]; simp [vs]
        simp only [grownCap] at hcells hn
        have hget : ∀ o : Obj, (w.drew.alloc o).heap[w.heap.size]? = some o := fun o => Array.getElem?_push_size
        have hsh : (w.drew.alloc (.cells vs.toArray e)).shape? w.heap.size = some (e, vs.length) := by simp only [World.shape?, hget]; simp
        have hfr : (w.drew.alloc (.cells vs.toArray e)).freeze { block := w.heap.size, off := vs.length } 1 = w.drew.alloc (.cells vs.toArray e (vs.length, vs.length + 1)) := by
          unfold World.freeze
          rw [if_neg (by decide)]
          have : ∀ (h : Array Obj) (o : Obj) (f : Obj → Obj), (h.push o).modify h.size f = h.push (f o) := fun h o f => by
            apply Array.ext_getElem?
            intro i
            simp only [Array.getElem?_modify, Array.getElem?_push]
            by_cases hi : h.size = i
            · subst hi; simp
            · have hi' : ¬ i = h.size := fun e => hi e.symm
              simp [hi, hi']
          show ({ w.drew.alloc (.cells vs.toArray e) with heap := (w.drew.heap.push (.cells vs.toArray e)).modify w.drew.heap.size _ } : World) = _
          rw [this]
          rfl
        simp [convert, run_underlying hus, run_underlying hu, run_underlying hue, Conv.stringToBytes, newRow, markStringish, Question.forced, grownCap]
        rw [hcells, hsh]
        simp only [freeze, Sem.run, Result.andThen_ok, hfr, hn]
      have hnames := hr.heap.names
      refine ⟨_, _, [(w.drew.heap.size, 0)], _, _, h, hrun, ?_, hrow⟩
      have : pl (ρ ++ [(w.drew.heap.size, 0)]) st.hp.length = (w.heap.size, 0) := by rw [← hnames]; simp [pl]
      simp only [Den, this]
      exact ⟨by simp; omega, by omega, .inl (by simp)⟩
    · exact h.elim
  · exact h.elim

def boolsOf : List AV → Option (List Bool)
  | [] => some []
  | .bool b :: r => (match boolsOf r with | some l => some (b :: l) | none => none)
  | _ => none
def intsOf (k : IntKind) : List AV → Option (List Int)
  | [] => some []
  | .int k' b :: r => (match ikEq k k', intsOf k r with | true, some l => some (b :: l) | _, _ => none)
  | _ => none
def fltsOf (k : FloatKind) : List AV → Option (List Nat)
  | [] => some []
  | .flt k' b :: r => (match fkEq k k', fltsOf k r with | true, some l => some (b :: l) | _, _ => none)
  | _ => none
def cpxsOf (k : FloatKind) : List AV → Option (List (Nat × Nat))
  | [] => some []
  | .cpx k' a b :: r => (match fkEq k k', cpxsOf k r with | true, some l => some ((a, b) :: l) | _, _ => none)
  | _ => none
def strsOf : List AV → Option (List ByteArray)
  | [] => some []
  | .str b :: r => (match strsOf r with | some l => some (b :: l) | none => none)
  | _ => none
theorem boolsOf_eq : ∀ {l : List AV} {m : List Bool}, boolsOf l = some m → m.map .bool = l
  | [], m, h => by simp only [boolsOf, Option.some.injEq] at h; subst h; rfl
  | x :: r, m, h => by
    unfold boolsOf at h
    split at h
    · rename_i h0; cases h0
    · rename_i h0; cases h0
      split at h
      · rename_i l hl; cases h; simp [boolsOf_eq hl]
      · cases h
    · cases h
theorem strsOf_eq : ∀ {l : List AV} {m : List ByteArray}, strsOf l = some m → m.map .str = l
  | [], m, h => by simp only [strsOf, Option.some.injEq] at h; subst h; rfl
  | x :: r, m, h => by
    unfold strsOf at h
    split at h
    · rename_i h0; cases h0
    · rename_i h0; cases h0
      split at h
      · rename_i l hl; cases h; simp [strsOf_eq hl]
      · cases h
    · cases h
theorem intsOf_eq {k : IntKind} : ∀ {l : List AV} {m : List Int}, intsOf k l = some m → m.map (.int k) = l
  | [], m, h => by simp only [intsOf, Option.some.injEq] at h; subst h; rfl
  | x :: r, m, h => by
    unfold intsOf at h
    split at h
    · rename_i h0; cases h0
    · rename_i h0; cases h0
      split at h
      · rename_i l hk hl; cases h; have e := ikEq_eq hk; subst e; simp [intsOf_eq hl]
      · cases h
    · cases h
theorem fltsOf_eq {k : FloatKind} : ∀ {l : List AV} {m : List Nat}, fltsOf k l = some m → m.map (.flt k) = l
  | [], m, h => by simp only [fltsOf, Option.some.injEq] at h; subst h; rfl
  | x :: r, m, h => by
    unfold fltsOf at h
    split at h
    · rename_i h0; cases h0
    · rename_i h0; cases h0
      split at h
      · rename_i l hk hl; cases h; have e := fkEq_eq hk; subst e; simp [fltsOf_eq hl]
      · cases h
    · cases h
theorem cpxsOf_eq {k : FloatKind} : ∀ {l : List AV} {m : List (Nat × Nat)}, cpxsOf k l = some m → m.map (fun p => AV.cpx k p.1 p.2) = l
  | [], m, h => by simp only [cpxsOf, Option.some.injEq] at h; subst h; rfl
  | x :: r, m, h => by
    unfold cpxsOf at h
    split at h
    · rename_i h0; cases h0
    · rename_i h0; cases h0
      split at h
      · rename_i l hk hl; cases h; have e := fkEq_eq hk; subst e; simp [cpxsOf_eq hl]
      · cases h
    · cases h
def Col.over (c d : Col) (o : Nat) (K : Col → Prop) : Prop :=
  match c, d with
  | .bools a, .bools b => K (.bools (a.take o ++ b ++ a.drop (o + b.length)))
  | .ints k a, .ints k' b => guardT (ikEq k k') (K (.ints k (a.take o ++ b ++ a.drop (o + b.length))))
  | .flts k a, .flts k' b => guardT (fkEq k k') (K (.flts k (a.take o ++ b ++ a.drop (o + b.length))))
  | .cpxs k a, .cpxs k' b => guardT (fkEq k k') (K (.cpxs k (a.take o ++ b ++ a.drop (o + b.length))))
  | .strs a, .strs b => K (.strs (a.take o ++ b ++ a.drop (o + b.length)))
  | _, _ => False
def IsOver (r c d : Col) (o : Nat) : Prop := r.len = o + d.len + (c.len - (o + d.len)) ∧ ∀ i, r.at i = if i < o then c.at i else if i < o + d.len then d.at (i - o) else c.at i
theorem getD_over {α : Type} (a b : List α) (o i : Nat) (d : α) (ho : o ≤ a.length) : (a.take o ++ b ++ a.drop (o + b.length)).getD i d = if i < o then a.getD i d else if i < o + b.length then b.getD (i - o) d else a.getD i d := by
  have hl : (a.take o).length = o := by rw [List.length_take]; omega
  simp only [List.getD_eq_getElem?_getD]
  split
  · rw [List.append_assoc, List.getElem?_append_left (by omega), List.getElem?_take, if_pos (by omega)]
  · split
    · rw [List.append_assoc, List.getElem?_append_right (by omega), hl, List.getElem?_append_left (by omega)]
    · rw [List.getElem?_append_right (by rw [List.length_append]; omega), List.length_append, hl, List.getElem?_drop]
      congr 2; omega
theorem ite3 {α β : Type} (f : α → β) {p q : Prop} [Decidable p] [Decidable q] (a b c : α) : f (if p then a else if q then b else c) = if p then f a else if q then f b else f c := by
  by_cases h : p <;> by_cases h' : q <;> simp [h, h']
theorem Col.over_out {c d : Col} {o : Nat} {K : Col → Prop} (ho : o ≤ c.len) (h : c.over d o K) : ∃ r, K r ∧ IsOver r c d o := by
  unfold Col.over at h
  simp only [guardT_eq] at h
  split at h
  · exact ⟨_, h, by simp only [Col.len] at ho ⊢; simp; omega, fun i => by simp only [Col.at, Col.len]; rw [getD_over _ _ _ _ _ ho]; exact ite3 AV.bool _ _ _⟩
  · have e := ikEq_eq h.1; subst e
    exact ⟨_, h.2, by simp only [Col.len] at ho ⊢; simp; omega, fun i => by simp only [Col.at, Col.len]; rw [getD_over _ _ _ _ _ ho]; exact ite3 (AV.int _) _ _ _⟩
  · have e := fkEq_eq h.1; subst e
    exact ⟨_, h.2, by simp only [Col.len] at ho ⊢; simp; omega, fun i => by simp only [Col.at, Col.len]; rw [getD_over _ _ _ _ _ ho]; exact ite3 (AV.flt _) _ _ _⟩
  · have e := fkEq_eq h.1; subst e
    exact ⟨_, h.2, by simp only [Col.len] at ho ⊢; simp; omega, fun i => by simp only [Col.at, Col.len]; rw [getD_over _ _ _ _ _ ho]; exact ite3 (fun p : Nat × Nat => AV.cpx _ p.1 p.2) _ _ _⟩
  · exact ⟨_, h, by simp only [Col.len] at ho ⊢; simp; omega, fun i => by simp only [Col.at, Col.len]; rw [getD_over _ _ _ _ _ ho]; exact ite3 AV.str _ _ _⟩
  · exact h.elim
def colsOver : List Col → List Col → Nat → (List Col → Prop) → Prop
  | [], [], _, K => K []
  | c :: r, d :: s, o, K => c.over d o fun x => colsOver r s o fun t => K (x :: t)
  | _, _, _, _ => False
theorem colsOver_out {n : Nat} : ∀ {a b : List Col} {o : Nat} {K : List Col → Prop}, Even a n → o ≤ n → colsOver a b o K → ∃ r, K r ∧ r.length = a.length ∧ b.length = a.length ∧ ∀ (j : Nat) x c d, r[j]? = some x → a[j]? = some c → b[j]? = some d → IsOver x c d o
  | [], [], o, K, _, _, h => ⟨[], h, rfl, rfl, by simp⟩
  | c :: a, d :: b, o, K, he, ho, h => by
    rw [colsOver] at h
    obtain ⟨x, h, hx⟩ := Col.over_out (by rw [he c (by simp)]; exact ho) h
    obtain ⟨r, h1, h2, h3, h5⟩ := colsOver_out (fun d hd => he d (by simp [hd])) ho h
    refine ⟨x :: r, h1, by simp [h2], by simp [h3], fun j y c' d' hy hc hd => ?_⟩
    cases j with
    | zero => simp at hy hc hd; subst hy; subst hc; subst hd; exact hx
    | succ j => exact h5 j y c' d' (by simpa using hy) (by simpa using hc) (by simpa using hd)
  | [], _ :: _, _, K, _, _, h => by simp [colsOver] at h
  | _ :: _, [], _, K, _, _, h => by simp [colsOver] at h
def headLe (cs : List Col) (i : Nat) (p : Prop) : Prop :=
  match cs with
  | .bools l :: _ => i ≤ l.length ∧ p
  | .ints _ l :: _ => i ≤ l.length ∧ p
  | .flts _ l :: _ => i ≤ l.length ∧ p
  | .cpxs _ l :: _ => i ≤ l.length ∧ p
  | .strs l :: _ => i ≤ l.length ∧ p
  | [] => False
theorem headLe_out {cs : List Col} {i : Nat} {p : Prop} (h : headLe cs i p) : i ≤ colsLen cs ∧ p := by
  unfold headLe at h
  split at h <;> first | exact h | exact h.elim
theorem colsOver_avl {r a b : List Col} {o : Nat} (hr : r.length = a.length) (hb : b.length = a.length) (hp : 0 < a.length) (ha : Even a (colsLen a)) (hbe : Even b (colsLen b)) (ho : o ≤ colsLen a)
    (h : ∀ (j : Nat) x c d, r[j]? = some x → a[j]? = some c → b[j]? = some d → IsOver x c d o) :
    colsAvl r = (colsAvl a).take (o * a.length) ++ colsAvl b ++ (colsAvl a).drop (o * a.length + (colsAvl b).length) := by
  have get : ∀ (j : Nat), j < a.length → ∃ x c d, r[j]? = some x ∧ a[j]? = some c ∧ b[j]? = some d := fun j hj =>
    ⟨_, _, _, List.getElem?_eq_getElem (by omega), List.getElem?_eq_getElem (by omega), List.getElem?_eq_getElem (by omega)⟩
  have hn : colsLen r = o + colsLen b + (colsLen a - (o + colsLen b)) := by
    obtain ⟨x, c, d, h1, h2, h3⟩ := get 0 hp
    have := (h 0 x c d h1 h2 h3).1
    rw [even_get ha h2, even_get hbe h3] at this
    rw [← this]
    cases r with
    | nil => simp at h1
    | cons y r => simp at h1; subst h1; rfl
  have hbl := colsAvl_len b
  have hal := colsAvl_len a
  have hom : o * a.length ≤ colsLen a * a.length := Nat.mul_le_mul_right _ ho
  refine colsAvl_ext hn ?_ fun i j x hi hx => ?_
  · rw [List.length_append, List.length_append, List.length_take, List.length_drop, hal, hbl, hr, hb, Nat.add_mul, Nat.add_mul, ← Nat.add_mul, Nat.sub_mul, Nat.min_eq_left hom, Nat.add_mul]
  · have hj : j < a.length := by have := (List.getElem?_eq_some_iff.1 hx).1; omega
    rw [hr]
    obtain ⟨x', c, d, h1, h2, h3⟩ := get j hj
    rw [hx] at h1; cases h1
    obtain ⟨_, hat⟩ := h j x c d hx h2 h3
    rw [hat i, even_get hbe h3]
    have htl : ((colsAvl a).take (o * a.length)).length = o * a.length := by rw [List.length_take, hal]; exact Nat.min_eq_left hom
    have hjb : j < b.length := by rw [hb]; exact hj
    by_cases hlt : i < o
    · rw [if_pos hlt, List.append_assoc, List.getElem?_append_left (by rw [htl]; exact rec_lt hlt hj), List.getElem?_take, if_pos (rec_lt hlt hj), colsAvl_get a (by omega) hj, h2]; rfl
    · rw [if_neg hlt]
      by_cases hlt2 : i < o + colsLen b
      · obtain ⟨i', rfl⟩ : ∃ i', i = o + i' := ⟨i - o, by omega⟩
        rw [if_pos hlt2, Nat.add_sub_cancel_left, List.append_assoc, List.getElem?_append_right (by rw [htl, Nat.add_mul]; omega), htl, Nat.add_mul, Nat.add_assoc, Nat.add_sub_cancel_left,
          List.getElem?_append_left (by rw [hbl, hb]; exact rec_lt (by omega) hj), ← hb, colsAvl_get b (by omega) hjb, h3]; rfl
      · rw [if_neg hlt2]
        have hge : (o + colsLen b) * a.length ≤ i * a.length := Nat.mul_le_mul_right _ (by omega)
        have e : (o + colsLen b) * a.length = o * a.length + colsLen b * a.length := Nat.add_mul ..
        rw [List.getElem?_append_right (by rw [List.length_append, htl, hbl, hb]; omega), List.length_append, htl, hbl, hb, List.getElem?_drop,
          show o * a.length + colsLen b * a.length + (i * a.length + j - (o * a.length + colsLen b * a.length)) = i * a.length + j by omega, colsAvl_get a (by omega) hj, h2]; rfl

/-- x laid over c from off on. -/
def overC (c d : Cont) (off : Nat) (K : Cont → Prop) : Prop :=
  match c, d with
  | .bools a, .bools b => K (.bools (a.take off ++ b ++ a.drop (off + b.length)))
  | .ints k a, .ints k' b => guardT (ikEq k k') (K (.ints k (a.take off ++ b ++ a.drop (off + b.length))))
  | .flts k a, .flts k' b => guardT (fkEq k k') (K (.flts k (a.take off ++ b ++ a.drop (off + b.length))))
  | .cpxs k a, .cpxs k' b => guardT (fkEq k k') (K (.cpxs k (a.take off ++ b ++ a.drop (off + b.length))))
  | .strs a, .strs b => K (.strs (a.take off ++ b ++ a.drop (off + b.length)))
  | .avs a, .avs b => K (.avs (a.take off ++ b ++ a.drop (off + b.length)))
  | .avs a, d => K (.avs (a.take off ++ d.avl ++ a.drop (off + d.avl.length)))
  | .bools a, .avs b => (match boolsOf b with | some b => K (.bools (a.take off ++ b ++ a.drop (off + b.length))) | none => False)
  | .ints k a, .avs b => (match intsOf k b with | some b => K (.ints k (a.take off ++ b ++ a.drop (off + b.length))) | none => False)
  | .flts k a, .avs b => (match fltsOf k b with | some b => K (.flts k (a.take off ++ b ++ a.drop (off + b.length))) | none => False)
  | .cpxs k a, .avs b => (match cpxsOf k b with | some b => K (.cpxs k (a.take off ++ b ++ a.drop (off + b.length))) | none => False)
  | .strs a, .avs b => (match strsOf b with | some b => K (.strs (a.take off ++ b ++ a.drop (off + b.length))) | none => False)
  | .cols a, .cols b => lenK a fun m => ∃ o, off = o * m ∧ evenK a (evenK b (headLe a o (colsOver a b o fun r => K (.cols r))))
  | _, _ => False

theorem overC_out {c d : Cont} {off : Nat} {K : Cont → Prop} (h : overC c d off K) : ∃ r, K r ∧ r.avl = c.avl.take off ++ d.avl ++ c.avl.drop (off + d.avl.length) := by
  unfold overC at h
  simp only [guardT_eq] at h
  split at h
  · exact ⟨_, h, by simp [Cont.avl, List.map_take, List.map_drop]⟩
  · have e := ikEq_eq h.1; subst e; exact ⟨_, h.2, by simp [Cont.avl, List.map_take, List.map_drop]⟩
  · have e := fkEq_eq h.1; subst e; exact ⟨_, h.2, by simp [Cont.avl, List.map_take, List.map_drop]⟩
  · have e := fkEq_eq h.1; subst e; exact ⟨_, h.2, by simp [Cont.avl, List.map_take, List.map_drop]⟩
  · exact ⟨_, h, by simp [Cont.avl, List.map_take, List.map_drop]⟩
  · exact ⟨_, h, by simp [Cont.avl]⟩
  · exact ⟨_, h, by simp [Cont.avl]⟩
  · split at h
    · rename_i b hb; have := boolsOf_eq hb; exact ⟨_, h, by simp [Cont.avl, ← this, List.map_take, List.map_drop]⟩
    · exact h.elim
  · split at h
    · rename_i b hb; have := intsOf_eq hb; exact ⟨_, h, by simp [Cont.avl, ← this, List.map_take, List.map_drop]⟩
    · exact h.elim
  · split at h
    · rename_i b hb; have := fltsOf_eq hb; exact ⟨_, h, by simp [Cont.avl, ← this, List.map_take, List.map_drop]⟩
    · exact h.elim
  · split at h
    · rename_i b hb; have := cpxsOf_eq hb; exact ⟨_, h, by simp [Cont.avl, ← this, List.map_take, List.map_drop]⟩
    · exact h.elim
  · split at h
    · rename_i b hb; have := strsOf_eq hb; exact ⟨_, h, by simp [Cont.avl, ← this, List.map_take, List.map_drop]⟩
    · exact h.elim
  · obtain ⟨⟨o, rfl, h'⟩, hp⟩ := lenK_out h
    obtain ⟨e1, h'⟩ := evenK_out h'
    obtain ⟨e2, h'⟩ := evenK_out h'
    obtain ⟨e3, h'⟩ := headLe_out h'
    obtain ⟨r, h1, h2, h3, h4⟩ := colsOver_out e1 e3 h'
    exact ⟨_, h1, by simp only [Cont.avl]; exact colsOver_avl h2 h3 hp e1 e2 e3 h4⟩
  · exact h.elim

/-- Letters of a text, written out. -/
def lettersA (s : ByteArray) (i : Nat) : Nat → List AV
  | 0 => []
  | n + 1 => .int .u8 (byteAt s i) :: lettersA s (i + 1) n
theorem lettersA_eq (s : ByteArray) : ∀ (n i : Nat), i + n ≤ s.size → lettersA s i n = ((s.data.toList.drop i).take n).map fun b => AV.int .u8 (b.toNat : Int)
  | 0, i, _ => by simp [lettersA]
  | n + 1, i, h => by
    have hi : i < s.data.toList.length := by show i < s.size; omega
    rw [lettersA, lettersA_eq s n (i + 1) (by omega), List.drop_eq_getElem_cons hi, List.take_succ_cons, List.map_cons]
    congr 2
    unfold byteAt
    rw [List.getD_eq_getElem?_getD, List.getElem?_eq_getElem hi]; rfl
/-- A text's letters laid over c from off on. -/
def copyText (s : ByteArray) (c : Cont) (off len : Nat) (K : Cont → Nat → Prop) : Prop :=
  match c with
  | .ints .u8 l => off + min s.size len ≤ l.length ∧ K (.ints .u8 (l.take off ++ (s.data.toList.map fun b => (b.toNat : Int)).take (min s.size len) ++ l.drop (off + min s.size len))) (min s.size len)
  | .avs l => len ≤ s.size ∧ guardT (Nat.ble (off + len) l.length) (K (.avs (l.take off ++ lettersA s 0 len ++ l.drop (off + len))) len)
  | _ => False
theorem copyText_out {s : ByteArray} {c : Cont} {off len : Nat} {K : Cont → Nat → Prop} (h : copyText s c off len K) :
    ∃ r, K r (min s.size len) ∧ off + min s.size len ≤ c.avl.length ∧ r.avl = c.avl.take off ++ ((s.data.toList.take (min s.size len)).map fun b => AV.int .u8 (b.toNat : Int)) ++ c.avl.drop (off + min s.size len) := by
  unfold copyText at h
  simp only [guardT_eq] at h
  split at h
  · rename_i l
    exact ⟨_, h.2, by simp only [Cont.avl, List.length_map]; exact h.1, by simp [Cont.avl, List.map_take, List.map_drop, Function.comp_def]⟩
  · rename_i l
    have e : min s.size len = len := by omega
    rw [e]
    refine ⟨_, h.2.2, by simp only [Cont.avl]; exact Nat.le_of_ble_eq_true h.2.1, ?_⟩
    rw [lettersA_eq s len 0 (by omega)]
    simp [Cont.avl]
  · exact h.elim
/-- copy(dst, src). -/
def copyAV (T : List (Nat × TyI)) (hp : List Seg) (t : Nat) (dst src : AV) (K : AV → List Seg → Prop) : Prop :=
  match elemOfT T t, dst, src with
  | some (_, j), .slice n off len _, .slice m off2 len2 _ =>
    (match segAt hp n, segAt hp m with
     | .seg true c, .seg _ d => ((off + mulSz j.size (min len2 len) ≤ c.len ∧ off2 + mulSz j.size (min len2 len) ≤ d.len) ∧ subE d j.size off2 (min len2 len) fun dd => overC c dd off fun r => K (.int .i64 (min len2 len : Nat)) (setSeg hp n (.seg true r)))
     | _, _ => False)
  | some (_, j), .slice n off len _, .str s =>
    guardT (Nat.beq j.size 1) (match segAt hp n with
     | .seg true c => copyText s c off len fun r m => K (.int .i64 (m : Nat)) (setSeg hp n (.seg true r))
     | _ => False)
  | _, _, _ => False

theorem copy_sound (hT : TOk P T) {t t2 ty : Nat} {x y : AV} {K : AV → List Seg → Prop} (h : copyAV T st.hp t x y K) (hr : Rep w0 L ρ st a w) {vx vy : Value} (hx : Den ρ x vx) (hy : Den ρ y vy) :
    ∃ z H' v w', K z H' ∧ (Builtin.copy_ #[t, t2] ty #[vx, vy]).run P w = .ok v w' ∧ Den ρ z v ∧ Rep w0 L ρ { st with hp := H' } a w' := by
  unfold copyAV at h
  split at h
  · rename_i e j n off len cap m off2 len2 cap2 hej
    obtain ⟨hu, hj, hag⟩ := elemOfT_some hT hej
    split at h
    · rename_i c own d hsn hsm
      simp only [mulSz_eq] at h
      obtain ⟨⟨hl1, hl2⟩, h⟩ := h
      obtain ⟨dd, h', hdd, _⟩ := subE_out h
      obtain ⟨r, hk, hrr⟩ := overC_out h'
      have hsn := segAt_some _ _ hsn
      obtain ⟨vs, h1, h2, h3, h4⟩ := read_cells hr.heap (segAt_some _ _ hsm) off2 (min len2 len * j.size) hl2
      have hdl : ((d.avl.drop off2).take (min len2 len * j.size)).length = min len2 len * j.size := by rw [h2.len, h1]
      rw [hdd] at hrr
      simp only [Den] at hx hy
      obtain ⟨hn1, hlc1, hx⟩ := hx
      obtain ⟨hn2, hlc2, hy⟩ := hy
      obtain ⟨w', s1, s2⟩ := hr.storeCont (P := P) (off := off) hsn (by rw [hdl, Cont.len_eq]; exact hl1) h2 h3 hrr
      have hfirst : (Builtin.firstCells j.size (min len2 len) vy).run P w = .ok vs.toArray w := by
        rcases hy with rfl | ⟨h0, b, rfl⟩
        · exact run_first h1 h4
        · obtain rfl : len2 = 0 := by omega
          have : vs = [] := List.eq_nil_of_length_eq_zero (by rw [h1]; simp)
          subst this
          cases b <;> simp [Builtin.firstCells, loadCells, loadCellsFrom]
      have hlen : (Builtin.lenOf vy).run P w = .ok len2 w := by
        rcases hy with rfl | ⟨h0, b, rfl⟩
        · rfl
        · rw [show len2 = 0 by omega]; rfl
      have hmin : Nat.min len2 len = min len2 len := rfl
      rcases hx with rfl | ⟨h0, b, rfl⟩
      · refine ⟨_, _, .int .i64 (min len2 len : Nat), w', hk, ?_, by simp [Den], s2⟩
        simp only [Builtin.copy_, List.getElem?_toArray, List.getElem?_cons_zero, List.getElem?_cons_succ, Sem.run_bind, run_underlying hu, Result.andThen_ok, hlen, run_sizeOf hag, hmin, hfirst, s1, Sem.run_pure, goInt]
      · obtain rfl : len = 0 := by omega
        have : vs = [] := List.eq_nil_of_length_eq_zero (by rw [h1]; simp)
        subst this
        have hw : w' = w := by
          simp only [storeCells, Sem.run_pure, Result.ok.injEq, true_and] at s1
          exact s1.symm
        subst hw
        refine ⟨_, _, .int .i64 (min len2 0 : Nat), w', hk, ?_, by simp [Den], s2⟩
        cases b <;> simp only [Builtin.copy_, List.getElem?_toArray, List.getElem?_cons_zero, List.getElem?_cons_succ, Sem.run_bind, run_underlying hu, Result.andThen_ok, hlen, run_sizeOf hag, hmin, hfirst, storeCells, Sem.run_pure, goInt]
    · exact h.elim
  · rename_i e j n off len cap s hej
    rw [guardT_eq] at h
    obtain ⟨hsz, h⟩ := h
    have hsz := Nat.eq_of_beq_eq_true hsz
    obtain ⟨hu, hj, hag⟩ := elemOfT_some hT hej
    split at h
    · rename_i c hsn
      obtain ⟨r, hk, hl, hrr⟩ := copyText_out h
      have hsn := segAt_some _ _ hsn
      simp only [Den] at hx hy
      obtain ⟨hn1, hlc1, hx⟩ := hx
      subst hy
      have hm : (s.data.toList.take (min s.size len)).length = min s.size len := by
        rw [List.length_take]; show min _ s.size = _; omega
      have hdn : ∀ l : List UInt8, Dens ρ (l.map fun b => AV.int .u8 (b.toNat : Int)) (l.map fun b => Value.int .u8 (b.toNat : Int)) := fun l => by
        induction l with
        | nil => simp [Dens]
        | cons b l ih => simp only [List.map_cons, Dens]; exact ⟨_, _, rfl, by simp [Den], ih⟩
      obtain ⟨w', s1, s2⟩ := hr.storeCont (P := P) (off := off) hsn (xs := (s.data.toList.take (min s.size len)).map fun b => AV.int .u8 (b.toNat : Int)) (by rw [List.length_map, hm]; exact hl) (hdn _)
        (by intro v hv; obtain ⟨b, _, rfl⟩ := List.mem_map.1 hv; rfl) (by rw [List.length_map, hm]; exact hrr)
      have hfirst : (Builtin.firstCells j.size (min s.size len) (.string s)).run P w = .ok ((s.data.toList.take (min s.size len)).map fun b => Value.int .u8 (b.toNat : Int)).toArray w := by
        simp only [Builtin.firstCells, Sem.run_pure]
        congr 1
        rw [← Array.toList_inj]
        rw [Array.toList_map, ByteArray.data_extract, Array.toList_extract]
        simp [List.extract]
      have hlen : (Builtin.lenOf (.string s)).run P w = .ok s.size w := rfl
      have hmin : Nat.min s.size len = min s.size len := rfl
      rcases hx with rfl | ⟨h0, b, rfl⟩
      · refine ⟨_, _, .int .i64 (min s.size len : Nat), w', hk, ?_, by simp [Den], s2⟩
        simp only [Builtin.copy_, List.getElem?_toArray, List.getElem?_cons_zero, List.getElem?_cons_succ, Sem.run_bind, run_underlying hu, Result.andThen_ok, hlen, run_sizeOf hag, hmin, hfirst, s1, Sem.run_pure, goInt]
      · obtain rfl : len = 0 := by omega
        have hw : w' = w := by
          rw [show min s.size 0 = 0 by omega] at s1
          simp only [List.take_zero, List.map_nil, storeCells, Sem.run_pure, Result.ok.injEq, true_and] at s1
          exact s1.symm
        subst hw
        refine ⟨_, _, .int .i64 (min s.size 0 : Nat), w', hk, ?_, by simp [Den], s2⟩
        have e0 : min s.size 0 = 0 := by omega
        rw [e0] at hfirst ⊢
        cases b <;> simp only [Builtin.copy_, List.getElem?_toArray, List.getElem?_cons_zero, List.getElem?_cons_succ, Sem.run_bind, run_underlying hu, Result.andThen_ok, hlen, run_sizeOf hag, hmin, e0, hfirst, List.take_zero, List.map_nil, storeCells, Sem.run_pure, goInt]
    · exact h.elim
  · exact h.elim
end
end Go.Fw

namespace Go.Fw
set_option linter.unusedSimpArgs false
open Go Go.RowKit

def nthN : List Nat → Nat → Nat
  | [], _ => 0
  | a :: _, 0 => a
  | _ :: r, n + 1 => nthN r n
theorem nthN_eq : ∀ (l : List Nat) (n : Nat), nthN l n = l.getD n 0
  | [], _ => by simp [nthN]
  | a :: r, 0 => by simp [nthN]
  | a :: r, n + 1 => by simp [nthN, nthN_eq r n]

mutual
/-- x' (its names by way of m) is what x says, or says less. -/
def avLe (m : List Nat) : AV → AV → Prop
  | .any, _ => True
  | .bool a, .bool b => a = b
  | .int k a, .int k' b => guardT (ikEq k k') (a = b)
  | .flt k a, .flt k' b => guardT (fkEq k k') (a = b)
  | .cpx k a b, .cpx k' a' b' => guardT (fkEq k k') (a = a' ∧ b = b')
  | .str a, .str b => a = b
  | .nils, .nils => True
  | .nilp, .nilp => True
  | .nilf, .nilf => True
  | .nilm, .nilm => True
  | .map n, .map n' => guardT (Nat.blt n m.length && Nat.beq (nthN m n) n') True
  | .slice n o l c, .slice n' o' l' c' => guardT (Nat.blt n m.length && Nat.beq (nthN m n) n') (o = o' ∧ l = l' ∧ c = c')
  | .slice n _ l c, .nils => guardT (Nat.blt n m.length) (l = 0 ∧ c = 0)
  | .ptr n o, .ptr n' o' => guardT (Nat.blt n m.length && Nat.beq (nthN m n) n') (o = o')
  | .agg as, .agg bs => avsLe m as bs
  | .tup as, .tup bs => avsLe m as bs
  | .fn f as, .fn g bs => guardT (Nat.beq f g) (avsLe m as bs)
  | .fnb f as, .fnb g bs => guardT (Nat.beq f g) (avsLe m as bs)
  | _, _ => False
def avsLe (m : List Nat) : List AV → List AV → Prop
  | [], [] => True
  | a :: as, b :: bs => avLe m a b ∧ avsLe m as bs
  | _, _ => False
end

def Col.le (c' c : Col) : Prop :=
  match c', c with
  | .bools a, .bools b => a = b
  | .ints k a, .ints k' b => guardT (ikEq k k') (a = b)
  | .flts k a, .flts k' b => guardT (fkEq k k') (a = b)
  | .cpxs k a, .cpxs k' b => guardT (fkEq k k') (a = b)
  | .strs a, .strs b => a = b
  | _, _ => False
def colsLe : List Col → List Col → Prop
  | [], [] => True
  | c :: r, d :: s => c.le d ∧ colsLe r s
  | _, _ => False
theorem Col.le_eq {c d : Col} (h : c.le d) : c = d := by
  cases c <;> cases d <;> simp only [Col.le, guardT_eq] at h
  · rw [h]
  · rw [ikEq_eq h.1, h.2]
  · rw [fkEq_eq h.1, h.2]
  · rw [fkEq_eq h.1, h.2]
  · rw [h]
theorem colsLe_eq : ∀ {a b : List Col}, colsLe a b → a = b
  | [], [], _ => rfl
  | c :: r, d :: s, h => by simp only [colsLe] at h; rw [Col.le_eq h.1, colsLe_eq h.2]
  | [], _ :: _, h => by simp [colsLe] at h
  | _ :: _, [], h => by simp [colsLe] at h

def contLe (m : List Nat) (c' c : Cont) : Prop :=
  match c', c with
  | .bools a, .bools b => a = b
  | .ints k a, .ints k' b => guardT (ikEq k k') (a = b)
  | .flts k a, .flts k' b => guardT (fkEq k k') (a = b)
  | .cpxs k a, .cpxs k' b => guardT (fkEq k k') (a = b)
  | .strs a, .strs b => a = b
  | .avs a, .avs b => avsLe m a b
  | .ints k a, .avs b => avsLe m (a.map (AV.int k)) b
  | .avs a, .ints k b => avsLe m a (b.map (AV.int k))
  | .cols a, .cols b => colsLe a b
  | .bools a, .avs b => avsLe m (a.map AV.bool) b
  | .flts k a, .avs b => avsLe m (a.map (AV.flt k)) b
  | .cpxs k a, .avs b => avsLe m (a.map fun p => AV.cpx k p.1 p.2) b
  | _, _ => False

/-- An owner's cells may be lent to be read. -/
def segLe (m : List Nat) (s' s : Seg) : Prop :=
  match s', s with
  | .dead, _ => True
  | .seg true c', .seg true c => contLe m c' c
  | .seg false c', .seg _ c => contLe m c' c
  | .seg _ c', .dead => Nat.beq c'.len 0 = true
  | .obj (.iter t p), .obj (.iter t2 p2) => t = t2 ∧ p = p2
  | .glob g' c', .glob g c => Nat.beq g' g = true ∧ contLe m c' c
  | _, _ => False

def segsLe (m : List Nat) (H : List Seg) : List Nat → List Seg → Prop
  | [], [] => True
  | n :: ns, s :: ss => segLe m s (segAt H n) ∧ segsLe m H ns ss
  | _, _ => False

/-- The names that are owned lie apart. -/
def nodupB : List Nat → List Seg → Bool
  | n :: ns, s :: ss => (match s with | .seg _ _ => go n (match s with | .seg true _ => true | _ => false) ns ss | .obj _ => go n true ns ss | .glob _ _ => go n false ns ss | .dead => true) && nodupB ns ss
  | _, _ => true
  where
  go (n : Nat) (own : Bool) : List Nat → List Seg → Bool
    | k :: ks, t :: ts => (match t with | .seg o _ => !(Nat.beq n k) || !(own || o) | .obj _ => !(Nat.beq n k) | .glob _ _ => !(Nat.beq n k) || !own | .dead => true) && go n own ks ts
    | _, _ => true

section
variable {ρ : Plc} {m : List Nat}

theorem pl_map (m : List Nat) (ρ : Plc) {n : Nat} (h : n < m.length) : pl (m.map (pl ρ)) n = pl ρ (nthN m n) := by
  simp [pl, nthN_eq, h]

mutual
theorem avLe_den : ∀ {x' x : AV} {v : Value}, avLe m x' x → Den ρ x v → Den (m.map (pl ρ)) x' v
  | .any, _, _, _, _ => by simp [Den]
  | .bool a, x, v, h, hd => by cases x <;> simp only [avLe, guardT_eq, Bool.and_eq_true] at h <;> first | exact h.elim | (subst h; simpa [Den] using hd)
  | .int k a, x, v, h, hd => by cases x <;> simp only [avLe, guardT_eq, Bool.and_eq_true] at h <;> first | exact h.elim | (obtain ⟨e, rfl⟩ := h; have e := ikEq_eq e; subst e; simpa [Den] using hd)
  | .flt k a, x, v, h, hd => by cases x <;> simp only [avLe, guardT_eq, Bool.and_eq_true] at h <;> first | exact h.elim | (obtain ⟨e, rfl⟩ := h; have e := fkEq_eq e; subst e; simpa [Den] using hd)
  | .cpx k a b, x, v, h, hd => by cases x <;> simp only [avLe, guardT_eq, Bool.and_eq_true] at h <;> first | exact h.elim | (obtain ⟨e, rfl, rfl⟩ := h; have e := fkEq_eq e; subst e; simpa [Den] using hd)
  | .str a, x, v, h, hd => by cases x <;> simp only [avLe, guardT_eq, Bool.and_eq_true] at h <;> first | exact h.elim | (subst h; simpa [Den] using hd)
  | .nils, x, v, h, hd => by cases x <;> simp only [avLe, guardT_eq, Bool.and_eq_true] at h <;> first | exact h.elim | simpa [Den] using hd
  | .nilp, x, v, h, hd => by cases x <;> simp only [avLe, guardT_eq, Bool.and_eq_true] at h <;> first | exact h.elim | simpa [Den] using hd
  | .nilf, x, v, h, hd => by cases x <;> simp only [avLe, guardT_eq, Bool.and_eq_true] at h <;> first | exact h.elim | simpa [Den] using hd
  | .nilm, x, v, h, hd => by cases x <;> simp only [avLe, guardT_eq, Bool.and_eq_true] at h <;> first | exact h.elim | simpa [Den] using hd
  | .map n, x, v, h, hd => by
    cases x <;> simp only [avLe, guardT_eq, Bool.and_eq_true] at h <;> try exact h.elim
    obtain ⟨⟨h1, h2⟩, _⟩ := h
    have h1 : n < m.length := by simpa [Nat.blt_eq] using h1
    have h2 := Nat.eq_of_beq_eq_true h2
    simp only [Den] at hd ⊢
    rw [pl_map m ρ h1, h2]
    exact ⟨by simpa using h1, hd.2⟩
  | .slice n o l c, x, v, h, hd => by
    cases x <;> simp only [avLe, guardT_eq, Bool.and_eq_true] at h <;> try exact h.elim
    · obtain ⟨h1, rfl, rfl⟩ := h
      have h1 : n < m.length := by simpa [Nat.blt_eq] using h1
      simp only [Den] at hd ⊢
      exact ⟨by simpa using h1, Nat.le_refl _, .inr ⟨trivial, none, hd⟩⟩
    · obtain ⟨⟨h1, h2⟩, rfl, rfl, rfl⟩ := h
      have h1 : n < m.length := by simpa [Nat.blt_eq] using h1
      have h2 := Nat.eq_of_beq_eq_true h2
      simp only [Den] at hd ⊢
      rw [pl_map m ρ h1, h2]
      exact ⟨by simpa using h1, hd.2⟩
  | .ptr n o, x, v, h, hd => by
    cases x <;> simp only [avLe, guardT_eq, Bool.and_eq_true] at h <;> try exact h.elim
    obtain ⟨⟨h1, h2⟩, rfl⟩ := h
    have h1 : n < m.length := by simpa [Nat.blt_eq] using h1
    have h2 := Nat.eq_of_beq_eq_true h2
    simp only [Den] at hd ⊢
    rw [pl_map m ρ h1, h2]
    exact ⟨by simpa using h1, hd.2⟩
  | .agg as, x, v, h, hd => by
    cases x <;> simp only [avLe, guardT_eq, Bool.and_eq_true] at h <;> try exact h.elim
    simp only [Den] at hd ⊢
    obtain ⟨vs, e, hd⟩ := hd
    exact ⟨vs, e, avsLe_den h hd⟩
  | .tup as, x, v, h, hd => by
    cases x <;> simp only [avLe, guardT_eq, Bool.and_eq_true] at h <;> try exact h.elim
    simp only [Den] at hd ⊢
    obtain ⟨vs, e, hd⟩ := hd
    exact ⟨vs, e, avsLe_den h hd⟩
  | .fn f as, x, v, h, hd => by
    cases x <;> simp only [avLe, guardT_eq, Bool.and_eq_true] at h <;> try exact h.elim
    obtain ⟨e, h⟩ := h
    have e := Nat.eq_of_beq_eq_true e; subst e
    simp only [Den] at hd ⊢
    obtain ⟨vs, e, hd⟩ := hd
    exact ⟨vs, e, avsLe_den h hd⟩
  | .fnb f as, x, v, h, hd => by
    cases x <;> simp only [avLe, guardT_eq, Bool.and_eq_true] at h <;> try exact h.elim
    obtain ⟨e, h⟩ := h
    have e := Nat.eq_of_beq_eq_true e; subst e
    simp only [Den] at hd ⊢
    obtain ⟨vs, e, hd⟩ := hd
    exact ⟨vs, e, avsLe_den h hd⟩
theorem avsLe_den : ∀ {xs' xs : List AV} {vs : List Value}, avsLe m xs' xs → Dens ρ xs vs → Dens (m.map (pl ρ)) xs' vs
  | [], xs, vs, h, hd => by cases xs <;> simp only [avsLe] at h; simpa [Dens] using hd
  | x' :: xs', xs, vs, h, hd => by
    cases xs <;> simp only [avsLe] at h
    obtain ⟨h1, h2⟩ := h
    simp only [Dens] at hd ⊢
    obtain ⟨v, r, e, g1, g2⟩ := hd
    exact ⟨v, r, e, avLe_den h1 g1, avsLe_den h2 g2⟩
end

theorem contLe_len {c' c : Cont} (h : contLe m c' c) : c'.len = c.len := by
  have : ∀ as bs : List AV, avsLe m as bs → as.length = bs.length := by
    intro as
    induction as with
    | nil => intro bs h; cases bs <;> simp only [avsLe] at h; rfl
    | cons a as ih => intro bs h; cases bs <;> simp only [avsLe] at h; simp [ih _ h.2]
  unfold contLe at h
  simp only [guardT_eq] at h
  split at h
  · subst h; rfl
  · obtain ⟨_, rfl⟩ := h; rfl
  · obtain ⟨_, rfl⟩ := h; rfl
  · obtain ⟨_, rfl⟩ := h; rfl
  · subst h; rfl
  · exact this _ _ h
  · simpa [Cont.len] using this _ _ h
  · simpa [Cont.len] using this _ _ h
  · have := colsLe_eq h; subst this; rfl
  · simpa [Cont.len] using this _ _ h
  · simpa [Cont.len] using this _ _ h
  · simpa [Cont.len] using this _ _ h
  · exact h.elim

theorem contLe_dens {c' c : Cont} (h : contLe m c' c) {vs : List Value} (hd : Dens ρ c.avl vs) : Dens (m.map (pl ρ)) c'.avl vs := by
  have base : ∀ (l : List AV) (vs : List Value), (∀ x ∈ l, ∀ v, Den ρ x v → Den (m.map (pl ρ)) x v) → Dens ρ l vs → Dens (m.map (pl ρ)) l vs := by
    intro l
    induction l with
    | nil => intro _ _ h; simpa [Dens] using h
    | cons a l ih =>
      intro vs h1 h
      simp only [Dens] at h ⊢
      obtain ⟨v, r, e, g1, g2⟩ := h
      exact ⟨v, r, e, h1 a (by simp) v g1, ih r (fun x hx => h1 x (by simp [hx])) g2⟩
  unfold contLe at h
  simp only [guardT_eq] at h
  split at h
  · subst h; exact base _ _ (fun x hx v hv => by obtain ⟨b, _, rfl⟩ := List.mem_map.1 hx; simpa [Den] using hv) hd
  · obtain ⟨e, rfl⟩ := h; have e := ikEq_eq e; subst e; exact base _ _ (fun x hx v hv => by obtain ⟨b, _, rfl⟩ := List.mem_map.1 hx; simpa [Den] using hv) hd
  · obtain ⟨e, rfl⟩ := h; have e := fkEq_eq e; subst e; exact base _ _ (fun x hx v hv => by obtain ⟨b, _, rfl⟩ := List.mem_map.1 hx; simpa [Den] using hv) hd
  · obtain ⟨e, rfl⟩ := h; have e := fkEq_eq e; subst e; exact base _ _ (fun x hx v hv => by obtain ⟨b, _, rfl⟩ := List.mem_map.1 hx; simpa [Den] using hv) hd
  · subst h; exact base _ _ (fun x hx v hv => by obtain ⟨b, _, rfl⟩ := List.mem_map.1 hx; simpa [Den] using hv) hd
  · exact avsLe_den h hd
  · exact avsLe_den h hd
  · exact avsLe_den h hd
  · have := colsLe_eq h; subst this
    refine base _ _ (fun x hx v hv => ?_) hd
    simp only [Cont.avl, colsAvl, recAt] at hx
    obtain ⟨i, _, hx⟩ := List.mem_flatMap.1 hx
    obtain ⟨c, _, rfl⟩ := List.mem_map.1 hx
    cases c <;> simpa only [Col.at, Den] using hv
  · exact avsLe_den h hd
  · exact avsLe_den h hd
  · exact avsLe_den h hd
  · exact h.elim
end

theorem segsLe_get {m : List Nat} {H : List Seg} : ∀ {ns : List Nat} {ss : List Seg}, segsLe m H ns ss → ns.length = ss.length ∧ ∀ (i : Nat) (s : Seg), ss[i]? = some s → ∃ n, ns[i]? = some n ∧ segLe m s (segAt H n)
  | [], ss, h => by cases ss <;> simp only [segsLe] at h; exact ⟨rfl, by simp⟩
  | n :: ns, ss, h => by
    cases ss <;> simp only [segsLe] at h
    rename_i s ss
    obtain ⟨h1, h2⟩ := h
    obtain ⟨g1, g2⟩ := segsLe_get h2
    refine ⟨by simp [g1], fun i t hi => ?_⟩
    cases i with
    | zero => simp at hi; subst hi; exact ⟨n, rfl, h1⟩
    | succ i => simp at hi; simpa using g2 i t hi

/-- Two places that mind one another are apart. -/
theorem nodupB_go {n : Nat} {own : Bool} : ∀ {ns : List Nat} {ss : List Seg}, nodupB.go n own ns ss = true → ∀ (j k : Nat) (t : Seg), ns[j]? = some k → ss[j]? = some t → t ≠ .dead → (own = true ∨ t.isOwn = true) → n ≠ k
  | [], ss, _, j, k, t, hj, _, _, _ => by simp at hj
  | a :: ns, [], _, j, k, t, _, ht, _, _ => by simp at ht
  | a :: ns, s :: ss, h, j, k, t, hj, ht, hd, ho => by
    simp only [nodupB.go, Bool.and_eq_true] at h
    cases j with
    | zero =>
      simp at hj ht
      subst hj; subst ht
      intro e
      subst e
      cases s with
      | dead => exact hd rfl
      | obj o => have h1 := h.1; simp at h1
      | glob g c =>
        have h1 := h.1
        simp at h1
        rcases ho with rfl | ho
        · simp at h1
        · simp [Seg.isOwn] at ho
      | seg o c =>
        have h1 := h.1
        simp at h1
        rcases ho with rfl | ho
        · simp at h1
        · cases o <;> simp [Seg.isOwn] at ho h1
    | succ j => exact nodupB_go h.2 j k t (by simpa using hj) (by simpa using ht) hd ho

theorem nodupB_apart : ∀ {ns : List Nat} {ss : List Seg}, nodupB ns ss = true → ∀ (i j n k : Nat) (s t : Seg), i < j → ns[i]? = some n → ns[j]? = some k → ss[i]? = some s → ss[j]? = some t → s ≠ .dead → t ≠ .dead → (s.isOwn = true ∨ t.isOwn = true) → n ≠ k
  | [], ss, _, i, j, n, k, s, t, _, hn, _, _, _, _, _, _ => by simp at hn
  | a :: ns, [], _, i, j, n, k, s, t, _, _, _, hs, _, _, _, _ => by simp at hs
  | a :: ns, x :: ss, h, i, j, n, k, s, t, hij, hn, hk, hs, ht, hds, hdt, ho => by
    simp only [nodupB, Bool.and_eq_true] at h
    obtain ⟨j', rfl⟩ : ∃ j', j = j' + 1 := ⟨j - 1, by omega⟩
    simp only [List.getElem?_cons_succ] at hk ht
    cases i with
    | zero =>
      simp at hn hs
      subst hn; subst hs
      cases x with
      | dead => exact absurd rfl hds
      | obj o =>
        have h1 := h.1
        simp only at h1
        exact nodupB_go h1 j' k t hk ht hdt (.inl rfl)
      | glob g c =>
        have h1 := h.1
        simp only at h1
        exact nodupB_go h1 j' k t hk ht hdt (by simpa [Seg.isOwn] using ho)
      | seg o c =>
        have h1 := h.1
        simp only at h1
        exact nodupB_go h1 j' k t hk ht hdt (by cases o <;> simp_all [Seg.isOwn])
    | succ i => exact nodupB_apart h.2 i j' n k s t (by omega) (by simpa using hn) hk (by simpa using hs) ht hds hdt ho

theorem segAt_obj : ∀ (l : List Seg) (n : Nat) {o : AO}, segAt l n = .obj o → l[n]? = some (.obj o)
  | [], n, o, h => by cases n <;> simp [segAt] at h
  | x :: r, 0, o, h => by simp only [segAt] at h; simp [h]
  | x :: r, n + 1, o, h => by simp only [segAt] at h; simpa using segAt_obj r n h
theorem segAt_got : ∀ (l : List Seg) (n : Nat) {x : Seg}, l[n]? = some x → segAt l n = x
  | [], n, x, h => by simp at h
  | y :: r, 0, x, h => by simpa [segAt] using h
  | y :: r, n + 1, x, h => by simp only [segAt]; exact segAt_got r n (by simpa using h)

/-- Cells that say less. -/
theorem CellsAt.sub {ρ : Plc} {w : World} {n i : Nat} {m : List Nat} {c' c : Cont} (hcs : CellsAt ρ w n false c.avl) (hcl : contLe m c' c) (hpl : pl (m.map (pl ρ)) i = pl ρ n) : CellsAt (m.map (pl ρ)) w i false c'.avl := by
  intro q x hq
  have hlen := contLe_len hcl
  have hcl2 := Cont.len_eq c
  have hq' : q < c.avl.length := by
    have := (List.getElem?_eq_some_iff.1 hq).1
    rw [Cont.len_eq] at this; omega
  have hvals : ∃ vs : List Value, Dens ρ c.avl vs ∧ ∀ k v, vs[k]? = some v → w.cell? ⟨(pl ρ n).1, (pl ρ n).2 + k, none⟩ = some v ∧ v.oneCell' = true := by
    have hex : ∀ k (hk : k < c.avl.length), ∃ v, w.cell? ⟨(pl ρ n).1, (pl ρ n).2 + k, none⟩ = some v ∧ Den ρ c.avl[k] v ∧ v.oneCell' = true := fun k hk => by
      obtain ⟨v, a1, a2, a3, _⟩ := hcs k c.avl[k] (by simp)
      exact ⟨v, a1, a2, a3⟩
    refine ⟨List.ofFn fun k : Fin c.avl.length => (hex k.1 k.2).choose, Dens.of_get (by simp) fun k a v ha hv => ?_, fun k v hv => ?_⟩
    · have hk : k < c.avl.length := (List.getElem?_eq_some_iff.1 ha).1
      simp [hk] at hv
      rw [← hv]
      have := (hex k hk).choose_spec.2.1
      rw [List.getElem?_eq_getElem hk] at ha
      cases ha; exact this
    · have hk : k < c.avl.length := by have := (List.getElem?_eq_some_iff.1 hv).1; simpa using this
      simp [hk] at hv
      rw [← hv]
      exact ⟨(hex k hk).choose_spec.1, (hex k hk).choose_spec.2.2⟩
  obtain ⟨vs, d1, d2⟩ := hvals
  have d3 := contLe_dens hcl d1
  obtain ⟨v, e1, e2⟩ := d3.get q x hq
  obtain ⟨e3, e4⟩ := d2 q v e1
  rw [hpl]
  exact ⟨v, e3, e2, e4, fun ho => by cases ho⟩

/-- A HEAP THAT SAYS LESS, its names by way of m. -/
theorem HeapOk.sub {B : Nat} {L : Nat → Prop} {ρ : Plc} {H : List Seg} {w : World} (h : HeapOk B L ρ H w) {m : List Nat} {H' : List Seg} (hle : segsLe m H m H') (hnd : nodupB m H' = true) :
    HeapOk B L (m.map (pl ρ)) H' w := by
  obtain ⟨hl, hg⟩ := segsLe_get hle
  have keyO : ∀ (i : Nat) (o' : AO), H'[i]? = some (.obj o') → ∃ n, m[i]? = some n ∧ H[n]? = some (.obj o') ∧ pl (m.map (pl ρ)) i = pl ρ n := by
    intro i o' hi
    obtain ⟨n, hn, hs⟩ := hg i _ hi
    have hp : pl (m.map (pl ρ)) i = pl ρ n := by simp [pl, hn]
    cases hseg : segAt H n with
    | dead => rw [hseg] at hs; simp only [segLe] at hs
    | glob g c => rw [hseg] at hs; simp only [segLe] at hs
    | seg own c => rw [hseg] at hs; cases own <;> simp only [segLe] at hs
    | obj o =>
      rw [hseg] at hs
      refine ⟨n, hn, ?_, hp⟩
      cases o' <;> cases o <;> simp only [segLe] at hs
      obtain ⟨rfl, rfl⟩ := hs
      exact segAt_obj _ _ hseg
  have keyG : ∀ (i g : Nat) (c' : Cont), H'[i]? = some (.glob g c') → ∃ n c, m[i]? = some n ∧ H[n]? = some (.glob g c) ∧ contLe m c' c ∧ pl (m.map (pl ρ)) i = pl ρ n := by
    intro i g c' hi
    obtain ⟨n, hn, hs⟩ := hg i _ hi
    have hp : pl (m.map (pl ρ)) i = pl ρ n := by simp [pl, hn]
    cases hseg : segAt H n with
    | dead => rw [hseg] at hs; simp only [segLe] at hs
    | seg own c => rw [hseg] at hs; cases own <;> simp only [segLe] at hs
    | obj o => rw [hseg] at hs; simp only [segLe] at hs
    | glob g2 c =>
      rw [hseg] at hs
      simp only [segLe] at hs
      obtain ⟨h1, h2⟩ := hs
      have h1 := Nat.eq_of_beq_eq_true h1
      subst h1
      exact ⟨n, c, hn, segAt_glob _ _ hseg, h2, hp⟩
  have key : ∀ (i : Nat) (o2 : Bool) (c2 : Cont), H'[i]? = some (.seg o2 c2) → 0 < (Seg.seg o2 c2).len → ∃ n own c own' c', m[i]? = some n ∧ H[n]? = some (.seg own c) ∧ Seg.seg o2 c2 = .seg own' c' ∧ contLe m c' c ∧ (own' = true → own = true) ∧ pl (m.map (pl ρ)) i = pl ρ n := by
    intro i own' c' hi hpos
    obtain ⟨n, hn, hs⟩ := hg i _ hi
    have hp : pl (m.map (pl ρ)) i = pl ρ n := by simp [pl, hn]
    cases hseg : segAt H n with
    | dead =>
      rw [hseg] at hs
      cases own' <;> simp only [segLe] at hs <;> (have := Nat.eq_of_beq_eq_true hs; simp [Seg.len] at hpos; omega)
    | obj o =>
      rw [hseg] at hs
      cases own' <;> simp only [segLe] at hs
    | glob g c =>
      rw [hseg] at hs
      cases own' <;> simp only [segLe] at hs
    | seg own c =>
      rw [hseg] at hs
      refine ⟨n, own, c, own', c', hn, segAt_some _ _ hseg, rfl, ?_, ?_, hp⟩
      · cases own' <;> cases own <;> simp only [segLe] at hs <;> first | exact hs | exact hs.elim
      · cases own' <;> cases own <;> simp only [segLe] at hs <;> simp
  have both : ∀ (i : Nat) (s' : Seg), H'[i]? = some s' → 0 < s'.len → ∃ n s, m[i]? = some n ∧ H[n]? = some s ∧ 0 < s.len ∧ (s'.isOwn = true → s.isOwn = true) ∧ pl (m.map (pl ρ)) i = pl ρ n := by
    intro i s' hi hpos
    cases s' with
    | dead => simp [Seg.len] at hpos
    | obj o' =>
      obtain ⟨n, a1, a2, a3⟩ := keyO i o' hi
      exact ⟨n, _, a1, a2, hpos, fun h => h, a3⟩
    | glob g c' =>
      obtain ⟨n, c, a1, a2, a4, a3⟩ := keyG i g c' hi
      exact ⟨n, _, a1, a2, by have := contLe_len a4; simp only [Seg.len] at hpos ⊢; omega, fun h => by simp [Seg.isOwn] at h, a3⟩
    | seg o2 c2 =>
      obtain ⟨n, own, c, own2, c2', hn, hH, hss, hcl, hown, hpl⟩ := key i o2 c2 hi hpos
      cases hss
      refine ⟨n, _, hn, hH, by have := contLe_len hcl; simp only [Seg.len] at hpos ⊢; omega, fun h => ?_, hpl⟩
      have : o2 = true := by cases o2 <;> simp_all [Seg.isOwn]
      rw [hown this]; rfl
  refine ⟨by simp [hl], fun i s' hi => ?_, fun i s' hi ho hpos => ?_, fun i j s' t' hne hi hj ho hpos hpos' => ?_⟩
  · cases s' with
    | dead => trivial
    | obj o =>
      obtain ⟨n, a1, a2, a3⟩ := keyO i o hi
      obtain ⟨b1, x, b2, b3⟩ := h.cells n _ a2
      refine ⟨by rw [a3]; exact b1, x, by rw [a3]; exact b2, ?_⟩
      have hs := hg i _ hi
      obtain ⟨n', hn', hs⟩ := hs
      rw [a1] at hn'
      cases hn'
      rw [segAt_got _ _ a2] at hs
      cases o with
      | map es c => simp only [segLe] at hs
      | iter t p => exact b3
    | glob g c' =>
      obtain ⟨n, c, a1, a2, a4, a3⟩ := keyG i g c' hi
      obtain ⟨b1, b2⟩ := h.cells n _ a2
      exact ⟨by rw [a3]; exact b1, b2.sub a4 a3⟩
    | seg own' c' =>
      intro q x hq
      have hpos : 0 < (Seg.seg own' c').len := by
        have := (List.getElem?_eq_some_iff.1 hq).1
        rw [Cont.len_eq] at this; show 0 < c'.len; omega
      obtain ⟨n, own, c, own2, c2, hn, hH, hss, hcl, hown, hpl⟩ := key i _ _ hi hpos
      cases hss
      have hcs := h.cells n _ hH
      simp only [SegOk, CellsAt] at hcs
      -- the values, all of them
      have hlen := contLe_len hcl
      have hcl2 := Cont.len_eq c
      have hq' : q < c.avl.length := by
        have := (List.getElem?_eq_some_iff.1 hq).1
        rw [Cont.len_eq] at this; omega
      have hvals : ∃ vs : List Value, Dens ρ c.avl vs ∧ ∀ k v, vs[k]? = some v → w.cell? ⟨(pl ρ n).1, (pl ρ n).2 + k, none⟩ = some v ∧ v.oneCell' = true := by
        have hex : ∀ k (hk : k < c.avl.length), ∃ v, w.cell? ⟨(pl ρ n).1, (pl ρ n).2 + k, none⟩ = some v ∧ Den ρ c.avl[k] v ∧ v.oneCell' = true := fun k hk => by
          obtain ⟨v, a1, a2, a3, _⟩ := hcs k c.avl[k] (by simp)
          exact ⟨v, a1, a2, a3⟩
        refine ⟨List.ofFn fun k : Fin c.avl.length => (hex k.1 k.2).choose, Dens.of_get (by simp) fun k a v ha hv => ?_, fun k v hv => ?_⟩
        · have hk : k < c.avl.length := (List.getElem?_eq_some_iff.1 ha).1
          simp [hk] at hv
          rw [← hv]
          have := (hex k hk).choose_spec.2.1
          rw [List.getElem?_eq_getElem hk] at ha
          cases ha; exact this
        · have hk : k < c.avl.length := by have := (List.getElem?_eq_some_iff.1 hv).1; simpa using this
          simp [hk] at hv
          rw [← hv]
          exact ⟨(hex k hk).choose_spec.1, (hex k hk).choose_spec.2.2⟩
      obtain ⟨vs, d1, d2⟩ := hvals
      have d3 := contLe_dens hcl d1
      obtain ⟨v, e1, e2⟩ := d3.get q x hq
      obtain ⟨e3, e4⟩ := d2 q v e1
      rw [hpl]
      refine ⟨v, e3, e2, e4, fun ho => ?_⟩
      obtain ⟨_, _, _, _, f⟩ := hcs q c.avl[q] (by simp)
      exact f (hown ho)
  · obtain ⟨n, s, hn, hH, hl2, hown, hpl⟩ := both i _ hi hpos
    rw [hpl]
    exact h.mine n _ hH (hown ho) hl2
  · obtain ⟨n, s, hn, hH, hl2, hown, hpl⟩ := both i _ hi hpos
    obtain ⟨k, t, hk, hK, hl3, hown', hpl'⟩ := both j _ hj hpos'
    rw [hpl, hpl']
    have hd : s' ≠ .dead := fun e => by subst e; simp [Seg.len] at hpos
    have hd' : t' ≠ .dead := fun e => by subst e; simp [Seg.len] at hpos'
    have hnk : n ≠ k := by
      rcases Nat.lt_or_gt_of_ne hne with hlt | hgt
      · exact nodupB_apart hnd i j n k _ _ hlt hn hk hi hj hd hd' (.inl ho)
      · exact fun e => nodupB_apart hnd j i k n _ _ hgt hk hn hj hi hd' hd (.inr ho) e.symm
    exact h.apart n k _ _ hnk hH hK (hown ho) hl2 hl3
end Go.Fw

namespace Go.Fw
open Go Go.RowKit

mutual
/-- Names renamed. -/
def ren (m : List Nat) : AV → AV
  | .slice n o l c => .slice (nthN m n) o l c
  | .ptr n o => .ptr (nthN m n) o
  | .map n => .map (nthN m n)
  | .agg as => .agg (rens m as)
  | .tup as => .tup (rens m as)
  | .fn f as => .fn f (rens m as)
  | .fnb f as => .fnb f (rens m as)
  | .any => .any
  | .bool b => .bool b
  | .int k n => .int k n
  | .flt k b => .flt k b
  | .cpx k a b => .cpx k a b
  | .str s => .str s
  | .nils => .nils
  | .nilp => .nilp
  | .nilf => .nilf
  | .nilm => .nilm
def rens (m : List Nat) : List AV → List AV
  | [] => []
  | a :: as => ren m a :: rens m as
end

mutual
theorem ren_den {m : List Nat} {ρ ρ2 : Plc} (h : ∀ i, i < ρ.length → nthN m i < ρ2.length ∧ pl ρ2 (nthN m i) = pl ρ i) : ∀ {x : AV} {v : Value}, Den ρ x v → Den ρ2 (ren m x) v
  | .any, _, _ => by simp [ren, Den]
  | .bool b, v, hd => by simpa [ren, Den] using hd
  | .int k n, v, hd => by simpa [ren, Den] using hd
  | .flt k b, v, hd => by simpa [ren, Den] using hd
  | .cpx k a b, v, hd => by simpa [ren, Den] using hd
  | .str s, v, hd => by simpa [ren, Den] using hd
  | .nils, v, hd => by simpa [ren, Den] using hd
  | .nilp, v, hd => by simpa [ren, Den] using hd
  | .nilf, v, hd => by simpa [ren, Den] using hd
  | .nilm, v, hd => by simpa [ren, Den] using hd
  | .map n, v, hd => by
    simp only [ren, Den] at hd ⊢
    obtain ⟨h1, h2⟩ := h n hd.1
    rw [h2]; exact ⟨h1, hd.2⟩
  | .slice n o l c, v, hd => by
    simp only [ren, Den] at hd ⊢
    obtain ⟨h1, h2⟩ := h n hd.1
    rw [h2]; exact ⟨h1, hd.2⟩
  | .ptr n o, v, hd => by
    simp only [ren, Den] at hd ⊢
    obtain ⟨h1, h2⟩ := h n hd.1
    rw [h2]; exact ⟨h1, hd.2⟩
  | .agg as, v, hd => by
    simp only [ren, Den] at hd ⊢
    obtain ⟨vs, e, hd⟩ := hd
    exact ⟨vs, e, rens_den h hd⟩
  | .tup as, v, hd => by
    simp only [ren, Den] at hd ⊢
    obtain ⟨vs, e, hd⟩ := hd
    exact ⟨vs, e, rens_den h hd⟩
  | .fn f as, v, hd => by
    simp only [ren, Den] at hd ⊢
    obtain ⟨vs, e, hd⟩ := hd
    exact ⟨vs, e, rens_den h hd⟩
  | .fnb f as, v, hd => by
    simp only [ren, Den] at hd ⊢
    obtain ⟨vs, e, hd⟩ := hd
    exact ⟨vs, e, rens_den h hd⟩
theorem rens_den {m : List Nat} {ρ ρ2 : Plc} (h : ∀ i, i < ρ.length → nthN m i < ρ2.length ∧ pl ρ2 (nthN m i) = pl ρ i) : ∀ {xs : List AV} {vs : List Value}, Dens ρ xs vs → Dens ρ2 (rens m xs) vs
  | [], vs, hd => by simpa [rens, Dens] using hd
  | x :: xs, vs, hd => by
    simp only [rens, Dens] at hd ⊢
    obtain ⟨v, r, e, h1, h2⟩ := hd
    exact ⟨v, r, e, ren_den h h1, rens_den h h2⟩
end

def renC (m : List Nat) : Cont → Cont
  | .avs l => .avs (rens m l)
  | c => c
def renE (m : List Nat) : List (AV × AV × Nat) → List (AV × AV × Nat)
  | [] => []
  | (k, v, b) :: r => (ren m k, ren m v, b) :: renE m r
def renO (m : List Nat) : AO → AO
  | .map es c => .map (renE m es) c
  | .iter s p => .iter s p
theorem renE_den {m : List Nat} {ρ ρ2 : Plc} (h : ∀ i, i < ρ.length → nthN m i < ρ2.length ∧ pl ρ2 (nthN m i) = pl ρ i) : ∀ {es : List (AV × AV × Nat)} {l : List MapEntry}, DenE ρ es l → DenE ρ2 (renE m es) l
  | [], l, hd => by simpa [renE, DenE] using hd
  | (k, v, b) :: es, l, hd => by
    simp only [renE, DenE] at hd ⊢
    obtain ⟨e, t, h1, h2, h3, h4, h5⟩ := hd
    exact ⟨e, t, h1, ren_den h h2, ren_den h h3, h4, renE_den h h5⟩
theorem renO_is {m : List Nat} {ρ ρ2 : Plc} (h : ∀ i, i < ρ.length → nthN m i < ρ2.length ∧ pl ρ2 (nthN m i) = pl ρ i) {o : AO} {x : Obj} (ho : ObjIs ρ o x) : ObjIs ρ2 (renO m o) x := by
  cases o with
  | map es c => obtain ⟨l, h1, h2⟩ := ho; exact ⟨l, h1, renE_den h h2⟩
  | iter s p => exact ho
def renS (m : List Nat) : Seg → Seg
  | .seg o c => .seg o (renC m c)
  | .dead => .dead
  | .obj o => .obj (renO m o)
  | .glob g c => .glob g (renC m c)

theorem rens_len (m : List Nat) : ∀ l : List AV, (rens m l).length = l.length
  | [] => rfl
  | a :: l => by simp [rens, rens_len m l]
theorem rens_get (m : List Nat) : ∀ (l : List AV) (i : Nat), (rens m l)[i]? = l[i]?.map (ren m)
  | [], _ => by simp [rens]
  | a :: l, 0 => by simp [rens]
  | a :: l, i + 1 => by simp [rens, rens_get m l i]
theorem renC_get (m : List Nat) (c : Cont) (i : Nat) : (renC m c).avl[i]? = c.avl[i]?.map (ren m) := by
  cases c <;> simp only [renC, Cont.avl]
  case avs l => exact rens_get m l i
  case cols cs =>
    cases h : (colsAvl cs)[i]? with
    | none => rfl
    | some x =>
      have hx := List.mem_of_getElem? h
      simp only [colsAvl, recAt] at hx
      obtain ⟨_, _, hx⟩ := List.mem_flatMap.1 hx
      obtain ⟨c, _, rfl⟩ := List.mem_map.1 hx
      cases c <;> rfl
  all_goals (simp only [List.getElem?_map, Option.map_map]; congr 1)
theorem renS_len (m : List Nat) (s : Seg) : (renS m s).len = s.len := by
  cases s with
  | dead => rfl
  | obj o => rfl
  | glob g c => cases c <;> simp [renS, renC, Seg.len, Cont.len, rens_len]
  | seg o c => cases c <;> simp [renS, renC, Seg.len, Cont.len, rens_len]
theorem renS_own (m : List Nat) (s : Seg) : (renS m s).isOwn = s.isOwn := by cases s with | dead => rfl | obj o => rfl | glob g c => rfl | seg o c => cases o <;> rfl

/-- One way a call may end. -/
structure FOut where
  Y : Type
  pp : Y → Prop
  res : Y → AV
  segs : Y → List Seg

/-- What a call is handed, and the ways it may end. -/
structure FSpec where
  args : List AV
  heap : List Seg
  outs : List FOut

def Meets (P : Program) (f : FuncId) (s : FSpec) : Prop :=
  ∀ (w0 : World) (L : Nat → Prop) (ρ : Plc) (vs : List Value), HeapOk w0.heap.size L ρ s.heap w0 → Dens ρ s.args vs →
    Calls P f vs.toArray w0 fun e w' => ∃ o ∈ s.outs, ∃ y, o.pp y ∧ ∃ v ρ', e = .returned v ∧ Den (ρ ++ ρ') (o.res y) v ∧ HeapOk w0.heap.size L (ρ ++ ρ') (o.segs y) w' ∧ Kept w0 L w'

/-- The callee's names, the new ones too, in the caller's words. -/
def extM (m : List Nat) (n0 : Nat) : List Nat → List Seg → List Nat
  | _ :: ns, _ :: ss => extM m n0 ns ss
  | [], ss => m ++ up n0 ss
  | _ :: _, [] => m
  where
  up (n : Nat) : List Seg → List Nat
    | [] => []
    | _ :: r => n :: up (n + 1) r

def mapS (m : List Nat) : List Seg → List Seg
  | [] => []
  | s :: r => renS m s :: mapS m r

def upd1 (p : Seg) (hp : List Seg) (n : Nat) (s : Seg) : List Seg :=
  match p with
  | .seg true _ => setSeg hp n s
  | _ => hp
theorem upd1_len (p : Seg) (hp : List Seg) (n : Nat) (s : Seg) : (upd1 p hp n s).length = hp.length := by
  unfold upd1; split
  · rw [setSeg_eq]; simp
  · rfl
theorem upd1_other {p : Seg} (h : ¬ ∃ c, p = Seg.seg true c) (hp : List Seg) (n : Nat) (s : Seg) : upd1 p hp n s = hp := by
  unfold upd1; split
  · exact absurd ⟨_, rfl⟩ h
  · rfl

/-- The caller's heap behind the call: what was lent to be written holds what it holds now; the new rows stand behind. -/
def updS (m' : List Nat) : List Nat → List Seg → List Seg → List Seg → List Seg
  | n :: ns, p :: ps, q :: qs, hp => updS m' ns ps qs (upd1 p hp n (renS m' q))
  | _, _, rest, hp => hp ++ mapS m' rest

/-- Neither lent to be read nor a package's variable. -/
def Own0 (q : Seg) : Prop := (∀ c', q ≠ .seg false c') ∧ ∀ g c', q ≠ .glob g c'

/-- What was lent to be written, and what is new, is owned or dead. -/
def okPost : List Seg → List Seg → Bool
  | p :: ps, q :: qs => (match p, q with | .seg true _, .seg false _ => false | .obj _, _ => false | _, .glob _ _ => false | _, _ => true) && okPost ps qs
  | [], qs => qs.all fun | .seg false _ => false | .glob _ _ => false | _ => true
  | _ :: _, [] => false

def allLt (n : Nat) : List Nat → Bool
  | [] => true
  | a :: r => Nat.blt a n && allLt n r

def outsK (m : List Nat) (pre : List Seg) (hp : List Seg) (K : AV → List Seg → Prop) : List FOut → Prop
  | [] => True
  | o :: r => (∀ y, o.pp y → guardT (okPost pre (o.segs y)) (K (ren (extM m hp.length m (o.segs y)) (o.res y)) (updS (extM m hp.length m (o.segs y)) m pre (o.segs y) hp))) ∧ outsK m pre hp K r

theorem outsK_out {m : List Nat} {pre hp : List Seg} {K : AV → List Seg → Prop} : ∀ {outs : List FOut}, outsK m pre hp K outs → ∀ o ∈ outs, ∀ y, o.pp y → okPost pre (o.segs y) = true ∧ K (ren (extM m hp.length m (o.segs y)) (o.res y)) (updS (extM m hp.length m (o.segs y)) m pre (o.segs y) hp)
  | [], _, o, ho, _, _ => by simp at ho
  | x :: r, h, o, ho, y, hy => by
    rcases List.mem_cons.1 ho with rfl | ho
    · have := h.1 y hy; rwa [guardT_eq] at this
    · exact outsK_out h.2 o ho y hy

theorem up_get : ∀ (ss : List Seg) (n i : Nat), i < ss.length → (extM.up n ss)[i]? = some (n + i)
  | [], _, _, h => by simp at h
  | s :: ss, n, 0, _ => by simp [extM.up]
  | s :: ss, n, i + 1, h => by simp only [extM.up, List.getElem?_cons_succ]; rw [up_get ss (n + 1) i (by simpa using h)]; congr 1; omega

theorem extM_eq (m : List Nat) (n0 : Nat) : ∀ (ns : List Nat) (ss : List Seg), ns.length ≤ ss.length → extM m n0 ns ss = m ++ extM.up n0 (ss.drop ns.length)
  | [], ss, _ => by simp [extM]
  | n :: ns, [], h => by simp at h
  | n :: ns, s :: ss, h => by simp [extM, extM_eq m n0 ns ss (by simpa using h)]

theorem mapS_get (m : List Nat) : ∀ (ss : List Seg) (i : Nat), (mapS m ss)[i]? = ss[i]?.map (renS m)
  | [], _ => by simp [mapS]
  | s :: ss, 0 => by simp [mapS]
  | s :: ss, i + 1 => by simp [mapS, mapS_get m ss i]

theorem updS_get (m' : List Nat) : ∀ (ns : List Nat) (ps qs hp : List Seg), ns.length = ps.length → ps.length ≤ qs.length → ∀ (j : Nat) (t : Seg), (updS m' ns ps qs hp)[j]? = some t →
    (∃ (i n : Nat) (c : Cont) (q : Seg), ns[i]? = some n ∧ ps[i]? = some (Seg.seg true c) ∧ qs[i]? = some q ∧ t = renS m' q ∧ n = j) ∨
    (∃ (i : Nat) (q : Seg), ps.length + i < qs.length ∧ qs[ps.length + i]? = some q ∧ t = renS m' q ∧ j = hp.length + i) ∨
    (hp[j]? = some t ∧ ∀ (i n : Nat) (c : Cont), ns[i]? = some n → ps[i]? = some (Seg.seg true c) → n ≠ j)
  | [], ps, qs, hp, h1, h2, j, t, ht => by
    have : ps = [] := List.eq_nil_of_length_eq_zero (by simpa using h1.symm)
    subst this
    simp only [updS] at ht
    rcases Nat.lt_or_ge j hp.length with hj | hj
    · rw [List.getElem?_append_left hj] at ht
      exact .inr (.inr ⟨ht, by simp⟩)
    · rw [List.getElem?_append_right hj, mapS_get] at ht
      obtain ⟨q, hq, rfl⟩ := Option.map_eq_some_iff.1 ht
      refine .inr (.inl ⟨j - hp.length, q, ?_, by simpa using hq, rfl, by omega⟩)
      have := (List.getElem?_eq_some_iff.1 hq).1
      simpa using this
  | n :: ns, [], qs, hp, h1, _, j, t, ht => by simp at h1
  | n :: ns, p :: ps, [], hp, _, h2, j, t, ht => by simp at h2
  | n :: ns, p :: ps, q :: qs, hp, h1, h2, j, t, ht => by
    simp only [updS] at ht
    have ih := updS_get m' ns ps qs _ (by simpa using h1) (by simpa using h2) j t ht
    rw [upd1_len] at ih
    rcases ih with ⟨i, n', c, q', a1, a2, a3, a4, a5⟩ | ⟨i, q', a1, a2, a3, a4⟩ | ⟨a1, a2⟩
    · exact .inl ⟨i + 1, n', c, q', by simpa using a1, by simpa using a2, by simpa using a3, a4, a5⟩
    · refine .inr (.inl ⟨i, q', by simp; omega, ?_, a3, a4⟩)
      rw [List.length_cons, show ps.length + 1 + i = (ps.length + i) + 1 by omega]; simpa using a2
    · by_cases hp' : ∃ c, p = .seg true c
      · obtain ⟨c, rfl⟩ := hp'
        simp only [upd1, setSeg_eq] at a1
        by_cases hj : n = j
        · subst hj
          have : n < hp.length := by have := (List.getElem?_eq_some_iff.1 a1).1; simpa using this
          simp [this] at a1
          exact .inl ⟨0, n, c, q, rfl, rfl, rfl, a1.symm, rfl⟩
        · rw [List.getElem?_set_ne hj] at a1
          refine .inr (.inr ⟨a1, fun i n' c' b1 b2 => ?_⟩)
          cases i with
          | zero => simp at b1; subst b1; exact hj
          | succ i => exact a2 i n' c' (by simpa using b1) (by simpa using b2)
      · rw [upd1_other hp'] at a1
        refine .inr (.inr ⟨a1, fun i n' c' b1 b2 => ?_⟩)
        cases i with
        | zero => simp at b2; exact absurd ⟨_, b2⟩ hp'
        | succ i => exact a2 i n' c' (by simpa using b1) (by simpa using b2)

theorem okPost_spec : ∀ {ps qs : List Seg}, okPost ps qs = true → ps.length ≤ qs.length ∧ (∀ (i : Nat) (c : Cont) (q : Seg), ps[i]? = some (Seg.seg true c) → qs[i]? = some q → Own0 q) ∧ (∀ (i : Nat) (q : Seg), qs[ps.length + i]? = some q → Own0 q) ∧ ∀ (i : Nat) (o : AO), ps[i]? ≠ some (.obj o)
  | [], qs, h => by
    refine ⟨by simp, by simp, fun i q hq => ⟨fun c' e => ?_, fun g c' e => ?_⟩, by simp⟩
    all_goals
      subst e
      simp only [okPost] at h
      have := List.all_eq_true.1 h _ (List.mem_of_getElem? hq)
      simp at this
  | p :: ps, [], h => by simp [okPost] at h
  | p :: ps, q :: qs, h => by
    simp only [okPost, Bool.and_eq_true] at h
    obtain ⟨h1, h2, h3, h4⟩ := okPost_spec h.2
    refine ⟨by simpa using h1, fun i c q' hp hq => ?_, fun i q' hq => ?_, fun i o hp => ?_⟩
    · cases i with
      | zero =>
        simp at hp hq; subst hp; subst hq
        refine ⟨fun c' e => ?_, fun g c' e => ?_⟩
        · subst e; simp at h
        · subst e; simp at h
      | succ i => exact h2 i c q' (by simpa using hp) (by simpa using hq)
    · rw [List.length_cons, show ps.length + 1 + i = (ps.length + i) + 1 by omega] at hq
      exact h3 i q' (by simpa using hq)
    · cases i with
      | zero => simp at hp; subst hp; simp at h
      | succ i => exact h4 i o (by simpa using hp)

theorem allLt_spec {n : Nat} : ∀ {l : List Nat}, allLt n l = true → ∀ (i k : Nat), l[i]? = some k → k < n
  | [], _, i, k, h => by simp at h
  | a :: l, h, i, k, hi => by
    simp only [allLt, Bool.and_eq_true] at h
    cases i with
    | zero => simp at hi; subst hi; simpa [Nat.blt_eq] using h.1
    | succ i => exact allLt_spec h.2 i k (by simpa using hi)

/-- BEHIND A CALL. -/
theorem call_heap {w0 : World} {L : Nat → Prop} {ρ ρ' : Plc} {st : St} {a : Act} {w w' : World} (hr : Rep w0 L ρ st a w) {m : List Nat} {pre segs : List Seg}
    (hle : segsLe m st.hp m pre) (hlt : allLt st.hp.length m = true) (hok : okPost pre segs = true)
    {Lc : Nat → Prop} (hLc : ∀ b, Lc b ↔ ∃ i s, pre[i]? = some s ∧ s.isOwn = true ∧ 0 < s.len ∧ (pl (m.map (pl ρ)) i).1 = b)
    (hh : HeapOk w.heap.size Lc (m.map (pl ρ) ++ ρ') segs w') (hk : Kept w Lc w') :
    (∀ x v, Den (m.map (pl ρ) ++ ρ') x v → Den (ρ ++ ρ') (ren (extM m st.hp.length m segs) x) v) ∧
    Rep w0 L (ρ ++ ρ') { st with hp := updS (extM m st.hp.length m segs) m pre segs st.hp } a w' := by
  obtain ⟨hml, hget⟩ := segsLe_get hle
  obtain ⟨ok1, ok2, ok3, ok4⟩ := okPost_spec hok
  have hn := hr.heap.names
  have hn2 := hh.names
  simp only [List.length_append, List.length_map] at hn2
  have hext := extM_eq m st.hp.length m segs (by omega)
  generalize hm' : extM m st.hp.length m segs = m' at *
  -- places
  have hpl1 : ∀ (i n : Nat), m[i]? = some n → nthN m' i = n ∧ n < ρ.length ∧ pl (ρ ++ ρ') n = pl ρ n ∧ pl (m.map (pl ρ) ++ ρ') i = pl ρ n ∧ pl (m.map (pl ρ)) i = pl ρ n := by
    intro i n hi
    have hil : i < m.length := (List.getElem?_eq_some_iff.1 hi).1
    have hnlt := allLt_spec hlt i n hi
    have hnρ : n < ρ.length := by omega
    refine ⟨?_, hnρ, ?_, ?_, ?_⟩
    · rw [nthN_eq, hext, List.getD_eq_getElem?_getD, List.getElem?_append_left hil, hi]; rfl
    · simp [pl, List.getElem?_append_left hnρ]
    · simp [pl, List.getElem?_append_left (show i < (m.map (pl ρ)).length by simpa using hil), hi]
    · simp [pl, hi]
  have hpl2 : ∀ (i : Nat), m.length + i < segs.length → nthN m' (m.length + i) = st.hp.length + i ∧ st.hp.length + i < (ρ ++ ρ').length ∧ pl (ρ ++ ρ') (st.hp.length + i) = pl (m.map (pl ρ) ++ ρ') (m.length + i) := by
    intro i hi
    refine ⟨?_, by simp; omega, ?_⟩
    · rw [nthN_eq, hext, List.getD_eq_getElem?_getD, List.getElem?_append_right (by omega), up_get _ _ _ (by simp; omega)]; simp
    · simp only [pl, List.getD_eq_getElem?_getD]
      rw [List.getElem?_append_right (by omega), List.getElem?_append_right (by simp)]
      congr 2; simp; omega
  have hren : ∀ i, i < (m.map (pl ρ) ++ ρ').length → nthN m' i < (ρ ++ ρ').length ∧ pl (ρ ++ ρ') (nthN m' i) = pl (m.map (pl ρ) ++ ρ') i := by
    intro i hi
    simp only [List.length_append, List.length_map] at hi
    rcases Nat.lt_or_ge i m.length with h | h
    · obtain ⟨e1, e2, e3, e4, _⟩ := hpl1 i m[i] (by simp [h])
      rw [e1, e3, e4]; exact ⟨by simp; omega, rfl⟩
    · obtain ⟨k, rfl⟩ : ∃ k, i = m.length + k := ⟨i - m.length, by omega⟩
      obtain ⟨e1, e2, e3⟩ := hpl2 k (by omega)
      rw [e1]; exact ⟨e2, e3⟩
  -- what a lent block is
  have hLcaller : ∀ b, Lc b → ∃ (n : Nat) (c : Cont), st.hp[n]? = some (.seg true c) ∧ 0 < c.len ∧ (pl ρ n).1 = b ∧ ∃ (i : Nat) (c' : Cont), m[i]? = some n ∧ pre[i]? = some (.seg true c') := by
    intro b hb
    obtain ⟨i, s, h1, h2, h3, h4⟩ := (hLc b).1 hb
    obtain ⟨n, g1, g2⟩ := hget i s h1
    obtain ⟨_, _, _, _, e5⟩ := hpl1 i n g1
    rw [e5] at h4
    cases s with
    | dead => simp [Seg.isOwn] at h2
    | obj o => exact absurd h1 (ok4 i o)
    | glob g c' => simp [Seg.isOwn] at h2
    | seg o c' =>
      have ho : o = true := by cases o <;> simp_all [Seg.isOwn]
      subst ho
      cases hseg : segAt st.hp n with
      | dead => rw [hseg] at g2; simp only [segLe] at g2; have := Nat.eq_of_beq_eq_true g2; simp [Seg.len] at h3; omega
      | obj o => rw [hseg] at g2; simp only [segLe] at g2
      | glob g c => rw [hseg] at g2; simp only [segLe] at g2
      | seg o c =>
        rw [hseg] at g2
        cases o <;> simp only [segLe] at g2
        exact ⟨n, c, segAt_some _ _ hseg, by have := contLe_len g2; simp only [Seg.len] at h3; omega, h4, i, c', g1, h1⟩
  have hmineL : ∀ b, Lc b → w0.heap.size ≤ b ∨ L b := fun b hb => by
    obtain ⟨n, c, h1, h2, rfl, _⟩ := hLcaller b hb
    exact hr.heap.mine n _ h1 rfl h2
  have hsz := hr.kept.size
  -- the three kinds of names behind the call
  have kinds : ∀ (j : Nat) (t : Seg), (updS m' m pre segs st.hp)[j]? = some t →
      (∃ (i : Nat) (q : Seg), segs[i]? = some q ∧ t = renS m' q ∧ nthN m' i = j ∧ (Own0 q) ∧ pl (ρ ++ ρ') j = pl (m.map (pl ρ) ++ ρ') i) ∨
      (st.hp[j]? = some t ∧ (0 < t.len → (pl ρ j).1 < w.heap.size ∧ ¬ Lc (pl ρ j).1) ∧ pl (ρ ++ ρ') j = pl ρ j) := by
    intro j t ht
    rcases updS_get m' m pre segs st.hp hml ok1 j t ht with ⟨i, n, c, q, a1, a2, a3, a4, a5⟩ | ⟨i, q, a1, a2, a3, a4⟩ | ⟨a1, a2⟩
    · subst a5
      obtain ⟨e1, e2, e3, e4, _⟩ := hpl1 i n a1
      exact .inl ⟨i, q, a3, a4, e1, ok2 i c q a2 a3, by rw [e3, e4]⟩
    · subst a4
      obtain ⟨e1, e2, e3⟩ := hpl2 i (by omega)
      exact .inl ⟨pre.length + i, q, a2, a3, by rw [← hml]; exact e1, ok3 i q a2, by rw [← hml]; exact e3⟩
    · have hj : j < ρ.length := by rw [hn]; exact (List.getElem?_eq_some_iff.1 a1).1
      refine .inr ⟨a1, fun hpos => ⟨hr.heap.lt a1 hpos, fun hb => ?_⟩, by simp [pl, List.getElem?_append_left hj]⟩
      obtain ⟨n, c, h1, h2, h3, i, c', h4, h5⟩ := hLcaller _ hb
      exact hr.heap.apart n j _ t (a2 i n c' h4 h5) h1 a1 rfl h2 hpos h3
  have hAblk : ∀ (i : Nat) (q : Seg), segs[i]? = some q → (Own0 q) → 0 < q.len → w.heap.size ≤ (pl (m.map (pl ρ) ++ ρ') i).1 ∨ Lc (pl (m.map (pl ρ) ++ ρ') i).1 := fun i q hq hno hpos => by
    refine hh.mine i q hq ?_ hpos
    cases q with
    | dead => simp [Seg.len] at hpos
    | obj o => rfl
    | glob g c => exact absurd rfl (hno.2 g c)
    | seg o c => cases o; exact absurd rfl (hno.1 c); rfl
  refine ⟨fun x v hd => ren_den hren hd, ⟨hr.slots.grow _, ⟨?_, ?_, ?_, ?_⟩, ⟨?_, ?_, ?_, ?_, ?_⟩, hr.defers⟩⟩
  · -- names
    have : ∀ (ns : List Nat) (ps qs hp : List Seg), ns.length = ps.length → ps.length ≤ qs.length → (updS m' ns ps qs hp).length = hp.length + (qs.length - ps.length) := by
      intro ns
      induction ns with
      | nil =>
        intro ps qs hp h1 h2
        have : ps = [] := List.eq_nil_of_length_eq_zero (by simpa using h1.symm)
        subst this
        have : (mapS m' qs).length = qs.length := by
          clear h2 h1; induction qs with | nil => rfl | cons q qs ih => simp [mapS, ih]
        simp [updS, this]
      | cons n ns ih =>
        intro ps qs hp h1 h2
        cases ps with
        | nil => simp at h1
        | cons p ps =>
          cases qs with
          | nil => simp at h2
          | cons q qs =>
            simp only [updS]
            rw [ih ps qs _ (by simpa using h1) (by simpa using h2)]
            simp only [List.length_cons]
            rw [upd1_len]; omega
    simp only [List.length_append]
    rw [this m pre segs st.hp hml ok1]; omega
  · intro j t ht
    rcases kinds j t ht with ⟨i, q, h1, rfl, h3, h4, h5⟩ | ⟨h1, h2, h3⟩
    · cases q with
      | dead => trivial
      | obj o =>
        obtain ⟨b1, x, b2, b3⟩ := hh.cells i _ h1
        exact ⟨by rw [h5]; exact b1, x, by rw [h5]; exact b2, renO_is hren b3⟩
      | glob g c => exact absurd rfl (h4.2 g c)
      | seg o c =>
        have hcs := hh.cells i _ h1
        simp only [SegOk] at hcs
        simp only [renS, SegOk]
        intro k x hx
        rw [renC_get] at hx
        obtain ⟨y, hy, rfl⟩ := Option.map_eq_some_iff.1 hx
        obtain ⟨v, b1, b2, b3, b4⟩ := hcs k y hy
        rw [h5]
        exact ⟨v, b1, ren_den hren b2, b3, b4⟩
    · cases t with
      | dead => trivial
      | obj o =>
        obtain ⟨b1, x, b2, b3⟩ := hr.heap.cells j _ h1
        have hb := hk.block _ (h2 (by simp [Seg.len])).1 (h2 (by simp [Seg.len])).2
        exact ⟨by rw [h3]; exact b1, x, by rw [h3, hb]; exact b2, b3.grow _⟩
      | glob g c =>
        obtain ⟨hcg, hcs⟩ := hr.heap.cells j _ h1
        refine ⟨by rw [h3]; exact hcg, fun k x hx => ?_⟩
        obtain ⟨v, b1, b2, b3, b4⟩ := hcs k x hx
        have hpos : 0 < (Seg.glob g c).len := by
          have := (List.getElem?_eq_some_iff.1 hx).1
          rw [Cont.len_eq] at this; show 0 < c.len; omega
        have hb := hk.block _ (h2 hpos).1 (h2 hpos).2
        rw [h3]
        exact ⟨v, by rw [World.cell?_of_block (w := w) hb]; exact b1, b2.grow _, b3, fun ho => by cases ho⟩
      | seg o c =>
        have hcs := hr.heap.cells j _ h1
        simp only [SegOk] at hcs ⊢
        intro k x hx
        obtain ⟨v, b1, b2, b3, b4⟩ := hcs k x hx
        have hpos : 0 < (Seg.seg o c).len := by
          have := (List.getElem?_eq_some_iff.1 hx).1
          rw [Cont.len_eq] at this; show 0 < c.len; omega
        have hb := hk.block _ (h2 hpos).1 (h2 hpos).2
        rw [h3]
        exact ⟨v, by rw [World.cell?_of_block (w := w) hb]; exact b1, b2.grow _, b3, fun ho => by rw [World.frozen?_of_block (w := w) hb]; exact b4 ho⟩
  · intro j t ht ho hpos
    rcases kinds j t ht with ⟨i, q, h1, rfl, h3, h4, h5⟩ | ⟨h1, h2, h3⟩
    · rw [renS_len] at hpos
      rw [h5]
      rcases hAblk i q h1 h4 hpos with hb | hb
      · exact .inl (by omega)
      · exact hmineL _ hb
    · rw [h3]; exact hr.heap.mine j t h1 ho hpos
  · intro j k s t hne hs ht ho hpos hpos'
    rcases kinds j s hs with ⟨i, q, h1, rfl, h3, h4, h5⟩ | ⟨h1, h2, h3⟩
    · rw [renS_len] at hpos
      rcases kinds k t ht with ⟨i', q', g1, rfl, g3, g4, g5⟩ | ⟨g1, g2, g3⟩
      · rw [renS_len] at hpos'
        rw [renS_own] at ho
        rw [h5, g5]
        exact hh.apart i i' q q' (fun e => hne (by rw [← h3, ← g3, e])) h1 g1 ho hpos hpos'
      · rw [h5, g3]
        obtain ⟨c1, c2⟩ := g2 hpos'
        rcases hAblk i q h1 h4 hpos with hb | hb
        · omega
        · exact fun e => c2 (e ▸ hb)
    · obtain ⟨c1, c2⟩ := h2 hpos
      rcases kinds k t ht with ⟨i', q', g1, rfl, g3, g4, g5⟩ | ⟨g1, g2, g3⟩
      · rw [renS_len] at hpos'
        rw [h3, g5]
        rcases hAblk i' q' g1 g4 hpos' with hb | hb
        · omega
        · exact fun e => c2 (e ▸ hb)
      · rw [h3, g3]; exact hr.heap.apart j k s t hne h1 g1 ho hpos hpos'
  · exact hk.os.trans hr.kept.os
  · exact hk.output.trans hr.kept.output
  · exact hk.tape.trans hr.kept.tape
  · exact Nat.le_trans hsz hk.size
  · intro k hk' hL
    rw [hk.block k (by omega) (fun hb => by rcases hmineL k hb with h | h; omega; exact hL h)]
    exact hr.kept.block k hk' hL
end Go.Fw

namespace Go.Fw
open Go Go.RowKit

/-- A way through a text begins. -/
def rangeAV (T : List (Nat × TyI)) (hp : List Seg) (t : Nat) (x : AV) (K : AV → List Seg → Prop) : Prop :=
  match tyAt T t with
  | some i => (match i.d, x with
    | .str, .str b => K (.ptr hp.length 0) (hp ++ [.obj (.iter b 0)])
    | _, _ => False)
  | none => False

/-- The next letter, or none. -/
def nextAV (hp : List Seg) (x : AV) (K : AV → List Seg → Prop) : Prop :=
  match x with
  | .ptr n 0 => (match segAt hp n with
    | .obj (.iter b p) => (p < b.size → K (.tup [.bool true, .int .i64 (p : Int), .int .i32 ((Utf8.decode b p).1 : Int)]) (setSeg hp n (.obj (.iter b (p + (Utf8.decode b p).2))))) ∧ (¬ p < b.size → K (.tup [.bool false]) hp)
    | _ => False)
  | _ => False

section
variable {P : Program} {T : List (Nat × TyI)} {w0 : World} {L : Nat → Prop} {ρ : Plc} {st : St} {a : Act} {w : World}

/-- The world with a new object, under a new name. -/
theorem Rep.newObjF (h : Rep w0 L ρ st a w) {o : AO} {x : Obj} (hx : ObjIs (ρ ++ [(w.heap.size, 0)]) o x) : Rep w0 L (ρ ++ [(w.heap.size, 0)]) { st with hp := st.hp ++ [.obj o] } a (w.alloc x) := by
  have hn := h.heap.names
  have hw : HeapOk w0.heap.size L ρ st.hp (w.alloc x) := h.heap.world fun n s hs hl => Below.heap_alloc w _ _ (h.heap.lt hs hl)
  have hg := hw.grow (w.heap.size, 0)
  have pp : pl (ρ ++ [(w.heap.size, 0)]) st.hp.length = (w.heap.size, 0) := by simp [pl, ← hn]
  have key : ∀ (m : Nat) (s : Seg), (st.hp ++ [Seg.obj o])[m]? = some s → (m = st.hp.length ∧ s = .obj o) ∨ (m < st.hp.length ∧ st.hp[m]? = some s ∧ pl (ρ ++ [(w.heap.size, 0)]) m = pl ρ m) := fun m s hs => by
    rcases Nat.lt_or_ge m st.hp.length with hlt | hge
    · rw [List.getElem?_append_left hlt] at hs
      exact .inr ⟨hlt, hs, by simp [pl, List.getElem?_append_left (show m < ρ.length by omega)]⟩
    · have hm : m < st.hp.length + 1 := by simpa using (List.getElem?_eq_some_iff.1 hs).1
      have : m = st.hp.length := by omega
      subst this
      simp at hs
      exact .inl ⟨rfl, hs.symm⟩
  refine ⟨h.slots.grow _, ⟨by simp [hn], fun m s hs => ?_, fun m s hs ho hl => ?_, fun m k s t hne hs ht ho hl hl' => ?_⟩, h.kept.alloc _, h.defers⟩
  · rcases key m s hs with ⟨rfl, rfl⟩ | ⟨hlt, hs', _⟩
    · exact ⟨by rw [pp], x, by rw [pp]; exact Array.getElem?_push_size, hx⟩
    · have : (st.hp ++ [Seg.dead])[m]? = some s := by rw [List.getElem?_append_left hlt]; exact hs'
      exact hg.cells m s this
  · rcases key m s hs with ⟨rfl, rfl⟩ | ⟨hlt, hs', e⟩
    · rw [pp]; exact .inl h.kept.size
    · rw [e]; exact h.heap.mine m s hs' ho hl
  · rcases key m s hs with ⟨rfl, rfl⟩ | ⟨hlt, hs', e⟩
    · rcases key k t ht with ⟨rfl, rfl⟩ | ⟨hlt2, ht', e2⟩
      · exact absurd rfl hne
      · rw [pp, e2]
        have := h.heap.lt ht' hl'
        simp only; omega
    · rcases key k t ht with ⟨rfl, rfl⟩ | ⟨hlt2, ht', e2⟩
      · rw [pp, e]
        have := h.heap.lt hs' hl
        simp only; omega
      · rw [e, e2]; exact h.heap.apart m k s t hne hs' ht' ho hl hl'

/-- An object is changed. -/
theorem Rep.setObjF (h : Rep w0 L ρ st a w) {n : Nat} {o o' : AO} {x' : Obj} (hs : st.hp[n]? = some (.obj o)) (hx : ObjIs ρ o' x') :
    Rep w0 L ρ { st with hp := setSeg st.hp n (.obj o') } a { w with heap := w.heap.setIfInBounds (pl ρ n).1 x' } := by
  have hc := h.heap.cells n _ hs
  obtain ⟨c1, x, c2, c3⟩ := hc
  have hmine := h.heap.mine n _ hs rfl (by simp [Seg.len])
  have hlt : (pl ρ n).1 < w.heap.size := (Array.getElem?_eq_some_iff.1 c2).1
  have other : ∀ b, b ≠ (pl ρ n).1 → (w.heap.setIfInBounds (pl ρ n).1 x')[b]? = w.heap[b]? := fun b hb => Array.getElem?_setIfInBounds_ne (fun e => hb e.symm)
  have key : ∀ (m : Nat) (s : Seg), (setSeg st.hp n (.obj o'))[m]? = some s → (m = n ∧ s = .obj o') ∨ (m ≠ n ∧ st.hp[m]? = some s) := fun m s hs => by
    rw [setSeg_eq, List.getElem?_set] at hs
    split at hs
    · rename_i e
      subst e
      split at hs
      · simp only [Option.some.injEq] at hs; exact .inl ⟨rfl, hs.symm⟩
      · cases hs
    · rename_i e; exact .inr ⟨fun e' => e e'.symm, hs⟩
  refine ⟨h.slots, ⟨by simp [setSeg_eq, h.heap.names], fun m s hm => ?_, fun m s hm ho hl => ?_, fun m k s t hne hm hk ho hl hl' => ?_⟩, ⟨h.kept.os, h.kept.output, h.kept.tape, by simpa using h.kept.size, fun k hk hL => ?_⟩, h.defers⟩
  · rcases key m s hm with ⟨rfl, rfl⟩ | ⟨hne, hm'⟩
    · exact ⟨c1, x', by simp [hlt], hx⟩
    · cases s with
      | dead => trivial
      | obj o2 =>
        obtain ⟨g1, y, g2, g3⟩ := h.heap.cells m _ hm'
        exact ⟨g1, y, by rw [other _ (h.heap.apart m n _ _ hne hm' hs rfl (by simp [Seg.len]) (by simp [Seg.len]))]; exact g2, g3⟩
      | glob g c =>
        obtain ⟨g1, g2⟩ := h.heap.cells m _ hm'
        refine ⟨g1, CellsAt.world (w := w) g2 fun hne' => ?_⟩
        exact other _ (fun e => h.heap.apart n m _ _ (fun e => hne e.symm) hs hm' rfl (by simp [Seg.len]) (by simp only [Seg.len, ← Cont.len_eq]; exact List.length_pos_iff.2 hne') e.symm)
      | seg own c =>
        have := h.heap.cells m _ hm'
        refine CellsAt.world (w := w) this fun hne' => ?_
        exact other _ (fun e => h.heap.apart n m _ _ (fun e => hne e.symm) hs hm' rfl (by simp [Seg.len]) (by simp only [Seg.len, ← Cont.len_eq]; exact List.length_pos_iff.2 hne') e.symm)
  · rcases key m s hm with ⟨rfl, rfl⟩ | ⟨hne, hm'⟩
    · exact hmine
    · exact h.heap.mine m s hm' ho hl
  · rcases key m s hm with ⟨rfl, rfl⟩ | ⟨h1, hm'⟩
    · rcases key k t hk with ⟨rfl, rfl⟩ | ⟨h2, hk'⟩
      · exact absurd rfl hne
      · exact h.heap.apart m k _ t hne hs hk' rfl (by simp [Seg.len]) hl'
    · rcases key k t hk with ⟨rfl, rfl⟩ | ⟨h2, hk'⟩
      · exact h.heap.apart m k s _ hne hm' hs ho hl (by simp [Seg.len])
      · exact h.heap.apart m k s t hne hm' hk' ho hl hl'
  · have : (w.heap.setIfInBounds (pl ρ n).1 x')[k]? = w.heap[k]? := other k (fun e => by
      rcases hmine with hm | hm
      · omega
      · exact hL (e ▸ hm))
    show (w.heap.setIfInBounds (pl ρ n).1 x')[k]? = _
    rw [this]
    exact h.kept.block k hk hL

theorem run_getObjF {P : Program} {w : World} {r : Nat} {x : Obj} (h : w.heap[r]? = some x) (hx : ∀ c e f, x ≠ .cells c e f) : (getObj r).run P w = .ok x w := by
  cases x <;> first | exact absurd rfl (hx _ _ _) | simp [getObj, Sem.run, h]
theorem run_setObjF {P : Program} {w : World} {r : Nat} {x : Obj} (h : w.heap[r]? = some x) (hx : ∀ c e f, x ≠ .cells c e f) (y : Obj) : (setObj r y).run P w = .ok () { w with heap := w.heap.setIfInBounds r y } := by
  cases x <;> first | exact absurd rfl (hx _ _ _) | simp [setObj, Sem.run, h]

theorem range_sound (hT : TOk P T) {t : Nat} {x : AV} {vx : Value} {K : AV → List Seg → Prop} (h : rangeAV T st.hp t x K) (hr : Rep w0 L ρ st a w) (hd : Den ρ x vx) :
    ∃ y H' ρ' v w', K y H' ∧ (Instr.range t vx).run P w = .ok v w' ∧ Den (ρ ++ ρ') y v ∧ Rep w0 L (ρ ++ ρ') { st with hp := H' } a w' := by
  unfold rangeAV at h
  split at h
  · rename_i i hi
    split at h
    · rename_i b hid
      simp only [Den] at hd
      subst hd
      have hn := hr.heap.names
      refine ⟨_, _, [(w.heap.size, 0)], .pointer (some ⟨w.heap.size, 0, none⟩), _, h, ?_, ?_, hr.newObjF (x := .stringIter b 0) rfl⟩
      · simp [Instr.range, run_underlying (und_str (hT.at hi) hid), go_sem]
      · simp only [Den]
        exact ⟨by simp; omega, by simp [pl, ← hn]⟩
    · exact h.elim
  · exact h.elim

theorem next_sound {ty : TypeId} {x : AV} {vx : Value} {K : AV → List Seg → Prop} (h : nextAV st.hp x K) (hr : Rep w0 L ρ st a w) (hd : Den ρ x vx) :
    ∃ y H' v w', K y H' ∧ (Instr.next vx true ty).run P w = .ok v w' ∧ Den ρ y v ∧ Rep w0 L ρ { st with hp := H' } a w' := by
  unfold nextAV at h
  split at h
  · rename_i n
    cases hseg : segAt st.hp n with
    | dead => simp only [hseg] at h
    | seg own c => simp only [hseg] at h
    | glob g c => simp only [hseg] at h
    | obj o =>
      cases o with
      | map es ck => simp only [hseg] at h
      | iter b p =>
      simp only [hseg] at h
      have hs := segAt_obj _ _ hseg
      obtain ⟨c1, x, c2, c3⟩ := hr.heap.cells n _ hs
      simp only [ObjIs] at c3
      subst c3
      simp only [Den] at hd
      obtain ⟨_, hd⟩ := hd
      rw [c1] at hd
      have hget : (getObj (pl ρ n).1).run P w = .ok (.stringIter b p) w := run_getObjF c2 (fun _ _ _ h => by cases h)
      have hset : ∀ y, (setObj (pl ρ n).1 y).run P w = .ok () { w with heap := w.heap.setIfInBounds (pl ρ n).1 y } := fun y => run_setObjF c2 (fun _ _ _ h => by cases h) y
      by_cases hp : p < b.size
      · refine ⟨_, _, .tuple #[.bool true, goInt p, .int .i32 (Utf8.decode b p).1], _, h.1 hp, ?_, ?_, hr.setObjF hs (x' := .stringIter b (p + (Utf8.decode b p).2)) rfl⟩
        · simp only [Instr.next, hd, Sem.run_bind, Nat.add_zero, hget, Result.andThen_ok, if_pos hp, Sem.run_pure, hset]
        · simp only [Den]; exact ⟨[.bool true, goInt p, .int .i32 (Utf8.decode b p).1], rfl, by simp [Dens, Den, goInt]⟩
      · refine ⟨_, _, .tuple #[.bool false], w, h.2 hp, ?_, ?_, hr⟩
        · simp only [Instr.next, hd, Sem.run_bind, Nat.add_zero, hget, Result.andThen_ok, if_neg hp, Sem.run_pure]
        · simp only [Den]; exact ⟨[.bool false], rfl, by simp [Dens, Den]⟩
  · exact h.elim
end
end Go.Fw

namespace Go.Fw
open Go Go.RowKit

/-- A function that can be called: it has a body. -/
def Enterable (P : Program) (f : FuncId) : Prop := ∃ fn, P.funcs[f]? = some fn ∧ (fn.name == "runtime.NumGoroutine") = false ∧ fn.body.isNone = false

def Fits (P : Program) (f : FuncId) (s : FSpec) : Prop := Enterable P f ∧ Meets P f s

/-- A call, by what is known of the callee. -/
def callVC (P : Program) (f : FuncId) (args : List AV) (hp : List Seg) (K : AV → List Seg → Prop) : Prop :=
  ∃ (s : FSpec) (m : List Nat), Fits P f s ∧ guardT (nodupB m s.heap && allLt hp.length m) (avsLe m s.args args ∧ segsLe m hp m s.heap ∧ outsK m s.heap hp K s.outs)

def St.upd (st : St) (d : Option Tmp) (x : AV) (H : List Seg) : St := St.put { st with hp := H } d x

/-- The state written out, so that what follows finds it so. -/
def forceNm : Nat → (Nat → Prop) → Prop
  | 0, K => K 0
  | m + 1, K => forceNm m fun m => K (m + 1)
theorem forceNm_eq : ∀ (n : Nat) (K : Nat → Prop), forceNm n K = K n
  | 0, _ => rfl
  | m + 1, K => by rw [forceNm, forceNm_eq m]
def forceA1 (x : AV) (K : AV → Prop) : Prop :=
  match x with
  | .any => K .any
  | .bool b => K (.bool b)
  | .int k n => K (.int k n)
  | .flt k b => K (.flt k b)
  | .cpx k a b => K (.cpx k a b)
  | .str s => K (.str s)
  | .nils => K .nils
  | .nilp => K .nilp
  | .nilf => K .nilf
  | .nilm => K .nilm
  | .map n => forceNm n fun n => K (.map n)
  | .slice n o l c => forceNm n fun n => K (.slice n o l c)
  | .ptr n o => forceNm n fun n => K (.ptr n o)
  | .agg cs => K (.agg cs)
  | .tup cs => K (.tup cs)
  | .fn f cs => K (.fn f cs)
  | .fnb f cs => K (.fnb f cs)
theorem forceA1_eq (x : AV) (K : AV → Prop) : forceA1 x K = K x := by cases x <;> simp only [forceA1, forceNm_eq]
def forceL1 : List AV → (List AV → Prop) → Prop
  | [], K => K []
  | a :: r, K => forceA1 a fun a' => forceL1 r fun r' => K (a' :: r')
theorem forceL1_eq : ∀ (l : List AV) (K : List AV → Prop), forceL1 l K = K l
  | [], _ => rfl
  | a :: r, K => by rw [forceL1, forceA1_eq, forceL1_eq r]
def forceA (x : AV) (K : AV → Prop) : Prop :=
  match x with
  | .any => K .any
  | .bool b => K (.bool b)
  | .int k n => K (.int k n)
  | .flt k b => K (.flt k b)
  | .cpx k a b => K (.cpx k a b)
  | .str s => K (.str s)
  | .nils => K .nils
  | .nilp => K .nilp
  | .nilf => K .nilf
  | .nilm => K .nilm
  | .map n => forceNm n fun n => K (.map n)
  | .slice n o l c => forceNm n fun n => K (.slice n o l c)
  | .ptr n o => forceNm n fun n => K (.ptr n o)
  | .agg cs => forceL1 cs fun cs => K (.agg cs)
  | .tup cs => forceL1 cs fun cs => K (.tup cs)
  | .fn f cs => forceL1 cs fun cs => K (.fn f cs)
  | .fnb f cs => forceL1 cs fun cs => K (.fnb f cs)
theorem forceA_eq (x : AV) (K : AV → Prop) : forceA x K = K x := by cases x <;> simp only [forceA, forceNm_eq, forceL1_eq]
def forceL : List AV → (List AV → Prop) → Prop
  | [], K => K []
  | a :: r, K => forceL r fun r' => K (a :: r')
theorem forceL_eq : ∀ (l : List AV) (K : List AV → Prop), forceL l K = K l
  | [], _ => rfl
  | a :: r, K => by rw [forceL, forceL_eq r]
def forceCol (c : Col) (K : Col → Prop) : Prop :=
  match c with
  | .bools l => K (.bools l)
  | .ints k l => K (.ints k l)
  | .flts k l => K (.flts k l)
  | .cpxs k l => K (.cpxs k l)
  | .strs l => K (.strs l)
theorem forceCol_eq (c : Col) (K : Col → Prop) : forceCol c K = K c := by cases c <;> rfl
def forceCols : List Col → (List Col → Prop) → Prop
  | [], K => K []
  | c :: r, K => forceCol c fun c' => forceCols r fun r' => K (c' :: r')
theorem forceCols_eq : ∀ (l : List Col) (K : List Col → Prop), forceCols l K = K l
  | [], _ => rfl
  | c :: r, K => by rw [forceCols, forceCol_eq, forceCols_eq r]
def forceS (s : Seg) (K : Seg → Prop) : Prop :=
  match s with
  | .dead => K .dead
  | .obj o => K (.obj o)
  | .glob g (.ints k l) => K (.glob g (.ints k l))
  | .glob g c => K (.glob g c)
  | .seg o (.bools l) => K (.seg o (.bools l))
  | .seg o (.ints k l) => K (.seg o (.ints k l))
  | .seg o (.flts k l) => K (.seg o (.flts k l))
  | .seg o (.cpxs k l) => K (.seg o (.cpxs k l))
  | .seg o (.strs l) => K (.seg o (.strs l))
  | .seg o (.avs l) => K (.seg o (.avs l))
  | .seg o (.cols cs) => forceCols cs fun cs => K (.seg o (.cols cs))
theorem forceS_eq (x : Seg) (K : Seg → Prop) : forceS x K = K x := by
  cases x with
  | dead => rfl
  | obj o => rfl
  | glob g c => cases c <;> rfl
  | seg o c => cases c <;> first | rfl | exact forceCols_eq _ _
def forceH : List Seg → (List Seg → Prop) → Prop
  | [], K => K []
  | a :: r, K => forceS a fun a' => forceH r fun r' => K (a' :: r')
theorem forceH_eq : ∀ (l : List Seg) (K : List Seg → Prop), forceH l K = K l
  | [], _ => rfl
  | a :: r, K => by rw [forceH, forceS_eq, forceH_eq r]

/-- d := x, in this heap. -/
def St.go (sl : List AV) (hp : List Seg) (d : Option Tmp) (x : AV) (K : St → Prop) : Prop :=
  match d with
  | some t => forceA x fun x' => forceL (setAt sl t x') fun sl' => K ⟨sl', hp⟩
  | none => K ⟨sl, hp⟩
theorem St.go_eq (sl : List AV) (hp : List Seg) (d : Option Tmp) (x : AV) (K : St → Prop) : St.go sl hp d x K = K (St.put ⟨sl, hp⟩ d x) := by
  cases d <;> simp only [St.go, St.put, forceA_eq, forceL_eq]
def St.upG (st : St) (d : Option Tmp) (x : AV) (H : List Seg) (K : St → Prop) : Prop := match st with | ⟨sl, _⟩ => forceH H fun H' => St.go sl H' d x K
theorem St.upG_eq (st : St) (d : Option Tmp) (x : AV) (H : List Seg) (K : St → Prop) : St.upG st d x H K = K (st.upd d x H) := by
  simp only [St.upG, forceH_eq, St.go_eq, St.upd]
def forceSt (st : St) (K : St → Prop) : Prop := forceL st.sl fun sl => forceH st.hp fun hp => K ⟨sl, hp⟩
theorem forceSt_eq (st : St) (K : St → Prop) : forceSt st K = K st := by simp only [forceSt, forceL_eq, forceH_eq]

/-- A call of a function of which it is known that it only looks. -/
def isQ (q : Nat → Bool) (o : Oper) : Bool :=
  match o.op with
  | .call c => (match c.callee with
    | .value (.func f) => (match q (2000000 + f) with | true => false | false => q f)
    | _ => false)
  | _ => false

/-- + - * / -/
def isArF : BinOp → Bool
  | .add => true
  | .sub => true
  | .mul => true
  | .quo => true
  | _ => false

/-- An operation of floats whose outcome may be no number: its bits are drawn. -/
def nanVC (op : BinOp) (x y : AV) (K : AV → Prop) : Prop :=
  match x, y with
  | .flt .f64 a, .flt .f64 b => guardT (isArF op) ((∃ r, floatBits op .f64 a b = some r ∧ K (.flt .f64 r)) ∨ (floatBits op .f64 a b = none ∧ ∀ r s f, FloatKind.f64.format.read r = .nan s f → r < 18446744073709551616 → K (.flt .f64 r)))
  | _, _ => False

/-- An operation that makes or writes memory, or calls. -/
def isEff (q : Nat → Bool) (o : Oper) : Bool :=
  match o.op with
  | .store .. | .makeSlice .. | .alloc .. | .box .. | .buildSlice .. => true
  | .makeMap .. | .mapUpdate .. | .insert .. | .range .. | .next .. => true
  | .convert _ d _ => q (1000000 + d)
  | .binOp op t _ _ _ => q (3000000 + t) && isArF op
  | .call c => (match c.callee with
    | .builtin .append => true
    | .builtin .copy => true
    | .builtin .clear => true
    | .builtin .delete => true
    | .value (.func f) => (match q (2000000 + f) with | true => false | false => (match q f with | true => false | false => true))
    | .value _ => true
    | _ => false)
  | _ => false

/-- What a call that only looks gives. -/
structure QSpec where
  args : List AV
  heap : List Seg
  res : AV

def ground1 : AV → Option Value
  | .bool b => some (.bool b)
  | .int k n => some (.int k n)
  | .flt k b => some (.float k b)
  | .cpx k a b => some (.complex k a b)
  | .str s => some (.string s)
  | .nils => some (.slice none 0 0)
  | _ => none
def groundL : List AV → Option (List Value)
  | [] => some []
  | x :: r => match ground1 x, groundL r with
    | some v, some vs => some (v :: vs)
    | _, _ => none
def ground : AV → Option Value
  | .tup l => match groundL l with
    | some vs => some (.tuple vs.toArray)
    | none => none
  | x => ground1 x

theorem ground1_den {x : AV} {v : Value} (h : ground1 x = some v) (ρ : Plc) : Den ρ x v ∧ ∀ u, Den ρ x u → u = v := by
  unfold ground1 at h
  split at h <;> first | (cases h; done) | (simp only [Option.some.injEq] at h; subst h)
  all_goals exact ⟨by simp [Den], fun u hu => by simpa [Den] using hu⟩
theorem groundL_den : ∀ {l : List AV} {vs : List Value}, groundL l = some vs → ∀ ρ : Plc, Dens ρ l vs ∧ ∀ us, Dens ρ l us → us = vs
  | [], vs, h, ρ => by
    simp only [groundL, Option.some.injEq] at h
    subst h
    simp [Dens]
  | x :: r, vs, h, ρ => by
    unfold groundL at h
    split at h
    · rename_i v vs' h1 h2
      simp only [Option.some.injEq] at h
      subst h
      obtain ⟨d1, u1⟩ := ground1_den h1 ρ
      obtain ⟨d2, u2⟩ := groundL_den h2 ρ
      refine ⟨by simp only [Dens]; exact ⟨_, _, rfl, d1, d2⟩, fun us hu => ?_⟩
      simp only [Dens] at hu
      obtain ⟨a, b, rfl, ha, hb⟩ := hu
      rw [u1 _ ha, u2 _ hb]
    · cases h
theorem ground_den {x : AV} {v : Value} (h : ground x = some v) (ρ : Plc) : Den ρ x v ∧ ∀ u, Den ρ x u → u = v := by
  unfold ground at h
  split at h
  · split at h
    · rename_i l vs hl
      simp only [Option.some.injEq] at h
      subst h
      obtain ⟨d, u⟩ := groundL_den hl ρ
      refine ⟨by simp only [Den]; exact ⟨_, rfl, d⟩, fun w hw => ?_⟩
      simp only [Den] at hw
      obtain ⟨us, rfl, hw⟩ := hw
      rw [u _ hw]
    · cases h
  · exact ground1_den h ρ

/-- The function f, called so, gives this, and leaves the world alone but for draws. -/
def QFits (P : Program) (f : FuncId) (s : QSpec) : Prop :=
  Enterable P f ∧ ∃ v, ground s.res = some v ∧ ∀ (B : Nat) (L : Nat → Prop) (w : World) (ρ : Plc) (vs : List Value), HeapOk B L ρ s.heap w → Dens ρ s.args vs → Calls P f vs.toArray w fun e w' => e = .returned v ∧ ∃ n, w' = w.drewN n

def qcallVC (P : Program) (f : FuncId) (args : List AV) (hp : List Seg) (K : AV → Prop) : Prop :=
  ∃ (s : QSpec) (m : List Nat), QFits P f s ∧ guardT (nodupB m s.heap) (avsLe m s.args args ∧ segsLe m hp m s.heap ∧ K s.res)

def opVC (P : Program) (C : Cfg) (rg : Nat) (st : St) (o : Oper) (K : St → Prop) : Prop :=
  match isQ C.q o with
  | true => (match o.op with
    | .call c => (match c.callee with
      | .value (.func f) => qcallVC P f (c.args.toList.map (av st)) st.hp fun x => (match st with | ⟨sl, hp⟩ => St.go sl hp o.dst x K)
      | _ => False)
    | _ => False)
  | false =>
  match isEff C.q o with
  | false => evOp P C rg st o fun x => (match st with | ⟨sl, hp⟩ => St.go sl hp o.dst x K)
  | true =>
    (match o.op with
     | .store t ad x => storeAV C.T st.hp t (av st ad) (av st x) fun H => st.upG o.dst (.tup []) H K
     | .makeSlice t l c => makeSliceAV C.T st.hp t (av st l) (av st c) fun x H => st.upG o.dst x H K
     | .alloc t => allocAV C.T st t fun x H => st.upG o.dst x H K
     | .convert src dst x => bytesAV C.T st.hp src dst (av st x) fun x H => st.upG o.dst x H K
     | .box _ x => boxAV st (av st x) fun x H => st.upG o.dst x H K
     | .range t x => rangeAV C.T st.hp t (av st x) fun x H => st.upG o.dst x H K
     | .next it true => nextAV st.hp (av st it) fun x H => st.upG o.dst x H K
     | .buildSlice t len ps => buildSliceAV C.T st t len ps.toList fun x H => st.upG o.dst x H K
     | .call c => (match c.callee, c.args.toList, c.argTypes.toList with
       | .builtin .append, [s, x], [t, t2] => appendAV C.T st.hp t t2 (av st s) (av st x) fun x H => st.upG o.dst x H K
       | .builtin .copy, [s, x], [t, _] => copyAV C.T st.hp t (av st s) (av st x) fun x H => st.upG o.dst x H K
       | .value f, args, _ => (match av st f with
         | .fn g caps => callVC P g (args.map (av st) ++ caps) st.hp fun x H => st.upG o.dst x H K
         | .fnb g fs => callVC P g (fs ++ args.map (av st)) st.hp fun x H => st.upG o.dst x H K
         | _ => False)
       | _, _, _ => False)
     | .binOp op _ x y _ => nanVC op (av st x) (av st y) fun z => st.upG o.dst z st.hp K
     | _ => False)

section
variable {P : Program} {C : Cfg} {w0 : World} {L : Nat → Prop} {ρ : Plc} {st : St} {a : Act} {w : World}

theorem Rep.upd (h : Rep w0 L ρ { st with hp := st.hp } a w) (d : Option Tmp) {x : AV} {v : Value} (hd : Den ρ x v) : Rep w0 L ρ (st.upd d x st.hp) (a.put d v) w := h.put d hd

def NextOk (w0 : World) (L : Nat → Prop) (ρ : Plc) (K : St → Prop) (w : World) (eff : Bool) : Act → World → Prop := fun a' w' => ∃ r st', K st' ∧ Rep w0 L (ρ ++ r) st' a' w' ∧ (eff = false → ∃ n, w' = w.drewN n)

/-- What a call that only looks gives, in every world that differs in draws alone. -/
theorem qcall_sound {f : FuncId} {args : List AV} {K : AV → Prop} (h : qcallVC P f args st.hp K) (hr : Rep w0 L ρ st a w) {vs : List Value} (hd : Dens ρ args vs) :
    Enterable P f ∧ ∃ x v, K x ∧ Den ρ x v ∧ ∀ n, Calls P f vs.toArray (w.drewN n) fun e w' => e = .returned v ∧ ∃ k, w' = (w.drewN n).drewN k := by
  obtain ⟨s, m, ⟨he, v, hg, hq⟩, h⟩ := h
  rw [guardT_eq] at h
  obtain ⟨hnd, h1, h2, hk⟩ := h
  refine ⟨he, s.res, v, hk, (ground_den hg ρ).1, fun n => ?_⟩
  exact hq _ L (w.drewN n) (m.map (pl ρ)) vs ((hr.drewN n).heap.sub h2 hnd) (avsLe_den h1 hd)

theorem qcall_run {args' : Array Operand} {tys' : Array TypeId} {o : Oper} {g : FuncId} (hq : o.op = .call ⟨.value (.func g), args', tys'⟩) (he : Enterable P g) (a : Act) (w : World) : (execOp a.eval o).run P w = .ok (.enter g (args'.map a.eval)) w := by
  obtain ⟨fn, e1, e2, e3⟩ := he
  simp only [execOp, hq, resolve, Deferred.ofValue, Act.eval, Sem.run_bind, Sem.run_pure, Result.andThen_ok, invoke, callFunc, program, Sem.run, e1, e2, e3, Bool.false_eq_true, if_false, Array.empty_append, Array.append_empty]

theorem callVC_sound {f : FuncId} {args : List AV} {K : AV → List Seg → Prop} (h : callVC P f args st.hp K) (hr : Rep w0 L ρ st a w) {vs : List Value} (hd : Dens ρ args vs) (N : Value → World → Prop)
    (hN : ∀ x H' r v w', K x H' → Den (ρ ++ r) x v → Rep w0 L (ρ ++ r) { st with hp := H' } a w' → N v w') :
    Calls P f vs.toArray w fun e w' => ∃ v, e = .returned v ∧ N v w' := by
  obtain ⟨s, m, ⟨_, hm⟩, h⟩ := h
  rw [guardT_eq, Bool.and_eq_true] at h
  obtain ⟨⟨h3, h4⟩, h1, h2, h5⟩ := h
  have hsub := hr.heap.sub h2 h3
  have hlen := (segsLe_get h2).1
  have hentry : HeapOk w.heap.size (fun b => ∃ i s', s.heap[i]? = some s' ∧ s'.isOwn = true ∧ 0 < s'.len ∧ (pl (m.map (pl ρ)) i).1 = b) (m.map (pl ρ)) s.heap w :=
    ⟨hsub.names, hsub.cells, fun i t hi ho hl => .inr ⟨i, t, hi, ho, hl, rfl⟩, hsub.apart⟩
  refine (hm w _ (m.map (pl ρ)) vs hentry (avsLe_den h1 hd)).mono fun e w' ⟨o, ho, y, hy, v, ρ', he, hv, hh, hk⟩ => ⟨v, he, ?_⟩
  obtain ⟨g1, g2⟩ := outsK_out h5 o ho y hy
  obtain ⟨c1, c2⟩ := call_heap hr h2 h4 g1 (fun b => Iff.rfl) hh hk
  exact hN _ _ _ v w' g2 (c1 _ v hv) c2

theorem isQ_out {q : Nat → Bool} {o : Oper} (h : isQ q o = true) : ∃ g args tys, o.op = .call ⟨.value (.func g), args, tys⟩ ∧ isEff q o = false := by
  obtain ⟨dst, op, type, pos, after, guard⟩ := o
  cases op <;> simp only [isQ] at h <;> first | cases h | skip
  rename_i c
  obtain ⟨callee, args, tys⟩ := c
  cases callee <;> simp only at h <;> first | cases h | skip
  rename_i f
  cases f <;> simp only at h <;> first | cases h | skip
  rename_i g
  split at h
  · cases h
  · rename_i hx
    exact ⟨g, args, tys, rfl, by simp [isEff, h, hx]⟩

theorem opVC_q {rg : Nat} {o : Oper} {K : St → Prop} (hq : isQ C.q o = true) (h : opVC P C rg st o K) : ∃ g args tys, o.op = .call ⟨.value (.func g), args, tys⟩ ∧ isEff C.q o = false ∧ qcallVC P g (args.toList.map (av st)) st.hp fun x => K (st.put o.dst x) := by
  obtain ⟨g, args, tys, ho, he⟩ := isQ_out hq
  unfold opVC at h
  rw [hq] at h
  simp only [St.go_eq, ho] at h
  exact ⟨g, args, tys, ho, he, h⟩

theorem nan_read (t : Nat) : ∃ s f, FloatKind.f64.format.read ((t % 2) * 2 ^ 63 + 0x7ff0000000000000 + 1 + (t / 2) % (2 ^ 52 - 1)) = .nan s f ∧ (t % 2) * 2 ^ 63 + 0x7ff0000000000000 + 1 + (t / 2) % (2 ^ 52 - 1) < 18446744073709551616 := by
  obtain ⟨u, hu, hu2⟩ : ∃ u, u = (t / 2) % (2 ^ 52 - 1) ∧ u < 4503599627370495 := ⟨_, rfl, Nat.mod_lt _ (by decide)⟩
  rw [← hu]
  have hb : t % 2 < 2 := Nat.mod_lt _ (by decide)
  generalize t % 2 = b at *
  have c1 : FloatKind.f64.format.signWeight = 9223372036854775808 := by decide
  have c2 : FloatKind.f64.format.binade = 4503599627370496 := by decide
  have c3 : FloatKind.f64.format.infRung = 9218868437227405312 := by decide
  have e : b * 2 ^ 63 + 0x7ff0000000000000 + 1 + u = b * 9223372036854775808 + (9218868437227405313 + u) := by
    rw [show (2 : Nat) ^ 63 = 9223372036854775808 by decide]; omega
  rw [e]
  have e2 : (b * 9223372036854775808 + (9218868437227405313 + u)) % 9223372036854775808 = 9218868437227405313 + u := by omega
  have key : FloatKind.f64.format.read (b * 9223372036854775808 + (9218868437227405313 + u)) = .nan ((b * 9223372036854775808 + (9218868437227405313 + u)) / 9223372036854775808 % 2 == 1) (9218868437227405313 + u - 9218868437227405312) := by
    unfold Ieee.Format.read
    rw [c1, c2, c3, e2]
    dsimp only
    rw [if_neg (by omega), if_neg (by omega), if_neg (by omega)]
  exact ⟨_, _, key, by omega⟩

theorem nan_sound {op : BinOp} {x y : AV} {K : AV → Prop} (h : nanVC op x y K) {vx vy : Value} (hx : Den ρ x vx) (hy : Den ρ y vy) (t : TypeId) (xo yo : Operand) :
    ∃ z v n, K z ∧ Den ρ z v ∧ (do eqGuard op t xo yo vx vy; binOp op t vx vy : Sem Value).run P w = .ok v (w.drewN n) := by
  unfold nanVC at h
  split at h
  · rename_i a b
    rw [guardT_eq] at h
    obtain ⟨har, h⟩ := h
    simp only [Den] at hx hy
    subst hx; subst hy
    rcases h with ⟨r, hr, hk⟩ | ⟨hr, hk⟩
    · refine ⟨_, .float .f64 r, 0, hk, by simp only [Den], ?_⟩
      simp only [Sem.run_bind, eqGuard_plain (P := P) (a := .float .f64 a) (by simp) (by simp), Result.andThen_ok]
      exact run_float_arith w op t .f64 a b r hr
    · obtain ⟨s, f, e1, e2⟩ := nan_read (w.tape w.drawn (.nanBits .f64 a b))
      refine ⟨_, .float .f64 ((w.tape w.drawn (.nanBits .f64 a b) % 2) * 2 ^ 63 + 0x7ff0000000000000 + 1 + (w.tape w.drawn (.nanBits .f64 a b) / 2) % (2 ^ 52 - 1)), 1, hk _ s f e1 e2, by simp only [Den], ?_⟩
      simp only [Sem.run_bind, eqGuard_plain (P := P) (a := .float .f64 a) (by simp) (by simp), Result.andThen_ok]
      unfold floatBits at hr
      have hc : (choose (.nanBits .f64 a b)).run P w = .ok (Question.cut (.nanBits .f64 a b) (w.tape w.drawn (.nanBits .f64 a b))) w.drew := by rw [run_choose_drew]; rfl
      cases op <;> simp only [isArF] at har <;> first | (cases har; done) | skip
      all_goals (
        simp only at hr
        simp only [binOp, Op.floatArith, Sem.run_bind, Sem.run_pure, Result.andThen_ok, hr, hc]
        rfl)
  · exact h.elim

theorem opVC_sound (hT : TOk P C.T) {rg : Nat} {o : Oper} {K : St → Prop} (h : opVC P C rg st o K) (hr : Rep w0 L ρ st a w) (Q : Exit → Act → World → Prop) : o.wp P a w (NextOk w0 L ρ K w (isEff C.q o)) Q := by
  by_cases hq : isQ C.q o = true
  · obtain ⟨g, args, tys, ho, he, hc⟩ := opVC_q hq h
    obtain ⟨hen, x, v, hk, hd, hcall⟩ := qcall_sound hc hr (dens_map (av_den hr) _)
    unfold Oper.wp
    rw [qcall_run ho hen]
    have := hcall 0
    have earr : args.map a.eval = (args.toList.map a.eval).toArray := by rw [← Array.toList_inj]; simp
    rw [earr]
    exact this.mono fun e w' ⟨h1, k, h2⟩ => by subst h1; subst h2; exact ⟨[], _, hk, by rw [List.append_nil]; exact (hr.drewN k).put o.dst hd, fun _ => ⟨k, rfl⟩⟩
  have hq : isQ C.q o = false := by simpa using hq
  unfold opVC at h
  rw [hq] at h
  simp only [St.upG_eq, St.go_eq] at h
  split at h
  · rename_i heff
    obtain ⟨x, hk, hs⟩ := evOp_sound hT h
    obtain ⟨v, hv, hy⟩ := hs w0 L ρ a w hr
    unfold Oper.wp
    rw [hy w rfl]
    exact ⟨[], _, hk, by rw [List.append_nil]; exact hr.put o.dst hv, fun _ => ⟨0, rfl⟩⟩
  · rename_i heff
    rw [heff]
    clear heff hq
    obtain ⟨dst, op, type, pos, after, guard⟩ := o
    cases op <;> simp only at h <;> try exact h.elim
    case binOp op t x y ry =>
      obtain ⟨z, v, n, h1, h2, h3⟩ := nan_sound (P := P) (w := w) h (av_den hr x) (av_den hr y) t x y
      unfold Oper.wp execOp
      simp only
      rw [Sem.run_bind, h3]
      simp only [Result.andThen_ok, Sem.run_pure]
      exact ⟨[], _, h1, by rw [List.append_nil]; exact (hr.drewN n).put dst h2, fun h => by cases h⟩
    case alloc t =>
      obtain ⟨y, H', ρ', v, w', h1, h2, h3, h4⟩ := alloc_sound hT h hr
      unfold Oper.wp execOp
      simp only [Sem.run_bind, h2, Result.andThen_ok, Sem.run_pure]
      exact ⟨ρ', _, h1, h4.put dst h3, fun h => by cases h⟩
    case convert src dd x =>
      obtain ⟨y, H', ρ', v, w', h1, h2, h3, h4⟩ := bytes_sound hT h hr (av_den hr x)
      unfold Oper.wp execOp
      simp only [Sem.run_bind, h2, Result.andThen_ok, Sem.run_pure]
      exact ⟨ρ', _, h1, h4.put dst h3, fun h => by cases h⟩
    case box t x =>
      obtain ⟨y, H', ρ', v, w', h1, h2, h3, h4⟩ := box_sound (P := P) h hr t (av_den hr x)
      unfold Oper.wp execOp
      simp only [Sem.run_bind, h2, Result.andThen_ok, Sem.run_pure]
      exact ⟨ρ', _, h1, h4.put dst h3, fun h => by cases h⟩
    case range t x =>
      obtain ⟨y, H', ρ', v, w', h1, h2, h3, h4⟩ := range_sound hT h hr (av_den hr x)
      unfold Oper.wp execOp
      simp only [Sem.run_bind, h2, Result.andThen_ok, Sem.run_pure]
      exact ⟨ρ', _, h1, h4.put dst h3, fun h => by cases h⟩
    case next it str =>
      cases str
      · exact h.elim
      obtain ⟨y, H', v, w', h1, h2, h3, h4⟩ := next_sound (P := P) (ty := type) h hr (av_den hr it)
      unfold Oper.wp execOp
      simp only [Sem.run_bind, h2, Result.andThen_ok, Sem.run_pure]
      exact ⟨[], _, h1, by rw [List.append_nil]; exact h4.put dst h3, fun h => by cases h⟩
    case buildSlice t len ps =>
      obtain ⟨y, H', ρ', v, w', h1, h2, h3, h4⟩ := buildSlice_sound hT h hr
      unfold Oper.wp execOp
      simp only [Sem.run_bind, h2, Result.andThen_ok, Sem.run_pure]
      exact ⟨ρ', _, h1, h4.put dst h3, fun h => by cases h⟩
    case store t ad x =>
      obtain ⟨H', w', h1, h2, h3⟩ := store_sound hT h hr (av_den hr ad) (av_den hr x)
      unfold Oper.wp execOp
      simp only [Sem.run_bind, h2, Result.andThen_ok, Sem.run_pure]
      exact ⟨[], _, h1, by rw [List.append_nil]; exact h3.put dst (by simp only [Den]; exact ⟨[], rfl, by simp [Dens]⟩), fun h => by cases h⟩
    case makeSlice t l c =>
      obtain ⟨y, H', ρ', v, w', h1, h2, h3, h4⟩ := makeSlice_sound hT h hr (av_den hr l) (av_den hr c)
      unfold Oper.wp execOp
      simp only [Sem.run_bind, h2, Result.andThen_ok, Sem.run_pure]
      exact ⟨ρ', _, h1, h4.put dst h3, fun h => by cases h⟩
    case call c =>
      obtain ⟨callee, args, argTypes⟩ := c
      simp only at h
      split at h
      · rename_i s x t t2 ha ht
        have : args = #[s, x] := by rw [← Array.toList_inj]; exact ha
        subst this
        have : argTypes = #[t, t2] := by rw [← Array.toList_inj]; exact ht
        subst this
        obtain ⟨y, H', ρ', v, w', h1, h2, h3, h4⟩ := append_sound (ty := type) hT h hr (av_den hr s) (av_den hr x)
        unfold Oper.wp execOp
        simp only [resolve, invoke, builtin, Sem.run_bind, Sem.run_pure, Result.andThen_ok, List.map_toArray, List.map_cons, List.map_nil, h2]
        exact ⟨ρ', _, h1, h4.put dst h3, fun h => by cases h⟩
      · rename_i s x t t2 ha ht
        have : args = #[s, x] := by rw [← Array.toList_inj]; exact ha
        subst this
        have : argTypes = #[t, t2] := by rw [← Array.toList_inj]; exact ht
        subst this
        obtain ⟨y, H', v, w', h1, h2, h3, h4⟩ := copy_sound (ty := type) (t2 := t2) hT h hr (av_den hr s) (av_den hr x)
        unfold Oper.wp execOp
        simp only [resolve, invoke, builtin, Sem.run_bind, Sem.run_pure, Result.andThen_ok, List.map_toArray, List.map_cons, List.map_nil, h2]
        exact ⟨[], _, h1, by rw [List.append_nil]; exact h4.put dst h3, fun h => by cases h⟩
      · rename_i f
        split at h
        · rename_i g caps hg
          have hf := av_den hr f
          rw [hg] at hf
          simp only [Den] at hf
          obtain ⟨cvs, hf, hcd⟩ := hf
          obtain ⟨fn, e1, e2, e3⟩ : Enterable P g := by obtain ⟨_, _, ⟨he, _⟩, _⟩ := h; exact he
          have hd : Dens ρ (args.toList.map (av st) ++ caps) (args.toList.map a.eval ++ cvs) := (dens_map (av_den hr) _).append hcd
          have hc := callVC_sound h hr hd (fun v w' => NextOk w0 L ρ K w true (a.put dst v) w') (fun x H' ρ' v w' k1 k2 k3 => ⟨ρ', _, k1, k3.put dst k2, fun h => by cases h⟩)
          have harr : (args.map a.eval ++ cvs.toArray) = (args.toList.map a.eval ++ cvs).toArray := by rw [← Array.toList_inj]; simp
          unfold Oper.wp
          have hrun : (execOp a.eval ⟨dst, .call ⟨.value f, args, argTypes⟩, type, pos, after, guard⟩).run P w = .ok (.enter g (args.toList.map a.eval ++ cvs).toArray) w := by
            rw [← harr]
            simp only [execOp, resolve, Deferred.ofValue, hf, Sem.run_bind, Sem.run_pure, Result.andThen_ok, invoke, callFunc, program, Sem.run, e1, e2, e3, Bool.false_eq_true, if_false, Array.empty_append]
          rw [hrun]
          exact hc.mono fun e w' ⟨v, he, hn⟩ => by subst he; exact hn
        · rename_i g fs hg
          have hf := av_den hr f
          rw [hg] at hf
          simp only [Den] at hf
          obtain ⟨cvs, hf, hcd⟩ := hf
          obtain ⟨fn, e1, e2, e3⟩ : Enterable P g := by obtain ⟨_, _, ⟨he, _⟩, _⟩ := h; exact he
          have hd : Dens ρ (fs ++ args.toList.map (av st)) (cvs ++ args.toList.map a.eval) := hcd.append (dens_map (av_den hr) _)
          have hc := callVC_sound h hr hd (fun v w' => NextOk w0 L ρ K w true (a.put dst v) w') (fun x H' ρ' v w' k1 k2 k3 => ⟨ρ', _, k1, k3.put dst k2, fun h => by cases h⟩)
          have harr : (cvs.toArray ++ args.map a.eval) = (cvs ++ args.toList.map a.eval).toArray := by rw [← Array.toList_inj]; simp
          unfold Oper.wp
          have hrun : (execOp a.eval ⟨dst, .call ⟨.value f, args, argTypes⟩, type, pos, after, guard⟩).run P w = .ok (.enter g (cvs ++ args.toList.map a.eval).toArray) w := by
            rw [← harr]
            simp only [execOp, resolve, Deferred.ofValue, hf, Sem.run_bind, Sem.run_pure, Result.andThen_ok, invoke, callFunc, program, Sem.run, e1, e2, e3, Bool.false_eq_true, if_false, Array.append_empty]
          rw [hrun]
          exact hc.mono fun e w' ⟨v, he, hn⟩ => by subst he; exact hn
        · exact h.elim
      · exact h.elim
end
end Go.Fw

namespace Go.Fw
open Go Go.RowKit

def nthOp : List Oper → Nat → Option Oper
  | [], _ => none
  | o :: _, 0 => some o
  | _ :: r, n + 1 => nthOp r n
theorem nthOp_eq : ∀ (l : List Oper) (n : Nat), nthOp l n = l[n]?
  | [], _ => by simp [nthOp]
  | o :: r, 0 => by simp [nthOp]
  | o :: r, n + 1 => by simp [nthOp, nthOp_eq r n]

/-- A test: told apart by tst_in. -/
def tst (b : Bool) (p q : Prop) : Prop := Bool.rec (motive := fun _ => Prop) q p b
theorem tst_in {b : Bool} {p q : Prop} (h1 : b = true → p) (h2 : b = false → q) : @Bool.rec (fun _ => Prop) q p b := by cases b; exact h2 rfl; exact h1 rfl
theorem tst_true (p q : Prop) : tst true p q = p := rfl
theorem tst_false (p q : Prop) : tst false p q = q := rfl

def guardDst (all : List Oper) (j : Nat) : Option Tmp := match nthOp all j with | some o => o.dst | none => none

/-- One operation, and then ih. By recursors that are spelled out: what is left over reads the same wherever it is worked out. -/
def vcOne (P : Program) (C : Cfg) (rg : Nat) (all : List Oper) (o : Oper) (ih : St → (St → Prop) → Prop) : St → (St → Prop) → Prop := fun st K =>
    match o.guard with
    | none => opVC P C rg st o fun st' => ih st' K
    | some (j, want) =>
      (match guardDst all j with
       | some t =>
         (match slot st.sl t with
          | .bool b =>
            (match st with | ⟨sl, hp⟩ => tst b (forceL (setAt sl t (.bool true)) fun sl' => (match want with
               | true => opVC P C rg ⟨sl', hp⟩ o fun st' => ih st' K
               | false => St.go sl' hp o.dst (.tup []) fun st' => ih st' K)) (forceL (setAt sl t (.bool false)) fun sl' => (match want with
               | false => opVC P C rg ⟨sl', hp⟩ o fun st' => ih st' K
               | true => St.go sl' hp o.dst (.tup []) fun st' => ih st' K)))
          | .tup [] => (match st with | ⟨sl, hp⟩ => St.go sl hp o.dst (.tup []) fun st' => ih st' K)
          | _ => False)
       | none => False)
def vcOps (P : Program) (C : Cfg) (rg : Nat) (all : List Oper) (l : List Oper) : St → (St → Prop) → Prop :=
  List.rec (motive := fun _ => St → (St → Prop) → Prop) (fun st K => K st) (fun o _ ih => vcOne P C rg all o ih) l
theorem vcOps_cons (P : Program) (C : Cfg) (rg : Nat) (all : List Oper) (o : Oper) (rest : List Oper) (st : St) (K : St → Prop) : vcOps P C rg all (o :: rest) st K = vcOne P C rg all o (vcOps P C rg all rest) st K := rfl

section
variable {P : Program} {C : Cfg} {w0 : World} {L : Nat → Prop}

theorem den_undef (ρ : Plc) : Den ρ (.tup []) undef := by simp only [Den]; exact ⟨[], rfl, by simp [Dens]⟩

theorem slot_bool {ρ : Plc} {st : St} {a : Act} {w : World} (hr : Rep w0 L ρ st a w) {t : Nat} {b : Bool} (h : slot st.sl t = .bool b) : a.tmps[t]? = some (.bool b) := by
  have := slot_den hr.slots t
  rw [h] at this
  simp only [Den] at this
  rw [Array.getD_eq_getD_getElem?] at this
  cases ht : a.tmps[t]? with
  | none => rw [ht] at this; simp [undef] at this
  | some v => rw [ht] at this; simp at this; rw [this]

theorem slot_undef {ρ : Plc} {st : St} {a : Act} {w : World} (hr : Rep w0 L ρ st a w) {t : Nat} (h : slot st.sl t = .tup []) : a.tmps[t]? = none ∨ a.tmps[t]? = some undef := by
  have := slot_den hr.slots t
  rw [h] at this
  simp only [Den, Dens] at this
  obtain ⟨vs, hv, rfl⟩ := this
  rw [Array.getD_eq_getD_getElem?] at hv
  cases ht : a.tmps[t]? with
  | none => exact .inl rfl
  | some v => rw [ht] at hv; simp at hv; right; rw [hv]; rfl

theorem yielded_of {all : List Oper} {tmps : Array Value} {j t : Nat} (h : guardDst all j = some t) : yielded all.toArray tmps j = (match tmps[t]? with | some (.bool b) => some b | _ => none) := by
  unfold guardDst at h
  split at h
  · rename_i o ho
    rw [nthOp_eq] at ho
    simp only [yielded, List.getElem?_toArray, ho, Option.bind_some, h]
    cases tmps[t]? with
    | none => rfl
    | some v => cases v <;> rfl
  · cases h

theorem Rep.lit {ρ : Plc} {st : St} {a : Act} {w : World} (hr : Rep w0 L ρ st a w) {t : Nat} {b : Bool} (h : slot st.sl t = .bool b) : Rep w0 L ρ { st with sl := setAt st.sl t (.bool b) } a w := by
  have e : setAt st.sl t (.bool b) = st.sl := by
    rw [setAt_eq]
    rw [slot_eq, List.getD_eq_getElem?_getD] at h
    cases hl : st.sl[t]? with
    | none => rw [List.set_eq_of_length_le (List.getElem?_eq_none_iff.1 hl)]
    | some x => rw [hl] at h; simp at h; exact set_self (by rw [hl, h])
  rw [e]; exact hr

/-- The places of ρ0 stand ahead of all later ones. -/
def Ext (ρ0 ρ : Plc) : Prop := ∃ r, ρ = ρ0 ++ r
theorem Ext.app {ρ0 ρ : Plc} (h : Ext ρ0 ρ) (r : Plc) : Ext ρ0 (ρ ++ r) := by obtain ⟨s, rfl⟩ := h; exact ⟨s ++ r, by simp⟩

/-- Where it is asked (q): the world is as it was, but for draws. -/
def Tr (q : Bool) (w0 w : World) : Prop := q = true → ∃ n, w = w0.drewN n
theorem Tr.go {q : Bool} {w0 w w' : World} (h : Tr q w0 w) (h' : q = true → ∃ n, w' = w.drewN n) : Tr q w0 w' := fun hq => by
  obtain ⟨n, rfl⟩ := h hq
  obtain ⟨k, rfl⟩ := h' hq
  exact ⟨n + k, by simp only [World.drewN]; congr 1; omega⟩

def noEff (q : Nat → Bool) (l : List Oper) : Bool := l.all fun o => !isEff q o

/-- A region, in the text's order. -/
theorem vcOps_sound (hT : TOk P C.T) {rg : Nat} {all : List Oper} {Q : Exit → Act → World → Prop} {K : St → Prop} {ρ0 : Plc}
    {qq : Bool}
    (hQ : ∀ st' ρ' a' w', K st' → Rep w0 L ρ' st' a' w' → Ext ρ0 ρ' → Tr qq w0 w' → Q .normal a' w') : ∀ (l : List Oper) (ρ : Plc) (st : St) (a : Act) (w : World), (qq = true → noEff C.q l = true) → vcOps P C rg all l st K → Rep w0 L ρ st a w → Ext ρ0 ρ → Tr qq w0 w → wpList P all.toArray Q l a w
  | [], ρ, st, a, w, _, h, hr, hx, ht => hQ st ρ a w h hr hx ht
  | o :: rest, ρ, st, a, w, hne, h, hr, hx, htr => by
    have hne1 : qq = true → isEff C.q o = false := fun hq => by have := hne hq; simp only [noEff, List.all_cons, Bool.and_eq_true, Bool.not_eq_true'] at this; exact this.1
    have hne2 : qq = true → noEff C.q rest = true := fun hq => by have := hne hq; simp only [noEff, List.all_cons, Bool.and_eq_true] at this; exact this.2
    have run : ∀ (st : St), Rep w0 L ρ st a w → opVC P C rg st o (fun st' => vcOps P C rg all rest st' K) → o.wp P a w (wpList P all.toArray Q rest) Q := fun st hr h =>
      Oper.wp_mono (fun a' w' ⟨r, st', h1, h2, h3⟩ => vcOps_sound hT hQ rest (ρ ++ r) st' a' w' hne2 h1 h2 (hx.app r) (htr.go fun hq => h3 (hne1 hq))) (opVC_sound hT h hr Q)
    rw [vcOps_cons] at h; unfold vcOne at h
    unfold wpList
    cases hg : o.guard with
    | none =>
      rw [hg] at h
      rw [if_pos (by simp [Region.wanted, hg])]
      exact .inl (run st hr h)
    | some jw =>
      obtain ⟨j, want⟩ := jw
      rw [hg] at h
      simp only [forceL_eq, St.go_eq] at h
      split at h
      · rename_i t ht
        have hy := yielded_of (tmps := a.tmps) ht
        split at h
        · rename_i b hb
          have hsb := slot_bool hr hb
          rw [hsb] at hy
          simp only at hy
          have hl := hr.lit hb
          cases b <;> cases want <;> simp only [tst_true, tst_false] at h
          · rw [if_pos (by simp [Region.wanted, hg, hy])]; exact .inl (run _ hl h)
          · rw [if_neg (by simp [Region.wanted, hg, hy])]; exact vcOps_sound hT hQ rest ρ _ _ _ hne2 h (hl.put o.dst (den_undef ρ)) hx htr
          · rw [if_neg (by simp [Region.wanted, hg, hy])]; exact vcOps_sound hT hQ rest ρ _ _ _ hne2 h (hl.put o.dst (den_undef ρ)) hx htr
          · rw [if_pos (by simp [Region.wanted, hg, hy])]; exact .inl (run _ hl h)
        · rename_i hb
          have hy2 : yielded all.toArray a.tmps j = none := by
            rw [hy]
            rcases slot_undef hr hb with e | e <;> rw [e] <;> rfl
          rw [if_neg (by simp [Region.wanted, hg, hy2])]
          exact vcOps_sound hT hQ rest ρ _ _ _ hne2 h (hr.put o.dst (den_undef ρ)) hx htr
        · exact h.elim
      · exact h.elim

theorem vcOps_append {rg : Nat} {all : List Oper} {K : St → Prop} (l2 : List Oper) : ∀ (l1 : List Oper) (st : St), vcOps P C rg all (l1 ++ l2) st K = vcOps P C rg all l1 st (fun st' => vcOps P C rg all l2 st' K)
  | [], st => rfl
  | o :: l1, st => by simp only [List.cons_append, vcOps_cons, vcOne, vcOps_append l2 l1]

theorem opVC_plain (hT : TOk P C.T) {rg : Nat} {o : Oper} {K : St → Prop} {ρ : Plc} {st : St} {a : Act} {w : World} (h1 : isEff C.q o = false) (h2 : isQ C.q o = false) (h : opVC P C rg st o K) (hr : Rep w0 L ρ st a w) :
    ∃ x v, K (st.put o.dst x) ∧ Den ρ x v ∧ Yields P o a w v := by
  unfold opVC at h
  rw [h2] at h
  simp only [h1, St.go_eq] at h
  obtain ⟨x, hk, hs⟩ := evOp_sound hT h
  obtain ⟨v, hv, hy⟩ := hs w0 L ρ a w hr
  exact ⟨x, v, hk, hv, hy⟩

/-- Plain operations, in a region that draws its order. -/
theorem vcOps_still (hT : TOk P C.T) {rg : Nat} {all : List Oper} {Q : Act → Prop} {K : St → Prop} {ρ : Plc} {w : World}
    (hQ : ∀ st' a', K st' → Rep w0 L ρ st' a' w → Q a') : ∀ (l : List Oper) (st : St) (a : Act), l.all (fun o => !isEff C.q o && !isQ C.q o) = true → vcOps P C rg all l st K → Rep w0 L ρ st a w → wpStill P all.toArray w Q l a
  | [], st, a, _, h, hr => hQ st a h hr
  | o :: rest, st, a, hp, h, hr => by
    simp only [List.all_cons, Bool.and_eq_true, Bool.not_eq_true'] at hp
    have hrest : rest.all (fun o => !isEff C.q o && !isQ C.q o) = true := by simpa using hp.2
    have run : ∀ (st : St), Rep w0 L ρ st a w → opVC P C rg st o (fun st' => vcOps P C rg all rest st' K) → o.still P a w (wpStill P all.toArray w Q rest) := fun st hr h => by
      obtain ⟨x, v, hk, hv, hy⟩ := opVC_plain hT hp.1.1 hp.1.2 h hr
      unfold Oper.still
      rw [hy w rfl, Oper.stillUpon_value]
      exact vcOps_still hT hQ rest _ _ hrest hk (hr.put o.dst hv)
    rw [vcOps_cons] at h; unfold vcOne at h
    unfold wpStill
    cases hg : o.guard with
    | none =>
      rw [hg] at h
      rw [if_pos (by simp [Region.wanted, hg])]
      exact run st hr h
    | some jw =>
      obtain ⟨j, want⟩ := jw
      rw [hg] at h
      simp only [forceL_eq, St.go_eq] at h
      split at h
      · rename_i t ht
        have hy := yielded_of (tmps := a.tmps) ht
        split at h
        · rename_i b hb
          have hsb := slot_bool hr hb
          rw [hsb] at hy
          simp only at hy
          have hl := hr.lit hb
          cases b <;> cases want <;> simp only [tst_true, tst_false] at h
          · rw [if_pos (by simp [Region.wanted, hg, hy])]; exact run _ hl h
          · rw [if_neg (by simp [Region.wanted, hg, hy])]; exact vcOps_still hT hQ rest _ _ hrest h (hl.put o.dst (den_undef ρ))
          · rw [if_neg (by simp [Region.wanted, hg, hy])]; exact vcOps_still hT hQ rest _ _ hrest h (hl.put o.dst (den_undef ρ))
          · rw [if_pos (by simp [Region.wanted, hg, hy])]; exact run _ hl h
        · rename_i hb
          have hy2 : yielded all.toArray a.tmps j = none := by
            rw [hy]
            rcases slot_undef hr hb with e | e <;> rw [e] <;> rfl
          rw [if_neg (by simp [Region.wanted, hg, hy2])]
          exact vcOps_still hT hQ rest _ _ hrest h (hr.put o.dst (den_undef ρ))
        · exact h.elim
      · exact h.elim

/-- Operations and calls that only look, in a region that draws its order. -/
theorem vcOps_quiet (hT : TOk P C.T) {rg : Nat} {all : List Oper} {Q : Act → Prop} {K : St → Prop} {ρ : Plc} {w : World}
    (hQ : ∀ st' a', K st' → Rep w0 L ρ st' a' w → Q a') : ∀ (l : List Oper) (st : St) (a : Act), noEff C.q l = true → vcOps P C rg all l st K → Rep w0 L ρ st a w → wpQuiet P all.toArray (fun w' => ∃ n, w' = w.drewN n) Q l a
  | [], st, a, _, h, hr => hQ st a h hr
  | o :: rest, st, a, hp, h, hr => by
    simp only [noEff, List.all_cons, Bool.and_eq_true, Bool.not_eq_true'] at hp
    have hrest : noEff C.q rest = true := hp.2
    have run : ∀ (st : St), Rep w0 L ρ st a w → opVC P C rg st o (fun st' => vcOps P C rg all rest st' K) → o.quiet P a (fun w' => ∃ n, w' = w.drewN n) (wpQuiet P all.toArray (fun w' => ∃ n, w' = w.drewN n) Q rest) := fun st hr h => by
      by_cases hq : isQ C.q o = true
      · obtain ⟨g, args, tys, ho, he, hc⟩ := opVC_q hq h
        obtain ⟨hen, x, v, hk, hd, hcall⟩ := qcall_sound hc hr (dens_map (av_den hr) _)
        refine ⟨v, ?_, vcOps_quiet hT hQ rest _ _ hrest hk (hr.put o.dst hd)⟩
        rintro w' ⟨n, rfl⟩
        unfold Oper.quietAt
        rw [qcall_run ho hen]
        have earr : args.map a.eval = (args.toList.map a.eval).toArray := by rw [← Array.toList_inj]; simp
        rw [earr]
        refine ⟨rfl, (hcall n).mono fun e w' ⟨h1, k, h2⟩ => ⟨h1, n + k, ?_⟩⟩
        rw [h2]; simp only [World.drewN]; congr 1; omega
      · obtain ⟨x, v, hk, hv, hy⟩ := opVC_plain hT hp.1 (by simpa using hq) h hr
        refine ⟨v, ?_, vcOps_quiet hT hQ rest _ _ hrest hk (hr.put o.dst hv)⟩
        rintro w' ⟨n, rfl⟩
        unfold Oper.quietAt
        rw [hy (w.drewN n) rfl]
        exact ⟨rfl, rfl⟩
    rw [vcOps_cons] at h; unfold vcOne at h
    unfold wpQuiet
    cases hg : o.guard with
    | none =>
      rw [hg] at h
      rw [if_pos (by simp [Region.wanted, hg])]
      exact run st hr h
    | some jw =>
      obtain ⟨j, want⟩ := jw
      rw [hg] at h
      simp only [forceL_eq, St.go_eq] at h
      split at h
      · rename_i t ht
        have hy := yielded_of (tmps := a.tmps) ht
        split at h
        · rename_i b hb
          have hsb := slot_bool hr hb
          rw [hsb] at hy
          simp only at hy
          have hl := hr.lit hb
          cases b <;> cases want <;> simp only [tst_true, tst_false] at h
          · rw [if_pos (by simp [Region.wanted, hg, hy])]; exact run _ hl h
          · rw [if_neg (by simp [Region.wanted, hg, hy])]; exact vcOps_quiet hT hQ rest _ _ hrest h (hl.put o.dst (den_undef ρ))
          · rw [if_neg (by simp [Region.wanted, hg, hy])]; exact vcOps_quiet hT hQ rest _ _ hrest h (hl.put o.dst (den_undef ρ))
          · rw [if_pos (by simp [Region.wanted, hg, hy])]; exact run _ hl h
        · rename_i hb
          have hy2 : yielded all.toArray a.tmps j = none := by
            rw [hy]
            rcases slot_undef hr hb with e | e <;> rw [e] <;> rfl
          rw [if_neg (by simp [Region.wanted, hg, hy2])]
          exact vcOps_quiet hT hQ rest _ _ hrest h (hr.put o.dst (den_undef ρ))
        · exact h.elim
      · exact h.elim

/-- How many operations stand ahead of the first that makes, writes or calls. -/
def effIdx (q : Nat → Bool) : List Oper → Nat
  | [] => 0
  | o :: r => if !isEff q o && !isQ q o then effIdx q r + 1 else 0

/-- A region whose order may be drawn, without harm. -/
def regionB (q : Nat → Bool) (ops : Array Oper) (draw : Bool) : Bool :=
  !draw || (if noEff q ops.toList then Region.lexB .any ops else Region.lexTailB .any ops (effIdx q ops.toList))

theorem effIdx_pure (q : Nat → Bool) : ∀ l : List Oper, (l.take (effIdx q l)).all (fun o => !isEff q o && !isQ q o) = true
  | [] => rfl
  | o :: r => by
    unfold effIdx
    by_cases h : (!isEff q o && !isQ q o) = true
    · simp only [h, if_true, List.take_succ_cons, List.all_cons, effIdx_pure q r]; simp
    · simp [h]

theorem region_sound (hT : TOk P C.T) (hm : P.follows .mixedOrders = true) {rg : Nat} {ops : Array Oper} {draw : Bool} {Q : Exit → Act → World → Prop} {K : St → Prop} {ρ0 ρ : Plc} {st : St} {a : Act} {w : World} {qq : Bool} (hB : regionB C.q ops draw = true) (hne : qq = true → noEff C.q ops.toList = true)
    (h : vcOps P C rg ops.toList ops.toList st K) (hr : Rep w0 L ρ st a w) (hx : Ext ρ0 ρ) (htr : Tr qq w0 w) (hQ : ∀ st' ρ' a' w', K st' → Rep w0 L ρ' st' a' w' → Ext ρ0 ρ' → Tr qq w0 w' → Q .normal a' w') : (Code.region rg ops draw).wp P Q a w := by
  obtain ⟨l, rfl⟩ : ∃ l : List Oper, ops = l.toArray := ⟨ops.toList, by simp⟩
  have e : l.toArray.toList = l := by simp
  rw [e] at h hne
  cases draw with
  | false => exact wp_region_lit (vcOps_sound hT hQ l ρ st a w hne h hr hx htr)
  | true =>
    have hr1 : Rep w0 L ρ st a { w with drawn := w.drawn + 1 } := hr.drewN 1
    have htr1 : Tr qq w0 { w with drawn := w.drawn + 1 } := htr.go fun _ => ⟨1, rfl⟩
    simp only [regionB, Bool.not_true, Bool.false_or] at hB
    split at hB
    · rename_i he
      refine wp_region_quiet_lit hm hB (vcOps_quiet hT (fun st' a' hk hr' => ?_) l st a he h hr)
      rintro w' ⟨n, rfl⟩
      exact hQ st' ρ a' _ hk (hr'.drewN n) hx (htr.go fun _ => ⟨n, rfl⟩)
    · rename_i he
      refine wp_region_still_tail (effIdx C.q l) hm hB ?_
      rw [show l = l.take (effIdx C.q l) ++ l.drop (effIdx C.q l) by simp] at h
      rw [vcOps_append] at h
      simp only [List.take_append_drop] at h
      exact vcOps_still hT (fun st' a' hk hr' => vcOps_sound hT hQ _ ρ st' a' _ (fun hq => absurd (hne hq) he) hk hr' hx htr1) _ st a (effIdx_pure C.q l) h hr1

/-- The operations in the order of a plan. -/
def vpOp (P : Program) (C : Cfg) (rg : Nat) (all : List Oper) (k : Nat) (ih : St → (St → Prop) → Prop) : St → (St → Prop) → Prop := fun st K =>
  match nthOp all k with | some o => vcOps P C rg all [o] st fun st' => ih st' K | none => False
def vcPlan (P : Program) (C : Cfg) (rg : Nat) (all : List Oper) (p : Plan) : St → (St → Prop) → Prop :=
  Plan.rec (motive := fun _ => St → (St → Prop) → Prop) (fun st K => K st) (fun _ _ => True) (fun k _ ih => vpOp P C rg all k ih) (fun k _ _ ih jh => fun st K => vpOp P C rg all k ih st K ∧ jh st K) p
theorem vcPlan_op (P : Program) (C : Cfg) (rg : Nat) (all : List Oper) (k : Nat) (r : Plan) (st : St) (K : St → Prop) : vcPlan P C rg all (.op k r) st K = (match nthOp all k with | some o => vcOps P C rg all [o] st fun st' => vcPlan P C rg all r st' K | none => False) := rfl
theorem vcPlan_alt (P : Program) (C : Cfg) (rg : Nat) (all : List Oper) (k : Nat) (r p : Plan) (st : St) (K : St → Prop) : vcPlan P C rg all (.alt k r p) st K = ((match nthOp all k with | some o => vcOps P C rg all [o] st fun st' => vcPlan P C rg all r st' K | none => False) ∧ vcPlan P C rg all p st K) := rfl

def waitsT (ops : Array Oper) : Nat → Nat → Nat → Bool
  | 0, _, _ => false
  | f + 1, j, k => match ops[j]? with | some o => o.after.any (fun e => Region.binds .any e && (e.on == k || waitsT ops f e.on k)) | none => false

def blindB (o : Oper) : Bool := match o.op with | .move _ => true | .assign _ => true | _ => false
def plainAt (q : Nat → Bool) (ops : Array Oper) (i : Nat) : Bool := match ops[i]? with | some o => !isEff q o && !isQ q o | none => true

def takeB (q : Nat → Bool) (ops : Array Oper) (listed : Array Bool) (k : Nat) : Bool :=
  match ops[k]? with
  | none => false
  | some o => decide (Region.ready .any ops listed = [k]) || ((Region.ready .any ops listed).contains k && Region.free .any ops listed k && plainAt q ops k && (blindB o || (List.range ops.size).all fun j => listed.getD j true || plainAt q ops j || waitsT ops ops.size j k))

def keysOf : Plan → List Nat
  | .alt k _ p => k :: keysOf p
  | _ => []

/-- The plan is one of the region. m: within a choice. -/
def planB (q : Nat → Bool) (ops : Array Oper) : Plan → Bool → Nat → Array Bool → Bool
  | .done, m, _, listed => !m && (Region.ready .any ops listed).isEmpty
  | .fin, m, _, _ => m
  | .op k r, m, f + 1, listed => !m && takeB q ops listed k && planB q ops r false f (listed.setIfInBounds k true)
  | .alt k r p, m, f + 1, listed => (m || (Region.ready .any ops listed).all fun i => (k :: keysOf p).contains i) && (m || !(Region.ready .any ops listed).isEmpty) && (Region.ready .any ops listed).contains k && planB q ops r false f (listed.setIfInBounds k true) && planB q ops p true (f + 1) listed
  | _, _, _, _ => false

/-- One operation. -/
theorem vcStep_sound (hT : TOk P C.T) {rg : Nat} {all : List Oper} {Q : Exit → Act → World → Prop} {K : St → Prop} {o : Oper} {ρ : Plc} {st : St} {a : Act} {w : World}
    (h : vcOps P C rg all [o] st K) (hr : Rep w0 L ρ st a w) :
    (Region.wanted o (yielded all.toArray a.tmps) = true ∧ o.wp P a w (NextOk w0 L ρ K w (isEff C.q o)) Q) ∨ (Region.wanted o (yielded all.toArray a.tmps) = false ∧ NextOk w0 L ρ K w (isEff C.q o) (a.put o.dst undef) w) := by
  have fin : ∀ st', K st' → Rep w0 L ρ st' (a.put o.dst undef) w → NextOk w0 L ρ K w (isEff C.q o) (a.put o.dst undef) w := fun st' hk hr' => ⟨[], st', hk, by rw [List.append_nil]; exact hr', fun _ => ⟨0, rfl⟩⟩
  rw [vcOps_cons] at h; unfold vcOne at h
  cases hg : o.guard with
  | none =>
    rw [hg] at h
    exact .inl ⟨by simp [Region.wanted, hg], opVC_sound hT h hr Q⟩
  | some jw =>
    obtain ⟨j, want⟩ := jw
    rw [hg] at h
    simp only [forceL_eq, St.go_eq] at h
    split at h
    · rename_i t ht
      have hy := yielded_of (tmps := a.tmps) ht
      split at h
      · rename_i b hb
        have hsb := slot_bool hr hb
        rw [hsb] at hy
        simp only at hy
        have hl := hr.lit hb
        cases b <;> cases want <;> simp only [tst_true, tst_false] at h
        · exact .inl ⟨by simp [Region.wanted, hg, hy], opVC_sound hT h hl Q⟩
        · exact .inr ⟨by simp [Region.wanted, hg, hy], fin _ h (hl.put o.dst (den_undef ρ))⟩
        · exact .inr ⟨by simp [Region.wanted, hg, hy], fin _ h (hl.put o.dst (den_undef ρ))⟩
        · exact .inl ⟨by simp [Region.wanted, hg, hy], opVC_sound hT h hl Q⟩
      · rename_i hb
        have hy2 : yielded all.toArray a.tmps j = none := by
          rw [hy]
          rcases slot_undef hr hb with e | e <;> rw [e] <;> rfl
        exact .inr ⟨by simp [Region.wanted, hg, hy2], fin _ h (hr.put o.dst (den_undef ρ))⟩
      · exact h.elim
    · exact h.elim

/-- Whatever order is drawn; of plain operations it is known that they leave the world alone. -/
def wpAnyG (P : Program) (q : Nat → Bool) (ops : Array Oper) (Q : Exit → Act → World → Prop) : Nat → Array Bool → Act → World → Prop
  | 0, listed, a, w => Region.ready .any ops listed = [] ∧ Q .normal a w
  | f + 1, listed, a, w => (Region.ready .any ops listed = [] → Q .normal a w) ∧ ∀ i ∈ Region.ready .any ops listed,
      (plainAt q ops i = false → wpOp P ops Q i (fun a' w' => wpAnyG P q ops Q f (listed.setIfInBounds i true) a' w') a w) ∧
      (plainAt q ops i = true → stOp P ops w i (fun a' => wpAnyG P q ops Q f (listed.setIfInBounds i true) a' w) a)

theorem wpAny_of_G {q : Nat → Bool} {ops : Array Oper} {Q : Exit → Act → World → Prop} : ∀ (f : Nat) (listed : Array Bool) (a : Act) (w : World), wpAnyG P q ops Q f listed a w → wpAny P .any ops Q f listed a w
  | 0, _, _, _, h => h
  | f + 1, listed, a, w, h => ⟨h.1, fun i hi => by
      obtain ⟨h1, h2⟩ := h.2 i hi
      cases hp : plainAt q ops i with
      | false => exact wpOp_mono (fun a' w' h' => wpAny_of_G f _ a' w' h') (h1 hp)
      | true => exact wpOp_of_stOp (fun a' h' => wpAny_of_G f _ a' w h') (h2 hp)⟩

def ClosedL (ops : Array Oper) (listed : Array Bool) : Prop := ∀ j oj, ops[j]? = some oj → listed.getD j false = true → ∀ e ∈ oj.after, Region.binds .any e = true → listed.getD e.on false = true

theorem ClosedL.set {ops : Array Oper} {listed : Array Bool} {i : Nat} (h : ClosedL ops listed) (hi : i ∈ Region.ready .any ops listed) : ClosedL ops (listed.setIfInBounds i true) := by
  obtain ⟨_, oi, hoi, hall⟩ := mem_ready.1 hi
  intro j oj hj hl e he hb
  by_cases hij : i = j
  · subst hij
    have : oj = oi := Option.some.inj (hj.symm.trans hoi)
    subst this
    exact getD_set_true (hall e he hb)
  · rw [getD_set_ne false hij] at hl
    exact getD_set_true (h j oj hj hl e he hb)

theorem unlisted_both {listed : Array Bool} {i : Nat} (h : listed.getD i true = false) : listed.getD i false = false := by
  rcases Nat.lt_or_ge i listed.size with h' | h'
  · simp [h'] at h ⊢; exact h
  · simp [Array.getElem?_eq_none h'] at h

theorem waitsT_no {ops : Array Oper} {listed : Array Bool} {k : Nat} (hc : ClosedL ops listed) (hk : listed.getD k true = false) : ∀ (f j : Nat),
    (∀ oj, ops[j]? = some oj → ∀ e ∈ oj.after, Region.binds .any e = true → listed.getD e.on false = true) → waitsT ops f j k = false
  | 0, _, _ => rfl
  | f + 1, j, hj => by
    unfold waitsT
    split
    · rename_i o ho
      rw [Bool.eq_false_iff]
      intro h
      obtain ⟨e, he, hb⟩ := Array.any_eq_true'.1 h
      simp only [Bool.and_eq_true, Bool.or_eq_true, beq_iff_eq] at hb
      have hl := hj o ho e he hb.1
      rcases hb.2 with h1 | h1
      · rw [h1, unlisted_both hk] at hl; cases hl
      · rw [waitsT_no hc hk f e.on (fun oj hoj e' he' hb' => hc e.on oj hoj hl e' he' hb')] at h1; cases h1
    · rfl

theorem blind_yields {ops : Array Oper} {o : Oper} {v : Value} {a : Act} {w : World} (hb : blindB o = true) (h : YieldsAt P ops w o v a) : Go.Yields P ops o v a := by
  have e : ∀ w, (execOp a.eval o).run P w = .ok (.value (match o.op with | .move x => a.eval x | .assign x => a.eval x | _ => undef)) w := fun w => by
    obtain ⟨dst, op, type, pos, after, guard⟩ := o
    cases op <;> simp only [blindB] at hb <;> first | (cases hb; done) | rfl
  rcases h with ⟨hw, h | ⟨h, _⟩ | ⟨f, args, h, _⟩⟩ | ⟨hw, h⟩
  · refine .inl ⟨hw, fun w' => ?_⟩
    rw [e] at h ⊢
    simp only [Result.ok.injEq, Next.value.injEq, and_true] at h
    rw [h]
  · rw [e] at h; cases h
  · rw [e] at h; cases h
  · exact .inr ⟨hw, h⟩

theorem firstG {q : Nat → Bool} {ops : Array Oper} {Q : Exit → Act → World → Prop} {i : Nat} {oi : Oper} {v : Value} (hi : ops[i]? = some oi) (hsel : ∀ (j : Nat) (o : Oper) cs b, ops[j]? = some o → o.op ≠ .select cs b)
    (hQ : ∀ c a w, ¬ Q (.panic c) a w) (hp : plainAt q ops i = true) :
    ∀ (fuel : Nat) (listed : Array Bool) (a : Act) (w : World), ClosedL ops listed →
      (∀ j oj, ops[j]? = some oj → j ≠ i → listed.getD j true = false → (∀ e ∈ oj.after, Region.binds .any e = true → e.on ≠ i) → oi.apart ops oj = true) →
      (blindB oi = true ∨ ∀ j, j < ops.size → listed.getD j true = false → plainAt q ops j = false → waitsT ops ops.size j i = true) →
      i ∈ Region.ready .any ops listed → YieldsAt P ops w oi v a →
      wpAnyG P q ops Q fuel (listed.setIfInBounds i true) (a.put oi.dst v) w → wpAnyG P q ops Q (fuel + 1) listed a w := by
  intro fuel
  induction fuel with
  | zero =>
    intro listed a w hc _ _ hr hy H
    refine ⟨fun h => (by rw [h] at hr; cases hr), fun j hj => ?_⟩
    by_cases hji : j = i
    · subst hji; exact ⟨fun h => (by rw [hp] at h; cases h), fun _ => hy.stOp hi H⟩
    · have := ready_mono hj hji
      rw [H.1] at this
      cases this
  | succ fuel ih =>
    intro listed a w hc hfree hwt hr hy H
    have hiun := (mem_ready.1 hr).1
    refine ⟨fun h => (by rw [h] at hr; cases hr), fun j hj => ?_⟩
    by_cases hji : j = i
    · subst hji; exact ⟨fun h => (by rw [hp] at h; cases h), fun _ => hy.stOp hi H⟩
    · obtain ⟨h1e, h1p⟩ := H.2 j (ready_mono hj hji)
      obtain ⟨hjun, oj, hoj, hall⟩ := mem_ready.1 hj
      have hnot : ∀ e ∈ oj.after, Region.binds .any e = true → e.on ≠ i := fun e he hb heq => by
        have h1 := hall e he hb
        rw [heq, unlisted_both hiun] at h1
        cases h1
      have hap := hfree j oj hoj hji hjun hnot
      have hfree' : ∀ k ok, ops[k]? = some ok → k ≠ i → (listed.setIfInBounds j true).getD k true = false →
          (∀ e ∈ ok.after, Region.binds .any e = true → e.on ≠ i) → oi.apart ops ok = true := fun k ok hk hki hun hno => by
        refine hfree k ok hk hki ?_ hno
        by_cases hjk : j = k
        · subst hjk; exact hjun
        · rw [getD_set_ne true hjk] at hun; exact hun
      have hwt' : blindB oi = true ∨ ∀ k, k < ops.size → (listed.setIfInBounds j true).getD k true = false → plainAt q ops k = false → waitsT ops ops.size k i = true := hwt.imp id fun h k hks hun hpk => by
        refine h k hks ?_ hpk
        by_cases hjk : j = k
        · subst hjk; exact hjun
        · rw [getD_set_ne true hjk] at hun; exact hun
      have hsi := fun cs b => hsel i oi cs b hi
      have hsj := fun cs b => hsel j oj cs b hoj
      refine ⟨fun hpj => ?_, fun hpj => ?_⟩
      · rcases hwt with hb | hwt
        · have h2 := wpOp_put hoj hap hsi hsj (fun c a w h => (hQ _ _ _ h).elim) (blind_yields hb hy) (h1e hpj)
          refine wpOp_mono (fun a' w' h3 => ih (listed.setIfInBounds j true) a' w' (hc.set hj) hfree' hwt' (ready_mono hr (Ne.symm hji)) ?_ ?_) h2
          · rcases h3.1 with ⟨hw, h⟩ | ⟨hw, h⟩
            · exact .inl ⟨hw, .inl (h w')⟩
            · exact .inr ⟨hw, h⟩
          · rw [Array.setIfInBounds_comm _ _ hji]
            exact h3.2
        · have h3 := waitsT_no hc hiun ops.size j (fun o' ho' => by have : o' = oj := Option.some.inj (ho'.symm.trans hoj); subst this; exact hall)
          rw [hwt j (Array.getElem?_eq_some_iff.1 hoj).1 hjun hpj] at h3
          cases h3
      · have h2 := stOp_put hoj hap hsi hsj hy (h1p hpj)
        refine stOp_mono (fun a' h3 => ih (listed.setIfInBounds j true) a' w (hc.set hj) hfree' hwt' (ready_mono hr (Ne.symm hji)) h3.1 ?_) h2
        rw [Array.setIfInBounds_comm _ _ hji]
        exact h3.2

/-- What comes up at number k. -/
def stepG (P : Program) (q : Nat → Bool) (ops : Array Oper) (Q : Exit → Act → World → Prop) (f : Nat) (listed : Array Bool) (a : Act) (w : World) (k : Nat) : Prop :=
  (plainAt q ops k = false → wpOp P ops Q k (fun a' w' => wpAnyG P q ops Q f (listed.setIfInBounds k true) a' w') a w) ∧
  (plainAt q ops k = true → stOp P ops w k (fun a' => wpAnyG P q ops Q f (listed.setIfInBounds k true) a' w) a)

theorem Ext.trans {ρ0 ρ ρ' : Plc} (h : Ext ρ0 ρ) (h' : Ext ρ ρ') : Ext ρ0 ρ' := by obtain ⟨r, rfl⟩ := h; obtain ⟨s, rfl⟩ := h'; exact ⟨r ++ s, by simp⟩

theorem step_of (hT : TOk P C.T) {rg : Nat} {all : List Oper} {Q : Exit → Act → World → Prop} {K : St → Prop} {o : Oper} {k f : Nat} {listed : Array Bool} {ρ : Plc} {st : St} {a : Act} {w : World} (ho : all.toArray[k]? = some o)
    (h : vcOps P C rg all [o] st K) (hr : Rep w0 L ρ st a w) (hK : ∀ st' ρ' a' w', K st' → Rep w0 L ρ' st' a' w' → Ext ρ ρ' → wpAnyG P C.q all.toArray Q f (listed.setIfInBounds k true) a' w') : stepG P C.q all.toArray Q f listed a w k := by
  refine ⟨fun hp => ?_, fun hp => ?_⟩
  · unfold wpOp
    simp only [ho]
    rcases vcStep_sound (Q := Q) hT h hr with ⟨hw, h1⟩ | ⟨hw, r, st', h1, h2, _⟩
    · simp only [hw, if_true]
      exact .inl (Oper.wp_mono (fun a' w' ⟨r, st', h1, h2, _⟩ => hK st' _ a' w' h1 h2 ⟨r, rfl⟩) h1)
    · simp only [hw, Bool.false_eq_true, if_false]
      exact hK st' _ _ _ h1 h2 ⟨r, rfl⟩
  · have hp' : [o].all (fun o => !isEff C.q o && !isQ C.q o) = true := by simpa [plainAt, ho] using hp
    have := vcOps_still hT (Q := fun a' => wpAnyG P C.q all.toArray Q f (listed.setIfInBounds k true) a' w) (fun st' a' hk hr' => hK st' ρ a' w hk hr' ⟨[], by simp⟩) [o] st a hp' h hr
    unfold stOp
    simp only [ho]
    unfold wpStill at this
    split at this
    · rename_i hw; simp only [hw, if_true]; exact this
    · rename_i hw; simp only [hw]; exact this

/-- Plan, walked: every order. -/
theorem plan_sound (hT : TOk P C.T) {rg : Nat} {all : List Oper} {Q : Exit → Act → World → Prop} {K : St → Prop} {ρ0 : Plc} (hsel : Region.noSelect all.toArray = true) (hQp : ∀ c a w, ¬ Q (.panic c) a w)
    (hQ : ∀ st' ρ' a' w', K st' → Rep w0 L ρ' st' a' w' → Ext ρ0 ρ' → Q .normal a' w') : ∀ (p : Plan) (m : Bool) (f : Nat) (listed : Array Bool) (ρ : Plc) (st : St) (a : Act) (w : World), planB C.q all.toArray p m f listed = true → ClosedL all.toArray listed → vcPlan P C rg all p st K → Rep w0 L ρ st a w → Ext ρ0 ρ →
    (m = false → wpAnyG P C.q all.toArray Q f listed a w) ∧ (m = true → ∀ k ∈ keysOf p, ∀ f', f = f' + 1 → stepG P C.q all.toArray Q f' listed a w k)
  | .done, m, f, listed, ρ, st, a, w, hB, hc, h, hr, hx => by
    refine ⟨fun _ => ?_, fun _ => by simp [keysOf]⟩
    simp only [planB, Bool.and_eq_true, List.isEmpty_iff] at hB
    have := hQ st ρ a w h hr hx
    cases f with
    | zero => exact ⟨hB.2, this⟩
    | succ f => exact ⟨fun _ => this, by rw [hB.2]; simp⟩
  | .fin, m, f, listed, ρ, st, a, w, hB, hc, h, hr, hx => by
    refine ⟨fun hm => ?_, fun _ => by simp [keysOf]⟩
    subst hm
    simp [planB] at hB
  | .op k r, m, 0, listed, ρ, st, a, w, hB, hc, h, hr, hx => by simp [planB] at hB
  | .alt k r p, m, 0, listed, ρ, st, a, w, hB, hc, h, hr, hx => by simp [planB] at hB
  | .op k r, m, f + 1, listed, ρ, st, a, w, hB, hc, h, hr, hx => by
    refine ⟨fun _ => ?_, fun _ => by simp [keysOf]⟩
    simp only [planB, Bool.and_eq_true] at hB
    obtain ⟨⟨_, ht⟩, hB⟩ := hB
    simp only [vcPlan_op, vcPlan_alt] at h
    split at h
    case h_2 => exact h.elim
    rename_i o ho
    rw [nthOp_eq] at ho
    have ho' : all.toArray[k]? = some o := by simpa using ho
    have rest : k ∈ Region.ready .any all.toArray listed → ∀ ρ' st' a' w', vcPlan P C rg all r st' K → Rep w0 L ρ' st' a' w' → Ext ρ0 ρ' → wpAnyG P C.q all.toArray Q f (listed.setIfInBounds k true) a' w' := fun hrd ρ' st' a' w' h1 h2 h3 =>
      (plan_sound hT hsel hQp hQ r false f _ ρ' st' a' w' hB (hc.set hrd) h1 h2 h3).1 rfl
    have hstep : k ∈ Region.ready .any all.toArray listed → stepG P C.q all.toArray Q f listed a w k := fun hrd => step_of hT ho' h hr fun st' ρ' a' w' h1 h2 hx' => rest hrd ρ' st' a' w' h1 h2 (hx.trans hx')
    unfold takeB at ht
    simp only [ho', Bool.or_eq_true, decide_eq_true_eq] at ht
    rcases ht with ht | ht
    · refine ⟨fun h0 => (by rw [ht] at h0; cases h0), fun i hi => ?_⟩
      rw [ht] at hi
      have hik : i = k := by simpa using hi
      subst hik
      exact hstep (by rw [ht]; simp)
    · simp only [Bool.and_eq_true, Bool.or_eq_true, List.all_eq_true, List.mem_range] at ht
      obtain ⟨⟨⟨hrd, hfr⟩, hpl⟩, hbl⟩ := ht
      have hrd : k ∈ Region.ready .any all.toArray listed := by simpa using hrd
      obtain ⟨v, hy, hK⟩ := yieldsAt_of_stOp ho' ((hstep hrd).2 hpl)
      refine firstG ho' (Region.noSelect_spec hsel) hQp hpl f listed a w hc (Region.free_spec ho' hfr) ?_ hrd hy hK
      rcases hbl with hb | hb
      · exact .inl hb
      · refine .inr fun j hj hun hpj => ?_
        rcases hb j hj with (h1 | h1) | h1
        · rw [hun] at h1; cases h1
        · rw [hpj] at h1; cases h1
        · exact h1
  | .alt k r p, m, f + 1, listed, ρ, st, a, w, hB, hc, h, hr, hx => by
    simp only [planB, Bool.and_eq_true, Bool.or_eq_true] at hB
    obtain ⟨⟨⟨⟨hall, hne⟩, hrd⟩, hB1⟩, hB2⟩ := hB
    have hrd : k ∈ Region.ready .any all.toArray listed := by simpa using hrd
    rw [vcPlan_alt] at h
    obtain ⟨h, hp⟩ := h
    split at h
    case h_2 => exact h.elim
    rename_i o ho
    rw [nthOp_eq] at ho
    have ho' : all.toArray[k]? = some o := by simpa using ho
    have hstep : stepG P C.q all.toArray Q f listed a w k := step_of hT ho' h hr fun st' ρ' a' w' h1 h2 hx' =>
      (plan_sound hT hsel hQp hQ r false f _ ρ' st' a' w' hB1 (hc.set hrd) h1 h2 (hx.trans hx')).1 rfl
    have hmore := (plan_sound hT hsel hQp hQ p true (f + 1) listed ρ st a w hB2 hc hp hr hx).2 rfl
    refine ⟨fun hm => ?_, fun _ j hj f' hf => ?_⟩
    · subst hm
      simp only [Bool.false_eq_true, false_or, Bool.not_eq_true', List.isEmpty_eq_false_iff, List.all_eq_true] at hall hne
      refine ⟨fun h0 => absurd h0 hne, fun i hi => ?_⟩
      have := hall i hi
      have hi' : i = k ∨ i ∈ keysOf p := by simpa using this
      rcases hi' with rfl | hi'
      · exact hstep
      · exact hmore i hi' f rfl
    · have : f' = f := by omega
      subst this
      simp only [keysOf, List.mem_cons] at hj
      rcases hj with rfl | hj
      · exact hstep
      · exact hmore j hj f' rfl

/-- Those that do not wait for k's end. -/
def waitedB (ops : Array Oper) (k : Nat) : List Nat → List Nat
  | [] => []
  | d :: r => match waitsT ops ops.size k d with | true => waitedB ops k r | false => d :: waitedB ops k r
/-- What y looks at, and where it puts its value, x leaves alone. -/
def offO (ops : Array Oper) (x y : Oper) : Bool := match x.dst with | some d => !(y.looksAt ops).contains d && y.dst != some d | none => true
def apartD (ops : Array Oper) (k : Nat) (D : List Nat) : Bool := D.all fun d => !Nat.beq d k && (match ops[k]?, ops[d]? with | some x, some y => offO ops x y | _, _ => false)
/-- What was read early is still so. -/
def stillAt (P : Program) (ops : Array Oper) (ds : List Nat) (a : Act) (w : World) : Prop :=
  ∀ k ∈ ds, ∃ o t, ops[k]? = some o ∧ o.dst = some t ∧ t < a.tmps.size ∧ YieldsAt P ops w o (a.tmps.getD t undef) a

/-- Whatever order is drawn; of plain operations (pn) it is known that they leave the world alone; behind any other, what was read early (D) is so still. -/
def wpAnyN (P : Program) (pn : Nat → Bool) (ops : Array Oper) (Q : Exit → Act → World → Prop) : Nat → List Nat → Array Bool → Act → World → Prop
  | 0, _, listed, a, w => Region.ready .any ops listed = [] ∧ Q .normal a w
  | f + 1, D, listed, a, w => (Region.ready .any ops listed = [] → Q .normal a w) ∧ ∀ i ∈ Region.ready .any ops listed,
      (pn i = false → wpOp P ops Q i (fun a' w' => ∃ ds, (∀ d ∈ D, waitsT ops ops.size i d = true ∨ d ∈ ds) ∧ stillAt P ops ds a' w' ∧ wpAnyN P pn ops Q f ds (listed.setIfInBounds i true) a' w') a w) ∧
      (pn i = true → stOp P ops w i (fun a' => wpAnyN P pn ops Q f D (listed.setIfInBounds i true) a' w) a)

theorem wpAny_of_N {pn : Nat → Bool} {ops : Array Oper} {Q : Exit → Act → World → Prop} : ∀ (f : Nat) (D : List Nat) (listed : Array Bool) (a : Act) (w : World), wpAnyN P pn ops Q f D listed a w → wpAny P .any ops Q f listed a w
  | 0, _, _, _, _, h => h
  | f + 1, D, listed, a, w, h => ⟨h.1, fun i hi => by
      obtain ⟨h1, h2⟩ := h.2 i hi
      cases hp : pn i with
      | false => exact wpOp_mono (fun a' w' ⟨ds, _, _, h'⟩ => wpAny_of_N f ds _ a' w' h') (h1 hp)
      | true => exact wpOp_of_stOp (fun a' h' => wpAny_of_N f D _ a' w h') (h2 hp)⟩

theorem stOp_mono {ops : Array Oper} {w : World} {i : Nat} {K K' : Act → Prop} {a : Act} (h : ∀ a, K a → K' a) (hh : stOp P ops w i K a) : stOp P ops w i K' a := by
  cases hi : ops[i]? with
  | none => unfold stOp at *; simp only [hi] at *; exact h _ hh
  | some o =>
    obtain ⟨v, h1, h2⟩ := yieldsAt_of_stOp hi hh
    exact h1.stOp hi (h _ h2)

theorem wpAnyN_less {pn : Nat → Bool} {ops : Array Oper} {Q : Exit → Act → World → Prop} : ∀ (f : Nat) {D D' : List Nat} (listed : Array Bool) (a : Act) (w : World), (∀ d ∈ D, d ∈ D') → wpAnyN P pn ops Q f D' listed a w → wpAnyN P pn ops Q f D listed a w
  | 0, _, _, _, _, _, _, h => h
  | f + 1, D, D', listed, a, w, hd, h => ⟨h.1, fun i hi => by
      obtain ⟨h1, h2⟩ := h.2 i hi
      exact ⟨fun hp => wpOp_mono (fun a' w' ⟨ds, h3, h4, h5⟩ => ⟨ds, fun d hd' => h3 d (hd d hd'), h4, h5⟩) (h1 hp), fun hp => stOp_mono (fun a' h' => wpAnyN_less f _ _ _ hd h') (h2 hp)⟩⟩

theorem offO_spec {ops : Array Oper} {x y : Oper} (h : offO ops x y = true) : (∀ d, x.dst = some d → d ∉ y.looksAt ops) ∧ ∀ d, x.dst = some d → y.dst ≠ some d := by
  refine ⟨fun d hd => ?_, fun d hd => ?_⟩ <;> simp [offO, hd] at h
  · exact h.1
  · exact h.2

/-- Behind an operation that leaves alone what was read early. -/
theorem stillAt_put {ops : Array Oper} {ds : List Nat} {oi : Oper} {v : Value} {a : Act} {w : World} (hsel : ∀ (j : Nat) (o : Oper) cs b, ops[j]? = some o → o.op ≠ .select cs b) (h : stillAt P ops ds (a.put oi.dst v) w) {D : List Nat} (hD : ∀ d ∈ D, ∀ od, ops[d]? = some od → offO ops oi od = true) :
    stillAt P ops (ds.filter fun d => D.contains d) a w := by
  intro d hd
  simp only [List.mem_filter, List.contains_iff_mem] at hd
  obtain ⟨o, t, h1, h2, h3, h4⟩ := h d hd.1
  obtain ⟨g1, g2⟩ := offO_spec (hD d hd.2 o h1)
  refine ⟨o, t, h1, h2, ?_, ?_⟩
  · cases hdst : oi.dst with
    | none => rw [hdst] at h3; exact h3
    | some u => rw [hdst] at h3; simpa [Act.put] using h3
  · have e : (a.put oi.dst v).tmps.getD t undef = a.tmps.getD t undef := by
      cases hdst : oi.dst with
      | none => rfl
      | some u =>
        have hne : u ≠ t := fun e => g2 u hdst (by rw [h2, e])
        simp [Act.put, Array.getElem?_setIfInBounds_ne hne]
    rw [e] at h4
    exact h4.of_same (execOp_put o (fun cs b => hsel d o cs b h1) a oi.dst v g1).symm (wanted_put o a oi.dst v g1).symm

theorem firstN {pn : Nat → Bool} {ops : Array Oper} {Q : Exit → Act → World → Prop} {i : Nat} {oi : Oper} {v : Value} (hi : ops[i]? = some oi) (hsel : ∀ (j : Nat) (o : Oper) cs b, ops[j]? = some o → o.op ≠ .select cs b)
    (hQ : ∀ c a w, ¬ Q (.panic c) a w) (hp : pn i = true) {bl : Bool} :
    ∀ (fuel : Nat) (D D2 : List Nat) (listed : Array Bool) (a : Act) (w : World), ClosedL ops listed →
      (∀ j oj, ops[j]? = some oj → j ≠ i → listed.getD j true = false → (∀ e ∈ oj.after, Region.binds .any e = true → e.on ≠ i) → oi.apart ops oj = true) →
      (∀ d ∈ D, d ∈ D2) → (∀ d ∈ D, d ≠ i ∧ ∀ od, ops[d]? = some od → offO ops oi od = true) →
      ((bl = true ∧ Go.Yields P ops oi v a) ∨ (∀ j, j < ops.size → listed.getD j true = false → pn j = false → waitsT ops ops.size j i = true) ∨ (i ∈ D2 ∧ ∃ t, oi.dst = some t ∧ t ∉ oi.looksAt ops)) →
      i ∈ Region.ready .any ops listed → YieldsAt P ops w oi v a →
      wpAnyN P pn ops Q fuel D2 (listed.setIfInBounds i true) (a.put oi.dst v) w → wpAnyN P pn ops Q (fuel + 1) D listed a w := by
  intro fuel
  induction fuel with
  | zero =>
    intro D D2 listed a w hc _ hsub _ _ hr hy H
    refine ⟨fun h => (by rw [h] at hr; cases hr), fun j hj => ?_⟩
    by_cases hji : j = i
    · subst hji; exact ⟨fun h => (by rw [hp] at h; cases h), fun _ => hy.stOp hi H⟩
    · have := ready_mono hj hji
      rw [H.1] at this
      cases this
  | succ fuel ih =>
    intro D D2 listed a w hc hfree hsub hD hwt hr hy H
    have hiun := (mem_ready.1 hr).1
    refine ⟨fun h => (by rw [h] at hr; cases hr), fun j hj => ?_⟩
    by_cases hji : j = i
    · subst hji; exact ⟨fun h => (by rw [hp] at h; cases h), fun _ => hy.stOp hi (wpAnyN_less _ _ _ _ hsub H)⟩
    · obtain ⟨h1e, h1p⟩ := H.2 j (ready_mono hj hji)
      obtain ⟨hjun, oj, hoj, hall⟩ := mem_ready.1 hj
      have hnot : ∀ e ∈ oj.after, Region.binds .any e = true → e.on ≠ i := fun e he hb heq => by
        have h1 := hall e he hb
        rw [heq, unlisted_both hiun] at h1
        cases h1
      have hap := hfree j oj hoj hji hjun hnot
      have hfree' : ∀ k ok, ops[k]? = some ok → k ≠ i → (listed.setIfInBounds j true).getD k true = false →
          (∀ e ∈ ok.after, Region.binds .any e = true → e.on ≠ i) → oi.apart ops ok = true := fun k ok hk hki hun hno => by
        refine hfree k ok hk hki ?_ hno
        by_cases hjk : j = k
        · subst hjk; exact hjun
        · rw [getD_set_ne true hjk] at hun; exact hun
      have hwt' : (∀ k, k < ops.size → listed.getD k true = false → pn k = false → waitsT ops ops.size k i = true) → ∀ k, k < ops.size → (listed.setIfInBounds j true).getD k true = false → pn k = false → waitsT ops ops.size k i = true := fun h k hks hun hpk => by
        refine h k hks ?_ hpk
        by_cases hjk : j = k
        · subst hjk; exact hjun
        · rw [getD_set_ne true hjk] at hun; exact hun
      have hsi := fun cs b => hsel i oi cs b hi
      have hsj := fun cs b => hsel j oj cs b hoj
      obtain ⟨_, _, h3'⟩ := Oper.apart_spec hap
      have hnw : waitsT ops ops.size j i = false := waitsT_no hc hiun ops.size j (fun o' ho' => by have : o' = oj := Option.some.inj (ho'.symm.trans hoj); subst this; exact hall)
      refine ⟨fun hpj => ?_, fun hpj => ?_⟩
      · -- whatever it yields, it is put aside
        have hyF : YieldsIf P ops (fun _ => False) oi v a := hy.imp (fun h => ⟨h.1, fun _ h => h.elim⟩) id
        rcases hwt with ⟨hb, hyall⟩ | hwt | ⟨hi2, t, ht, hself⟩
        · have h2 := wpOp_put hoj hap hsi hsj (fun c a w h => (hQ _ _ _ h).elim) hyall (h1e hpj)
          refine wpOp_mono (fun a' w' ⟨hya, ds, h3, h4, h5⟩ => ?_) h2
          refine ⟨ds.filter fun d => D.contains d, fun d hd => ?_, stillAt_put hsel h4 fun d hd => (hD d hd).2, ?_⟩
          · rcases h3 d (hsub d hd) with h | h
            · exact .inl h
            · exact .inr (by simp [h, hd])
          · refine ih _ ds (listed.setIfInBounds j true) a' w' (hc.set hj) hfree' (fun d hd => (List.mem_filter.1 hd).1) (fun d hd => hD d (by simpa using (List.mem_filter.1 hd).2)) (.inl ⟨hb, hya⟩) (ready_mono hr (Ne.symm hji)) ?_ ?_
            · rcases hya with ⟨hw, h⟩ | ⟨hw, h⟩
              · exact .inl ⟨hw, .inl (h w')⟩
              · exact .inr ⟨hw, h⟩
            · rw [Array.setIfInBounds_comm _ _ hji]
              exact h5
        · rw [hwt j (Array.getElem?_eq_some_iff.1 hoj).1 hjun hpj] at hnw
          cases hnw
        · have h2 := wpOp_putIf hoj hap hsi hsj (fun c a w h => (hQ _ _ _ h).elim) hyF (h1e hpj)
          refine wpOp_mono (fun a' w' ⟨_, ds, h3, h4, h5⟩ => ?_) h2
          have hids : i ∈ ds := by
            rcases h3 i hi2 with h | h
            · rw [hnw] at h; cases h
            · exact h
          obtain ⟨o', t', k1, k2, k3, k4⟩ := h4 i hids
          obtain rfl : o' = oi := Option.some.inj (k1.symm.trans hi)
          obtain rfl : t' = t := Option.some.inj (k2.symm.trans ht)
          have k3' : t' < a'.tmps.size := by rw [ht] at k3; simpa [Act.put] using k3
          have ev : (a'.put o'.dst v).tmps.getD t' undef = v := by rw [ht]; simp [Act.put, k3']
          rw [ev] at k4
          have hn : ∀ d, o'.dst = some d → d ∉ o'.looksAt ops := fun d hd => by rw [ht] at hd; cases hd; exact hself
          have hy' : YieldsAt P ops w' o' v a' := k4.of_same (execOp_put o' hsi a' o'.dst v hn).symm (wanted_put o' a' o'.dst v hn).symm
          refine ⟨ds.filter fun d => D.contains d, fun d hd => ?_, stillAt_put hsel h4 fun d hd => (hD d hd).2, ?_⟩
          · rcases h3 d (hsub d hd) with h | h
            · exact .inl h
            · exact .inr (by simp [h, hd])
          · refine ih _ ds (listed.setIfInBounds j true) a' w' (hc.set hj) hfree' (fun d hd => (List.mem_filter.1 hd).1) (fun d hd => hD d (by simpa using (List.mem_filter.1 hd).2)) (.inr (.inr ⟨hids, t', ht, hself⟩)) (ready_mono hr (Ne.symm hji)) hy' ?_
            rw [Array.setIfInBounds_comm _ _ hji]
            exact h5
      · have h2 := stOp_put hoj hap hsi hsj hy (h1p hpj)
        have hkeep : ∀ u, bl = true ∧ Go.Yields P ops oi v a → bl = true ∧ Go.Yields P ops oi v (a.put oj.dst u) := fun u h => ⟨h.1, h.2.of_same (execOp_put oi hsi a oj.dst u h3') (wanted_put oi a oj.dst u h3')⟩
        obtain ⟨u, hyj, hKj⟩ := yieldsAt_of_stOp hoj h2
        refine hyj.stOp hoj ?_
        refine ih D D2 (listed.setIfInBounds j true) _ w (hc.set hj) hfree' hsub hD (hwt.imp (hkeep u) (Or.imp hwt' id)) (ready_mono hr (Ne.symm hji)) hKj.1 ?_
        rw [Array.setIfInBounds_comm _ _ hji]
        exact hKj.2

def stepN (P : Program) (pn : Nat → Bool) (ops : Array Oper) (Q : Exit → Act → World → Prop) (f : Nat) (D : List Nat) (listed : Array Bool) (a : Act) (w : World) (k : Nat) : Prop :=
  (pn k = false → wpOp P ops Q k (fun a' w' => ∃ ds, (∀ d ∈ D, waitsT ops ops.size k d = true ∨ d ∈ ds) ∧ stillAt P ops ds a' w' ∧ wpAnyN P pn ops Q f ds (listed.setIfInBounds k true) a' w') a w) ∧
  (pn k = true → stOp P ops w k (fun a' => wpAnyN P pn ops Q f D (listed.setIfInBounds k true) a' w) a)
theorem waitedB_mem {ops : Array Oper} {k : Nat} : ∀ {D : List Nat} {d : Nat}, d ∈ D → waitsT ops ops.size k d = true ∨ d ∈ waitedB ops k D
  | e :: D, d, hd => by
    unfold waitedB
    rcases List.mem_cons.1 hd with rfl | hd
    · cases h : waitsT ops ops.size k d with
      | true => exact .inl rfl
      | false => exact .inr (by simp)
    · rcases waitedB_mem hd with h | h
      · exact .inl h
      · right
        cases waitsT ops ops.size k e with
        | true => exact h
        | false => exact List.mem_cons_of_mem _ h
theorem apartD_out {ops : Array Oper} {k : Nat} {D : List Nat} {o : Oper} (ho : ops[k]? = some o) (h : apartD ops k D = true) : ∀ d ∈ D, d ≠ k ∧ ∀ od, ops[d]? = some od → offO ops o od = true := by
  intro d hd
  unfold apartD at h
  rw [List.all_eq_true] at h
  have := h d hd
  simp only [Bool.and_eq_true, Bool.not_eq_true', ho] at this
  obtain ⟨h1, h2⟩ := this
  refine ⟨(fun e => by rw [e, Nat.beq_refl] at h1; exact Bool.noConfusion h1), fun od hod => ?_⟩
  rw [hod] at h2
  exact h2


/-! Plans that take reads early. -/
def takeRN (q : Nat → Bool) (ops : Array Oper) (listed : Array Bool) (k : Nat) : Bool :=
  match ops[k]? with
  | none => false
  | some o => (Region.ready .any ops listed).contains k && Region.free .any ops listed k && plainAt q ops k && (match o.dst with | some t => !(o.looksAt ops).contains t | none => false)
def keysN : PlanN → List Nat
  | .alt k _ p => k :: keysN p
  | _ => []
def nextN (q : Nat → Bool) (ops : Array Oper) (k : Nat) (D : List Nat) : List Nat := match plainAt q ops k with | true => D | false => waitedB ops k D
def pendN (q : Nat → Bool) (ops : Array Oper) (k : Nat) (D : List Nat) : Bool := match plainAt q ops k with | true => false | false => !(waitedB ops k D).isEmpty
def planNB (q : Nat → Bool) (ops : Array Oper) : PlanN → Bool → Nat → Array Bool → List Nat → Bool → Bool
  | .done, m, _, listed, _, pd => !m && !pd && (Region.ready .any ops listed).isEmpty
  | .fin, m, _, _, _, pd => m && !pd
  | .op k r, m, f + 1, listed, D, pd => !m && !pd && apartD ops k D && takeB q ops listed k && planNB q ops r false f (listed.setIfInBounds k true) (nextN q ops k D) (pendN q ops k D)
  | .rd k r, m, f + 1, listed, D, pd => !m && !pd && apartD ops k D && takeRN q ops listed k && planNB q ops r false f (listed.setIfInBounds k true) (k :: D) false
  | .alt k r p, m, f + 1, listed, D, pd => !pd && (m || (Region.ready .any ops listed).all fun i => (k :: keysN p).contains i) && (m || !(Region.ready .any ops listed).isEmpty) && (Region.ready .any ops listed).contains k && planNB q ops r false f (listed.setIfInBounds k true) (nextN q ops k D) (pendN q ops k D) && planNB q ops p true (f + 1) listed D false
  | .chk ds r, m, f, listed, D, pd => !m && pd && D.all (fun d => ds.contains d) && planNB q ops r false f listed ds false
  | _, _, _, _, _, _ => false

mutual
/-- The very same value. -/
def sameDet : AV → AV → Prop → Prop
  | .bool a, .bool b, p => a = b ∧ p
  | .int k a, .int k' b, p => guardT (ikEq k k') (a = b ∧ p)
  | .flt k a, .flt k' b, p => guardT (fkEq k k') (a = b ∧ p)
  | .cpx k a b, .cpx k' a' b', p => guardT (fkEq k k') ((a = a' ∧ b = b') ∧ p)
  | .str a, .str b, p => a = b ∧ p
  | .nils, .nils, p => p
  | .nilp, .nilp, p => p
  | .nilf, .nilf, p => p
  | .slice n o l c, .slice n' o' l' c', p => guardT (Nat.beq n n') ((o = o' ∧ l = l' ∧ c = c' ∧ 0 < c) ∧ p)
  | .ptr n o, .ptr n' o', p => guardT (Nat.beq n n') (o = o' ∧ p)
  | .agg as, .agg bs, p => sameDets as bs p
  | .tup as, .tup bs, p => sameDets as bs p
  | .fn f as, .fn g bs, p => guardT (Nat.beq f g) (sameDets as bs p)
  | _, _, _ => False
def sameDets : List AV → List AV → Prop → Prop
  | [], [], p => p
  | a :: as, b :: bs, p => sameDet a b (sameDets as bs p)
  | _, _, _ => False
end
mutual
theorem sameDet_out : ∀ {x y : AV} {p : Prop}, sameDet x y p → p ∧ ∀ (ρ : Plc) u v, Den ρ x u → Den ρ y v → u = v
  | .bool a, y, p, h => by cases y <;> simp only [sameDet] at h; obtain ⟨rfl, h⟩ := h; exact ⟨h, fun ρ u v h1 h2 => by simp only [Den] at h1 h2; rw [h1, h2]⟩
  | .int k a, y, p, h => by cases y <;> simp only [sameDet, guardT_eq] at h; obtain ⟨e, rfl, h⟩ := h; have e := ikEq_eq e; subst e; exact ⟨h, fun ρ u v h1 h2 => by simp only [Den] at h1 h2; rw [h1, h2]⟩
  | .flt k a, y, p, h => by cases y <;> simp only [sameDet, guardT_eq] at h; obtain ⟨e, rfl, h⟩ := h; have e := fkEq_eq e; subst e; exact ⟨h, fun ρ u v h1 h2 => by simp only [Den] at h1 h2; rw [h1, h2]⟩
  | .cpx k a b, y, p, h => by cases y <;> simp only [sameDet, guardT_eq] at h; obtain ⟨e, ⟨rfl, rfl⟩, h⟩ := h; have e := fkEq_eq e; subst e; exact ⟨h, fun ρ u v h1 h2 => by simp only [Den] at h1 h2; rw [h1, h2]⟩
  | .str a, y, p, h => by cases y <;> simp only [sameDet] at h; obtain ⟨rfl, h⟩ := h; exact ⟨h, fun ρ u v h1 h2 => by simp only [Den] at h1 h2; rw [h1, h2]⟩
  | .nils, y, p, h => by cases y <;> simp only [sameDet] at h; exact ⟨h, fun ρ u v h1 h2 => by simp only [Den] at h1 h2; rw [h1, h2]⟩
  | .nilp, y, p, h => by cases y <;> simp only [sameDet] at h; exact ⟨h, fun ρ u v h1 h2 => by simp only [Den] at h1 h2; rw [h1, h2]⟩
  | .nilf, y, p, h => by cases y <;> simp only [sameDet] at h; exact ⟨h, fun ρ u v h1 h2 => by simp only [Den] at h1 h2; rw [h1, h2]⟩
  | .slice n o l c, y, p, h => by
    cases y <;> simp only [sameDet, guardT_eq] at h
    obtain ⟨e, ⟨rfl, rfl, rfl, h0⟩, h⟩ := h
    have e := Nat.eq_of_beq_eq_true e; subst e
    refine ⟨h, fun ρ u v h1 h2 => ?_⟩
    simp only [Den] at h1 h2
    obtain ⟨_, _, h1 | ⟨h1, _⟩⟩ := h1
    · obtain ⟨_, _, h2 | ⟨h2, _⟩⟩ := h2
      · rw [h1, h2]
      · omega
    · omega
  | .ptr n o, y, p, h => by
    cases y <;> simp only [sameDet, guardT_eq] at h
    obtain ⟨e, rfl, h⟩ := h
    have e := Nat.eq_of_beq_eq_true e; subst e
    exact ⟨h, fun ρ u v h1 h2 => by simp only [Den] at h1 h2; rw [h1.2, h2.2]⟩
  | .agg as, y, p, h => by
    cases y <;> simp only [sameDet] at h
    obtain ⟨h, hs⟩ := sameDets_out h
    refine ⟨h, fun ρ u v h1 h2 => ?_⟩
    simp only [Den] at h1 h2
    obtain ⟨us, rfl, h1⟩ := h1
    obtain ⟨vs, rfl, h2⟩ := h2
    rw [hs ρ us vs h1 h2]
  | .tup as, y, p, h => by
    cases y <;> simp only [sameDet] at h
    obtain ⟨h, hs⟩ := sameDets_out h
    refine ⟨h, fun ρ u v h1 h2 => ?_⟩
    simp only [Den] at h1 h2
    obtain ⟨us, rfl, h1⟩ := h1
    obtain ⟨vs, rfl, h2⟩ := h2
    rw [hs ρ us vs h1 h2]
  | .fn f as, y, p, h => by
    cases y <;> simp only [sameDet, guardT_eq] at h
    obtain ⟨e, h⟩ := h
    have e := Nat.eq_of_beq_eq_true e; subst e
    obtain ⟨h, hs⟩ := sameDets_out h
    refine ⟨h, fun ρ u v h1 h2 => ?_⟩
    simp only [Den] at h1 h2
    obtain ⟨us, rfl, h1⟩ := h1
    obtain ⟨vs, rfl, h2⟩ := h2
    rw [hs ρ us vs h1 h2]
  | .any, y, p, h => by cases y <;> simp [sameDet] at h
  | .nilm, y, p, h => by cases y <;> simp [sameDet] at h
  | .map n, y, p, h => by cases y <;> simp [sameDet] at h
  | .fnb f fs, y, p, h => by cases y <;> simp [sameDet] at h
theorem sameDets_out : ∀ {x y : List AV} {p : Prop}, sameDets x y p → p ∧ ∀ (ρ : Plc) us vs, Dens ρ x us → Dens ρ y vs → us = vs
  | [], y, p, h => by cases y <;> simp only [sameDets] at h; exact ⟨h, fun ρ us vs h1 h2 => by simp only [Dens] at h1 h2; rw [h1, h2]⟩
  | x :: xs, y, p, h => by
    cases y <;> simp only [sameDets] at h
    obtain ⟨h, h1⟩ := sameDet_out h
    obtain ⟨h, h2⟩ := sameDets_out h
    refine ⟨h, fun ρ us vs g1 g2 => ?_⟩
    simp only [Dens] at g1 g2
    obtain ⟨u, r, rfl, a1, a2⟩ := g1
    obtain ⟨v, s, rfl, b1, b2⟩ := g2
    rw [h1 ρ u v a1 b1, h2 ρ r s a2 b2]
end

/-- Those that were taken early are as they were. -/
def chkVC (P : Program) (C : Cfg) (rg : Nat) (all : List Oper) (st : St) : List Nat → Prop → Prop
  | [], p => p
  | d :: ds, p => (match nthOp all d with
    | some o => (match o.dst, isEff C.q o || isQ C.q o with
      | some t, false => (match o.guard with
        | none => evOp P C rg st o fun y => sameDet y (slot st.sl t) (chkVC P C rg all st ds p)
        | some (j, want) => (match guardDst all j with
          | some g => (match slot st.sl g with
            | .bool b => (match b, want with
              | true, true => evOp P C rg st o fun y => sameDet y (slot st.sl t) (chkVC P C rg all st ds p)
              | false, false => evOp P C rg st o fun y => sameDet y (slot st.sl t) (chkVC P C rg all st ds p)
              | _, _ => (match slot st.sl t with | .tup [] => guardT (Nat.blt t st.sl.length) (chkVC P C rg all st ds p) | _ => False))
            | .tup [] => (match slot st.sl t with | .tup [] => guardT (Nat.blt t st.sl.length) (chkVC P C rg all st ds p) | _ => False)
            | _ => False)
          | none => False))
      | _, _ => False)
    | none => False)
theorem chk_ev (hT : TOk P C.T) {rg : Nat} {all : List Oper} {ρ : Plc} {st : St} {a : Act} {w : World} (hr : Rep w0 L ρ st a w) {o : Oper} {t : Tmp} {p : Prop} (h : evOp P C rg st o fun y => sameDet y (slot st.sl t) p)
    (hw : Region.wanted o (yielded all.toArray a.tmps) = true) : p ∧ t < a.tmps.size ∧ YieldsAt P all.toArray w o (a.tmps.getD t undef) a := by
  obtain ⟨y, hy, hs⟩ := evOp_sound hT h
  obtain ⟨hp, hsame⟩ := sameDet_out hy
  obtain ⟨v, hv, hyl⟩ := hs w0 L ρ a w hr
  have hsl := slot_den hr.slots t
  have e := hsame ρ _ _ hv hsl
  have hlt : t < a.tmps.size := by
    apply Decidable.byContradiction
    intro hn
    have h0 : slot st.sl t = .any := by
      have := hr.slots.len
      rw [slot_eq, List.getD_eq_getElem?_getD, List.getElem?_eq_none (by rw [this]; simpa using hn)]; rfl
    rw [h0] at hy
    cases y <;> simp [sameDet] at hy
  refine ⟨hp, hlt, .inl ⟨hw, .inl ?_⟩⟩
  rw [← e]
  exact hyl w rfl
theorem chk_no {all : List Oper} {ρ : Plc} {st : St} {a : Act} {w : World} (hr : Rep w0 L ρ st a w) {o : Oper} {t : Tmp} {p : Prop} (h : (match slot st.sl t with | .tup [] => guardT (Nat.blt t st.sl.length) p | _ => False))
    (hw : Region.wanted o (yielded all.toArray a.tmps) = false) : p ∧ t < a.tmps.size ∧ YieldsAt P all.toArray w o (a.tmps.getD t undef) a := by
  split at h
  · rename_i hs
    rw [guardT_eq] at h
    obtain ⟨hlt, hp⟩ := h
    have hlt : t < st.sl.length := by simpa [Nat.blt_eq] using hlt
    have hlt : t < a.tmps.size := by rw [hr.slots.len] at hlt; simpa using hlt
    refine ⟨hp, hlt, .inr ⟨hw, ?_⟩⟩
    rw [Array.getD_eq_getD_getElem?]
    rcases slot_undef hr hs with e | e <;> rw [e] <;> rfl
  · exact h.elim
theorem chkVC_out (hT : TOk P C.T) {rg : Nat} {all : List Oper} {ρ : Plc} {st : St} {a : Act} {w : World} (hr : Rep w0 L ρ st a w) : ∀ {ds : List Nat} {p : Prop}, chkVC P C rg all st ds p → p ∧ stillAt P all.toArray ds a w
  | [], p, h => ⟨h, fun d hd => by simp at hd⟩
  | d :: ds, p, h => by
    unfold chkVC at h
    split at h
    · rename_i o ho
      rw [nthOp_eq] at ho
      split at h
      · rename_i t hd _
        have key : chkVC P C rg all st ds p ∧ t < a.tmps.size ∧ YieldsAt P all.toArray w o (a.tmps.getD t undef) a := by
          split at h
          · rename_i hg
            exact chk_ev hT hr h (by simp [Region.wanted, hg])
          · rename_i j want hg
            split at h
            · rename_i g hgd
              have hy := yielded_of (tmps := a.tmps) hgd
              split at h
              · rename_i b hb
                have hsb := slot_bool hr hb
                rw [hsb] at hy
                simp only at hy
                cases b <;> cases want <;> simp only at h
                · exact chk_ev hT hr h (by simp [Region.wanted, hg, hy])
                · exact chk_no hr h (by simp [Region.wanted, hg, hy])
                · exact chk_no hr h (by simp [Region.wanted, hg, hy])
                · exact chk_ev hT hr h (by simp [Region.wanted, hg, hy])
              · rename_i hb
                have hy2 : yielded all.toArray a.tmps j = none := by
                  rw [hy]
                  rcases slot_undef hr hb with e | e <;> rw [e] <;> rfl
                exact chk_no hr h (by simp [Region.wanted, hg, hy2])
              · exact h.elim
            · exact h.elim
        obtain ⟨h1, h2⟩ := chkVC_out hT hr key.1
        refine ⟨h1, fun k hk => ?_⟩
        rcases List.mem_cons.1 hk with rfl | hk
        · exact ⟨o, t, by simpa using ho, hd, key.2.1, key.2.2⟩
        · exact h2 k hk
      · exact h.elim
    · exact h.elim

/-- Either may come up. -/
structure Both (p q : Prop) : Prop where
  one : p
  two : q
/-- The operations in the order of a plan. -/
def vcPlanN (P : Program) (C : Cfg) (rg : Nat) (all : List Oper) (p : PlanN) : St → (St → Prop) → Prop :=
  PlanN.rec (motive := fun _ => St → (St → Prop) → Prop) (fun st K => K st) (fun _ _ => True) (fun k _ ih => vpOp P C rg all k ih) (fun k _ ih => vpOp P C rg all k ih) (fun k _ _ ih jh => fun st K => Both (vpOp P C rg all k ih st K) (jh st K)) (fun ds _ ih => fun st K => chkVC P C rg all st ds (ih st K)) p
theorem vcPlanN_op (P : Program) (C : Cfg) (rg : Nat) (all : List Oper) (k : Nat) (r : PlanN) (st : St) (K : St → Prop) : vcPlanN P C rg all (.op k r) st K = (match nthOp all k with | some o => vcOps P C rg all [o] st fun st' => vcPlanN P C rg all r st' K | none => False) := rfl
theorem vcPlanN_rd (P : Program) (C : Cfg) (rg : Nat) (all : List Oper) (k : Nat) (r : PlanN) (st : St) (K : St → Prop) : vcPlanN P C rg all (.rd k r) st K = (match nthOp all k with | some o => vcOps P C rg all [o] st fun st' => vcPlanN P C rg all r st' K | none => False) := rfl
theorem vcPlanN_alt (P : Program) (C : Cfg) (rg : Nat) (all : List Oper) (k : Nat) (r p : PlanN) (st : St) (K : St → Prop) : vcPlanN P C rg all (.alt k r p) st K = Both (match nthOp all k with | some o => vcOps P C rg all [o] st fun st' => vcPlanN P C rg all r st' K | none => False) (vcPlanN P C rg all p st K) := rfl

/-- What a plan says, when it is done from here. -/
def SaysN (P : Program) (q : Nat → Bool) (ops : Array Oper) (Q : Exit → Act → World → Prop) (f : Nat) (D : List Nat) (pd : Bool) (listed : Array Bool) (a : Act) (w : World) : Prop :=
  match pd with
  | false => wpAnyN P (plainAt q ops) ops Q f D listed a w
  | true => ∃ ds, (∀ d ∈ D, d ∈ ds) ∧ stillAt P ops ds a w ∧ wpAnyN P (plainAt q ops) ops Q f ds listed a w
theorem SaysN.behind {q : Nat → Bool} {ops : Array Oper} {Q : Exit → Act → World → Prop} {f : Nat} {D : List Nat} {listed : Array Bool} {a : Act} {w : World} {k : Nat} (hp : plainAt q ops k = false) (h : SaysN P q ops Q f (nextN q ops k D) (pendN q ops k D) listed a w) :
    ∃ ds, (∀ d ∈ D, waitsT ops ops.size k d = true ∨ d ∈ ds) ∧ stillAt P ops ds a w ∧ wpAnyN P (plainAt q ops) ops Q f ds listed a w := by
  unfold nextN pendN at h
  rw [hp] at h
  simp only at h
  cases hw : waitedB ops k D with
  | nil =>
    rw [hw] at h
    refine ⟨[], fun d hd => ?_, fun d hd => by simp at hd, h⟩
    rcases waitedB_mem (ops := ops) (k := k) hd with h' | h'
    · exact .inl h'
    · rw [hw] at h'; simp at h'
  | cons e r =>
    rw [hw] at h
    obtain ⟨ds, h1, h2, h3⟩ := h
    refine ⟨ds, fun d hd => ?_, h2, h3⟩
    rcases waitedB_mem (ops := ops) (k := k) hd with h' | h'
    · exact .inl h'
    · rw [hw] at h'; exact .inr (h1 d h')
theorem SaysN.plain {q : Nat → Bool} {ops : Array Oper} {Q : Exit → Act → World → Prop} {f : Nat} {D : List Nat} {listed : Array Bool} {a : Act} {w : World} {k : Nat} (hp : plainAt q ops k = true) (h : SaysN P q ops Q f (nextN q ops k D) (pendN q ops k D) listed a w) :
    wpAnyN P (plainAt q ops) ops Q f D listed a w := by
  unfold nextN pendN at h
  rw [hp] at h
  exact h
theorem step_ofN (hT : TOk P C.T) {rg : Nat} {all : List Oper} {Q : Exit → Act → World → Prop} {K : St → Prop} {o : Oper} {k f : Nat} {D : List Nat} {listed : Array Bool} {ρ : Plc} {st : St} {a : Act} {w : World} (ho : all.toArray[k]? = some o)
    (h : vcOps P C rg all [o] st K) (hr : Rep w0 L ρ st a w) (hK : ∀ st' ρ' a' w', K st' → Rep w0 L ρ' st' a' w' → Ext ρ ρ' → SaysN P C.q all.toArray Q f (nextN C.q all.toArray k D) (pendN C.q all.toArray k D) (listed.setIfInBounds k true) a' w') :
    stepN P (plainAt C.q all.toArray) all.toArray Q f D listed a w k := by
  refine ⟨fun hp => ?_, fun hp => ?_⟩
  · unfold wpOp
    simp only [ho]
    rcases vcStep_sound (Q := Q) hT h hr with ⟨hw, h1⟩ | ⟨hw, r, st', h1, h2, _⟩
    · simp only [hw, if_true]
      exact .inl (Oper.wp_mono (fun a' w' ⟨r, st', h1, h2, _⟩ => (hK st' _ a' w' h1 h2 ⟨r, rfl⟩).behind hp) h1)
    · simp only [hw, Bool.false_eq_true, if_false]
      exact (hK st' _ _ _ h1 h2 ⟨r, rfl⟩).behind hp
  · have hp' : [o].all (fun o => !isEff C.q o && !isQ C.q o) = true := by simpa [plainAt, ho] using hp
    have := vcOps_still hT (Q := fun a' => wpAnyN P (plainAt C.q all.toArray) all.toArray Q f D (listed.setIfInBounds k true) a' w) (fun st' a' hk hr' => (hK st' ρ a' w hk hr' ⟨[], by simp⟩).plain hp) [o] st a hp' h hr
    unfold stOp
    simp only [ho]
    unfold wpStill at this
    split at this
    · rename_i hw; simp only [hw, if_true]; exact this
    · rename_i hw; simp only [hw]; exact this
theorem planN_sound (hT : TOk P C.T) {rg : Nat} {all : List Oper} {Q : Exit → Act → World → Prop} {K : St → Prop} {ρ0 : Plc} (hsel : Region.noSelect all.toArray = true) (hQp : ∀ c a w, ¬ Q (.panic c) a w)
    (hQ : ∀ st' ρ' a' w', K st' → Rep w0 L ρ' st' a' w' → Ext ρ0 ρ' → Q .normal a' w') : ∀ (p : PlanN) (m : Bool) (f : Nat) (listed : Array Bool) (D : List Nat) (pd : Bool) (ρ : Plc) (st : St) (a : Act) (w : World), planNB C.q all.toArray p m f listed D pd = true → ClosedL all.toArray listed → vcPlanN P C rg all p st K → Rep w0 L ρ st a w → Ext ρ0 ρ →
    (m = false → SaysN P C.q all.toArray Q f D pd listed a w) ∧ (m = true → ∀ k ∈ keysN p, ∀ f', f = f' + 1 → stepN P (plainAt C.q all.toArray) all.toArray Q f' D listed a w k)
  | .done, m, f, listed, D, pd, ρ, st, a, w, hB, hc, h, hr, hx => by
    refine ⟨fun _ => ?_, fun _ => by simp [keysN]⟩
    simp only [planNB, Bool.and_eq_true, List.isEmpty_iff, Bool.not_eq_true'] at hB
    obtain ⟨⟨_, rfl⟩, hB⟩ := hB
    have := hQ st ρ a w h hr hx
    cases f with
    | zero => exact ⟨hB, this⟩
    | succ f => exact ⟨fun _ => this, by rw [hB]; simp⟩
  | .fin, m, f, listed, D, pd, ρ, st, a, w, hB, hc, h, hr, hx => by
    refine ⟨fun hm => ?_, fun _ => by simp [keysN]⟩
    subst hm
    simp [planNB] at hB
  | .chk ds r, m, f, listed, D, pd, ρ, st, a, w, hB, hc, h, hr, hx => by
    refine ⟨fun _ => ?_, fun _ => by simp [keysN]⟩
    simp only [planNB, Bool.and_eq_true, Bool.not_eq_true', List.all_eq_true] at hB
    obtain ⟨⟨⟨_, rfl⟩, hD⟩, hB⟩ := hB
    obtain ⟨h1, h2⟩ := chkVC_out hT hr h
    exact ⟨ds, fun d hd => by simpa using hD d hd, h2, (planN_sound hT hsel hQp hQ r false f listed ds false ρ st a w hB hc h1 hr hx).1 rfl⟩
  | .op k r, m, 0, listed, D, pd, ρ, st, a, w, hB, hc, h, hr, hx => by simp [planNB] at hB
  | .rd k r, m, 0, listed, D, pd, ρ, st, a, w, hB, hc, h, hr, hx => by simp [planNB] at hB
  | .alt k r p, m, 0, listed, D, pd, ρ, st, a, w, hB, hc, h, hr, hx => by simp [planNB] at hB
  | .op k r, m, f + 1, listed, D, pd, ρ, st, a, w, hB, hc, h, hr, hx => by
    refine ⟨fun _ => ?_, fun _ => by simp [keysN]⟩
    simp only [planNB, Bool.and_eq_true, Bool.not_eq_true'] at hB
    obtain ⟨⟨⟨⟨_, rfl⟩, hap⟩, ht⟩, hB⟩ := hB
    simp only [vcPlanN_op, vcPlanN_rd, vcPlanN_alt] at h
    split at h
    case h_2 => exact h.elim
    rename_i o ho
    rw [nthOp_eq] at ho
    have ho' : all.toArray[k]? = some o := by simpa using ho
    have hap := apartD_out ho' hap
    show wpAnyN P (plainAt C.q all.toArray) all.toArray Q (f + 1) D listed a w
    have hstep : k ∈ Region.ready .any all.toArray listed → stepN P (plainAt C.q all.toArray) all.toArray Q f D listed a w k := fun hrd =>
      step_ofN hT ho' h hr fun st' ρ' a' w' hk hr' hx' => (planN_sound hT hsel hQp hQ r false f _ _ _ ρ' st' a' w' hB (hc.set hrd) hk hr' (hx.trans hx')).1 rfl
    unfold takeB at ht
    simp only [ho', Bool.or_eq_true, Bool.and_eq_true, decide_eq_true_eq] at ht
    rcases ht with ht | ⟨⟨⟨hrd, hfr⟩, hpl⟩, hbw⟩
    · refine ⟨fun h0 => (by rw [ht] at h0; cases h0), fun i hi => ?_⟩
      rw [ht] at hi
      have hik : i = k := by simpa using hi
      subst hik
      exact hstep (by rw [ht]; simp)
    · have hrd : k ∈ Region.ready .any all.toArray listed := by simpa using hrd
      obtain ⟨v, hy, hK⟩ := yieldsAt_of_stOp ho' ((hstep hrd).2 hpl)
      rcases hbw with hb | hb
      · exact firstN ho' (Region.noSelect_spec hsel) hQp hpl (bl := true) f D D listed a w hc (Region.free_spec ho' hfr) (fun d hd => hd) hap (.inl ⟨rfl, blind_yields hb hy⟩) hrd hy hK
      · refine firstN ho' (Region.noSelect_spec hsel) hQp hpl (bl := false) f D D listed a w hc (Region.free_spec ho' hfr) (fun d hd => hd) hap (.inr (.inl fun j hj hun hpj => ?_)) hrd hy hK
        rw [List.all_eq_true] at hb
        have := hb j (List.mem_range.2 hj)
        simp only [Bool.or_eq_true] at this
        rcases this with (h1 | h1) | h1
        · rw [hun] at h1; cases h1
        · rw [hpj] at h1; cases h1
        · exact h1
  | .rd k r, m, f + 1, listed, D, pd, ρ, st, a, w, hB, hc, h, hr, hx => by
    refine ⟨fun _ => ?_, fun _ => by simp [keysN]⟩
    simp only [planNB, Bool.and_eq_true, Bool.not_eq_true'] at hB
    obtain ⟨⟨⟨⟨_, rfl⟩, hap⟩, ht⟩, hB⟩ := hB
    simp only [vcPlanN_op, vcPlanN_rd, vcPlanN_alt] at h
    split at h
    case h_2 => exact h.elim
    rename_i o ho
    rw [nthOp_eq] at ho
    have ho' : all.toArray[k]? = some o := by simpa using ho
    have hap := apartD_out ho' hap
    show wpAnyN P (plainAt C.q all.toArray) all.toArray Q (f + 1) D listed a w
    unfold takeRN at ht
    simp only [ho', Bool.and_eq_true] at ht
    obtain ⟨⟨⟨hrd, hfr⟩, hpl⟩, hself⟩ := ht
    have hrd : k ∈ Region.ready .any all.toArray listed := by simpa using hrd
    have hst : stOp P all.toArray w k (fun a' => wpAnyN P (plainAt C.q all.toArray) all.toArray Q f (k :: D) (listed.setIfInBounds k true) a' w) a := by
      have hp' : [o].all (fun o => !isEff C.q o && !isQ C.q o) = true := by simpa [plainAt, ho'] using hpl
      have := vcOps_still hT (Q := fun a' => wpAnyN P (plainAt C.q all.toArray) all.toArray Q f (k :: D) (listed.setIfInBounds k true) a' w) (fun st' a' hk hr' => (planN_sound hT hsel hQp hQ r false f _ _ _ ρ st' a' w hB (hc.set hrd) hk hr' hx).1 rfl) [o] st a hp' h hr
      unfold stOp
      simp only [ho']
      unfold wpStill at this
      split at this
      · rename_i hw; simp only [hw, if_true]; exact this
      · rename_i hw; simp only [hw]; exact this
    obtain ⟨v, hy, hK⟩ := yieldsAt_of_stOp ho' hst
    split at hself
    · rename_i t hdst
      exact firstN ho' (Region.noSelect_spec hsel) hQp hpl (bl := false) f D (k :: D) listed a w hc (Region.free_spec ho' hfr) (fun d hd => List.mem_cons_of_mem _ hd) hap (.inr (.inr ⟨by simp, t, hdst, by simpa using hself⟩)) hrd hy hK
    · cases hself
  | .alt k r p, m, f + 1, listed, D, pd, ρ, st, a, w, hB, hc, h, hr, hx => by
    simp only [planNB, Bool.and_eq_true, Bool.or_eq_true, Bool.not_eq_true'] at hB
    obtain ⟨⟨⟨⟨⟨rfl, hall⟩, hne⟩, hrd⟩, hB1⟩, hB2⟩ := hB
    have hrd : k ∈ Region.ready .any all.toArray listed := by simpa using hrd
    simp only [vcPlanN_op, vcPlanN_rd, vcPlanN_alt] at h
    obtain ⟨h1, h2⟩ := h
    split at h1
    case h_2 => exact h1.elim
    rename_i o ho
    rw [nthOp_eq] at ho
    have ho' : all.toArray[k]? = some o := by simpa using ho
    have hstep : stepN P (plainAt C.q all.toArray) all.toArray Q f D listed a w k :=
      step_ofN hT ho' h1 hr fun st' ρ' a' w' hk hr' hx' => (planN_sound hT hsel hQp hQ r false f _ _ _ ρ' st' a' w' hB1 (hc.set hrd) hk hr' (hx.trans hx')).1 rfl
    have hmore := (planN_sound hT hsel hQp hQ p true (f + 1) listed D false ρ st a w hB2 hc h2 hr hx).2 rfl
    refine ⟨fun hm => ?_, fun _ j hj f' hf => ?_⟩
    · subst hm
      simp only [Bool.false_eq_true, false_or, List.isEmpty_eq_false_iff, List.all_eq_true] at hall hne
      show wpAnyN P (plainAt C.q all.toArray) all.toArray Q (f + 1) D listed a w
      refine ⟨fun h0 => absurd h0 hne, fun i hi => ?_⟩
      have := hall i hi
      have hi' : i = k ∨ i ∈ keysN p := by simpa using this
      rcases hi' with rfl | hi'
      · exact hstep
      · exact hmore i hi' f rfl
    · have : f' = f := by omega
      subst this
      simp only [keysN, List.mem_cons] at hj
      rcases hj with rfl | hj
      · exact hstep
      · exact hmore j hj f' rfl

theorem closed_none {ops : Array Oper} (n : Nat) : ClosedL ops (Array.replicate n false) := by
  intro j oj _ hl
  rcases Nat.lt_or_ge j n with h | h
  · simp [h] at hl
  · simp [h] at hl

def pickOps (all : List Oper) : List Nat → List Oper
  | [] => []
  | k :: r => (match nthOp all k with | some o => o :: pickOps all r | none => [])
def inAll (all : List Oper) : List Nat → Bool
  | [] => true
  | k :: r => (match nthOp all k with | some _ => inAll all r | none => false)
def opsThen : List Nat → Plan → Plan
  | [], p => p
  | k :: r, p => .op k (opsThen r p)
def expand : PlanL → Plan
  | .done => .done
  | .fin => .fin
  | .lin l r => opsThen l (expand r)
  | .alt k r p => .alt k (expand r) (expand p)
  | .nn _ => .done
def planIn (all : List Oper) : PlanL → Bool
  | .done => true
  | .fin => true
  | .lin l r => inAll all l && planIn all r
  | .alt k r p => inAll all [k] && planIn all r && planIn all p
  | .nn _ => false

def vcPlanL (P : Program) (C : Cfg) (rg : Nat) (all : List Oper) (p : PlanL) : St → (St → Prop) → Prop :=
  PlanL.rec (motive := fun _ => St → (St → Prop) → Prop) (fun st K => K st) (fun _ _ => True) (fun l _ ih => fun st K => vcOps P C rg all (pickOps all l) st fun st' => ih st' K) (fun k _ _ ih jh => fun st K => vcOps P C rg all (pickOps all [k]) st (fun st' => ih st' K) ∧ jh st K) (fun p => vcPlanN P C rg all p) p
theorem vcPlanL_lin (P : Program) (C : Cfg) (rg : Nat) (all : List Oper) (l : List Nat) (r : PlanL) (st : St) (K : St → Prop) : vcPlanL P C rg all (.lin l r) st K = vcOps P C rg all (pickOps all l) st fun st' => vcPlanL P C rg all r st' K := rfl
theorem vcPlanL_alt (P : Program) (C : Cfg) (rg : Nat) (all : List Oper) (k : Nat) (r p : PlanL) (st : St) (K : St → Prop) : vcPlanL P C rg all (.alt k r p) st K = (vcOps P C rg all (pickOps all [k]) st (fun st' => vcPlanL P C rg all r st' K) ∧ vcPlanL P C rg all p st K) := rfl

theorem vc_lin {rg : Nat} {all : List Oper} {p : Plan} {K : St → Prop} : ∀ (l : List Nat) (st : St), inAll all l = true → vcPlan P C rg all (opsThen l p) st K = vcOps P C rg all (pickOps all l) st (fun st' => vcPlan P C rg all p st' K)
  | [], st, _ => rfl
  | k :: r, st, hin => by
    simp only [inAll] at hin
    simp only [pickOps, opsThen, vcPlan_op]
    split at hin
    · rename_i o ho
      have e := vcOps_append (P := P) (C := C) (rg := rg) (all := all) (K := fun st' => vcPlan P C rg all p st' K) (pickOps all r) [o] st
      simp only [List.cons_append, List.nil_append] at e
      simp only [e]
      congr 1
      funext st'
      exact vc_lin r st' hin
    · cases hin

theorem vc_expand {rg : Nat} {all : List Oper} {K : St → Prop} : ∀ (p : PlanL) (st : St), planIn all p = true → vcPlan P C rg all (expand p) st K = vcPlanL P C rg all p st K
  | .done, st, _ => rfl
  | .fin, st, _ => rfl
  | .lin l r, st, hin => by
    simp only [planIn, Bool.and_eq_true] at hin
    simp only [expand]
    rw [vc_lin l st hin.1]
    simp only [vcPlanL_lin]
    congr 1
    funext st'
    exact vc_expand r st' hin.2
  | .alt k r p, st, hin => by
    simp only [planIn, Bool.and_eq_true] at hin
    have h1 : (fun st' => vcPlan P C rg all (expand r) st' K) = fun st' => vcPlanL P C rg all r st' K := by
      funext st'
      exact vc_expand r st' hin.1.2
    have hk : inAll all [k] = true := hin.1.1
    simp only [expand, vcPlan_alt, vcPlanL_alt, vc_expand p st hin.2, h1, pickOps]
    simp only [inAll] at hk
    split at hk
    · rfl
    · cases hk
  | .nn p, st, hin => by simp [planIn] at hin

/-- A region whose order is drawn, walked by a plan. -/
def planOk (q : Nat → Bool) (ops : Array Oper) (draw : Bool) (p : PlanL) : Bool :=
  match p with
  | .nn p => draw && Region.noSelect ops && planNB q ops p false ops.size (Array.replicate ops.size false) [] false
  | p => draw && Region.noSelect ops && planIn ops.toList p && planB q ops (expand p) false ops.size (Array.replicate ops.size false)

theorem region_plan (hT : TOk P C.T) (hm : P.follows .mixedOrders = true) {rg : Nat} {ops : Array Oper} {draw : Bool} {p : PlanL} {Q : Exit → Act → World → Prop} {K : St → Prop} {ρ0 ρ : Plc} {st : St} {a : Act} {w : World} (hB : planOk C.q ops draw p = true)
    (h : vcPlanL P C rg ops.toList p st K) (hr : Rep w0 L ρ st a w) (hx : Ext ρ0 ρ) (hQ : ∀ st' ρ' a' w', K st' → Rep w0 L ρ' st' a' w' → Ext ρ0 ρ' → Q .normal a' w') : (Code.region rg ops draw).wp P Q a w := by
  obtain ⟨l, rfl⟩ : ∃ l : List Oper, ops = l.toArray := ⟨ops.toList, by simp⟩
  have e : l.toArray.toList = l := by simp
  rw [e] at h
  have hr1 : Rep w0 L ρ st a { w with drawn := w.drawn + 1 } := hr.drewN 1
  unfold planOk at hB
  split at hB
  · rename_i pn
    simp only [Bool.and_eq_true] at hB
    obtain ⟨⟨rfl, hs⟩, hB⟩ := hB
    exact Code.wp_mono (Q := fun e a w => e = .normal ∧ Q .normal a w) (fun e a w h => by rw [h.1]; exact h.2) (wp_region_any hm (wpAny_of_N _ [] _ _ _ ((planN_sound (D := []) (pd := false) hT hs (fun c a w h => by cases h.1) (fun st' ρ' a' w' h1 h2 h3 => ⟨rfl, hQ st' ρ' a' w' h1 h2 h3⟩) pn false _ _ ρ st a _ hB (closed_none _) h hr1 hx).1 rfl)))
  simp only [Bool.and_eq_true] at hB
  obtain ⟨⟨⟨rfl, hs⟩, hin⟩, hB⟩ := hB
  have hin : planIn l p = true := hin
  rw [← vc_expand p st hin] at h
  refine Code.wp_mono (Q := fun e a w => e = .normal ∧ Q .normal a w) (fun e a w h => by rw [h.1]; exact h.2) (wp_region_any hm (wpAny_of_G _ _ _ _ ((plan_sound hT hs (fun c a w h => by cases h.1) (fun st' ρ' a' w' h1 h2 h3 => ⟨rfl, hQ st' ρ' a' w' h1 h2 h3⟩) (expand p) false _ _ ρ st a _ hB (closed_none _) h hr1 hx).1 rfl)))
end
end Go.Fw

namespace Go.Fw
set_option linter.unusedSimpArgs false
open Go Go.RowKit

/-- The first k names keep their places. -/
def preB : Nat → Nat → List Nat → Bool
  | 0, _, _ => true
  | _ + 1, _, [] => false
  | k + 1, i, a :: r => Nat.beq a i && preB k (i + 1) r

def stLe (k : Nat) (m : List Nat) (inv cur : St) : Prop := guardT (nodupB m inv.hp && preB k 0 m) (avsLe m inv.sl cur.sl ∧ segsLe m cur.hp m inv.hp)

def firstRegion : Code → Nat
  | .region id _ _ => id
  | .seq a _ => firstRegion a
  | .block _ b => firstRegion b
  | .loop b => firstRegion b
  | .scope b => firstRegion b
  | _ => 0

/-- What is asked of code, from an abstract state on. J: the loops' relations, Jc: the cuts', by the number of the first region. -/
def cvRegion (P : Program) (C : Cfg) (id : Nat) (ops : Array Oper) : St → (Exit → St → Prop) → Prop := fun st Q =>
  match C.plan id with | none => vcOps P C id ops.toList ops.toList st (Q .normal) | some p => vcPlanL P C id ops.toList p st (Q .normal)
def cvSeq (C : Cfg) (Jc : Nat → Option LInv) (b : Code) (va vb : St → (Exit → St → Prop) → Prop) : St → (Exit → St → Prop) → Prop := fun st Q =>
  match Jc (firstRegion b) with
  | none => va st fun e st' => match e with | .normal => vb st' Q | e => Q e st'
  | some I => (va st fun e st' => match e with | .normal => ∃ m t, stLe C.k m (I.st t) st' ∧ I.pr t | e => Q e st') ∧ ∀ t, I.pr t → forceSt (I.st t) fun st => vb st Q
def cvCond (c : Operand) (vx vy : St → (Exit → St → Prop) → Prop) : St → (Exit → St → Prop) → Prop := fun st Q =>
  match av st c with
  | .bool b => tst b (vx st Q) (vy st Q)
  | _ => False
def cvBlock (id : Nat) (vb : St → (Exit → St → Prop) → Prop) : St → (Exit → St → Prop) → Prop := fun st Q =>
  vb st fun e st' => match e with | .exit k => (match Nat.beq k id with | true => Q .normal st' | false => Q (.exit k) st') | e => Q e st'
def cvLoop (C : Cfg) (J : Nat → Option LInv) (body : Code) (vb : St → (Exit → St → Prop) → Prop) : St → (Exit → St → Prop) → Prop := fun st Q =>
  match J (firstRegion body) with
  | none => (match C.dep (firstRegion body) with
    | none => False
    | some f => (∃ m t, stLe C.k m ((f st).st t) st ∧ (f st).pr t) ∧ ∀ t, (f st).pr t → forceSt ((f st).st t) fun st' => vb st' fun e st' => match e with | .normal => ∃ m t', stLe C.k m ((f st).st t') st' ∧ (f st).pr t' ∧ (f st).μ t' < (f st).μ t | e => Q e st')
  | some I => (∃ m t, stLe C.k m (I.st t) st ∧ I.pr t) ∧ ∀ t, I.pr t → forceSt (I.st t) fun st => vb st fun e st' => match e with | .normal => ∃ m t', stLe C.k m (I.st t') st' ∧ I.pr t' ∧ I.μ t' < I.μ t | e => Q e st'
def cvScope (vb : St → (Exit → St → Prop) → Prop) : St → (Exit → St → Prop) → Prop := fun st Q =>
  vb st fun e st' => match e with | .goto _ => False | e => Q e st'
def codeVC (P : Program) (C : Cfg) (J Jc : Nat → Option LInv) (c : Code) : St → (Exit → St → Prop) → Prop :=
  Code.rec (motive := fun _ => St → (Exit → St → Prop) → Prop) (fun st Q => Q .normal st) (fun id ops _ => cvRegion P C id ops) (fun _ b va vb => cvSeq C Jc b va vb) (fun c _ _ vx vy => cvCond c vx vy)
    (fun id _ vb => cvBlock id vb) (fun b vb => cvLoop C J b vb) (fun _ _ _ _ _ _ => fun _ _ => False) (fun id => fun st Q => Q (.exit id) st) (fun _ vb => cvScope vb) (fun _ => fun st Q => Q .normal st) (fun l => fun st Q => Q (.goto l) st) (fun st Q => Q .ret st) (fun _ => fun _ _ => False) c
section
variable (P : Program) (C : Cfg) (J Jc : Nat → Option LInv) (st : St) (Q : Exit → St → Prop)
theorem codeVC_region (id : Nat) (ops : Array Oper) (d : Bool) : codeVC P C J Jc (.region id ops d) st Q = (match C.plan id with | none => vcOps P C id ops.toList ops.toList st (Q .normal) | some p => vcPlanL P C id ops.toList p st (Q .normal)) := rfl
theorem codeVC_seq (a b : Code) : codeVC P C J Jc (.seq a b) st Q = (match Jc (firstRegion b) with
     | none => codeVC P C J Jc a st fun e st' => match e with | .normal => codeVC P C J Jc b st' Q | e => Q e st'
     | some I => (codeVC P C J Jc a st fun e st' => match e with | .normal => ∃ m t, stLe C.k m (I.st t) st' ∧ I.pr t | e => Q e st') ∧ ∀ t, I.pr t → forceSt (I.st t) fun st => codeVC P C J Jc b st Q) := rfl
theorem codeVC_cond (c : Operand) (x y : Code) : codeVC P C J Jc (.cond c x y) st Q = (match av st c with
     | .bool b => tst b (codeVC P C J Jc x st Q) (codeVC P C J Jc y st Q)
     | _ => False) := rfl
theorem codeVC_block (id : Nat) (body : Code) : codeVC P C J Jc (.block id body) st Q = codeVC P C J Jc body st fun e st' => match e with | .exit k => (match Nat.beq k id with | true => Q .normal st' | false => Q (.exit k) st') | e => Q e st' := rfl
theorem codeVC_scope (body : Code) : codeVC P C J Jc (.scope body) st Q = codeVC P C J Jc body st fun e st' => match e with | .goto _ => False | e => Q e st' := rfl
theorem codeVC_loop (body : Code) : codeVC P C J Jc (.loop body) st Q = (match J (firstRegion body) with
     | none => (match C.dep (firstRegion body) with
       | none => False
       | some f => (∃ m t, stLe C.k m ((f st).st t) st ∧ (f st).pr t) ∧ ∀ t, (f st).pr t → forceSt ((f st).st t) fun st' => codeVC P C J Jc body st' fun e st' => match e with | .normal => ∃ m t', stLe C.k m ((f st).st t') st' ∧ (f st).pr t' ∧ (f st).μ t' < (f st).μ t | e => Q e st')
     | some I => (∃ m t, stLe C.k m (I.st t) st ∧ I.pr t) ∧ ∀ t, I.pr t → forceSt (I.st t) fun st => codeVC P C J Jc body st fun e st' => match e with | .normal => ∃ m t', stLe C.k m (I.st t') st' ∧ I.pr t' ∧ I.μ t' < I.μ t | e => Q e st') := rfl
end

def codeB (C : Cfg) : Code → Bool
  | .region id ops draw => (match C.plan id with | none => regionB C.q ops draw | some p => planOk C.q ops draw p)
  | .seq a b => codeB C a && codeB C b
  | .cond _ x y => codeB C x && codeB C y
  | .block _ b => codeB C b
  | .loop b => codeB C b
  | .scope b => codeB C b
  | _ => true

/-- Code that only looks. -/
def codeQ (C : Cfg) : Code → Bool
  | .region id ops _ => (match C.plan id with | none => noEff C.q ops.toList | some _ => false)
  | .seq a b => codeQ C a && codeQ C b
  | .cond _ x y => codeQ C x && codeQ C y
  | .block _ b => codeQ C b
  | .loop b => codeQ C b
  | .scope b => codeQ C b
  | _ => true

section
variable {P : Program} {C : Cfg} {w0 : World} {L : Nat → Prop}

theorem preB_spec : ∀ {k i : Nat} {m : List Nat}, preB k i m = true → k ≤ m.length ∧ ∀ j, j < k → m[j]? = some (i + j)
  | 0, i, m, _ => ⟨by simp, by simp⟩
  | k + 1, i, [], h => by simp [preB] at h
  | k + 1, i, a :: r, h => by
    simp only [preB, Bool.and_eq_true] at h
    obtain ⟨h1, h2⟩ := preB_spec h.2
    have e := Nat.eq_of_beq_eq_true h.1
    refine ⟨by simp; omega, fun j hj => ?_⟩
    cases j with
    | zero => simp [e]
    | succ j => simp only [List.getElem?_cons_succ]; rw [h2 j (by omega)]; congr 1; omega

theorem ext_map {ρ0 ρ : Plc} (hx : Ext ρ0 ρ) {m : List Nat} (h : preB ρ0.length 0 m = true) : Ext ρ0 (m.map (pl ρ)) := by
  obtain ⟨r, rfl⟩ := hx
  obtain ⟨h1, h2⟩ := preB_spec h
  refine ⟨(m.drop ρ0.length).map (pl (ρ0 ++ r)), ?_⟩
  apply List.ext_getElem?
  intro i
  rcases Nat.lt_or_ge i ρ0.length with hi | hi
  · rw [List.getElem?_append_left hi, List.getElem?_map, h2 i hi]
    simp [pl, List.getElem?_append_left hi, hi]
  · rw [List.getElem?_append_right hi]
    simp only [List.getElem?_map, List.getElem?_drop]
    rw [show ρ0.length + (i - ρ0.length) = i by omega]

theorem stLe_sound {m : List Nat} {inv cur : St} {ρ0 : Plc} (hk : ρ0.length = C.k) (h : stLe C.k m inv cur) {ρ : Plc} {a : Act} {w : World} (hr : Rep w0 L ρ cur a w) (hx : Ext ρ0 ρ) : Rep w0 L (m.map (pl ρ)) inv a w ∧ Ext ρ0 (m.map (pl ρ)) := by
  unfold stLe at h
  rw [guardT_eq, Bool.and_eq_true] at h
  exact ⟨⟨avsLe_den h.2.1 hr.slots, hr.heap.sub h.2.2 h.1.1, hr.kept, hr.defers⟩, ext_map hx (by rw [hk]; exact h.1.2)⟩

theorem codeVC_sound (hT : TOk P C.T) (hm : P.follows .mixedOrders = true) {J Jc : Nat → Option LInv} {ρ0 : Plc} (hk0 : ρ0.length = C.k) {qq : Bool} : ∀ (c : Code) (st : St) (K : Exit → St → Prop) (Q : Exit → Act → World → Prop) (ρ : Plc) (a : Act) (w : World), codeB C c = true → (qq = true → codeQ C c = true) → codeVC P C J Jc c st K → Rep w0 L ρ st a w → Ext ρ0 ρ → Tr qq w0 w →
    (∀ e st' ρ' a' w', K e st' → Rep w0 L ρ' st' a' w' → Ext ρ0 ρ' → Tr qq w0 w' → Q e a' w') → c.wp P Q a w
  | .skip, st, K, Q, ρ, a, w, _, _, h, hr, hx, htr, hQ => wp_skip (hQ _ _ _ _ _ h hr hx htr)
  | .label l, st, K, Q, ρ, a, w, _, _, h, hr, hx, htr, hQ => wp_label (hQ _ _ _ _ _ h hr hx htr)
  | .region id ops draw, st, K, Q, ρ, a, w, hB, hqc, h, hr, hx, htr, hQ => by
    unfold codeB at hB
    rw [codeVC_region] at h
    unfold codeQ at hqc
    split at h
    · rename_i hp
      rw [hp] at hB hqc
      exact region_sound hT hm hB hqc h hr hx htr fun st' ρ' a' w' hk hr' hx' ht' => hQ _ _ _ _ _ hk hr' hx' ht'
    · rename_i p hp
      rw [hp] at hB hqc
      refine region_plan hT hm hB h hr hx fun st' ρ' a' w' hk hr' hx' => hQ _ _ _ _ _ hk hr' hx' fun hq => ?_
      cases hqc hq
  | .exit id, st, K, Q, ρ, a, w, _, _, h, hr, hx, htr, hQ => wp_exit (hQ _ _ _ _ _ h hr hx htr)
  | .ret, st, K, Q, ρ, a, w, _, _, h, hr, hx, htr, hQ => wp_ret (hQ _ _ _ _ _ h hr hx htr)
  | .goto l, st, K, Q, ρ, a, w, _, _, h, hr, hx, htr, hQ => wp_goto (hQ _ _ _ _ _ h hr hx htr)
  | .scope c, st, K, Q, ρ, a, w, hB, hqc, h, hr, hx, htr, hQ => by
    simp only [codeB] at hB
    rw [codeVC_scope] at h
    refine wp_scope_straight (codeVC_sound hT hm hk0 c st _ _ ρ a w hB hqc h hr hx htr fun e st' ρ' a' w' hk hr' hx' ht' => ?_)
    cases e with
    | normal => exact hQ _ _ _ _ _ hk hr' hx' ht'
    | exit k => exact hQ _ _ _ _ _ hk hr' hx' ht'
    | goto l => exact hk.elim
    | ret => exact hQ _ _ _ _ _ hk hr' hx' ht'
    | panic ch => exact hQ _ _ _ _ _ hk hr' hx' ht'
    | outgrown => exact hQ _ _ _ _ _ hk hr' hx' ht'
  | .rangeFunc _ _ _ _, st, K, Q, ρ, a, w, _, _, h, hr, hx, htr, hQ => h.elim
  | .refuse _, st, K, Q, ρ, a, w, _, _, h, hr, hx, htr, hQ => h.elim
  | .seq x y, st, K, Q, ρ, a, w, hB, hqc, h, hr, hx, htr, hQ => by
    simp only [codeB, Bool.and_eq_true] at hB
    have hq1 : qq = true → codeQ C x = true := fun hq => by have := hqc hq; simp only [codeQ, Bool.and_eq_true] at this; exact this.1
    have hq2 : qq = true → codeQ C y = true := fun hq => by have := hqc hq; simp only [codeQ, Bool.and_eq_true] at this; exact this.2
    simp only [codeVC_seq, codeVC_cond, codeVC_block, codeVC_loop, forceSt_eq] at h
    refine wp_seq ?_
    split at h
    · refine codeVC_sound hT hm hk0 x st _ _ ρ a w hB.1 hq1 h hr hx htr fun e st' ρ' a' w' hk hr' hx' ht' => ?_
      cases e with
      | normal => exact codeVC_sound hT hm hk0 y st' K Q ρ' a' w' hB.2 hq2 hk hr' hx' ht' hQ
      | exit id => exact hQ _ _ _ _ _ hk hr' hx' ht'
      | goto l => exact hQ _ _ _ _ _ hk hr' hx' ht'
      | ret => exact hQ _ _ _ _ _ hk hr' hx' ht'
      | panic ch => exact hQ _ _ _ _ _ hk hr' hx' ht'
      | outgrown => exact hQ _ _ _ _ _ hk hr' hx' ht'
    · rename_i I hI
      obtain ⟨h1, h2⟩ := h
      refine codeVC_sound hT hm hk0 x st _ _ ρ a w hB.1 hq1 h1 hr hx htr fun e st' ρ' a' w' hk hr' hx' ht' => ?_
      cases e with
      | normal =>
        obtain ⟨m, t, hle, hp⟩ := hk
        exact codeVC_sound hT hm hk0 y _ K Q _ a' w' hB.2 hq2 (h2 t hp) (stLe_sound hk0 hle hr' hx').1 (stLe_sound hk0 hle hr' hx').2 ht' hQ
      | exit id => exact hQ _ _ _ _ _ hk hr' hx' ht'
      | goto l => exact hQ _ _ _ _ _ hk hr' hx' ht'
      | ret => exact hQ _ _ _ _ _ hk hr' hx' ht'
      | panic ch => exact hQ _ _ _ _ _ hk hr' hx' ht'
      | outgrown => exact hQ _ _ _ _ _ hk hr' hx' ht'
  | .cond c x y, st, K, Q, ρ, a, w, hB, hqc, h, hr, hx, htr, hQ => by
    simp only [codeB, Bool.and_eq_true] at hB
    have hq1 : qq = true → codeQ C x = true := fun hq => by have := hqc hq; simp only [codeQ, Bool.and_eq_true] at this; exact this.1
    have hq2 : qq = true → codeQ C y = true := fun hq => by have := hqc hq; simp only [codeQ, Bool.and_eq_true] at this; exact this.2
    simp only [codeVC_seq, codeVC_cond, codeVC_block, codeVC_loop, forceSt_eq] at h
    split at h
    · rename_i b hc
      have hd := av_den hr c
      rw [hc] at hd
      simp only [Den] at hd
      cases b
      · exact wp_cond_false hd (codeVC_sound hT hm hk0 y st K Q ρ a w hB.2 hq2 h hr hx htr hQ)
      · exact wp_cond_true hd (codeVC_sound hT hm hk0 x st K Q ρ a w hB.1 hq1 h hr hx htr hQ)
    · exact h.elim
  | .block id body, st, K, Q, ρ, a, w, hB, hqc, h, hr, hx, htr, hQ => by
    simp only [codeB] at hB
    simp only [codeVC_seq, codeVC_cond, codeVC_block, codeVC_loop, forceSt_eq] at h
    refine wp_block (codeVC_sound hT hm hk0 body st _ _ ρ a w hB hqc h hr hx htr fun e st' ρ' a' w' hk hr' hx' ht' => ?_)
    cases e with
    | normal => exact hQ _ _ _ _ _ hk hr' hx' ht'
    | exit k =>
      simp only [Exit.inBlock] at hk ⊢
      by_cases hid : k = id
      · subst hid
        have : Nat.beq k k = true := by simp
        rw [this] at hk
        rw [if_pos rfl]
        exact hQ _ _ _ _ _ hk hr' hx' ht'
      · have : Nat.beq k id = false := by
          cases hb : Nat.beq k id with
          | false => rfl
          | true => exact absurd (Nat.eq_of_beq_eq_true hb) hid
        rw [this] at hk
        rw [if_neg hid]
        exact hQ _ _ _ _ _ hk hr' hx' ht'
    | goto l => exact hQ _ _ _ _ _ hk hr' hx' ht'
    | ret => exact hQ _ _ _ _ _ hk hr' hx' ht'
    | panic ch => exact hQ _ _ _ _ _ hk hr' hx' ht'
    | outgrown => exact hQ _ _ _ _ _ hk hr' hx' ht'
  | .loop body, st, K, Q, ρ, a, w, hB, hqc, h, hr, hx, htr, hQ => by
    simp only [codeB] at hB
    simp only [codeVC_seq, codeVC_cond, codeVC_block, codeVC_loop, forceSt_eq] at h
    have go : ∀ I : LInv, ((∃ m t, stLe C.k m (I.st t) st ∧ I.pr t) ∧ ∀ t, I.pr t → codeVC P C J Jc body (I.st t) fun e st' => match e with | .normal => ∃ m t', stLe C.k m (I.st t') st' ∧ I.pr t' ∧ I.μ t' < I.μ t | e => K e st') → (Code.loop body).wp P Q a w := fun I h => by
      obtain ⟨⟨m, t, hle, hp⟩, hround⟩ := h
      refine wp_loop_ghost (fun n a w => ∃ t ρ, I.pr t ∧ I.μ t = n ∧ Rep w0 L ρ (I.st t) a w ∧ Ext ρ0 ρ ∧ Tr qq w0 w) (I.μ t) ⟨t, _, hp, rfl, (stLe_sound hk0 hle hr hx).1, (stLe_sound hk0 hle hr hx).2, htr⟩ ?_
      rintro n a w ⟨t, ρ, hp, rfl, hr, hx, htr⟩
      refine codeVC_sound hT hm hk0 body _ _ _ ρ a w hB hqc (hround t hp) hr hx htr fun e st' ρ' a' w' hk hr' hx' ht' => ?_
      cases e with
      | normal =>
        obtain ⟨m, t', hle, hp', hlt⟩ := hk
        exact ⟨_, hlt, t', _, hp', rfl, (stLe_sound hk0 hle hr' hx').1, (stLe_sound hk0 hle hr' hx').2, ht'⟩
      | exit id => exact hQ _ _ _ _ _ hk hr' hx' ht'
      | goto l => exact hQ _ _ _ _ _ hk hr' hx' ht'
      | ret => exact hQ _ _ _ _ _ hk hr' hx' ht'
      | panic ch => exact hQ _ _ _ _ _ hk hr' hx' ht'
      | outgrown => exact hQ _ _ _ _ _ hk hr' hx' ht'
    split at h
    · split at h
      · exact h.elim
      · exact go _ h
    · exact go _ h

/-- What a function hands back: its result slots. -/
def resAV (st : St) : List Tmp → AV
  | [t] => slot st.sl t
  | ts => .tup (ts.map (slot st.sl))

theorem res_sound {fn : Func} {ts : List Tmp} (h : fn.results = (ts.map ResultVar.tmp).toArray) {st : St} {ρ : Plc} {a : Act} {w : World} (hr : Rep w0 L ρ st a w) :
    ∃ v, (results fn a.tmps).run P w = .ok v w ∧ Den ρ (resAV st ts) v := by
  have hds : ∀ ts : List Tmp, Dens ρ (ts.map (slot st.sl)) (ts.map fun t => a.tmps.getD t undef) := by
    intro ts
    induction ts with
    | nil => simp [Dens]
    | cons t ts ih => simp only [List.map_cons, Dens]; exact ⟨_, _, rfl, slot_den hr.slots t, ih⟩
  have hmap : ∀ (g : ResultVar → Sem Value), (∀ t, g (.tmp t) = pure (a.tmps.getD t undef)) → ∀ ts : List Tmp, (ts.map ResultVar.tmp).toArray.mapM g = pure (ts.map fun t => a.tmps.getD t undef).toArray := by
    intro g hg ts
    have : ∀ ts : List Tmp, (ts.map ResultVar.tmp).mapM g = pure (ts.map fun t => a.tmps.getD t undef) := by
      intro ts
      induction ts with
      | nil => rfl
      | cons t ts ih => simp only [List.map_cons, List.mapM_cons, hg, ih, pure_bind]
    rw [List.mapM_toArray, this, map_pure]
  unfold results
  rw [h, hmap _ (fun t => rfl)]
  match ts with
  | [] => exact ⟨.tuple #[], by simp, by simp only [resAV, Den]; exact ⟨[], rfl, by simp [Dens]⟩⟩
  | [t] => exact ⟨a.tmps.getD t undef, by simp, slot_den hr.slots t⟩
  | t :: u :: r => exact ⟨.tuple ((t :: u :: r).map fun t => a.tmps.getD t undef).toArray, by simp, by simp only [resAV, Den]; exact ⟨_, rfl, hds (t :: u :: r)⟩⟩

/-- The end of a function: one of its outcomes. -/
def anyOut (k : Nat) : List FOut → AV → List Seg → Prop
  | [], _, _ => False
  | o :: r, x, H => (∃ y m, guardT (nodupB m (o.segs y) && preB k 0 m) (avLe m (o.res y) x ∧ segsLe m H m (o.segs y) ∧ o.pp y)) ∨ anyOut k r x H

theorem anyOut_out {k : Nat} : ∀ {outs : List FOut} {x : AV} {H : List Seg}, anyOut k outs x H → ∃ o ∈ outs, ∃ y m, (nodupB m (o.segs y) = true ∧ preB k 0 m = true) ∧ avLe m (o.res y) x ∧ segsLe m H m (o.segs y) ∧ o.pp y
  | [], _, _, h => h.elim
  | o :: r, x, H, h => by
    rcases h with ⟨y, m, h⟩ | h
    · rw [guardT_eq, Bool.and_eq_true] at h; exact ⟨o, by simp, y, m, h⟩
    · obtain ⟨o', h1, h2⟩ := anyOut_out h
      exact ⟨o', by simp [h1], h2⟩

def fillTo : Nat → List AV → List AV
  | 0, l => l
  | n + 1, [] => .tup [] :: fillTo n []
  | n + 1, a :: l => a :: fillTo n l

theorem fillTo_den {ρ : Plc} : ∀ (n : Nat) (l : List AV) (vs : List Value), Dens ρ l vs → Dens ρ (fillTo n l) (vs ++ List.replicate (n - vs.length) undef)
  | 0, l, vs, h => by simpa [fillTo] using h
  | n + 1, [], vs, h => by
    simp only [Dens] at h; subst h
    have := fillTo_den (ρ := ρ) n [] [] (by simp [Dens])
    simp only [fillTo, Dens]
    exact ⟨undef, List.replicate n undef, by simp [List.replicate_succ], den_undef ρ, by simpa using this⟩
  | n + 1, a :: l, vs, h => by
    simp only [Dens] at h
    obtain ⟨v, r, rfl, h1, h2⟩ := h
    simp only [fillTo, Dens]
    exact ⟨v, r ++ List.replicate (n - r.length) undef, by simp, h1, fillTo_den n l r h2⟩

/-- A FUNCTION, BY ITS BODY. -/
theorem fits_of_body {P : Program} {C : Cfg} (hT : TOk P C.T) (hm : P.follows .mixedOrders = true) {f : FuncId} {fn : Func} {c : Code} {s : FSpec} (J Jc : Nat → Option LInv) {ts : List Tmp}
    (hf : P.funcs[f]? = some fn) (hb : fn.body = some c) (hname : (fn.name == "runtime.NumGoroutine") = false) (hres : fn.results = (ts.map ResultVar.tmp).toArray) (hB : codeB C c = true) (hk : s.heap.length = C.k)
    (h : forceSt ⟨fillTo fn.ntmps s.args, s.heap⟩ fun st => codeVC P C J Jc c st fun e st => match e with | .normal => anyOut C.k s.outs (resAV st ts) st.hp | .ret => anyOut C.k s.outs (resAV st ts) st.hp | _ => False) : Fits P f s := by
  rw [forceSt_eq] at h
  refine ⟨⟨fn, hf, hname, by simp [hb]⟩, fun w0 L ρ vs hh hd => ?_⟩
  refine calls_of_wp hf hb ?_
  have hn := hh.names
  have hr : Rep w0 L ρ ⟨fillTo fn.ntmps s.args, s.heap⟩ { tmps := vs.toArray ++ Array.replicate (fn.ntmps - vs.toArray.size) undef, defers := [] } w0 :=
    ⟨by simpa using fillTo_den fn.ntmps s.args vs hd, hh, Kept.refl _ _, rfl⟩
  refine codeVC_sound hT hm (ρ0 := ρ) (by omega) (qq := false) c _ _ _ ρ _ w0 hB (fun h => by cases h) h hr ⟨[], by simp⟩ (fun h => by cases h) fun e st' ρ' a' w' hk' hr' hx' _ => ?_
  have fin : anyOut C.k s.outs (resAV st' ts) st'.hp → a'.defers = [] ∧ ∃ v, (results fn a'.tmps).run P w' = .ok v w' ∧ ∃ o ∈ s.outs, ∃ y, o.pp y ∧ ∃ v' ρ'', Ending.returned v = .returned v' ∧ Den (ρ ++ ρ'') (o.res y) v' ∧ HeapOk w0.heap.size L (ρ ++ ρ'') (o.segs y) w' ∧ Kept w0 L w' := fun hout => by
    obtain ⟨o, ho, y, m, ⟨g1, g2⟩, g3, g4, g5⟩ := anyOut_out hout
    obtain ⟨v, hv, hdv⟩ := res_sound (P := P) hres hr'
    obtain ⟨r, hr2⟩ := ext_map hx' (m := m) (by rw [show ρ.length = C.k by omega]; exact g2)
    have h1 := avLe_den g3 hdv
    have h2 := hr'.heap.sub g4 g1
    rw [hr2] at h1 h2
    exact ⟨hr'.defers, v, hv, o, ho, y, g5, v, r, rfl, h1, h2, hr'.kept⟩
  cases e with
  | normal => exact fin hk'
  | ret => exact fin hk'
  | exit id => exact hk'.elim
  | goto l => exact hk'.elim
  | panic ch => exact hk'.elim
  | outgrown => exact hk'.elim

/-- A FUNCTION THAT ONLY LOOKS, BY ITS BODY. -/
theorem qfits_of_body {P : Program} {C : Cfg} (hT : TOk P C.T) (hm : P.follows .mixedOrders = true) {f : FuncId} {fn : Func} {c : Code} {s : QSpec} (J Jc : Nat → Option LInv) {ts : List Tmp} {v : Value}
    (hf : P.funcs[f]? = some fn) (hb : fn.body = some c) (hname : (fn.name == "runtime.NumGoroutine") = false) (hres : fn.results = (ts.map ResultVar.tmp).toArray) (hB : codeB C c = true) (hQ : codeQ C c = true) (hk : s.heap.length = C.k) (hg : ground s.res = some v)
    (h : forceSt ⟨fillTo fn.ntmps s.args, s.heap⟩ fun st => codeVC P C J Jc c st fun e st => match e with | .normal => avLe [] s.res (resAV st ts) | .ret => avLe [] s.res (resAV st ts) | _ => False) : QFits P f s := by
  refine ⟨⟨fn, hf, hname, by simp [hb]⟩, v, hg, fun B L w ρ vs hh hd => ?_⟩
  rw [forceSt_eq] at h
  refine calls_of_wp hf hb ?_
  have hn := hh.names
  have hr : Rep w (fun _ => True) ρ ⟨fillTo fn.ntmps s.args, s.heap⟩ { tmps := vs.toArray ++ Array.replicate (fn.ntmps - vs.toArray.size) undef, defers := [] } w :=
    ⟨by simpa using fillTo_den fn.ntmps s.args vs hd, ⟨hh.names, hh.cells, fun _ _ _ _ _ => .inr trivial, hh.apart⟩, Kept.refl _ _, rfl⟩
  refine codeVC_sound hT hm (ρ0 := ρ) (by omega) (qq := true) c _ _ _ ρ _ w hB (fun _ => hQ) h hr ⟨[], by simp⟩ (fun _ => ⟨0, rfl⟩) fun e st' ρ' a' w' hk' hr' hx' ht' => ?_
  have fin : avLe [] s.res (resAV st' ts) → a'.defers = [] ∧ ∃ u, (results fn a'.tmps).run P w' = .ok u w' ∧ (Ending.returned u = .returned v ∧ ∃ n, w' = w.drewN n) := fun hle => by
    obtain ⟨u, hu, hdv⟩ := res_sound (P := P) hres hr'
    have h1 := avLe_den hle hdv
    have := (ground_den hg _).2 u h1
    exact ⟨hr'.defers, u, hu, by rw [this], ht' rfl⟩
  cases e with
  | normal => exact fin hk'
  | ret => exact fin hk'
  | exit id => exact hk'.elim
  | goto l => exact hk'.elim
  | panic ch => exact hk'.elim
  | outgrown => exact hk'.elim
end
end Go.Fw

namespace Go.Fw
set_option linter.unusedSimpArgs false
open Go Go.RowKit

section
variable {P : Program} {C : Cfg}

end
end Go.Fw

namespace Go.Fw
open Go Go.RowKit

theorem two_pow_pos (k : Nat) : (0 : Int) < 2 ^ k := Int.pow_pos (by decide)

theorem i64max : IntKind.i64.max = 9223372036854775807 := rfl

theorem Kept.below {w w' : World} (h : Kept w (fun _ => False) w') : Below w.heap.size w w' := ⟨h.os, h.tape, h.output, h.size, fun k hk => h.block k hk (fun f => f)⟩

/-- A function that only looks, called. -/
theorem QFits.calls {P : Program} {f : FuncId} {s : QSpec} (h : QFits P f s) {v : Value} (hg : ground s.res = some v) (w : World) (ρ : Plc) (vs : List Value) (hh : HeapOk w.heap.size (fun _ => False) ρ s.heap w) (hd : Dens ρ s.args vs) :
    Calls P f vs.toArray w fun e w' => e = .returned v ∧ Below w.heap.size w w' := by
  obtain ⟨_, u, hu, hc⟩ := h
  rw [hg] at hu; cases hu
  exact (hc _ _ w ρ vs hh hd).mono fun e w' ⟨h1, n, h2⟩ => ⟨h1, by subst h2; exact ⟨rfl, rfl, rfl, Nat.le_refl _, fun _ _ => rfl⟩⟩

/-- A function, called from outside. -/
theorem Fits.calls {P : Program} {f : FuncId} {s : FSpec} (h : Fits P f s) (w : World) (ρ : Plc) (vs : List Value) (hh : HeapOk w.heap.size (fun _ => False) ρ s.heap w) (hd : Dens ρ s.args vs) {x : AV} {v : Value} (hg : ground x = some v)
    (hout : ∀ o ∈ s.outs, ∀ y, o.pp y → o.res y = x) : Calls P f vs.toArray w fun e w' => e = .returned v ∧ Below w.heap.size w w' :=
  (h.2 w _ ρ vs hh hd).mono fun e w' ⟨o, ho, y, hy, u, ρ', he, hu, _, hk⟩ => ⟨by rw [hout o ho y hy] at hu; rw [he, (ground_den hg _).2 u hu], hk.below⟩

theorem heapOk_nil (w : World) (L : Nat → Prop) : HeapOk w.heap.size L [] [] w := ⟨rfl, by simp, by simp, by simp⟩

section
open Go.WideShapes Go.ChangeShapes
variable {H : Type} {enc : TypeId × Value → H} {P : Program}

/-- Arguments that a call has left alone read as they read. -/
theorem args_stay (hl : laidOutB P = true) {W W' : World} (hb : Below W.heap.size W W') {sp : Nat → Bool} : ∀ (ts : List TypeId) (vs : List Value) (ds : List (DataW H)) (ps : List MemPlace),
    ts.all (fun t => P.readableRec t && decide (t < P.types.size)) = true → DataW.TrodAll enc P W 0 (fun _ => true) true ts vs ds ps → (∀ p ∈ ps, p.block < W.heap.size) → (∀ p ∈ ps, sp p.block = true) → DataW.TrodAll enc P W' 0 sp true ts vs ds ps
  | [], vs, ds, ps, _, h, _, _ => by
    obtain ⟨rfl, rfl, rfl⟩ := trodAll_nil h
    exact trodAll_mk0
  | t :: ts, vs, ds, ps, hr, h, hlt, hsp => by
    simp only [List.all_cons, Bool.and_eq_true, decide_eq_true_eq] at hr
    obtain ⟨v, vs', d, ds', p, q, rfl, rfl, rfl, h1, h2⟩ := trodAll_cons h
    refine trodAll_cons_mk ?_ (args_stay hl hb ts vs' ds' q hr.2 h2 (fun x hx => hlt x (by simp [hx])) (fun x hx => hsp x (by simp [hx])))
    exact WideElems.Trod_stays hl hr.1.1 hr.1.2 h1 (fun x hx => hb.same (hlt x (by simp [hx]))) (fun x hx => hsp x (by simp [hx]))

/-- A LAW's END: true; what was handed in reads as it did. -/
theorem law_done (hl : laidOutB P = true) {f : Func} {s : ChangeSpec} {apart fresh handsOn again : Bool} {W W' : World} {args : Array Value} {ds : List (DataW H)} {before : List MemPlace} {t : TypeId}
    (hv : s.vars = []) (hrt : f.resultTypes = #[t]) (ht : P.underlying t = some .bool) (hps : f.params.toList.all (fun t => P.readableRec t && decide (t < P.types.size)) = true)
    (hW : DataW.Whole enc P f.params.toList s.vars apart W args.toList ds [] before) (hs : s.fn H (ds ++ []) = { results := [.lit (.bool true)], args := ds }) (hb : Below W.heap.size W W') :
    s.post enc P f apart fresh handsOn again W args (.bool true) W' := by
  have hW' := hW
  obtain ⟨p, q, hA, hV, rfl, hz, hn⟩ := hW
  rw [hv] at hV
  obtain ⟨_, rfl⟩ := trodVars_none hV
  have hlt : ∀ x ∈ p, x.block < W.heap.size := fun x hx => hW'.lt x (by simp [hx])
  have hvars : ∀ (w : World) (sp : Nat → Bool), DataW.TrodVars enc P w sp s.vars (s.fn H (ds ++ [])).vars [] := fun w sp => by rw [hv, hs]; rfl
  have hvars0 : ∀ (w : World) (sp : Nat → Bool), DataW.TrodVars enc P w sp s.vars ([] : List (DataW H)) [] := fun w sp => by rw [hv]; rfl
  have hres : ∀ (b : Nat) (sp : Nat → Bool) (hd : Bool), DataW.TrodAll enc P W' b sp hd f.resultTypes.toList ((Value.bool true).resultList f.resultTypes.size) (s.fn H (ds ++ [])).results [] := fun b sp hd => by
    rw [hs, hrt]
    exact trodAll_cons_mk (shut_bool ht true) trodAll_mk0
  have hargs0 : ∀ sp : Nat → Bool, (∀ x ∈ p, sp x.block = true) → DataW.TrodAll enc P W' 0 sp true f.params.toList args.toList ds p := fun sp hsp => args_stay hl hb _ _ _ _ hps hA hlt hsp
  have hargs : ∀ sp : Nat → Bool, (∀ x ∈ p, sp x.block = true) → DataW.TrodAll enc P W' 0 sp true f.params.toList args.toList (s.fn H (ds ++ [])).args p := fun sp hsp => by
    rw [hs]; exact hargs0 sp hsp
  refine ⟨ds, [], p ++ [], [], p, [], hW', hres _ _ _, hargs _ (fun x hx => by simpa using hlt x hx), hvars _ _, World.keptBut_mono (fun x hx => ⟨hx, .inr (.inl (by simpa using hx))⟩) (hb.frame (· ∈ p ++ [])), fun _ => ⟨?_, (s.fn H (ds ++ [])).results ++ ds, [], p, ⟨p, [], ?_, hvars0 _ _, by simp, ?_, ?_⟩, ?_⟩⟩
  · intro j t' r hj hr
    rw [hrt] at hj hr
    cases j with
    | zero =>
      simp at hj hr
      subst hj
      have e : r = .bool true := by simpa [Value.resultList] using hr.symm
      subst e
      exact okWide_bool_mk ht _
    | succ j => simp at hj
  · exact trodAll_append (hargs0 _ (fun _ _ => rfl)) (hres 0 (fun _ => true) true)
  · intro b off hx
    rw [hb.frozen (hlt _ hx)]
    exact hz b off (by simpa using hx)
  · intro ha
    have := hn ha
    simpa using this
  · intro x hx _
    simpa using hx
end
end Go.Fw

namespace Go.Fw
open Go Go.RowKit
def TOkl (P : Program) : List (Nat × TyI) → Prop
  | [] => True
  | p :: r => Agrees P p.1 p.2 ∧ TOkl P r
/-- The types' table, from a fact for each type. -/
theorem tokl_of {P : Program} : ∀ {l : List (Nat × TyI)}, TOkl P l → TOk P l
  | [], _, p, hp => by simp at hp
  | q :: r, h, p, hp => by
    rcases List.mem_cons.1 hp with rfl | hp
    · exact h.1
    · exact tokl_of h.2 p hp
/-- A row by what stands at each place. -/
def tb {α : Type} (f : Nat → α) (n : Nat) : List α := (List.range n).map f
theorem tab_len {α : Type} (f : Nat → α) (n : Nat) : (tb f n).length = n := by simp [tb]
theorem tab_get {α : Type} (f : Nat → α) (d : α) {n i : Nat} (h : i < n) : (tb f n).getD i d = f i := by
  rw [List.getD_eq_getElem?_getD, tb, List.getElem?_map, List.getElem?_range h]; rfl
theorem tab_snoc {α : Type} (f : Nat → α) (n : Nat) : tb f n ++ [f n] = tb f (n + 1) := by simp [tb, List.range_succ]
theorem tab_congr {α : Type} {f g : Nat → α} {n : Nat} (h : ∀ i, i < n → f i = g i) : tb f n = tb g n := by
  unfold tb
  apply List.map_congr_left
  intro i hi
  exact h i (List.mem_range.1 hi)
/-- Slots i, i + 1, .. : n of them, those that are listed (in their order) with their values. -/
def slotsFrom : Nat → Nat → List (Nat × AV) → List AV
  | 0, _, _ => []
  | n + 1, i, [] => .any :: slotsFrom n (i + 1) []
  | n + 1, i, (j, x) :: r => match Nat.beq i j with
    | true => x :: slotsFrom n (i + 1) r
    | false => .any :: slotsFrom n (i + 1) ((j, x) :: r)
def slotsAt (n : Nat) (l : List (Nat × AV)) : List AV := slotsFrom n 0 l
end Go.Fw
