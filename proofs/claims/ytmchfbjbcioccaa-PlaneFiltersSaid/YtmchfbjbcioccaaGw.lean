/-
  A run of Go code over values and memory that are written out, proved sound once for all programs: what it says holds of every call. No condition: each theorem states its own.
-/
import Derived.Test.YtmchfbjbcioccaaGv
import Derived.OrdersHeld
set_option linter.unusedSimpArgs false
set_option linter.unusedVariables false
namespace Go.Fw
open Go Go.RowKit

def isOneC : CV → Bool
  | .any | .agg _ | .tup _ => false
  | _ => true
theorem isOneC_one {τ : List Nat} {c : CV} {x : AV} (h : isOneC c = true) (hr : Rel τ c x) : isOne x = true := by
  cases c <;> simp [isOneC] at h <;> simp only [Rel] at hr
  case tail => obtain ⟨_, _, rfl, _⟩ := hr; rfl
  case fn => obtain ⟨_, rfl, _⟩ := hr; rfl
  case fnb => obtain ⟨_, rfl, _⟩ := hr; rfl
  all_goals subst hr; rfl

def allOneC : List CV → Bool
  | [] => true
  | c :: r => isOneC c && allOneC r
theorem allOneC_one {τ : List Nat} : ∀ {cs : List CV} {xs : List AV}, allOneC cs = true → Rels τ cs xs → ∀ x ∈ xs, isOne x = true
  | [], _, _, h, x, hx => by simp only [Rels] at h; subst h; simp at hx
  | c :: cs, _, h1, h, x, hx => by
    simp only [allOneC, Bool.and_eq_true] at h1
    simp only [Rels] at h
    obtain ⟨a, r, rfl, g1, g2⟩ := h
    rcases List.mem_cons.1 hx with rfl | hx
    · exact isOneC_one h1.1 g1
    · exact allOneC_one h1.2 g2 x hx

def fitsK (k : Kind) (x : CV) : Bool :=
  match k, x with
  | .bools, .bool _ => true
  | .ints k, .int k' _ => ikEq k k'
  | .flts k, .flt k' _ => fkEq k k'
  | .cpxs k, .cpx k' _ _ => fkEq k k'
  | .strs, .str _ => true
  | .avs, x => isOneC x
  | _, _ => false

/-- The same, by a short look. -/
def sameC (x y : CV) : Bool :=
  match x, y with
  | .int k (.ofNat a), .int k' (.ofNat b) => ikEq k k' && Nat.beq a b
  | .bool a, .bool b => (match a, b with | true, true => true | false, false => true | _, _ => false)
  | _, _ => false
theorem sameC_eq {x y : CV} (h : sameC x y = true) : x = y := by
  unfold sameC at h
  split at h
  · simp only [Bool.and_eq_true] at h
    rw [ikEq_eq h.1, Nat.eq_of_beq_eq_true h.2]
  · split at h <;> first | rfl | cases h
  · cases h
/-- A cell is written; a row that is alike all over stays so where the same is written. -/
def setU (x : CV) (t : Trie CV) (d : List CV) (off : Nat) : Trie CV :=
  match t, d with
  | .nil, [y] => (match sameC x y with | true => .nil | false => Trie.set x .nil off)
  | t, _ => Trie.set x t off
theorem cellC_setU (x : CV) (t : Trie CV) (d : List CV) (off j : Nat) : cellC (setU x t d off) d j = if j = off then x else cellC t d j := by
  have gen : cellC (Trie.set x t off) d j = if j = off then x else cellC t d j := by
    by_cases h : j = off
    · simp [cellC, Trie.get_set, h]
    · simp [cellC, Trie.get_set, h]
  unfold setU
  split
  · rename_i y
    split
    · rename_i h
      have := sameC_eq h
      subst this
      have : cellC .nil [x] j = x := rfl
      rw [this]
      split <;> rfl
    · exact gen
  · exact gen
def setManyC (t : Trie CV) (d : List CV) (off : Nat) : List CV → Trie CV
  | [] => t
  | c :: cs => setManyC (setU c t d off) d (off + 1) cs
theorem setManyC_get : ∀ (cs : List CV) (t : Trie CV) (d : List CV) (off j : Nat), cellC (setManyC t d off cs) d j = if h : off ≤ j ∧ j < off + cs.length then cs[j - off]'(by omega) else cellC t d j
  | [], t, d, off, j => by simp [setManyC]; intro h; omega
  | c :: cs, t, d, off, j => by
    rw [setManyC, setManyC_get cs, cellC_setU]
    by_cases h1 : off + 1 ≤ j ∧ j < off + 1 + cs.length
    · rw [dif_pos h1, dif_pos (by simp; omega)]
      have : j - off = (j - (off + 1)) + 1 := by omega
      simp [this]
    · rw [dif_neg h1]
      by_cases h2 : j = off
      · subst h2
        rw [dif_pos (by simp)]
        simp
      · rw [dif_neg (by simp; omega), if_neg h2]

section
variable {P : Program} {T : List (Nat × TyI)} {w0 : World} {L : Nat → Prop} {ρ : Plc} {τ : List Nat} {s : CSt} {st : St} {a : Act} {w : World}

theorem Gam.setSeg (h : Gam τ s st) {n : Nat} {c c' : Cont} {k : Kind} {t' : Trie CV} {d : List CV} {m : Nat} {op : Bool} (hc : st.hp[n]? = some (.seg true c)) (ht : τ[n]? = some c.avl.length) (hk : kindOf c' = k)
    (hl : c'.avl.length = c.avl.length) (hm : m ≤ c.avl.length) (ho : op = false → c.avl.length = m) (hcs : ∀ j, j < m → ∃ a, c'.avl[j]? = some a ∧ Rel τ (cellC t' d j) a) :
    Gam τ ⟨s.sl, s.n, AL.set (.seg k t' d m op) s.hp n, s.c⟩ ⟨st.sl, Fw.setSeg st.hp n (.seg true c')⟩ := by
  refine ⟨h.len, h.slots, by simp [setSeg_eq, h.names], h.tots, fun i x hx => ?_, h.sz, h.nd.set _ _, fun q hq => by
    rcases List.mem_cons.1 hq with rfl | hq
    · have := (List.getElem?_eq_some_iff.1 hc).1
      have e := h.names
      simp only
      omega
    · exact h.kl q (AL.mem_erase hq)⟩
  rw [AL.getD_set]
  simp only [setSeg_eq, List.getElem?_set] at hx
  by_cases hi : i = n
  · subst hi
    rw [if_pos rfl] at hx ⊢
    split at hx
    · cases hx
      simp only [SegRel]
      exact ⟨c', rfl, hk, by rw [hl]; exact ht, by omega, fun h => by rw [hl]; exact ho h, hcs⟩
    · cases hx
  · rw [if_neg hi]
    rw [if_neg (fun e => hi e.symm)] at hx
    exact h.segs i x hx

theorem Gam.kill (h : Gam τ s st) (n : Nat) : Gam τ ⟨s.sl, s.n, AL.erase s.hp n, s.c⟩ ⟨st.sl, Fw.setSeg st.hp n .dead⟩ := by
  refine ⟨h.len, h.slots, by simp [setSeg_eq, h.names], h.tots, fun i x hx => ?_, h.sz, (h.nd.erase (n := n)).1, fun q hq => h.kl q (AL.mem_erase hq)⟩
  rw [AL.getD_erase _ h.nd]
  simp only [setSeg_eq, List.getElem?_set] at hx
  by_cases hi : i = n
  · subst hi; simp [SegRel]
  · rw [if_neg hi]
    rw [if_neg (fun e => hi e.symm)] at hx
    exact h.segs i x hx

theorem SegRel.grow {i : Nat} {cs : CSeg} {x : Seg} (h : SegRel τ i cs x) (r : List Nat) : SegRel (τ ++ r) i cs x := by
  cases cs with
  | dead => trivial
  | obj o => obtain ⟨x, h1, h2⟩ := h; exact ⟨x, h1, h2.grow r⟩
  | seg k t d n op =>
    simp only [SegRel] at h ⊢
    obtain ⟨c, h1, h2, h3, h4, h5, h6⟩ := h
    exact ⟨c, h1, h2, by rw [List.getElem?_append_left (List.getElem?_eq_some_iff.1 h3).1]; exact h3, h4, h5, fun j hj => by obtain ⟨a, g1, g2⟩ := h6 j hj; exact ⟨a, g1, g2.grow r⟩⟩

theorem Gam.push (h : Gam τ s st) {c : Cont} {k : Kind} {t' : Trie CV} {d : List CV} {m : Nat} {op : Bool} (hk : kindOf c = k) (hm : m ≤ c.avl.length) (ho : op = false → c.avl.length = m)
    (hcs : ∀ j, j < m → ∃ a, c.avl[j]? = some a ∧ Rel (τ ++ [c.avl.length]) (cellC t' d j) a) :
    Gam (τ ++ [c.avl.length]) ⟨s.sl, s.n, AL.push (.seg k t' d m op) s.hp s.c, s.c + 1⟩ ⟨st.sl, st.hp ++ [.seg true c]⟩ := by
  refine ⟨h.len, fun t ht => (h.slots t ht).grow _, by simp [h.names], by simp [h.tots], fun i x hx => ?_, h.sz, h.nd.push h.kl _, fun q hq => by
    rcases List.mem_cons.1 hq with rfl | hq
    · exact Nat.lt_succ_self _
    · exact Nat.lt_succ_of_lt (h.kl q hq)⟩
  rw [AL.getD_push]
  rcases Nat.lt_or_ge i st.hp.length with hi | hi
  · rw [List.getElem?_append_left hi] at hx
    have := h.names
    rw [if_neg (by omega)]
    exact (h.segs i x hx).grow _
  · rw [List.getElem?_append_right hi] at hx
    have hie : i = st.hp.length := by
      rcases Nat.lt_or_ge (i - st.hp.length) 1 with h5 | h5
      · omega
      · rw [List.getElem?_eq_none (by simpa using h5)] at hx; cases hx
    subst hie
    simp at hx
    subst hx
    rw [if_pos h.names]
    simp only [SegRel]
    refine ⟨c, rfl, hk, ?_, hm, ho, hcs⟩
    rw [List.getElem?_append_right (by rw [h.tots, h.names]; exact Nat.le_refl _)]
    simp [h.tots, h.names]

/-- One cell is written. -/
theorem setC_in {c : Cont} {i : Nat} {x : AV} {K : Cont → Prop} {xc : CV} (hf : fitsK (kindOf c) xc = true) (hr : Rel τ xc x) (hi : i < c.avl.length)
    (hk : ∀ c', kindOf c' = kindOf c → c'.avl = c.avl.set i x → K c') : setC c i x K := by
  cases c with
  | avs l =>
    have h1 : isOne x = true := isOneC_one (by simpa [kindOf, fitsK] using hf) hr
    have hi' : i < l.length := by simpa [Cont.avl] using hi
    unfold setC
    simp only [guardT_eq, h1, true_and]
    exact ⟨by simpa [Nat.blt_eq] using hi', hk _ rfl (by simp [Cont.avl, setAt_eq])⟩
  | bools l =>
    cases xc <;> simp [kindOf, fitsK] at hf
    simp only [Rel] at hr; subst hr
    exact ⟨by simpa [Cont.avl] using hi, hk _ rfl (by simp [Cont.avl, List.map_set])⟩
  | strs l =>
    cases xc <;> simp [kindOf, fitsK] at hf
    simp only [Rel] at hr; subst hr
    exact ⟨by simpa [Cont.avl] using hi, hk _ rfl (by simp [Cont.avl, List.map_set])⟩
  | ints k l =>
    cases xc <;> simp [kindOf, fitsK] at hf
    have e := ikEq_eq hf; subst e
    simp only [Rel] at hr; subst hr
    simp only [setC, guardT_eq]
    exact ⟨ikEq_refl k, by simpa [Cont.avl] using hi, hk _ rfl (by simp [Cont.avl, List.map_set])⟩
  | flts k l =>
    cases xc <;> simp [kindOf, fitsK] at hf
    have e := fkEq_eq hf; subst e
    simp only [Rel] at hr; subst hr
    simp only [setC, guardT_eq]
    exact ⟨fkEq_refl k, by simpa [Cont.avl] using hi, hk _ rfl (by simp [Cont.avl, List.map_set])⟩
  | cpxs k l =>
    cases xc <;> simp [kindOf, fitsK] at hf
    have e := fkEq_eq hf; subst e
    simp only [Rel] at hr; subst hr
    simp only [setC, guardT_eq]
    exact ⟨fkEq_refl k, by simpa [Cont.avl] using hi, hk _ rfl (by simp [Cont.avl, List.map_set])⟩
  | cols cs => cases xc <;> simp [kindOf, fitsK] at hf

theorem setMany_in : ∀ (xs : List AV) (l : List AV) (i : Nat) (K : Cont → Prop), i + xs.length ≤ l.length → (∀ x ∈ xs, isOne x = true) → K (.avs (l.take i ++ xs ++ l.drop (i + xs.length))) → setMany (.avs l) i xs K
  | [], l, i, K, _, _, hk => by simpa [setMany] using hk
  | x :: xs, l, i, K, hl, h1, hk => by
    simp only [List.length_cons] at hl
    simp only [setMany, setC, guardT_eq]
    refine ⟨by simp [Nat.blt_eq]; omega, h1 x (by simp), ?_⟩
    refine setMany_in xs _ _ _ (by simp [setAt_eq]; omega) (fun y hy => h1 y (by simp [hy])) ?_
    rw [setAt_eq]
    rw [splice_succ l i x xs (by omega)]
    exact hk

theorem setWhole_in (xs : List AV) (l : List AV) (i : Nat) (K : Cont → Prop) (hl : i + xs.length ≤ l.length) (h1 : ∀ x ∈ xs, isOne x = true) (hk : K (.avs (l.take i ++ xs ++ l.drop (i + xs.length)))) : setWhole (.avs l) i xs K := by
  show (match Nat.beq i 0 && (Nat.beq (Cont.avs l).len xs.length && xs.all isOne) with
    | true => K (.avs xs)
    | false => setMany (.avs l) i xs K)
  split
  · rename_i hb
    simp only [Bool.and_eq_true] at hb
    obtain ⟨h0, h2, _⟩ := hb
    have h0 := Nat.eq_of_beq_eq_true h0
    have h2 := Nat.eq_of_beq_eq_true h2
    subst h0
    simp only [Cont.len] at h2
    rw [List.drop_eq_nil_of_le (by omega)] at hk
    simpa using hk
  · exact setMany_in xs l i K hl h1 hk

def storeC (T : List (Nat × TyI)) (s : CSt) (t : Nat) (ad x : CV) : Option (AL CSeg) :=
  match ad with
  | .ptr n off => (match segC s n with
    | .seg k tr d m op => (match sizeAt T t with
      | some sz => (match x with
        | .agg cs => (match Nat.beq cs.length sz && (Nat.ble (off + sz) m && allOneC cs), k with
          | true, .avs => (setManyC tr d off cs).force fun tr => some (AL.set (.seg .avs tr d m op) s.hp n)
          | _, _ => none)
        | x => (match Nat.beq 1 sz && (Nat.blt off m && fitsK k x) with
          | true => forceV x fun x => (setU x tr d off).force fun tr => some (AL.set (.seg k tr d m op) s.hp n)
          | false => none))
      | none => none)
    | _ => none)
  | _ => none

theorem storeC_vc {t : Nat} {ad x : Operand} {hp' : AL CSeg} (h : storeC T s t (evalC s ad) (evalC s x) = some hp') (hg : Gam τ s st) (hr : Rep w0 L ρ st a w) :
    storeAV T st.hp t (av st ad) (av st x) (fun H => Gam τ ⟨s.sl, s.n, hp', s.c⟩ ⟨st.sl, H⟩) := by
  unfold storeC at h
  split at h
  · rename_i n off had
    have ead := evalC_rel hg ad
    rw [had] at ead
    simp only [Rel] at ead
    have hn := hr.ptr_lt ead
    rw [ead]
    split at h
    · rename_i k tr d m op hseg
      obtain ⟨cc, e1, e1', e2, e3, e4, e5, e6⟩ := hg.seg hseg hn
      simp only [storeAV, e1]
      split at h
      · rename_i sz hsz
        rw [hsz]
        have ex := evalC_rel hg x
        split at h
        · rename_i cs hx
          rw [hx] at ex
          simp only [Rel] at ex
          obtain ⟨xs, ex, hxs⟩ := ex
          rw [ex]
          split at h
          · rename_i hb
            simp only [Bool.and_eq_true] at hb
            obtain ⟨b1, b2, b3⟩ := hb
            have b1 := Nat.eq_of_beq_eq_true b1
            have b2 : off + sz ≤ m := by simpa using b2
            simp only [Trie.force_eq, Option.some.injEq] at h
            subst h
            cases cc <;> simp only [kindOf, reduceCtorEq] at e2
            rename_i l
            simp only [Cont.avl] at e3 e4 e5 e6
            have hlen := hxs.len
            simp only [guardT_eq]
            refine ⟨by rw [← hlen, b1]; simp, setWhole_in xs l off _ (by omega) (allOneC_one b3 hxs) ?_⟩
            refine hg.setSeg (c := .avs l) e1' e3 rfl (by simp [Cont.avl]; omega) e4 e5 fun j hj => ?_
            rw [setManyC_get]
            simp only [Cont.avl]
            by_cases hj2 : off ≤ j ∧ j < off + cs.length
            · rw [dif_pos hj2]
              obtain ⟨y, g1, g2⟩ := hxs.get (j - off) _ (List.getElem?_eq_getElem (by omega))
              refine ⟨y, ?_, g2⟩
              rw [List.append_assoc, List.getElem?_append_right (by simp; omega)]
              have : (l.take off).length = off := by simp; omega
              rw [this, List.getElem?_append_left (by omega)]
              exact g1
            · rw [dif_neg hj2]
              obtain ⟨y, g1, g2⟩ := e6 j hj
              refine ⟨y, ?_, g2⟩
              rcases Nat.lt_or_ge j off with hjo | hjo
              · rw [List.append_assoc, List.getElem?_append_left (by simp; omega), List.getElem?_take, if_pos hjo]; exact g1
              · rw [List.getElem?_append_right (by simp; omega)]
                have : (l.take off ++ xs).length = off + xs.length := by simp; omega
                rw [this, List.getElem?_drop]
                rw [show off + xs.length + (j - (off + xs.length)) = j by omega]; exact g1
          · cases h
        · rename_i hnot
          split at h
          · rename_i hb
            simp only [Bool.and_eq_true] at hb
            obtain ⟨b1, b2, b3⟩ := hb
            simp only [Trie.force_eq, forceV_eq, Option.some.injEq] at h
            subst h
            have b2 : off < m := by simpa [Nat.blt_eq] using b2
            have hset : setC cc off (av st x) (fun c' => Gam τ ⟨s.sl, s.n, AL.set (.seg k (setU (evalC s x) tr d off) d m op) s.hp n, s.c⟩ ⟨st.sl, Fw.setSeg st.hp n (.seg true c')⟩) := by
              refine setC_in (by rw [e2]; exact b3) ex (by omega) fun c' h1 h2 => ?_
              refine hg.setSeg e1' e3 (by rw [h1, e2]) (by rw [h2]; simp) e4 e5 fun j hj => ?_
              rw [h2]
              by_cases hjo : j = off
              · subst hjo
                refine ⟨_, by rw [List.getElem?_set_self (by omega)], ?_⟩
                rw [cellC_setU, if_pos rfl]
                exact ex
              · obtain ⟨y, g1, g2⟩ := e6 j hj
                refine ⟨y, by rw [List.getElem?_set_ne (fun e => hjo e.symm)]; exact g1, ?_⟩
                rw [cellC_setU, if_neg hjo]
                exact g2
            have hone : isOneC (evalC s x) = true := by
              revert b3; cases k <;> cases (evalC s x) <;> simp [fitsK, isOneC]
            have hax := isOneC_one hone ex
            generalize hav : av st x = ax at hset hax
            cases ax <;> simp [isOne] at hax <;> simp only [guardT_eq] <;> exact ⟨b1, hset⟩
          · cases h
      · cases h
    · cases h
  · cases h

/-- A new row of cells. -/
def pushC (s : CSt) (k : Kind) (t : Trie CV) (d : List CV) (m : Nat) (op : Bool) (x : CV) : Option (CV × AL CSeg × Nat) :=
  forceN m fun m => t.force fun t => forceN (s.c + 1) fun c => some (x, AL.push (.seg k t d m op) s.hp s.c, c)
theorem pushC_eq (s : CSt) (k : Kind) (t : Trie CV) (d : List CV) (m : Nat) (op : Bool) (x : CV) : pushC s k t d m op x = some (x, AL.push (.seg k t d m op) s.hp s.c, s.c + 1) := by
  simp only [pushC, forceN_eq, Trie.force_eq]

def boxC (s : CSt) (x : CV) : Option (CV × AL CSeg × Nat) :=
  match x with
  | .agg cs => (match allOneC cs with | true => pushC s .avs (setManyC .nil [] 0 cs) [] cs.length false (.ptr s.c 0) | false => none)
  | x => (match isOneC x with | true => pushC s .avs (setManyC .nil [] 0 [x]) [] 1 false (.ptr s.c 0) | false => none)

def allocC (T : List (Nat × TyI)) (s : CSt) (t : Nat) : Option (CV × AL CSeg × Nat) :=
  match tyAt T t with
  | some i => (match allOneC (i.zero.cells.toList.map cvS) with | true => pushC s .avs (setManyC .nil [] 0 (i.zero.cells.toList.map cvS)) [] i.zero.cells.size false (.ptr s.c 0) | false => none)
  | none => none

/-- What an operation that makes memory leaves. -/
def Made (s : CSt) (τ : List Nat) (r : CV × AL CSeg × Nat) (st : St) : AV → List Seg → Prop := fun y H => ∃ q, Rel (τ ++ q) r.1 y ∧ Gam (τ ++ q) ⟨s.sl, s.n, r.2.1, r.2.2⟩ ⟨st.sl, H⟩

theorem gatherO_in : ∀ (xs : List AV) (K : List AV → Prop), (∀ x ∈ xs, isOne x = true) → K xs → gatherO xs K
  | [], K, _, h => h
  | x :: r, K, h1, h => by
    simp only [gatherO, guardT_eq]
    exact ⟨h1 x (by simp), gatherO_in r _ (fun y hy => h1 y (by simp [hy])) h⟩

theorem made_row {c : Cont} {k : Kind} {cs : List CV} (hg : Gam τ s st) (hk : kindOf c = k) (hcs : Rels τ cs c.avl) {x : CV} {y : AV} (hx : Rel (τ ++ [c.avl.length]) x y) :
    Made s τ (x, AL.push (.seg k (setManyC .nil [] 0 cs) [] cs.length false) s.hp s.c, s.c + 1) st y (st.hp ++ [.seg true c]) := by
  have hl := hcs.len
  refine ⟨[c.avl.length], hx, hg.push hk (by omega) (fun _ => hl.symm) fun j hj => ?_⟩
  obtain ⟨a, h1, h2⟩ := hcs.get j cs[j] (by simp)
  refine ⟨a, h1, ?_⟩
  rw [setManyC_get, dif_pos (by omega)]
  exact h2.grow _

theorem boxC_vc {x : Operand} {r : CV × AL CSeg × Nat} (h : boxC s (evalC s x) = some r) (hg : Gam τ s st) : boxAV st (av st x) (Made s τ r st) := by
  have ex := evalC_rel hg x
  unfold boxC at h
  split at h
  · rename_i cs hx
    rw [hx] at ex
    simp only [Rel] at ex
    obtain ⟨xs, ex, hxs⟩ := ex
    split at h
    · rename_i h1
      rw [pushC_eq] at h
      cases h
      rw [ex]
      simp only [boxAV]
      refine gatherO_in _ _ (allOneC_one h1 hxs) ?_
      have := hg.names
      exact made_row (c := .avs xs) hg rfl hxs (by simp only [Rel]; rw [this])
    · cases h
  · split at h
    · rename_i h1
      rw [pushC_eq] at h
      cases h
      have h2 := isOneC_one h1 ex
      have := hg.names
      have hm := made_row (c := .avs [av st x]) (cs := [evalC s x]) (x := .ptr s.c 0) (y := .ptr st.hp.length 0) hg rfl (by simp only [Cont.avl, Rels]; exact ⟨_, _, rfl, ex, rfl⟩) (by simp only [Rel]; rw [this])
      generalize av st x = ax at h2 hm
      cases ax <;> simp [isOne] at h2 <;> simp only [boxAV, guardT_eq] <;> exact ⟨rfl, hm⟩
    · cases h

theorem allocC_vc {t : Nat} {r : CV × AL CSeg × Nat} (h : allocC T s t = some r) (hg : Gam τ s st) : allocAV T st t (Made s τ r st) := by
  unfold allocC at h
  unfold allocAV
  split at h
  · rename_i i hi
    rw [hi]
    split at h
    · rename_i h1
      rw [pushC_eq] at h
      cases h
      have hrel : Rels τ (i.zero.cells.toList.map cvS) (i.zero.cells.toList.map avScalar) := Rels.map (cvS_rel τ) _
      refine gatherO_in _ _ (allOneC_one h1 hrel) ?_
      have := hg.names
      have hm := made_row (c := .avs (i.zero.cells.toList.map avScalar)) (k := .avs) (x := .ptr s.c 0) (y := .ptr st.hp.length 0) hg rfl hrel (by simp only [Rel]; rw [this])
      simpa using hm
    · cases h
  · cases h
end
end Go.Fw

namespace Go.Fw
open Go Go.RowKit

def fitsA (k : Kind) (x : AV) : Bool :=
  match k, x with
  | .bools, .bool _ => true
  | .ints k, .int k' _ => ikEq k k'
  | .flts k, .flt k' _ => fkEq k k'
  | .cpxs k, .cpx k' _ _ => fkEq k k'
  | .strs, .str _ => true
  | .avs, x => isOne x
  | _, _ => false

theorem fitsA_of {τ : List Nat} {k : Kind} {c : CV} {x : AV} (h : fitsK k c = true) (hr : Rel τ c x) : fitsA k x = true := by
  cases k with
  | avs => exact isOneC_one (by simpa [fitsK] using h) hr
  | _ => cases c <;> simp [fitsK] at h <;> simp only [Rel] at hr <;> subst hr <;> simp [fitsA, h]

theorem fitsA_one {k : Kind} {x : AV} (h : fitsA k x = true) : isOne x = true := by
  cases k <;> cases x <;> simp [fitsA, isOne] at h ⊢

theorem contOf {k : Kind} : ∀ (xs : List AV), (∀ x ∈ xs, fitsA k x = true) → ∃ c, kindOf c = k ∧ c.avl = xs
  | xs, h => by
    cases k with
    | avs => exact ⟨.avs xs, rfl, rfl⟩
    | other =>
      cases xs with
      | nil => exact ⟨.cols [], rfl, rfl⟩
      | cons x xs => have := h x (by simp); cases x <;> simp [fitsA] at this
    | bools =>
      have : ∃ l : List Bool, l.map .bool = xs := by
        induction xs with
        | nil => exact ⟨[], rfl⟩
        | cons x xs ih =>
          obtain ⟨l, hl⟩ := ih (fun y hy => h y (by simp [hy]))
          have := h x (by simp)
          cases x <;> simp [fitsA] at this
          rename_i b; exact ⟨b :: l, by simp [hl]⟩
      obtain ⟨l, hl⟩ := this
      exact ⟨.bools l, rfl, hl⟩
    | strs =>
      have : ∃ l : List ByteArray, l.map .str = xs := by
        induction xs with
        | nil => exact ⟨[], rfl⟩
        | cons x xs ih =>
          obtain ⟨l, hl⟩ := ih (fun y hy => h y (by simp [hy]))
          have := h x (by simp)
          cases x <;> simp [fitsA] at this
          rename_i b; exact ⟨b :: l, by simp [hl]⟩
      obtain ⟨l, hl⟩ := this
      exact ⟨.strs l, rfl, hl⟩
    | ints k =>
      have : ∃ l : List Int, l.map (.int k) = xs := by
        induction xs with
        | nil => exact ⟨[], rfl⟩
        | cons x xs ih =>
          obtain ⟨l, hl⟩ := ih (fun y hy => h y (by simp [hy]))
          have := h x (by simp)
          cases x <;> simp [fitsA] at this
          rename_i k' b
          have e := ikEq_eq this; subst e
          exact ⟨b :: l, by simp [hl]⟩
      obtain ⟨l, hl⟩ := this
      exact ⟨.ints k l, rfl, hl⟩
    | flts k =>
      have : ∃ l : List Nat, l.map (.flt k) = xs := by
        induction xs with
        | nil => exact ⟨[], rfl⟩
        | cons x xs ih =>
          obtain ⟨l, hl⟩ := ih (fun y hy => h y (by simp [hy]))
          have := h x (by simp)
          cases x <;> simp [fitsA] at this
          rename_i k' b
          have e := fkEq_eq this; subst e
          exact ⟨b :: l, by simp [hl]⟩
      obtain ⟨l, hl⟩ := this
      exact ⟨.flts k l, rfl, hl⟩
    | cpxs k =>
      have : ∃ l : List (Nat × Nat), l.map (fun p => .cpx k p.1 p.2) = xs := by
        induction xs with
        | nil => exact ⟨[], rfl⟩
        | cons x xs ih =>
          obtain ⟨l, hl⟩ := ih (fun y hy => h y (by simp [hy]))
          have := h x (by simp)
          cases x <;> simp [fitsA] at this
          rename_i k' b1 b2
          have e := fkEq_eq this; subst e
          exact ⟨(b1, b2) :: l, by simp [hl]⟩
      obtain ⟨l, hl⟩ := this
      exact ⟨.cpxs k l, rfl, hl⟩

def kindTy : Ty → Kind
  | .bool => .bools
  | .int k => .ints k
  | .float k => .flts k
  | .cpx k => .cpxs k
  | .str => .strs
  | _ => .avs

def allFitsK (k : Kind) : List CV → Bool
  | [] => true
  | c :: r => fitsK k c && allFitsK k r
theorem allFitsK_A {τ : List Nat} {k : Kind} : ∀ {cs : List CV} {xs : List AV}, allFitsK k cs = true → Rels τ cs xs → ∀ x ∈ xs, fitsA k x = true
  | [], _, _, h, x, hx => by simp only [Rels] at h; subst h; simp at hx
  | c :: cs, _, h1, h, x, hx => by
    simp only [allFitsK, Bool.and_eq_true] at h1
    simp only [Rels] at h
    obtain ⟨a, r, rfl, g1, g2⟩ := h
    rcases List.mem_cons.1 hx with rfl | hx
    · exact fitsA_of h1.1 g1
    · exact allFitsK_A h1.2 g2 x hx

section
variable {P : Program} {T : List (Nat × TyI)} {w0 : World} {L : Nat → Prop} {ρ : Plc} {τ : List Nat} {s : CSt} {st : St} {a : Act} {w : World}

/-- What an operation that makes memory has done. -/
def Done (P : Program) (w0 : World) (L : Nat → Prop) (ρ : Plc) (τ : List Nat) (s : CSt) (a : Act) (w : World) (sem : Sem Value) (r : CV × AL CSeg × Nat) : Prop :=
  ∃ v w' ρ' q ax, sem.run P w = .ok v w' ∧ Rel (τ ++ q) r.1 ax ∧ Den (ρ ++ ρ') ax v ∧ RepC w0 L (ρ ++ ρ') (τ ++ q) ⟨s.sl, s.n, r.2.1, r.2.2⟩ a w'

theorem done_row (hg : Gam τ s st) (hr : Rep w0 L ρ st a w) {sem : Sem Value} {c : Cont} {k : Kind} (e : TypeId) {vs : List Value} {t : Trie CV} {d : List CV} {x : CV} {m : Nat} {v : Value} (hk : kindOf c = k) (hl : c.avl.length = m)
    (hcs : ∀ j, j < m → ∃ y, c.avl[j]? = some y ∧ Rel (τ ++ [m]) (cellC t d j) y) (hd : Dens ρ c.avl vs) (h1 : ∀ v ∈ vs, v.oneCell' = true) (hrun : sem.run P w = .ok v (w.alloc (.cells vs.toArray e)))
    {ax : AV} (hx : Rel (τ ++ [m]) x ax) (hv : Den (ρ ++ [(w.heap.size, 0)]) ax v) : Done P w0 L ρ τ s a w sem (x, AL.push (.seg k t d m false) s.hp s.c, s.c + 1) := by
  subst hl
  exact ⟨v, _, [(w.heap.size, 0)], [c.avl.length], ax, hrun, hx, hv, _, hg.push hk (Nat.le_refl _) (fun _ => rfl) hcs, hr.newRow e hd h1⟩

def makeC (T : List (Nat × TyI)) (s : CSt) (t : Nat) (l c : CV) : Option (CV × AL CSeg × Nat) :=
  match l, c, elemOfT T t with
  | .int _ (.ofNat l), .int _ (.ofNat c), some (_, j) =>
    (match Nat.ble l c && (Nat.ble (j.bytes * c) 281474976710656 && (Nat.ble c 9223372036854775807 && (Nat.beq j.zero.cells.size j.size && (Nat.blt 0 j.size && allFitsK (kindTy j.d) (j.zero.cells.toList.map cvS))))) with
     | true => pushC s (kindTy j.d) .nil (j.zero.cells.toList.map cvS) (c * j.size) false (.slice s.c 0 l c)
     | false => none)
  | _, _, _ => none

theorem nthC_some {l : List CV} {n : Nat} {x : CV} (h : l[n]? = some x) : nthC l n = x := by
  rw [nthC_eq, List.getD_eq_getElem?_getD, h]; rfl

theorem dflt_eq {d : List CV} (hd : 0 < d.length) (j : Nat) : dflt d j = nthC d (j % d.length) := by
  unfold dflt
  split
  · simp [Nat.mod_one, nthC]
  · rfl

theorem makeC_done (hT : TOk P T) {t : Nat} {l c : Operand} {r : CV × AL CSeg × Nat} (h : makeC T s t (evalC s l) (evalC s c) = some r) (hrc : RepC w0 L ρ τ s a w) :
    Done P w0 L ρ τ s a w (Instr.makeSlice t (a.eval l) (a.eval c)) r := by
  unfold makeC at h
  split at h
  · rename_i kl ll kc cc e j hl hc hel
    split at h
    · rename_i hb
      simp only [Bool.and_eq_true, Nat.ble_eq, Nat.blt_eq] at hb
      obtain ⟨b1, b2, b3, b4, b5, b6⟩ := hb
      have b4 := Nat.eq_of_beq_eq_true b4
      rw [pushC_eq] at h
      cases h
      have vl := evalC_ground hrc (x := l) (v := .int kl ll) (by rw [hl]; rfl)
      have vc := evalC_ground hrc (x := c) (v := .int kc cc) (by rw [hc]; rfl)
      obtain ⟨st, hg, hr⟩ := hrc
      obtain ⟨hu, hj, hag⟩ := elemOfT_some hT hel
      obtain ⟨ji, g1, g2, g3, g4⟩ := info_of hag
      -- the values
      have hrel : ∀ τ', Rels τ' (j.zero.cells.toList.map cvS) (j.zero.cells.toList.map avScalar) := fun τ' => Rels.map (cvS_rel τ') _
      have hfit := allFitsK_A b6 (hrel τ)
      have hzl : j.zero.cells.toList.length = j.size := by simpa using b4
      let vals : List Value := (List.range (cc * j.size)).map fun i => j.zero.cells.toList.getD (i % j.size) (.bool false)
      have hmem : ∀ i, i % j.size < j.zero.cells.toList.length := fun i => by rw [hzl]; exact Nat.mod_lt _ b5
      have hget : ∀ i, j.zero.cells.toList.getD (i % j.size) (.bool false) = j.zero.cells.toList[i % j.size]'(hmem i) := fun i => by
        rw [List.getD_eq_getElem?_getD, List.getElem?_eq_getElem (hmem i)]; rfl
      obtain ⟨ct, k1, k2⟩ := contOf (k := kindTy j.d) (vals.map avScalar) (by
        intro x hx
        simp only [vals, List.map_map, List.mem_map, List.mem_range, Function.comp] at hx
        obtain ⟨i, hi, rfl⟩ := hx
        rw [hget]
        exact hfit _ (List.mem_map_of_mem (List.getElem_mem _)))
      have hmade : madeCells j.zero.cells (cc * ji.size) = vals.toArray := by
        rw [g2]
        unfold madeCells
        rw [← Array.toList_inj]
        simp only [vals, Array.toList_map, Array.toList_range]
        apply List.map_congr_left
        intro i _
        rw [hget, b4]
        have := hmem i
        rw [getElem!_pos _ _ (by rw [b4]; exact Nat.mod_lt _ b5)]
        simp
      have hbc : (j.bytes : Int) * (cc : Int) ≤ 281474976710656 := by
        have : ((j.bytes * cc : Nat) : Int) ≤ 281474976710656 := by omega
        rwa [Int.natCast_mul] at this
      have hrun := run_make (P := P) w t e ji j.zero hu g1 g4 kl kc ll cc (Int.natCast_nonneg ll) (Int.ofNat_le.2 b1) (by rw [g3]; exact hbc) (by omega)
      simp only [Int.toNat_natCast] at hrun
      rw [hmade] at hrun
      have hone : ∀ v ∈ vals, v.oneCell' = true := fun v hv => by
        have hx : isOne (avScalar v) = true := fitsA_one (by
          have : avScalar v ∈ vals.map avScalar := List.mem_map_of_mem hv
          simp only [vals, List.map_map, List.mem_map, List.mem_range, Function.comp] at this
          obtain ⟨i, hi, e⟩ := this
          rw [← e, hget]
          exact hfit _ (List.mem_map_of_mem (List.getElem_mem _)))
        exact den_one hx (avScalar_den ρ v)
      refine done_row (c := ct) (k := kindTy j.d) (vs := vals) (v := .slice (some ⟨w.heap.size, 0, none⟩) ll cc) hg hr e k1 (by rw [k2]; simp [vals]) (fun i hi => ?_) (by rw [k2]; exact avScalars_den ρ _) hone ?_ (ax := .slice st.hp.length 0 ll cc) (by simp only [Rel]; rw [hg.names]) ?_
      · refine ⟨avScalar (j.zero.cells.toList.getD (i % j.size) (.bool false)), by rw [k2]; simp [vals, hi], ?_⟩
        have : cellC .nil (j.zero.cells.toList.map cvS) i = cvS (j.zero.cells.toList.getD (i % j.size) (.bool false)) := by
          simp only [cellC, Trie.get_nil]
          rw [dflt_eq (by simp [b4]; exact b5)]
          apply nthC_some
          rw [List.length_map, hzl, List.getElem?_map, List.getElem?_eq_getElem (hmem i), hget]
          rfl
        rw [this]
        exact cvS_rel _ _
      · rw [vl, vc]; exact hrun
      · have := hr.heap.names
        have e1 : pl (ρ ++ [(w.heap.size, 0)]) st.hp.length = (w.heap.size, 0) := by simp [pl, ← this]
        simp only [Den, e1]
        exact ⟨by simp [this], b1, .inl (by simp)⟩
    · cases h
  · cases h

def cellsOf : CV → List CV
  | .agg cs => cs
  | x => [x]

/-- The parts of a literal, in their order, all of one size: their cells. -/
def partsC (s : CSt) (sz : Nat) : Nat → List (Nat × Operand) → Option (List CV)
  | _, [] => some []
  | i, (j, x) :: r => (match Nat.beq i j, cellsOf (evalC s x) with
    | true, cs => (match Nat.beq cs.length sz, partsC s sz (i + 1) r with
      | true, some l => some (cs ++ l)
      | _, _ => none)
    | false, _ => none)

theorem cellsOf_rel {x : CV} {ax : AV} {v : Value} (h : Rel τ x ax) (hd : Den ρ ax v) (hf : allOneC (cellsOf x) = true) : ∃ xs, Rels τ (cellsOf x) xs ∧ Dens ρ xs v.cells.toList := by
  have one : isOneC x = true → cellsOf x = [x] → ∃ xs, Rels τ (cellsOf x) xs ∧ Dens ρ xs v.cells.toList := fun h1 e => by
    refine ⟨[ax], by rw [e]; simp only [Rels]; exact ⟨_, _, rfl, h, rfl⟩, ?_⟩
    rw [cells_one (den_one (isOneC_one h1 h) hd)]
    simp only [Dens]; exact ⟨_, _, rfl, hd, rfl⟩
  cases x with
  | agg cs =>
    simp only [Rel] at h
    obtain ⟨xs, rfl, h⟩ := h
    simp only [Den] at hd
    obtain ⟨vs, rfl, hd⟩ := hd
    exact ⟨xs, h, by simpa [Value.cells] using hd⟩
  | _ => exact one (by simpa [cellsOf, allOneC] using hf) rfl

theorem allOneC_append {a b : List CV} : allOneC (a ++ b) = true → allOneC a = true ∧ allOneC b = true := by
  induction a with
  | nil => exact fun h => ⟨rfl, h⟩
  | cons x a ih =>
    simp only [List.cons_append, allOneC, Bool.and_eq_true]
    exact fun ⟨h1, h2⟩ => ⟨⟨h1, (ih h2).1⟩, (ih h2).2⟩

theorem partsC_out (hr : RepC w0 L ρ τ s a w) {sz : Nat} : ∀ (ps : List (Nat × Operand)) (i : Nat) (l : List CV), partsC s sz i ps = some l → allOneC l = true →
    ∃ xs, Rels τ l xs ∧ Dens ρ xs (ps.flatMap fun p => (a.eval p.2).cells.toList) ∧ l.length = ps.length * sz ∧ ps.map (·.1) = List.range' i ps.length ∧ ∀ p ∈ ps, (a.eval p.2).cells.size = sz
  | [], i, l, h, _ => by simp only [partsC, Option.some.injEq] at h; subst h; exact ⟨[], by simp [Rels], by simp [Dens], by simp, rfl, by simp⟩
  | (j, x) :: r, i, l, h, h1 => by
    simp only [partsC] at h
    split at h
    · rename_i hij
      have hij := Nat.eq_of_beq_eq_true hij
      split at h
      · rename_i l' hlen hl
        have hlen := Nat.eq_of_beq_eq_true hlen
        cases h
        obtain ⟨o1, o2⟩ := allOneC_append h1
        obtain ⟨ax, g1, g2⟩ := evalC_den hr x
        obtain ⟨xs, r1, r2⟩ := cellsOf_rel g1 g2 o1
        obtain ⟨ys, s1, s2, s3, s4, s5⟩ := partsC_out hr r (i + 1) l' hl o2
        have hsz : (a.eval x).cells.size = sz := by
          have := r2.len; rw [← r1.len, hlen] at this; simpa using this.symm
        refine ⟨xs ++ ys, r1.app s1, by simp only [List.flatMap_cons]; exact r2.append s2, by simp only [List.length_append, List.length_cons, s3, hlen, Nat.add_mul]; omega, by simp only [List.map_cons, List.length_cons, List.range'_succ, s4, hij], ?_⟩
        intro p hp
        rcases List.mem_cons.1 hp with rfl | hp
        · exact hsz
        · exact s5 p hp
      · cases h
    · cases h

theorem setCells : ∀ (vs : List Value) (k : Nat) (off : Nat) (l : List Value), off + k + vs.length ≤ l.length →
    ((vs.zipIdx k).foldl (fun cs (p : Value × Nat) => cs.setIfInBounds (off + p.2) p.1) l.toArray).toList = l.take (off + k) ++ vs ++ l.drop (off + k + vs.length)
  | [], k, off, l, h => by simp
  | v :: vs, k, off, l, h => by
    simp only [List.length_cons] at h
    simp only [List.zipIdx_cons, List.foldl_cons]
    have e : l.toArray.setIfInBounds (off + k) v = (l.set (off + k) v).toArray := by
      rw [← Array.toList_inj]; simp
    rw [e, setCells vs (k + 1) off _ (by simp; omega)]
    have := splice_succ l (off + k) v vs (by omega)
    rw [show off + (k + 1) = off + k + 1 by omega]
    exact this

/-- A literal's parts, each of so many cells, fill the row. -/
theorem fill_rows {sz : Nat} : ∀ (ps : List (Nat × Value)) (i : Nat) (l : List Value), ps.map (·.1) = List.range' i ps.length → (∀ p ∈ ps, p.2.cells.size = sz) → i * sz + ps.length * sz = l.length →
    Instr.fill (fun i => some (i * sz, sz)) l.toArray ps = some (l.take (i * sz) ++ ps.flatMap fun p => p.2.cells.toList).toArray
  | [], i, l, _, _, h => by simp at h; rw [h]; simp [Instr.fill]
  | (j, v) :: ps, i, l, h1, h2, h3 => by
    simp only [List.map_cons, List.length_cons, List.range'_succ, List.cons.injEq] at h1
    obtain ⟨rfl, h1⟩ := h1
    have hv := h2 (j, v) (by simp)
    simp only at hv
    simp only [List.length_cons, Nat.add_mul, Nat.one_mul] at h3
    have hfold : (v.cells.zipIdx.foldl (fun cs (x : Value × Nat) => match x with | (c, k) => cs.setIfInBounds (j * sz + k) c) l.toArray) = (l.take (j * sz) ++ v.cells.toList ++ l.drop (j * sz + sz)).toArray := by
      have := setCells v.cells.toList 0 (j * sz) l (by simp [hv]; omega)
      rw [← Array.toList_inj]
      simp only [Nat.add_zero] at this
      rw [show v.cells.toList.length = sz by simpa using hv] at this
      rw [← this]
      have e : v.cells.zipIdx = (v.cells.toList.zipIdx 0).toArray := by
        rw [← Array.toList_inj]; simp
      rw [e, List.foldl_toArray]
    have hsz : ¬ (v.cells.size ≠ sz ∨ j * sz + v.cells.size > l.toArray.size) := by simp [hv]; omega
    simp only [Instr.fill]
    rw [if_neg (by simpa using hsz), hfold, fill_rows ps (j + 1) _ h1 (fun p hp => h2 p (by simp [hp])) (by simp [hv, Nat.add_mul]; omega)]
    congr 1
    have e1 : (l.take (j * sz) ++ v.cells.toList ++ l.drop (j * sz + sz)).take ((j + 1) * sz) = l.take (j * sz) ++ v.cells.toList := by
      rw [List.take_left' (by simp [hv, Nat.add_mul]; omega)]
    rw [e1]
    simp

def buildSliceC (T : List (Nat × TyI)) (s : CSt) (t len : Nat) (ps : List (Nat × Operand)) : Option (CV × AL CSeg × Nat) :=
  match elemOfT T t with
  | some (_, j) => (match partsC s j.size 0 ps with
    | some l => (match Nat.beq ps.length len && (Nat.blt 0 j.size && (Nat.ble (len * j.size) 16777216 && (Nat.beq j.zero.cells.size j.size && (allFitsK (kindTy j.d) l && allOneC l)))) with
      | true => pushC s (kindTy j.d) (setManyC .nil [] 0 l) [] (len * j.size) false (.slice s.c 0 len len)
      | false => none)
    | none => none)
  | none => none

theorem buildSliceC_done (hT : TOk P T) {t len : Nat} {ps : Array (Nat × Operand)} {r : CV × AL CSeg × Nat} (h : buildSliceC T s t len ps.toList = some r) (hrc : RepC w0 L ρ τ s a w) :
    Done P w0 L ρ τ s a w (Instr.buildSlice t len (ps.map fun (i, x) => (i, a.eval x))) r := by
  unfold buildSliceC at h
  split at h
  · rename_i e j hel
    split at h
    · rename_i l hl
      split at h
      · rename_i hb
        simp only [Bool.and_eq_true, Nat.ble_eq, Nat.blt_eq] at hb
        obtain ⟨b1, b2, b3, b4, b5, b6⟩ := hb
        have b1 := Nat.eq_of_beq_eq_true b1
        have b4 := Nat.eq_of_beq_eq_true b4
        rw [pushC_eq] at h
        cases h
        obtain ⟨hu, hj, hag⟩ := elemOfT_some hT hel
        obtain ⟨ji, g1, g2, g3, g4⟩ := info_of hag
        obtain ⟨xs, r1, r2, r3, r4, r5⟩ := partsC_out hrc _ _ _ hl b6
        obtain ⟨st, hg, hr⟩ := hrc
        obtain ⟨ct, k1, k2⟩ := contOf (k := kindTy j.d) xs (allFitsK_A b5 r1)
        have hfl := r1.len
        have hps : (ps.map fun (p : Nat × Operand) => (p.1, a.eval p.2)).toList = ps.toList.map fun p => (p.1, a.eval p.2) := by simp
        have hfill : ∀ cells : Array Value, cells.size = len * j.size → Instr.fill (fun i => some (i * j.size, j.size)) cells (ps.toList.map fun p => (p.1, a.eval p.2)) = some (ps.toList.flatMap fun p => (a.eval p.2).cells.toList).toArray := fun cells hc => by
          have := fill_rows (sz := j.size) (ps.toList.map fun p => (p.1, a.eval p.2)) 0 cells.toList (by simp only [List.map_map, List.length_map]; exact r4) (by intro p hp; obtain ⟨q, hq, rfl⟩ := List.mem_map.1 hp; exact r5 q hq) (by simp [hc]; simp at b1; rw [b1])
          simp only [Array.toArray_toList, Nat.zero_mul, List.take_zero, List.nil_append, List.flatMap_map] at this
          exact this
        have hnot : ¬ len * j.size > 2 ^ 24 := by omega
        have hrun : (Instr.buildSlice t len (ps.map fun (i, x) => (i, a.eval x))).run P w = .ok (.slice (some ⟨w.heap.size, 0, none⟩) len len) (w.alloc (.cells (ps.toList.flatMap fun p => (a.eval p.2).cells.toList).toArray e)) := by
          have hps' : (ps.map fun (x : Nat × Operand) => match x with | (i, x) => (i, a.eval x)).toList = ps.toList.map fun p => (p.1, a.eval p.2) := by simp
          by_cases h0 : len * j.size = 0
          · have hl0 : len = 0 := by
              rcases Nat.mul_eq_zero.1 h0 with h | h
              · exact h
              · omega
            have hp0 : ps = #[] := by rw [← Array.toList_inj]; exact List.eq_nil_of_length_eq_zero (by omega)
            subst hp0
            subst hl0
            simp [Instr.buildSlice, run_underlying hu, run_sizeOf hag, Instr.fill, newRow, go_sem]
          · have hf := hfill (Array.map (fun x => j.zero.cells[x % j.zero.cells.size]!) (Array.range (len * j.size))) (by simp)
            simp only [Instr.buildSlice, Sem.run_bind, run_underlying hu, Result.andThen_ok, run_sizeOf hag, hnot, if_false, h0, Sem.run_pure, zeroValue, typeInfo, run_program, g1, g4]
            simp only [hps', hf]
            simp [newRow, go_sem]
        refine done_row (c := ct) (k := kindTy j.d) hg hr e k1 (by rw [k2, ← hfl, r3]; simp at b1; simp [b1]) (fun i hi => ?_) (by rw [k2]; exact r2) (dens_one r2 (fun x hx => fitsA_one (allFitsK_A b5 r1 x hx))) hrun (ax := .slice st.hp.length 0 len len) (by simp only [Rel]; rw [hg.names]) ?_
        · have hi' : i < l.length := by rw [r3]; simp at b1; simp [b1]; exact hi
          obtain ⟨y, q1, q2⟩ := r1.get i l[i] (by simp)
          refine ⟨y, by rw [k2]; exact q1, ?_⟩
          rw [setManyC_get, dif_pos (by omega)]
          exact q2.grow _
        · have := hr.heap.names
          have e1 : pl (ρ ++ [(w.heap.size, 0)]) st.hp.length = (w.heap.size, 0) := by simp [pl, ← this]
          simp only [Den, e1]
          exact ⟨by simp [this], Nat.le_refl _, .inl (by simp)⟩
      · cases h
    · cases h
  · cases h
end
end Go.Fw

namespace Go.Fw
open Go Go.RowKit

def kindEqB (a b : Kind) : Bool :=
  match a, b with
  | .bools, .bools => true
  | .ints k, .ints k' => ikEq k k'
  | .flts k, .flts k' => fkEq k k'
  | .cpxs k, .cpxs k' => fkEq k k'
  | .strs, .strs => true
  | .avs, .avs => true
  | _, _ => false
theorem kindEqB_eq {a b : Kind} (h : kindEqB a b = true) : a = b := by
  cases a <;> cases b <;> simp [kindEqB] at h <;> first | rfl | (rw [ikEq_eq h]) | (rw [fkEq_eq h])

def zeroFitsK (k : Kind) (z : Value) : Bool :=
  match k, z with
  | .bools, .bool _ => true
  | .ints k, .int k' _ => ikEq k k'
  | .flts k, .float k' _ => fkEq k k'
  | .cpxs k, .complex k' _ _ => fkEq k k'
  | .strs, .string _ => true
  | .avs, z => z.cells.toList.all Value.oneCell'
  | _, _ => false
theorem zeroFitsK_fits {k : Kind} {z : Value} (h : zeroFitsK k z = true) {c : Cont} (hk : kindOf c = k) : zeroFits c z = true := by
  subst hk
  cases c <;> first | exact h | (cases z <;> first | exact h | cases h)

theorem kindEqB_ne {a b : Kind} (h : kindEqB a b = true) : a ≠ .other ∧ b ≠ .other := by
  cases a <;> cases b <;> simp [kindEqB] at h <;> exact ⟨by simp, by simp⟩
theorem zeroFitsK_ne {k : Kind} {z : Value} (h : zeroFitsK k z = true) : k ≠ .other := by
  intro e; subst e; cases z <;> simp [zeroFitsK] at h
theorem kindOf_subC {c : Cont} (hne : kindOf c ≠ .other) (o l : Nat) : kindOf (subC c o l) = kindOf c := by cases c <;> first | rfl | exact absurd rfl hne
theorem subE_in {c : Cont} {sz off len : Nat} {K : Cont → Prop} (hne : kindOf c ≠ .other) (h : K (subC c off (len * sz))) : subE c sz off len K := by
  rw [← mulSz_eq] at h
  cases c <;> first | exact h | exact absurd rfl hne

theorem joinC_in {c d : Cont} {K : Cont → Prop} (hne : kindOf c ≠ .other) (h : kindOf c = kindOf d) (hk : ∀ r, kindOf r = kindOf c → r.avl = c.avl ++ d.avl → K r) : joinC c d K := by
  cases c <;> cases d <;> simp only [kindOf, reduceCtorEq, Kind.ints.injEq, Kind.flts.injEq, Kind.cpxs.injEq] at h <;> simp only [joinC, guardT_eq]
  · exact hk _ rfl (by simp [Cont.avl])
  · subst h; exact ⟨ikEq_refl _, hk _ rfl (by simp [Cont.avl])⟩
  · subst h; exact ⟨fkEq_refl _, hk _ rfl (by simp [Cont.avl])⟩
  · subst h; exact ⟨fkEq_refl _, hk _ rfl (by simp [Cont.avl])⟩
  · exact hk _ rfl (by simp [Cont.avl])
  · exact hk _ rfl (by simp [Cont.avl])
  · exact absurd rfl hne

def oneSz (k : Kind) (sz : Nat) : Bool :=
  match k with
  | .avs => true
  | _ => Nat.beq sz 1

theorem tailC_in {sz : Nat} {c : Cont} {K : Cont → Nat → Prop} (hne : kindOf c ≠ .other) (h1 : oneSz (kindOf c) sz = true) (hk : ∀ c' r tl, kindOf c' = kindOf c → c'.avl = c.avl ++ tl → tl.length = r * sz → K c' r) : tailC sz c K := by
  cases c with
  | avs l => simp only [tailC]; intro r; exact hk _ r _ rfl rfl (by simp)
  | cols cs => exact absurd rfl hne
  | bools l => have := Nat.eq_of_beq_eq_true h1; subst this; simp only [tailC]; intro tl; exact hk _ _ (tl.map .bool) rfl (by simp [Cont.avl]) (by simp)
  | ints k l => have := Nat.eq_of_beq_eq_true h1; subst this; simp only [tailC]; intro tl; exact hk _ _ (tl.map (.int k)) rfl (by simp [Cont.avl]) (by simp)
  | flts k l => have := Nat.eq_of_beq_eq_true h1; subst this; simp only [tailC]; intro tl; exact hk _ _ (tl.map (.flt k)) rfl (by simp [Cont.avl]) (by simp)
  | cpxs k l => have := Nat.eq_of_beq_eq_true h1; subst this; simp only [tailC]; intro tl; exact hk _ _ (tl.map fun p => .cpx k p.1 p.2) rfl (by simp [Cont.avl]) (by simp)
  | strs l => have := Nat.eq_of_beq_eq_true h1; subst this; simp only [tailC]; intro tl; exact hk _ _ (tl.map .str) rfl (by simp [Cont.avl]) (by simp)

/-- What is appended. -/
def srcC (T : List (Nat × TyI)) (s : CSt) (t2 sz : Nat) (x : CV) : Option (Kind × List CV × Nat) :=
  match tyAt T t2 with
  | some i => (match i.d, x with
    | .slice _, .slice n off len _ => (match segC s n with
      | .seg k tr d m _ => (match Nat.ble (off + len * sz) m with | true => some (k, readC tr d off (len * sz), len) | false => none)
      | _ => none)
    | .slice _, .tail n off len _ => (match segC s n with
      | .seg k tr d m _ => (match Nat.ble (off + len * sz) m with | true => some (k, readC tr d off (len * sz), len) | false => none)
      | _ => none)
    | .str, .str b => (match Nat.beq sz 1 with | true => some (.ints .u8, b.data.toList.map (fun b => .int .u8 (.ofNat b.toNat)), b.size) | false => none)
    | _, _ => none)
  | none => none

/-- So many times the same cells. -/
def repL (z : List CV) : Nat → List CV
  | 0 => []
  | n + 1 => z ++ repL z n
theorem repL_len (z : List CV) : ∀ n, (repL z n).length = n * z.length
  | 0 => by simp [repL]
  | n + 1 => by rw [repL, List.length_append, repL_len z n, Nat.add_mul]; omega
def zeroOk (j : TyI) (n : Nat) : Bool := Nat.ble n 9223372036854775807 && (Nat.beq j.zero.cells.size j.size && allFitsK (kindTy j.d) (j.zero.cells.toList.map cvS))
/-- What is appended, or so many zeros. -/
def srcZ (T : List (Nat × TyI)) (s : CSt) (t2 : Nat) (j : TyI) (x : CV) : Option (Kind × List CV × Nat) :=
  match x with
  | .int _ (.ofNat n) => (match tyAt T t2 with
    | some i => (match i.d with
      | .int _ => (match zeroOk j n with | true => some (kindTy j.d, repL (j.zero.cells.toList.map cvS) n, n) | false => none)
      | _ => none)
    | none => none)
  | x => srcC T s t2 j.size x

section
variable {P : Program} {T : List (Nat × TyI)} {w0 : World} {L : Nat → Prop} {ρ : Plc} {τ : List Nat} {s : CSt} {st : St} {a : Act} {w : World}

theorem srcC_in {t2 sz : Nat} {z : Value} {x : Operand} {k : Kind} {cs : List CV} {m : Nat} (hko : k ≠ .other) (h : srcC T s t2 sz (evalC s x) = some (k, cs, m)) (hg : Gam τ s st) (hr : Rep w0 L ρ st a w) {K : Cont → Nat → Prop}
    (hk : ∀ d, kindOf d = k → Rels τ cs d.avl → K d m) : srcAV T st.hp t2 sz z (av st x) K := by
  have ex := evalC_rel hg x
  have cell : ∀ n off len cp, av st x = .slice n off len cp → ∀ tr d mm op, segC s n = .seg k tr d mm op → off + len * sz ≤ mm → cs = readC tr d off (len * sz) → len = m →
      (match segAt st.hp n with | .seg _ c => off + mulSz sz len ≤ c.len ∧ subE c sz off len fun d => K d len | _ => False) := by
    intro n off len cp e tr d mm op hseg hle hcs hm
    obtain ⟨cc, e1, _, e2, e3, e4, e5, e6⟩ := hg.seg hseg (hr.slice_lt e).1
    rw [e1]
    simp only [mulSz_eq]
    refine ⟨by rw [← Cont.len_eq]; omega, ?_⟩
    rw [hm]
    have hne : kindOf cc ≠ .other := by rw [e2]; exact hko
    refine subE_in hne ?_
    rw [← hm]
    show K (subC cc off (len * sz)) len
    rw [hm]
    refine hk _ (by rw [kindOf_subC hne, e2]) ?_
    rw [subC_avl, hcs, ← hm]
    refine Rels.of_get (by rw [readC_len]; simp; omega) fun i c y hc hy => ?_
    have hi : i < len * sz := by have := (List.getElem?_eq_some_iff.1 hc).1; rwa [readC_len] at this
    rw [readC_get _ _ _ _ _ hi] at hc
    cases hc
    rw [List.getElem?_take, if_pos hi, List.getElem?_drop] at hy
    obtain ⟨y', g1, g2⟩ := e6 (off + i) (by omega)
    rw [hy] at g1; cases g1; exact g2
  unfold srcC at h
  unfold srcAV
  split at h
  · rename_i i hi
    rw [hi]
    split at h
    · rename_i hd hx
      rw [hx] at ex
      simp only [Rel] at ex
      split at h
      · rename_i hseg
        split at h
        · rename_i hle
          have hle := Nat.le_of_ble_eq_true hle
          simp only [Option.some.injEq, Prod.mk.injEq] at h
          obtain ⟨rfl, h2, h3⟩ := h
          have := cell _ _ _ _ ex _ _ _ _ hseg hle h2.symm h3
          rw [ex]
          simp only [hd]
          exact this
        · cases h
      · cases h
    · rename_i hd hx
      rw [hx] at ex
      simp only [Rel] at ex
      obtain ⟨cp, TT, ex, _⟩ := ex
      split at h
      · rename_i hseg
        split at h
        · rename_i hle
          have hle := Nat.le_of_ble_eq_true hle
          simp only [Option.some.injEq, Prod.mk.injEq] at h
          obtain ⟨rfl, h2, h3⟩ := h
          have := cell _ _ _ _ ex _ _ _ _ hseg hle h2.symm h3
          rw [ex]
          simp only [hd]
          exact this
        · cases h
      · cases h
    · rename_i b hd hx
      rw [hx] at ex
      simp only [Rel] at ex
      split at h
      · rename_i hb
        simp only [Option.some.injEq, Prod.mk.injEq] at h
        obtain ⟨rfl, rfl, rfl⟩ := h
        rw [ex]
        simp only [hd, guardT_eq]
        refine ⟨hb, hk _ rfl ?_⟩
        simp only [Cont.avl, List.map_map]
        exact Rels.map (fun b => by simp only [Rel]; rfl) _
      · cases h
    · cases h
  · cases h

theorem zeroCells_rep (z : Array Value) : ∀ n, (Builtin.zeroCells z n).toList = (List.replicate n z.toList).flatten
  | 0 => by simp [Builtin.zeroCells]
  | n + 1 => by
    rw [List.replicate_succ, List.flatten_cons, ← zeroCells_rep z n]
    apply List.ext_getElem?
    intro i
    simp only [Builtin.zeroCells, Array.toList_map, Array.toList_range, List.getElem?_map]
    rcases Nat.lt_or_ge i z.size with h | h
    · rw [List.getElem?_append_left (by simpa using h), List.getElem?_range (by rw [Nat.add_mul]; omega)]
      simp [Nat.mod_eq_of_lt h, h]
    · rw [List.getElem?_append_right (by simpa using h)]
      simp only [Array.length_toList, List.getElem?_map]
      rcases Nat.lt_or_ge i ((n + 1) * z.size) with h2 | h2
      · rw [List.getElem?_range h2, List.getElem?_range (by rw [Nat.add_mul] at h2; omega)]
        simp only [Option.map_some]
        rw [← Nat.mod_eq_sub_mod h]
      · rw [List.getElem?_eq_none (by simpa using h2), List.getElem?_eq_none (by rw [Nat.add_mul] at h2; simp; omega)]

theorem repL_rel (τ : List Nat) (z : List Value) : ∀ n, Rels τ (repL (z.map cvS) n) ((List.replicate n z).flatten.map avScalar)
  | 0 => by simp [repL, Rels]
  | n + 1 => by
    rw [repL, List.replicate_succ, List.flatten_cons, List.map_append]
    exact (Rels.map (cvS_rel τ) _).app (repL_rel τ z n)

theorem srcZ_in {t2 : Nat} {j : TyI} {x : Operand} {k : Kind} {cs : List CV} {m : Nat} (hko : k ≠ .other) (h : srcZ T s t2 j (evalC s x) = some (k, cs, m)) (hg : Gam τ s st) (hr : Rep w0 L ρ st a w) {K : Cont → Nat → Prop}
    (hk : ∀ d, kindOf d = k → Rels τ cs d.avl → K d m) : srcAV T st.hp t2 j.size j.zero (av st x) K := by
  unfold srcZ at h
  split at h
  · rename_i ik n hx
    split at h
    · rename_i i hi
      split at h
      · rename_i ik2 hd
        split at h
        · rename_i hb
          simp only [zeroOk, Bool.and_eq_true, Nat.ble_eq] at hb
          obtain ⟨b1, b2, b3⟩ := hb
          simp only [Option.some.injEq, Prod.mk.injEq] at h
          obtain ⟨rfl, rfl, rfl⟩ := h
          have ex := evalC_rel hg x
          rw [hx] at ex
          simp only [Rel] at ex
          unfold srcAV
          rw [hi, ex]
          simp only [hd, Int.ofNat_eq_natCast, Int.toNat_natCast]
          have hfit := allFitsK_A b3 (Rels.map (cvS_rel τ) j.zero.cells.toList)
          obtain ⟨d, k1, k2⟩ := contOf (k := kindTy j.d) ((Builtin.zeroCells j.zero.cells n).toList.map avScalar) (by
            intro x hx
            obtain ⟨v, hv, rfl⟩ := List.mem_map.1 hx
            exact hfit _ (List.mem_map_of_mem (by simpa using zeroCells_mem (by simpa using hv))))
          have hone : ∀ v ∈ (Builtin.zeroCells j.zero.cells n).toList, isOne (avScalar v) = true := fun v hv => fitsA_one (hfit _ (List.mem_map_of_mem (by simpa using zeroCells_mem (by simpa using hv))))
          have hden : ∀ ρ, Dens ρ d.avl (Builtin.zeroCells j.zero.cells n).toList := fun ρ => by rw [k2]; exact avScalars_den ρ _
          refine ⟨⟨by omega, by omega⟩, d, ⟨hden, dens_one (hden []) fun x hx => by rw [k2] at hx; obtain ⟨v, hv, rfl⟩ := List.mem_map.1 hx; exact hone v hv⟩, hk d k1 ?_⟩
          rw [k2, zeroCells_rep]
          exact repL_rel τ _ n
        · cases h
      · cases h
    · cases h
  · exact srcC_in hko h hg hr hk

def growT (sz : Nat) (tr : Trie CV) (d : List CV) (off len : Nat) (news : List CV) : Trie CV :=
  match off with
  | 0 => (match len, news with | 0, [_] => .nil | _, _ => setManyC tr d (len * sz) news)
  | _ => setManyC .nil [] 0 (readC tr d off (len * sz) ++ news)
def growD (d : List CV) (off len : Nat) (news : List CV) : List CV :=
  match off with
  | 0 => (match len, news with | 0, [x] => [x] | _, _ => d)
  | _ => []
theorem growT_zero (sz : Nat) (tr : Trie CV) (d : List CV) (len : Nat) (news : List CV) (j : Nat) (hj : j < len * sz + news.length) : cellC (growT sz tr d 0 len news) (growD d 0 len news) j = cellC (setManyC tr d (len * sz) news) d j := by
  unfold growT growD
  match len, news with
  | 0, [x] =>
    have : j = 0 := by simp at hj; omega
    subst this
    rw [setManyC_get, dif_pos (by simp)]
    simp [cellC, dflt, Trie.get_nil]
  | 0, [] => rfl
  | 0, x :: y :: r => rfl
  | n + 1, l => rfl
/-- Where the new cells go. -/
def growC (s : CSt) (hp : AL CSeg) (k : Kind) (sz : Nat) (tr : Trie CV) (d : List CV) (off len : Nat) (news : List CV) (m : Nat) : Option (CV × AL CSeg × Nat) :=
  pushC ⟨s.sl, s.n, hp, s.c⟩ k (growT sz tr d off len news) (growD d off len news) ((len + m) * sz) true (.tail s.c 0 (len + m) sz)

def appendO (T : List (Nat × TyI)) (s : CSt) (t t2 : Nat) (x y : CV) : Option (CV × AL CSeg × Nat) :=
  match elemOfT T t with
  | none => none
  | some (_, j) =>
    (match srcZ T s t2 j y with
     | none => none
     | some (k, news, m) =>
       (match Nat.blt 0 j.size && (Nat.beq j.zero.cells.size j.size && (zeroFitsK k j.zero && oneSz k j.size)) with
        | false => none
        | true =>
          (match x with
           | .nils => (match Nat.ble (m * j.bytes) 140737488355328 && Nat.ble m 9223372036854775807 with
             | true => growC s s.hp k j.size .nil [] 0 0 news m
             | false => none)
           | .slice n off len cap => (match segC s n with
             | .seg k' tr d mm _ => (match kindEqB k' k && (Nat.ble (off + cap * j.size) mm && (Nat.ble ((len + m) * j.bytes) 140737488355328 && Nat.ble (len + m) 9223372036854775807)) with
               | true => growC s (AL.erase s.hp n) k j.size tr d off len news m
               | false => none)
             | _ => none)
           | .tail n off len sz => (match segC s n with
             | .seg k' tr d mm _ => (match kindEqB k' k && (Nat.beq sz j.size && (Nat.ble (off + len * j.size) mm && (Nat.ble ((len + m) * j.bytes) 140737488355328 && Nat.ble (len + m) 9223372036854775807))) with
               | true => growC s (AL.erase s.hp n) k j.size tr d off len news m
               | false => none)
             | _ => none)
           | _ => none)))
/-- What may be laid over a row of this kind. -/
def avsB (k k' : Kind) : Bool :=
  match k, k' with
  | .other, _ => false
  | _, .other => false
  | .avs, _ => true
  | _, .avs => true
  | _, _ => false
theorem avsB_out {a b : Kind} (h : avsB a b = true) : (a = .avs ∨ b = .avs) ∧ a ≠ .other ∧ b ≠ .other := by
  cases a <;> cases b <;> simp [avsB] at h <;> simp
def okCp (k k' : Kind) (l : List CV) : Bool := match kindEqB k k' with | true => true | false => avsB k k' && allFitsK k l
theorem okCp_ne {k k' : Kind} {l : List CV} (h : okCp k k' l = true) : k ≠ .other ∧ k' ≠ .other := by
  unfold okCp at h
  split at h
  · rename_i hk; exact kindEqB_ne hk
  · simp only [Bool.and_eq_true] at h; exact (avsB_out h.1).2
/-- In place. -/
def inGo (s : CSt) (j : TyI) (k : Kind) (news : List CV) (m n off len : Nat) (r : CV) : Option (CV × AL CSeg × Nat) :=
  match segC s n with
  | .seg k' tr d mm op => (match okCp k' k news && (Nat.ble (m * j.bytes) 140737488355328 && Nat.ble (off + (len + m) * j.size) mm) with
    | true => some (r, AL.set (.seg k' (setManyC tr d (off + len * j.size) news) d mm op) s.hp n, s.c)
    | false => none)
  | _ => none
def inC (T : List (Nat × TyI)) (s : CSt) (t t2 : Nat) (x y : CV) : Option (CV × AL CSeg × Nat) :=
  match elemOfT T t with
  | none => none
  | some (_, j) => (match Nat.blt 0 j.size && Nat.beq j.zero.cells.size j.size with
    | false => none
    | true => (match srcZ T s t2 j y with
      | none => none
      | some (k, news, m) => (match x with
        | .slice n off len cap => (match Nat.ble (len + m) cap with | true => inGo s j k news m n off len (.slice n off (len + m) cap) | false => none)
        | .tail n off len sz => (match segC s n with
          | .seg _ _ _ mm _ => (match Nat.beq sz j.size && Nat.ble (off + (len + m) * j.size) mm with | true => inGo s j k news m n off len (.tail n off (len + m) sz) | false => none)
          | _ => none)
        | _ => none)))
/-- No room, as is known: the old row stays. -/
def farC (T : List (Nat × TyI)) (s : CSt) (t t2 : Nat) (x y : CV) : Option (CV × AL CSeg × Nat) :=
  match elemOfT T t with
  | none => none
  | some (_, j) =>
    (match srcZ T s t2 j y with
     | none => none
     | some (k, news, m) =>
       (match Nat.blt 0 j.size && (Nat.beq j.zero.cells.size j.size && (zeroFitsK k j.zero && oneSz k j.size)) with
        | false => none
        | true =>
          (match x with
           | .slice n off len cap => (match segC s n with
             | .seg k' tr d mm _ => (match (kindEqB k' k && (Nat.ble (off + cap * j.size) mm && (Nat.ble ((len + m) * j.bytes) 140737488355328 && Nat.ble (len + m) 9223372036854775807))) && !(Nat.ble (len + m) cap) with
               | true => growC s s.hp k j.size tr d off len news m
               | false => none)
             | _ => none)
           | _ => none)))
def appendC (T : List (Nat × TyI)) (s : CSt) (t t2 : Nat) (x y : CV) : Option (CV × AL CSeg × Nat) :=
  match inC T s t t2 x y with
  | some r => some r
  | none => (match farC T s t t2 x y with
    | some r => some r
    | none => appendO T s t t2 x y)

/-- The new row, as the abstract state has it. -/
theorem grow_in {hp' : AL CSeg} {st' : St} {k : Kind} {sz bytes : Nat} {z : Value} {tr : Trie CV} {d : List CV} {off len m : Nat} {news : List CV} {r : CV × AL CSeg × Nat} {jn : Cont}
    (hg : Gam τ ⟨s.sl, s.n, hp', s.c⟩ st') (hsl : st'.sl = st.sl) (h : growC s hp' k sz tr d off len news m = some r) (hkj : kindOf jn = k) (hz : zeroFitsK k z = true) (h1 : oneSz k sz = true) (hpos : 0 < sz)
    (hb : (len + m) * bytes ≤ 140737488355328) (h63 : len + m ≤ 9223372036854775807) (hn : news.length = m * sz) (hjl : jn.avl.length = (len + m) * sz)
    (hold : ∀ i, i < len * sz → ∃ y, jn.avl[i]? = some y ∧ Rel τ (cellC tr d (off + i)) y) (hnew : ∀ i (hi : i < news.length), ∃ y, jn.avl[len * sz + i]? = some y ∧ Rel τ news[i] y) :
    appendTo sz bytes z len jn m st'.hp (Made s τ r st) := by
  unfold growC at h
  rw [pushC_eq] at h
  cases h
  unfold appendTo
  rw [guardT_eq]
  refine ⟨⟨h63, .inl hb⟩, zeroFitsK_fits hz hkj, tailC_in (by rw [hkj]; exact zeroFitsK_ne hz) (by rw [hkj]; exact h1) fun c' r tl hk' hav htl => ?_⟩
  have hlen : c'.avl.length = (len + m + r) * sz := by rw [hav]; simp [hjl, htl, Nat.add_mul]
  have hcell : ∀ j, j < (len + m) * sz → ∃ y, c'.avl[j]? = some y ∧ Rel (τ ++ [c'.avl.length]) (cellC (growT sz tr d off len news) (growD d off len news) j) y := by
    intro j hj
    rw [hav, List.getElem?_append_left (by omega)]
    rw [Nat.add_mul] at hj
    rcases Nat.lt_or_ge j (len * sz) with hjl' | hjl'
    · obtain ⟨y, g1, g2⟩ := hold j hjl'
      refine ⟨y, g1, ?_⟩
      cases off with
      | zero =>
        rw [growT_zero _ _ _ _ _ _ (by omega), setManyC_get, dif_neg (by omega)]
        rw [Nat.zero_add] at g2
        exact g2.grow _
      | succ o =>
        simp only [growT, growD, setManyC_get, List.length_append, readC_len, Nat.zero_add, Nat.zero_le, true_and, Nat.sub_zero]
        rw [dif_pos (by omega)]
        rw [List.getElem_append_left (by rw [readC_len]; exact hjl')]
        have := readC_get tr d (len * sz) (o + 1) j hjl'
        rw [List.getElem?_eq_getElem (by rw [readC_len]; exact hjl')] at this
        rw [Option.some.inj this]
        exact g2.grow _
    · obtain ⟨y, g1, g2⟩ := hnew (j - len * sz) (by omega)
      rw [show len * sz + (j - len * sz) = j by omega] at g1
      refine ⟨y, g1, ?_⟩
      cases off with
      | zero =>
        rw [growT_zero _ _ _ _ _ _ (by rw [hn]; omega), setManyC_get, dif_pos (by omega)]
        exact g2.grow _
      | succ o =>
        simp only [growT, growD, setManyC_get, List.length_append, readC_len, Nat.zero_add, Nat.zero_le, true_and, Nat.sub_zero]
        rw [dif_pos (by omega)]
        rw [List.getElem_append_right (by rw [readC_len]; exact hjl')]
        simp only [readC_len]
        exact g2.grow _
  have hpush := hg.push (c := c') (k := k) (t' := (growT sz tr d off len news)) (d := (growD d off len news)) (m := (len + m) * sz) (op := true)
    (by rw [hk', hkj]) (by rw [hlen, Nat.add_mul (len + m)]; omega) (fun h => by cases h) hcell
  have hnames := hg.names
  refine ⟨[c'.avl.length], ?_, by rw [hsl] at hpush; exact hpush⟩
  simp only [Rel]
  refine ⟨len + m + r, c'.avl.length, by rw [hnames], by omega, ?_, by rw [hlen]; omega, hpos⟩
  have ht := hg.tots
  rw [List.getElem?_append_right (by rw [ht]; exact Nat.le_refl _)]
  simp [ht]

theorem srcC_len {t2 sz : Nat} {x : CV} {k : Kind} {cs : List CV} {m : Nat} (h : srcC T s t2 sz x = some (k, cs, m)) : cs.length = m * sz := by
  unfold srcC at h
  split at h
  · split at h
    · split at h
      · split at h
        · simp only [Option.some.injEq, Prod.mk.injEq] at h
          obtain ⟨rfl, rfl, rfl⟩ := h
          rw [readC_len]
        · cases h
      · cases h
    · split at h
      · split at h
        · simp only [Option.some.injEq, Prod.mk.injEq] at h
          obtain ⟨rfl, rfl, rfl⟩ := h
          rw [readC_len]
        · cases h
      · cases h
    · split at h
      · rename_i hb
        have hb := Nat.eq_of_beq_eq_true hb
        simp only [Option.some.injEq, Prod.mk.injEq] at h
        obtain ⟨rfl, rfl, rfl⟩ := h
        rw [List.length_map, hb, Nat.mul_one]; rfl
      · cases h
    · cases h
  · cases h

theorem srcZ_len {t2 : Nat} {j : TyI} {x : CV} {k : Kind} {cs : List CV} {m : Nat} (h : srcZ T s t2 j x = some (k, cs, m)) : cs.length = m * j.size := by
  unfold srcZ at h
  split at h
  · split at h
    · split at h
      · split at h
        · rename_i hb
          simp only [zeroOk, Bool.and_eq_true, Nat.ble_eq] at hb
          simp only [Option.some.injEq, Prod.mk.injEq] at h
          obtain ⟨rfl, rfl, rfl⟩ := h
          have := Nat.eq_of_beq_eq_true hb.2.1
          rw [repL_len, List.length_map, Array.length_toList, this]
        · cases h
      · cases h
    · cases h
  · exact srcC_len h

theorem appendO_vc {t t2 : Nat} {x y : Operand} {r : CV × AL CSeg × Nat} (h : appendO T s t t2 (evalC s x) (evalC s y) = some r) (hg : Gam τ s st) (hr : Rep w0 L ρ st a w) :
    appendAV T st.hp t t2 (av st x) (av st y) (Made s τ r st) := by
  have ex := evalC_rel hg x
  unfold appendO at h
  unfold appendAV
  split at h
  · cases h
  · rename_i e j hel
    rw [hel]
    split at h
    · cases h
    · rename_i k news m hsrc
      have hnl := srcZ_len hsrc
      split at h
      · cases h
      · rename_i hb
        simp only [Bool.and_eq_true] at hb
        obtain ⟨b1, b2, b3, b4⟩ := hb
        simp only [guardT_eq]
        refine ⟨b1, b2, srcZ_in (zeroFitsK_ne b3) hsrc hg hr fun dd hdk hds => ?_⟩
        have hpos : 0 < j.size := by simpa [Nat.blt_eq] using b1
        have hdl := hds.len
        split at h
        · rename_i hx
          rw [hx] at ex
          simp only [Rel] at ex
          rw [ex]
          split at h
          · rename_i hb'
            simp only [Bool.and_eq_true, Nat.ble_eq] at hb'
            refine grow_in (st' := st) hg rfl h hdk b3 b4 hpos (by simpa using hb'.1) (by simpa using hb'.2) hnl (by simp; omega) (fun i hi => by simp at hi) fun i hi => ?_
            obtain ⟨y, g1, g2⟩ := hds.get i news[i] (by simp)
            exact ⟨y, by simpa using g1, g2⟩
          · cases h
        · rename_i n off len cap hx
          rw [hx] at ex
          simp only [Rel] at ex
          rw [ex]
          obtain ⟨hn, hlc⟩ := hr.slice_lt ex
          split at h
          · rename_i k' tr d mm op hseg
            obtain ⟨cc, e1, _, e2, e3, e4, e5, e6⟩ := hg.seg hseg hn
            split at h
            · rename_i hb'
              simp only [Bool.and_eq_true, Nat.ble_eq] at hb'
              obtain ⟨c1, c2, c3, c4⟩ := hb'
              have c1 := kindEqB_eq c1
              subst c1
              have hlsz : len * j.size ≤ cap * j.size := Nat.mul_le_mul_right _ hlc
              simp only [e1, mulSz_eq]
              have hne : kindOf cc ≠ .other := by rw [e2]; exact zeroFitsK_ne b3
              refine ⟨by rw [← Cont.len_eq]; omega, subE_in hne (joinC_in (by rw [kindOf_subC hne]; exact hne) (by rw [kindOf_subC hne, e2, hdk]) fun jn hj1 hj2 => ?_)⟩
              rw [kindOf_subC hne, e2] at hj1
              have hsub : (subC cc off (len * j.size)).avl.length = len * j.size := by rw [subC_avl]; simp; omega
              refine grow_in (st' := ⟨st.sl, Fw.setSeg st.hp n .dead⟩) (hg.kill n) rfl h hj1 b3 b4 hpos c3 c4 hnl (by rw [hj2, List.length_append, hsub, Nat.add_mul]; omega) (fun i hi => ?_) fun i hi => ?_
              · obtain ⟨y, g1, g2⟩ := e6 (off + i) (by omega)
                refine ⟨y, ?_, g2⟩
                rw [hj2, List.getElem?_append_left (by omega), subC_avl, List.getElem?_take, if_pos hi, List.getElem?_drop]
                exact g1
              · obtain ⟨y, g1, g2⟩ := hds.get i news[i] (by simp)
                refine ⟨y, ?_, g2⟩
                rw [hj2, List.getElem?_append_right (by omega), hsub, Nat.add_sub_cancel_left]
                exact g1
            · cases h
          · cases h
        · rename_i n off len sz hx
          rw [hx] at ex
          simp only [Rel] at ex
          obtain ⟨cap, TT, ex, x1, x2, x3, x4⟩ := ex
          rw [ex]
          obtain ⟨hn, hlc⟩ := hr.slice_lt ex
          split at h
          · rename_i k' tr d mm op hseg
            obtain ⟨cc, e1, _, e2, e3, e4, e5, e6⟩ := hg.seg hseg hn
            split at h
            · rename_i hb'
              simp only [Bool.and_eq_true, Nat.ble_eq] at hb'
              obtain ⟨c1, c0, c2, c3, c4⟩ := hb'
              have c1 := kindEqB_eq c1
              subst c1
              have c0 := Nat.eq_of_beq_eq_true c0
              subst c0
              have hlsz : len * j.size ≤ cap * j.size := Nat.mul_le_mul_right _ hlc
              rw [x2] at e3
              simp only [Option.some.injEq] at e3
              simp only [e1, mulSz_eq]
              have hne : kindOf cc ≠ .other := by rw [e2]; exact zeroFitsK_ne b3
              refine ⟨by rw [← Cont.len_eq]; omega, subE_in hne (joinC_in (by rw [kindOf_subC hne]; exact hne) (by rw [kindOf_subC hne, e2, hdk]) fun jn hj1 hj2 => ?_)⟩
              rw [kindOf_subC hne, e2] at hj1
              have hsub : (subC cc off (len * j.size)).avl.length = len * j.size := by rw [subC_avl]; simp; omega
              refine grow_in (st' := ⟨st.sl, Fw.setSeg st.hp n .dead⟩) (hg.kill n) rfl h hj1 b3 b4 hpos c3 c4 hnl (by rw [hj2, List.length_append, hsub, Nat.add_mul]; omega) (fun i hi => ?_) fun i hi => ?_
              · obtain ⟨y, g1, g2⟩ := e6 (off + i) (by omega)
                refine ⟨y, ?_, g2⟩
                rw [hj2, List.getElem?_append_left (by omega), subC_avl, List.getElem?_take, if_pos hi, List.getElem?_drop]
                exact g1
              · obtain ⟨y, g1, g2⟩ := hds.get i news[i] (by simp)
                refine ⟨y, ?_, g2⟩
                rw [hj2, List.getElem?_append_right (by omega), hsub, Nat.add_sub_cancel_left]
                exact g1
            · cases h
          · cases h
        · cases h

theorem cont_fits {c : Cont} (hne : kindOf c ≠ .other) (h : kindOf c ≠ .avs) : ∀ x ∈ c.avl, fitsA (kindOf c) x = true := by
  cases c <;> simp [kindOf] at h hne <;> intro x hx <;> simp only [Cont.avl, List.mem_map] at hx <;> obtain ⟨b, _, rfl⟩ := hx <;> simp [fitsA, kindOf, ikEq_refl, fkEq_refl]
theorem catOf {c d : Cont} (off : Nat) (hne : kindOf c ≠ .other) (h : kindOf d = kindOf c ∨ ∀ x ∈ d.avl, fitsA (kindOf c) x = true) : ∃ c', kindOf c' = kindOf c ∧ c'.avl = c.avl.take off ++ d.avl ++ c.avl.drop (off + d.avl.length) := by
  by_cases hc : kindOf c = .avs
  · exact ⟨.avs (c.avl.take off ++ d.avl ++ c.avl.drop (off + d.avl.length)), hc.symm, rfl⟩
  · refine contOf _ fun x hx => ?_
    rcases List.mem_append.1 hx with hx | hx
    · rcases List.mem_append.1 hx with hx | hx
      · exact cont_fits hne hc x (List.mem_of_mem_take hx)
      · rcases h with h | h
        · rw [← h]; exact cont_fits (by rw [h]; exact hne) (by rw [h]; exact hc) x hx
        · exact h x hx
    · exact cont_fits hne hc x (List.mem_of_mem_drop hx)

theorem inGo_ok (hT : TOk P T) {t t2 ty e : Nat} {j : TyI} {x y : Operand} {r : CV × AL CSeg × Nat} {k : Kind} {news : List CV} {m n off len cap : Nat} {q : CV} (hel : elemOfT T t = some (e, j)) (hpos : 0 < j.size) (hzs : j.zero.cells.size = j.size)
    (hsrc : srcZ T s t2 j (evalC s y) = some (k, news, m)) (hx : av st x = .slice n off len cap) (hcap : len + m ≤ cap) (hq : Rel τ q (.slice n off (len + m) cap)) (h : inGo s j k news m n off len q = some r) (hg : Gam τ s st) (hr : Rep w0 L ρ st a w) :
    ∃ y' H' ρ' v w', Made s τ r st y' H' ∧ (Builtin.append_ #[t, t2] ty #[a.eval x, a.eval y]).run P w = .ok v w' ∧ Den (ρ ++ ρ') y' v ∧ Rep w0 L (ρ ++ ρ') { st with hp := H' } a w' := by
  obtain ⟨hn, hlc⟩ := hr.slice_lt hx
  unfold inGo at h
  split at h
  · rename_i k' tr d mm op hseg
    obtain ⟨cc, e1, e1', e2, e3, e4, e5, e6⟩ := hg.seg hseg hn
    split at h
    · rename_i hb
      simp only [Bool.and_eq_true, Nat.ble_eq] at hb
      obtain ⟨b1, b2, b3⟩ := hb
      cases h
      have hnl := srcZ_len hsrc
      have hexp : off + (len + m) * j.size = off + len * j.size + m * j.size := by rw [Nat.add_mul]; omega
      refine append_in_sound (ty := ty) (n := n) (off := off) (len := len) (cap := cap) (c := cc) hT hel hzs e1' (srcZ_in (okCp_ne b1).2 hsrc hg hr fun dd hdk hds => ?_) hr (by have := av_den hr x; rwa [hx] at this) (av_den hr y)
      have hdl := hds.len
      obtain ⟨c', k1, k2⟩ := catOf (c := cc) (d := dd) (off + len * j.size) (by rw [e2]; exact (okCp_ne b1).1) (by
        unfold okCp at b1
        split at b1
        · rename_i hk; left; rw [hdk, e2, kindEqB_eq hk]
        · simp only [Bool.and_eq_true] at b1
          right; rw [e2]; exact allFitsK_A b1.2 hds)
      refine ⟨⟨hcap, by omega, by rw [← Cont.len_eq]; omega⟩, c', k2, [], by rw [List.append_nil]; exact hq, ?_⟩
      rw [List.append_nil]
      refine hg.setSeg e1' e3 (by rw [k1, e2]) (by rw [k2]; simp; omega) e4 e5 fun jj hj => ?_
      rw [setManyC_get, k2]
      by_cases hj2 : off + len * j.size ≤ jj ∧ jj < off + len * j.size + news.length
      · rw [dif_pos hj2]
        obtain ⟨y, g1, g2⟩ := hds.get (jj - (off + len * j.size)) (news[jj - (off + len * j.size)]'(by omega)) (by simp)
        refine ⟨y, ?_, g2⟩
        rw [List.append_assoc, List.getElem?_append_right (by simp; omega)]
        have : (cc.avl.take (off + len * j.size)).length = off + len * j.size := by simp; omega
        rw [this, List.getElem?_append_left (by omega)]
        exact g1
      · rw [dif_neg hj2]
        obtain ⟨y, g1, g2⟩ := e6 jj hj
        refine ⟨y, ?_, g2⟩
        rcases Nat.lt_or_ge jj (off + len * j.size) with hjo | hjo
        · rw [List.append_assoc, List.getElem?_append_left (by simp; omega), List.getElem?_take, if_pos hjo]; exact g1
        · rw [List.getElem?_append_right (by simp; omega)]
          have : (cc.avl.take (off + len * j.size) ++ dd.avl).length = off + len * j.size + dd.avl.length := by simp; omega
          rw [this, List.getElem?_drop]
          rw [show off + len * j.size + dd.avl.length + (jj - (off + len * j.size + dd.avl.length)) = jj by omega]; exact g1
    · cases h
  · cases h

theorem farC_ok (hT : TOk P T) {t t2 ty : Nat} {x y : Operand} {r : CV × AL CSeg × Nat} (h : farC T s t t2 (evalC s x) (evalC s y) = some r) (hg : Gam τ s st) (hr : Rep w0 L ρ st a w) :
    ∃ y' H' ρ' v w', Made s τ r st y' H' ∧ (Builtin.append_ #[t, t2] ty #[a.eval x, a.eval y]).run P w = .ok v w' ∧ Den (ρ ++ ρ') y' v ∧ Rep w0 L (ρ ++ ρ') { st with hp := H' } a w' := by
  have ex := evalC_rel hg x
  unfold farC at h
  split at h
  · cases h
  · rename_i e j hel
    split at h
    · cases h
    · rename_i k news m hsrc
      have hnl := srcZ_len hsrc
      split at h
      · cases h
      · rename_i hb
        simp only [Bool.and_eq_true] at hb
        obtain ⟨b1, b2, b3, b4⟩ := hb
        have hpos : 0 < j.size := by simpa [Nat.blt_eq] using b1
        split at h
        · rename_i n off len cap hx
          rw [hx] at ex
          simp only [Rel] at ex
          obtain ⟨hn, hlc⟩ := hr.slice_lt ex
          split at h
          · rename_i k' tr d mm op hseg
            obtain ⟨cc, e1, e1', e2, e3, e4, e5, e6⟩ := hg.seg hseg hn
            split at h
            · rename_i hb'
              simp only [Bool.and_eq_true, Nat.ble_eq, Bool.not_eq_true'] at hb'
              obtain ⟨⟨c1, c2, c3, c4⟩, c5⟩ := hb'
              have c5 : ¬ len + m ≤ cap := by intro h; rw [Nat.ble_eq_true_of_le h] at c5; cases c5
              have c1 := kindEqB_eq c1
              subst c1
              have hlsz : len * j.size ≤ cap * j.size := Nat.mul_le_mul_right _ hlc
              refine append_far_sound (ty := ty) (cap := cap) hT hel (Nat.eq_of_beq_eq_true b2) e1' (srcZ_in (zeroFitsK_ne b3) hsrc hg hr fun dd hdk hds => ?_) hr (by have := av_den hr x; rwa [ex] at this) (av_den hr y)
              have hdl := hds.len
              have hne : kindOf cc ≠ .other := by rw [e2]; exact zeroFitsK_ne b3
              refine ⟨⟨by rw [← Cont.len_eq]; omega, by omega⟩, joinC_in (by rw [kindOf_subC hne]; exact hne) (by rw [kindOf_subC hne, e2, hdk]) fun jn hj1 hj2 => ?_⟩
              rw [kindOf_subC hne, e2] at hj1
              have hsub : (subC cc off (len * j.size)).avl.length = len * j.size := by rw [subC_avl]; simp; omega
              refine grow_in (st' := st) hg rfl h hj1 b3 b4 hpos c3 c4 hnl (by rw [hj2, List.length_append, hsub, Nat.add_mul]; omega) (fun i hi => ?_) fun i hi => ?_
              · obtain ⟨y, g1, g2⟩ := e6 (off + i) (by omega)
                refine ⟨y, ?_, g2⟩
                rw [hj2, List.getElem?_append_left (by omega), subC_avl, List.getElem?_take, if_pos hi, List.getElem?_drop]
                exact g1
              · obtain ⟨y, g1, g2⟩ := hds.get i news[i] (by simp)
                refine ⟨y, ?_, g2⟩
                rw [hj2, List.getElem?_append_right (by omega), hsub, Nat.add_sub_cancel_left]
                exact g1
            · cases h
          · cases h
        · cases h

theorem appendC_ok (hT : TOk P T) {t t2 ty : Nat} {x y : Operand} {r : CV × AL CSeg × Nat} (h : appendC T s t t2 (evalC s x) (evalC s y) = some r) (hg : Gam τ s st) (hr : Rep w0 L ρ st a w) :
    ∃ y' H' ρ' v w', Made s τ r st y' H' ∧ (Builtin.append_ #[t, t2] ty #[a.eval x, a.eval y]).run P w = .ok v w' ∧ Den (ρ ++ ρ') y' v ∧ Rep w0 L (ρ ++ ρ') { st with hp := H' } a w' := by
  unfold appendC at h
  split at h
  · rename_i r' hin
    cases h
    unfold inC at hin
    split at hin
    · cases hin
    · rename_i e j hel
      split at hin
      · cases hin
      · rename_i hb
        simp only [Bool.and_eq_true] at hb
        have hpos : 0 < j.size := by simpa [Nat.blt_eq] using hb.1
        have hzs := Nat.eq_of_beq_eq_true hb.2
        split at hin
        · cases hin
        · rename_i k news m hsrc
          have ex := evalC_rel hg x
          split at hin
          · rename_i n off len cap hx
            rw [hx] at ex
            simp only [Rel] at ex
            split at hin
            · rename_i hc
              exact inGo_ok hT hel hpos hzs hsrc ex (Nat.le_of_ble_eq_true hc) (by simp only [Rel]) hin hg hr
            · cases hin
          · rename_i n off len sz hx
            rw [hx] at ex
            simp only [Rel] at ex
            obtain ⟨cap, TT, ex, x1, x2, x3, x4⟩ := ex
            obtain ⟨hn, hlc⟩ := hr.slice_lt ex
            split at hin
            · rename_i k' tr d mm op hseg
              obtain ⟨cc, e1, _, e2, e3, e4, e5, e6⟩ := hg.seg hseg hn
              split at hin
              · rename_i hb'
                simp only [Bool.and_eq_true, Nat.ble_eq] at hb'
                have c0 := Nat.eq_of_beq_eq_true hb'.1
                subst c0
                rw [x2] at e3
                simp only [Option.some.injEq] at e3
                have hcap : len + m ≤ cap := by
                  have : (len + m) * j.size ≤ cap * j.size := by omega
                  exact Nat.le_of_mul_le_mul_right this hpos
                exact inGo_ok hT hel hpos hzs hsrc ex hcap (by simp only [Rel]; exact ⟨cap, TT, rfl, hcap, x2, x3, x4⟩) hin hg hr
              · cases hin
            · cases hin
          · cases hin
  · split at h
    · rename_i r' hfar
      cases h
      exact farC_ok hT hfar hg hr
    · exact append_sound hT (appendO_vc h hg hr) hr (av_den hr x) (av_den hr y)
end
end Go.Fw

namespace Go.Fw
open Go Go.RowKit

/-- In which order a region that draws its order is run. b: taken early: it hangs on no memory. -/
inductive PlanC where
  | done | fin
  | op (k : Nat) (b : Bool) (r : PlanC)
  | alt (k : Nat) (r p : PlanC)
  | two (j k : Nat) (r : PlanC)
  | chk (ds : List Nat) (r : PlanC)
  | twoD (j k : Nat) (ds : List Nat) (r : PlanC)

/-- Not this slot. -/
def offT (d : Option Tmp) : Operand → Bool
  | .tmp t => (match d with | some u => !Nat.beq t u | none => true)
  | _ => true
def offL (d : Option Tmp) : List (Nat × Operand) → Bool
  | [] => true
  | p :: r => offT d p.2 && offL d r
/-- An operation that makes one new row, of operands that are not in d. -/
def freshB (d : Option Tmp) (o : Oper) : Bool :=
  match o.guard with
  | some _ => false
  | none => (match o.op with
    | .makeSlice _ l c => offT d l && offT d c
    | .buildSlice _ _ ps => offL d ps.toList
    | .alloc _ => true
    | _ => false)
def offD (a b : Option Tmp) : Bool := match a, b with | some x, some y => !Nat.beq x y | _, _ => true
/-- Two new rows that don't hang on each other. -/
def twoB (o u : Oper) : Bool := freshB u.dst o && (freshB o.dst u && offD o.dst u.dst)

/-- What goes with a function's code: plans of regions; which slots are carried round a loop, and behind a place where ways meet (of the others that were written nothing is known there); whose rows are given up behind a region, and at the end. -/
structure Ann where
  plan : Nat → Option PlanC
  wl : Nat → List Nat
  wj : Nat → Option (List Nat)
  kr : Nat → List Nat
  kf : List Nat

/-- The first region's number. -/
def firstR : Code → Nat
  | .region id _ _ => id
  | .seq a b => match firstR a with | 0 => firstR b | n + 1 => n + 1
  | .cond _ a b => match firstR a with | 0 => firstR b | n + 1 => n + 1
  | .block _ b => firstR b
  | .loop b => firstR b
  | .scope b => firstR b
  | _ => 0
def opsW : List Oper → List Nat
  | [] => []
  | o :: r => match o.dst with | some t => t :: opsW r | none => opsW r
/-- The slots that code writes. -/
def wrC : Code → List Nat
  | .region _ ops _ => opsW ops.toList
  | .seq a b => wrC a ++ wrC b
  | .cond _ a b => wrC a ++ wrC b
  | .block _ b => wrC b
  | .loop b => wrC b
  | .scope b => wrC b
  | _ => []
def anyAt : List Nat → List CV → List CV
  | [], l => l
  | t :: r, l => anyAt r (l.set t .any)
def butL (ws w : List Nat) : List Nat := w.filter fun t => !ws.contains t
def weakS (ws w : List Nat) (s : CSt) : CSt := ⟨anyAt (butL ws w) s.sl, s.n, s.hp, s.c⟩
def weakJ (o : Option (List Nat)) (a : Code) (s : CSt) : CSt := match o with | some ws => weakS ws (wrC a) s | none => s

/-- The row of a slot is given up. -/
def killV (v : CV) (hp : AL CSeg) : AL CSeg := match v with | .slice n _ _ _ => hp.erase n | .tail n _ _ _ => hp.erase n | .ptr n _ => hp.erase n | _ => hp
def killH : List Nat → List CV → AL CSeg → AL CSeg
  | [], _, hp => hp
  | t :: r, sl, hp => killH r sl (killV (sl.getD t (.tup [])) hp)
def killS (l : List Nat) (s : CSt) : CSt := ⟨s.sl, s.n, killH l s.sl s.hp, s.c⟩

/-- A function of the table. -/
structure Ent where
  fn : Func
  code : Code
  rs : List ResultVar
  n : Nat
  ann : Ann
  ext : Bool

inductive CE where
  | normal | exit (k : Nat) | ret
def CE.out : CE → Exit
  | .normal => .normal
  | .exit k => .exit k
  | .ret => .ret

abbrev CallF := FuncId → List CV → AL CSeg → Nat → Option (List (CV × AL CSeg × Nat))

def copyCC (T : List (Nat × TyI)) (s : CSt) (t : Nat) (x y : CV) : Option (CV × AL CSeg) :=
  match elemOfT T t with
  | some (_, j) => (match x, y with
    | .slice n off len _, .slice m off2 len2 _ => go j n off len m off2 len2
    | .slice n off len _, .tail m off2 len2 _ => go j n off len m off2 len2
    | .tail n off len _, .slice m off2 len2 _ => go j n off len m off2 len2
    | .tail n off len _, .tail m off2 len2 _ => go j n off len m off2 len2
    | _, _ => none)
  | none => none
where
  go (j : TyI) (n off len m off2 len2 : Nat) : Option (CV × AL CSeg) :=
    match segC s n, segC s m with
    | .seg k tr d mm op, .seg k' tr' d' mm' _ => (match okCp k k' (readC tr' d' off2 (min len2 len * j.size)) && (Nat.ble (off + min len2 len * j.size) mm && Nat.ble (off2 + min len2 len * j.size) mm') with
      | true => (setManyC tr d off (readC tr' d' off2 (min len2 len * j.size))).force fun tr => some (.int .i64 (.ofNat (min len2 len)), AL.set (.seg k tr d mm op) s.hp n)
      | false => none)
    | _, _ => none

def made (s : CSt) (o : Oper) (r : Option (CV × AL CSeg × Nat)) : Option CSt :=
  match r with
  | some (x, hp, c) => stepK ⟨s.sl, s.n, hp, c⟩ o.dst x
  | none => none

/-- The source of an append is nil: the row itself. -/

def copyNil (x y : CV) : Bool :=
  match y with
  | .nils => (match x with
    | .nils => true
    | .slice _ _ _ _ => true
    | .tail _ _ _ _ => true
    | _ => false)
  | _ => false
def appendNil (x y : CV) : Option CV :=
  match y with
  | .nils => (match x with
    | .nils => some .nils
    | .slice n o l c => some (.slice n o l c)
    | .tail n o l z => some (.tail n o l z)
    | _ => none)
  | _ => none

def stepL (s : CSt) (d : Option Tmp) : List (CV × AL CSeg × Nat) → Option (List CSt)
  | [] => some []
  | (x, hp, c) :: r => (match stepK ⟨s.sl, s.n, hp, c⟩ d x with
    | some s' => (match stepL s d r with | some l => some (s' :: l) | none => none)
    | none => none)

def callL (call : CallF) (s : CSt) (o : Oper) (f : Operand) (args : List Operand) : Option (List CSt) :=
  match evalC s f with
  | .fn g caps => (match call g (args.map (evalC s) ++ caps) s.hp s.c with | some l => stepL s o.dst l | none => none)
  | .fnb g fs => (match call g (fs ++ args.map (evalC s)) s.hp s.c with | some l => stepL s o.dst l | none => none)
  | _ => none

/-- A text made a row of bytes: memory is made. -/
def strB (T : List (Nat × TyI)) (o : Oper) : Bool :=
  match o.op with
  | .convert _ dst _ => (match tyAt T dst with | some i => (match i.d with | .slice _ => true | _ => false) | none => false)
  | _ => false
def effC (T : List (Nat × TyI)) (o : Oper) : Bool := isEff (fun _ => false) o || strB T o
def effIdxC (T : List (Nat × TyI)) : List Oper → Nat
  | [] => 0
  | o :: r => if !effC T o then effIdxC T r + 1 else 0
def regionC (T : List (Nat × TyI)) (ops : Array Oper) (draw : Bool) : Bool :=
  !draw || (if ops.toList.all (fun o => !effC T o) then Region.lexB .any ops else Region.lexTailB .any ops (effIdxC T ops.toList))
theorem effIdxC_pure (T : List (Nat × TyI)) : ∀ l : List Oper, (l.take (effIdxC T l)).all (fun o => !effC T o) = true
  | [] => rfl
  | o :: r => by
    unfold effIdxC
    by_cases h : (!effC T o) = true
    · simp only [h, if_true, List.take_succ_cons, List.all_cons, effIdxC_pure T r]; simp
    · simp [h]
theorem effC_isEff {T : List (Nat × TyI)} {o : Oper} (h : effC T o = false) : isEff (fun _ => false) o = false ∧ strB T o = false := by
  unfold effC at h
  simpa using h
/-- A text's bytes, in a new row. -/
def bytesC (T : List (Nat × TyI)) (s : CSt) (src dst : Nat) (x : CV) : Option (CV × AL CSeg × Nat) :=
  match x, elemOfT T dst, tyAt T src with
  | .str b, some (_, j), some i => (match i.d, j.d with
    | .str, .int .u8 => pushC s (.ints .u8) (setManyC .nil [] 0 (b.data.toList.map fun b => .int .u8 (.ofNat b.toNat))) [] b.size true (.tail s.c 0 b.size 1)
    | _, _ => none)
  | _, _, _ => none
/-- Cells laid over a row's beginning. -/
def layC (s : CSt) (x z : CV) (news : List CV) : Option (CV × AL CSeg × Nat) :=
  match x with
  | .slice n off len _ => go n off len
  | .tail n off len _ => go n off len
  | _ => none
where
  go (n off len : Nat) : Option (CV × AL CSeg × Nat) :=
    match segC s n with
    | .seg k tr d mm op => (match allFitsK k news && (Nat.blt 0 len && Nat.ble (off + news.length) mm) with
      | true => (setManyC tr d off news).force fun tr => some (z, AL.set (.seg k tr d mm op) s.hp n, s.c)
      | false => none)
    | _ => none
def lenOfC : CV → Option Nat
  | .slice _ _ l _ => some l
  | .tail _ _ l _ => some l
  | .nils => some 0
  | _ => none
/-- copy(dst, a text). -/
def cpTC (T : List (Nat × TyI)) (s : CSt) (t : Nat) (x y : CV) : Option (CV × AL CSeg × Nat) :=
  match y, lenOfC x, elemOfT T t with
  | .str b, some l, some (_, j) => (match Nat.beq j.size 1, min b.size l with
    | true, 0 => some (.int .i64 (.ofNat 0), s.hp, s.c)
    | true, m + 1 => layC s x (.int .i64 (.ofNat (m + 1))) ((b.data.toList.take (m + 1)).map fun b => .int .u8 (.ofNat b.toNat))
    | _, _ => none)
  | _, _, _ => none
/-- clear(a row). -/
def clrC (T : List (Nat × TyI)) (s : CSt) (t : Nat) (x : CV) : Option (CV × AL CSeg × Nat) :=
  match lenOfC x, elemOfT T t with
  | some 0, some _ => some (.tup [], s.hp, s.c)
  | some l, some (_, j) => layC s x (.tup []) ((Builtin.zeroCells j.zero.cells l).toList.map cvS)
  | _, _ => none
def opC (P : Program) (T : List (Nat × TyI)) (s : CSt) (o : Oper) : Option CSt :=
  match effC T o with
  | false => (match evC P T s o with | some x => stepK s o.dst x | none => none)
  | true =>
    (match o.op with
     | .store t ad x => (match storeC T s t (evalC s ad) (evalC s x) with | some hp => stepK ⟨s.sl, s.n, hp, s.c⟩ o.dst (.tup []) | none => none)
     | .convert src dst x => made s o (bytesC T s src dst (evalC s x))
     | .makeSlice t l c => made s o (makeC T s t (evalC s l) (evalC s c))
     | .alloc t => made s o (allocC T s t)
     | .box _ x => made s o (boxC s (evalC s x))
     | .buildSlice t len ps => made s o (buildSliceC T s t len ps.toList)
     | .call c => (match c.callee, c.args.toList, c.argTypes.toList with
       | .builtin .append, [x, y], [t, t2] => (match appendNil (evalC s x) (evalC s y) with
         | some z => (match elemOfT T t, tyAt T t2 with
           | some _, some i => (match i.d with | .slice _ => stepK s o.dst z | _ => none)
           | _, _ => none)
         | none => made s o (appendC T s t t2 (evalC s x) (evalC s y)))
       | .builtin .copy, [x, y], [t, _] => (match copyNil (evalC s x) (evalC s y), elemOfT T t with
         | true, some _ => stepK s o.dst (.int .i64 (.ofNat 0))
         | true, none => none
         | false, _ => (match copyCC T s t (evalC s x) (evalC s y) with
           | some (z, hp) => stepK ⟨s.sl, s.n, hp, s.c⟩ o.dst z
           | none => made s o (cpTC T s t (evalC s x) (evalC s y))))
       | .builtin .clear, [x], [t] => made s o (clrC T s t (evalC s x))
       | _, _, _ => made s o (objC P s o))
     | _ => made s o (objC P s o))

def calleeOf (o : Oper) : Option (Operand × List Operand) :=
  match o.op with
  | .call c => (match c.callee with | .value f => some (f, c.args.toList) | _ => none)
  | _ => none

def opL (P : Program) (T : List (Nat × TyI)) (call : CallF) (s : CSt) (o : Oper) : Option (List CSt) :=
  match calleeOf o with
  | some (f, args) => callL call s o f args
  | none => (match opC P T s o with | some s' => some [s'] | none => none)

def allL {α β : Type} (f : α → Option (List β)) : List α → Option (List β)
  | [] => some []
  | [a] => f a
  | a :: r => (match f a with
    | some x => (match allL f r with | some y => some (x ++ y) | none => none)
    | none => none)
def bindL {α β : Type} (r : Option (List α)) (f : α → Option (List β)) : Option (List β) := match r with | some l => allL f l | none => none

theorem allL_mem {α β : Type} {f : α → Option (List β)} : ∀ {l : List α} {L : List β}, allL f l = some L → ∀ a ∈ l, ∃ La, f a = some La ∧ ∀ b ∈ La, b ∈ L
  | [], _, _, a, ha => by simp at ha
  | [a], L, h, x, hx => by
    simp at hx; subst hx
    exact ⟨L, h, fun b hb => hb⟩
  | a :: b :: r, L, h, x, hx => by
    simp only [allL] at h
    split at h
    · rename_i u hu
      split at h
      · rename_i v hv
        cases h
        rcases List.mem_cons.1 hx with rfl | hx
        · exact ⟨u, hu, fun y hy => by simp [hy]⟩
        · obtain ⟨La, h1, h2⟩ := allL_mem (l := b :: r) hv x hx
          exact ⟨La, h1, fun y hy => by simp [h2 y hy]⟩
      · cases h
    · cases h
theorem bindL_mem {α β : Type} {r : Option (List α)} {f : α → Option (List β)} {L : List β} (h : bindL r f = some L) : ∃ l, r = some l ∧ ∀ a ∈ l, ∃ La, f a = some La ∧ ∀ b ∈ La, b ∈ L := by
  unfold bindL at h
  split at h
  · exact ⟨_, rfl, allL_mem h⟩
  · cases h

def oneL (r : Option CSt) : Option (List CSt) := match r with | some s => some [s] | none => none

def opsL (P : Program) (T : List (Nat × TyI)) (call : CallF) (all : List Oper) : List Oper → CSt → Option (List CSt)
  | [], s => some [s]
  | o :: rest, s =>
    match o.guard with
    | none => bindL (opL P T call s o) (opsL P T call all rest)
    | some (j, want) =>
      (match guardDst all j with
       | some t => (match evalC s (.tmp t) with
         | .bool true => (match want with
           | true => bindL (opL P T call s o) (opsL P T call all rest)
           | false => bindL (oneL (stepK s o.dst (.tup []))) (opsL P T call all rest))
         | .bool false => (match want with
           | false => bindL (opL P T call s o) (opsL P T call all rest)
           | true => bindL (oneL (stepK s o.dst (.tup []))) (opsL P T call all rest))
         | .tup [] => bindL (oneL (stepK s o.dst (.tup []))) (opsL P T call all rest)
         | _ => none)
       | none => none)

/-- A value that has one meaning. -/
def detS : CV → Bool
  | .bool _ | .int _ _ | .flt _ _ | .cpx _ _ _ | .str _ | .nils | .nilp | .nilf | .nilm | .ptr _ _ | .map _ => true
  | .slice _ _ _ c => Nat.blt 0 c
  | _ => false
def detL : List CV → Bool
  | [] => true
  | c :: r => detS c && detL r
def detC : CV → Bool
  | .agg cs => detL cs
  | c => detS c
/-- The same, and it has one meaning. -/
def sameS (x y : CV) : Bool :=
  match x, y with
  | .bool a, .bool b => (match a, b with | true, true => true | false, false => true | _, _ => false)
  | .int k a, .int k' b => ikEq k k' && eqI a b
  | .flt k a, .flt k' b => fkEq k k' && Nat.beq a b
  | .cpx k a b, .cpx k' a' b' => fkEq k k' && (Nat.beq a a' && Nat.beq b b')
  | .str a, .str b => bEq a.data.toList b.data.toList
  | .nils, .nils => true
  | .nilp, .nilp => true
  | .nilf, .nilf => true
  | .nilm, .nilm => true
  | .ptr n o, .ptr m p => Nat.beq n m && Nat.beq o p
  | .map n, .map m => Nat.beq n m
  | .slice n o l c, .slice n' o' l' c' => Nat.beq n n' && (Nat.beq o o' && (Nat.beq l l' && (Nat.beq c c' && Nat.blt 0 c)))
  | .tail n o l z, .tail n' o' l' z' => Nat.beq n n' && (Nat.beq o o' && (Nat.beq l l' && (Nat.beq z z' && Nat.blt 0 l)))
  | .fn f [], .fn g [] => Nat.beq f g
  | _, _ => false
def sameL : List CV → List CV → Bool
  | [], [] => true
  | a :: x, b :: y => sameS a b && sameL x y
  | _, _ => false
def sameA (x y : CV) : Bool :=
  match x, y with
  | .agg a, .agg b => sameL a b
  | .fn f a, .fn g b => Nat.beq f g && sameL a b
  | x, y => sameS x y
def sameAL : List CV → List CV → Bool
  | [], [] => true
  | a :: x, b :: y => sameA a b && sameAL x y
  | _, _ => false
def sameD (x y : CV) : Bool :=
  match x, y with
  | .agg a, .agg b => sameL a b
  | .tup a, .tup b => sameAL a b
  | .fn f a, .fn g b => Nat.beq f g && sameL a b
  | x, y => sameS x y

def isMove (o : Oper) : Bool := match o.op with | .move _ => true | .assign _ => true | _ => false

/-- It hangs on no memory: what it says, it says without. -/
def blindC (P : Program) (T : List (Nat × TyI)) (s : CSt) (o : Oper) : Bool :=
  match isMove o with
  | true => true
  | false => (match o.guard with
    | some _ => false
    | none => (match evC P T ⟨s.sl, s.n, .nil, s.c⟩ o with | some x => detC x | none => false))

/-- A call of a function that leaves the world alone: what it hands back, the world as it was. -/
def stillL (stl : FuncId → Bool) (call : CallF) (s : CSt) (o : Oper) : Option CSt :=
  match calleeOf o with
  | some (f, args) => (match f with
    | .func g => (match stl g with
      | true => (match call g (args.map (evalC s)) s.hp s.c with
        | some [(x, _, _)] => (match toV x with | some _ => stepK s o.dst x | none => none)
        | _ => none)
      | false => none)
    | _ => none)
  | none => none

def isStill (stl : FuncId → Bool) (o : Oper) : Bool :=
  match calleeOf o with
  | some (.func g, _) => stl g
  | _ => false

/-- Is it to be done? -/
def guardV (want : Bool) : CV → Option Bool
  | .bool true => some want
  | .bool false => some !want
  | .tup [] => some false
  | _ => none
def stillG (stl : FuncId → Bool) (call : CallF) (all : List Oper) (s : CSt) (o : Oper) : Option CSt :=
  match o.guard with
  | none => stillL stl call s o
  | some (j, want) => (match guardDst all j with
    | some t => (match guardV want (evalC s (.tmp t)) with
      | some true => stillL stl call s o
      | some false => stepK s o.dst (.tup [])
      | none => none)
    | none => none)
/-- One operation of a plan. -/
def pickL (P : Program) (T : List (Nat × TyI)) (stl : FuncId → Bool) (call : CallF) (all : List Oper) (o : Oper) (s : CSt) : Option (List CSt) :=
  match isStill stl o with
  | true => oneL (stillG stl call all s o)
  | false => opsL P T call all [o] s

/-- What a reading operation says now. -/
def rdC (P : Program) (T : List (Nat × TyI)) (all : List Oper) (s : CSt) (o : Oper) : Option CV :=
  match o.guard with
  | none => evC P T s o
  | some (j, want) => (match guardDst all j with
    | some t => (match guardV want (evalC s (.tmp t)) with
      | some true => evC P T s o
      | some false => some (.tup [])
      | none => none)
    | none => none)
/-- What was read early still reads so. -/
def rechk (P : Program) (T : List (Nat × TyI)) (all : List Oper) (s : CSt) : List Nat → Bool
  | [] => true
  | k :: r => (match nthOp all k with
    | some o => (match o.dst with
      | some t => (match rdC P T all s o with
        | some x => (match sameD x (evalC s (.tmp t)) with | true => rechk P T all s r | false => false)
        | none => false)
      | none => false)
    | none => false)

def planL (P : Program) (T : List (Nat × TyI)) (stl : FuncId → Bool) (call : CallF) (all : List Oper) : PlanC → CSt → Option (List CSt)
  | .done, s => some [s]
  | .fin, _ => some []
  | .op k b r, s => (match nthOp all k with
    | some o => (match b with
      | true => (match blindC P T s o with | true => bindL (pickL P T stl call all o s) (planL P T stl call all r) | false => none)
      | false => bindL (pickL P T stl call all o s) (planL P T stl call all r))
    | none => none)
  | .alt k r p, s => (match nthOp all k with
    | some o => (match bindL (pickL P T stl call all o s) (planL P T stl call all r) with
      | some x => (match planL P T stl call all p s with | some y => some (x ++ y) | none => none)
      | none => none)
    | none => none)
  | .two j k r, s => (match nthOp all j, nthOp all k with
    | some o, some u => bindL (pickL P T stl call all o s) fun s => bindL (pickL P T stl call all u s) (planL P T stl call all r)
    | _, _ => none)
  | .chk ds r, s => (match rechk P T all s ds with | true => planL P T stl call all r s | false => none)
  | .twoD j k ds r, s => (match nthOp all j, nthOp all k with
    | some o, some u => bindL (pickL P T stl call all u s) fun s2 => (match rechk P T all s2 ds with
        | true => bindL (pickL P T stl call all o s) fun s => (match rechk P T all s ds with
          | true => bindL (pickL P T stl call all u s) fun s => (match rechk P T all s ds with | true => planL P T stl call all r s | false => none)
          | false => none)
        | false => none)
    | _, _ => none)

/-- The slots at the start. -/
def padT : Nat → List CV → List CV
  | 0, l => l
  | n + 1, [] => .tup [] :: padT n []
  | n + 1, a :: l => a :: padT n l

def resC1 (T : List (Nat × TyI)) (s : CSt) : ResultVar → Option CV
  | .tmp t => some (evalC s (.tmp t))
  | .cell t ty => loadCC T s ty (evalC s (.tmp t))
def resCs (T : List (Nat × TyI)) (s : CSt) : List ResultVar → Option (List CV)
  | [] => some []
  | r :: rs => (match resC1 T s r with
    | some x => (match resCs T s rs with | some l => some (x :: l) | none => none)
    | none => none)
def resC (T : List (Nat × TyI)) (s : CSt) (rs : List ResultVar) : Option CV :=
  match resCs T s rs with
  | some [x] => some x
  | some l => some (.tup l)
  | none => none

abbrev OutC := Option (List (CE × CSt))

def normL (K : CSt → OutC) (p : CE × CSt) : OutC := match p with
  | (.normal, s) => K s
  | p => some [p]
def blockL (id : Nat) (p : CE × CSt) : OutC := match p with
  | (.exit k, s) => (match Nat.beq k id with | true => some [(.normal, s)] | false => some [(.exit k, s)])
  | p => some [p]
def bodyL (T : List (Nat × TyI)) (e : Ent) (p : CE × CSt) : Option (List (CV × AL CSeg × Nat)) := match p with
  | (.exit _, _) => none
  | (_, s) => (match resC T s e.rs with | some x => forceV x fun x => some [(x, killH e.ann.kf s.sl s.hp, s.c)] | none => none)
def tagL (ks : List Nat) (l : Option (List CSt)) : OutC := match l with | some l => some (l.map fun s => (.normal, killS ks s)) | none => none

def toVL : List CV → Option (List Value)
  | [] => some []
  | c :: cs => match toV c with
    | some v => match toVL cs with
      | some vs => some (v :: vs)
      | none => none
    | none => none
/-- A function that is no Go text, of values that are known. -/
def extV (P : Program) (g : FuncId) (args : List CV) : Option CV :=
  match toVL args with
  | some vs => (match pureRun P (callFunc g vs.toArray) with | some (.value v) => some (cvC v) | _ => none)
  | none => none
def enterK (P : Program) (T : List (Nat × TyI)) (F : FuncId → Option Ent) (exec : Ann → Code → CSt → OutC) (g : FuncId) (args : List CV) (hp : AL CSeg) (c : Nat) : Option (List (CV × AL CSeg × Nat)) :=
  match F g with
  | some e => (match e.ext with
    | true => (match extV P g args with | some x => some [(x, hp, c)] | none => none)
    | false => (match Nat.ble args.length e.n with | true => bindL (exec e.ann e.code ⟨padT e.n args, e.n, hp, c⟩) (bodyL T e) | false => none))
  | none => none

/-- A RUN: all ways it may end. -/
def execC (P : Program) (T : List (Nat × TyI)) (stl : FuncId → Bool) (F : FuncId → Option Ent) : Nat → Ann → Code → CSt → OutC
  | 0, _, _, _ => none
  | f + 1, pl, c, s =>
    match c with
    | .skip => some [(.normal, s)]
    | .label _ => some [(.normal, s)]
    | .region id ops _ => (match pl.plan id with
      | none => tagL (pl.kr id) (opsL P T (enterK P T F (execC P T stl F f)) ops.toList ops.toList s)
      | some p => tagL (pl.kr id) (planL P T stl (enterK P T F (execC P T stl F f)) ops.toList p s))
    | .seq a b => bindL (execC P T stl F f pl a s) (normL fun s => execC P T stl F f pl b (weakJ (pl.wj (firstR b)) a s))
    | .cond c x y => (match evalC s c with | .bool true => execC P T stl F f pl x s | .bool false => execC P T stl F f pl y s | _ => none)
    | .block id b => bindL (execC P T stl F f pl b s) (blockL id)
    | .loop b => bindL (execC P T stl F f pl b (weakS (pl.wl (firstR b)) (wrC b) s)) (normL (execC P T stl F f pl (.loop b)))
    | .scope b => execC P T stl F f pl b s
    | .exit id => some [(.exit id, s)]
    | .ret => some [(.ret, s)]
    | _ => none

/-- An operation that leaves the world alone, as it stands in the text. -/
def plainC (T : List (Nat × TyI)) (stl : FuncId → Bool) (o : Oper) : Bool := !effC T o || isStill stl o
def plainCAt (T : List (Nat × TyI)) (stl : FuncId → Bool) (ops : Array Oper) (i : Nat) : Bool := match ops[i]? with | some o => plainC T stl o | none => true

def takeC (T : List (Nat × TyI)) (stl : FuncId → Bool) (ops : Array Oper) (listed : Array Bool) (k : Nat) (b : Bool) : Bool :=
  match ops[k]? with
  | none => false
  | some o => (!b && decide (Region.ready .any ops listed = [k])) || ((Region.ready .any ops listed).contains k && Region.free .any ops listed k && plainC T stl o && (b || (List.range ops.size).all fun j => listed.getD j true || plainCAt T stl ops j || waitsT ops ops.size j k))

def keysC : PlanC → List Nat
  | .alt k _ p => k :: keysC p
  | _ => []

/-- It may be read early: later it is looked at whether it still reads so. -/
def takeR (T : List (Nat × TyI)) (stl : FuncId → Bool) (ops : Array Oper) (listed : Array Bool) (k : Nat) : Bool :=
  match ops[k]? with
  | none => false
  | some o => (Region.ready .any ops listed).contains k && Region.free .any ops listed k && plainC T stl o && (match o.dst with | some t => !(o.looksAt ops).contains t | none => false)
def nextD (T : List (Nat × TyI)) (stl : FuncId → Bool) (ops : Array Oper) (k : Nat) (D : List Nat) : List Nat := match plainCAt T stl ops k with | true => D | false => waitedB ops k D
def pendD (T : List (Nat × TyI)) (stl : FuncId → Bool) (ops : Array Oper) (k : Nat) (D : List Nat) : Bool := match plainCAt T stl ops k with | true => false | false => !(waitedB ops k D).isEmpty
/-- The plan is one of the region. m: within a choice; D: what was read early; pd: it must be looked at now. -/
def planCB (T : List (Nat × TyI)) (stl : FuncId → Bool) (ops : Array Oper) : PlanC → Bool → Nat → Array Bool → List Nat → Bool → Bool
  | .done, m, _, listed, _, pd => !m && !pd && (Region.ready .any ops listed).isEmpty
  | .fin, m, _, _, _, pd => m && !pd
  | .op k b r, m, f + 1, listed, D, pd => !m && !pd && apartD ops k D && ((takeC T stl ops listed k b && planCB T stl ops r false f (listed.setIfInBounds k true) (nextD T stl ops k D) (pendD T stl ops k D)) ||
      (!b && takeR T stl ops listed k && planCB T stl ops r false f (listed.setIfInBounds k true) (k :: D) false))
  | .alt k r p, m, f + 1, listed, D, pd => !pd && (m || (Region.ready .any ops listed).all fun i => (k :: keysC p).contains i) && (m || !(Region.ready .any ops listed).isEmpty) && (Region.ready .any ops listed).contains k && planCB T stl ops r false f (listed.setIfInBounds k true) (nextD T stl ops k D) (pendD T stl ops k D) && planCB T stl ops p true (f + 1) listed D false
  | .two j k r, m, f + 2, listed, D, pd => !pd && D.isEmpty && (!m && !Nat.beq j k && (match ops[j]?, ops[k]? with | some o, some u => twoB o u | _, _ => false) && ((Region.ready .any ops listed).all fun i => Nat.beq i j || Nat.beq i k) && (Region.ready .any ops listed).contains j && (Region.ready .any ops listed).contains k && decide (Region.ready .any ops (listed.setIfInBounds j true) = [k]) && decide (Region.ready .any ops (listed.setIfInBounds k true) = [j]) && planCB T stl ops r false f ((listed.setIfInBounds j true).setIfInBounds k true) [] false)
  | .twoD j k ds r, m, f + 2, listed, D, pd => !pd && D.all (fun d => ds.contains d) && (!m && !Nat.beq j k && (match ops[j]?, ops[k]? with | some o, some u => twoB o u | _, _ => false) && ((Region.ready .any ops listed).all fun i => Nat.beq i j || Nat.beq i k) && (Region.ready .any ops listed).contains j && (Region.ready .any ops listed).contains k && decide (Region.ready .any ops (listed.setIfInBounds j true) = [k]) && decide (Region.ready .any ops (listed.setIfInBounds k true) = [j]) && planCB T stl ops r false f ((listed.setIfInBounds j true).setIfInBounds k true) ds false)
  | .chk ds r, m, f, listed, D, pd => !m && pd && D.all (fun d => ds.contains d) && planCB T stl ops r false f listed ds false
  | _, _, _, _, _, _ => false

def codeCB (T : List (Nat × TyI)) (stl : FuncId → Bool) (pl : Nat → Option PlanC) : Code → Bool
  | .region id ops draw => (match pl id with
    | none => regionC T ops draw
    | some p => draw && Region.noSelect ops && planCB T stl ops p false ops.size (Array.replicate ops.size false) [] false)
  | .seq a b => codeCB T stl pl a && codeCB T stl pl b
  | .cond _ x y => codeCB T stl pl x && codeCB T stl pl y
  | .block _ b => codeCB T stl pl b
  | .loop b => codeCB T stl pl b
  | .scope b => codeCB T stl pl b
  | _ => true

/-- Code that leaves the world alone. -/
def codeStill (T : List (Nat × TyI)) (stl : FuncId → Bool) : Code → Bool
  | .region _ ops draw => !draw && ops.toList.all (plainC T stl)
  | .seq a b => codeStill T stl a && codeStill T stl b
  | .cond _ x y => codeStill T stl x && codeStill T stl y
  | .block _ b => codeStill T stl b
  | .loop b => codeStill T stl b
  | .scope b => codeStill T stl b
  | .skip | .label _ | .exit _ | .ret => true
  | _ => false

/-- The table holds the program's own functions. -/
def EntOk (P : Program) (T : List (Nat × TyI)) (stl : FuncId → Bool) (g : Nat) (e : Ent) : Prop := e.ext = true ∨ e.ext = false ∧
  P.funcs[g]? = some e.fn ∧ e.fn.body = some e.code ∧ (e.fn.name == "runtime.NumGoroutine") = false ∧ e.fn.results = e.rs.toArray ∧ codeCB T stl e.ann.plan e.code = true ∧ (!stl g || codeStill T stl e.code) = true ∧ e.fn.ntmps = e.n
def FOk (P : Program) (T : List (Nat × TyI)) (stl : FuncId → Bool) (F : FuncId → Option Ent) : Prop := ∀ g e, F g = some e → EntOk P T stl g e

section
variable {P : Program} {T : List (Nat × TyI)} {w0 : World} {L : Nat → Prop} {ρ : Plc} {τ : List Nat} {s : CSt} {st : St} {a : Act} {w : World}

/-- What a call gives, of Go text or not. -/
def CallAt (P : Program) (g : FuncId) (vs : Array Value) (w : World) (Q : Value → World → Prop) : Prop :=
  (Enterable P g ∧ Calls P g vs w fun e w' => ∃ v, e = .returned v ∧ Q v w') ∨ ∃ v, (callFunc g vs).run P w = .ok (.value v) w ∧ Q v w
def CallOk (P : Program) (stl : FuncId → Bool) (call : CallF) : Prop := ∀ g args (s : CSt) l, call g args s.hp s.c = some l → ∀ w0 L ρ τ a w, RepC w0 L ρ τ s a w → ∀ axs vs, Rels τ args axs → Dens ρ axs vs →
  CallAt P g vs.toArray w fun v w' => ∃ p ∈ l, ∃ r q ax, Rel (τ ++ q) p.1 ax ∧ Den (ρ ++ r) ax v ∧ RepC w0 L (ρ ++ r) (τ ++ q) ⟨s.sl, s.n, p.2.1, p.2.2⟩ a w' ∧ (stl g = true → w' = w)

def NextC (w0 : World) (L : Nat → Prop) (ρ : Plc) (τ : List Nat) (s' : CSt) : Act → World → Prop := fun a' w' => ∃ r q, RepC w0 L (ρ ++ r) (τ ++ q) s' a' w'

theorem made_step {o : Oper} {sem : Sem Value} {r : CV × AL CSeg × Nat} {s' : CSt} (hd : Done P w0 L ρ τ s a w sem r) (h : made s o (some r) = some s') (Q : Exit → Act → World → Prop) (he : execOp a.eval o = (do pure (.value (← sem)))) :
    o.wp P a w (NextC w0 L ρ τ s') Q := by
  obtain ⟨v, w', ρ', q, ax, h1, h2, h3, h4⟩ := hd
  obtain ⟨x, hp, c⟩ := r
  simp only [made] at h
  unfold Oper.wp
  rw [he]
  simp only [Sem.run_bind, h1, Result.andThen_ok, Sem.run_pure]
  exact ⟨ρ', q, stepK_rep h4 h2 h3 h⟩

theorem made_some {o : Oper} {r : Option (CV × AL CSeg × Nat)} {s' : CSt} (h : made s o r = some s') : ∃ x, r = some x := by
  cases r with
  | none => simp [made] at h
  | some x => exact ⟨x, rfl⟩

theorem append_nil_ok (hT : TOk P T) {dst : Option Tmp} {x y : Operand} {t t2 : Nat} {ty : TypeId} {pos : String} {af : Array Edge} {gu : Option (Nat × Bool)} {z : CV} {s' : CSt} {p : Nat × TyI} {i : TyI} {e2 : TypeId}
    (hz : appendNil (evalC s x) (evalC s y) = some z) (hel : elemOfT T t = some p) (hi : tyAt T t2 = some i) (hd : i.d = .slice e2) (hs : stepK s dst z = some s') (hrc : RepC w0 L ρ τ s a w) (Q : Exit → Act → World → Prop) :
    Oper.wp P ⟨dst, .call ⟨.builtin .append, #[x, y], #[t, t2]⟩, ty, pos, af, gu⟩ a w (NextC w0 L ρ τ s') Q := by
  obtain ⟨e, j⟩ := p
  obtain ⟨hu, hj, hag⟩ := elemOfT_some hT hel
  obtain ⟨ji, g1, g2, g3, g4⟩ := info_of hag
  have hu2 := und_slice (hT.at hi) hd
  unfold appendNil at hz
  split at hz
  · rename_i hy
    have vy := evalC_ground hrc (x := y) (v := .slice none 0 0) (by rw [hy]; rfl)
    obtain ⟨ax, k1, k2⟩ := evalC_den hrc x
    have hrun : ∀ (b : Option Addr) (len cap : Nat), len ≤ cap → a.eval x = .slice b len cap → (Builtin.append_ #[t, t2] ty #[a.eval x, a.eval y]).run P w = .ok (.slice b len cap) w := by
      intro b len cap hle hx
      rw [hx, vy]
      cases b <;> simp [Builtin.append_, run_underlying hu, run_underlying hu2, sizeOf, typeInfo, g1, Builtin.lenOf, Builtin.firstCells, hle, storeCells]
    have hzx : Rel τ z ax ∧ ∃ b len cap, len ≤ cap ∧ a.eval x = .slice b len cap := by
      split at hz
      · rename_i hx
        cases hz
        rw [hx] at k1
        simp only [Rel] at k1; subst k1
        simp only [Den] at k2
        exact ⟨by simp [Rel], none, 0, 0, Nat.le_refl _, k2⟩
      · rename_i hx
        cases hz
        rw [hx] at k1
        have k1' := k1
        simp only [Rel] at k1; subst k1
        simp only [Den] at k2
        refine ⟨k1', ?_⟩
        rcases k2.2.2 with h | ⟨h0, b, h⟩
        · exact ⟨_, _, _, k2.2.1, h⟩
        · exact ⟨b, 0, 0, Nat.le_refl _, h⟩
      · rename_i hx
        cases hz
        rw [hx] at k1
        have k1' := k1
        simp only [Rel] at k1
        obtain ⟨cp, TT, rfl, _⟩ := k1
        simp only [Den] at k2
        refine ⟨k1', ?_⟩
        rcases k2.2.2 with h | ⟨h0, b, h⟩
        · exact ⟨_, _, _, k2.2.1, h⟩
        · exact ⟨b, 0, 0, Nat.le_refl _, h⟩
      · cases hz
    obtain ⟨hzr, b, len, cap, hle, hx⟩ := hzx
    unfold Oper.wp execOp
    simp only [resolve, invoke, builtin, Sem.run_bind, Sem.run_pure, Result.andThen_ok, List.map_toArray, List.map_cons, List.map_nil, hrun b len cap hle hx]
    refine ⟨[], [], ?_⟩
    simp only [List.append_nil]
    exact stepK_rep hrc hzr (by rw [← hx]; exact k2) hs
  · cases hz

theorem copy_nil_ok (hT : TOk P T) {dst : Option Tmp} {x y : Operand} {t t2 : Nat} {ty : TypeId} {pos : String} {af : Array Edge} {gu : Option (Nat × Bool)} {s' : CSt} {p : Nat × TyI}
    (hz : copyNil (evalC s x) (evalC s y) = true) (hel : elemOfT T t = some p) (hs : stepK s dst (.int .i64 (.ofNat 0)) = some s') (hrc : RepC w0 L ρ τ s a w) (Q : Exit → Act → World → Prop) :
    Oper.wp P ⟨dst, .call ⟨.builtin .copy, #[x, y], #[t, t2]⟩, ty, pos, af, gu⟩ a w (NextC w0 L ρ τ s') Q := by
  obtain ⟨e, j⟩ := p
  obtain ⟨hu, hj, hag⟩ := elemOfT_some hT hel
  obtain ⟨ji, g1, g2, g3, g4⟩ := info_of hag
  unfold copyNil at hz
  split at hz
  · rename_i hy
    have vy := evalC_ground hrc (x := y) (v := .slice none 0 0) (by rw [hy]; rfl)
    obtain ⟨ax, k1, k2⟩ := evalC_den hrc x
    have hx : ∃ b len cap, a.eval x = .slice b len cap := by
      split at hz
      · rename_i hx
        rw [hx] at k1
        simp only [Rel] at k1; subst k1
        simp only [Den] at k2
        exact ⟨_, _, _, k2⟩
      · rename_i hx
        rw [hx] at k1
        simp only [Rel] at k1; subst k1
        simp only [Den] at k2
        rcases k2.2.2 with h | ⟨h0, b, h⟩
        · exact ⟨_, _, _, h⟩
        · exact ⟨_, _, _, h⟩
      · rename_i hx
        rw [hx] at k1
        simp only [Rel] at k1
        obtain ⟨cp, TT, rfl, _⟩ := k1
        simp only [Den] at k2
        rcases k2.2.2 with h | ⟨h0, b, h⟩
        · exact ⟨_, _, _, h⟩
        · exact ⟨_, _, _, h⟩
      · cases hz
    obtain ⟨b, len, cap, hx⟩ := hx
    have hrun : (Builtin.copy_ #[t, t2] ty #[a.eval x, a.eval y]).run P w = .ok (.int .i64 0) w := by
      rw [hx, vy]
      cases b <;> simp [Builtin.copy_, run_underlying hu, sizeOf, typeInfo, g1, Builtin.lenOf, Builtin.firstCells, storeCells, goInt]
    unfold Oper.wp execOp
    simp only [resolve, invoke, builtin, Sem.run_bind, Sem.run_pure, Result.andThen_ok, List.map_toArray, List.map_cons, List.map_nil, hrun]
    refine ⟨[], [], ?_⟩
    simp only [List.append_nil]
    exact stepK_rep hrc (by simp only [Rel]; rfl) (by simp only [Den]; rfl) hs
  · cases hz

theorem overC_in {c d : Cont} {off : Nat} {K : Cont → Prop} (hne : kindOf c ≠ .other) (h : kindOf c = kindOf d) (hk : ∀ r, kindOf r = kindOf c → r.avl = c.avl.take off ++ d.avl ++ c.avl.drop (off + d.avl.length) → K r) : overC c d off K := by
  cases c <;> cases d <;> simp only [kindOf, reduceCtorEq, Kind.ints.injEq, Kind.flts.injEq, Kind.cpxs.injEq] at h <;> simp only [overC, guardT_eq]
  · exact hk _ rfl (by simp [Cont.avl, List.map_take, List.map_drop])
  · subst h; exact ⟨ikEq_refl _, hk _ rfl (by simp [Cont.avl, List.map_take, List.map_drop])⟩
  · subst h; exact ⟨fkEq_refl _, hk _ rfl (by simp [Cont.avl, List.map_take, List.map_drop])⟩
  · subst h; exact ⟨fkEq_refl _, hk _ rfl (by simp [Cont.avl, List.map_take, List.map_drop])⟩
  · exact hk _ rfl (by simp [Cont.avl, List.map_take, List.map_drop])
  · exact hk _ rfl (by simp [Cont.avl, List.map_take, List.map_drop])
  · exact absurd rfl hne

theorem overC_in2 {c d : Cont} {off : Nat} {K : Cont → Prop} (hne : kindOf c ≠ .other) (h0 : kindOf c = .avs ∨ kindOf d = .avs) (h : ∀ x ∈ d.avl, fitsA (kindOf c) x = true) (hk : ∀ r, kindOf r = kindOf c → r.avl = c.avl.take off ++ d.avl ++ c.avl.drop (off + d.avl.length) → K r) : overC c d off K := by
  cases c with
  | avs a =>
    cases d <;> simp only [overC] <;> refine hk _ ?_ ?_ <;> first | rfl | simp [Cont.avl]
  | cols a => exact absurd rfl hne
  | bools a =>
    cases d <;> simp only [kindOf, reduceCtorEq, or_self] at h0
    rename_i b
    simp only [Cont.avl, kindOf] at h
    have : ∃ l, boolsOf b = some l := by
      clear hk
      induction b with
      | nil => exact ⟨[], rfl⟩
      | cons x r ih =>
        obtain ⟨l, hl⟩ := ih fun y hy => h y (by simp [hy])
        have hx := h x (by simp)
        cases x <;> simp [fitsA] at hx
        exact ⟨_, by simp only [boolsOf, hl]; rfl⟩
    obtain ⟨l, hl⟩ := this
    simp only [overC, hl]
    exact hk _ rfl (by simp [Cont.avl, ← boolsOf_eq hl, List.map_take, List.map_drop])
  | strs a =>
    cases d <;> simp only [kindOf, reduceCtorEq, or_self] at h0
    rename_i b
    simp only [Cont.avl, kindOf] at h
    have : ∃ l, strsOf b = some l := by
      clear hk
      induction b with
      | nil => exact ⟨[], rfl⟩
      | cons x r ih =>
        obtain ⟨l, hl⟩ := ih fun y hy => h y (by simp [hy])
        have hx := h x (by simp)
        cases x <;> simp [fitsA] at hx
        exact ⟨_, by simp only [strsOf, hl]; rfl⟩
    obtain ⟨l, hl⟩ := this
    simp only [overC, hl]
    exact hk _ rfl (by simp [Cont.avl, ← strsOf_eq hl, List.map_take, List.map_drop])
  | ints k a =>
    cases d <;> simp only [kindOf, reduceCtorEq, or_self] at h0
    rename_i b
    simp only [Cont.avl, kindOf] at h
    have : ∃ l, intsOf k b = some l := by
      clear hk
      induction b with
      | nil => exact ⟨[], rfl⟩
      | cons x r ih =>
        obtain ⟨l, hl⟩ := ih fun y hy => h y (by simp [hy])
        have hx := h x (by simp)
        cases x <;> simp [fitsA] at hx
        exact ⟨_, by simp only [intsOf, hl, hx]; rfl⟩
    obtain ⟨l, hl⟩ := this
    simp only [overC, hl]
    exact hk _ rfl (by simp [Cont.avl, ← intsOf_eq hl, List.map_take, List.map_drop])
  | flts k a =>
    cases d <;> simp only [kindOf, reduceCtorEq, or_self] at h0
    rename_i b
    simp only [Cont.avl, kindOf] at h
    have : ∃ l, fltsOf k b = some l := by
      clear hk
      induction b with
      | nil => exact ⟨[], rfl⟩
      | cons x r ih =>
        obtain ⟨l, hl⟩ := ih fun y hy => h y (by simp [hy])
        have hx := h x (by simp)
        cases x <;> simp [fitsA] at hx
        exact ⟨_, by simp only [fltsOf, hl, hx]; rfl⟩
    obtain ⟨l, hl⟩ := this
    simp only [overC, hl]
    exact hk _ rfl (by simp [Cont.avl, ← fltsOf_eq hl, List.map_take, List.map_drop])
  | cpxs k a =>
    cases d <;> simp only [kindOf, reduceCtorEq, or_self] at h0
    rename_i b
    simp only [Cont.avl, kindOf] at h
    have : ∃ l, cpxsOf k b = some l := by
      clear hk
      induction b with
      | nil => exact ⟨[], rfl⟩
      | cons x r ih =>
        obtain ⟨l, hl⟩ := ih fun y hy => h y (by simp [hy])
        have hx := h x (by simp)
        cases x <;> simp [fitsA] at hx
        exact ⟨_, by simp only [cpxsOf, hl, hx]; rfl⟩
    obtain ⟨l, hl⟩ := this
    simp only [overC, hl]
    exact hk _ rfl (by simp [Cont.avl, ← cpxsOf_eq hl, List.map_take, List.map_drop])

theorem copyCC_vc {t : Nat} {x y : Operand} {z : CV} {hp' : AL CSeg} (h : copyCC T s t (evalC s x) (evalC s y) = some (z, hp')) (hg : Gam τ s st) (hr : Rep w0 L ρ st a w) :
    copyAV T st.hp t (av st x) (av st y) (fun u H => Rel τ z u ∧ Gam τ ⟨s.sl, s.n, hp', s.c⟩ ⟨st.sl, H⟩) := by
  have ex := evalC_rel hg x
  have ey := evalC_rel hg y
  unfold copyCC at h
  unfold copyAV
  split at h
  · rename_i e j hel
    rw [hel]
    have main : ∀ n off len cp m off2 len2 cp2, av st x = .slice n off len cp → av st y = .slice m off2 len2 cp2 → copyCC.go s j n off len m off2 len2 = some (z, hp') →
        (match segAt st.hp n, segAt st.hp m with
         | .seg true c, .seg _ d => ((off + mulSz j.size (min len2 len) ≤ c.len ∧ off2 + mulSz j.size (min len2 len) ≤ d.len) ∧ subE d j.size off2 (min len2 len) fun dd => overC c dd off fun r => (fun u H => Rel τ z u ∧ Gam τ ⟨s.sl, s.n, hp', s.c⟩ ⟨st.sl, H⟩) (.int .i64 (min len2 len : Nat)) (setSeg st.hp n (.seg true r)))
         | _, _ => False) := by
      intro n off len cp m off2 len2 cp2 ax ay hgo
      unfold copyCC.go at hgo
      split at hgo
      · rename_i k tr d mm op k' tr' d' mm' op' hs1 hs2
        obtain ⟨c1, e1, e1', e2, e3, e4, e5, e6⟩ := hg.seg hs1 (hr.slice_lt ax).1
        obtain ⟨c2, f1, f1', f2, f3, f4, f5, f6⟩ := hg.seg hs2 (hr.slice_lt ay).1
        split at hgo
        · rename_i hb
          simp only [Bool.and_eq_true, Nat.ble_eq] at hb
          obtain ⟨b1, b3, b4⟩ := hb
          simp only [Trie.force_eq, Option.some.injEq, Prod.mk.injEq] at hgo
          obtain ⟨rfl, rfl⟩ := hgo
          rw [e1, f1]
          simp only [mulSz_eq]
          have b0 := b1
          have hne2 : kindOf c2 ≠ .other := by rw [f2]; exact (okCp_ne b0).2
          refine ⟨?_, subE_in hne2 ?_⟩
          · exact ⟨by rw [← Cont.len_eq]; omega, by rw [← Cont.len_eq]; omega⟩
          generalize min len2 len * j.size = q at *
          have over : ∀ {K : Cont → Prop}, (∀ r, kindOf r = kindOf c1 → r.avl = c1.avl.take off ++ (subC c2 off2 q).avl ++ c1.avl.drop (off + (subC c2 off2 q).avl.length) → K r) → overC c1 (subC c2 off2 q) off K := by
            intro K hK
            unfold okCp at b1
            split at b1
            · rename_i hk
              exact overC_in (by rw [e2]; exact (okCp_ne b0).1) (by rw [kindOf_subC hne2, e2, f2, kindEqB_eq hk]) hK
            · simp only [Bool.and_eq_true] at b1
              obtain ⟨b1, b2⟩ := b1
              refine overC_in2 (by rw [e2]; exact (okCp_ne b0).1) ?_ ?_ hK
              · rw [kindOf_subC hne2, e2, f2]; exact (avsB_out b1).1
              · rw [e2, subC_avl]
                refine allFitsK_A b2 (Rels.of_get (τ := τ) (by rw [readC_len]; simp; omega) fun i x y hx hy => ?_)
                have hi : i < q := by have := (List.getElem?_eq_some_iff.1 hx).1; rwa [readC_len] at this
                rw [readC_get _ _ _ _ _ hi] at hx
                cases hx
                rw [List.getElem?_take, if_pos hi, List.getElem?_drop] at hy
                obtain ⟨z, g1, g2⟩ := f6 (off2 + i) (by omega)
                rw [g1] at hy; cases hy; exact g2
          refine over fun r hr1 hr2 => ⟨by simp only [Rel]; rfl, ?_⟩
          have hsl : (subC c2 off2 q).avl.length = q := by rw [subC_avl]; simp; omega
          refine hg.setSeg e1' e3 (by rw [hr1, e2]) (by rw [hr2]; simp [hsl]; omega) e4 e5 fun jj hj => ?_
          rw [setManyC_get, hr2]
          simp only [readC_len]
          by_cases hj2 : off ≤ jj ∧ jj < off + q
          · rw [dif_pos hj2]
            obtain ⟨y, g1, g2⟩ := f6 (off2 + (jj - off)) (by omega)
            refine ⟨y, ?_, ?_⟩
            · rw [List.append_assoc, List.getElem?_append_right (by simp; omega)]
              have : (c1.avl.take off).length = off := by simp; omega
              rw [this, List.getElem?_append_left (by omega), subC_avl, List.getElem?_take, if_pos (by omega), List.getElem?_drop]
              exact g1
            · have hge := readC_get tr' d' q off2 (jj - off) (by omega)
              rw [List.getElem?_eq_getElem (by rw [readC_len]; omega)] at hge
              rw [Option.some.inj hge]
              exact g2
          · rw [dif_neg hj2]
            obtain ⟨y, g1, g2⟩ := e6 jj hj
            refine ⟨y, ?_, g2⟩
            rcases Nat.lt_or_ge jj off with hjo | hjo
            · rw [List.append_assoc, List.getElem?_append_left (by simp; omega), List.getElem?_take, if_pos hjo]; exact g1
            · rw [List.getElem?_append_right (by simp [hsl]; omega)]
              have : (c1.avl.take off ++ (subC c2 off2 q).avl).length = off + q := by simp [hsl]; omega
              rw [this, List.getElem?_drop, hsl]
              rw [show off + q + (jj - (off + q)) = jj by omega]; exact g1
        · cases hgo
      · cases hgo
    split at h
    · rename_i hx hy
      rw [hx] at ex; rw [hy] at ey
      simp only [Rel] at ex ey
      have := main _ _ _ _ _ _ _ _ ex ey h
      rw [ex, ey]; exact this
    · rename_i hx hy
      rw [hx] at ex; rw [hy] at ey
      simp only [Rel] at ex ey
      obtain ⟨_, _, ey, _⟩ := ey
      have := main _ _ _ _ _ _ _ _ ex ey h
      rw [ex, ey]; exact this
    · rename_i hx hy
      rw [hx] at ex; rw [hy] at ey
      simp only [Rel] at ex ey
      obtain ⟨_, _, ex, _⟩ := ex
      have := main _ _ _ _ _ _ _ _ ex ey h
      rw [ex, ey]; exact this
    · rename_i hx hy
      rw [hx] at ex; rw [hy] at ey
      simp only [Rel] at ex ey
      obtain ⟨_, _, ex, _⟩ := ex
      obtain ⟨_, _, ey, _⟩ := ey
      have := main _ _ _ _ _ _ _ _ ex ey h
      rw [ex, ey]; exact this
    · cases h
  · cases h
end
end Go.Fw

namespace Go.Fw
open Go Go.RowKit

section
variable {P : Program} {T : List (Nat × TyI)} {w0 : World} {L : Nat → Prop} {ρ : Plc} {τ : List Nat} {s : CSt} {st : St} {a : Act} {w : World}

theorem RepC.drewN (h : RepC w0 L ρ τ s a w) (n : Nat) : RepC w0 L ρ τ s a (w.drewN n) := by
  obtain ⟨st, h1, h2⟩ := h
  exact ⟨st, h1, h2.drewN n⟩

theorem NextC.of (h : RepC w0 L ρ τ s a w) : NextC w0 L ρ τ s a w := ⟨[], [], by simpa using h⟩

theorem made_done {sem : Sem Value} {r : CV × AL CSeg × Nat} (h : ∃ y H' ρ' v w', Made s τ r st y H' ∧ sem.run P w = .ok v w' ∧ Den (ρ ++ ρ') y v ∧ Rep w0 L (ρ ++ ρ') { st with hp := H' } a w') : Done P w0 L ρ τ s a w sem r := by
  obtain ⟨y, H', ρ', v, w', ⟨q, h1, h2⟩, h3, h4, h5⟩ := h
  exact ⟨v, w', ρ', q, y, h3, h1, h4, _, h2, h5⟩

/-- The world with a new row, a mark behind it. -/
theorem Rep.newRowF (h : Rep w0 L ρ st a w) {c : Cont} {vs : List Value} (e : TypeId) (hd : Dens ρ c.avl vs) (h1 : ∀ v ∈ vs, v.oneCell' = true) :
    Rep w0 L (ρ ++ [(w.heap.size, 0)]) { st with hp := st.hp ++ [.seg true c] } a (w.alloc (.cells vs.toArray e (vs.length, vs.length + 1))) := by
  have hn := h.heap.names
  have hw : HeapOk w0.heap.size L ρ st.hp (w.alloc (.cells vs.toArray e (vs.length, vs.length + 1))) := h.heap.world fun n s hs hl => Below.heap_alloc w _ _ (h.heap.lt hs hl)
  have hp : pl (ρ ++ [(w.heap.size, 0)]) st.hp.length = (w.heap.size, 0) := by simp [pl, ← hn]
  have hget : (w.alloc (.cells vs.toArray e (vs.length, vs.length + 1))).heap[w.heap.size]? = some (.cells vs.toArray e (vs.length, vs.length + 1)) := Array.getElem?_push_size
  refine ⟨h.slots.grow _, hw.push (fun i y hi => ?_) (fun _ _ => .inl h.kept.size) (fun _ m s hs hl => ?_), h.kept.alloc _, h.defers⟩
  · obtain ⟨v, g1, g2⟩ := (hd.grow [(w.heap.size, 0)]).get i y hi
    have hi' : i < vs.length := (List.getElem?_eq_some_iff.1 g1).1
    refine ⟨v, ?_, g2, h1 v (List.mem_of_getElem? g1), fun _ => ?_⟩
    · rw [hp]
      simp only [World.cell?, hget, Nat.zero_add]
      simpa using g1
    · rw [hp]
      simp only [World.frozen?, hget, Nat.zero_add]
      simp; omega
  · have := h.heap.lt hs hl
    simp; omega
theorem bytesC_done (hT : TOk P T) {src dst : Nat} {x : Operand} {r : CV × AL CSeg × Nat} (h : bytesC T s src dst (evalC s x) = some r) (hrc : RepC w0 L ρ τ s a w) : Done P w0 L ρ τ s a w (convert src dst (a.eval x)) r := by
  unfold bytesC at h
  split at h
  · rename_i b e j i hx hel hi
    split at h
    · rename_i hid hjd
      rw [pushC_eq] at h
      cases h
      have hv := evalC_ground hrc (x := x) (v := .string b) (by rw [hx]; rfl)
      obtain ⟨hu, hj, hag⟩ := elemOfT_some hT hel
      have hus := und_str (hT.at hi) hid
      have hue := und_int hag hjd
      obtain ⟨st, hg, hr⟩ := hrc
      have hge := grownCap_ge w b.size 0 e
      let n := grownCap w b.size 0 e - b.size
      let vs : List Value := b.data.toList.map (fun b => Value.int .u8 b.toNat) ++ List.replicate n (.int .u8 0)
      let ct : Cont := .ints .u8 (b.data.toList.map (fun b => (b.toNat : Int)) ++ List.replicate n 0)
      have hbl : b.data.toList.length = b.size := rfl
      have hvl : vs.length = grownCap w b.size 0 e := by simp only [vs, List.length_append, List.length_map, List.length_replicate, hbl, n]; omega
      have havl : ct.avl = (b.data.toList.map (fun b => AV.int .u8 b.toNat)) ++ List.replicate n (.int .u8 0) := by simp [ct, Cont.avl]
      have hd : Dens ρ ct.avl vs := by
        rw [havl]
        refine Dens.append ?_ ?_
        · generalize b.data.toList = l
          induction l with
          | nil => simp [Dens]
          | cons y l ih => simp only [List.map_cons, Dens]; exact ⟨_, _, rfl, by simp [Den], ih⟩
        · generalize n = m
          induction m with
          | zero => simp [Dens]
          | succ m ih => simp only [List.replicate_succ, Dens]; exact ⟨_, _, rfl, by simp [Den], ih⟩
      have h1 : ∀ v ∈ vs, v.oneCell' = true := by
        intro v hv
        rcases List.mem_append.1 hv with hv | hv
        · obtain ⟨_, _, rfl⟩ := List.mem_map.1 hv; rfl
        · rw [(List.mem_replicate.1 hv).2]; rfl
      have hrow := hr.drew.newRowF (c := ct) (vs := vs) e hd h1
      have hlen : ct.avl.length = grownCap w b.size 0 e := by rw [hd.len, hvl]
      have hrun : (convert src dst (a.eval x)).run P w = .ok (.slice (some ⟨w.heap.size, 0, none⟩) b.size (grownCap w b.size 0 e)) (w.drew.alloc (.cells vs.toArray e (vs.length, vs.length + 1))) := by
        rw [hv]
        have hcells : (b.data.map (fun b => Value.int .u8 b.toNat) ++ Array.replicate (grownCap w b.size 0 e - b.size) (.int .u8 0)) = vs.toArray := by
          rw [← Array.toList_inj]; simp [vs, n]
        simp only [grownCap] at hcells
        have hget : ∀ o : Obj, (w.drew.alloc o).heap[w.heap.size]? = some o := fun o => Array.getElem?_push_size
        have hsh : (w.drew.alloc (.cells vs.toArray e)).shape? w.heap.size = some (e, vs.length) := by simp only [World.shape?, hget]; simp
        have hfr : (w.drew.alloc (.cells vs.toArray e)).freeze { block := w.heap.size, off := vs.length } 1 = w.drew.alloc (.cells vs.toArray e (vs.length, vs.length + 1)) := by
          unfold World.freeze
          rw [if_neg (by decide)]
          have : ∀ (h : Array Obj) (o : Obj) (f : Obj → Obj), (h.push o).modify h.size f = h.push (f o) := fun h o f => by
            apply Array.ext_getElem?
            intro i
            simp only [Array.getElem?_modify, Array.getElem?_push]
            by_cases hi : h.size = i
            · subst hi; simp
            · have hi' : ¬ i = h.size := fun e => hi e.symm
              simp [hi, hi']
          show ({ w.drew.alloc (.cells vs.toArray e) with heap := (w.drew.heap.push (.cells vs.toArray e)).modify w.drew.heap.size _ } : World) = _
          rw [this]
          rfl
        simp [convert, run_underlying hus, run_underlying hu, run_underlying hue, Conv.stringToBytes, newRow, markStringish, Question.forced, grownCap]
        rw [hcells, hsh]
        simp only [freeze, Sem.run, Result.andThen_ok, hfr]
      have hpush := hg.push (c := ct) (k := .ints .u8) (t' := setManyC .nil [] 0 (b.data.toList.map fun b => CV.int .u8 (.ofNat b.toNat))) (d := []) (m := b.size) (op := true) rfl (by rw [hlen]; exact hge) (fun h => by cases h) (fun jj hjj => by
        refine ⟨.int .u8 (b.data.toList[jj]'(by rw [hbl]; exact hjj)).toNat, ?_, ?_⟩
        · rw [havl, List.getElem?_append_left (by simpa [hbl] using hjj)]
          simp [hjj]
        · rw [setManyC_get, dif_pos (by simp [hbl, hjj])]
          simp only [Nat.sub_zero, List.getElem_map, Rel]
          rfl)
      have hnames := hg.names
      have hm := hr.heap.names
      refine ⟨_, _, [(w.drew.heap.size, 0)], [ct.avl.length], .slice s.c 0 b.size (grownCap w b.size 0 e), hrun, ?_, ?_, _, hpush, hrow⟩
      · simp only [Rel]
        refine ⟨_, ct.avl.length, rfl, hge, ?_, by rw [hlen]; omega, by omega⟩
        have ht := hg.tots
        rw [List.getElem?_append_right (by omega)]
        simp [ht]
      · have : pl (ρ ++ [(w.drew.heap.size, 0)]) s.c = (w.heap.size, 0) := by rw [← hnames, ← hm]; simp [pl]
        simp only [Den, this]
        exact ⟨by simp; omega, hge, .inl (by simp)⟩
    · cases h
  · cases h

theorem layC_done {x : Operand} {z : CV} {news : List CV} {r : CV × AL CSeg × Nat} (h : layC s (evalC s x) z news = some r) (hrc : RepC w0 L ρ τ s a w) {xs : List AV} {vs : List Value} (hn : Rels τ news xs) (hd : Dens ρ xs vs) :
    ∃ ad len cap w', a.eval x = .slice (some ad) len cap ∧ lenOfC (evalC s x) = some len ∧ 0 < len ∧ (storeCells ad vs 0).run P w = .ok () w' ∧ r.1 = z ∧ RepC w0 L ρ τ ⟨s.sl, s.n, r.2.1, r.2.2⟩ a w' := by
  have main : ∀ n off len cap, (∃ st, Gam τ s st ∧ Rep w0 L ρ st a w ∧ av st x = .slice n off len cap) → layC.go s z news n off len = some r → lenOfC (evalC s x) = some len →
      ∃ ad len cap w', a.eval x = .slice (some ad) len cap ∧ lenOfC (evalC s x) = some len ∧ 0 < len ∧ (storeCells ad vs 0).run P w = .ok () w' ∧ r.1 = z ∧ RepC w0 L ρ τ ⟨s.sl, s.n, r.2.1, r.2.2⟩ a w' := by
    rintro n off len cap ⟨st, hg, hr, ax⟩ h hlen
    unfold layC.go at h
    split at h
    · rename_i k tr d mm op hseg
      split at h
      · rename_i hb
        simp only [Bool.and_eq_true, Nat.ble_eq, Nat.blt_eq] at hb
        obtain ⟨b1, b2, b3⟩ := hb
        simp only [Trie.force_eq, Option.some.injEq] at h
        subst h
        have hlt := hr.slice_lt ax
        obtain ⟨c1, e1, e1', e2, e3, e4, e5, e6⟩ := hg.seg hseg hlt.1
        have hfit := allFitsK_A b1 hn
        obtain ⟨dd, k1, k2⟩ := contOf (k := k) xs hfit
        have hlx := hn.len
        obtain ⟨rr, r1, r2⟩ : ∃ rr : Cont, kindOf rr = kindOf c1 ∧ rr.avl = c1.avl.take off ++ xs ++ c1.avl.drop (off + xs.length) := by
          by_cases hko : k = .other
          · have : xs = [] := by
              cases xs with
              | nil => rfl
              | cons x xs => have := hfit x (by simp); rw [hko] at this; cases x <;> simp [fitsA] at this
            exact ⟨c1, rfl, by rw [this]; simp⟩
          · obtain ⟨rr, r1, r2⟩ := overC_out (overC_in (c := c1) (d := dd) (off := off) (K := fun r => kindOf r = kindOf c1) (by rw [e2]; exact hko) (by rw [e2, k1]) (fun r h1 _ => h1))
            rw [k2] at r2
            exact ⟨rr, r1, r2⟩
        have hone : ∀ v ∈ vs, v.oneCell' = true := dens_one hd fun x hx => fitsA_one (hfit x hx)
        obtain ⟨w', g1, g2⟩ := hr.storeCont (P := P) (off := off) (c' := rr) e1' (by omega) hd hone r2
        have hv := av_den hr x
        rw [ax] at hv
        simp only [Den] at hv
        rcases hv.2.2 with hv' | ⟨hc0, _⟩
        · refine ⟨_, len, cap, w', hv', hlen, b2, g1, rfl, _, hg.setSeg (c' := rr) e1' e3 (by rw [r1, e2]) (by rw [r2]; simp; omega) e4 e5 fun jj hj => ?_, g2⟩
          rw [setManyC_get, r2]
          by_cases hj2 : off ≤ jj ∧ jj < off + news.length
          · rw [dif_pos hj2]
            obtain ⟨y, q1, q2⟩ := hn.get (jj - off) _ (List.getElem?_eq_getElem (by omega))
            refine ⟨y, ?_, q2⟩
            rw [List.append_assoc, List.getElem?_append_right (by simp; omega)]
            have : (c1.avl.take off).length = off := by simp; omega
            rw [this, List.getElem?_append_left (by omega)]
            exact q1
          · rw [dif_neg hj2]
            obtain ⟨y, q1, q2⟩ := e6 jj hj
            refine ⟨y, ?_, q2⟩
            rcases Nat.lt_or_ge jj off with hjo | hjo
            · rw [List.append_assoc, List.getElem?_append_left (by simp; omega), List.getElem?_take, if_pos hjo]; exact q1
            · rw [List.getElem?_append_right (by simp; omega)]
              have : (c1.avl.take off ++ xs).length = off + xs.length := by simp; omega
              rw [this, List.getElem?_drop]
              rw [show off + xs.length + (jj - (off + xs.length)) = jj by omega]; exact q1
        · omega
      · cases h
    · cases h
  obtain ⟨st, hg, hr⟩ := hrc
  have ex := evalC_rel hg x
  unfold layC at h
  split at h
  · rename_i n off len cap hx
    rw [hx] at ex
    simp only [Rel] at ex
    exact main n off len cap ⟨st, hg, hr, ex⟩ h (by rw [hx]; rfl)
  · rename_i n off len sz hx
    rw [hx] at ex
    simp only [Rel] at ex
    obtain ⟨cap, _, ex, _⟩ := ex
    exact main n off len cap ⟨st, hg, hr, ex⟩ h (by rw [hx]; rfl)
  · cases h

theorem lenOfC_out {x : Operand} {l : Nat} (h : lenOfC (evalC s x) = some l) (hrc : RepC w0 L ρ τ s a w) : ∃ b cap, a.eval x = .slice b l cap := by
  obtain ⟨ax, k1, k2⟩ := evalC_den hrc x
  generalize evalC s x = cx at *
  cases cx <;> simp only [lenOfC, Option.some.injEq, reduceCtorEq] at h
  · subst h
    simp only [Rel] at k1; subst k1
    simp only [Den] at k2
    exact ⟨_, _, k2⟩
  · subst h
    simp only [Rel] at k1; subst k1
    simp only [Den] at k2
    rcases k2.2.2 with h | ⟨h0, b, h⟩
    · exact ⟨_, _, h⟩
    · have := k2.2.1
      exact ⟨b, 0, by rw [h]; congr 1; omega⟩
  · subst h
    simp only [Rel] at k1
    obtain ⟨c, _, rfl, _⟩ := k1
    simp only [Den] at k2
    rcases k2.2.2 with h | ⟨h0, b, h⟩
    · exact ⟨_, _, h⟩
    · have := k2.2.1
      exact ⟨b, 0, by rw [h]; congr 1; omega⟩

theorem cpTC_done (hT : TOk P T) {t t2 ty : Nat} {x y : Operand} {r : CV × AL CSeg × Nat} (h : cpTC T s t (evalC s x) (evalC s y) = some r) (hrc : RepC w0 L ρ τ s a w) : Done P w0 L ρ τ s a w (Builtin.copy_ #[t, t2] ty #[a.eval x, a.eval y]) r := by
  unfold cpTC at h
  split at h
  · rename_i b l e j hy hl hel
    have vy := evalC_ground hrc (x := y) (v := .string b) (by rw [hy]; rfl)
    obtain ⟨hu, hj, hag⟩ := elemOfT_some hT hel
    split at h
    · rename_i hsz hm
      cases h
      obtain ⟨base, cap, vx⟩ := lenOfC_out hl hrc
      refine ⟨.int .i64 (.ofNat 0), w, [], [], .int .i64 (.ofNat 0), ?_, by simp only [Rel], by simp only [Den], by simpa using hrc⟩
      have hmm : Nat.min b.size l = 0 := hm
      simp only [Builtin.copy_, List.getElem?_toArray, List.getElem?_cons_zero, List.getElem?_cons_succ, Sem.run_bind, run_underlying hu, Result.andThen_ok, vx, vy, Builtin.lenOf, Sem.run_pure, hmm, run_sizeOf hag, Builtin.firstCells]
      cases base <;> simp [storeCells, goInt]
    · rename_i m hsz hm
      have hrels : Rels τ ((b.data.toList.take (m + 1)).map fun b => CV.int .u8 (.ofNat b.toNat)) ((b.data.toList.take (m + 1)).map fun b => AV.int .u8 (.ofNat b.toNat)) := Rels.map (fun _ => by simp only [Rel]) _
      have hdens : Dens ρ ((b.data.toList.take (m + 1)).map fun b => AV.int .u8 (.ofNat b.toNat)) ((b.data.toList.take (m + 1)).map fun b => Value.int .u8 b.toNat) := by
        generalize b.data.toList.take (m + 1) = q
        induction q with
        | nil => simp [Dens]
        | cons y q ih => simp only [List.map_cons, Dens]; exact ⟨_, _, rfl, by simp [Den], ih⟩
      obtain ⟨ad, len, cap, w', vx, hl', hpos, hst, hz, hrep⟩ := layC_done (P := P) h hrc hrels hdens
      rw [hl] at hl'
      cases hl'
      refine ⟨.int .i64 (.ofNat (m + 1)), w', [], [], .int .i64 (.ofNat (m + 1)), ?_, by rw [hz]; simp only [Rel], by simp only [Den], by simpa using hrep⟩
      have hmm : Nat.min b.size l = m + 1 := hm
      have hcells : ((b.extract 0 (m + 1)).data.map fun b => Value.int .u8 b.toNat).toList = (b.data.toList.take (m + 1)).map fun b => Value.int .u8 b.toNat := by
        simp [ByteArray.data_extract]
      simp only [Builtin.copy_, List.getElem?_toArray, List.getElem?_cons_zero, List.getElem?_cons_succ, Sem.run_bind, run_underlying hu, Result.andThen_ok, vx, vy, Builtin.lenOf, Sem.run_pure, hmm, run_sizeOf hag, Builtin.firstCells, hcells, hst]
      simp [goInt]
    · cases h
  · cases h
theorem clrC_done (hT : TOk P T) {t ty : Nat} {x : Operand} {r : CV × AL CSeg × Nat} (h : clrC T s t (evalC s x) = some r) (hrc : RepC w0 L ρ τ s a w) : Done P w0 L ρ τ s a w (Builtin.clear_ #[t] ty #[a.eval x]) r := by
  unfold clrC at h
  split at h
  · rename_i p hl hel
    obtain ⟨e, j⟩ := p
    obtain ⟨hu, hj, hag⟩ := elemOfT_some hT hel
    cases h
    obtain ⟨base, cap, vx⟩ := lenOfC_out hl hrc
    refine ⟨.tuple #[], w, [], [], .tup [], ?_, by simp [Rel, Rels], by simp only [Den]; exact ⟨[], rfl, by simp [Dens]⟩, by simpa using hrc⟩
    simp only [Builtin.clear_, List.getElem?_toArray, List.getElem?_cons_zero, Sem.run_bind, run_underlying hu, Result.andThen_ok, vx]
    cases base <;> simp
  · rename_i l e j hne hl hel
    obtain ⟨hu, hj, hag⟩ := elemOfT_some hT hel
    have hrels : Rels τ ((Builtin.zeroCells j.zero.cells l).toList.map cvS) ((Builtin.zeroCells j.zero.cells l).toList.map avScalar) := Rels.map (cvS_rel τ) _
    obtain ⟨ad, len, cap, w', vx, hl', hpos, hst, hz, hrep⟩ := layC_done (P := P) h hrc hrels (avScalars_den ρ _)
    rw [hl] at hl'
    cases hl'
    obtain ⟨ji, g1, g2, g3, g4⟩ := info_of hag
    refine ⟨.tuple #[], w', [], [], .tup [], ?_, by rw [hz]; simp [Rel, Rels], by simp only [Den]; exact ⟨[], rfl, by simp [Dens]⟩, by simpa using hrep⟩
    obtain ⟨l', rfl⟩ : ∃ l', l = l' + 1 := ⟨l - 1, by omega⟩
    simp only [Builtin.clear_, List.getElem?_toArray, List.getElem?_cons_zero, Sem.run_bind, run_underlying hu, Result.andThen_ok, vx]
    simp [zeroValue, typeInfo, g1, g4, hst]
  · cases h

theorem opC_sound (hT : TOk P T) {o : Oper} {s' : CSt} (h : opC P T s o = some s') (hrc : RepC w0 L ρ τ s a w) (Q : Exit → Act → World → Prop) : o.wp P a w (fun a' w' => NextC w0 L ρ τ s' a' w' ∧ (effC T o = false → w' = w)) Q := by
  unfold opC at h
  split at h
  · split at h
    · rename_i x hx
      obtain ⟨ax, v, h1, h2, h3⟩ := evC_ok hT hx w0 L ρ τ a w hrc
      unfold Oper.wp
      rw [h3 w rfl]
      exact ⟨NextC.of (stepK_rep hrc h1 h2 h), fun _ => rfl⟩
    · cases h
  · rename_i heff
    refine Oper.wp_mono (fun a' w' hn => ⟨hn, fun h0 => (by rw [heff] at h0; cases h0)⟩) (?_ : o.wp P a w (NextC w0 L ρ τ s') Q)
    clear heff
    have obj : ∀ {r : Option (CV × AL CSeg × Nat)}, r = objC P s o → made s o r = some s' → o.wp P a w (NextC w0 L ρ τ s') Q := by
      intro r e hm
      obtain ⟨x, hx⟩ := made_some hm
      rw [hx] at hm
      rw [e] at hx
      obtain ⟨v, w', ρ', q, ax, h1, h2, h3, h4⟩ := objC_done hx hrc
      simp only [made] at hm
      have fin := stepK_rep h4 h2 h3 hm
      rcases h1 with h1 | ⟨h1, rfl⟩
      · unfold Oper.wp
        rw [h1]
        exact ⟨ρ', q, fin⟩
      · unfold Oper.wp
        rw [h1]
        exact ⟨ρ', q, fin⟩
    obtain ⟨dst, op, type, pos, after, guard⟩ := o
    cases op <;> simp only [] at h <;> try exact obj rfl h
    case store t ad x =>
      split at h
      · rename_i hp' hst
        obtain ⟨st, hg, hr⟩ := hrc
        obtain ⟨H', w', h1, h2, h3⟩ := store_sound hT (storeC_vc hst hg hr) hr (av_den hr ad) (av_den hr x)
        unfold Oper.wp execOp
        simp only [Sem.run_bind, h2, Result.andThen_ok, Sem.run_pure]
        exact NextC.of (stepK_rep (ax := .tup []) ⟨_, h1, h3⟩ (by simp only [Rel]; exact ⟨[], rfl, by simp [Rels]⟩) (by simp only [Den]; exact ⟨[], rfl, by simp [Dens]⟩) h)
      · cases h
    case convert src dst' x =>
      obtain ⟨r, hr⟩ := made_some h
      rw [hr] at h
      exact made_step (bytesC_done hT hr hrc) h Q rfl
    case makeSlice t l c =>
      obtain ⟨r, hr⟩ := made_some h
      rw [hr] at h
      exact made_step (makeC_done hT hr hrc) h Q rfl
    case alloc t =>
      obtain ⟨r, hr⟩ := made_some h
      rw [hr] at h
      refine made_step (sem := Instr.alloc t true (.tuple #[])) ?_ h Q rfl
      obtain ⟨st, hg, hr'⟩ := hrc
      exact made_done (alloc_sound hT (allocC_vc hr hg) hr')
    case box t x =>
      obtain ⟨r, hr⟩ := made_some h
      rw [hr] at h
      refine made_step (sem := Instr.box t (a.eval x)) ?_ h Q rfl
      obtain ⟨st, hg, hr'⟩ := hrc
      exact made_done (box_sound (boxC_vc hr hg) hr' t (av_den hr' x))
    case buildSlice t len ps =>
      obtain ⟨r, hr⟩ := made_some h
      rw [hr] at h
      exact made_step (buildSliceC_done hT hr hrc) h Q rfl
    case call c =>
      obtain ⟨callee, args, argTypes⟩ := c
      simp only at h
      split at h
      · rename_i x y t t2 ha ht
        have : args = #[x, y] := by rw [← Array.toList_inj]; exact ha
        subst this
        have : argTypes = #[t, t2] := by rw [← Array.toList_inj]; exact ht
        subst this
        split at h
        · rename_i z hz
          split at h
          · rename_i p i hel hi
            split at h
            · rename_i e2 hd
              exact append_nil_ok hT hz hel hi hd h hrc Q
            · cases h
          · cases h
        · obtain ⟨r, hr⟩ := made_some h
          rw [hr] at h
          refine made_step (sem := Builtin.append_ #[t, t2] type #[a.eval x, a.eval y]) ?_ h Q (by simp [execOp, resolve, invoke, builtin])
          obtain ⟨st, hg, hr'⟩ := hrc
          exact made_done (appendC_ok hT hr hg hr')
      · rename_i x y t t2 ha ht
        have : args = #[x, y] := by rw [← Array.toList_inj]; exact ha
        subst this
        have : argTypes = #[t, t2] := by rw [← Array.toList_inj]; exact ht
        subst this
        split at h
        · rename_i p hn hel
          exact copy_nil_ok hT hn hel h hrc Q
        · cases h
        · split at h
          · rename_i z hp hz
            obtain ⟨st, hg, hr⟩ := hrc
            obtain ⟨u, H', v, w', h1, h2, h3, h4⟩ := copy_sound (ty := type) (t2 := t2) hT (copyCC_vc hz hg hr) hr (av_den hr x) (av_den hr y)
            unfold Oper.wp execOp
            simp only [resolve, invoke, builtin, Sem.run_bind, Sem.run_pure, Result.andThen_ok, List.map_toArray, List.map_cons, List.map_nil, h2]
            exact NextC.of (stepK_rep ⟨_, h1.2, h4⟩ h1.1 h3 h)
          · obtain ⟨r, hr⟩ := made_some h
            rw [hr] at h
            exact made_step (sem := Builtin.copy_ #[t, t2] type #[a.eval x, a.eval y]) (cpTC_done hT hr hrc) h Q (by simp [execOp, resolve, invoke, builtin])
      · rename_i x t ha ht
        have : args = #[x] := by rw [← Array.toList_inj]; exact ha
        subst this
        have : argTypes = #[t] := by rw [← Array.toList_inj]; exact ht
        subst this
        obtain ⟨r, hr⟩ := made_some h
        rw [hr] at h
        exact made_step (sem := Builtin.clear_ #[t] type #[a.eval x]) (clrC_done hT hr hrc) h Q (by simp [execOp, resolve, invoke, builtin])
      · exact obj rfl h

theorem evalC_bool (hrc : RepC w0 L ρ τ s a w) {t : Nat} {b : Bool} (h : evalC s (.tmp t) = .bool b) : a.tmps[t]? = some (.bool b) := by
  obtain ⟨st, hg, hr⟩ := hrc
  have := evalC_rel hg (.tmp t)
  rw [h] at this
  simp only [Rel] at this
  exact slot_bool hr this

theorem evalC_undef (hrc : RepC w0 L ρ τ s a w) {t : Nat} (h : evalC s (.tmp t) = .tup []) : a.tmps[t]? = none ∨ a.tmps[t]? = some undef := by
  obtain ⟨st, hg, hr⟩ := hrc
  have := evalC_rel hg (.tmp t)
  rw [h] at this
  simp only [Rel, Rels] at this
  obtain ⟨xs, h1, rfl⟩ := this
  exact slot_undef hr h1

theorem undef_rep (hrc : RepC w0 L ρ τ s a w) {d : Option Tmp} {s' : CSt} (h : stepK s d (.tup []) = some s') : RepC w0 L ρ τ s' (a.put d undef) w :=
  stepK_rep (ax := .tup []) hrc (by simp only [Rel]; exact ⟨[], rfl, by simp [Rels]⟩) (den_undef ρ) h


def NextL (w0 : World) (L : Nat → Prop) (ρ : Plc) (τ : List Nat) (l : List CSt) : Act → World → Prop := fun a' w' => ∃ s' ∈ l, ∃ r q, RepC w0 L (ρ ++ r) (τ ++ q) s' a' w'

theorem calleeOf_eff {o : Oper} (h : effC T o = false) : calleeOf o = none := by
  have h := (effC_isEff h).1
  unfold isEff at h
  unfold calleeOf
  split
  · rename_i c hc
    rw [hc] at h
    split
    · rename_i f hf
      simp only [hf] at h
      split at h <;> first | cases h | rfl
      all_goals simp_all
    · rfl
  · rfl

theorem stepL_mem {d : Option Tmp} : ∀ {l : List (CV × AL CSeg × Nat)} {L : List CSt}, stepL s d l = some L → ∀ p ∈ l, ∃ s', stepK ⟨s.sl, s.n, p.2.1, p.2.2⟩ d p.1 = some s' ∧ s' ∈ L
  | [], _, _, p, hp => by simp at hp
  | (x, hp', c) :: r, L, h, p, hp => by
    simp only [stepL] at h
    split at h
    · rename_i s1 h1
      split at h
      · rename_i l1 h2
        cases h
        rcases List.mem_cons.1 hp with rfl | hp
        · exact ⟨s1, h1, by simp⟩
        · obtain ⟨s', g1, g2⟩ := stepL_mem h2 p hp
          exact ⟨s', g1, by simp [g2]⟩
      · cases h
    · cases h

theorem plain_cases {stl : FuncId → Bool} {o : Oper} (h : plainC T stl o = true) : effC T o = false ∨ isStill stl o = true := by
  unfold plainC at h
  rw [Bool.or_eq_true] at h
  rcases h with h | h
  · exact .inl (by simpa using h)
  · exact .inr h

theorem enter_run {o : Oper} {f : Operand} {args : List Operand} {g : FuncId} {cvs : List Value} (ho : calleeOf o = some (f, args)) (hf : a.eval f = .func (.func g) #[] cvs.toArray) (he : Enterable P g) (w : World) :
    (execOp a.eval o).run P w = .ok (.enter g (args.map a.eval ++ cvs).toArray) w := by
  obtain ⟨dst, op, type, pos, after, guard⟩ := o
  unfold calleeOf at ho
  split at ho
  · rename_i c hc
    simp only at hc
    subst hc
    obtain ⟨callee, as, argTypes⟩ := c
    split at ho
    · rename_i f' hf'
      simp only at hf'
      subst hf'
      simp only [Option.some.injEq, Prod.mk.injEq] at ho
      obtain ⟨rfl, rfl⟩ := ho
      obtain ⟨fn, e1, e2, e3⟩ := he
      have harr : (as.map a.eval ++ cvs.toArray) = (as.toList.map a.eval ++ cvs).toArray := by rw [← Array.toList_inj]; simp
      rw [← harr]
      simp only [execOp, resolve, Deferred.ofValue, hf, Sem.run_bind, Sem.run_pure, Result.andThen_ok, invoke, callFunc, program, Sem.run, e1, e2, e3, Bool.false_eq_true, if_false, Array.empty_append]
    · cases ho
  · cases ho

theorem enter_runB {o : Oper} {f : Operand} {args : List Operand} {g : FuncId} {cvs : List Value} (ho : calleeOf o = some (f, args)) (hf : a.eval f = .func (.func g) cvs.toArray #[]) (he : Enterable P g) (w : World) :
    (execOp a.eval o).run P w = .ok (.enter g (cvs ++ args.map a.eval).toArray) w := by
  obtain ⟨dst, op, type, pos, after, guard⟩ := o
  unfold calleeOf at ho
  split at ho
  · rename_i c hc
    simp only at hc
    subst hc
    obtain ⟨callee, as, argTypes⟩ := c
    split at ho
    · rename_i f' hf'
      simp only at hf'
      subst hf'
      simp only [Option.some.injEq, Prod.mk.injEq] at ho
      obtain ⟨rfl, rfl⟩ := ho
      obtain ⟨fn, e1, e2, e3⟩ := he
      have harr : (cvs.toArray ++ as.map a.eval) = (cvs ++ as.toList.map a.eval).toArray := by rw [← Array.toList_inj]; simp
      rw [← harr]
      simp only [execOp, resolve, Deferred.ofValue, hf, Sem.run_bind, Sem.run_pure, Result.andThen_ok, invoke, callFunc, program, Sem.run, e1, e2, e3, Bool.false_eq_true, if_false, Array.append_empty]
    · cases ho
  · cases ho
theorem call_runB {o : Oper} {f : Operand} {args : List Operand} {g : FuncId} {cvs : List Value} (ho : calleeOf o = some (f, args)) (hf : a.eval f = .func (.func g) cvs.toArray #[]) (w : World) :
    (execOp a.eval o).run P w = (callFunc g (cvs ++ args.map a.eval).toArray).run P w := by
  obtain ⟨dst, op, type, pos, after, guard⟩ := o
  unfold calleeOf at ho
  split at ho
  · rename_i c hc
    simp only at hc
    subst hc
    obtain ⟨callee, as, argTypes⟩ := c
    split at ho
    · rename_i f' hf'
      simp only at hf'
      subst hf'
      simp only [Option.some.injEq, Prod.mk.injEq] at ho
      obtain ⟨rfl, rfl⟩ := ho
      have harr : (cvs.toArray ++ as.map a.eval) = (cvs ++ as.toList.map a.eval).toArray := by rw [← Array.toList_inj]; simp
      rw [← harr]
      simp only [execOp, resolve, Deferred.ofValue, hf, Sem.run_bind, Sem.run_pure, Result.andThen_ok, invoke, Array.append_empty]
    · cases ho
  · cases ho

theorem callFunc_enter {g : FuncId} (he : Enterable P g) (vs : Array Value) (w : World) : (callFunc g vs).run P w = .ok (.enter g vs) w := by
  obtain ⟨fn, e1, e2, e3⟩ := he
  simp only [callFunc, program, Sem.run_bind, Sem.run_pure, Result.andThen_ok, Sem.run, e1, e2, e3, Bool.false_eq_true, if_false]
theorem CallAt.calls {g : FuncId} {vs : Array Value} {w : World} {Q : Value → World → Prop} (h : CallAt P g vs w Q) (he : Enterable P g) : Calls P g vs w fun e w' => ∃ v, e = .returned v ∧ Q v w' := by
  rcases h with ⟨_, h⟩ | ⟨v, h, _⟩
  · exact h
  · rw [callFunc_enter he] at h; cases h
theorem call_run {o : Oper} {f : Operand} {args : List Operand} {g : FuncId} {cvs : List Value} (ho : calleeOf o = some (f, args)) (hf : a.eval f = .func (.func g) #[] cvs.toArray) (w : World) :
    (execOp a.eval o).run P w = (callFunc g (args.map a.eval ++ cvs).toArray).run P w := by
  obtain ⟨dst, op, type, pos, after, guard⟩ := o
  unfold calleeOf at ho
  split at ho
  · rename_i c hc
    simp only at hc
    subst hc
    obtain ⟨callee, as, argTypes⟩ := c
    split at ho
    · rename_i f' hf'
      simp only at hf'
      subst hf'
      simp only [Option.some.injEq, Prod.mk.injEq] at ho
      obtain ⟨rfl, rfl⟩ := ho
      have harr : (as.map a.eval ++ cvs.toArray) = (as.toList.map a.eval ++ cvs).toArray := by rw [← Array.toList_inj]; simp
      rw [← harr]
      simp only [execOp, resolve, Deferred.ofValue, hf, Sem.run_bind, Sem.run_pure, Result.andThen_ok, invoke, Array.empty_append]
    · cases ho
  · cases ho

/-- A call, in the run. -/
theorem callL_enter {stl : FuncId → Bool} {call : CallF} (hcall : CallOk P stl call) {f : Operand} {args : List Operand} {g : FuncId} {caps : List CV} {l : List (CV × AL CSeg × Nat)} (hf : evalC s f = .fn g caps)
    (hl : call g (args.map (evalC s) ++ caps) s.hp s.c = some l) (hrc : RepC w0 L ρ τ s a w) :
    ∃ cvs : List Value, a.eval f = .func (.func g) #[] cvs.toArray ∧ CallAt P g (args.map a.eval ++ cvs).toArray w fun v w' => ∃ p ∈ l, ∃ r q ax, Rel (τ ++ q) p.1 ax ∧ Den (ρ ++ r) ax v ∧ RepC w0 L (ρ ++ r) (τ ++ q) ⟨s.sl, s.n, p.2.1, p.2.2⟩ a w' ∧ (stl g = true → w' = w) := by
  obtain ⟨axf, f1, f2⟩ := evalC_den hrc f
  rw [hf] at f1
  simp only [Rel] at f1
  obtain ⟨xs, rfl, f1⟩ := f1
  simp only [Den] at f2
  obtain ⟨cvs, f2, f3⟩ := f2
  have hrc0 := hrc
  obtain ⟨st, hg, hrep⟩ := hrc
  have hrel : Rels τ (args.map (evalC s) ++ caps) (args.map (av st) ++ xs) := (Rels.map (evalC_rel hg) _).app f1
  have hden : Dens ρ (args.map (av st) ++ xs) (args.map a.eval ++ cvs) := (dens_map (av_den hrep) _).append f3
  exact ⟨cvs, f2, hcall g _ s l hl w0 L ρ τ a w hrc0 _ _ hrel hden⟩

theorem callL_enterB {stl : FuncId → Bool} {call : CallF} (hcall : CallOk P stl call) {f : Operand} {args : List Operand} {g : FuncId} {fs : List CV} {l : List (CV × AL CSeg × Nat)} (hf : evalC s f = .fnb g fs)
    (hl : call g (fs ++ args.map (evalC s)) s.hp s.c = some l) (hrc : RepC w0 L ρ τ s a w) :
    ∃ cvs : List Value, a.eval f = .func (.func g) cvs.toArray #[] ∧ CallAt P g (cvs ++ args.map a.eval).toArray w fun v w' => ∃ p ∈ l, ∃ r q ax, Rel (τ ++ q) p.1 ax ∧ Den (ρ ++ r) ax v ∧ RepC w0 L (ρ ++ r) (τ ++ q) ⟨s.sl, s.n, p.2.1, p.2.2⟩ a w' ∧ (stl g = true → w' = w) := by
  obtain ⟨axf, f1, f2⟩ := evalC_den hrc f
  rw [hf] at f1
  simp only [Rel] at f1
  obtain ⟨xs, rfl, f1⟩ := f1
  simp only [Den] at f2
  obtain ⟨cvs, f2, f3⟩ := f2
  have hrc0 := hrc
  obtain ⟨st, hg, hrep⟩ := hrc
  have hrel : Rels τ (fs ++ args.map (evalC s)) (xs ++ args.map (av st)) := f1.app (Rels.map (evalC_rel hg) _)
  have hden : Dens ρ (xs ++ args.map (av st)) (cvs ++ args.map a.eval) := f3.append (dens_map (av_den hrep) _)
  exact ⟨cvs, f2, hcall g _ s l hl w0 L ρ τ a w hrc0 _ _ hrel hden⟩

theorem isStill_out {stl : FuncId → Bool} {o : Oper} (h : isStill stl o = true) : ∃ g args, calleeOf o = some (.func g, args) ∧ stl g = true := by
  unfold isStill at h
  split at h
  · rename_i g args hc; exact ⟨g, args, hc, h⟩
  · cases h

theorem opL_sound (hT : TOk P T) {stl : FuncId → Bool} {call : CallF} (hcall : CallOk P stl call) {o : Oper} {l : List CSt} (h : opL P T call s o = some l) (hrc : RepC w0 L ρ τ s a w) (Q : Exit → Act → World → Prop) :
    o.wp P a w (fun a' w' => NextL w0 L ρ τ l a' w' ∧ (plainC T stl o = true → w' = w)) Q := by
  unfold opL at h
  split at h
  · rename_i f args ho
    unfold callL at h
    split at h
    · rename_i g caps hf
      split at h
      · rename_i ll hl
        obtain ⟨cvs, h1, h23⟩ := callL_enter hcall hf hl hrc
        have fin : ∀ v w', (∃ p ∈ ll, ∃ r q ax, Rel (τ ++ q) p.1 ax ∧ Den (ρ ++ r) ax v ∧ RepC w0 L (ρ ++ r) (τ ++ q) ⟨s.sl, s.n, p.2.1, p.2.2⟩ a w' ∧ (stl g = true → w' = w)) → NextL w0 L ρ τ l (a.put o.dst v) w' ∧ (plainC T stl o = true → w' = w) := by
          rintro v w' ⟨p, hp, r, q, ax, k1, k2, k3, k4⟩
          obtain ⟨s', g1, g2⟩ := stepL_mem h p hp
          refine ⟨⟨s', g2, r, q, stepK_rep k3 k1 k2 g1⟩, fun hpl => ?_⟩
          rcases plain_cases hpl with h0 | h0
          · rw [calleeOf_eff h0] at ho; cases ho
          · obtain ⟨g', args', hc, hs⟩ := isStill_out h0
            rw [hc] at ho
            simp only [Option.some.injEq, Prod.mk.injEq] at ho
            obtain ⟨rfl, rfl⟩ := ho
            simp only [evalC, CV.fn.injEq] at hf
            obtain ⟨rfl, _⟩ := hf
            exact k4 hs
        rcases h23 with ⟨h2, h3⟩ | ⟨v, h2, h3⟩
        · unfold Oper.wp
          rw [enter_run ho h1 h2]
          refine h3.mono fun e w' ⟨v, he, hv⟩ => ?_
          subst he
          exact fin v w' hv
        · unfold Oper.wp
          rw [call_run ho h1, h2]
          exact fin v w h3
      · cases h
    · rename_i g fs hf
      split at h
      · rename_i ll hl
        obtain ⟨cvs, h1, h23⟩ := callL_enterB hcall hf hl hrc
        have fin : ∀ v w', (∃ p ∈ ll, ∃ r q ax, Rel (τ ++ q) p.1 ax ∧ Den (ρ ++ r) ax v ∧ RepC w0 L (ρ ++ r) (τ ++ q) ⟨s.sl, s.n, p.2.1, p.2.2⟩ a w' ∧ (stl g = true → w' = w)) → NextL w0 L ρ τ l (a.put o.dst v) w' ∧ (plainC T stl o = true → w' = w) := by
          rintro v w' ⟨p, hp, r, q, ax, k1, k2, k3, k4⟩
          obtain ⟨s', g1, g2⟩ := stepL_mem h p hp
          refine ⟨⟨s', g2, r, q, stepK_rep k3 k1 k2 g1⟩, fun hpl => ?_⟩
          rcases plain_cases hpl with h0 | h0
          · rw [calleeOf_eff h0] at ho; cases ho
          · obtain ⟨g', args', hc, hs⟩ := isStill_out h0
            rw [hc] at ho
            simp only [Option.some.injEq, Prod.mk.injEq] at ho
            obtain ⟨rfl, rfl⟩ := ho
            simp only [evalC, reduceCtorEq] at hf
        rcases h23 with ⟨h2, h3⟩ | ⟨v, h2, h3⟩
        · unfold Oper.wp
          rw [enter_runB ho h1 h2]
          refine h3.mono fun e w' ⟨v, he, hv⟩ => ?_
          subst he
          exact fin v w' hv
        · unfold Oper.wp
          rw [call_runB ho h1, h2]
          exact fin v w h3
      · cases h
    · cases h
  · rename_i hnc
    split at h
    · rename_i s1 h1
      cases h
      refine Oper.wp_mono (fun a' w' ⟨⟨r, q, h2⟩, h3⟩ => ⟨⟨s1, by simp, r, q, h2⟩, fun hpl => ?_⟩) (opC_sound hT h1 hrc Q)
      rcases plain_cases hpl with h0 | h0
      · exact h3 h0
      · obtain ⟨g', args', hc, _⟩ := isStill_out h0
        rw [hc] at hnc; cases hnc
    · cases h

theorem oneL_mem {r : Option CSt} {f : CSt → Option (List CSt)} {L : List CSt} (h : bindL (oneL r) f = some L) : ∃ s1, r = some s1 ∧ ∃ La, f s1 = some La ∧ ∀ b ∈ La, b ∈ L := by
  obtain ⟨l, h1, h2⟩ := bindL_mem h
  unfold oneL at h1
  split at h1
  · rename_i s1
    cases h1
    exact ⟨s1, rfl, h2 s1 (by simp)⟩
  · cases h1

theorem opsL_sound (hT : TOk P T) {stl : FuncId → Bool} {call : CallF} (hcall : CallOk P stl call) {all : List Oper} {Q : Exit → Act → World → Prop} {w1 : World} {pb : Bool} : ∀ (l : List Oper) (ρ : Plc) (τ : List Nat) (s : CSt) (a : Act) (w : World) (LL : List CSt), opsL P T call all l s = some LL → RepC w0 L ρ τ s a w →
    (pb = true → l.all (plainC T stl) = true) → (pb = true → w = w1) → (∀ s' ∈ LL, ∀ r q a' w', RepC w0 L (ρ ++ r) (τ ++ q) s' a' w' → (pb = true → w' = w1) → Q .normal a' w') → wpList P all.toArray Q l a w
  | [], ρ, τ, s, a, w, LL, h, hrc, hpl, hw, hQ => by
    simp only [opsL, Option.some.injEq] at h
    subst h
    exact hQ s (by simp) [] [] a w (by simpa using hrc) hw
  | o :: rest, ρ, τ, s, a, w, LL, h, hrc, hpl, hw, hQ => by
    have hpl1 : pb = true → plainC T stl o = true := fun hb => by have := hpl hb; simp only [List.all_cons, Bool.and_eq_true] at this; exact this.1
    have hpl2 : pb = true → rest.all (plainC T stl) = true := fun hb => by have := hpl hb; simp only [List.all_cons, Bool.and_eq_true] at this; exact this.2
    have run : bindL (opL P T call s o) (opsL P T call all rest) = some LL → o.wp P a w (wpList P all.toArray Q rest) Q := fun hb => by
      obtain ⟨l1, h1, h2⟩ := bindL_mem hb
      refine Oper.wp_mono (fun a' w' ⟨⟨s1, hs1, r, q, h3⟩, h4⟩ => ?_) (opL_sound hT hcall h1 hrc Q)
      obtain ⟨La, g1, g2⟩ := h2 s1 hs1
      exact opsL_sound hT hcall rest (ρ ++ r) (τ ++ q) s1 a' w' La g1 h3 hpl2 (fun hb => by rw [h4 (hpl1 hb)]; exact hw hb) fun s' hs' r' q' a'' w'' h5 h6 => hQ s' (g2 s' hs') (r ++ r') (q ++ q') a'' w'' (by rw [← List.append_assoc, ← List.append_assoc]; exact h5) h6
    have skip : bindL (oneL (stepK s o.dst (.tup []))) (opsL P T call all rest) = some LL → wpList P all.toArray Q rest (a.put o.dst undef) w := fun hb => by
      obtain ⟨s1, h1, La, h2, h3⟩ := oneL_mem hb
      exact opsL_sound hT hcall rest ρ τ s1 _ w La h2 (undef_rep hrc h1) hpl2 hw fun s' hs' => hQ s' (h3 s' hs')
    unfold opsL at h
    unfold wpList
    split at h
    · rename_i hg
      rw [if_pos (by simp [Region.wanted, hg])]
      exact .inl (run h)
    · rename_i j want hg
      split at h
      · rename_i t ht
        have hy := yielded_of (tmps := a.tmps) ht
        split at h
        · rename_i hb
          rw [evalC_bool hrc hb] at hy
          simp only at hy
          split at h
          · rw [if_pos (by simp [Region.wanted, hg, hy])]; exact .inl (run h)
          · rw [if_neg (by simp [Region.wanted, hg, hy])]; exact skip h
        · rename_i hb
          rw [evalC_bool hrc hb] at hy
          simp only at hy
          split at h
          · rw [if_pos (by simp [Region.wanted, hg, hy])]; exact .inl (run h)
          · rw [if_neg (by simp [Region.wanted, hg, hy])]; exact skip h
        · rename_i hb
          have hy2 : yielded all.toArray a.tmps j = none := by
            rw [hy]
            rcases evalC_undef hrc hb with e | e <;> rw [e] <;> rfl
          rw [if_neg (by simp [Region.wanted, hg, hy2])]
          exact skip h
        · cases h
      · cases h

/-- Plain operations alone, in whatever world of this heap. -/
theorem opL_plain (hT : TOk P T) {call : CallF} {o : Oper} {f : CSt → Option (List CSt)} {LL : List CSt} (he : effC T o = false) (h : bindL (opL P T call s o) f = some LL) (hrc : RepC w0 L ρ τ s a w) :
    ∃ v s1 La, Yields P o a w v ∧ RepC w0 L ρ τ s1 (a.put o.dst v) w ∧ f s1 = some La ∧ ∀ b ∈ La, b ∈ LL := by
  obtain ⟨l1, h1, h2⟩ := bindL_mem h
  unfold opL at h1
  rw [calleeOf_eff he] at h1
  simp only at h1
  split at h1
  · rename_i s1 hs1
    cases h1
    obtain ⟨La, g1, g2⟩ := h2 s1 (by simp)
    unfold opC at hs1
    rw [he] at hs1
    simp only at hs1
    split at hs1
    · rename_i x hx
      obtain ⟨ax, v, k1, k2, k3⟩ := evC_ok hT hx w0 L ρ τ a w hrc
      exact ⟨v, s1, La, k3, stepK_rep hrc k1 k2 hs1, g1, g2⟩
    · cases hs1
  · cases h1

theorem opsL_still (hT : TOk P T) {call : CallF} {all : List Oper} {Q : Act → Prop} : ∀ (l : List Oper) (s : CSt) (a : Act) (LL : List CSt), l.all (fun o => !effC T o) = true → opsL P T call all l s = some LL → RepC w0 L ρ τ s a w →
    (∀ s' ∈ LL, ∀ a', RepC w0 L ρ τ s' a' w → Q a') → wpStill P all.toArray w Q l a
  | [], s, a, LL, _, h, hrc, hQ => by
    simp only [opsL, Option.some.injEq] at h
    subst h
    exact hQ s (by simp) a hrc
  | o :: rest, s, a, LL, hp, h, hrc, hQ => by
    simp only [List.all_cons, Bool.and_eq_true, Bool.not_eq_true'] at hp
    have hrest : rest.all (fun o => !effC T o) = true := by simpa using hp.2
    have run : bindL (opL P T call s o) (opsL P T call all rest) = some LL → o.still P a w (wpStill P all.toArray w Q rest) := fun hb => by
      obtain ⟨v, s1, La, hy, hr, h1, h2⟩ := opL_plain hT hp.1 hb hrc
      unfold Oper.still
      rw [hy w rfl, Oper.stillUpon_value]
      exact opsL_still hT rest s1 _ La hrest h1 hr fun s' hs' => hQ s' (h2 s' hs')
    have skip : bindL (oneL (stepK s o.dst (.tup []))) (opsL P T call all rest) = some LL → wpStill P all.toArray w Q rest (a.put o.dst undef) := fun hb => by
      obtain ⟨s1, h1, La, h2, h3⟩ := oneL_mem hb
      exact opsL_still hT rest s1 _ La hrest h2 (undef_rep hrc h1) fun s' hs' => hQ s' (h3 s' hs')
    unfold opsL at h
    unfold wpStill
    split at h
    · rename_i hg
      rw [if_pos (by simp [Region.wanted, hg])]
      exact run h
    · rename_i j want hg
      split at h
      · rename_i t ht
        have hy := yielded_of (tmps := a.tmps) ht
        split at h
        · rename_i hb
          rw [evalC_bool hrc hb] at hy
          simp only at hy
          split at h
          · rw [if_pos (by simp [Region.wanted, hg, hy])]; exact run h
          · rw [if_neg (by simp [Region.wanted, hg, hy])]; exact skip h
        · rename_i hb
          rw [evalC_bool hrc hb] at hy
          simp only at hy
          split at h
          · rw [if_pos (by simp [Region.wanted, hg, hy])]; exact run h
          · rw [if_neg (by simp [Region.wanted, hg, hy])]; exact skip h
        · rename_i hb
          have hy2 : yielded all.toArray a.tmps j = none := by
            rw [hy]
            rcases evalC_undef hrc hb with e | e <;> rw [e] <;> rfl
          rw [if_neg (by simp [Region.wanted, hg, hy2])]
          exact skip h
        · cases h
      · cases h

theorem opsL_quiet (hT : TOk P T) {call : CallF} {all : List Oper} {Q : Act → Prop} : ∀ (l : List Oper) (s : CSt) (a : Act) (LL : List CSt), l.all (fun o => !effC T o) = true → opsL P T call all l s = some LL → RepC w0 L ρ τ s a w →
    (∀ s' ∈ LL, ∀ a', RepC w0 L ρ τ s' a' w → Q a') → wpQuiet P all.toArray (fun w' => ∃ n, w' = w.drewN n) Q l a
  | [], s, a, LL, _, h, hrc, hQ => by
    simp only [opsL, Option.some.injEq] at h
    subst h
    exact hQ s (by simp) a hrc
  | o :: rest, s, a, LL, hp, h, hrc, hQ => by
    simp only [List.all_cons, Bool.and_eq_true, Bool.not_eq_true'] at hp
    have hrest : rest.all (fun o => !effC T o) = true := by simpa using hp.2
    have run : bindL (opL P T call s o) (opsL P T call all rest) = some LL → o.quiet P a (fun w' => ∃ n, w' = w.drewN n) (wpQuiet P all.toArray (fun w' => ∃ n, w' = w.drewN n) Q rest) := fun hb => by
      obtain ⟨v, s1, La, hy, hr, h1, h2⟩ := opL_plain hT hp.1 hb hrc
      refine ⟨v, ?_, opsL_quiet hT rest s1 _ La hrest h1 hr fun s' hs' => hQ s' (h2 s' hs')⟩
      rintro w' ⟨n, rfl⟩
      unfold Oper.quietAt
      rw [hy (w.drewN n) rfl]
      exact ⟨rfl, rfl⟩
    have skip : bindL (oneL (stepK s o.dst (.tup []))) (opsL P T call all rest) = some LL → wpQuiet P all.toArray (fun w' => ∃ n, w' = w.drewN n) Q rest (a.put o.dst undef) := fun hb => by
      obtain ⟨s1, h1, La, h2, h3⟩ := oneL_mem hb
      exact opsL_quiet hT rest s1 _ La hrest h2 (undef_rep hrc h1) fun s' hs' => hQ s' (h3 s' hs')
    unfold opsL at h
    unfold wpQuiet
    split at h
    · rename_i hg
      rw [if_pos (by simp [Region.wanted, hg])]
      exact run h
    · rename_i j want hg
      split at h
      · rename_i t ht
        have hy := yielded_of (tmps := a.tmps) ht
        split at h
        · rename_i hb
          rw [evalC_bool hrc hb] at hy
          simp only at hy
          split at h
          · rw [if_pos (by simp [Region.wanted, hg, hy])]; exact run h
          · rw [if_neg (by simp [Region.wanted, hg, hy])]; exact skip h
        · rename_i hb
          rw [evalC_bool hrc hb] at hy
          simp only at hy
          split at h
          · rw [if_pos (by simp [Region.wanted, hg, hy])]; exact run h
          · rw [if_neg (by simp [Region.wanted, hg, hy])]; exact skip h
        · rename_i hb
          have hy2 : yielded all.toArray a.tmps j = none := by
            rw [hy]
            rcases evalC_undef hrc hb with e | e <;> rw [e] <;> rfl
          rw [if_neg (by simp [Region.wanted, hg, hy2])]
          exact skip h
        · cases h
      · cases h

/-- l1, then l2. -/
theorem opsL_append {call : CallF} {all : List Oper} (l2 : List Oper) : ∀ (l1 : List Oper) (s : CSt) (LL : List CSt), opsL P T call all (l1 ++ l2) s = some LL →
    ∃ L1, opsL P T call all l1 s = some L1 ∧ ∀ s1 ∈ L1, ∃ L2, opsL P T call all l2 s1 = some L2 ∧ ∀ b ∈ L2, b ∈ LL
  | [], s, LL, h => ⟨[s], rfl, fun s1 hs => by simp at hs; subst hs; exact ⟨LL, h, fun b hb => hb⟩⟩
  | o :: l1, s, LL, h => by
    have key : ∀ r : Option (List CSt), bindL r (opsL P T call all (l1 ++ l2)) = some LL → ∃ L1, bindL r (opsL P T call all l1) = some L1 ∧ ∀ s1 ∈ L1, ∃ L2, opsL P T call all l2 s1 = some L2 ∧ ∀ b ∈ L2, b ∈ LL := by
      intro r hr
      have all1 : ∀ (l : List CSt) (LL : List CSt), allL (opsL P T call all (l1 ++ l2)) l = some LL → ∃ L1, allL (opsL P T call all l1) l = some L1 ∧ ∀ s1 ∈ L1, ∃ L2, opsL P T call all l2 s1 = some L2 ∧ ∀ b ∈ L2, b ∈ LL := by
        intro l
        induction l with
        | nil => intro LL h; exact ⟨[], rfl, by simp⟩
        | cons x r ih =>
          intro LL h
          cases r with
          | nil =>
            simp only [allL] at h ⊢
            exact opsL_append l2 l1 x LL h
          | cons y r =>
            simp only [allL] at h
            split at h
            · rename_i u hu
              split at h
              · rename_i v hv
                cases h
                obtain ⟨A, a1, a2⟩ := opsL_append l2 l1 x u hu
                obtain ⟨B, b1, b2⟩ := ih v hv
                refine ⟨A ++ B, ?_, fun s1 hs => ?_⟩
                · simp only [allL, a1]
                  rw [b1]
                · rcases List.mem_append.1 hs with hs | hs
                  · obtain ⟨L2, k1, k2⟩ := a2 s1 hs
                    exact ⟨L2, k1, fun b hb => by simp [k2 b hb]⟩
                  · obtain ⟨L2, k1, k2⟩ := b2 s1 hs
                    exact ⟨L2, k1, fun b hb => by simp [k2 b hb]⟩
              · cases h
            · cases h
      unfold bindL at hr ⊢
      split at hr
      · exact all1 _ LL hr
      · cases hr
    simp only [List.cons_append, opsL] at h ⊢
    repeat' (split at h)
    all_goals first | exact key _ h | cases h

theorem region_L (hT : TOk P T) (hm : P.follows .mixedOrders = true) {stl : FuncId → Bool} {call : CallF} (hcall : CallOk P stl call) {rg : Nat} {ops : Array Oper} {draw : Bool} {Q : Exit → Act → World → Prop} {LL : List CSt} {pb : Bool} (hB : regionC T ops draw = true)
    (hpb : pb = true → draw = false ∧ ops.toList.all (plainC T stl) = true)
    (h : opsL P T call ops.toList ops.toList s = some LL) (hrc : RepC w0 L ρ τ s a w) (hQ : ∀ s' ∈ LL, ∀ r q a' w', RepC w0 L (ρ ++ r) (τ ++ q) s' a' w' → (pb = true → w' = w) → Q .normal a' w') : (Code.region rg ops draw).wp P Q a w := by
  obtain ⟨l, rfl⟩ : ∃ l : List Oper, ops = l.toArray := ⟨ops.toList, by simp⟩
  have e : l.toArray.toList = l := by simp
  rw [e] at h hpb
  cases draw with
  | false => exact wp_region_lit (opsL_sound (w1 := w) (pb := pb) hT hcall l ρ τ s a w LL h hrc (fun hb => (hpb hb).2) (fun _ => rfl) hQ)
  | true =>
    have hpf : pb = false := by cases pb with | false => rfl | true => have := (hpb rfl).1; cases this
    subst hpf
    simp only [regionC, Bool.not_true, Bool.false_or] at hB
    split at hB
    · rename_i he
      refine wp_region_quiet_lit hm hB (opsL_quiet hT l s a LL (by simpa using he) h hrc (fun s' hs' a' hr' => ?_))
      rintro w' ⟨n, rfl⟩
      exact hQ s' hs' [] [] a' _ (by simpa using hr'.drewN n) (fun h => by cases h)
    · rename_i he
      refine wp_region_still_tail (effIdxC T l) hm hB ?_
      rw [show l = l.take (effIdxC T l) ++ l.drop (effIdxC T l) by simp] at h
      obtain ⟨L1, h1, h2⟩ := opsL_append _ _ _ _ h
      simp only [List.take_append_drop] at h1 h2
      have hpure : (l.take (effIdxC T l)).all (fun o => !effC T o) = true := effIdxC_pure T l
      refine opsL_still (w := { w with drawn := w.drawn + 1 }) hT _ s a L1 hpure h1 (hrc.drewN 1) fun s1 hs1 a' hr' => ?_
      obtain ⟨L2, k1, k2⟩ := h2 s1 hs1
      exact opsL_sound (w1 := w) (pb := false) hT hcall _ ρ τ s1 a' _ L2 k1 hr' (fun h => by cases h) (fun h => by cases h) fun s' hs' r q a'' w'' h5 _ => hQ s' (k2 s' hs') r q a'' w'' h5 (fun h => by cases h)
end
end Go.Fw

namespace Go.Fw
open Go Go.RowKit

/-- A new row, as an operation makes it. -/
structure FreshR where
  k : Kind
  t : Trie CV
  d : List CV
  m : Nat
  l : Nat
  cap : Nat
  isp : Bool := false
/-- What it hands back: a row, or a cell's address. -/
def FreshR.cv (F : FreshR) (c : Nat) : CV := match F.isp with | true => .ptr c 0 | false => .slice c 0 F.l F.cap
def FreshR.av (F : FreshR) (c : Nat) : AV := match F.isp with | true => .ptr c 0 | false => .slice c 0 F.l F.cap
def FreshR.val (F : FreshR) (b : Nat) : Value := match F.isp with | true => .pointer (some ⟨b, 0, none⟩) | false => .slice (some ⟨b, 0, none⟩) F.l F.cap
theorem FreshR.rel (F : FreshR) (τ : List Nat) (c : Nat) : Rel τ (F.cv c) (F.av c) := by unfold FreshR.cv FreshR.av; cases F.isp <;> simp only [Rel]
theorem FreshR.den (F : FreshR) {ρ : Plc} {c b : Nat} (hc : c < ρ.length) (hp : pl ρ c = (b, 0)) (hl : F.l ≤ F.cap) : Den ρ (F.av c) (F.val b) := by
  unfold FreshR.av FreshR.val
  cases F.isp
  · simp only [Den, hp]; exact ⟨hc, hl, .inl (by simp)⟩
  · simp only [Den, hp]; exact ⟨hc, by simp⟩
def freshRes (s : CSt) (F : FreshR) : CV × AL CSeg × Nat := (F.cv s.c, AL.push (.seg F.k F.t F.d F.m false) s.hp s.c, s.c + 1)

section
variable {P : Program} {T : List (Nat × TyI)} {w0 : World} {L : Nat → Prop} {ρ : Plc} {τ : List Nat} {s : CSt} {st : St} {a : Act} {w : World}

/-- What such an operation does, in whatever world. -/
def FreshAt (P : Program) (ρ : Plc) (τ : List Nat) (sem : Sem Value) (F : FreshR) : Prop :=
  ∃ (ct : Cont) (e : TypeId) (vs : List Value), kindOf ct = F.k ∧ ct.avl.length = F.m ∧ (∀ j, j < F.m → ∃ y, ct.avl[j]? = some y ∧ Rel τ (cellC F.t F.d j) y) ∧ Dens ρ ct.avl vs ∧ (∀ v ∈ vs, v.oneCell' = true) ∧ F.l ≤ F.cap ∧
    ∀ w', sem.run P w' = .ok (F.val w'.heap.size) (w'.alloc (.cells vs.toArray e))

theorem makeC_fresh (hT : TOk P T) {t : Nat} {l c : Operand} {r : CV × AL CSeg × Nat} (h : makeC T s t (evalC s l) (evalC s c) = some r) :
    ∃ F, r = freshRes s F ∧ ∀ s' : CSt, evalC s' l = evalC s l → evalC s' c = evalC s c → makeC T s' t (evalC s' l) (evalC s' c) = some (freshRes s' F) ∧
      ∀ w0 L ρ τ a w, RepC w0 L ρ τ s' a w → FreshAt P ρ τ (Instr.makeSlice t (a.eval l) (a.eval c)) F := by
  unfold makeC at h
  split at h
  · rename_i kl ll kc cc e j hl hc hel
    split at h
    · rename_i hb
      have hb0 := hb
      simp only [Bool.and_eq_true, Nat.ble_eq, Nat.blt_eq] at hb
      obtain ⟨b1, b2, b3, b4, b5, b6⟩ := hb
      have b4 := Nat.eq_of_beq_eq_true b4
      rw [pushC_eq] at h
      cases h
      refine ⟨⟨kindTy j.d, .nil, j.zero.cells.toList.map cvS, cc * j.size, ll, cc, false⟩, rfl, fun s' e1 e2 => ⟨by rw [e1, e2, hl, hc]; simp only [makeC, hel, hb0, pushC_eq]; rfl, fun w0 L ρ τ a w hrc => ?_⟩⟩
      have vl := evalC_ground hrc (x := l) (v := .int kl ll) (by rw [e1, hl]; rfl)
      have vc := evalC_ground hrc (x := c) (v := .int kc cc) (by rw [e2, hc]; rfl)
      obtain ⟨hu, hj, hag⟩ := elemOfT_some hT hel
      obtain ⟨ji, g1, g2, g3, g4⟩ := info_of hag
      have hrel : ∀ τ', Rels τ' (j.zero.cells.toList.map cvS) (j.zero.cells.toList.map avScalar) := fun τ' => Rels.map (cvS_rel τ') _
      have hfit := allFitsK_A b6 (hrel τ)
      have hzl : j.zero.cells.toList.length = j.size := by simpa using b4
      let vals : List Value := (List.range (cc * j.size)).map fun i => j.zero.cells.toList.getD (i % j.size) (.bool false)
      have hmem : ∀ i, i % j.size < j.zero.cells.toList.length := fun i => by rw [hzl]; exact Nat.mod_lt _ b5
      have hget : ∀ i, j.zero.cells.toList.getD (i % j.size) (.bool false) = j.zero.cells.toList[i % j.size]'(hmem i) := fun i => by
        rw [List.getD_eq_getElem?_getD, List.getElem?_eq_getElem (hmem i)]; rfl
      obtain ⟨ct, k1, k2⟩ := contOf (k := kindTy j.d) (vals.map avScalar) (by
        intro x hx
        simp only [vals, List.map_map, List.mem_map, List.mem_range, Function.comp] at hx
        obtain ⟨i, hi, rfl⟩ := hx
        rw [hget]
        exact hfit _ (List.mem_map_of_mem (List.getElem_mem _)))
      have hmade : madeCells j.zero.cells (cc * ji.size) = vals.toArray := by
        rw [g2]
        unfold madeCells
        rw [← Array.toList_inj]
        simp only [vals, Array.toList_map, Array.toList_range]
        apply List.map_congr_left
        intro i _
        rw [hget, b4]
        have := hmem i
        rw [getElem!_pos _ _ (by rw [b4]; exact Nat.mod_lt _ b5)]
        simp
      have hbc : (j.bytes : Int) * (cc : Int) ≤ 281474976710656 := by
        have : ((j.bytes * cc : Nat) : Int) ≤ 281474976710656 := by omega
        rwa [Int.natCast_mul] at this
      have hone : ∀ v ∈ vals, v.oneCell' = true := fun v hv => by
        have hx : isOne (avScalar v) = true := fitsA_one (by
          have : avScalar v ∈ vals.map avScalar := List.mem_map_of_mem hv
          simp only [vals, List.map_map, List.mem_map, List.mem_range, Function.comp] at this
          obtain ⟨i, hi, e⟩ := this
          rw [← e, hget]
          exact hfit _ (List.mem_map_of_mem (List.getElem_mem _)))
        exact den_one hx (avScalar_den ρ v)
      refine ⟨ct, e, vals, k1, by rw [k2]; simp [vals], fun i hi => ?_, by rw [k2]; exact avScalars_den ρ _, hone, b1, fun w' => ?_⟩
      · refine ⟨avScalar (j.zero.cells.toList.getD (i % j.size) (.bool false)), by rw [k2]; simp only [vals]; simp at hi; simp [hi], ?_⟩
        have : cellC .nil (j.zero.cells.toList.map cvS) i = cvS (j.zero.cells.toList.getD (i % j.size) (.bool false)) := by
          simp only [cellC, Trie.get_nil]
          rw [dflt_eq (by simp [b4]; exact b5)]
          apply nthC_some
          rw [List.length_map, hzl, List.getElem?_map, List.getElem?_eq_getElem (hmem i), hget]
          rfl
        rw [this]
        exact cvS_rel _ _
      · have hrun := run_make (P := P) w' t e ji j.zero hu g1 g4 kl kc ll cc (Int.natCast_nonneg ll) (Int.ofNat_le.2 b1) (by rw [g3]; exact hbc) (by omega)
        simp only [Int.toNat_natCast] at hrun
        rw [hmade] at hrun
        rw [vl, vc]; exact hrun
    · cases h
  · cases h

theorem offL_mem {d : Option Tmp} : ∀ {ps : List (Nat × Operand)}, offL d ps = true → ∀ p ∈ ps, offT d p.2 = true
  | [], _, p, hp => by simp at hp
  | q :: r, h, p, hp => by
    simp only [offL, Bool.and_eq_true] at h
    rcases List.mem_cons.1 hp with rfl | hp
    · exact h.1
    · exact offL_mem h.2 p hp

theorem partsC_congr {s' : CSt} {sz : Nat} : ∀ (ps : List (Nat × Operand)) (i : Nat), (∀ p ∈ ps, evalC s' p.2 = evalC s p.2) → partsC s' sz i ps = partsC s sz i ps
  | [], _, _ => rfl
  | (j, x) :: r, i, h => by
    have h1 := h (j, x) (by simp)
    simp only at h1
    simp only [partsC, h1, partsC_congr r (i + 1) fun p hp => h p (by simp [hp])]

theorem buildC_fresh (hT : TOk P T) {t len : Nat} {ps : Array (Nat × Operand)} {r : CV × AL CSeg × Nat} (h : buildSliceC T s t len ps.toList = some r) :
    ∃ F, r = freshRes s F ∧ ∀ s' : CSt, (∀ p ∈ ps.toList, evalC s' p.2 = evalC s p.2) → buildSliceC T s' t len ps.toList = some (freshRes s' F) ∧
      ∀ w0 L ρ τ a w, RepC w0 L ρ τ s' a w → FreshAt P ρ τ (Instr.buildSlice t len (ps.map fun (i, x) => (i, a.eval x))) F := by
  unfold buildSliceC at h
  split at h
  · rename_i e j hel
    split at h
    · rename_i l hl
      split at h
      · rename_i hb
        have hb0 := hb
        simp only [Bool.and_eq_true, Nat.ble_eq, Nat.blt_eq] at hb
        obtain ⟨b1, b2, b3, b4, b5, b6⟩ := hb
        have b1 := Nat.eq_of_beq_eq_true b1
        have b4 := Nat.eq_of_beq_eq_true b4
        rw [pushC_eq] at h
        cases h
        refine ⟨⟨kindTy j.d, setManyC .nil [] 0 l, [], len * j.size, len, len, false⟩, rfl, fun s' hs' => ⟨?_, fun w0 L ρ τ a w hrc => ?_⟩⟩
        · simp only [buildSliceC, hel, partsC_congr ps.toList 0 hs', hl, hb0, pushC_eq]; rfl
        have hl' : partsC s' j.size 0 ps.toList = some l := by rw [partsC_congr ps.toList 0 hs']; exact hl
        obtain ⟨hu, hj, hag⟩ := elemOfT_some hT hel
        obtain ⟨ji, g1, g2, g3, g4⟩ := info_of hag
        obtain ⟨xs, r1, r2, r3, r4, r5⟩ := partsC_out hrc _ _ _ hl' b6
        obtain ⟨ct, k1, k2⟩ := contOf (k := kindTy j.d) xs (allFitsK_A b5 r1)
        have hfl := r1.len
        have hps : (ps.map fun (p : Nat × Operand) => (p.1, a.eval p.2)).toList = ps.toList.map fun p => (p.1, a.eval p.2) := by simp
        have hfill : ∀ cells : Array Value, cells.size = len * j.size → Instr.fill (fun i => some (i * j.size, j.size)) cells (ps.toList.map fun p => (p.1, a.eval p.2)) = some (ps.toList.flatMap fun p => (a.eval p.2).cells.toList).toArray := fun cells hc => by
          have := fill_rows (sz := j.size) (ps.toList.map fun p => (p.1, a.eval p.2)) 0 cells.toList (by simp only [List.map_map, List.length_map]; exact r4) (by intro p hp; obtain ⟨q, hq, rfl⟩ := List.mem_map.1 hp; exact r5 q hq) (by simp [hc]; simp at b1; rw [b1])
          simp only [Array.toArray_toList, Nat.zero_mul, List.take_zero, List.nil_append, List.flatMap_map] at this
          exact this
        have hnot : ¬ len * j.size > 2 ^ 24 := by omega
        have hrun : ∀ w, (Instr.buildSlice t len (ps.map fun (i, x) => (i, a.eval x))).run P w = .ok (.slice (some ⟨w.heap.size, 0, none⟩) len len) (w.alloc (.cells (ps.toList.flatMap fun p => (a.eval p.2).cells.toList).toArray e)) := fun w => by
          have hps' : (ps.map fun (x : Nat × Operand) => match x with | (i, x) => (i, a.eval x)).toList = ps.toList.map fun p => (p.1, a.eval p.2) := by simp
          by_cases h0 : len * j.size = 0
          · have hl0 : len = 0 := by
              rcases Nat.mul_eq_zero.1 h0 with h | h
              · exact h
              · omega
            have hp0 : ps = #[] := by rw [← Array.toList_inj]; exact List.eq_nil_of_length_eq_zero (by omega)
            subst hp0
            subst hl0
            simp [Instr.buildSlice, run_underlying hu, run_sizeOf hag, Instr.fill, newRow, go_sem]
          · have hf := hfill (Array.map (fun x => j.zero.cells[x % j.zero.cells.size]!) (Array.range (len * j.size))) (by simp)
            simp only [Instr.buildSlice, Sem.run_bind, run_underlying hu, Result.andThen_ok, run_sizeOf hag, hnot, if_false, h0, Sem.run_pure, zeroValue, typeInfo, run_program, g1, g4]
            simp only [hps', hf]
            simp [newRow, go_sem]
        refine ⟨ct, e, _, k1, by rw [k2, ← hfl, r3]; simp at b1; simp [b1], fun i hi => ?_, by rw [k2]; exact r2, dens_one r2 (fun x hx => fitsA_one (allFitsK_A b5 r1 x hx)), Nat.le_refl _, hrun⟩
        have hi' : i < l.length := by rw [r3]; simp at b1; simp [b1]; exact hi
        obtain ⟨y, q1, q2⟩ := r1.get i l[i] (by simp)
        refine ⟨y, by rw [k2]; exact q1, ?_⟩
        rw [setManyC_get, dif_pos (by omega)]
        exact q2
      · cases h
    · cases h
  · cases h

theorem allocC_fresh (hT : TOk P T) {t : Nat} {r : CV × AL CSeg × Nat} (h : allocC T s t = some r) :
    ∃ F, r = freshRes s F ∧ ∀ s' : CSt, allocC T s' t = some (freshRes s' F) ∧ ∀ ρ τ, FreshAt P ρ τ (Instr.alloc t true (.tuple #[])) F := by
  unfold allocC at h
  split at h
  · rename_i i hi
    split at h
    · rename_i h1
      rw [pushC_eq] at h
      cases h
      refine ⟨⟨.avs, setManyC .nil [] 0 (i.zero.cells.toList.map cvS), [], i.zero.cells.size, 0, 0, true⟩, rfl, fun s' => ⟨by simp only [allocC, hi, h1, pushC_eq]; rfl, fun ρ τ => ?_⟩⟩
      have hrel : Rels τ (i.zero.cells.toList.map cvS) (i.zero.cells.toList.map avScalar) := Rels.map (cvS_rel τ) _
      have hd := avScalars_den ρ i.zero.cells.toList
      obtain ⟨ji, g1, g2, g3, g4⟩ := info_of (hT.at hi)
      refine ⟨.avs (i.zero.cells.toList.map avScalar), t, i.zero.cells.toList, rfl, by simp [Cont.avl], fun j hj => ?_, hd, dens_one hd (allOneC_one h1 hrel), Nat.le_refl _, fun w' => ?_⟩
      · have hj' : j < (i.zero.cells.toList.map cvS).length := by simpa using hj
        obtain ⟨y, q1, q2⟩ := hrel.get j _ (List.getElem?_eq_getElem hj')
        refine ⟨y, q1, ?_⟩
        rw [setManyC_get, dif_pos (by omega)]
        exact q2
      · simp [Instr.alloc, zeroValue, typeInfo, g1, g4, newVar, newRow, FreshR.val]
    · cases h
  · cases h

/-- The same for an operation. -/
theorem fresh_op (hT : TOk P T) {d : Option Tmp} {o : Oper} {s1 : CSt} (hf : freshB d o = true) (h : opC P T s o = some s1) :
    ∃ F, stepK ⟨s.sl, s.n, AL.push (.seg F.k F.t F.d F.m false) s.hp s.c, s.c + 1⟩ o.dst (F.cv s.c) = some s1 ∧ ∀ s' : CSt, (∀ x, offT d x = true → evalC s' x = evalC s x) →
      ∀ w0 L ρ τ a w, RepC w0 L ρ τ s' a w → ∃ sem, (∀ a' : Act, (∀ x, offT d x = true → a'.eval x = a.eval x) → execOp a'.eval o = (do pure (.value (← sem)))) ∧ FreshAt P ρ τ sem F := by
  obtain ⟨dst, op, type, pos, after, guard⟩ := o
  unfold freshB at hf
  split at hf
  · cases hf
  · rename_i hg
    simp only at hg
    subst hg
    cases op <;> simp only [Bool.false_eq_true] at hf
    case makeSlice t l c =>
      simp only [Bool.and_eq_true] at hf
      unfold opC at h
      simp only [isEff] at h
      obtain ⟨r, hr⟩ := made_some h
      rw [hr] at h
      obtain ⟨F, rfl, hF⟩ := makeC_fresh hT hr
      refine ⟨F, h, fun s' hs' w0 L ρ τ a w hrc => ⟨_, fun a' ha' => ?_, (hF s' (hs' l hf.1) (hs' c hf.2)).2 w0 L ρ τ a w hrc⟩⟩
      show (do pure (Next.value (← Instr.makeSlice t (a'.eval l) (a'.eval c)))) = _
      rw [ha' l hf.1, ha' c hf.2]
    case alloc t =>
      unfold opC at h
      simp only [effC, isEff, Bool.true_or] at h
      obtain ⟨r, hr⟩ := made_some h
      rw [hr] at h
      obtain ⟨F, rfl, hF⟩ := allocC_fresh hT hr
      exact ⟨F, h, fun s' hs' w0 L ρ τ a w hrc => ⟨_, fun a' ha' => rfl, (hF s').2 ρ τ⟩⟩
    case buildSlice t len ps =>
      unfold opC at h
      simp only [isEff] at h
      obtain ⟨r, hr⟩ := made_some h
      rw [hr] at h
      obtain ⟨F, rfl, hF⟩ := buildC_fresh hT hr
      refine ⟨F, h, fun s' hs' w0 L ρ τ a w hrc => ⟨_, fun a' ha' => ?_, (hF s' (fun p hp => hs' p.2 (offL_mem hf p hp))).2 w0 L ρ τ a w hrc⟩⟩
      show (do pure (Next.value (← Instr.buildSlice t len (ps.map fun (i, x) => (i, a'.eval x))))) = _
      have : (ps.map fun (i, x) => (i, a'.eval x)) = ps.map fun (i, x) => (i, a.eval x) := by
        rw [← Array.toList_inj]
        simp only [Array.toList_map]
        refine List.map_congr_left fun p hp => ?_
        obtain ⟨i, x⟩ := p
        simp only [ha' x (offL_mem hf (i, x) hp)]
      rw [this]

theorem put_off {d : Option Tmp} {v : Value} {x : Operand} (h : offT d x = true) (a : Act) : (a.put d v).eval x = a.eval x := by
  cases d with
  | none => rfl
  | some t =>
    cases x with
    | tmp u =>
      have hne : t ≠ u := fun e => by subst e; simp [offT, Nat.beq_refl] at h
      simp [Act.eval, Act.put, Array.getElem?_setIfInBounds_ne hne]
    | _ => rfl
theorem stepK_off {d : Option Tmp} {v : CV} {s' : CSt} (h : stepK s d v = some s') {x : Operand} (hx : offT d x = true) : evalC s' x = evalC s x := by
  cases d with
  | none => simp only [stepK, Option.some.injEq] at h; rw [h]
  | some t =>
    obtain ⟨sl, n, hp, c⟩ := s
    simp only [stepK] at h
    split at h
    · simp only [forceV_eq, Option.some.injEq] at h
      subst h
      cases x with
      | tmp u =>
        have hne : t ≠ u := fun e => by subst e; simp [offT, Nat.beq_refl] at hx
        simp only [evalC, List.getD_eq_getElem?_getD, List.getElem?_set_ne hne]
      | _ => rfl
    · cases h
theorem evalC_hp (x : Operand) (hp hp' : AL CSeg) (c c' : Nat) (sl : List CV) (n : Nat) : evalC ⟨sl, n, hp, c⟩ x = evalC ⟨sl, n, hp', c'⟩ x := by cases x <;> rfl
theorem stepK_hp {d : Option Tmp} {v : CV} {s' : CSt} {sl : List CV} {n : Nat} {hp : AL CSeg} {c : Nat} (h : stepK ⟨sl, n, hp, c⟩ d v = some s') (hp2 : AL CSeg) (c2 : Nat) : stepK ⟨sl, n, hp2, c2⟩ d v = some ⟨s'.sl, s'.n, hp2, c2⟩ ∧ s'.hp = hp ∧ s'.c = c := by
  cases d with
  | none => simp only [stepK, Option.some.injEq] at h; subst h; exact ⟨rfl, rfl, rfl⟩
  | some t =>
    simp only [stepK] at h ⊢
    split at h
    · simp only [forceV_eq, Option.some.injEq] at h ⊢
      subst h
      exact ⟨rfl, rfl, rfl⟩
    · cases h

/-- TWO NEW ROWS, made in the other order. -/
theorem fresh_two (hT : TOk P T) {o u : Oper} {s1 s12 : CSt} (h2 : twoB o u = true) (ho : opC P T s o = some s1) (hu : opC P T s1 u = some s12) (hrc : RepC w0 L ρ τ s a w) {K I : Act → World → Prop} {Q : Exit → Act → World → Prop} (hI : u.wp P a w I Q ∨ ∀ a' w', I a' w')
    (hK : ∀ r q a' w', RepC w0 L (ρ ++ r) (τ ++ q) s12 a' w' → K a' w') : u.wp P a w (fun a' w' => I a' w' ∧ o.wp P a' w' K Q) Q := by
  unfold twoB at h2
  simp only [Bool.and_eq_true] at h2
  obtain ⟨f1, f2, hd⟩ := h2
  obtain ⟨F1, k1, g1⟩ := fresh_op hT f1 ho
  obtain ⟨F2, k2, g2⟩ := fresh_op hT f2 hu
  obtain ⟨sem1, e1, ct1, ty1, vs1, a1, a2, a3, a4, a5, a6, a7⟩ := g1 s (fun _ _ => rfl) w0 L ρ τ a w hrc
  obtain ⟨sem2, e2, ct2, ty2, vs2, b1, b2, b3, b4, b5, b6, b7⟩ := g2 s (fun x hx => by
    have := stepK_off k1 hx
    rw [this]
    obtain ⟨sl, n, hp, c⟩ := s
    exact evalC_hp x _ _ _ _ _ _) w0 L ρ τ a w hrc
  have hw2 : (execOp a.eval u).run P w = .ok (.value (F2.val w.heap.size)) (w.alloc (.cells vs2.toArray ty2)) := by
    rw [e2 a (fun _ _ => rfl)]
    simp only [Sem.run_bind, b7 w, Result.andThen_ok, Sem.run_pure]
  have hw1 : (execOp (a.put u.dst (F2.val w.heap.size)).eval o).run P (w.alloc (.cells vs2.toArray ty2)) = .ok (.value (F1.val (w.alloc (.cells vs2.toArray ty2)).heap.size)) ((w.alloc (.cells vs2.toArray ty2)).alloc (.cells vs1.toArray ty1)) := by
    rw [e1 _ fun x hx => put_off hx a]
    simp only [Sem.run_bind, a7, Result.andThen_ok, Sem.run_pure]
  have hint : I (a.put u.dst (F2.val w.heap.size)) (w.alloc (.cells vs2.toArray ty2)) := by
    rcases hI with hI | hI
    · unfold Oper.wp at hI
      rw [hw2] at hI
      exact hI
    · exact hI _ _
  unfold Oper.wp
  rw [hw2]
  refine ⟨hint, ?_⟩
  change Oper.upon P o (a.put u.dst _) K Q (Sem.run P (execOp (a.put u.dst _).eval o) _)
  rw [hw1]
  have hz : (w.alloc (.cells vs2.toArray ty2)).heap.size = w.heap.size + 1 := by simp
  obtain ⟨st, hg, hr⟩ := hrc
  have hn := hr.heap.names
  -- the heap, both rows under their names
  have q0 : HeapOk w0.heap.size L ρ st.hp (w.alloc (.cells vs2.toArray ty2)) := hr.heap.world fun n s hs hl => Below.heap_alloc w _ _ (hr.heap.lt hs hl)
  have q1 : HeapOk w0.heap.size L ρ st.hp ((w.alloc (.cells vs2.toArray ty2)).alloc (.cells vs1.toArray ty1)) := q0.world fun n s hs hl => Below.heap_alloc _ _ _ (q0.lt hs hl)
  have q2 := q1.push (p := (w.heap.size + 1, 0)) (own := true) (c := ct1) (cells_made (by simp [pl, ← hn]) (a4.grow _) a5 true) (fun _ _ => .inl (Nat.le_succ_of_le hr.kept.size)) (fun _ m s hs hl => by
    have := hr.heap.lt hs hl
    simp only; omega)
  have hp2 : pl (ρ ++ [(w.heap.size + 1, 0)] ++ [(w.heap.size, 0)]) (st.hp ++ [Seg.seg true ct1]).length = (w.heap.size, 0) := by simp [pl, ← hn]
  have c2 : CellsAt (ρ ++ [(w.heap.size + 1, 0)] ++ [(w.heap.size, 0)]) (w.alloc (.cells vs2.toArray ty2)) (st.hp ++ [Seg.seg true ct1]).length true ct2.avl :=
    cells_made hp2 ((b4.grow _).grow _) b5 true
  have q3 := q2.push (p := (w.heap.size, 0)) (own := true) (c := ct2) (c2.world fun _ => Below.heap_alloc _ _ _ (by rw [hp2]; simp)) (fun _ _ => .inl hr.kept.size) (fun _ m s hs hl => by
    rcases Nat.lt_or_ge m st.hp.length with hm | hm
    · rw [List.getElem?_append_left hm] at hs
      have := hr.heap.lt hs hl
      have e : pl (ρ ++ [(w.heap.size + 1, 0)]) m = pl ρ m := by simp [pl, List.getElem?_append_left (show m < ρ.length by omega)]
      rw [e]; simp only; omega
    · have hm' : m = st.hp.length := by
        have := (List.getElem?_eq_some_iff.1 hs).1
        simp at this; omega
      subst hm'
      have e : pl (ρ ++ [(w.heap.size + 1, 0)]) st.hp.length = (w.heap.size + 1, 0) := by simp [pl, ← hn]
      rw [e]; simp)
  -- the run's memory
  have p1 := hg.push (c := ct1) (k := F1.k) (t' := F1.t) (d := F1.d) (m := F1.m) (op := false) a1 (by omega) (fun _ => a2) (fun j hj => by obtain ⟨y, y1, y2⟩ := a3 j hj; exact ⟨y, y1, y2.grow _⟩)
  have p2 := p1.push (c := ct2) (k := F2.k) (t' := F2.t) (d := F2.d) (m := F2.m) (op := false) b1 (by omega) (fun _ => b2) (fun j hj => by obtain ⟨y, y1, y2⟩ := b3 j hj; exact ⟨y, y1, (y2.grow _).grow _⟩)
  have base : RepC w0 L (ρ ++ [(w.heap.size + 1, 0)] ++ [(w.heap.size, 0)]) (τ ++ [ct1.avl.length] ++ [ct2.avl.length]) ⟨s.sl, s.n, AL.push (.seg F2.k F2.t F2.d F2.m false) (AL.push (.seg F1.k F1.t F1.d F1.m false) s.hp s.c) (s.c + 1), s.c + 1 + 1⟩ a
      ((w.alloc (.cells vs2.toArray ty2)).alloc (.cells vs1.toArray ty1)) :=
    ⟨_, p2, ⟨(hr.slots.grow _).grow _, q3, (hr.kept.alloc _).alloc _, hr.defers⟩⟩
  have hc := hg.names
  have j1 := stepK_hp k1 (AL.push (.seg F2.k F2.t F2.d F2.m false) (AL.push (.seg F1.k F1.t F1.d F1.m false) s.hp s.c) (s.c + 1)) (s.c + 1 + 1)
  obtain ⟨j1, j2, j3⟩ := j1
  have r1 := stepK_rep (ax := F1.av s.c) (v := F1.val (w.heap.size + 1)) base (F1.rel _ _) (F1.den (by simp; omega) (by rw [← hc, ← hn]; simp [pl]) a6) j1
  rw [j2, j3] at k2
  have r2 := stepK_rep (ax := F2.av (s.c + 1)) (v := F2.val w.heap.size) r1 (F2.rel _ _) (F2.den (by simp; omega) (by rw [← hc, ← hn]; simp [pl]) b6) k2
  rw [hz]
  have hcomm : (a.put o.dst (F1.val (w.heap.size + 1))).put u.dst (F2.val w.heap.size) = (a.put u.dst (F2.val w.heap.size)).put o.dst (F1.val (w.heap.size + 1)) :=
    Act.put_comm a _ _ fun d h1 h2 => by
      rw [h1, h2] at hd
      simp [offD, Nat.beq_refl] at hd
  rw [hcomm] at r2
  exact hK [(w.heap.size + 1, 0), (w.heap.size, 0)] [ct1.avl.length, ct2.avl.length] _ _ (by simpa using r2)

/-- A new row's operation, in a plan. -/
theorem pick_fresh {stl : FuncId → Bool} {call : CallF} {all : List Oper} {d : Option Tmp} {o : Oper} (hf : freshB d o = true) : pickL P T stl call all o s = oneL (opC P T s o) ∧ plainC T stl o = false ∧ o.guard = none := by
  obtain ⟨dst, op, type, pos, after, guard⟩ := o
  unfold freshB at hf
  split at hf
  · cases hf
  · rename_i hg
    simp only at hg
    subst hg
    cases op <;> simp only [Bool.false_eq_true] at hf
    all_goals
      refine ⟨?_, rfl, rfl⟩
      simp only [pickL, isStill, calleeOf, opsL, opL]
      cases opC P T s _ <;> rfl
end
end Go.Fw

namespace Go.Fw
open Go Go.RowKit

section
variable {P : Program} {T : List (Nat × TyI)} {w0 : World} {L : Nat → Prop} {ρ : Plc} {τ : List Nat} {s : CSt} {st : St} {a : Act} {w : World}

theorem dead_rep (hg : Gam τ s st) (hr : Rep w0 L ρ st a w) (w' : World) : RepC w' (fun _ => False) ρ τ ⟨s.sl, s.n, .nil, s.c⟩ a w' := by
  refine ⟨⟨st.sl, List.replicate s.c .dead⟩, ⟨hg.len, hg.slots, by simp, hg.tots, fun i x hx => by simp [AL.getD, AL.get, SegRel], hg.sz, trivial, fun q hq => by simp at hq⟩, ⟨hr.slots, ⟨by simp [hr.heap.names, hg.names], fun n t ht => ?_, fun n t ht ho => ?_, fun n m t u _ ht _ ho => ?_⟩, Kept.refl _ _, hr.defers⟩⟩
  · have := List.mem_of_getElem? ht
    rw [(List.mem_replicate.1 this).2]; trivial
  · have := List.mem_of_getElem? ht
    rw [(List.mem_replicate.1 this).2] at ho; simp [Seg.isOwn] at ho
  · have := List.mem_of_getElem? ht
    rw [(List.mem_replicate.1 this).2] at ho; simp [Seg.isOwn] at ho

theorem detS_den {c : CV} {ax ay : AV} {τ' : List Nat} {u v : Value} (h : detS c = true) (h1 : Rel τ c ax) (h2 : Rel τ' c ay) (d1 : Den ρ ax u) (d2 : Den ρ ay v) : u = v := by
  cases c <;> simp [detS] at h <;> simp only [Rel] at h1 h2 <;> subst h1 <;> subst h2 <;> simp only [Den] at d1 d2
  case ptr => rw [d1.2, d2.2]
  case map => rw [d1.2, d2.2]
  case slice =>
    rcases d1.2.2 with e1 | ⟨e1, _⟩
    · rcases d2.2.2 with e2 | ⟨e2, _⟩
      · rw [e1, e2]
      · omega
    · omega
  all_goals rw [d1, d2]
theorem detL_den : ∀ {cs : List CV} {xs ys : List AV} {τ' : List Nat} {us vs : List Value}, detL cs = true → Rels τ cs xs → Rels τ' cs ys → Dens ρ xs us → Dens ρ ys vs → us = vs
  | [], xs, ys, τ', us, vs, _, h1, h2, d1, d2 => by
    simp only [Rels] at h1 h2
    subst h1; subst h2
    simp only [Dens] at d1 d2
    rw [d1, d2]
  | c :: cs, xs, ys, τ', us, vs, h, h1, h2, d1, d2 => by
    simp only [detL, Bool.and_eq_true] at h
    simp only [Rels] at h1 h2
    obtain ⟨a, r, rfl, g1, g2⟩ := h1
    obtain ⟨b, q, rfl, k1, k2⟩ := h2
    simp only [Dens] at d1 d2
    obtain ⟨u, us', rfl, e1, e2⟩ := d1
    obtain ⟨v, vs', rfl, f1, f2⟩ := d2
    rw [detS_den h.1 g1 k1 e1 f1, detL_den h.2 g2 k2 e2 f2]
theorem det_den {c : CV} {ax ay : AV} {τ' : List Nat} {u v : Value} (h : detC c = true) (h1 : Rel τ c ax) (h2 : Rel τ' c ay) (d1 : Den ρ ax u) (d2 : Den ρ ay v) : u = v := by
  unfold detC at h
  split at h
  · simp only [Rel] at h1 h2
    obtain ⟨xs, rfl, h1⟩ := h1
    obtain ⟨ys, rfl, h2⟩ := h2
    simp only [Den] at d1 d2
    obtain ⟨us, rfl, d1⟩ := d1
    obtain ⟨vs, rfl, d2⟩ := d2
    rw [detL_den h h1 h2 d1 d2]
  · exact detS_den h h1 h2 d1 d2
theorem bytes_eq {a b : ByteArray} (h : bEq a.data.toList b.data.toList = true) : a = b := by
  rw [bEq_eq, beq_iff_eq] at h
  obtain ⟨⟨a⟩⟩ := a
  obtain ⟨⟨b⟩⟩ := b
  have h : a = b := h
  rw [h]
theorem sameS_den {x y : CV} {ax ay : AV} {u v : Value} (h : sameS x y = true) (h1 : Rel τ x ax) (h2 : Rel τ y ay) (d1 : Den ρ ax u) (d2 : Den ρ ay v) : u = v := by
  unfold sameS at h
  split at h <;> try simp only [Bool.and_eq_true, Bool.false_eq_true] at h
  · split at h
    · exact detS_den (c := .bool true) rfl h1 h2 d1 d2
    · exact detS_den (c := .bool false) rfl h1 h2 d1 d2
    · cases h
  · rename_i k a k' b
    have e := ikEq_eq h.1
    have e2 := h.2
    rw [eqI_eq, decide_eq_true_eq] at e2
    subst e; subst e2
    exact detS_den (c := .int k a) rfl h1 h2 d1 d2
  · have e := fkEq_eq h.1
    have e2 := Nat.eq_of_beq_eq_true h.2
    subst e; subst e2
    exact detS_den rfl h1 h2 d1 d2
  · have e := fkEq_eq h.1
    have e2 := Nat.eq_of_beq_eq_true h.2.1
    have e3 := Nat.eq_of_beq_eq_true h.2.2
    subst e; subst e2; subst e3
    exact detS_den rfl h1 h2 d1 d2
  · have e := bytes_eq h
    subst e
    exact detS_den rfl h1 h2 d1 d2
  · exact detS_den (c := .nils) rfl h1 h2 d1 d2
  · exact detS_den (c := .nilp) rfl h1 h2 d1 d2
  · exact detS_den (c := .nilf) rfl h1 h2 d1 d2
  · exact detS_den (c := .nilm) rfl h1 h2 d1 d2
  · have e := Nat.eq_of_beq_eq_true h.1
    have e2 := Nat.eq_of_beq_eq_true h.2
    subst e; subst e2
    exact detS_den rfl h1 h2 d1 d2
  · have e := Nat.eq_of_beq_eq_true h
    subst e
    exact detS_den rfl h1 h2 d1 d2
  · have e := Nat.eq_of_beq_eq_true h.1
    have e2 := Nat.eq_of_beq_eq_true h.2.1
    have e3 := Nat.eq_of_beq_eq_true h.2.2.1
    have e4 := Nat.eq_of_beq_eq_true h.2.2.2.1
    subst e; subst e2; subst e3; subst e4
    exact detS_den (by simpa [detS] using h.2.2.2.2) h1 h2 d1 d2
  · have e := Nat.eq_of_beq_eq_true h.1
    have e2 := Nat.eq_of_beq_eq_true h.2.1
    have e3 := Nat.eq_of_beq_eq_true h.2.2.1
    have e4 := Nat.eq_of_beq_eq_true h.2.2.2.1
    subst e; subst e2; subst e3; subst e4
    have hl := h.2.2.2.2
    simp only [Nat.blt_eq] at hl
    simp only [Rel] at h1 h2
    obtain ⟨c1, T1, rfl, g1, g2, g3, g4⟩ := h1
    obtain ⟨c2, T2, rfl, k1, k2, k3, k4⟩ := h2
    rw [g2] at k2
    cases k2
    have : c1 = c2 := Nat.eq_of_mul_eq_mul_right g4 (by omega)
    subst this
    simp only [Den] at d1 d2
    rcases d1.2.2 with e1 | ⟨e1, _⟩
    · rcases d2.2.2 with e2 | ⟨e2, _⟩
      · rw [e1, e2]
      · omega
    · omega
  · have e := Nat.eq_of_beq_eq_true h
    subst e
    simp only [Rel, Rels] at h1 h2
    obtain ⟨xs, rfl, rfl⟩ := h1
    obtain ⟨ys, rfl, rfl⟩ := h2
    simp only [Den, Dens] at d1 d2
    obtain ⟨us, rfl, rfl⟩ := d1
    obtain ⟨vs, rfl, rfl⟩ := d2
    rfl
theorem sameL_den : ∀ {x y : List CV} {ax ay : List AV} {u v : List Value}, sameL x y = true → Rels τ x ax → Rels τ y ay → Dens ρ ax u → Dens ρ ay v → u = v
  | [], [], _, _, _, _, _, h1, h2, d1, d2 => by
    simp only [Rels] at h1 h2
    subst h1; subst h2
    simp only [Dens] at d1 d2
    rw [d1, d2]
  | [], _ :: _, _, _, _, _, h, _, _, _, _ => by simp [sameL] at h
  | _ :: _, [], _, _, _, _, h, _, _, _, _ => by simp [sameL] at h
  | a :: x, b :: y, ax, ay, u, v, h, h1, h2, d1, d2 => by
    simp only [sameL, Bool.and_eq_true] at h
    simp only [Rels] at h1 h2
    obtain ⟨a', r, rfl, g1, g2⟩ := h1
    obtain ⟨b', q, rfl, k1, k2⟩ := h2
    simp only [Dens] at d1 d2
    obtain ⟨u', us', rfl, e1, e2⟩ := d1
    obtain ⟨v', vs', rfl, f1, f2⟩ := d2
    rw [sameS_den h.1 g1 k1 e1 f1, sameL_den h.2 g2 k2 e2 f2]
theorem sameA_den {x y : CV} {ax ay : AV} {u v : Value} (h : sameA x y = true) (h1 : Rel τ x ax) (h2 : Rel τ y ay) (d1 : Den ρ ax u) (d2 : Den ρ ay v) : u = v := by
  unfold sameA at h
  split at h
  · simp only [Rel] at h1 h2
    obtain ⟨xs, rfl, h1⟩ := h1
    obtain ⟨ys, rfl, h2⟩ := h2
    simp only [Den] at d1 d2
    obtain ⟨us, rfl, d1⟩ := d1
    obtain ⟨vs, rfl, d2⟩ := d2
    rw [sameL_den h h1 h2 d1 d2]
  · simp only [Bool.and_eq_true] at h
    have e := Nat.eq_of_beq_eq_true h.1
    subst e
    simp only [Rel] at h1 h2
    obtain ⟨xs, rfl, h1⟩ := h1
    obtain ⟨ys, rfl, h2⟩ := h2
    simp only [Den] at d1 d2
    obtain ⟨us, rfl, d1⟩ := d1
    obtain ⟨vs, rfl, d2⟩ := d2
    rw [sameL_den h.2 h1 h2 d1 d2]
  · exact sameS_den h h1 h2 d1 d2
theorem sameAL_den : ∀ {x y : List CV} {ax ay : List AV} {u v : List Value}, sameAL x y = true → Rels τ x ax → Rels τ y ay → Dens ρ ax u → Dens ρ ay v → u = v
  | [], [], _, _, _, _, _, h1, h2, d1, d2 => by
    simp only [Rels] at h1 h2
    subst h1; subst h2
    simp only [Dens] at d1 d2
    rw [d1, d2]
  | [], _ :: _, _, _, _, _, h, _, _, _, _ => by simp [sameAL] at h
  | _ :: _, [], _, _, _, _, h, _, _, _, _ => by simp [sameAL] at h
  | a :: x, b :: y, ax, ay, u, v, h, h1, h2, d1, d2 => by
    simp only [sameAL, Bool.and_eq_true] at h
    simp only [Rels] at h1 h2
    obtain ⟨a', r, rfl, g1, g2⟩ := h1
    obtain ⟨b', q, rfl, k1, k2⟩ := h2
    simp only [Dens] at d1 d2
    obtain ⟨u', us', rfl, e1, e2⟩ := d1
    obtain ⟨v', vs', rfl, f1, f2⟩ := d2
    rw [sameA_den h.1 g1 k1 e1 f1, sameAL_den h.2 g2 k2 e2 f2]
theorem sameD_den {x y : CV} {ax ay : AV} {u v : Value} (h : sameD x y = true) (h1 : Rel τ x ax) (h2 : Rel τ y ay) (d1 : Den ρ ax u) (d2 : Den ρ ay v) : u = v := by
  unfold sameD at h
  split at h
  · simp only [Rel] at h1 h2
    obtain ⟨xs, rfl, h1⟩ := h1
    obtain ⟨ys, rfl, h2⟩ := h2
    simp only [Den] at d1 d2
    obtain ⟨us, rfl, d1⟩ := d1
    obtain ⟨vs, rfl, d2⟩ := d2
    rw [sameL_den h h1 h2 d1 d2]
  · simp only [Rel] at h1 h2
    obtain ⟨xs, rfl, h1⟩ := h1
    obtain ⟨ys, rfl, h2⟩ := h2
    simp only [Den] at d1 d2
    obtain ⟨us, rfl, d1⟩ := d1
    obtain ⟨vs, rfl, d2⟩ := d2
    rw [sameAL_den h h1 h2 d1 d2]
  · simp only [Bool.and_eq_true] at h
    have e := Nat.eq_of_beq_eq_true h.1
    subst e
    simp only [Rel] at h1 h2
    obtain ⟨xs, rfl, h1⟩ := h1
    obtain ⟨ys, rfl, h2⟩ := h2
    simp only [Den] at d1 d2
    obtain ⟨us, rfl, d1⟩ := d1
    obtain ⟨vs, rfl, d2⟩ := d2
    rw [sameL_den h.2 h1 h2 d1 d2]
  · exact sameS_den h h1 h2 d1 d2

/-- The look, seen from the machine. -/
theorem rechk_still (hT : TOk P T) {all : List Oper} (hrc : RepC w0 L ρ τ s a w) : ∀ (ds : List Nat), rechk P T all s ds = true → stillAt P all.toArray ds a w
  | [], _, k, hk => by simp at hk
  | d :: ds, h, k, hk => by
    unfold rechk at h
    split at h
    · rename_i o ho
      rw [nthOp_eq] at ho
      have ho' : all.toArray[d]? = some o := by simpa using ho
      split at h
      · rename_i t ht
        split at h
        · rename_i x hx
          split at h
          · rename_i hs
            rcases List.mem_cons.1 hk with rfl | hk
            · have hst : evalC s (.tmp t) ≠ .any := fun e => by
                rw [e] at hs
                cases x <;> simp [sameD, sameS] at hs
              have htn : t < s.n := by
                unfold evalC at hst
                simp only at hst
                split at hst
                · rename_i hb; simpa [Nat.blt_eq] using hb
                · exact absurd rfl hst
              obtain ⟨ay, e1, e2⟩ := evalC_den hrc (.tmp t)
              have hsz : t < a.tmps.size := by
                obtain ⟨st, hg, hr⟩ := hrc
                have h1 : st.sl.length = s.n := hg.len
                have h2 : st.sl.length = a.tmps.size := by rw [hr.slots.len, Array.length_toList]
                exact h2 ▸ h1.symm ▸ htn
              refine ⟨o, t, ho', ht, hsz, ?_⟩
              have run : Region.wanted o (yielded all.toArray a.tmps) = true → evC P T s o = some x → YieldsAt P all.toArray w o (a.tmps.getD t undef) a := fun hw he => by
                obtain ⟨ax, v, g1, g2, g3⟩ := evC_ok hT he w0 L ρ τ a w hrc
                have : v = a.tmps.getD t undef := sameD_den hs g1 e1 g2 e2
                rw [← this]
                exact .inl ⟨hw, .inl (g3 w rfl)⟩
              unfold rdC at hx
              split at hx
              · rename_i hg
                exact run (by simp [Region.wanted, hg]) hx
              · rename_i j want hg
                split at hx
                · rename_i u hu
                  have hy := yielded_of (tmps := a.tmps) hu
                  split at hx
                  · rename_i hgv
                    refine run ?_ hx
                    unfold guardV at hgv
                    split at hgv
                    · rename_i he
                      rw [evalC_bool hrc he] at hy
                      simp only [Option.some.injEq] at hgv
                      subst hgv
                      simp only at hy
                      simp [Region.wanted, hg, hy]
                    · rename_i he
                      rw [evalC_bool hrc he] at hy
                      simp only [Option.some.injEq, Bool.not_eq_true'] at hgv
                      subst hgv
                      simp only at hy
                      simp [Region.wanted, hg, hy]
                    · cases hgv
                    · cases hgv
                  · rename_i hgv
                    cases hx
                    have hun : a.tmps.getD t undef = undef := by
                      have : (Value.tuple #[]) = a.eval (.tmp t) := sameD_den (τ := τ) (ρ := ρ) (x := .tup []) (ax := .tup []) hs (by simp [Rel, Rels]) e1 (by simp only [Den]; exact ⟨[], rfl, by simp [Dens]⟩) e2
                      exact this.symm
                    refine .inr ⟨?_, hun⟩
                    unfold guardV at hgv
                    split at hgv
                    · rename_i he
                      rw [evalC_bool hrc he] at hy
                      simp only [Option.some.injEq] at hgv
                      subst hgv
                      simp only at hy
                      simp [Region.wanted, hg, hy]
                    · rename_i he
                      rw [evalC_bool hrc he] at hy
                      simp only [Option.some.injEq, Bool.not_eq_false'] at hgv
                      subst hgv
                      simp only at hy
                      simp [Region.wanted, hg, hy]
                    · rename_i he
                      have hy2 : yielded all.toArray a.tmps j = none := by
                        rw [hy]
                        rcases evalC_undef hrc he with e | e <;> rw [e] <;> rfl
                      simp [Region.wanted, hg, hy2]
                    · cases hgv
                  · cases hx
                · cases hx
            · exact rechk_still hT hrc ds h k hk
          · cases h
        · cases h
      · cases h
    · cases h

/-- What hangs on no memory yields the same in every world. -/
theorem blind_all (hT : TOk P T) {all : List Oper} {o : Oper} {v : Value} (hb : blindC P T s o = true) (hrc : RepC w0 L ρ τ s a w) (hy : YieldsAt P all.toArray w o v a) : Go.Yields P all.toArray o v a := by
  unfold blindC at hb
  split at hb
  · rename_i hm
    have hbl : blindB o = true := by
      unfold isMove at hm
      unfold blindB
      split at hm <;> simp_all
    exact blind_yields hbl hy
  · split at hb
    · cases hb
    · rename_i hg
      split at hb
      · rename_i x hx
        obtain ⟨st, hgam, hr⟩ := hrc
        have hall : ∀ w', ∃ ax u, Rel τ x ax ∧ Den ρ ax u ∧ (execOp a.eval o).run P w' = .ok (.value u) w' := fun w' => by
          obtain ⟨ax, u, h1, h2, h3⟩ := evC_ok hT hx w' _ ρ τ a w' (dead_rep hgam hr w')
          exact ⟨ax, u, h1, h2, h3 w' rfl⟩
        obtain ⟨ax, u, h1, h2, h3⟩ := hall w
        have hv : v = u := by
          rcases hy with ⟨_, h | ⟨h, _⟩ | ⟨f, args, h, _⟩⟩ | ⟨hw, _⟩
          · rw [h3] at h; simp only [Result.ok.injEq, Next.value.injEq, and_true] at h; exact h.symm
          · rw [h3] at h; cases h
          · rw [h3] at h; cases h
          · simp [Region.wanted, hg] at hw
        subst hv
        refine .inl ⟨by simp [Region.wanted, hg], fun w' => ?_⟩
        obtain ⟨ay, u', k1, k2, k3⟩ := hall w'
        rw [k3, det_den hb k1 h1 k2 h2]
      · cases hb

/-- One operation of a plan, plain: the world stays. -/
theorem pick_plain (hT : TOk P T) {stl : FuncId → Bool} {call : CallF} (hcall : CallOk P stl call) {all : List Oper} {o : Oper} {k : Nat} {f : CSt → Option (List CSt)} {LL : List CSt} {K : Act → Prop} (ho : all.toArray[k]? = some o) (hp : plainC T stl o = true)
    (h : bindL (pickL P T stl call all o s) f = some LL) (hrc : RepC w0 L ρ τ s a w) (hK : ∀ s1 La a', f s1 = some La → (∀ b ∈ La, b ∈ LL) → RepC w0 L ρ τ s1 a' w → K a') : stOp P all.toArray w k K a := by
  unfold pickL at h
  split at h
  · rename_i hst
    obtain ⟨s1, h1, La, h2, h3⟩ := oneL_mem h
    have skip : Region.wanted o (yielded all.toArray a.tmps) = false → stepK s o.dst (.tup []) = some s1 → stOp P all.toArray w k K a := fun hw hs => by
      refine YieldsAt.stOp (v := undef) ho (.inr ⟨hw, rfl⟩) (hK s1 La _ h2 h3 ?_)
      exact undef_rep hrc hs
    have run : Region.wanted o (yielded all.toArray a.tmps) = true → stillL stl call s o = some s1 → stOp P all.toArray w k K a := fun hwant h1 => by
      unfold stillL at h1
      split at h1
      · rename_i f' args hc
        split at h1
        · rename_i g
          split at h1
          · rename_i hsg
            split at h1
            · rename_i x hp' c' hx
              split at h1
              · rename_i v hv
                obtain ⟨cvs, e1, e23⟩ := callL_enter (f := .func g) (caps := []) hcall rfl (by simpa using hx) hrc
                have hcv : cvs = [] := by
                  simp only [Act.eval] at e1
                  cases cvs with
                  | nil => rfl
                  | cons y ys => simp at e1
                subst hcv
                have hy : YieldsAt P all.toArray w o v a := by
                  refine .inl ⟨hwant, ?_⟩
                  rcases e23 with ⟨e2, e3⟩ | ⟨u, e2, e3⟩
                  · refine .inr (.inr ⟨g, _, enter_run hc e1 e2 w, e3.mono fun e w' ⟨u, he, p, hpm, r, q, ax, k1, k2, _, k4⟩ => ?_⟩)
                    simp at hpm
                    subst hpm
                    exact ⟨by rw [he, toV_den hv k1 k2], k4 hsg⟩
                  · obtain ⟨p, hpm, r, q, ax, k1, k2, _, k4⟩ := e3
                    simp at hpm
                    subst hpm
                    exact .inl (by rw [call_run hc e1, e2, toV_den hv k1 k2])
                refine hy.stOp ho (hK s1 La _ h2 h3 ?_)
                have hrel : ∃ ax, Rel τ x ax ∧ Den ρ ax v := by
                  have : ∀ c : CV, ∀ v, toVS c = some v → ∃ ax, Rel τ c ax ∧ Den ρ ax v := fun c v hc => by
                    cases c <;> simp only [toVS, Option.some.injEq, reduceCtorEq] at hc <;> subst hc <;> exact ⟨_, by simp only [Rel]; rfl, by simp only [Den]⟩
                  have hl : ∀ (cs : List CV) (vs : List Value), toVSs cs = some vs → ∃ xs, Rels τ cs xs ∧ Dens ρ xs vs := by
                    intro cs
                    induction cs with
                    | nil => intro vs h; simp only [toVSs, Option.some.injEq] at h; subst h; exact ⟨[], by simp [Rels], by simp [Dens]⟩
                    | cons c cs ih =>
                      intro vs h
                      simp only [toVSs] at h
                      split at h
                      · rename_i u hu
                        split at h
                        · rename_i us hus
                          cases h
                          obtain ⟨xs, h1, h2⟩ := ih us hus
                          obtain ⟨ax, h3, h4⟩ := this c u hu
                          exact ⟨ax :: xs, by simp only [Rels]; exact ⟨_, _, rfl, h3, h1⟩, by simp only [Dens]; exact ⟨_, _, rfl, h4, h2⟩⟩
                        · cases h
                      · cases h
                  unfold toV at hv
                  split at hv
                  · rename_i cs
                    split at hv
                    · rename_i vs hvs
                      cases hv
                      obtain ⟨xs, h1, h2⟩ := hl cs vs hvs
                      exact ⟨.agg xs, by simp only [Rel]; exact ⟨xs, rfl, h1⟩, by simp only [Den]; exact ⟨vs, rfl, h2⟩⟩
                    · cases hv
                  · rename_i cs
                    split at hv
                    · rename_i vs hvs
                      cases hv
                      obtain ⟨xs, h1, h2⟩ := hl cs vs hvs
                      exact ⟨.tup xs, by simp only [Rel]; exact ⟨xs, rfl, h1⟩, by simp only [Den]; exact ⟨vs, rfl, h2⟩⟩
                    · cases hv
                  · exact this _ _ hv
                obtain ⟨ax, r1, r2⟩ := hrel
                exact stepK_rep hrc r1 r2 h1
              · cases h1
            · cases h1
          · cases h1
        · cases h1
      · cases h1
    unfold stillG at h1
    split at h1
    · rename_i hg
      exact run (by simp [Region.wanted, hg]) h1
    · rename_i j want hg
      split at h1
      · rename_i t ht
        have hy := yielded_of (tmps := a.tmps) ht
        have hgv : ∀ b, guardV want (evalC s (.tmp t)) = some b → Region.wanted o (yielded all.toArray a.tmps) = b := fun b hb => by
          unfold guardV at hb
          split at hb
          · rename_i he
            rw [evalC_bool hrc he] at hy
            simp only [Option.some.injEq] at hb
            subst hb
            simp only at hy
            simp [Region.wanted, hg, hy]
          · rename_i he
            rw [evalC_bool hrc he] at hy
            simp only [Option.some.injEq] at hb
            subst hb
            simp only at hy
            simp [Region.wanted, hg, hy]
          · rename_i he
            simp only [Option.some.injEq] at hb
            subst hb
            have hy2 : yielded all.toArray a.tmps j = none := by
              rw [hy]
              rcases evalC_undef hrc he with e | e <;> rw [e] <;> rfl
            simp [Region.wanted, hg, hy2]
          · cases hb
        split at h1
        · rename_i hb; exact run (hgv _ hb) h1
        · rename_i hb; exact skip (hgv _ hb) h1
        · cases h1
      · cases h1
  · rename_i hst
    have he : effC T o = false := by
      rcases plain_cases hp with h0 | h0
      · exact h0
      · rw [h0] at hst; cases hst
    obtain ⟨l1, h1, h2⟩ := bindL_mem h
    have := opsL_still (Q := K) hT [o] s a l1 (by simp [he]) h1 hrc fun s' hs' a' hr' => by
      obtain ⟨La, g1, g2⟩ := h2 s' hs'
      exact hK s' La a' g1 g2 hr'
    unfold stOp
    simp only [ho]
    unfold wpStill at this
    split at this
    · rename_i hw; simp only [hw, if_true]; exact this
    · rename_i hw; simp only [hw]; exact this

/-- One operation of a plan, whatever it is. -/
theorem pick_any (hT : TOk P T) {stl : FuncId → Bool} {call : CallF} (hcall : CallOk P stl call) {all : List Oper} {o : Oper} {k : Nat} {f : CSt → Option (List CSt)} {LL : List CSt} {K : Act → World → Prop} {Q : Exit → Act → World → Prop} (ho : all.toArray[k]? = some o) (hp : plainC T stl o = false)
    (h : bindL (pickL P T stl call all o s) f = some LL) (hrc : RepC w0 L ρ τ s a w) (hK : ∀ s1 La r q a' w', f s1 = some La → (∀ b ∈ La, b ∈ LL) → RepC w0 L (ρ ++ r) (τ ++ q) s1 a' w' → K a' w') : wpOp P all.toArray Q k K a w := by
  unfold pickL at h
  split at h
  · rename_i hst
    unfold plainC at hp
    rw [hst] at hp
    simp at hp
  · obtain ⟨l1, h1, h2⟩ := bindL_mem h
    have hpost : ∀ s' ∈ l1, ∀ r q a' w', RepC w0 L (ρ ++ r) (τ ++ q) s' a' w' → K a' w' := fun s' hs' r q a' w' hr' => by
      obtain ⟨La, g1, g2⟩ := h2 s' hs'
      exact hK s' La r q a' w' g1 g2 hr'
    unfold wpOp
    simp only [ho]
    have run : ∀ l2, opL P T call s o = some l2 → (∀ s' ∈ l2, s' ∈ l1) → o.wp P a w K Q := fun l2 hl hsub =>
      Oper.wp_mono (fun a' w' ⟨⟨s1, hs1, r, q, h3⟩, _⟩ => hpost s1 (hsub s1 hs1) r q a' w' h3) (opL_sound hT hcall hl hrc Q)
    have run' : bindL (opL P T call s o) (opsL P T call all []) = some l1 → o.wp P a w K Q := fun hb => by
      obtain ⟨l2, g1, g2⟩ := bindL_mem hb
      refine run l2 g1 fun s' hs' => ?_
      obtain ⟨La, k1, k2⟩ := g2 s' hs'
      simp only [opsL, Option.some.injEq] at k1
      subst k1
      exact k2 s' (by simp)
    have skip : bindL (oneL (stepK s o.dst (.tup []))) (opsL P T call all []) = some l1 → K (a.put o.dst undef) w := fun hb => by
      obtain ⟨s1, g1, La, g2, g3⟩ := oneL_mem hb
      simp only [opsL, Option.some.injEq] at g2
      subst g2
      exact hpost s1 (g3 s1 (by simp)) [] [] _ w (by simpa using undef_rep hrc g1)
    unfold opsL at h1
    split at h1
    · rename_i hg
      rw [if_pos (by simp [Region.wanted, hg])]
      exact .inl (run' h1)
    · rename_i j want hg
      split at h1
      · rename_i t ht
        have hy := yielded_of (tmps := a.tmps) ht
        split at h1
        · rename_i hb
          rw [evalC_bool hrc hb] at hy
          simp only at hy
          split at h1
          · rw [if_pos (by simp [Region.wanted, hg, hy])]; exact .inl (run' h1)
          · rw [if_neg (by simp [Region.wanted, hg, hy])]; exact skip h1
        · rename_i hb
          rw [evalC_bool hrc hb] at hy
          simp only at hy
          split at h1
          · rw [if_pos (by simp [Region.wanted, hg, hy])]; exact .inl (run' h1)
          · rw [if_neg (by simp [Region.wanted, hg, hy])]; exact skip h1
        · rename_i hb
          have hy2 : yielded all.toArray a.tmps j = none := by
            rw [hy]
            rcases evalC_undef hrc hb with e | e <;> rw [e] <;> rfl
          rw [if_neg (by simp [Region.wanted, hg, hy2])]
          exact skip h1
        · cases h1
      · cases h1

/-- What a plan says, when it is done from here. -/
def PlanSays (P : Program) (T : List (Nat × TyI)) (stl : FuncId → Bool) (ops : Array Oper) (Q : Exit → Act → World → Prop) (f : Nat) (D : List Nat) (pd : Bool) (listed : Array Bool) (a : Act) (w : World) : Prop :=
  match pd with
  | false => wpAnyN P (plainCAt T stl ops) ops Q f D listed a w
  | true => ∃ ds, (∀ d ∈ D, d ∈ ds) ∧ stillAt P ops ds a w ∧ wpAnyN P (plainCAt T stl ops) ops Q f ds listed a w
/-- Behind an operation that may change the world. -/
theorem PlanSays.behind {stl : FuncId → Bool} {ops : Array Oper} {Q : Exit → Act → World → Prop} {f : Nat} {D : List Nat} {listed : Array Bool} {k : Nat} (hp : plainCAt T stl ops k = false) (h : PlanSays P T stl ops Q f (nextD T stl ops k D) (pendD T stl ops k D) listed a w) :
    ∃ ds, (∀ d ∈ D, waitsT ops ops.size k d = true ∨ d ∈ ds) ∧ stillAt P ops ds a w ∧ wpAnyN P (plainCAt T stl ops) ops Q f ds listed a w := by
  unfold nextD pendD at h
  rw [hp] at h
  simp only at h
  cases hw : waitedB ops k D with
  | nil =>
    rw [hw] at h
    refine ⟨[], fun d hd => ?_, fun d hd => by simp at hd, h⟩
    rcases waitedB_mem (ops := ops) (k := k) hd with h' | h'
    · exact .inl h'
    · rw [hw] at h'; simp at h'
  | cons e r =>
    rw [hw] at h
    obtain ⟨ds, h1, h2, h3⟩ := h
    refine ⟨ds, fun d hd => ?_, h2, h3⟩
    rcases waitedB_mem (ops := ops) (k := k) hd with h' | h'
    · exact .inl h'
    · rw [hw] at h'; exact .inr (h1 d h')
theorem PlanSays.plain {stl : FuncId → Bool} {ops : Array Oper} {Q : Exit → Act → World → Prop} {f : Nat} {D : List Nat} {listed : Array Bool} {k : Nat} (hp : plainCAt T stl ops k = true) (h : PlanSays P T stl ops Q f (nextD T stl ops k D) (pendD T stl ops k D) listed a w) :
    wpAnyN P (plainCAt T stl ops) ops Q f D listed a w := by
  unfold nextD pendD at h
  rw [hp] at h
  exact h

/-- Plan, run: every order. -/
theorem planL_sound (hT : TOk P T) {stl : FuncId → Bool} {call : CallF} (hcall : CallOk P stl call) {all : List Oper} {Q : Exit → Act → World → Prop} {LT : List CSt} {ρ0 : Plc} {τ0 : List Nat} (hsel : Region.noSelect all.toArray = true) (hQp : ∀ c a w, ¬ Q (.panic c) a w)
    (hQ : ∀ s' ∈ LT, ∀ r q a' w', RepC w0 L (ρ0 ++ r) (τ0 ++ q) s' a' w' → Q .normal a' w') : ∀ (p : PlanC) (m : Bool) (f : Nat) (listed : Array Bool) (D : List Nat) (pd : Bool) (r0 : Plc) (q0 : List Nat) (s : CSt) (a : Act) (w : World) (LL : List CSt), planCB T stl all.toArray p m f listed D pd = true → ClosedL all.toArray listed → planL P T stl call all p s = some LL → (∀ b ∈ LL, b ∈ LT) → RepC w0 L (ρ0 ++ r0) (τ0 ++ q0) s a w →
    (m = false → PlanSays P T stl all.toArray Q f D pd listed a w) ∧ (m = true → ∀ k ∈ keysC p, ∀ f', f = f' + 1 → stepN P (plainCAt T stl all.toArray) all.toArray Q f' D listed a w k)
  | .done, m, f, listed, D, pd, r0, q0, s, a, w, LL, hB, hc, h, hsub, hr => by
    refine ⟨fun _ => ?_, fun _ => by simp [keysC]⟩
    simp only [planCB, Bool.and_eq_true, List.isEmpty_iff, Bool.not_eq_true'] at hB
    obtain ⟨⟨_, rfl⟩, hB⟩ := hB
    simp only [planL, Option.some.injEq] at h
    subst h
    have := hQ s (hsub s (by simp)) r0 q0 a w hr
    cases f with
    | zero => exact ⟨hB, this⟩
    | succ f => exact ⟨fun _ => this, by rw [hB]; simp⟩
  | .fin, m, f, listed, D, pd, r0, q0, s, a, w, LL, hB, hc, h, hsub, hr => by
    refine ⟨fun hm => ?_, fun _ => by simp [keysC]⟩
    subst hm
    simp [planCB] at hB
  | .chk ds r, m, f, listed, D, pd, r0, q0, s, a, w, LL, hB, hc, h, hsub, hr => by
    refine ⟨fun _ => ?_, fun _ => by simp [keysC]⟩
    simp only [planCB, Bool.and_eq_true, Bool.not_eq_true', List.all_eq_true] at hB
    obtain ⟨⟨⟨_, rfl⟩, hD⟩, hB⟩ := hB
    simp only [planL] at h
    split at h
    case h_2 => cases h
    rename_i hck
    exact ⟨ds, fun d hd => by simpa using hD d hd, rechk_still hT hr ds hck, (planL_sound hT hcall hsel hQp hQ r false f listed ds false r0 q0 s a w LL hB hc h hsub hr).1 rfl⟩
  | .op k b r, m, 0, listed, D, pd, r0, q0, s, a, w, LL, hB, hc, h, hsub, hr => by simp [planCB] at hB
  | .alt k r p, m, 0, listed, D, pd, r0, q0, s, a, w, LL, hB, hc, h, hsub, hr => by simp [planCB] at hB
  | .two j k r, m, 0, listed, D, pd, r0, q0, s, a, w, LL, hB, hc, h, hsub, hr => by simp [planCB] at hB
  | .two j k r, m, 1, listed, D, pd, r0, q0, s, a, w, LL, hB, hc, h, hsub, hr => by simp [planCB] at hB
  | .two j k r, m, f + 2, listed, D, pd, r0, q0, s, a, w, LL, hB, hc, h, hsub, hr => by
    refine ⟨fun _ => ?_, fun _ => by simp [keysC]⟩
    simp only [planCB, Bool.and_eq_true, decide_eq_true_eq, Bool.not_eq_true', List.isEmpty_iff] at hB
    obtain ⟨⟨rfl, rfl⟩, ⟨⟨⟨⟨⟨⟨⟨⟨_, hjk⟩, htw⟩, hall⟩, hrj⟩, hrk⟩, hr1⟩, hr2⟩, hB⟩⟩ := hB
    have hrj : j ∈ Region.ready .any all.toArray listed := by simpa using hrj
    have hrk : k ∈ Region.ready .any all.toArray listed := by simpa using hrk
    simp only [planL] at h
    split at h
    case h_2 => cases h
    rename_i o u ho hu
    rw [nthOp_eq] at ho hu
    have ho' : all.toArray[j]? = some o := by simpa using ho
    have hu' : all.toArray[k]? = some u := by simpa using hu
    rw [ho', hu'] at htw
    simp only at htw
    have htw0 := htw
    unfold twoB at htw0
    simp only [Bool.and_eq_true] at htw0
    obtain ⟨f1, f2, _⟩ := htw0
    obtain ⟨z1, z2, z3⟩ := pick_fresh (P := P) (T := T) (s := s) (stl := stl) (call := call) (all := all) f1
    rw [z1] at h
    obtain ⟨s1, h1, La, h2, h3⟩ := oneL_mem h
    obtain ⟨y1, y2, y3⟩ := pick_fresh (P := P) (T := T) (s := s1) (stl := stl) (call := call) (all := all) f2
    rw [y1] at h2
    obtain ⟨s12, h4, Lb, h5, h6⟩ := oneL_mem h2
    have pj : plainCAt T stl all.toArray j = false := by simp [plainCAt, ho', z2]
    have pk : plainCAt T stl all.toArray k = false := by simp [plainCAt, hu', y2]
    have fin : ∀ r1 q1 a' w', RepC w0 L (ρ0 ++ r1) (τ0 ++ q1) s12 a' w' → wpAnyN P (plainCAt T stl all.toArray) all.toArray Q f [] ((listed.setIfInBounds j true).setIfInBounds k true) a' w' := fun r1 q1 a' w' h7 =>
      (planL_sound hT hcall hsel hQp hQ r false f _ [] false r1 q1 s12 a' w' Lb hB ((hc.set hrj).set (by rw [hr1]; simp)) h5 (fun b hb => hsub b (h3 b (h6 b hb))) h7).1 rfl
    have nil : ∀ {i : Nat} {a' : Act} {w' : World} {K : Prop}, K → ∃ ds : List Nat, (∀ d ∈ ([] : List Nat), waitsT all.toArray all.toArray.size i d = true ∨ d ∈ ds) ∧ stillAt P all.toArray ds a' w' ∧ (ds = [] ∧ K) := fun hK => ⟨[], by simp, fun d hd => by simp at hd, rfl, hK⟩
    have want : ∀ {x : Oper} {k' : Nat} {a' : Act} {w' : World} {K : Act → World → Prop}, all.toArray[k']? = some x → x.guard = none → x.wp P a' w' K Q → wpOp P all.toArray Q k' K a' w' := fun hx hg hw => by
      unfold wpOp
      simp only [hx]
      rw [if_pos (by simp [Region.wanted, hg])]
      exact .inl hw
    show wpAnyN P (plainCAt T stl all.toArray) all.toArray Q (f + 2) [] listed a w
    refine ⟨fun h0 => (by rw [h0] at hrj; cases hrj), fun i hi => ?_⟩
    have hij : i = j ∨ i = k := by
      have := List.all_eq_true.1 hall i hi
      simpa using this
    rcases hij with rfl | rfl
    · refine ⟨fun _ => want ho' z3 ?_, fun hp => (by rw [pj] at hp; cases hp)⟩
      refine Oper.wp_mono (fun a' w' ⟨⟨r1, q1, h7⟩, _⟩ => ?_) (opC_sound hT h1 hr Q)
      refine ⟨[], by simp, fun d hd => by simp at hd, fun h0 => (by rw [hr1] at h0; cases h0), fun i' hi' => ?_⟩
      rw [hr1] at hi'
      obtain rfl : i' = k := by simpa using hi'
      refine ⟨fun _ => want hu' y3 ?_, fun hp => (by rw [pk] at hp; cases hp)⟩
      refine Oper.wp_mono (fun a'' w'' ⟨⟨r2, q2, h8⟩, _⟩ => ?_) (opC_sound hT h4 h7 Q)
      exact ⟨[], by simp, fun d hd => by simp at hd, fin (r0 ++ r1 ++ r2) (q0 ++ q1 ++ q2) a'' w'' (by simpa using h8)⟩
    · refine ⟨fun _ => want hu' y3 ?_, fun hp => (by rw [pk] at hp; cases hp)⟩
      refine Oper.wp_mono (fun a' w' ⟨_, h7⟩ => ?_) (fresh_two (I := fun _ _ => True) (K := fun a' w' => wpAnyN P (plainCAt T stl all.toArray) all.toArray Q f [] ((listed.setIfInBounds j true).setIfInBounds i true) a' w') (Q := Q) hT htw h1 h4 hr (.inr fun _ _ => trivial) fun r1 q1 a' w' h8 => fin (r0 ++ r1) (q0 ++ q1) a' w' (by simpa using h8))
      refine ⟨[], by simp, fun d hd => by simp at hd, fun h0 => (by rw [hr2] at h0; cases h0), fun i' hi' => ?_⟩
      rw [hr2] at hi'
      obtain rfl : i' = j := by simpa using hi'
      refine ⟨fun _ => want ho' z3 ?_, fun hp => (by rw [pj] at hp; cases hp)⟩
      refine Oper.wp_mono (fun a'' w'' h8 => ?_) h7
      rw [Array.setIfInBounds_comm _ _ (fun e => by rw [e, Nat.beq_refl] at hjk; cases hjk)]
      exact ⟨[], by simp, fun d hd => by simp at hd, h8⟩
  | .twoD j k ds r, m, 0, listed, D, pd, r0, q0, s, a, w, LL, hB, hc, h, hsub, hr => by simp [planCB] at hB
  | .twoD j k ds r, m, 1, listed, D, pd, r0, q0, s, a, w, LL, hB, hc, h, hsub, hr => by simp [planCB] at hB
  | .twoD j k ds r, m, f + 2, listed, D, pd, r0, q0, s, a, w, LL, hB, hc, h, hsub, hr => by
    refine ⟨fun _ => ?_, fun _ => by simp [keysC]⟩
    simp only [planCB, Bool.and_eq_true, decide_eq_true_eq, Bool.not_eq_true', List.all_eq_true] at hB
    obtain ⟨⟨rfl, hD⟩, ⟨⟨⟨⟨⟨⟨⟨⟨_, hjk⟩, htw⟩, hall⟩, hrj⟩, hrk⟩, hr1⟩, hr2⟩, hB⟩⟩ := hB
    have hrj : j ∈ Region.ready .any all.toArray listed := by simpa using hrj
    have hrk : k ∈ Region.ready .any all.toArray listed := by simpa using hrk
    simp only [planL] at h
    split at h
    case h_2 => cases h
    rename_i o u ho hu
    rw [nthOp_eq] at ho hu
    have ho' : all.toArray[j]? = some o := by simpa using ho
    have hu' : all.toArray[k]? = some u := by simpa using hu
    rw [ho', hu'] at htw
    simp only at htw
    have htw0 := htw
    unfold twoB at htw0
    simp only [Bool.and_eq_true] at htw0
    obtain ⟨f1, f2, _⟩ := htw0
    obtain ⟨z1, z2, z3⟩ := pick_fresh (P := P) (T := T) (s := s) (stl := stl) (call := call) (all := all) f1
    obtain ⟨y1, y2, y3⟩ := pick_fresh (P := P) (T := T) (s := s) (stl := stl) (call := call) (all := all) f2
    rw [y1] at h
    obtain ⟨s2, hu2, Lz, hz, hzs⟩ := oneL_mem h
    try simp only at hz
    split at hz
    case h_2 => cases hz
    rename_i hc2
    rw [z1] at hz
    obtain ⟨s1, h1, La, h2, h3⟩ := oneL_mem hz
    try simp only at h2
    split at h2
    case h_2 => cases h2
    rename_i hc1
    rw [(pick_fresh (P := P) (T := T) (s := s1) (stl := stl) (call := call) (all := all) f2).1] at h2
    obtain ⟨s12, h4, Lb, h5, h6⟩ := oneL_mem h2
    try simp only at h5
    split at h5
    case h_2 => cases h5
    rename_i hc12
    have kD : ∀ {i : Nat} {s' : CSt} {r q : _} {a' : Act} {w' : World} {K : Prop}, RepC w0 L r q s' a' w' → rechk P T all s' ds = true → K → (∀ d ∈ D, waitsT all.toArray all.toArray.size i d = true ∨ d ∈ ds) ∧ stillAt P all.toArray ds a' w' ∧ K := fun h7 hck hK => ⟨fun d hd => .inr (by simpa using hD d hd), rechk_still hT h7 ds hck, hK⟩
    have kS : ∀ {i : Nat} {s' : CSt} {r q : _} {a' : Act} {w' : World} {K : Prop}, RepC w0 L r q s' a' w' → rechk P T all s' ds = true → K → (∀ d ∈ ds, waitsT all.toArray all.toArray.size i d = true ∨ d ∈ ds) ∧ stillAt P all.toArray ds a' w' ∧ K := fun h7 hck hK => ⟨fun d hd => .inr hd, rechk_still hT h7 ds hck, hK⟩
    have pj : plainCAt T stl all.toArray j = false := by simp [plainCAt, ho', z2]
    have pk : plainCAt T stl all.toArray k = false := by simp [plainCAt, hu', y2]
    have fin : ∀ r1 q1 a' w', RepC w0 L (ρ0 ++ r1) (τ0 ++ q1) s12 a' w' → wpAnyN P (plainCAt T stl all.toArray) all.toArray Q f ds ((listed.setIfInBounds j true).setIfInBounds k true) a' w' := fun r1 q1 a' w' h7 =>
      (planL_sound hT hcall hsel hQp hQ r false f _ ds false r1 q1 s12 a' w' Lb hB ((hc.set hrj).set (by rw [hr1]; simp)) h5 (fun b hb => hsub b (hzs b (h3 b (h6 b hb)))) h7).1 rfl
    have want : ∀ {x : Oper} {k' : Nat} {a' : Act} {w' : World} {K : Act → World → Prop}, all.toArray[k']? = some x → x.guard = none → x.wp P a' w' K Q → wpOp P all.toArray Q k' K a' w' := fun hx hg hw => by
      unfold wpOp
      simp only [hx]
      rw [if_pos (by simp [Region.wanted, hg])]
      exact .inl hw
    show wpAnyN P (plainCAt T stl all.toArray) all.toArray Q (f + 2) D listed a w
    refine ⟨fun h0 => (by rw [h0] at hrj; cases hrj), fun i hi => ?_⟩
    have hij : i = j ∨ i = k := by
      have := hall i hi
      simpa using this
    rcases hij with rfl | rfl
    · refine ⟨fun _ => want ho' z3 ?_, fun hp => (by rw [pj] at hp; cases hp)⟩
      refine Oper.wp_mono (fun a' w' ⟨⟨r1, q1, h7⟩, _⟩ => ?_) (opC_sound hT h1 hr Q)
      refine ⟨ds, kD h7 hc1 ⟨fun h0 => (by rw [hr1] at h0; cases h0), fun i' hi' => ?_⟩⟩
      rw [hr1] at hi'
      obtain rfl : i' = k := by simpa using hi'
      refine ⟨fun _ => want hu' y3 ?_, fun hp => (by rw [pk] at hp; cases hp)⟩
      refine Oper.wp_mono (fun a'' w'' ⟨⟨r2, q2, h8⟩, _⟩ => ?_) (opC_sound hT h4 h7 Q)
      exact ⟨ds, kS h8 hc12 (fin (r0 ++ r1 ++ r2) (q0 ++ q1 ++ q2) a'' w'' (by simpa using h8))⟩
    · refine ⟨fun _ => want hu' y3 ?_, fun hp => (by rw [pk] at hp; cases hp)⟩
      refine Oper.wp_mono (fun a' w' ⟨hst, h7⟩ => ?_) (fresh_two (I := fun a' w' => stillAt P all.toArray ds a' w') (K := fun a' w' => stillAt P all.toArray ds a' w' ∧ wpAnyN P (plainCAt T stl all.toArray) all.toArray Q f ds ((listed.setIfInBounds j true).setIfInBounds i true) a' w') (Q := Q) hT htw h1 h4 hr (.inl (Oper.wp_mono (fun a' w' ⟨⟨_, _, h9⟩, _⟩ => rechk_still hT h9 ds hc2) (opC_sound hT hu2 hr Q))) fun r1 q1 a' w' h8 => ⟨rechk_still hT h8 ds hc12, fin (r0 ++ r1) (q0 ++ q1) a' w' (by simpa using h8)⟩)
      refine ⟨ds, fun d hd => .inr (by simpa using hD d hd), hst, fun h0 => (by rw [hr2] at h0; cases h0), fun i' hi' => ?_⟩
      rw [hr2] at hi'
      obtain rfl : i' = j := by simpa using hi'
      refine ⟨fun _ => want ho' z3 ?_, fun hp => (by rw [pj] at hp; cases hp)⟩
      refine Oper.wp_mono (fun a'' w'' ⟨h9, h8⟩ => ?_) h7
      rw [Array.setIfInBounds_comm _ _ (fun e => by rw [e, Nat.beq_refl] at hjk; cases hjk)]
      exact ⟨ds, fun d hd => .inr hd, h9, h8⟩
  | .op k b r, m, f + 1, listed, D, pd, r0, q0, s, a, w, LL, hB, hc, h, hsub, hr => by
    refine ⟨fun _ => ?_, fun _ => by simp [keysC]⟩
    simp only [planCB, Bool.and_eq_true, Bool.or_eq_true, Bool.not_eq_true'] at hB
    obtain ⟨⟨⟨_, rfl⟩, hap⟩, hB⟩ := hB
    simp only [planL] at h
    split at h
    case h_2 => cases h
    rename_i o ho
    rw [nthOp_eq] at ho
    have ho' : all.toArray[k]? = some o := by simpa using ho
    have hap := apartD_out ho' hap
    have hbind : bindL (pickL P T stl call all o s) (planL P T stl call all r) = some LL ∧ (b = true → blindC P T s o = true) := by
      cases b with
      | true =>
        simp only at h
        split at h
        · rename_i hbl; exact ⟨h, fun _ => hbl⟩
        · cases h
      | false => exact ⟨h, fun h => by cases h⟩
    obtain ⟨h, hbl⟩ := hbind
    show wpAnyN P (plainCAt T stl all.toArray) all.toArray Q (f + 1) D listed a w
    rcases hB with ⟨ht, hB⟩ | ⟨⟨_, ht⟩, hB⟩
    · have rest : k ∈ Region.ready .any all.toArray listed → ∀ s1 La r1 q1 a' w', planL P T stl call all r s1 = some La → (∀ b ∈ La, b ∈ LL) → RepC w0 L (ρ0 ++ r1) (τ0 ++ q1) s1 a' w' → PlanSays P T stl all.toArray Q f (nextD T stl all.toArray k D) (pendD T stl all.toArray k D) (listed.setIfInBounds k true) a' w' := fun hrd s1 La r1 q1 a' w' h1 h2 h3 =>
        (planL_sound hT hcall hsel hQp hQ r false f _ _ _ r1 q1 s1 a' w' La hB (hc.set hrd) h1 (fun b hb => hsub b (h2 b hb)) h3).1 rfl
      have hstep : k ∈ Region.ready .any all.toArray listed → stepN P (plainCAt T stl all.toArray) all.toArray Q f D listed a w k := fun hrd => by
        refine ⟨fun hp => ?_, fun hp => ?_⟩
        · have hp' : plainC T stl o = false := by simpa [plainCAt, ho'] using hp
          exact pick_any hT hcall ho' hp' h hr fun s1 La r1 q1 a' w' g1 g2 g3 => (rest hrd s1 La (r0 ++ r1) (q0 ++ q1) a' w' g1 g2 (by rw [← List.append_assoc, ← List.append_assoc]; exact g3)).behind hp
        · have hp' : plainC T stl o = true := by simpa [plainCAt, ho'] using hp
          exact pick_plain hT hcall ho' hp' h hr fun s1 La a' g1 g2 g3 => (rest hrd s1 La r0 q0 a' w g1 g2 g3).plain hp
      unfold takeC at ht
      simp only [ho', Bool.or_eq_true, Bool.and_eq_true, decide_eq_true_eq] at ht
      rcases ht with ⟨_, ht⟩ | ⟨⟨⟨hrd, hfr⟩, hpl⟩, hbw⟩
      · refine ⟨fun h0 => (by rw [ht] at h0; cases h0), fun i hi => ?_⟩
        rw [ht] at hi
        have hik : i = k := by simpa using hi
        subst hik
        exact hstep (by rw [ht]; simp)
      · have hrd : k ∈ Region.ready .any all.toArray listed := by simpa using hrd
        have hpat : plainCAt T stl all.toArray k = true := by simp [plainCAt, ho', hpl]
        obtain ⟨v, hy, hK⟩ := yieldsAt_of_stOp ho' ((hstep hrd).2 hpat)
        refine firstN ho' (Region.noSelect_spec hsel) hQp hpat (bl := b) f D D listed a w hc (Region.free_spec ho' hfr) (fun d hd => hd) hap ?_ hrd hy hK
        rcases hbw with hb | hb
        · exact .inl ⟨hb, blind_all hT (hbl hb) hr hy⟩
        · refine .inr (.inl fun j hj hun hpj => ?_)
          rw [List.all_eq_true] at hb
          have := hb j (List.mem_range.2 hj)
          simp only [Bool.or_eq_true] at this
          rcases this with (h1 | h1) | h1
          · rw [hun] at h1; cases h1
          · rw [hpj] at h1; cases h1
          · exact h1
    · unfold takeR at ht
      simp only [ho', Bool.and_eq_true] at ht
      obtain ⟨⟨⟨hrd, hfr⟩, hpl⟩, hself⟩ := ht
      have hrd : k ∈ Region.ready .any all.toArray listed := by simpa using hrd
      have hpat : plainCAt T stl all.toArray k = true := by simp [plainCAt, ho', hpl]
      have hst : stOp P all.toArray w k (fun a' => wpAnyN P (plainCAt T stl all.toArray) all.toArray Q f (k :: D) (listed.setIfInBounds k true) a' w) a :=
        pick_plain hT hcall ho' hpl h hr fun s1 La a' g1 g2 g3 => (planL_sound hT hcall hsel hQp hQ r false f _ _ _ r0 q0 s1 a' w La hB (hc.set hrd) g1 (fun b hb => hsub b (g2 b hb)) g3).1 rfl
      obtain ⟨v, hy, hK⟩ := yieldsAt_of_stOp ho' hst
      split at hself
      · rename_i t hdst
        exact firstN ho' (Region.noSelect_spec hsel) hQp hpat (bl := false) f D (k :: D) listed a w hc (Region.free_spec ho' hfr) (fun d hd => List.mem_cons_of_mem _ hd) hap (.inr (.inr ⟨by simp, t, hdst, by simpa using hself⟩)) hrd hy hK
      · cases hself
  | .alt k r p, m, f + 1, listed, D, pd, r0, q0, s, a, w, LL, hB, hc, h, hsub, hr => by
    simp only [planCB, Bool.and_eq_true, Bool.or_eq_true, Bool.not_eq_true'] at hB
    obtain ⟨⟨⟨⟨⟨rfl, hall⟩, hne⟩, hrd⟩, hB1⟩, hB2⟩ := hB
    have hrd : k ∈ Region.ready .any all.toArray listed := by simpa using hrd
    simp only [planL] at h
    split at h
    case h_2 => cases h
    rename_i o ho
    rw [nthOp_eq] at ho
    have ho' : all.toArray[k]? = some o := by simpa using ho
    split at h
    case h_2 => cases h
    rename_i L1 h1
    split at h
    case h_2 => cases h
    rename_i L2 h2
    cases h
    have rest : ∀ s1 La r1 q1 a' w', planL P T stl call all r s1 = some La → (∀ b ∈ La, b ∈ L1) → RepC w0 L (ρ0 ++ r1) (τ0 ++ q1) s1 a' w' → PlanSays P T stl all.toArray Q f (nextD T stl all.toArray k D) (pendD T stl all.toArray k D) (listed.setIfInBounds k true) a' w' := fun s1 La r1 q1 a' w' g1 g2 g3 =>
      (planL_sound hT hcall hsel hQp hQ r false f _ _ _ r1 q1 s1 a' w' La hB1 (hc.set hrd) g1 (fun b hb => hsub b (by simp [g2 b hb])) g3).1 rfl
    have hstep : stepN P (plainCAt T stl all.toArray) all.toArray Q f D listed a w k := by
      refine ⟨fun hp => ?_, fun hp => ?_⟩
      · have hp' : plainC T stl o = false := by simpa [plainCAt, ho'] using hp
        exact pick_any hT hcall ho' hp' h1 hr fun s1 La r1 q1 a' w' g1 g2 g3 => (rest s1 La (r0 ++ r1) (q0 ++ q1) a' w' g1 g2 (by rw [← List.append_assoc, ← List.append_assoc]; exact g3)).behind hp
      · have hp' : plainC T stl o = true := by simpa [plainCAt, ho'] using hp
        exact pick_plain hT hcall ho' hp' h1 hr fun s1 La a' g1 g2 g3 => (rest s1 La r0 q0 a' w g1 g2 g3).plain hp
    have hmore := (planL_sound hT hcall hsel hQp hQ p true (f + 1) listed D false r0 q0 s a w L2 hB2 hc h2 (fun b hb => hsub b (by simp [hb])) hr).2 rfl
    refine ⟨fun hm => ?_, fun _ j hj f' hf => ?_⟩
    · subst hm
      simp only [Bool.false_eq_true, false_or, List.isEmpty_eq_false_iff, List.all_eq_true] at hall hne
      show wpAnyN P (plainCAt T stl all.toArray) all.toArray Q (f + 1) D listed a w
      refine ⟨fun h0 => absurd h0 hne, fun i hi => ?_⟩
      have := hall i hi
      have hi' : i = k ∨ i ∈ keysC p := by simpa using this
      rcases hi' with rfl | hi'
      · exact hstep
      · exact hmore i hi' f rfl
    · have : f' = f := by omega
      subst this
      simp only [keysC, List.mem_cons] at hj
      rcases hj with rfl | hj
      · exact hstep
      · exact hmore j hj f' rfl

theorem region_P (hT : TOk P T) (hm : P.follows .mixedOrders = true) {stl : FuncId → Bool} {call : CallF} (hcall : CallOk P stl call) {rg : Nat} {ops : Array Oper} {draw : Bool} {p : PlanC} {Q : Exit → Act → World → Prop} {LL : List CSt}
    (hB : (draw && Region.noSelect ops && planCB T stl ops p false ops.size (Array.replicate ops.size false) [] false) = true)
    (h : planL P T stl call ops.toList p s = some LL) (hrc : RepC w0 L ρ τ s a w) (hQ : ∀ s' ∈ LL, ∀ r q a' w', RepC w0 L (ρ ++ r) (τ ++ q) s' a' w' → Q .normal a' w') : (Code.region rg ops draw).wp P Q a w := by
  obtain ⟨l, rfl⟩ : ∃ l : List Oper, ops = l.toArray := ⟨ops.toList, by simp⟩
  have e : l.toArray.toList = l := by simp
  rw [e] at h
  simp only [Bool.and_eq_true] at hB
  obtain ⟨⟨rfl, hs⟩, hB⟩ := hB
  have hr1 : RepC w0 L ρ τ s a { w with drawn := w.drawn + 1 } := hrc.drewN 1
  refine Code.wp_mono (Q := fun e a w => e = .normal ∧ Q .normal a w) (fun e a w h => by rw [h.1]; exact h.2) (wp_region_any hm (wpAny_of_N _ [] _ _ _ ((planL_sound (ρ0 := ρ) (τ0 := τ) hT hcall hs (fun c a w h => by cases h.1) (fun s' hs' r q a' w' h1 => ⟨rfl, hQ s' hs' r q a' w' h1⟩) p false _ _ [] false [] [] s a _ LL hB (closed_none _) h (fun b hb => hb) (by simpa using hr1)).1 rfl)))
end
end Go.Fw

namespace Go.Fw
open Go Go.RowKit

theorem fillTo_eq : ∀ (n : Nat) (l : List AV), fillTo n l = l ++ List.replicate (n - l.length) (.tup [])
  | 0, l => by simp [fillTo]
  | n + 1, [] => by simp [fillTo, fillTo_eq n [], List.replicate_succ]
  | n + 1, a :: l => by simp [fillTo, fillTo_eq n l]

theorem padT_eq : ∀ (n : Nat) (l : List CV), padT n l = l ++ List.replicate (n - l.length) (.tup [])
  | 0, l => by simp [padT]
  | n + 1, [] => by simp [padT, padT_eq n [], List.replicate_succ]
  | n + 1, a :: l => by simp [padT, padT_eq n l]

theorem anyAt_len : ∀ (l : List Nat) (sl : List CV), (anyAt l sl).length = sl.length
  | [], _ => rfl
  | t :: r, sl => by simp [anyAt, anyAt_len r]
theorem anyAt_getD : ∀ (l : List Nat) (sl : List CV) (t : Nat) (d : CV), (anyAt l sl).getD t d = .any ∨ (anyAt l sl).getD t d = sl.getD t d
  | [], _, _, _ => .inr rfl
  | u :: r, sl, t, d => by
    rcases anyAt_getD r (sl.set u .any) t d with h | h
    · exact .inl h
    · simp only [anyAt]
      rw [h]
      simp only [List.getD_eq_getElem?_getD, List.getElem?_set]
      split
      · split
        · exact .inl rfl
        · right
          rename_i h1 h2
          subst h1
          simp [List.getElem?_eq_none (Nat.le_of_not_lt h2)]
      · exact .inr rfl
theorem RepC.weak {w0 : World} {L : Nat → Prop} {ρ : Plc} {τ : List Nat} {s : CSt} {a : Act} {w : World} (h : RepC w0 L ρ τ s a w) (ws v : List Nat) : RepC w0 L ρ τ (weakS ws v s) a w := by
  obtain ⟨st, hg, hr⟩ := h
  refine ⟨st, ⟨hg.len, fun t ht => ?_, hg.names, hg.tots, hg.segs, by rw [weakS, anyAt_len]; exact hg.sz, hg.nd, hg.kl⟩, hr⟩
  have ht : t < s.n := ht
  rcases anyAt_getD (butL ws v) s.sl t (.tup []) with h | h
  · simp only [weakS, h, Rel]
  · simp only [weakS, h]; exact hg.slots t ht
theorem RepC.killV {w0 : World} {L : Nat → Prop} {ρ : Plc} {τ : List Nat} {s : CSt} {a : Act} {w : World} (h : RepC w0 L ρ τ s a w) (v : CV) : RepC w0 L ρ τ ⟨s.sl, s.n, Fw.killV v s.hp, s.c⟩ a w := by
  have key : ∀ n, RepC w0 L ρ τ ⟨s.sl, s.n, s.hp.erase n, s.c⟩ a w := fun n => by
    obtain ⟨st, hg, hr⟩ := h
    exact ⟨_, hg.kill n, ⟨hr.slots, by simpa only [setSeg_eq] using hr.heap.kill n, hr.kept, hr.defers⟩⟩
  unfold Fw.killV
  split
  · exact key _
  · exact key _
  · exact key _
  · exact h
theorem RepC.killH {w0 : World} {L : Nat → Prop} {ρ : Plc} {τ : List Nat} {a : Act} {w : World} : ∀ (l : List Nat) {s : CSt} (sl : List CV), RepC w0 L ρ τ s a w → RepC w0 L ρ τ ⟨s.sl, s.n, Fw.killH l sl s.hp, s.c⟩ a w
  | [], _, _, h => h
  | t :: r, s, sl, h => RepC.killH r (s := ⟨s.sl, s.n, Fw.killV (sl.getD t (.tup [])) s.hp, s.c⟩) sl (h.killV _)
theorem RepC.killS {w0 : World} {L : Nat → Prop} {ρ : Plc} {τ : List Nat} {s : CSt} {a : Act} {w : World} (h : RepC w0 L ρ τ s a w) (l : List Nat) : RepC w0 L ρ τ (killS l s) a w := RepC.killH l s.sl h
theorem RepC.weakJ {w0 : World} {L : Nat → Prop} {ρ : Plc} {τ : List Nat} {s : CSt} {a : Act} {w : World} (h : RepC w0 L ρ τ s a w) (o : Option (List Nat)) (c : Code) : RepC w0 L ρ τ (weakJ o c s) a w := by
  unfold Fw.weakJ
  split
  · exact h.weak _ _
  · exact h

section
variable {P : Program} {T : List (Nat × TyI)}

theorem enter_gam {τ : List Nat} {s : CSt} {st : St} (h : Gam τ s st) {args : List CV} {axs : List AV} (hr : Rels τ args axs) {n : Nat} (hn : args.length ≤ n) : Gam τ ⟨padT n args, n, s.hp, s.c⟩ ⟨fillTo n axs, st.hp⟩ := by
  have hl := hr.len
  refine ⟨by simp [fillTo_eq]; omega, fun t ht => ?_, h.names, h.tots, h.segs, by simp [padT_eq]; omega, h.nd, h.kl⟩
  have ht : t < n := ht
  simp only [padT_eq, slot_eq, fillTo_eq, List.getD_eq_getElem?_getD]
  by_cases h1 : t < args.length
  · obtain ⟨y, g1, g2⟩ := hr.get t args[t] (by simp)
    rw [List.getElem?_append_left (by omega), List.getElem?_append_left (by omega), g1, List.getElem?_eq_getElem h1]
    exact g2
  · rw [List.getElem?_append_right (by omega), List.getElem?_append_right (by omega)]
    rw [List.getElem?_replicate, List.getElem?_replicate, if_pos (by omega), if_pos (by omega)]
    simp [Rel, Rels]

def resG (tmps : Array Value) : ResultVar → Sem Value
  | .tmp t => pure (tmps.getD t undef)
  | .cell a t => do loadVar t (← asAddr (tmps.getD a undef))

/-- What a function hands back, by its result variables. -/
theorem resCs_run (hT : TOk P T) {w0 : World} {L : Nat → Prop} {ρ : Plc} {τ : List Nat} {s : CSt} {a : Act} {w : World} (hrc : RepC w0 L ρ τ s a w) :
    ∀ (rs : List ResultVar) (xs : List CV), resCs T s rs = some xs → ∃ axs vs, Rels τ xs axs ∧ Dens ρ axs vs ∧ (rs.mapM (resG a.tmps)).run P w = .ok vs w
  | [], xs, h => by
    simp only [resCs, Option.some.injEq] at h
    subst h
    exact ⟨[], [], by simp [Rels], by simp [Dens], rfl⟩
  | r :: rs, xs, h => by
    simp only [resCs] at h
    split at h
    · rename_i x hx
      split at h
      · rename_i l hl
        cases h
        obtain ⟨axs, vs, h1, h2, h3⟩ := resCs_run hT hrc rs l hl
        have hone : ∃ ax v, Rel τ x ax ∧ Den ρ ax v ∧ (resG a.tmps r).run P w = .ok v w := by
          obtain ⟨st, hgam, hr⟩ := hrc
          cases r with
          | tmp t =>
            simp only [resC1, Option.some.injEq] at hx
            subst hx
            exact ⟨_, _, evalC_rel hgam (.tmp t), av_den hr (.tmp t), rfl⟩
          | cell t ty =>
            simp only [resC1] at hx
            have hl := loadCC_vc (P := P) (T := T) (b := true) (dst := none) (ty := 0) (pos := "") (af := #[]) (gu := none) (x := .tmp t) hx hgam hr
            have hl' : loadAV T st ty (av st (.tmp t)) (fun y => Rel τ x y) := hl
            obtain ⟨y, h1, h2⟩ := load_sound (P := P) hT hl'
            obtain ⟨v, h3, h4⟩ := h2 w0 L ρ w _ hr.heap (av_den hr (.tmp t))
            have hptr : ∃ b, a.eval (.tmp t) = .pointer (some b) := by
              unfold loadCC at hx
              split at hx
              · rename_i n off hp
                have := evalC_rel hgam (.tmp t)
                rw [hp] at this
                simp only [Rel] at this
                have hd := av_den hr (.tmp t)
                rw [this] at hd
                simp only [Den] at hd
                exact ⟨_, hd.2⟩
              · cases hx
            obtain ⟨b, hb⟩ := hptr
            refine ⟨y, v, h1, h3, ?_⟩
            have h5 := h4 w rfl
            rw [hb] at h5
            have hb' : a.tmps.getD t undef = .pointer (some b) := hb
            simp only [resG, hb', asAddr, Sem.run_bind, Sem.run_pure, Result.andThen_ok]
            simpa only [Instr.loadAt, Instr.sureAddr, Sem.run_bind, Sem.run_pure, Result.andThen_ok] using h5
        obtain ⟨ax, v, g1, g2, g3⟩ := hone
        refine ⟨ax :: axs, v :: vs, by simp only [Rels]; exact ⟨_, _, rfl, g1, h1⟩, by simp only [Dens]; exact ⟨_, _, rfl, g2, h2⟩, ?_⟩
        simp only [List.mapM_cons, Sem.run_bind, g3, h3, Result.andThen_ok, Sem.run_pure]
      · cases h
    · cases h

theorem resC_run (hT : TOk P T) {w0 : World} {L : Nat → Prop} {ρ : Plc} {τ : List Nat} {s : CSt} {a : Act} {w : World} (hrc : RepC w0 L ρ τ s a w) {fn : Func} {rs : List ResultVar} {x : CV} (hfn : fn.results = rs.toArray) (h : resC T s rs = some x) :
    ∃ ax v, Rel τ x ax ∧ Den ρ ax v ∧ (results fn a.tmps).run P w = .ok v w := by
  have hres : ∀ vs : List Value, (rs.mapM (resG a.tmps)).run P w = .ok vs w → (results fn a.tmps).run P w = .ok (if h : vs.toArray.size = 1 then vs.toArray[0] else .tuple vs.toArray) w := fun vs hv => by
    have e : results fn a.tmps = (do let vs ← fn.results.mapM (resG a.tmps); pure (if h : vs.size = 1 then vs[0] else .tuple vs)) := by
      unfold results
      congr 1
    rw [e, hfn, List.mapM_toArray]
    simp only [Sem.run_bind, map_eq_pure_bind, hv, Result.andThen_ok, Sem.run_pure]
  unfold resC at h
  split at h
  · rename_i y hy
    cases h
    obtain ⟨axs, vs, h1, h2, h3⟩ := resCs_run hT hrc rs _ hy
    simp only [Rels] at h1
    obtain ⟨ax, r, rfl, k1, rfl⟩ := h1
    simp only [Dens] at h2
    obtain ⟨v, r, rfl, k2, rfl⟩ := h2
    exact ⟨ax, v, k1, k2, by rw [hres _ h3]; rfl⟩
  · rename_i l hne hl
    cases h
    obtain ⟨axs, vs, h1, h2, h3⟩ := resCs_run hT hrc rs _ hl
    refine ⟨.tup axs, .tuple vs.toArray, by simp only [Rel]; exact ⟨axs, rfl, h1⟩, by simp only [Den]; exact ⟨vs, rfl, h2⟩, ?_⟩
    rw [hres _ h3]
    have hlen : vs.toArray.size ≠ 1 := by
      have l1 := h1.len
      have l2 := h2.len
      intro h
      have : l.length = 1 := by simp at h; omega
      match l, this with
      | [y], _ => exact hne y rfl
    rw [dif_neg hlen]
  · cases h

/-- A call by its body's run. -/
theorem enter_ok (hT : TOk P T) {stl : FuncId → Bool} {F : FuncId → Option Ent} (hF : FOk P T stl F) {exec : Ann → Code → CSt → OutC}
    (hex : ∀ (pl : Ann) (c : Code) (s : CSt) (LL : List (CE × CSt)), exec pl c s = some LL → codeCB T stl pl.plan c = true → ∀ (w0 : World) (L : Nat → Prop) (ρ : Plc) (τ : List Nat) (a : Act) (w : World) (Q : Exit → Act → World → Prop) (pb : Bool), (pb = true → codeStill T stl c = true) → RepC w0 L ρ τ s a w →
      (∀ p ∈ LL, ∀ r q a' w', RepC w0 L (ρ ++ r) (τ ++ q) p.2 a' w' → (pb = true → w' = w) → Q p.1.out a' w') → c.wp P Q a w) : CallOk P stl (enterK P T F exec) := by
  intro g args s l hx w0 L ρ τ a w hrc axs vs hrel hden
  unfold enterK at hx
  split at hx
  · rename_i en hen
    rcases hF g en hen with hext | ⟨hext, e1, e2, e3, e4, e5, e6, e7⟩
    · rw [hext] at hx
      simp only at hx
      split at hx
      · rename_i x hxv
        cases hx
        unfold extV at hxv
        split at hxv
        · rename_i vs' hvs
          split at hxv
          · rename_i v hv
            cases hxv
            have hvv : ∀ (cs : List CV) (us : List Value), toVL cs = some us → ∀ (xs : List AV) (ws : List Value), Rels τ cs xs → Dens ρ xs ws → ws = us := by
              intro cs
              induction cs with
              | nil => intro us h xs ws h1 h2; simp only [toVL, Option.some.injEq] at h; subst h; simp only [Rels] at h1; subst h1; simpa [Dens] using h2
              | cons c cs ih =>
                intro us h xs ws h1 h2
                simp only [toVL] at h
                split at h
                · rename_i u hu
                  split at h
                  · rename_i us' hus
                    cases h
                    simp only [Rels] at h1
                    obtain ⟨x1, r1, rfl, q1, q2⟩ := h1
                    simp only [Dens] at h2
                    obtain ⟨w1, r2, rfl, q3, q4⟩ := h2
                    rw [toV_den hu q1 q3, ih us' hus _ _ q2 q4]
                  · cases h
                · cases h
            have := hvv args vs' hvs axs vs hrel hden
            subst this
            refine .inr ⟨v, pureRun_run _ hv w, (cvC v, s.hp, s.c), by simp, [], [], avConst v, cvC_rel _ v, avConst_den _ v, by simpa using hrc, fun _ => rfl⟩
          · cases hxv
        · cases hxv
      · cases hx
    rw [hext] at hx
    simp only at hx
    split at hx
    · rename_i hlen
      have hlen := Nat.le_of_ble_eq_true hlen
      refine .inl ⟨⟨en.fn, e1, e3, by simp [e2]⟩, ?_⟩
      obtain ⟨LL, hLL, hb⟩ := bindL_mem hx
      obtain ⟨st, hg, hr⟩ := hrc
      refine calls_of_wp e1 e2 ?_
      have hg' := enter_gam hg hrel hlen
      have hr' : Rep w0 L ρ ⟨fillTo en.n axs, st.hp⟩ { tmps := vs.toArray ++ Array.replicate (en.fn.ntmps - vs.toArray.size) undef, defers := [] } w :=
        ⟨by rw [e7]; simpa using fillTo_den en.n axs vs hden, hr.heap, hr.kept, rfl⟩
      refine hex en.ann en.code _ LL hLL e5 w0 L ρ τ _ w _ (stl g) (fun hs => by rw [hs] at e6; simpa using e6) ⟨_, hg', hr'⟩ fun p hp r q a' w' hrc1 hw => ?_
      obtain ⟨La, hLa, hsub⟩ := hb p hp
      obtain ⟨ce, s1⟩ := p
      have fin : (match resC T s1 en.rs with | some x => (forceV x fun x => some [(x, Fw.killH en.ann.kf s1.sl s1.hp, s1.c)]) | none => none) = some La → a'.defers = [] ∧ ∃ v, (results en.fn a'.tmps).run P w' = .ok v w' ∧ ∃ v', Ending.returned v = .returned v' ∧ ∃ p ∈ l, ∃ r' q' ax, Rel (τ ++ q') p.1 ax ∧ Den (ρ ++ r') ax v' ∧ RepC w0 L (ρ ++ r') (τ ++ q') ⟨s.sl, s.n, p.2.1, p.2.2⟩ a w' ∧ (stl g = true → w' = w) := fun hx => by
        split at hx
        · rename_i x hres
          rw [forceV_eq] at hx
          simp only [Option.some.injEq] at hx
          obtain ⟨ax, v, k1, k2, k3⟩ := resC_run hT hrc1 e4 hres
          obtain ⟨st1, hg1, hr1⟩ := hrc1.killH en.ann.kf s1.sl
          exact ⟨hr1.defers, v, k3, v, rfl, (x, Fw.killH en.ann.kf s1.sl s1.hp, s1.c), hsub _ (by rw [← hx]; simp), r, q, ax, k1, k2, ⟨⟨st.sl, st1.hp⟩, ⟨hg.len, fun t ht => (hg.slots t ht).grow q, hg1.names, hg1.tots, hg1.segs, hg.sz, hg1.nd, hg1.kl⟩, ⟨hr.slots.grow r, hr1.heap, hr1.kept, hr.defers⟩⟩, hw⟩
        · cases hx
      cases ce with
      | normal => exact fin hLa
      | ret => exact fin hLa
      | exit k => simp [bodyL] at hLa
    · cases hx
  · cases hx

/-- WHAT A RUN SAYS. -/
theorem execC_sound (hT : TOk P T) (hm : P.follows .mixedOrders = true) {stl : FuncId → Bool} {F : FuncId → Option Ent} (hF : FOk P T stl F) : ∀ (N f : Nat), f ≤ N → ∀ (pl : Ann) (c : Code) (s : CSt) (LL : List (CE × CSt)), execC P T stl F f pl c s = some LL → codeCB T stl pl.plan c = true →
    ∀ (w0 : World) (L : Nat → Prop) (ρ : Plc) (τ : List Nat) (a : Act) (w : World) (Q : Exit → Act → World → Prop) (pb : Bool), (pb = true → codeStill T stl c = true) → RepC w0 L ρ τ s a w →
      (∀ p ∈ LL, ∀ r q a' w', RepC w0 L (ρ ++ r) (τ ++ q) p.2 a' w' → (pb = true → w' = w) → Q p.1.out a' w') → c.wp P Q a w
  | _, 0, _, pl, c, s, LL, h, _ => by simp [execC] at h
  | 0, f + 1, hle, pl, c, s, LL, h, _ => by omega
  | N + 1, f + 1, hle, pl, c, s, LL, h, hB => by
    intro w0 L ρ τ a w Q pb hpb hrc hQ
    have IH := execC_sound hT hm hF N
    have hcall : CallOk P stl (enterK P T F (execC P T stl F f)) := enter_ok hT hF fun pl c s LL hx hB => IH f (by omega) pl c s LL hx hB
    have done : ∀ e : CE, LL = [(e, s)] → Q e.out a w := fun e he => by
      subst he
      exact hQ (e, s) (by simp) [] [] a w (by simpa using hrc) (fun _ => rfl)
    unfold execC at h
    cases c <;> simp only [reduceCtorEq] at h
    case skip => exact wp_skip (done .normal (by simpa using h.symm))
    case label l => exact wp_label (done .normal (by simpa using h.symm))
    case exit id => exact wp_exit (done (.exit id) (by simpa using h.symm))
    case ret => exact wp_ret (done .ret (by simpa using h.symm))
    case region rg ops draw =>
      unfold codeCB at hB
      split at h
      · rename_i hp
        rw [hp] at hB
        unfold tagL at h
        split at h
        · rename_i l1 h1
          simp only [Option.some.injEq] at h
          subst h
          refine region_L (pb := pb) hT hm hcall hB (fun hb => ?_) h1 hrc fun s' hs' r q a' w' hr' hw' => hQ (.normal, killS _ s') (List.mem_map.2 ⟨s', hs', rfl⟩) r q a' w' (hr'.killS _) hw'
          have := hpb hb
          simp only [codeStill, Bool.and_eq_true, Bool.not_eq_true'] at this
          exact this
        · cases h
      · rename_i p hp
        rw [hp] at hB
        unfold tagL at h
        split at h
        · rename_i l1 h1
          simp only [Option.some.injEq] at h
          subst h
          refine region_P hT hm hcall hB h1 hrc fun s' hs' r q a' w' hr' => hQ (.normal, killS _ s') (List.mem_map.2 ⟨s', hs', rfl⟩) r q a' w' (hr'.killS _) fun hb => ?_
          have := hpb hb
          simp only [codeStill, Bool.and_eq_true, Bool.not_eq_true'] at this
          simp only [Bool.and_eq_true] at hB
          rw [this.1] at hB
          cases hB.1.1
        · cases h
    case seq x y =>
      simp only [codeCB, Bool.and_eq_true] at hB
      have hp1 : pb = true → codeStill T stl x = true := fun hb => by have := hpb hb; simp only [codeStill, Bool.and_eq_true] at this; exact this.1
      have hp2 : pb = true → codeStill T stl y = true := fun hb => by have := hpb hb; simp only [codeStill, Bool.and_eq_true] at this; exact this.2
      obtain ⟨l1, h1, h2⟩ := bindL_mem h
      refine wp_seq ?_
      refine IH f (by omega) pl x s l1 h1 hB.1 w0 L ρ τ a w _ pb hp1 hrc fun p hp r q a' w' hr' hw' => ?_
      obtain ⟨La, g1, g2⟩ := h2 p hp
      obtain ⟨e, s1⟩ := p
      cases e with
      | normal =>
        refine IH f (by omega) pl y _ La g1 hB.2 w0 L (ρ ++ r) (τ ++ q) a' w' Q pb hp2 (hr'.weakJ _ _) fun p' hp' r' q' a'' w'' h3 h4 => ?_
        exact hQ p' (g2 p' hp') (r ++ r') (q ++ q') a'' w'' (by rw [← List.append_assoc, ← List.append_assoc]; exact h3) (fun hb => by rw [h4 hb, hw' hb])
      | exit k =>
        simp only [normL, Option.some.injEq] at g1
        exact hQ (.exit k, s1) (g2 _ (by rw [← g1]; simp)) r q a' w' hr' hw'
      | ret =>
        simp only [normL, Option.some.injEq] at g1
        exact hQ (.ret, s1) (g2 _ (by rw [← g1]; simp)) r q a' w' hr' hw'
    case cond cc x y =>
      simp only [codeCB, Bool.and_eq_true] at hB
      have hp1 : pb = true → codeStill T stl x = true := fun hb => by have := hpb hb; simp only [codeStill, Bool.and_eq_true] at this; exact this.1
      have hp2 : pb = true → codeStill T stl y = true := fun hb => by have := hpb hb; simp only [codeStill, Bool.and_eq_true] at this; exact this.2
      split at h
      · rename_i hc
        exact wp_cond_true (evalC_ground hrc (by rw [hc]; rfl)) (IH f (by omega) pl x s LL h hB.1 w0 L ρ τ a w Q pb hp1 hrc hQ)
      · rename_i hc
        exact wp_cond_false (evalC_ground hrc (by rw [hc]; rfl)) (IH f (by omega) pl y s LL h hB.2 w0 L ρ τ a w Q pb hp2 hrc hQ)
      · cases h
    case block id b =>
      simp only [codeCB] at hB
      have hp1 : pb = true → codeStill T stl b = true := fun hb => by have := hpb hb; simpa only [codeStill] using this
      obtain ⟨l1, h1, h2⟩ := bindL_mem h
      refine wp_block ?_
      refine IH f (by omega) pl b s l1 h1 hB w0 L ρ τ a w _ pb hp1 hrc fun p hp r q a' w' hr' hw' => ?_
      obtain ⟨La, g1, g2⟩ := h2 p hp
      obtain ⟨e, s1⟩ := p
      cases e with
      | normal =>
        simp only [blockL, Option.some.injEq] at g1
        exact hQ (.normal, s1) (g2 _ (by rw [← g1]; simp)) r q a' w' hr' hw'
      | exit k =>
        simp only [CE.out, Exit.inBlock]
        simp only [blockL] at g1
        split at g1
        · rename_i hk
          have hk := Nat.eq_of_beq_eq_true hk
          simp only [Option.some.injEq] at g1
          rw [if_pos hk]
          exact hQ (.normal, s1) (g2 _ (by rw [← g1]; simp)) r q a' w' hr' hw'
        · rename_i hk
          simp only [Option.some.injEq] at g1
          rw [if_neg (fun e => by subst e; simp at hk)]
          exact hQ (.exit k, s1) (g2 _ (by rw [← g1]; simp)) r q a' w' hr' hw'
      | ret =>
        simp only [blockL, Option.some.injEq] at g1
        exact hQ (.ret, s1) (g2 _ (by rw [← g1]; simp)) r q a' w' hr' hw'
    case scope b =>
      simp only [codeCB] at hB
      have hp1 : pb = true → codeStill T stl b = true := fun hb => by have := hpb hb; simpa only [codeStill] using this
      refine wp_scope_straight ?_
      refine IH f (by omega) pl b s LL h hB w0 L ρ τ a w _ pb hp1 hrc fun p hp r q a' w' hr' hw' => ?_
      have := hQ p hp r q a' w' hr' hw'
      obtain ⟨e, s1⟩ := p
      cases e <;> exact this
    case loop b =>
      simp only [codeCB] at hB
      have hp1 : pb = true → codeStill T stl b = true := fun hb => by have := hpb hb; simpa only [codeStill] using this
      refine wp_loop_ghost (fun n a w' => n ≤ f + 1 ∧ (pb = true → w' = w) ∧ ∃ s r q La, execC P T stl F n pl (.loop b) s = some La ∧ (∀ p ∈ La, p ∈ LL) ∧ RepC w0 L (ρ ++ r) (τ ++ q) s a w') (f + 1) ⟨Nat.le_refl _, fun _ => rfl, s, [], [], LL, by unfold execC; exact h, fun p hp => hp, by simpa using hrc⟩ ?_
      rintro n a w1 ⟨hn, hw1, s, r, q, La, hex, hsub, hrc⟩
      cases n with
      | zero => simp [execC] at hex
      | succ n =>
        unfold execC at hex
        simp only at hex
        obtain ⟨l1, h1, h2⟩ := bindL_mem hex
        refine IH n (by omega) pl b _ l1 h1 hB w0 L _ _ a w1 _ pb hp1 (hrc.weak _ _) fun p hp r' q' a' w' hr' hw' => ?_
        obtain ⟨Lb, g1, g2⟩ := h2 p hp
        obtain ⟨e, s1⟩ := p
        cases e with
        | normal =>
          exact ⟨n, by omega, by omega, fun hb => by rw [hw' hb, hw1 hb], s1, r ++ r', q ++ q', Lb, g1, fun p hp => hsub p (g2 p hp), by rw [← List.append_assoc, ← List.append_assoc]; exact hr'⟩
        | exit k =>
          simp only [normL, Option.some.injEq] at g1
          exact hQ (.exit k, s1) (hsub _ (g2 _ (by rw [← g1]; simp))) (r ++ r') (q ++ q') a' w' (by rw [← List.append_assoc, ← List.append_assoc]; exact hr') (fun hb => by rw [hw' hb, hw1 hb])
        | ret =>
          simp only [normL, Option.some.injEq] at g1
          exact hQ (.ret, s1) (hsub _ (g2 _ (by rw [← g1]; simp))) (r ++ r') (q ++ q') a' w' (by rw [← List.append_assoc, ← List.append_assoc]; exact hr') (fun hb => by rw [hw' hb, hw1 hb])

/-- All ways end in x. -/
def allAre (v : CV → Bool) : List (CV × AL CSeg × Nat) → Bool
  | [] => true
  | (x, _, _) :: r => v x && allAre v r
theorem allAre_mem {v : CV → Bool} : ∀ {l : List (CV × AL CSeg × Nat)}, allAre v l = true → ∀ p ∈ l, v p.1 = true
  | [], _, p, hp => by simp at hp
  | (x, a, b) :: r, h, p, hp => by
    simp only [allAre, Bool.and_eq_true] at h
    rcases List.mem_cons.1 hp with rfl | hp
    · exact h.1
    · exact allAre_mem h.2 p hp
def isTrue? : CV → Bool
  | .bool b => b
  | _ => false
/-- A closed law, run: all ways end in true. -/
noncomputable def runTrue (P : Program) (T : List (Nat × TyI)) (stl : FuncId → Bool) (F : FuncId → Option Ent) (N g : Nat) : Bool :=
  match enterK P T F (execC P T stl F N) g [] .nil 0 with
  | some l => allAre isTrue? l
  | none => false

theorem ent_enter {stl : FuncId → Bool} {g : FuncId} {e : Ent} (h : EntOk P T stl g e) (hx : e.ext = false) : Enterable P g := by
  rcases h with h | ⟨_, e1, e2, e3, _⟩
  · rw [h] at hx; cases hx
  · exact ⟨e.fn, e1, e3, by simp [e2]⟩
end

/-- A closed function that is run, as a contract. -/
theorem fits_of_run {P : Program} {T : List (Nat × TyI)} (hT : TOk P T) (hm : P.follows .mixedOrders = true) {stl : FuncId → Bool} {F : FuncId → Option Ent} (hF : FOk P T stl F) {N : Nat} {g : FuncId} {e : Ent} (hg : F g = some e) (hx : e.ext = false) (h : runTrue P T stl F N g = true) :
    Fits P g ⟨[], [], [⟨Unit, fun _ => True, fun _ => .bool true, fun _ => []⟩]⟩ := by
  unfold runTrue at h
  split at h
  · rename_i l hl
    have hcall : CallOk P stl (enterK P T F (execC P T stl F N)) := enter_ok hT hF fun pl c s LL hx hB => execC_sound hT hm hF N N (Nat.le_refl _) pl c s LL hx hB
    have hen : Enterable P g := ent_enter (hF g e hg) hx
    refine ⟨hen, fun w0 L ρ vs hh hd => ?_⟩
    have hρ : ρ = [] := List.eq_nil_of_length_eq_zero hh.names
    subst hρ
    simp only [Dens] at hd
    subst hd
    have hg0 : Gam [] ⟨.nil, 0, .nil, 0⟩ ⟨[], []⟩ := ⟨rfl, fun t ht => by simp at ht, rfl, rfl, fun i x hx => by simp at hx, rfl, trivial, fun q hq => by simp at hq⟩
    have hr0 : Rep w0 L [] ⟨[], []⟩ { tmps := #[], defers := [] } w0 := ⟨by simp [Dens], heapOk_nil w0 _, Kept.refl _ _, rfl⟩
    have hc := (hcall g [] ⟨.nil, 0, .nil, 0⟩ l hl w0 L [] [] _ w0 ⟨_, hg0, hr0⟩ [] [] (by simp [Rels]) (by simp [Dens])).calls hen
    refine hc.mono fun e w' ⟨v, he, p, hp, r, q, ax, k1, k2, ⟨st, k3, k4⟩, _⟩ => ?_
    have ht := allAre_mem h p hp
    obtain ⟨x, hp', c'⟩ := p
    simp only at ht k1
    unfold isTrue? at ht
    split at ht
    · subst ht
      simp only [Rel] at k1
      subst k1
      simp only [Den] at k2
      exact ⟨⟨Unit, fun _ => True, fun _ => .bool true, fun _ => []⟩, List.mem_singleton.2 rfl, (), trivial, v, [], he, (show Den [] (.bool true) v by simp only [Den]; exact k2), (⟨rfl, fun n s hs => by simp at hs, fun n s hs => by simp at hs, fun n m s t _ hs => by simp at hs⟩ : HeapOk w0.heap.size L [] [] w'), k4.kept⟩
    · cases ht
  · cases h

def entOf (fn : Func) (pl : Ann) : Ent := ⟨fn, fn.body.getD .skip, fn.results.toList, fn.ntmps, pl, false⟩
def EntsOk (P : Program) (T : List (Nat × TyI)) (stl : FuncId → Bool) : List (Nat × Ent) → Prop
  | [] => True
  | p :: r => EntOk P T stl p.1 p.2 ∧ EntsOk P T stl r

def tabOf : List (Nat × Ent) → Trie Ent
  | [] => .nil
  | p :: r => (tabOf r).force fun t => (Trie.set p.2 t p.1).force fun t => t

theorem tabOf_mem {P : Program} {T : List (Nat × TyI)} {stl : FuncId → Bool} : ∀ {l : List (Nat × Ent)}, EntsOk P T stl l → ∀ g e, (tabOf l).get g = some e → EntOk P T stl g e
  | [], _, g, e, h => by simp [tabOf, Trie.get_nil] at h
  | p :: r, hg, g, e, h => by
    simp only [tabOf, Trie.force_eq, Trie.get_set] at h
    simp only [EntsOk] at hg
    split at h
    · rename_i hp
      cases h
      rw [hp]; exact hg.1
    · exact tabOf_mem hg.2 g e h

theorem fok_of {P : Program} {T : List (Nat × TyI)} {stl : FuncId → Bool} {l : List (Nat × Ent)} (h : EntsOk P T stl l) : FOk P T stl (tabOf l).get := fun g e he => tabOf_mem h g e he

def TOkL (P : Program) : List (Nat × TyI) → Prop
  | [] => True
  | p :: r => Agrees P p.1 p.2 ∧ TOkL P r
theorem tok_of {P : Program} : ∀ {l : List (Nat × TyI)}, TOkL P l → TOk P l
  | [], _, p, hp => by simp at hp
  | q :: r, h, p, hp => by
    rcases List.mem_cons.1 hp with rfl | hp
    · exact h.1
    · exact tok_of h.2 p hp
end Go.Fw
