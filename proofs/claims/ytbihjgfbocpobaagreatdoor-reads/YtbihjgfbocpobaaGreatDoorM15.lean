/- Texts CdOrd CeHeld CeHeld3 Lnh. -/
import Derived.Test.YtbihjgfbocpobaaGreatDoorM14
/- A region that draws its order: some operations look at no memory and are taken first; the others come up in one order, or in one of two. -/
set_option linter.unusedSimpArgs false
set_option linter.unusedVariables false
namespace Go.Proofs.YtbihjgfbocpobaaGreatDoor
open Go.RowKit

def doneBy (m : Nat) (l : List Nat) : Array Bool := l.foldl (fun d i => d.setIfInBounds i true) (Array.replicate m false)
theorem doneBy_snoc (m : Nat) (l : List Nat) (i : Nat) : doneBy m (l ++ [i]) = (doneBy m l).setIfInBounds i true := by simp [doneBy]
def headsB (ops : Array Oper) : List Nat → List Nat → Bool
  | _, [] => true
  | pre, i :: rest => Region.free .any ops (doneBy ops.size pre) i && ((Region.ready .any ops (doneBy ops.size pre)).contains i && headsB ops (pre ++ [i]) rest)
def forcedB (ops : Array Oper) : List Nat → List Nat → Bool
  | pre, [] => decide (Region.ready .any ops (doneBy ops.size pre) = [])
  | pre, i :: rest => decide (Region.ready .any ops (doneBy ops.size pre) = [i]) && forcedB ops (pre ++ [i]) rest
section
variable {P : Program} {Q : Exit → Act → World → Prop}
theorem ord_heads {ops : Array Oper} {f : Nat} {w : World} (hs : Region.noSelect ops = true) (hQ : ∀ c a d v w, Q (.panic c) (Act.put a d v) w → Q (.panic c) a w) :
    ∀ (σ : List Nat) (so : List Oper) (pre : List Nat) (a : Act), σ.map (fun i => ops[i]?) = so.map some → headsB ops pre σ = true →
    wpHeld P (fun _ => True) (fun a' => wpAnyH P .any ops Q (fun _ => True) f (doneBy ops.size (pre ++ σ)) a' w) so a → wpAnyH P .any ops Q (fun _ => True) (f + σ.length) (doneBy ops.size pre) a w
  | [], so, pre, a, hso, _, h => by
    have : so = [] := by cases so with | nil => rfl | cons o so => simp at hso
    subst this; simp only [List.append_nil] at h; exact h
  | i :: σ, so, pre, a, hso, hB, h => by
    cases so with
    | nil => simp at hso
    | cons o so =>
      simp only [List.map_cons, List.cons.injEq] at hso
      simp only [headsB, Bool.and_eq_true] at hB
      obtain ⟨hg, v, h1, h2⟩ := h
      have ih := ord_heads (f := f) (w := w) hs hQ σ so (pre ++ [i]) (a.put o.dst v) hso.2 hB.2.2 (by simpa using h2)
      rw [doneBy_snoc] at ih
      have := wpAnyH_take (fuel := f + σ.length) hso.1 hs hB.1 hB.2.1 (fun c a w h => hQ c a _ _ w h) (Or.inl ⟨by simp [Region.wanted, hg], h1⟩) trivial ih
      simpa [Nat.add_assoc] using this
theorem ord_tail {ops : Array Oper} : ∀ (τ : List Nat) (to : List Oper) (pre : List Nat) (a : Act) (w : World), τ.map (fun i => ops[i]?) = to.map some → forcedB ops pre τ = true →
    wpList P ops Q to a w → wpAnyH P .any ops Q (fun _ => True) τ.length (doneBy ops.size pre) a w
  | [], to, pre, a, w, hto, hB, h => by
    have : to = [] := by cases to with | nil => rfl | cons o to => simp at hto
    subst this
    simp only [forcedB, decide_eq_true_eq] at hB
    exact wpAnyH_done hB h 0
  | i :: τ, to, pre, a, w, hto, hB, h => by
    cases to with
    | nil => simp at hto
    | cons o to =>
      simp only [List.map_cons, List.cons.injEq] at hto
      simp only [forcedB, Bool.and_eq_true, decide_eq_true_eq] at hB
      refine wpAnyH_all hB.1 (by simp) (fun j hj => ?_)
      simp only [List.mem_singleton] at hj
      subst hj
      have hw : wpOp P ops Q j (wpList P ops Q to) a w := by unfold wpOp; simp only [hto.1]; exact h
      refine wpOp_mono (fun a' w' h' => ⟨trivial, ?_⟩) hw
      have := ord_tail τ to (pre ++ [j]) a' w' hto.2 hB.2 h'
      rwa [doneBy_snoc] at this
/-- One order. -/
theorem wp_region_order {id : Nat} {a : Act} {w : World} {l : List Oper} (σ τ : List Nat) (hm : P.follows .mixedOrders = true) (hB : (Region.noSelect l.toArray && (headsB l.toArray [] σ && forcedB l.toArray σ τ)) = true) (hlen : l.length = τ.length + σ.length)
    (so to : List Oper) (hso : σ.map (fun i => l.toArray[i]?) = so.map some) (hto : τ.map (fun i => l.toArray[i]?) = to.map some) (hQ : ∀ c a d v w, Q (.panic c) (Act.put a d v) w → Q (.panic c) a w)
    (h : wpHeld P (fun _ => True) (fun a' => wpList P l.toArray Q to a' w.drew) so a) : (Code.region id l.toArray true).wp P Q a w := by
  simp only [Bool.and_eq_true] at hB
  refine wp_region_held (S := fun _ => True) hm ?_
  have key := ord_heads (P := P) (Q := Q) (ops := l.toArray) (f := τ.length) (w := w.drew) hB.1 hQ σ so [] a hso hB.2.1 ?_
  · rw [← hlen] at key; simpa [doneBy] using key
  · have mono : ∀ (l' : List Oper) (a : Act) (L L' : Act → Prop), (∀ a, L a → L' a) → wpHeld P (fun _ => True) L l' a → wpHeld P (fun _ => True) L' l' a := by
      intro l'
      induction l' with
      | nil => intro a L L' hL h; exact hL a h
      | cons o l' ih => intro a L L' hL h; obtain ⟨hg, v, h1, h2⟩ := h; exact ⟨hg, v, h1, ih _ L L' hL h2⟩
    exact mono _ _ _ _ (fun a' h' => ord_tail τ to _ a' _ hto (by simpa using hB.2.2) h') h
/-- One of two orders. -/
theorem wp_region_order2 {id : Nat} {a : Act} {w : World} {l : List Oper} (σ : List Nat) (i j : Nat) (τ τ' : List Nat) (hm : P.follows .mixedOrders = true)
    (hB : (Region.noSelect l.toArray && (headsB l.toArray [] σ && (decide (Region.ready .any l.toArray (doneBy l.toArray.size σ) = [i, j]) && (forcedB l.toArray (σ ++ [i]) τ && forcedB l.toArray (σ ++ [j]) τ')))) = true) (hlen : l.length = τ.length + 1 + σ.length) (hlen' : τ'.length = τ.length)
    (so : List Oper) (oi oj : Oper) (to to' : List Oper) (hso : σ.map (fun i => l.toArray[i]?) = so.map some) (hi : l.toArray[i]? = some oi) (hj : l.toArray[j]? = some oj) (hto : τ.map (fun i => l.toArray[i]?) = to.map some) (hto' : τ'.map (fun i => l.toArray[i]?) = to'.map some) (hQ : ∀ c a d v w, Q (.panic c) (Act.put a d v) w → Q (.panic c) a w)
    (h : wpHeld P (fun _ => True) (fun a' => wpList P l.toArray Q (oi :: to) a' w.drew ∧ wpList P l.toArray Q (oj :: to') a' w.drew) so a) : (Code.region id l.toArray true).wp P Q a w := by
  simp only [Bool.and_eq_true, decide_eq_true_eq] at hB
  refine wp_region_held (S := fun _ => True) hm ?_
  have key := ord_heads (P := P) (Q := Q) (ops := l.toArray) (f := τ.length + 1) (w := w.drew) hB.1 hQ σ so [] a hso hB.2.1 ?_
  · rw [← hlen] at key; simpa [doneBy] using key
  · have mono : ∀ (l' : List Oper) (a : Act) (L L' : Act → Prop), (∀ a, L a → L' a) → wpHeld P (fun _ => True) L l' a → wpHeld P (fun _ => True) L' l' a := by
      intro l'
      induction l' with
      | nil => intro a L L' hL h; exact hL a h
      | cons o l' ih => intro a L L' hL h; obtain ⟨hg, v, h1, h2⟩ := h; exact ⟨hg, v, h1, ih _ L L' hL h2⟩
    refine mono _ _ _ _ (fun a' h' => ?_) h
    have step : ∀ (x : Nat) (ox : Oper) (tx : List Nat) (tox : List Oper), l.toArray[x]? = some ox → tx.map (fun i => l.toArray[i]?) = tox.map some → forcedB l.toArray (σ ++ [x]) tx = true → tx.length = τ.length → wpList P l.toArray Q (ox :: tox) a' w.drew → wpOp P l.toArray Q x (fun a'' w'' => True ∧ wpAnyH P .any l.toArray Q (fun _ => True) τ.length ((doneBy l.toArray.size ([] ++ σ)).setIfInBounds x true) a'' w'') a' w.drew := by
      intro x ox tx tox hx htx hf hl hw
      have hw' : wpOp P l.toArray Q x (wpList P l.toArray Q tox) a' w.drew := by unfold wpOp; simp only [hx]; exact hw
      refine wpOp_mono (fun a'' w'' h'' => ⟨trivial, ?_⟩) hw'
      have := ord_tail tx tox (σ ++ [x]) a'' w'' htx hf h''
      rw [doneBy_snoc, hl] at this; simpa using this
    refine wpAnyH_all (rs := [i, j]) (by simpa using hB.2.2.1) (by simp) (fun x hx => ?_)
    simp only [List.mem_cons, List.not_mem_nil, or_false] at hx
    rcases hx with rfl | rfl
    · exact step _ oi τ to hi hto hB.2.2.2.1 rfl h'.1
    · exact step _ oj τ' to' hj hto' hB.2.2.2.2 hlen' h'.2
theorem op_then {ops : Array Oper} {y : Nat} {oy : Oper} {K : Act → World → Prop} {a : Act} {w : World} (hy : ops[y]? = some oy) (h : wpList P ops (Exit.then K Q) [oy] a w) : wpOp P ops Q y K a w := by
  have hw : wpOp P ops (Exit.then K Q) y (wpList P ops (Exit.then K Q) []) a w := by unfold wpOp; simp only [hy]; exact h
  have hn : ∀ a w, wpList P ops (Exit.then K Q) [] a w → K a w := fun a w h => h
  unfold wpOp at hw ⊢
  simp only [hy] at hw ⊢
  split
  · rename_i hwt
    rw [if_pos hwt] at hw
    refine hw.imp (fun h1 => ?_) (fun h2 => h2)
    have h2 := Oper.wp_mono hn h1
    unfold Oper.wp at h2 ⊢
    generalize (execOp a.eval oy).run P w = r at *
    cases r with
    | ok n w' => cases n <;> exact h2
    | halt x w' => cases x <;> exact h2
  · rename_i hwt
    rw [if_neg hwt] at hw; exact hn _ _ hw
/-- One of three orders: x first; or y (whatever it does), then p or r. -/
theorem wp_region_forkc {id : Nat} {a : Act} {w : World} {l : List Oper} (σ : List Nat) (x y p r : Nat) (τx τp τr : List Nat) (hm : P.follows .mixedOrders = true)
    (hB : (Region.noSelect l.toArray && (headsB l.toArray [] σ && (decide (Region.ready .any l.toArray (doneBy l.toArray.size σ) = [x, y]) && (forcedB l.toArray (σ ++ [x]) τx && (decide (Region.ready .any l.toArray (doneBy l.toArray.size (σ ++ [y])) = [p, r]) && (forcedB l.toArray (σ ++ [y] ++ [p]) τp && forcedB l.toArray (σ ++ [y] ++ [r]) τr)))))) = true)
    (hlen : l.length = τp.length + 2 + σ.length) (hlx : τx.length = τp.length + 1) (hlr : τr.length = τp.length)
    (so : List Oper) (ox oy op or : Oper) (tox top tor : List Oper) (hso : σ.map (fun i => l.toArray[i]?) = so.map some) (hx : l.toArray[x]? = some ox) (hy : l.toArray[y]? = some oy) (hp : l.toArray[p]? = some op) (hr : l.toArray[r]? = some or)
    (htx : τx.map (fun i => l.toArray[i]?) = tox.map some) (htp : τp.map (fun i => l.toArray[i]?) = top.map some) (htr : τr.map (fun i => l.toArray[i]?) = tor.map some) (hQ : ∀ c a d v w, Q (.panic c) (Act.put a d v) w → Q (.panic c) a w)
    (h : wpHeld P (fun _ => True) (fun a' => wpList P l.toArray Q (ox :: tox) a' w.drew ∧ wpList P l.toArray (Exit.then (fun a'' w'' => wpList P l.toArray Q (op :: top) a'' w'' ∧ wpList P l.toArray Q (or :: tor) a'' w'') Q) [oy] a' w.drew) so a) : (Code.region id l.toArray true).wp P Q a w := by
  simp only [Bool.and_eq_true, decide_eq_true_eq] at hB
  refine wp_region_held (S := fun _ => True) hm ?_
  have key := ord_heads (P := P) (Q := Q) (ops := l.toArray) (f := τp.length + 2) (w := w.drew) hB.1 hQ σ so [] a hso hB.2.1 ?_
  · rw [← hlen] at key; simpa [doneBy] using key
  · have mono : ∀ (l' : List Oper) (a : Act) (L L' : Act → Prop), (∀ a, L a → L' a) → wpHeld P (fun _ => True) L l' a → wpHeld P (fun _ => True) L' l' a := by
      intro l'
      induction l' with
      | nil => intro a L L' hL h; exact hL a h
      | cons o l' ih => intro a L L' hL h; obtain ⟨hg, v, h1, h2⟩ := h; exact ⟨hg, v, h1, ih _ L L' hL h2⟩
    refine mono _ _ _ _ (fun a' h' => ?_) h
    obtain ⟨hx1, hy1⟩ := h'
    have step : ∀ (pre : List Nat) (z : Nat) (oz : Oper) (tz : List Nat) (toz : List Oper) (b : Act) (wb : World), l.toArray[z]? = some oz → tz.map (fun i => l.toArray[i]?) = toz.map some → forcedB l.toArray (pre ++ [z]) tz = true → wpList P l.toArray Q (oz :: toz) b wb → wpOp P l.toArray Q z (fun a'' w'' => True ∧ wpAnyH P .any l.toArray Q (fun _ => True) tz.length ((doneBy l.toArray.size pre).setIfInBounds z true) a'' w'') b wb := by
      intro pre z oz tz toz b wb hz htz hf hw
      have hw' : wpOp P l.toArray Q z (wpList P l.toArray Q toz) b wb := by unfold wpOp; simp only [hz]; exact hw
      refine wpOp_mono (fun a'' w'' h'' => ⟨trivial, ?_⟩) hw'
      have := ord_tail tz toz (pre ++ [z]) a'' w'' htz hf h''
      rwa [doneBy_snoc] at this
    refine wpAnyH_all (rs := [x, y]) (by simpa using hB.2.2.1) (by simp) (fun z hz => ?_)
    simp only [List.mem_cons, List.not_mem_nil, or_false] at hz
    rcases hz with rfl | rfl
    · have := step σ _ ox τx tox a' _ hx htx hB.2.2.2.1 hx1
      rw [hlx] at this; simpa using this
    · refine wpOp_mono (fun b wb hb => ⟨trivial, ?_⟩) (op_then hy hy1)
      have e : (doneBy l.toArray.size ([] ++ σ)).setIfInBounds z true = doneBy l.toArray.size (σ ++ [z]) := by rw [doneBy_snoc]; rfl
      rw [e]
      refine wpAnyH_all (rs := [p, r]) hB.2.2.2.2.1 (by simp) (fun u hu => ?_)
      simp only [List.mem_cons, List.not_mem_nil, or_false] at hu
      rcases hu with rfl | rfl
      · exact step (σ ++ [z]) _ op τp top _ _ hp htp hB.2.2.2.2.2.1 hb.1
      · have := step (σ ++ [z]) _ or τr tor _ _ hr htr hB.2.2.2.2.2.2 hb.2
        rw [hlr] at this; exact this
end
end Go.Proofs.YtbihjgfbocpobaaGreatDoor

/- A region that draws its order: reads under guards, taken first in whatever world meets S; then two operations that wait. -/
set_option linter.unusedSimpArgs false
set_option linter.unusedVariables false
namespace Go.Proofs.YtbihjgfbocpobaaGreatDoor
open Go.RowKit

def wpHeldG (P : Program) (ops : Array Oper) (S : World → Prop) (L : Act → Prop) : List Oper → Act → Prop
  | [], a => L a
  | o :: l, a => ∃ v, YieldsIf P ops S o v a ∧ wpHeldG P ops S L l (a.put o.dst v)
section
variable {P : Program} {Q : Exit → Act → World → Prop} {S : World → Prop}
theorem heldG_plain {ops : Array Oper} {L : Act → Prop} {o : Oper} {l : List Oper} {a : Act} (hg : o.guard = none)
    (h : ∀ K : Act → Prop, (∀ a', wpHeldG P ops S L l a' → K a') → ∃ v, (∀ w, S w → (execOp a.eval o).run P w = .ok (.value v) w) ∧ K (a.put o.dst v)) : wpHeldG P ops S L (o :: l) a := by
  obtain ⟨v, h1, h2⟩ := h (wpHeldG P ops S L l) (fun _ h => h)
  exact ⟨v, .inl ⟨by simp [Region.wanted, hg], h1⟩, h2⟩
theorem heldG_go {ops : Array Oper} {L : Act → Prop} {o : Oper} {l : List Oper} {a : Act} {j : Nat} {b : Bool} (hg : o.guard = some (j, b)) (hy : yielded ops a.tmps j = some b)
    (h : ∀ K : Act → Prop, (∀ a', wpHeldG P ops S L l a' → K a') → ∃ v, (∀ w, S w → (execOp a.eval o).run P w = .ok (.value v) w) ∧ K (a.put o.dst v)) : wpHeldG P ops S L (o :: l) a := by
  obtain ⟨v, h1, h2⟩ := h (wpHeldG P ops S L l) (fun _ h => h)
  exact ⟨v, .inl ⟨by simp [Region.wanted, hg, hy], h1⟩, h2⟩
theorem heldG_skip {ops : Array Oper} {L : Act → Prop} {o : Oper} {l : List Oper} {a : Act} {j : Nat} {b c : Bool} (hg : o.guard = some (j, b)) (hy : yielded ops a.tmps j = some c) (hne : (some c == some b) = false)
    (h : wpHeldG P ops S L l (a.put o.dst undef)) : wpHeldG P ops S L (o :: l) a :=
  ⟨undef, .inr ⟨by simpa [Region.wanted, hg, hy] using hne, rfl⟩, h⟩
theorem heldG_nil {ops : Array Oper} {L : Act → Prop} {a : Act} (h : L a) : wpHeldG P ops S L [] a := h
theorem heldG_mono {ops : Array Oper} {L L' : Act → Prop} (hL : ∀ a, L a → L' a) : ∀ (l : List Oper) (a : Act), wpHeldG P ops S L l a → wpHeldG P ops S L' l a
  | [], a, h => hL a h
  | o :: l, a, ⟨v, h1, h2⟩ => ⟨v, h1, heldG_mono hL l _ h2⟩
theorem heldG_heads {ops : Array Oper} {f : Nat} {w : World} (hs : Region.noSelect ops = true) (hQ : ∀ c a d v w, Q (.panic c) (Act.put a d v) w → Q (.panic c) a w) (hS : S w) :
    ∀ (σ : List Nat) (so : List Oper) (pre : List Nat) (a : Act), σ.map (fun i => ops[i]?) = so.map some → headsB ops pre σ = true →
    wpHeldG P ops S (fun a' => wpAnyH P .any ops Q S f (doneBy ops.size (pre ++ σ)) a' w) so a → wpAnyH P .any ops Q S (f + σ.length) (doneBy ops.size pre) a w
  | [], so, pre, a, hso, _, h => by
    have : so = [] := by cases so with | nil => rfl | cons o so => simp at hso
    subst this; simp only [List.append_nil] at h; exact h
  | i :: σ, so, pre, a, hso, hB, h => by
    cases so with
    | nil => simp at hso
    | cons o so =>
      simp only [List.map_cons, List.cons.injEq] at hso
      simp only [headsB, Bool.and_eq_true] at hB
      obtain ⟨v, h1, h2⟩ := h
      have ih := heldG_heads (f := f) (w := w) hs hQ hS σ so (pre ++ [i]) (a.put o.dst v) hso.2 hB.2.2 (by simpa using h2)
      rw [doneBy_snoc] at ih
      have := wpAnyH_take (fuel := f + σ.length) hso.1 hs hB.1 hB.2.1 (fun c a w h => hQ c a _ _ w h) h1 hS ih
      simpa [Nat.add_assoc] using this
/-- The law. -/
theorem wp_region_heldG {id : Nat} {a : Act} {w : World} {l : List Oper} (S : World → Prop) (σ : List Nat) (t1 t2 : Nat) (G : List (Nat × Nat)) (hm : P.follows .mixedOrders = true)
    (hB : (Region.noSelect l.toArray && (headsB l.toArray [] σ && (decide (Region.ready .any l.toArray (doneBy l.toArray.size σ) = [t1]) && (decide (Region.ready .any l.toArray (doneBy l.toArray.size (σ ++ [t1])) = [t2]) && (decide (Region.ready .any l.toArray (doneBy l.toArray.size (σ ++ [t1] ++ [t2])) = []) && G.all (fun p => decide (((l.toArray[p.1]?).bind fun x => x.dst) = some p.2))))))) = true)
    (hlen : l.length = 2 + σ.length) (so : List Oper) (o1 o2 : Oper) (hso : σ.map (fun i => l.toArray[i]?) = so.map some) (h1 : l.toArray[t1]? = some o1) (h2 : l.toArray[t2]? = some o2)
    (hQ : ∀ c a d v w, Q (.panic c) (Act.put a d v) w → Q (.panic c) a w) (hS : S w.drew)
    (h : ∀ ops : Array Oper, (∀ p ∈ G, ((ops[p.1]?).bind fun x => x.dst) = some p.2) → wpHeldG P ops S (fun a' => wpList P ops (Exit.then (fun a1 w1 => S w1 ∧ wpList P ops (Exit.then (fun a2 w2 => S w2 ∧ Q .normal a2 w2) Q) [o2] a1 w1) Q) [o1] a' w.drew) so a) : (Code.region id l.toArray true).wp P Q a w := by
  simp only [Bool.and_eq_true, decide_eq_true_eq, List.all_eq_true] at hB
  obtain ⟨hs, hh, r1, r2, r3, hG⟩ := hB
  refine wp_region_held (S := S) hm ?_
  have key := heldG_heads (P := P) (Q := Q) (S := S) (ops := l.toArray) (f := 2) (w := w.drew) hs hQ hS σ so [] a hso hh ?_
  · have e : l.toArray.size = 2 + σ.length := by simp [hlen]
    rw [← e] at key; simpa [doneBy] using key
  · refine heldG_mono (fun a' h' => ?_) _ _ (h l.toArray hG)
    refine wpAnyH_all (rs := [t1]) (by simpa using r1) (by simp) (fun x hx => ?_)
    simp only [List.mem_singleton] at hx
    subst hx
    refine wpOp_mono (fun a1 w1 hk => ⟨hk.1, ?_⟩) (op_then h1 h')
    have e : (doneBy l.toArray.size ([] ++ σ)).setIfInBounds x true = doneBy l.toArray.size (σ ++ [x]) := by rw [doneBy_snoc]; rfl
    rw [e]
    refine wpAnyH_all (rs := [t2]) r2 (by simp) (fun y hy => ?_)
    simp only [List.mem_singleton] at hy
    subst hy
    refine wpOp_mono (fun a2 w2 hk2 => ⟨hk2.1, ?_⟩) (op_then h2 hk.2)
    have e2 : (doneBy l.toArray.size (σ ++ [x])).setIfInBounds y true = doneBy l.toArray.size (σ ++ [x] ++ [y]) := (doneBy_snoc _ _ _).symm
    rw [e2]
    exact wpAnyH_done r3 hk2.2 0
end
end Go.Proofs.YtbihjgfbocpobaaGreatDoor

/- As CeHeld, with three operations that wait. -/
set_option linter.unusedSimpArgs false
set_option linter.unusedVariables false
namespace Go.Proofs.YtbihjgfbocpobaaGreatDoor
open Go.RowKit
section
variable {P : Program} {Q : Exit → Act → World → Prop} {S : World → Prop}
theorem wp_region_heldG3 {id : Nat} {a : Act} {w : World} {l : List Oper} (S : World → Prop) (σ : List Nat) (t1 t2 t3 : Nat) (G : List (Nat × Nat)) (hm : P.follows .mixedOrders = true)
    (hB : (Region.noSelect l.toArray && (headsB l.toArray [] σ && (decide (Region.ready .any l.toArray (doneBy l.toArray.size σ) = [t1]) && (decide (Region.ready .any l.toArray (doneBy l.toArray.size (σ ++ [t1])) = [t2]) && (decide (Region.ready .any l.toArray (doneBy l.toArray.size (σ ++ [t1] ++ [t2])) = [t3]) && (decide (Region.ready .any l.toArray (doneBy l.toArray.size (σ ++ [t1] ++ [t2] ++ [t3])) = []) && G.all (fun p => decide (((l.toArray[p.1]?).bind fun x => x.dst) = some p.2)))))))) = true)
    (hlen : l.length = 3 + σ.length) (so : List Oper) (o1 o2 o3 : Oper) (hso : σ.map (fun i => l.toArray[i]?) = so.map some) (h1 : l.toArray[t1]? = some o1) (h2 : l.toArray[t2]? = some o2) (h3 : l.toArray[t3]? = some o3)
    (hQ : ∀ c a d v w, Q (.panic c) (Act.put a d v) w → Q (.panic c) a w) (hS : S w.drew)
    (h : ∀ ops : Array Oper, (∀ p ∈ G, ((ops[p.1]?).bind fun x => x.dst) = some p.2) → wpHeldG P ops S (fun a' => wpList P ops (Exit.then (fun a1 w1 => S w1 ∧ wpList P ops (Exit.then (fun a2 w2 => S w2 ∧ wpList P ops (Exit.then (fun a3 w3 => S w3 ∧ Q .normal a3 w3) Q) [o3] a2 w2) Q) [o2] a1 w1) Q) [o1] a' w.drew) so a) : (Code.region id l.toArray true).wp P Q a w := by
  simp only [Bool.and_eq_true, decide_eq_true_eq, List.all_eq_true] at hB
  obtain ⟨hs, hh, r1, r2, r3, r4, hG⟩ := hB
  refine wp_region_held (S := S) hm ?_
  have key := heldG_heads (P := P) (Q := Q) (S := S) (ops := l.toArray) (f := 3) (w := w.drew) hs hQ hS σ so [] a hso hh ?_
  · have e : l.toArray.size = 3 + σ.length := by simp [hlen]
    rw [← e] at key; simpa [doneBy] using key
  · refine heldG_mono (fun a' h' => ?_) _ _ (h l.toArray hG)
    refine wpAnyH_all (rs := [t1]) (by simpa using r1) (by simp) (fun x hx => ?_)
    simp only [List.mem_singleton] at hx
    subst hx
    refine wpOp_mono (fun a1 w1 hk => ⟨hk.1, ?_⟩) (op_then h1 h')
    have e : (doneBy l.toArray.size ([] ++ σ)).setIfInBounds x true = doneBy l.toArray.size (σ ++ [x]) := by rw [doneBy_snoc]; rfl
    rw [e]
    refine wpAnyH_all (rs := [t2]) r2 (by simp) (fun y hy => ?_)
    simp only [List.mem_singleton] at hy
    subst hy
    refine wpOp_mono (fun a2 w2 hk2 => ⟨hk2.1, ?_⟩) (op_then h2 hk.2)
    have e2 : (doneBy l.toArray.size (σ ++ [x])).setIfInBounds y true = doneBy l.toArray.size (σ ++ [x] ++ [y]) := (doneBy_snoc _ _ _).symm
    rw [e2]
    refine wpAnyH_all (rs := [t3]) r3 (by simp) (fun z hz => ?_)
    simp only [List.mem_singleton] at hz
    subst hz
    refine wpOp_mono (fun a3 w3 hk3 => ⟨hk3.1, ?_⟩) (op_then h3 hk2.2)
    have e3 : (doneBy l.toArray.size (σ ++ [x] ++ [y])).setIfInBounds z true = doneBy l.toArray.size (σ ++ [x] ++ [y] ++ [z]) := (doneBy_snoc _ _ _).symm
    rw [e3]
    exact wpAnyH_done r4 hk3.2 0
end
end Go.Proofs.YtbihjgfbocpobaaGreatDoor

/- The program's readNode. -/
set_option linter.unusedSimpArgs false
set_option linter.unusedVariables false
namespace Go.Proofs.YtbihjgfbocpobaaGreatDoor
open Go.RowKit

set_option maxRecDepth 100000 in
set_option maxHeartbeats 4000000 in
theorem readNode_short (P T : Nat) (ws : List (List UInt8)) (b cap : Nat) (w : World) (hl : ws.length < 3) :
    Calls Tryz.prog 54 #[.pointer (some ⟨P, 0, none⟩), .pointer (some ⟨T, 0, none⟩), .slice (some ⟨b, 0, none⟩) ws.length cap] w fun e w' => e = .returned (.bool false) ∧ w' = w.drew := by
  have h3I : (ws.length : Int) < 3 := by omega
  go_enter Tryz.func54, Tryz.ntmps54
  go_wp2_with fail
  refine wp_region_heldG3 (fun W => True) [0, 1, 2, 3, 4, 5, 6, 7, 8, 9, 10, 11] 12 13 14 [(3, 17)] (by kernel_rfl) (by kernel_rfl) rfl [_, _, _, _, _, _, _, _, _, _, _, _] _ _ _ rfl rfl rfl rfl (fun c a d v w h => by cases d <;> exact h) trivial (fun ops hG => ?_)
  have g1 := hG (3, 17) (by simp)
  simp only at g1
  clear hG
  repeat
    first
    | (refine heldG_plain rfl (fun K hK => ?_)
       apply Exists.intro
       refine ⟨fun w' hw' => ?_, ?_⟩
       · go_simp
         try with_reducible rfl
       go_simp
       refine hK _ ?_
       clear hK K)
    | (refine heldG_skip rfl (c := true) (by simp [yielded, g1, Act.put]) (by decide) ?_
       simp only [List.getElem_toArray, List.getElem_cons_succ, List.getElem_cons_zero])
  refine heldG_nil ?_
  simp only [Act.put]
  refine wpList_skip (by simp [Region.wanted, yielded, g1]) ?_
  go_wp2_with fail
  refine ⟨trivial, ?_⟩
  refine wpList_skip (by simp [Region.wanted, yielded, g1, Act.put]) ?_
  go_wp2_with fail
  refine ⟨trivial, ?_⟩
  clear g1
  go_wp2_with fail
  refine ⟨trivial, ?_⟩
  go_wp2
  go_ret
  exact ⟨rfl, rfl⟩
end Go.Proofs.YtbihjgfbocpobaaGreatDoor
