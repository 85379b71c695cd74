/- Texts Lng CdHeld CdOrd CeHeld. -/
import Derived.Test.YtbihjgfbocpobaaGreatDoorM14
import Derived.OrdersHeld
import Derived.WalkKit
/- The program's lines.Each. -/
set_option linter.unusedSimpArgs false
set_option linter.unusedVariables false
namespace Go.Proofs.YtbihjgfbocpobaaGreatDoor
open Go.RowKit

/-- How reading line by line ends: by coming to the end, or by a fault. -/
def EachEnds (St : Nat → List UInt8 → World → Prop) (Rp : Int → Int → World → Prop) (e : Ending) (w' : World) : Prop :=
  (∃ i : Nat, e = .returned (.int .i64 i) ∧ 0 < i ∧ St i [] w') ∨ ∃ n p, e = .panicked (stopAt n p) ∧ Rp n p w'

set_option maxRecDepth 100000 in
set_option maxHeartbeats 4000000 in
theorem each_any (f : FuncId) (cap : Array Value) (l : List UInt8) (w : World) (St : Nat → List UInt8 → World → Prop) (Rp : Int → Int → World → Prop)
    (hin : ∀ args W, (callFunc f args).run Tryz.prog W = .ok (.enter f args) W)
    (hb : ∀ i s W W', St i s W → Below W.heap.size W W' → St i s W')
    (hm : ∀ i s W, St i s W → MaxLenIs W)
    (hs : ∀ i s W, St i s W → s.length + i ≤ 40000)
    (hr : ∀ i s W, St i s W → (i = 0 ∨ s ≠ []) → (Lib.cut s [10]).2.2 = false → Rp 2 ((i : Int) + 1) W)
    (hd : ∀ i s W b n, St i s W → (i = 0 ∨ s ≠ []) → (Lib.cut s [10]).2.2 = true → n = (Fl.cutR 32 (Lib.cut s [10]).1).length → WordsAt W.heap.size W (.slice (some ⟨b, 0, none⟩) n n) (Fl.cutR 32 (Lib.cut s [10]).1) →
      Calls Tryz.prog f (#[.int .i64 ((i : Int) + 1), .slice (some ⟨b, 0, none⟩) n n] ++ cap) W fun e W' => (e = .returned (.tuple #[]) ∧ St (i + 1) (Lib.cut s [10]).2.1 W') ∨ ∃ n p, e = .panicked (stopAt n p) ∧ Rp n p W')
    (h0 : St 0 l w) :
    Calls Tryz.prog 51 #[.string ⟨l.toArray⟩, .func (.func f) #[] cap] w (EachEnds St Rp) := by
  have HB : Hid _ := hb
  have HM : Hid _ := hm
  have HS : Hid _ := hs
  have HRR : Hid _ := hr
  have HD : Hid _ := hd
  have H0 : Hid _ := h0
  clear hb hm hs hr hd h0
  go_enter Tryz.func51, Tryz.ntmps51
  go_wp2
  go_loopw [0, 5] (fun s i wr => ∃ (k : Nat) (t : List UInt8), s = .string ⟨t.toArray⟩ ∧ i = .int .i64 k ∧ St k t wr) (fun s i _ => match s with | .string b => b.size | _ => 0)
  case atStart => exact ⟨0, l, rfl, rfl, H0.out⟩
  case round =>
    obtain ⟨k, t, rfl, rfl, hst⟩ := hrel
    have HST : Hid (St k t wr) := hst
    have hsz := HS.out k t wr hst
    clear hst
    by_cases hgo : k = 0 ∨ t ≠ []
    · have b0 : ((k : Int) == 0) = true ∨ ((k : Int) == 0) = false ∧ t.isEmpty = false := by
        rcases hgo with h | h
        · left; simp [h]
        · by_cases hk : k = 0
          · left; simp [hk]
          · right; exact ⟨by simp; omega, by simpa using h⟩
      have HGO : Hid (k = 0 ∨ t ≠ []) := hgo
      clear hgo
      have hcut := lcut_any t wr (by omega) (HM.out _ _ _ HST.out)
      obtain ⟨a, r, en, hcr⟩ : ∃ a r en, Lib.cut t [10] = (a, r, en) := ⟨_, _, _, rfl⟩
      rw [hcr] at hcut
      have HCUT : Hid (Calls Tryz.prog 78 #[.string ⟨t.toArray⟩, .string ⟨#[10]⟩] wr fun e w' => e = .returned (.tuple #[.string ⟨a.toArray⟩, .string ⟨r.toArray⟩, .bool en]) ∧ Below wr.heap.size wr w') := hcut
      have HCR : Hid (Lib.cut t [10] = (a, r, en)) := hcr
      clear hcut hcr
      rcases b0 with b0 | ⟨b0, b1⟩
      all_goals
        go_wp2_with fail
        refine HCUT.out.mono ?_
        rintro e w1 ⟨rfl, hb1⟩
        have HST1 : Hid (St k t w1) := HB.out _ _ _ _ HST.out hb1
        clear hb1
        cases en with
        | false =>
          go_wp2_with fail
          refine (raise_any 2 ((k : Int) + 1) w1).mono ?_
          rintro e w2 ⟨rfl, hb2⟩
          exact ⟨rfl, .inr ⟨_, _, rfl, HRR.out k t w2 (HB.out _ _ _ _ HST1.out hb2) HGO.out (by rw [HCR.out])⟩⟩
        | true =>
          have hfd := Fl.cut_found 10 t (by rw [HCR.out])
          rw [HCR.out] at hfd
          have hrl : r.length < t.length := hfd.2
          have hal : a.length ≤ 40000 := by
            have := (cutR_len 10 t).2 a (by rw [hfd.1]; exact List.mem_cons_self); omega
          clear hfd
          obtain ⟨nw, hnw⟩ : ∃ nw, nw = (Fl.cutR 32 a).length := ⟨_, rfl⟩
          have HSP : Hid (Calls Tryz.prog 79 #[.string ⟨a.toArray⟩, .string ⟨#[32]⟩] w1 fun e w' => e = .returned (.slice (some ⟨w1.heap.size, 0, none⟩) nw nw) ∧ WordsAt w'.heap.size w' (.slice (some ⟨w1.heap.size, 0, none⟩) nw nw) (Fl.cutR 32 a) ∧ Below w1.heap.size w1 w') := by
            show Calls _ _ _ _ _
            rw [hnw]; exact lsplit_any a w1 hal (HM.out _ _ _ HST1.out)
          have HNW : Hid (nw = (Fl.cutR 32 a).length) := hnw
          clear hnw
          go_wp2_with fail
          refine HSP.out.mono ?_
          rintro e w2 ⟨rfl, hwa, hb2⟩
          have HST2 : Hid (St k t w2) := HB.out _ _ _ _ HST1.out hb2
          have hdo := HD.out k t w2 w1.heap.size nw HST2.out HGO.out (by rw [HCR.out]) (by rw [HCR.out]; exact HNW.out) (by rw [HCR.out]; exact hwa)
          rw [HCR.out] at hdo
          have HDO : Hid (Calls Tryz.prog f (#[.int .i64 ((k : Int) + 1), .slice (some ⟨w1.heap.size, 0, none⟩) nw nw] ++ cap) w2 fun e W' => (e = .returned (.tuple #[]) ∧ St (k + 1) r W') ∨ ∃ n p, e = .panicked (stopAt n p) ∧ Rp n p W') := hdo
          clear hwa hb2 hdo
          go_wp2_with fail
          refine HDO.out.mono ?_
          rintro e w3 (⟨rfl, hs3⟩ | ⟨n, p, rfl, hp⟩)
          · have HS3 : Hid (St (k + 1) r w3) := hs3
            clear hs3
            go_wp2
            go_roundw
            case rel => exact ⟨k + 1, r, rfl, by go_num, HS3.out⟩
            case measure => exact hrl
          · exact ⟨rfl, .inr ⟨_, _, rfl, hp⟩⟩
    · have hk : k ≠ 0 := fun h => hgo (.inl h)
      have ht : t = [] := Classical.byContradiction fun h => hgo (.inr h)
      subst ht
      have b0 : ((k : Int) == 0) = false := by simp; omega
      have HK : Hid (0 < k) := by show 0 < k; omega
      clear hgo hk
      go_wp2
      go_ret
      exact .inl ⟨k, rfl, HK.out, HST.out⟩
end Go.Proofs.YtbihjgfbocpobaaGreatDoor

/- A region that draws its order: operations that only read, an allocation that waits for nobody, and a last one that waits for all. -/
set_option linter.unusedSimpArgs false
set_option linter.unusedVariables false
namespace Go.Proofs.YtbihjgfbocpobaaGreatDoor
open Go.RowKit

/-- The first k are done. -/
def upTo (m : Nat) : Nat → Array Bool
  | 0 => Array.replicate m false
  | k + 1 => (upTo m k).setIfInBounds k true
/-- Operations, each of which yields its value in every world that meets S. -/
def wpHeld (P : Program) (S : World → Prop) (L : Act → Prop) : List Oper → Act → Prop
  | [], a => L a
  | o :: l, a => o.guard = none ∧ ∃ v, (∀ w, S w → (execOp a.eval o).run P w = .ok (.value v) w) ∧ wpHeld P S L l (a.put o.dst v)
theorem wpHeld_step {P : Program} {S : World → Prop} {L : Act → Prop} {o : Oper} {l : List Oper} {a : Act} (hg : o.guard = none)
    (h : ∀ K : Act → Prop, (∀ a', wpHeld P S L l a' → K a') → ∃ v, (∀ w, S w → (execOp a.eval o).run P w = .ok (.value v) w) ∧ K (a.put o.dst v)) : wpHeld P S L (o :: l) a := by
  obtain ⟨v, h1, h2⟩ := h (wpHeld P S L l) (fun _ h => h)
  exact ⟨hg, v, h1, h2⟩
theorem wpHeld_hide {P : Program} {S : World → Prop} {L : Act → Prop} {l : List Oper} {a : Act} (h : ∀ L' : Act → Prop, Hid (∀ a, L a → L' a) → wpHeld P S L' l a) : wpHeld P S L l a := h L (fun _ h => h)
def heldB (ops : Array Oper) (n : Nat) : Bool :=
  Region.noSelect ops && ((List.range n).all (fun k => Region.free .any ops (upTo ops.size k) k && (Region.ready .any ops (upTo ops.size k)).contains k) &&
    (decide (Region.ready .any ops (upTo ops.size n) = [n]) && (decide (Region.ready .any ops (upTo ops.size (n + 1)) = [n + 1]) && decide (Region.ready .any ops (upTo ops.size (n + 2)) = []))))
section
variable {P : Program} {S : World → Prop} {Q : Exit → Act → World → Prop} {w : World}
theorem held_heads {ops : Array Oper} {n f : Nat} (hs : Region.noSelect ops = true) (hall : ∀ k, k < n → Region.free .any ops (upTo ops.size k) k = true ∧ (Region.ready .any ops (upTo ops.size k)).contains k = true)
    (hQ : ∀ c a d v w, Q (.panic c) (Act.put a d v) w → Q (.panic c) a w) (hS : S w) : ∀ (l : List Oper) (k : Nat) (a : Act), (∀ j, j < l.length → l[j]? = ops[k + j]?) → k + l.length = n →
    wpHeld P S (fun a' => wpAnyH P .any ops Q S f (upTo ops.size n) a' w) l a → wpAnyH P .any ops Q S (f + l.length) (upTo ops.size k) a w
  | [], k, a, _, hk, h => by simp only [List.length_nil, Nat.add_zero] at hk ⊢; subst hk; exact h
  | o :: l, k, a, hl, hk, h => by
    obtain ⟨hg, v, h1, h2⟩ := h
    have h0 : ops[k]? = some o := by have := hl 0 (by simp); simpa using this.symm
    have hk' : k < n := by simp only [List.length_cons] at hk; omega
    have ih := held_heads hs hall hQ hS l (k + 1) (a.put o.dst v) (fun j hj => by have := hl (j + 1) (by simp; omega); simpa [Nat.add_assoc, Nat.add_comm 1 j] using this) (by simp only [List.length_cons] at hk; omega) h2
    have := wpAnyH_take (fuel := f + l.length) h0 hs (hall k hk').1 (hall k hk').2 (fun c a w h => hQ c a _ _ w h) (Or.inl ⟨by simp [Region.wanted, hg], h1⟩) hS ih
    simpa [Nat.add_assoc] using this
/-- The law. -/
theorem wp_region_alloc {id : Nat} {a : Act} {l : List Oper} (n : Nat) (hm : P.follows .mixedOrders = true) (hB : heldB l.toArray n = true) (hn : l.length = n + 2)
    (hQ : ∀ c a d v w, Q (.panic c) (Act.put a d v) w → Q (.panic c) a w) (oA oS : Oper) (hA : l[n]? = some oA) (hS' : l[n + 1]? = some oS) (gA : oA.guard = none) (gS : oS.guard = none)
    (hS : S w.drew) (h : wpHeld P S (fun a' => ∃ va w1 w2, (execOp a'.eval oA).run P w.drew = .ok (.value va) w1 ∧ S w1 ∧ (execOp (a'.put oA.dst va).eval oS).run P w1 = .ok .skip w2 ∧ S w2 ∧ Q .normal ((a'.put oA.dst va).put oS.dst undef) w2) (l.take n) a) :
    (Code.region id l.toArray true).wp P Q a w := by
  simp only [heldB, Bool.and_eq_true, decide_eq_true_eq, List.all_eq_true, List.mem_range] at hB
  obtain ⟨hs, hall, r0, r1, r2⟩ := hB
  refine wp_region_held (S := S) hm ?_
  have hz : l.toArray.size = n + 2 := by simp [hn]
  have htl : (l.take n).length = n := by simp; omega
  have key := held_heads (P := P) (S := S) (Q := Q) (w := w.drew) (ops := l.toArray) (n := n) (f := 2) hs hall hQ hS (l.take n) 0 a (fun j hj => by
    have hj' : j < n := by rw [htl] at hj; exact hj
    simp [hj']) (by rw [htl]; simp) ?_
  · rw [htl, Nat.add_comm, ← hz] at key; exact key
  · have mono : ∀ (l' : List Oper) (a : Act) (L L' : Act → Prop), (∀ a, L a → L' a) → wpHeld P S L l' a → wpHeld P S L' l' a := by
      intro l'
      induction l' with
      | nil => intro a L L' hL h; exact hL a h
      | cons o l' ih => intro a L L' hL h; obtain ⟨hg, v, h1, h2⟩ := h; exact ⟨hg, v, h1, ih _ L L' hL h2⟩
    refine mono _ _ _ _ (fun a' ⟨va, w1, w2, e1, s1, e2, s2, q⟩ => ?_) h
    refine wpAnyH_all r0 (by simp) (fun i hi => ?_)
    simp only [List.mem_singleton] at hi
    subst hi
    have hAi : l.toArray[i]? = some oA := by simpa using hA
    have hSi : l.toArray[i + 1]? = some oS := by simpa using hS'
    unfold wpOp
    simp only [hAi, Region.wanted, gA, if_true, Oper.wp, e1, Oper.upon]
    refine .inl ⟨s1, wpAnyH_all r1 (by simp) (fun j hj => ?_)⟩
    simp only [List.mem_singleton] at hj
    subst hj
    unfold wpOp
    simp only [hSi, Region.wanted, gS, if_true, Oper.wp, e2, Oper.upon]
    exact .inl ⟨s2, wpAnyH_done r2 q 0⟩
end
end Go.Proofs.YtbihjgfbocpobaaGreatDoor

/- A region that draws its order: some operations look at no memory and are taken first; the others come up in one order, or in one of two. -/
set_option linter.unusedSimpArgs false
set_option linter.unusedVariables false
namespace Go.Proofs.YtbihjgfbocpobaaGreatDoor
open Go.RowKit

def doneBy (m : Nat) (l : List Nat) : Array Bool := l.foldl (fun d i => d.setIfInBounds i true) (Array.replicate m false)
theorem doneBy_snoc (m : Nat) (l : List Nat) (i : Nat) : doneBy m (l ++ [i]) = (doneBy m l).setIfInBounds i true := by simp [doneBy]
def headsB (ops : Array Oper) : List Nat → List Nat → Bool
  | _, [] => true
  | pre, i :: rest => Region.free .any ops (doneBy ops.size pre) i && ((Region.ready .any ops (doneBy ops.size pre)).contains i && headsB ops (pre ++ [i]) rest)
def forcedB (ops : Array Oper) : List Nat → List Nat → Bool
  | pre, [] => decide (Region.ready .any ops (doneBy ops.size pre) = [])
  | pre, i :: rest => decide (Region.ready .any ops (doneBy ops.size pre) = [i]) && forcedB ops (pre ++ [i]) rest
section
variable {P : Program} {Q : Exit → Act → World → Prop}
theorem ord_heads {ops : Array Oper} {f : Nat} {w : World} (hs : Region.noSelect ops = true) (hQ : ∀ c a d v w, Q (.panic c) (Act.put a d v) w → Q (.panic c) a w) :
    ∀ (σ : List Nat) (so : List Oper) (pre : List Nat) (a : Act), σ.map (fun i => ops[i]?) = so.map some → headsB ops pre σ = true →
    wpHeld P (fun _ => True) (fun a' => wpAnyH P .any ops Q (fun _ => True) f (doneBy ops.size (pre ++ σ)) a' w) so a → wpAnyH P .any ops Q (fun _ => True) (f + σ.length) (doneBy ops.size pre) a w
  | [], so, pre, a, hso, _, h => by
    have : so = [] := by cases so with | nil => rfl | cons o so => simp at hso
    subst this; simp only [List.append_nil] at h; exact h
  | i :: σ, so, pre, a, hso, hB, h => by
    cases so with
    | nil => simp at hso
    | cons o so =>
      simp only [List.map_cons, List.cons.injEq] at hso
      simp only [headsB, Bool.and_eq_true] at hB
      obtain ⟨hg, v, h1, h2⟩ := h
      have ih := ord_heads (f := f) (w := w) hs hQ σ so (pre ++ [i]) (a.put o.dst v) hso.2 hB.2.2 (by simpa using h2)
      rw [doneBy_snoc] at ih
      have := wpAnyH_take (fuel := f + σ.length) hso.1 hs hB.1 hB.2.1 (fun c a w h => hQ c a _ _ w h) (Or.inl ⟨by simp [Region.wanted, hg], h1⟩) trivial ih
      simpa [Nat.add_assoc] using this
theorem ord_tail {ops : Array Oper} : ∀ (τ : List Nat) (to : List Oper) (pre : List Nat) (a : Act) (w : World), τ.map (fun i => ops[i]?) = to.map some → forcedB ops pre τ = true →
    wpList P ops Q to a w → wpAnyH P .any ops Q (fun _ => True) τ.length (doneBy ops.size pre) a w
  | [], to, pre, a, w, hto, hB, h => by
    have : to = [] := by cases to with | nil => rfl | cons o to => simp at hto
    subst this
    simp only [forcedB, decide_eq_true_eq] at hB
    exact wpAnyH_done hB h 0
  | i :: τ, to, pre, a, w, hto, hB, h => by
    cases to with
    | nil => simp at hto
    | cons o to =>
      simp only [List.map_cons, List.cons.injEq] at hto
      simp only [forcedB, Bool.and_eq_true, decide_eq_true_eq] at hB
      refine wpAnyH_all hB.1 (by simp) (fun j hj => ?_)
      simp only [List.mem_singleton] at hj
      subst hj
      have hw : wpOp P ops Q j (wpList P ops Q to) a w := by unfold wpOp; simp only [hto.1]; exact h
      refine wpOp_mono (fun a' w' h' => ⟨trivial, ?_⟩) hw
      have := ord_tail τ to (pre ++ [j]) a' w' hto.2 hB.2 h'
      rwa [doneBy_snoc] at this
/-- One order. -/
theorem wp_region_order {id : Nat} {a : Act} {w : World} {l : List Oper} (σ τ : List Nat) (hm : P.follows .mixedOrders = true) (hB : (Region.noSelect l.toArray && (headsB l.toArray [] σ && forcedB l.toArray σ τ)) = true) (hlen : l.length = τ.length + σ.length)
    (so to : List Oper) (hso : σ.map (fun i => l.toArray[i]?) = so.map some) (hto : τ.map (fun i => l.toArray[i]?) = to.map some) (hQ : ∀ c a d v w, Q (.panic c) (Act.put a d v) w → Q (.panic c) a w)
    (h : wpHeld P (fun _ => True) (fun a' => wpList P l.toArray Q to a' w.drew) so a) : (Code.region id l.toArray true).wp P Q a w := by
  simp only [Bool.and_eq_true] at hB
  refine wp_region_held (S := fun _ => True) hm ?_
  have key := ord_heads (P := P) (Q := Q) (ops := l.toArray) (f := τ.length) (w := w.drew) hB.1 hQ σ so [] a hso hB.2.1 ?_
  · rw [← hlen] at key; simpa [doneBy] using key
  · have mono : ∀ (l' : List Oper) (a : Act) (L L' : Act → Prop), (∀ a, L a → L' a) → wpHeld P (fun _ => True) L l' a → wpHeld P (fun _ => True) L' l' a := by
      intro l'
      induction l' with
      | nil => intro a L L' hL h; exact hL a h
      | cons o l' ih => intro a L L' hL h; obtain ⟨hg, v, h1, h2⟩ := h; exact ⟨hg, v, h1, ih _ L L' hL h2⟩
    exact mono _ _ _ _ (fun a' h' => ord_tail τ to _ a' _ hto (by simpa using hB.2.2) h') h
/-- One of two orders. -/
theorem wp_region_order2 {id : Nat} {a : Act} {w : World} {l : List Oper} (σ : List Nat) (i j : Nat) (τ τ' : List Nat) (hm : P.follows .mixedOrders = true)
    (hB : (Region.noSelect l.toArray && (headsB l.toArray [] σ && (decide (Region.ready .any l.toArray (doneBy l.toArray.size σ) = [i, j]) && (forcedB l.toArray (σ ++ [i]) τ && forcedB l.toArray (σ ++ [j]) τ')))) = true) (hlen : l.length = τ.length + 1 + σ.length) (hlen' : τ'.length = τ.length)
    (so : List Oper) (oi oj : Oper) (to to' : List Oper) (hso : σ.map (fun i => l.toArray[i]?) = so.map some) (hi : l.toArray[i]? = some oi) (hj : l.toArray[j]? = some oj) (hto : τ.map (fun i => l.toArray[i]?) = to.map some) (hto' : τ'.map (fun i => l.toArray[i]?) = to'.map some) (hQ : ∀ c a d v w, Q (.panic c) (Act.put a d v) w → Q (.panic c) a w)
    (h : wpHeld P (fun _ => True) (fun a' => wpList P l.toArray Q (oi :: to) a' w.drew ∧ wpList P l.toArray Q (oj :: to') a' w.drew) so a) : (Code.region id l.toArray true).wp P Q a w := by
  simp only [Bool.and_eq_true, decide_eq_true_eq] at hB
  refine wp_region_held (S := fun _ => True) hm ?_
  have key := ord_heads (P := P) (Q := Q) (ops := l.toArray) (f := τ.length + 1) (w := w.drew) hB.1 hQ σ so [] a hso hB.2.1 ?_
  · rw [← hlen] at key; simpa [doneBy] using key
  · have mono : ∀ (l' : List Oper) (a : Act) (L L' : Act → Prop), (∀ a, L a → L' a) → wpHeld P (fun _ => True) L l' a → wpHeld P (fun _ => True) L' l' a := by
      intro l'
      induction l' with
      | nil => intro a L L' hL h; exact hL a h
      | cons o l' ih => intro a L L' hL h; obtain ⟨hg, v, h1, h2⟩ := h; exact ⟨hg, v, h1, ih _ L L' hL h2⟩
    refine mono _ _ _ _ (fun a' h' => ?_) h
    have step : ∀ (x : Nat) (ox : Oper) (tx : List Nat) (tox : List Oper), l.toArray[x]? = some ox → tx.map (fun i => l.toArray[i]?) = tox.map some → forcedB l.toArray (σ ++ [x]) tx = true → tx.length = τ.length → wpList P l.toArray Q (ox :: tox) a' w.drew → wpOp P l.toArray Q x (fun a'' w'' => True ∧ wpAnyH P .any l.toArray Q (fun _ => True) τ.length ((doneBy l.toArray.size ([] ++ σ)).setIfInBounds x true) a'' w'') a' w.drew := by
      intro x ox tx tox hx htx hf hl hw
      have hw' : wpOp P l.toArray Q x (wpList P l.toArray Q tox) a' w.drew := by unfold wpOp; simp only [hx]; exact hw
      refine wpOp_mono (fun a'' w'' h'' => ⟨trivial, ?_⟩) hw'
      have := ord_tail tx tox (σ ++ [x]) a'' w'' htx hf h''
      rw [doneBy_snoc, hl] at this; simpa using this
    refine wpAnyH_all (rs := [i, j]) (by simpa using hB.2.2.1) (by simp) (fun x hx => ?_)
    simp only [List.mem_cons, List.not_mem_nil, or_false] at hx
    rcases hx with rfl | rfl
    · exact step _ oi τ to hi hto hB.2.2.2.1 rfl h'.1
    · exact step _ oj τ' to' hj hto' hB.2.2.2.2 hlen' h'.2
theorem op_then {ops : Array Oper} {y : Nat} {oy : Oper} {K : Act → World → Prop} {a : Act} {w : World} (hy : ops[y]? = some oy) (h : wpList P ops (Exit.then K Q) [oy] a w) : wpOp P ops Q y K a w := by
  have hw : wpOp P ops (Exit.then K Q) y (wpList P ops (Exit.then K Q) []) a w := by unfold wpOp; simp only [hy]; exact h
  have hn : ∀ a w, wpList P ops (Exit.then K Q) [] a w → K a w := fun a w h => h
  unfold wpOp at hw ⊢
  simp only [hy] at hw ⊢
  split
  · rename_i hwt
    rw [if_pos hwt] at hw
    refine hw.imp (fun h1 => ?_) (fun h2 => h2)
    have h2 := Oper.wp_mono hn h1
    unfold Oper.wp at h2 ⊢
    generalize (execOp a.eval oy).run P w = r at *
    cases r with
    | ok n w' => cases n <;> exact h2
    | halt x w' => cases x <;> exact h2
  · rename_i hwt
    rw [if_neg hwt] at hw; exact hn _ _ hw
/-- One of three orders: x first; or y (whatever it does), then p or r. -/
theorem wp_region_forkc {id : Nat} {a : Act} {w : World} {l : List Oper} (σ : List Nat) (x y p r : Nat) (τx τp τr : List Nat) (hm : P.follows .mixedOrders = true)
    (hB : (Region.noSelect l.toArray && (headsB l.toArray [] σ && (decide (Region.ready .any l.toArray (doneBy l.toArray.size σ) = [x, y]) && (forcedB l.toArray (σ ++ [x]) τx && (decide (Region.ready .any l.toArray (doneBy l.toArray.size (σ ++ [y])) = [p, r]) && (forcedB l.toArray (σ ++ [y] ++ [p]) τp && forcedB l.toArray (σ ++ [y] ++ [r]) τr)))))) = true)
    (hlen : l.length = τp.length + 2 + σ.length) (hlx : τx.length = τp.length + 1) (hlr : τr.length = τp.length)
    (so : List Oper) (ox oy op or : Oper) (tox top tor : List Oper) (hso : σ.map (fun i => l.toArray[i]?) = so.map some) (hx : l.toArray[x]? = some ox) (hy : l.toArray[y]? = some oy) (hp : l.toArray[p]? = some op) (hr : l.toArray[r]? = some or)
    (htx : τx.map (fun i => l.toArray[i]?) = tox.map some) (htp : τp.map (fun i => l.toArray[i]?) = top.map some) (htr : τr.map (fun i => l.toArray[i]?) = tor.map some) (hQ : ∀ c a d v w, Q (.panic c) (Act.put a d v) w → Q (.panic c) a w)
    (h : wpHeld P (fun _ => True) (fun a' => wpList P l.toArray Q (ox :: tox) a' w.drew ∧ wpList P l.toArray (Exit.then (fun a'' w'' => wpList P l.toArray Q (op :: top) a'' w'' ∧ wpList P l.toArray Q (or :: tor) a'' w'') Q) [oy] a' w.drew) so a) : (Code.region id l.toArray true).wp P Q a w := by
  simp only [Bool.and_eq_true, decide_eq_true_eq] at hB
  refine wp_region_held (S := fun _ => True) hm ?_
  have key := ord_heads (P := P) (Q := Q) (ops := l.toArray) (f := τp.length + 2) (w := w.drew) hB.1 hQ σ so [] a hso hB.2.1 ?_
  · rw [← hlen] at key; simpa [doneBy] using key
  · have mono : ∀ (l' : List Oper) (a : Act) (L L' : Act → Prop), (∀ a, L a → L' a) → wpHeld P (fun _ => True) L l' a → wpHeld P (fun _ => True) L' l' a := by
      intro l'
      induction l' with
      | nil => intro a L L' hL h; exact hL a h
      | cons o l' ih => intro a L L' hL h; obtain ⟨hg, v, h1, h2⟩ := h; exact ⟨hg, v, h1, ih _ L L' hL h2⟩
    refine mono _ _ _ _ (fun a' h' => ?_) h
    obtain ⟨hx1, hy1⟩ := h'
    have step : ∀ (pre : List Nat) (z : Nat) (oz : Oper) (tz : List Nat) (toz : List Oper) (b : Act) (wb : World), l.toArray[z]? = some oz → tz.map (fun i => l.toArray[i]?) = toz.map some → forcedB l.toArray (pre ++ [z]) tz = true → wpList P l.toArray Q (oz :: toz) b wb → wpOp P l.toArray Q z (fun a'' w'' => True ∧ wpAnyH P .any l.toArray Q (fun _ => True) tz.length ((doneBy l.toArray.size pre).setIfInBounds z true) a'' w'') b wb := by
      intro pre z oz tz toz b wb hz htz hf hw
      have hw' : wpOp P l.toArray Q z (wpList P l.toArray Q toz) b wb := by unfold wpOp; simp only [hz]; exact hw
      refine wpOp_mono (fun a'' w'' h'' => ⟨trivial, ?_⟩) hw'
      have := ord_tail tz toz (pre ++ [z]) a'' w'' htz hf h''
      rwa [doneBy_snoc] at this
    refine wpAnyH_all (rs := [x, y]) (by simpa using hB.2.2.1) (by simp) (fun z hz => ?_)
    simp only [List.mem_cons, List.not_mem_nil, or_false] at hz
    rcases hz with rfl | rfl
    · have := step σ _ ox τx tox a' _ hx htx hB.2.2.2.1 hx1
      rw [hlx] at this; simpa using this
    · refine wpOp_mono (fun b wb hb => ⟨trivial, ?_⟩) (op_then hy hy1)
      have e : (doneBy l.toArray.size ([] ++ σ)).setIfInBounds z true = doneBy l.toArray.size (σ ++ [z]) := by rw [doneBy_snoc]; rfl
      rw [e]
      refine wpAnyH_all (rs := [p, r]) hB.2.2.2.2.1 (by simp) (fun u hu => ?_)
      simp only [List.mem_cons, List.not_mem_nil, or_false] at hu
      rcases hu with rfl | rfl
      · exact step (σ ++ [z]) _ op τp top _ _ hp htp hB.2.2.2.2.2.1 hb.1
      · have := step (σ ++ [z]) _ or τr tor _ _ hr htr hB.2.2.2.2.2.2 hb.2
        rw [hlr] at this; exact this
end
end Go.Proofs.YtbihjgfbocpobaaGreatDoor

/- A region that draws its order: reads under guards, taken first in whatever world meets S; then two operations that wait. -/
set_option linter.unusedSimpArgs false
set_option linter.unusedVariables false
namespace Go.Proofs.YtbihjgfbocpobaaGreatDoor
open Go.RowKit

def wpHeldG (P : Program) (ops : Array Oper) (S : World → Prop) (L : Act → Prop) : List Oper → Act → Prop
  | [], a => L a
  | o :: l, a => ∃ v, YieldsIf P ops S o v a ∧ wpHeldG P ops S L l (a.put o.dst v)
section
variable {P : Program} {Q : Exit → Act → World → Prop} {S : World → Prop}
theorem heldG_plain {ops : Array Oper} {L : Act → Prop} {o : Oper} {l : List Oper} {a : Act} (hg : o.guard = none)
    (h : ∀ K : Act → Prop, (∀ a', wpHeldG P ops S L l a' → K a') → ∃ v, (∀ w, S w → (execOp a.eval o).run P w = .ok (.value v) w) ∧ K (a.put o.dst v)) : wpHeldG P ops S L (o :: l) a := by
  obtain ⟨v, h1, h2⟩ := h (wpHeldG P ops S L l) (fun _ h => h)
  exact ⟨v, .inl ⟨by simp [Region.wanted, hg], h1⟩, h2⟩
theorem heldG_go {ops : Array Oper} {L : Act → Prop} {o : Oper} {l : List Oper} {a : Act} {j : Nat} {b : Bool} (hg : o.guard = some (j, b)) (hy : yielded ops a.tmps j = some b)
    (h : ∀ K : Act → Prop, (∀ a', wpHeldG P ops S L l a' → K a') → ∃ v, (∀ w, S w → (execOp a.eval o).run P w = .ok (.value v) w) ∧ K (a.put o.dst v)) : wpHeldG P ops S L (o :: l) a := by
  obtain ⟨v, h1, h2⟩ := h (wpHeldG P ops S L l) (fun _ h => h)
  exact ⟨v, .inl ⟨by simp [Region.wanted, hg, hy], h1⟩, h2⟩
theorem heldG_skip {ops : Array Oper} {L : Act → Prop} {o : Oper} {l : List Oper} {a : Act} {j : Nat} {b c : Bool} (hg : o.guard = some (j, b)) (hy : yielded ops a.tmps j = some c) (hne : (some c == some b) = false)
    (h : wpHeldG P ops S L l (a.put o.dst undef)) : wpHeldG P ops S L (o :: l) a :=
  ⟨undef, .inr ⟨by simpa [Region.wanted, hg, hy] using hne, rfl⟩, h⟩
theorem heldG_nil {ops : Array Oper} {L : Act → Prop} {a : Act} (h : L a) : wpHeldG P ops S L [] a := h
theorem heldG_mono {ops : Array Oper} {L L' : Act → Prop} (hL : ∀ a, L a → L' a) : ∀ (l : List Oper) (a : Act), wpHeldG P ops S L l a → wpHeldG P ops S L' l a
  | [], a, h => hL a h
  | o :: l, a, ⟨v, h1, h2⟩ => ⟨v, h1, heldG_mono hL l _ h2⟩
theorem heldG_heads {ops : Array Oper} {f : Nat} {w : World} (hs : Region.noSelect ops = true) (hQ : ∀ c a d v w, Q (.panic c) (Act.put a d v) w → Q (.panic c) a w) (hS : S w) :
    ∀ (σ : List Nat) (so : List Oper) (pre : List Nat) (a : Act), σ.map (fun i => ops[i]?) = so.map some → headsB ops pre σ = true →
    wpHeldG P ops S (fun a' => wpAnyH P .any ops Q S f (doneBy ops.size (pre ++ σ)) a' w) so a → wpAnyH P .any ops Q S (f + σ.length) (doneBy ops.size pre) a w
  | [], so, pre, a, hso, _, h => by
    have : so = [] := by cases so with | nil => rfl | cons o so => simp at hso
    subst this; simp only [List.append_nil] at h; exact h
  | i :: σ, so, pre, a, hso, hB, h => by
    cases so with
    | nil => simp at hso
    | cons o so =>
      simp only [List.map_cons, List.cons.injEq] at hso
      simp only [headsB, Bool.and_eq_true] at hB
      obtain ⟨v, h1, h2⟩ := h
      have ih := heldG_heads (f := f) (w := w) hs hQ hS σ so (pre ++ [i]) (a.put o.dst v) hso.2 hB.2.2 (by simpa using h2)
      rw [doneBy_snoc] at ih
      have := wpAnyH_take (fuel := f + σ.length) hso.1 hs hB.1 hB.2.1 (fun c a w h => hQ c a _ _ w h) h1 hS ih
      simpa [Nat.add_assoc] using this
/-- The law. -/
theorem wp_region_heldG {id : Nat} {a : Act} {w : World} {l : List Oper} (S : World → Prop) (σ : List Nat) (t1 t2 : Nat) (G : List (Nat × Nat)) (hm : P.follows .mixedOrders = true)
    (hB : (Region.noSelect l.toArray && (headsB l.toArray [] σ && (decide (Region.ready .any l.toArray (doneBy l.toArray.size σ) = [t1]) && (decide (Region.ready .any l.toArray (doneBy l.toArray.size (σ ++ [t1])) = [t2]) && (decide (Region.ready .any l.toArray (doneBy l.toArray.size (σ ++ [t1] ++ [t2])) = []) && G.all (fun p => decide (((l.toArray[p.1]?).bind fun x => x.dst) = some p.2))))))) = true)
    (hlen : l.length = 2 + σ.length) (so : List Oper) (o1 o2 : Oper) (hso : σ.map (fun i => l.toArray[i]?) = so.map some) (h1 : l.toArray[t1]? = some o1) (h2 : l.toArray[t2]? = some o2)
    (hQ : ∀ c a d v w, Q (.panic c) (Act.put a d v) w → Q (.panic c) a w) (hS : S w.drew)
    (h : ∀ ops : Array Oper, (∀ p ∈ G, ((ops[p.1]?).bind fun x => x.dst) = some p.2) → wpHeldG P ops S (fun a' => wpList P ops (Exit.then (fun a1 w1 => S w1 ∧ wpList P ops (Exit.then (fun a2 w2 => S w2 ∧ Q .normal a2 w2) Q) [o2] a1 w1) Q) [o1] a' w.drew) so a) : (Code.region id l.toArray true).wp P Q a w := by
  simp only [Bool.and_eq_true, decide_eq_true_eq, List.all_eq_true] at hB
  obtain ⟨hs, hh, r1, r2, r3, hG⟩ := hB
  refine wp_region_held (S := S) hm ?_
  have key := heldG_heads (P := P) (Q := Q) (S := S) (ops := l.toArray) (f := 2) (w := w.drew) hs hQ hS σ so [] a hso hh ?_
  · have e : l.toArray.size = 2 + σ.length := by simp [hlen]
    rw [← e] at key; simpa [doneBy] using key
  · refine heldG_mono (fun a' h' => ?_) _ _ (h l.toArray hG)
    refine wpAnyH_all (rs := [t1]) (by simpa using r1) (by simp) (fun x hx => ?_)
    simp only [List.mem_singleton] at hx
    subst hx
    refine wpOp_mono (fun a1 w1 hk => ⟨hk.1, ?_⟩) (op_then h1 h')
    have e : (doneBy l.toArray.size ([] ++ σ)).setIfInBounds x true = doneBy l.toArray.size (σ ++ [x]) := by rw [doneBy_snoc]; rfl
    rw [e]
    refine wpAnyH_all (rs := [t2]) r2 (by simp) (fun y hy => ?_)
    simp only [List.mem_singleton] at hy
    subst hy
    refine wpOp_mono (fun a2 w2 hk2 => ⟨hk2.1, ?_⟩) (op_then h2 hk.2)
    have e2 : (doneBy l.toArray.size (σ ++ [x])).setIfInBounds y true = doneBy l.toArray.size (σ ++ [x] ++ [y]) := (doneBy_snoc _ _ _).symm
    rw [e2]
    exact wpAnyH_done r3 hk2.2 0
end
end Go.Proofs.YtbihjgfbocpobaaGreatDoor
