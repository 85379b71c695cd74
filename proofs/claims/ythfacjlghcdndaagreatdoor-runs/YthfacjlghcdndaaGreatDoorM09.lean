/- Texts Prg Prh CdHeld CdOrd. -/
import Derived.Test.YthfacjlghcdndaaGreatDoorM08
import Derived.OrdersHeld
import Derived.WalkKit
set_option linter.unusedSimpArgs false
set_option linter.unusedVariables false
namespace Go.Proofs.YthfacjlghcdndaaGreatDoor
open Go.RowKit

theorem count_any (b o : Nat) (n : Int) (w : World) (h : w.cell? ⟨b, o, none⟩ = some (.int .i64 n)) : Calls Tryz.prog 75 #[.pointer (some ⟨b, o, none⟩)] w fun e w' => e = .returned (.int .i64 n) ∧ w' = w := by
  go_enter Tryz.func75, Tryz.ntmps75
  go_wp2
  go_ret
  exact ⟨rfl, rfl⟩
set_option maxRecDepth 100000 in
set_option maxHeartbeats 1000000 in
theorem add_any (b o n : Nat) (v : Value) (w : World) (hn : n < 6) (h : w.cell? ⟨b, o, none⟩ = some (.int .i64 n)) (hz : ∀ j, w.frozen? ⟨b, j, none⟩ = false) (hc : w.cell? ⟨b, o + 1 + n * 6 + n, none⟩ = some v) : Calls Tryz.prog 76 #[.pointer (some ⟨b, o, none⟩)] w fun e w' => e = .returned (.int .i64 n) ∧ w' = (w.setCell ⟨b, o + 1 + n * 6 + n, none⟩ (.bool true)).setCell ⟨b, o, none⟩ (.int .i64 (n + 1)) := by
  go_enter Tryz.func76, Tryz.ntmps76
  have hc2 : (w.setCell ⟨b, o + 1 + n * 6 + n, none⟩ (.bool true)).cell? ⟨b, o, none⟩ = some (.int .i64 n) := by
    refine (World.cell?_setCell_other _ _ _ _ ?_).trans h
    intro hh; injection hh with _ h2; omega
  go_wp2
  go_ret
  exact ⟨rfl, rfl⟩
set_option maxRecDepth 100000 in
set_option maxHeartbeats 1000000 in
theorem obelow_any (b o i j : Nat) (v : Value) (w : World) (hi : i < 6) (hj : j < 6) (hz : ∀ j, w.frozen? ⟨b, j, none⟩ = false) (hc : w.cell? ⟨b, o + 1 + i * 6 + j, none⟩ = some v) : Calls Tryz.prog 77 #[.pointer (some ⟨b, o, none⟩), .int .i64 i, .int .i64 j] w fun e w' => e = .returned (.tuple #[]) ∧ w' = w.setCell ⟨b, o + 1 + i * 6 + j, none⟩ (.bool true) := by
  have hiI : (i : Int) < 6 := by omega
  have hjI : (j : Int) < 6 := by omega
  go_enter Tryz.func77, Tryz.ntmps77
  go_wp2
  go_end0
  exact ⟨rfl, rfl⟩
def LvEnds (names : List (List UInt8)) (x : List UInt8) (line : Int) (w : World) (e : Ending) (w' : World) : Prop :=
  Below w.heap.size w w' ∧ (0 ≤ Fl.place names x → e = .returned (.int .i64 (Fl.place names x))) ∧ (Fl.place names x < 0 → e = .panicked (stopAt 4 line))
set_option maxRecDepth 100000 in
set_option maxHeartbeats 1000000 in
theorem levelNamed_any (R lm : Nat) (line : Int) (names : List (List UInt8)) (x : List UInt8) (w : World) (hx : x.length ≤ 100000) (hm : NameMap w lm names) (c40 : w.cell? ⟨R, 40, none⟩ = some (.map (some lm))) (c1 : w.cell? ⟨R, 1, none⟩ = some (.int .i64 line)) :
    Calls Tryz.prog 78 #[.pointer (some ⟨R, 0, none⟩), .string ⟨x.toArray⟩] w (LvEnds names x line w) := by
  have hlk := hm.look x hx
  obtain ⟨pl, hpl⟩ : ∃ pl, pl = Fl.place names x := ⟨_, rfl⟩
  rw [← hpl] at hlk
  unfold LvEnds
  rw [← hpl]
  have HR := rneed_bad R 4 line w c1
  have HRB : Hid (Calls Tryz.prog 46 #[.pointer (some ⟨R, 0, none⟩), .bool false, .int .i64 4] w fun e w' => e = .panicked (stopAt 4 line) ∧ Below w.heap.size w w') := HR
  clear hpl hm HR c1
  by_cases h0 : 0 ≤ pl
  · rw [show decide (0 ≤ pl) = true by simpa using h0, show max 0 pl = pl by omega] at hlk
    go_enter Tryz.func78, Tryz.ntmps78
    go_wp2_with (go_at_call 46; refine (rneed_ok _ _ _).mono ?_; rintro e w' ⟨rfl, rfl⟩)
    go_ret
    exact ⟨Below.refl _ _, fun _ => rfl, fun h => by omega⟩
  · rw [show decide (0 ≤ pl) = false by simpa using h0] at hlk
    go_enter Tryz.func78, Tryz.ntmps78
    go_wp2_with fail
    refine HRB.out.mono ?_
    rintro e w' ⟨rfl, hb⟩
    exact ⟨rfl, hb, fun h => by omega, fun _ => rfl⟩
end Go.Proofs.YthfacjlghcdndaaGreatDoor

namespace Go.Proofs.YthfacjlghcdndaaGreatDoor
open Go.RowKit

def Gone (lo base R Pb lm vm cm : Nat) (w0 w' : World) : Prop := Below lo w0 w' ∧ ∀ b, b < base → b ≠ R → b ≠ Pb → b ≠ lm → b ≠ vm → b ≠ cm → w'.heap[b]? = w0.heap[b]?
theorem PrAt.gone {lo base R Pb lm vm cm : Nat} {w0 w w' : World} {r : Fl.RS} {line : Int} {m : PMem} (h : PrAt lo base R Pb lm vm cm w0 w r line m) (hb : Below w.heap.size w w') : Gone lo base R Pb lm vm cm w0 w' := ⟨(h.below hb).bel, (h.below hb).fx⟩
def MEnds (lo base R Pb lm vm cm : Nat) (w0 : World) (line : Int) (res : Nat × Fl.RS) (e : Ending) (w' : World) : Prop :=
  (res.1 = 0 ∧ e = .returned (.tuple #[]) ∧ ∃ m', PrAt lo base R Pb lm vm cm w0 w' res.2 line m') ∨ (res.1 ≠ 0 ∧ e = .panicked (stopAt res.1 line) ∧ Gone lo base R Pb lm vm cm w0 w')
theorem MEnds.good {lo base R Pb lm vm cm : Nat} {w0 : World} {line : Int} {res : Nat × Fl.RS} {e : Ending} {w' : World} {r' : Fl.RS} {m' : PMem} (hr : res = (0, r')) (he : e = .returned (.tuple #[])) (h : PrAt lo base R Pb lm vm cm w0 w' r' line m') : MEnds lo base R Pb lm vm cm w0 line res e w' := by
  subst hr; exact .inl ⟨rfl, he, m', h⟩
theorem MEnds.bad {lo base R Pb lm vm cm : Nat} {w0 : World} {line : Int} {res : Nat × Fl.RS} {e : Ending} {w' : World} {n : Nat} {r' : Fl.RS} (hr : res = (n, r')) (hn : n ≠ 0) (he : e = .panicked (stopAt n line)) (h : Gone lo base R Pb lm vm cm w0 w') : MEnds lo base R Pb lm vm cm w0 line res e w' := by
  subst hr; exact .inr ⟨hn, he, h⟩
theorem WordsAt.one {B : Nat} {w : World} {v : Value} {ws : List (List UInt8)} (h : WordsAt B w v ws) (hne : ws ≠ []) : ∃ b off cap, v = .slice (some ⟨b, off, none⟩) ws.length cap ∧ ws.length ≤ cap ∧ cap ≤ maxLen ∧ b < B ∧ (∀ x ∈ ws, x.length ≤ 100000) ∧ ∀ i, i < ws.length → w.cell? ⟨b, off + i, none⟩ = some (.string ⟨(ws.getD i []).toArray⟩) := by
  obtain ⟨ao, cap, h1, h2, h3, h4, h5, h6⟩ := h
  obtain ⟨b, off, rfl, hb, hc⟩ := h6 hne
  exact ⟨b, off, cap, h1, h2, h3, hb, h5, hc⟩
section
variable {lo base R Pb lm vm cm : Nat} {w0 w : World} {r : Fl.RS} {line : Int} {m : PMem}
theorem rd_tab (Pb lm vm cm : Nat) (line : Int) (r : Fl.RS) (m : PMem) (i j : Nat) (hi : i < 6) (hj : j < 6) : rdCell Pb lm vm cm line r m (4 + i * 6 + j) = .bool (m.t i j) := by
  have e : (4 + i * 6 + j - 4) / 6 = i := by omega
  have e2 : (4 + i * 6 + j - 4) % 6 = j := by omega
  unfold rdCell
  rw [if_neg (show ¬ 4 + i * 6 + j = 0 by omega), if_neg (show ¬ 4 + i * 6 + j = 1 by omega), if_neg (show ¬ 4 + i * 6 + j = 2 by omega), if_neg (show ¬ 4 + i * 6 + j = 3 by omega), if_neg (show ¬ 4 + i * 6 + j = 40 by omega), if_neg (show ¬ 4 + i * 6 + j = 41 by omega), if_neg (show ¬ 4 + i * 6 + j = 42 by omega), if_neg (show ¬ 4 + i * 6 + j = 43 by omega), if_neg (show ¬ 4 + i * 6 + j = 44 by omega), e, e2]
theorem PrAt.level (h : PrAt lo base R Pb lm vm cm w0 w r line m) (hb : r.begun = false) (x : List UInt8) (hl : r.levels.length < 6) {w1 w' : World} (e1 : w1 = (w.setCell ⟨R, 4 + r.levels.length * 6 + r.levels.length, none⟩ (.bool true)).setCell ⟨R, 3, none⟩ (.int .i64 (r.levels.length + 1)))
    (hg : w1.grownBy w' (some lm)) (hn : NameMap w' lm (r.levels ++ [x])) : ∃ m', PrAt lo base R Pb lm vm cm w0 w' { r with levels := r.levels ++ [x] } line m' := by
  obtain ⟨b1, b2, b3, b4, b5, b6⟩ := h.hba
  obtain ⟨l1, l2, l3, l4, l5⟩ := h.hlo
  obtain ⟨n1, n2, n3, n4, n5, n6, n7, n8, n9, n10⟩ := h.nd
  have hz1 : w1.heap.size = w.heap.size := by rw [e1, setCell_size, setCell_size]
  have hz := hg.size
  have q1 : ∀ b, b ≠ R → w1.heap[b]? = w.heap[b]? := fun b hbR => by rw [e1, setCell_block _ _ _ _ _ hbR, setCell_block _ _ _ _ _ hbR]
  have q : ∀ b, b ≠ R → b ≠ lm → b < w.heap.size → w'.heap[b]? = w.heap[b]? := fun b hbR hbl hlt => (hg.block b (by omega) (by simpa using hbl)).trans (q1 b hbR)
  have hc := (h.cR.set (j := 4 + r.levels.length * 6 + r.levels.length) (by omega) (.bool true)).set (j := 3) (by omega) (.int .i64 (r.levels.length + 1))
  rw [← e1] at hc
  have hc2 := hc.block (w' := w') (hg.block R (by omega) (by simpa using n2))
  refine ⟨{ m with t := fun i j => if i = r.levels.length ∧ j = r.levels.length then true else m.t i j }, ?_⟩
  refine { ok := ?ok, bel := ?bel, fx := fun b f1 f2 f3 f4 f5 f6 => (q b f2 f4 (by omega)).trans (h.fx b f1 f2 f3 f4 f5 f6), hlo := h.hlo, hba := ⟨b1, b2, b3, b4, b5, by omega⟩, nd := h.nd, cR := ?cR, cP := h.cP.block (q _ (Ne.symm n1) n5 (by omega)), nl := hn, nv := h.nv.block (q _ (Ne.symm n3) (Ne.symm n8) (by omega)), nc := h.nc.block (q _ (Ne.symm n4) (Ne.symm n9) (by omega)), tab := ?tab, re := ?re }
  case ok =>
    exact { cn := h.ok.cn, lv := by simp; omega, ce := h.ok.ce, ch := h.ok.ch, lo := h.ok.lo, st := h.ok.st, fr := h.ok.fr, cl := h.ok.cl, hl := h.ok.hl, pairs := h.ok.pairs, kinds := h.ok.kinds, head := h.ok.head, below := fun p hp => by have := h.ok.below p hp; simp; omega, clv := fun y hy => by have := h.ok.clv y hy; simp; omega, chv := fun y hy => by have := h.ok.chv y hy; simp; omega, lat := fun hh => by rw [hb] at hh; cases hh }
  case bel =>
    have hb1 : Below lo w0 w1 := by rw [e1]; exact (h.bel.setCell l1 _).setCell l1 _
    exact hb1.grown hg (by have := h.bel.size; omega) (fun k hk => by simp only [Option.some.injEq] at hk; omega)
  case cR =>
    refine hc2.congr fun j hj => ?_
    by_cases h3 : j = 3
    · subst h3; simp [rdCell]
    · rw [if_neg h3]
      by_cases h4 : j = 4 + r.levels.length * 6 + r.levels.length
      · rw [if_pos h4, h4, rd_tab _ _ _ _ _ _ _ _ _ hl hl]; simp
      · rw [if_neg h4]
        unfold rdCell
        by_cases hs : j = 0 ∨ j = 1 ∨ j = 2 ∨ j = 40 ∨ j = 41 ∨ j = 42 ∨ j = 43 ∨ j = 44
        · rcases hs with rfl | rfl | rfl | rfl | rfl | rfl | rfl | rfl <;> rfl
        · rw [if_neg (show ¬ j = 0 by omega), if_neg (show ¬ j = 1 by omega), if_neg (show ¬ j = 2 by omega), if_neg h3, if_neg (show ¬ j = 40 by omega), if_neg (show ¬ j = 41 by omega), if_neg (show ¬ j = 42 by omega), if_neg (show ¬ j = 43 by omega), if_neg (show ¬ j = 44 by omega)]
          rw [if_neg (show ¬ j = 0 by omega), if_neg (show ¬ j = 1 by omega), if_neg (show ¬ j = 2 by omega), if_neg h3, if_neg (show ¬ j = 40 by omega), if_neg (show ¬ j = 41 by omega), if_neg (show ¬ j = 42 by omega), if_neg (show ¬ j = 43 by omega), if_neg (show ¬ j = 44 by omega)]
          simp only
          rw [if_neg (by omega)]
  case tab =>
    intro i j hi hj
    simp only [List.length_append, List.length_singleton]
    by_cases hn' : i = r.levels.length ∧ j = r.levels.length
    · rw [if_pos hn', hn'.1, hn'.2]; simp [Fl.tab0]
    · rw [if_neg hn', h.tab i j hi hj]
      by_cases hi2 : i < r.levels.length
      · simp [hi2, show i < r.levels.length + 1 by omega]
      · by_cases hi3 : i = r.levels.length
        · subst hi3
          have : Fl.tab0 r.low r.high r.levels.length j = false := by
            simp only [Fl.tab0, Bool.or_eq_false_iff, List.any_eq_false]
            refine ⟨by simp; omega, fun p hp => ?_⟩
            have := h.ok.below p hp
            simp; omega
          rw [this]; simp
        · simp [hi2, show ¬ i < r.levels.length + 1 by omega]
  case re =>
    have hr := h.re.kept (w' := w') (by omega) (fun b hw => q b (by have := h.re.wh b hw; omega) (by have := h.re.wh b hw; omega) (h.re.wh b hw).2)
    exact { wh := hr.wh, oc := hr.oc, tc := hr.tc, oh := hr.oh, th := hr.th, pb := hr.pb, tb := hr.tb, fa := hr.fa, oo := hr.oo, to := hr.to, la := fun hh => by rw [show ({ r with levels := r.levels ++ [x] } : Fl.RS).begun = r.begun from rfl, hb] at hh; cases hh }
end
end Go.Proofs.YthfacjlghcdndaaGreatDoor

namespace Go.Proofs.YthfacjlghcdndaaGreatDoor
open Go.RowKit

def upTo (m : Nat) : Nat → Array Bool
  | 0 => Array.replicate m false
  | k + 1 => (upTo m k).setIfInBounds k true
def wpHeld (P : Program) (S : World → Prop) (L : Act → Prop) : List Oper → Act → Prop
  | [], a => L a
  | o :: l, a => o.guard = none ∧ ∃ v, (∀ w, S w → (execOp a.eval o).run P w = .ok (.value v) w) ∧ wpHeld P S L l (a.put o.dst v)
theorem wpHeld_step {P : Program} {S : World → Prop} {L : Act → Prop} {o : Oper} {l : List Oper} {a : Act} (hg : o.guard = none)
    (h : ∀ K : Act → Prop, (∀ a', wpHeld P S L l a' → K a') → ∃ v, (∀ w, S w → (execOp a.eval o).run P w = .ok (.value v) w) ∧ K (a.put o.dst v)) : wpHeld P S L (o :: l) a := by
  obtain ⟨v, h1, h2⟩ := h (wpHeld P S L l) (fun _ h => h)
  exact ⟨hg, v, h1, h2⟩
theorem wpHeld_hide {P : Program} {S : World → Prop} {L : Act → Prop} {l : List Oper} {a : Act} (h : ∀ L' : Act → Prop, Hid (∀ a, L a → L' a) → wpHeld P S L' l a) : wpHeld P S L l a := h L (fun _ h => h)
def heldB (ops : Array Oper) (n : Nat) : Bool :=
  Region.noSelect ops && ((List.range n).all (fun k => Region.free .any ops (upTo ops.size k) k && (Region.ready .any ops (upTo ops.size k)).contains k) &&
    (decide (Region.ready .any ops (upTo ops.size n) = [n]) && (decide (Region.ready .any ops (upTo ops.size (n + 1)) = [n + 1]) && decide (Region.ready .any ops (upTo ops.size (n + 2)) = []))))
section
variable {P : Program} {S : World → Prop} {Q : Exit → Act → World → Prop} {w : World}
theorem held_heads {ops : Array Oper} {n f : Nat} (hs : Region.noSelect ops = true) (hall : ∀ k, k < n → Region.free .any ops (upTo ops.size k) k = true ∧ (Region.ready .any ops (upTo ops.size k)).contains k = true)
    (hQ : ∀ c a d v w, Q (.panic c) (Act.put a d v) w → Q (.panic c) a w) (hS : S w) : ∀ (l : List Oper) (k : Nat) (a : Act), (∀ j, j < l.length → l[j]? = ops[k + j]?) → k + l.length = n →
    wpHeld P S (fun a' => wpAnyH P .any ops Q S f (upTo ops.size n) a' w) l a → wpAnyH P .any ops Q S (f + l.length) (upTo ops.size k) a w
  | [], k, a, _, hk, h => by simp only [List.length_nil, Nat.add_zero] at hk ⊢; subst hk; exact h
  | o :: l, k, a, hl, hk, h => by
    obtain ⟨hg, v, h1, h2⟩ := h
    have h0 : ops[k]? = some o := by have := hl 0 (by simp); simpa using this.symm
    have hk' : k < n := by simp only [List.length_cons] at hk; omega
    have ih := held_heads hs hall hQ hS l (k + 1) (a.put o.dst v) (fun j hj => by have := hl (j + 1) (by simp; omega); simpa [Nat.add_assoc, Nat.add_comm 1 j] using this) (by simp only [List.length_cons] at hk; omega) h2
    have := wpAnyH_take (fuel := f + l.length) h0 hs (hall k hk').1 (hall k hk').2 (fun c a w h => hQ c a _ _ w h) (Or.inl ⟨by simp [Region.wanted, hg], h1⟩) hS ih
    simpa [Nat.add_assoc] using this
theorem wp_region_alloc {id : Nat} {a : Act} {l : List Oper} (n : Nat) (hm : P.follows .mixedOrders = true) (hB : heldB l.toArray n = true) (hn : l.length = n + 2)
    (hQ : ∀ c a d v w, Q (.panic c) (Act.put a d v) w → Q (.panic c) a w) (oA oS : Oper) (hA : l[n]? = some oA) (hS' : l[n + 1]? = some oS) (gA : oA.guard = none) (gS : oS.guard = none)
    (hS : S w.drew) (h : wpHeld P S (fun a' => ∃ va w1 w2, (execOp a'.eval oA).run P w.drew = .ok (.value va) w1 ∧ S w1 ∧ (execOp (a'.put oA.dst va).eval oS).run P w1 = .ok .skip w2 ∧ S w2 ∧ Q .normal ((a'.put oA.dst va).put oS.dst undef) w2) (l.take n) a) :
    (Code.region id l.toArray true).wp P Q a w := by
  simp only [heldB, Bool.and_eq_true, decide_eq_true_eq, List.all_eq_true, List.mem_range] at hB
  obtain ⟨hs, hall, r0, r1, r2⟩ := hB
  refine wp_region_held (S := S) hm ?_
  have hz : l.toArray.size = n + 2 := by simp [hn]
  have htl : (l.take n).length = n := by simp; omega
  have key := held_heads (P := P) (S := S) (Q := Q) (w := w.drew) (ops := l.toArray) (n := n) (f := 2) hs hall hQ hS (l.take n) 0 a (fun j hj => by
    have hj' : j < n := by rw [htl] at hj; exact hj
    simp [hj']) (by rw [htl]; simp) ?_
  · rw [htl, Nat.add_comm, ← hz] at key; exact key
  · have mono : ∀ (l' : List Oper) (a : Act) (L L' : Act → Prop), (∀ a, L a → L' a) → wpHeld P S L l' a → wpHeld P S L' l' a := by
      intro l'
      induction l' with
      | nil => intro a L L' hL h; exact hL a h
      | cons o l' ih => intro a L L' hL h; obtain ⟨hg, v, h1, h2⟩ := h; exact ⟨hg, v, h1, ih _ L L' hL h2⟩
    refine mono _ _ _ _ (fun a' ⟨va, w1, w2, e1, s1, e2, s2, q⟩ => ?_) h
    refine wpAnyH_all r0 (by simp) (fun i hi => ?_)
    simp only [List.mem_singleton] at hi
    subst hi
    have hAi : l.toArray[i]? = some oA := by simpa using hA
    have hSi : l.toArray[i + 1]? = some oS := by simpa using hS'
    unfold wpOp
    simp only [hAi, Region.wanted, gA, if_true, Oper.wp, e1, Oper.upon]
    refine .inl ⟨s1, wpAnyH_all r1 (by simp) (fun j hj => ?_)⟩
    simp only [List.mem_singleton] at hj
    subst hj
    unfold wpOp
    simp only [hSi, Region.wanted, gS, if_true, Oper.wp, e2, Oper.upon]
    exact .inl ⟨s2, wpAnyH_done r2 q 0⟩
end
end Go.Proofs.YthfacjlghcdndaaGreatDoor

namespace Go.Proofs.YthfacjlghcdndaaGreatDoor
open Go.RowKit

def doneBy (m : Nat) (l : List Nat) : Array Bool := l.foldl (fun d i => d.setIfInBounds i true) (Array.replicate m false)
theorem doneBy_snoc (m : Nat) (l : List Nat) (i : Nat) : doneBy m (l ++ [i]) = (doneBy m l).setIfInBounds i true := by simp [doneBy]
def headsB (ops : Array Oper) : List Nat → List Nat → Bool
  | _, [] => true
  | pre, i :: rest => Region.free .any ops (doneBy ops.size pre) i && ((Region.ready .any ops (doneBy ops.size pre)).contains i && headsB ops (pre ++ [i]) rest)
def forcedB (ops : Array Oper) : List Nat → List Nat → Bool
  | pre, [] => decide (Region.ready .any ops (doneBy ops.size pre) = [])
  | pre, i :: rest => decide (Region.ready .any ops (doneBy ops.size pre) = [i]) && forcedB ops (pre ++ [i]) rest
section
variable {P : Program} {Q : Exit → Act → World → Prop}
theorem ord_heads {ops : Array Oper} {f : Nat} {w : World} (hs : Region.noSelect ops = true) (hQ : ∀ c a d v w, Q (.panic c) (Act.put a d v) w → Q (.panic c) a w) :
    ∀ (σ : List Nat) (so : List Oper) (pre : List Nat) (a : Act), σ.map (fun i => ops[i]?) = so.map some → headsB ops pre σ = true →
    wpHeld P (fun _ => True) (fun a' => wpAnyH P .any ops Q (fun _ => True) f (doneBy ops.size (pre ++ σ)) a' w) so a → wpAnyH P .any ops Q (fun _ => True) (f + σ.length) (doneBy ops.size pre) a w
  | [], so, pre, a, hso, _, h => by
    have : so = [] := by cases so with | nil => rfl | cons o so => simp at hso
    subst this; simp only [List.append_nil] at h; exact h
  | i :: σ, so, pre, a, hso, hB, h => by
    cases so with
    | nil => simp at hso
    | cons o so =>
      simp only [List.map_cons, List.cons.injEq] at hso
      simp only [headsB, Bool.and_eq_true] at hB
      obtain ⟨hg, v, h1, h2⟩ := h
      have ih := ord_heads (f := f) (w := w) hs hQ σ so (pre ++ [i]) (a.put o.dst v) hso.2 hB.2.2 (by simpa using h2)
      rw [doneBy_snoc] at ih
      have := wpAnyH_take (fuel := f + σ.length) hso.1 hs hB.1 hB.2.1 (fun c a w h => hQ c a _ _ w h) (Or.inl ⟨by simp [Region.wanted, hg], h1⟩) trivial ih
      simpa [Nat.add_assoc] using this
theorem ord_tail {ops : Array Oper} : ∀ (τ : List Nat) (to : List Oper) (pre : List Nat) (a : Act) (w : World), τ.map (fun i => ops[i]?) = to.map some → forcedB ops pre τ = true →
    wpList P ops Q to a w → wpAnyH P .any ops Q (fun _ => True) τ.length (doneBy ops.size pre) a w
  | [], to, pre, a, w, hto, hB, h => by
    have : to = [] := by cases to with | nil => rfl | cons o to => simp at hto
    subst this
    simp only [forcedB, decide_eq_true_eq] at hB
    exact wpAnyH_done hB h 0
  | i :: τ, to, pre, a, w, hto, hB, h => by
    cases to with
    | nil => simp at hto
    | cons o to =>
      simp only [List.map_cons, List.cons.injEq] at hto
      simp only [forcedB, Bool.and_eq_true, decide_eq_true_eq] at hB
      refine wpAnyH_all hB.1 (by simp) (fun j hj => ?_)
      simp only [List.mem_singleton] at hj
      subst hj
      have hw : wpOp P ops Q j (wpList P ops Q to) a w := by unfold wpOp; simp only [hto.1]; exact h
      refine wpOp_mono (fun a' w' h' => ⟨trivial, ?_⟩) hw
      have := ord_tail τ to (pre ++ [j]) a' w' hto.2 hB.2 h'
      rwa [doneBy_snoc] at this
theorem wp_region_order {id : Nat} {a : Act} {w : World} {l : List Oper} (σ τ : List Nat) (hm : P.follows .mixedOrders = true) (hB : (Region.noSelect l.toArray && (headsB l.toArray [] σ && forcedB l.toArray σ τ)) = true) (hlen : l.length = τ.length + σ.length)
    (so to : List Oper) (hso : σ.map (fun i => l.toArray[i]?) = so.map some) (hto : τ.map (fun i => l.toArray[i]?) = to.map some) (hQ : ∀ c a d v w, Q (.panic c) (Act.put a d v) w → Q (.panic c) a w)
    (h : wpHeld P (fun _ => True) (fun a' => wpList P l.toArray Q to a' w.drew) so a) : (Code.region id l.toArray true).wp P Q a w := by
  simp only [Bool.and_eq_true] at hB
  refine wp_region_held (S := fun _ => True) hm ?_
  have key := ord_heads (P := P) (Q := Q) (ops := l.toArray) (f := τ.length) (w := w.drew) hB.1 hQ σ so [] a hso hB.2.1 ?_
  · rw [← hlen] at key; simpa [doneBy] using key
  · have mono : ∀ (l' : List Oper) (a : Act) (L L' : Act → Prop), (∀ a, L a → L' a) → wpHeld P (fun _ => True) L l' a → wpHeld P (fun _ => True) L' l' a := by
      intro l'
      induction l' with
      | nil => intro a L L' hL h; exact hL a h
      | cons o l' ih => intro a L L' hL h; obtain ⟨hg, v, h1, h2⟩ := h; exact ⟨hg, v, h1, ih _ L L' hL h2⟩
    exact mono _ _ _ _ (fun a' h' => ord_tail τ to _ a' _ hto (by simpa using hB.2.2) h') h
theorem wp_region_order2 {id : Nat} {a : Act} {w : World} {l : List Oper} (σ : List Nat) (i j : Nat) (τ τ' : List Nat) (hm : P.follows .mixedOrders = true)
    (hB : (Region.noSelect l.toArray && (headsB l.toArray [] σ && (decide (Region.ready .any l.toArray (doneBy l.toArray.size σ) = [i, j]) && (forcedB l.toArray (σ ++ [i]) τ && forcedB l.toArray (σ ++ [j]) τ')))) = true) (hlen : l.length = τ.length + 1 + σ.length) (hlen' : τ'.length = τ.length)
    (so : List Oper) (oi oj : Oper) (to to' : List Oper) (hso : σ.map (fun i => l.toArray[i]?) = so.map some) (hi : l.toArray[i]? = some oi) (hj : l.toArray[j]? = some oj) (hto : τ.map (fun i => l.toArray[i]?) = to.map some) (hto' : τ'.map (fun i => l.toArray[i]?) = to'.map some) (hQ : ∀ c a d v w, Q (.panic c) (Act.put a d v) w → Q (.panic c) a w)
    (h : wpHeld P (fun _ => True) (fun a' => wpList P l.toArray Q (oi :: to) a' w.drew ∧ wpList P l.toArray Q (oj :: to') a' w.drew) so a) : (Code.region id l.toArray true).wp P Q a w := by
  simp only [Bool.and_eq_true, decide_eq_true_eq] at hB
  refine wp_region_held (S := fun _ => True) hm ?_
  have key := ord_heads (P := P) (Q := Q) (ops := l.toArray) (f := τ.length + 1) (w := w.drew) hB.1 hQ σ so [] a hso hB.2.1 ?_
  · rw [← hlen] at key; simpa [doneBy] using key
  · have mono : ∀ (l' : List Oper) (a : Act) (L L' : Act → Prop), (∀ a, L a → L' a) → wpHeld P (fun _ => True) L l' a → wpHeld P (fun _ => True) L' l' a := by
      intro l'
      induction l' with
      | nil => intro a L L' hL h; exact hL a h
      | cons o l' ih => intro a L L' hL h; obtain ⟨hg, v, h1, h2⟩ := h; exact ⟨hg, v, h1, ih _ L L' hL h2⟩
    refine mono _ _ _ _ (fun a' h' => ?_) h
    have step : ∀ (x : Nat) (ox : Oper) (tx : List Nat) (tox : List Oper), l.toArray[x]? = some ox → tx.map (fun i => l.toArray[i]?) = tox.map some → forcedB l.toArray (σ ++ [x]) tx = true → tx.length = τ.length → wpList P l.toArray Q (ox :: tox) a' w.drew → wpOp P l.toArray Q x (fun a'' w'' => True ∧ wpAnyH P .any l.toArray Q (fun _ => True) τ.length ((doneBy l.toArray.size ([] ++ σ)).setIfInBounds x true) a'' w'') a' w.drew := by
      intro x ox tx tox hx htx hf hl hw
      have hw' : wpOp P l.toArray Q x (wpList P l.toArray Q tox) a' w.drew := by unfold wpOp; simp only [hx]; exact hw
      refine wpOp_mono (fun a'' w'' h'' => ⟨trivial, ?_⟩) hw'
      have := ord_tail tx tox (σ ++ [x]) a'' w'' htx hf h''
      rw [doneBy_snoc, hl] at this; simpa using this
    refine wpAnyH_all (rs := [i, j]) (by simpa using hB.2.2.1) (by simp) (fun x hx => ?_)
    simp only [List.mem_cons, List.not_mem_nil, or_false] at hx
    rcases hx with rfl | rfl
    · exact step _ oi τ to hi hto hB.2.2.2.1 rfl h'.1
    · exact step _ oj τ' to' hj hto' hB.2.2.2.2 hlen' h'.2
theorem op_then {ops : Array Oper} {y : Nat} {oy : Oper} {K : Act → World → Prop} {a : Act} {w : World} (hy : ops[y]? = some oy) (h : wpList P ops (Exit.then K Q) [oy] a w) : wpOp P ops Q y K a w := by
  have hw : wpOp P ops (Exit.then K Q) y (wpList P ops (Exit.then K Q) []) a w := by unfold wpOp; simp only [hy]; exact h
  have hn : ∀ a w, wpList P ops (Exit.then K Q) [] a w → K a w := fun a w h => h
  unfold wpOp at hw ⊢
  simp only [hy] at hw ⊢
  split
  · rename_i hwt
    rw [if_pos hwt] at hw
    refine hw.imp (fun h1 => ?_) (fun h2 => h2)
    have h2 := Oper.wp_mono hn h1
    unfold Oper.wp at h2 ⊢
    generalize (execOp a.eval oy).run P w = r at *
    cases r with
    | ok n w' => cases n <;> exact h2
    | halt x w' => cases x <;> exact h2
  · rename_i hwt
    rw [if_neg hwt] at hw; exact hn _ _ hw
theorem wp_region_forkc {id : Nat} {a : Act} {w : World} {l : List Oper} (σ : List Nat) (x y p r : Nat) (τx τp τr : List Nat) (hm : P.follows .mixedOrders = true)
    (hB : (Region.noSelect l.toArray && (headsB l.toArray [] σ && (decide (Region.ready .any l.toArray (doneBy l.toArray.size σ) = [x, y]) && (forcedB l.toArray (σ ++ [x]) τx && (decide (Region.ready .any l.toArray (doneBy l.toArray.size (σ ++ [y])) = [p, r]) && (forcedB l.toArray (σ ++ [y] ++ [p]) τp && forcedB l.toArray (σ ++ [y] ++ [r]) τr)))))) = true)
    (hlen : l.length = τp.length + 2 + σ.length) (hlx : τx.length = τp.length + 1) (hlr : τr.length = τp.length)
    (so : List Oper) (ox oy op or : Oper) (tox top tor : List Oper) (hso : σ.map (fun i => l.toArray[i]?) = so.map some) (hx : l.toArray[x]? = some ox) (hy : l.toArray[y]? = some oy) (hp : l.toArray[p]? = some op) (hr : l.toArray[r]? = some or)
    (htx : τx.map (fun i => l.toArray[i]?) = tox.map some) (htp : τp.map (fun i => l.toArray[i]?) = top.map some) (htr : τr.map (fun i => l.toArray[i]?) = tor.map some) (hQ : ∀ c a d v w, Q (.panic c) (Act.put a d v) w → Q (.panic c) a w)
    (h : wpHeld P (fun _ => True) (fun a' => wpList P l.toArray Q (ox :: tox) a' w.drew ∧ wpList P l.toArray (Exit.then (fun a'' w'' => wpList P l.toArray Q (op :: top) a'' w'' ∧ wpList P l.toArray Q (or :: tor) a'' w'') Q) [oy] a' w.drew) so a) : (Code.region id l.toArray true).wp P Q a w := by
  simp only [Bool.and_eq_true, decide_eq_true_eq] at hB
  refine wp_region_held (S := fun _ => True) hm ?_
  have key := ord_heads (P := P) (Q := Q) (ops := l.toArray) (f := τp.length + 2) (w := w.drew) hB.1 hQ σ so [] a hso hB.2.1 ?_
  · rw [← hlen] at key; simpa [doneBy] using key
  · have mono : ∀ (l' : List Oper) (a : Act) (L L' : Act → Prop), (∀ a, L a → L' a) → wpHeld P (fun _ => True) L l' a → wpHeld P (fun _ => True) L' l' a := by
      intro l'
      induction l' with
      | nil => intro a L L' hL h; exact hL a h
      | cons o l' ih => intro a L L' hL h; obtain ⟨hg, v, h1, h2⟩ := h; exact ⟨hg, v, h1, ih _ L L' hL h2⟩
    refine mono _ _ _ _ (fun a' h' => ?_) h
    obtain ⟨hx1, hy1⟩ := h'
    have step : ∀ (pre : List Nat) (z : Nat) (oz : Oper) (tz : List Nat) (toz : List Oper) (b : Act) (wb : World), l.toArray[z]? = some oz → tz.map (fun i => l.toArray[i]?) = toz.map some → forcedB l.toArray (pre ++ [z]) tz = true → wpList P l.toArray Q (oz :: toz) b wb → wpOp P l.toArray Q z (fun a'' w'' => True ∧ wpAnyH P .any l.toArray Q (fun _ => True) tz.length ((doneBy l.toArray.size pre).setIfInBounds z true) a'' w'') b wb := by
      intro pre z oz tz toz b wb hz htz hf hw
      have hw' : wpOp P l.toArray Q z (wpList P l.toArray Q toz) b wb := by unfold wpOp; simp only [hz]; exact hw
      refine wpOp_mono (fun a'' w'' h'' => ⟨trivial, ?_⟩) hw'
      have := ord_tail tz toz (pre ++ [z]) a'' w'' htz hf h''
      rwa [doneBy_snoc] at this
    refine wpAnyH_all (rs := [x, y]) (by simpa using hB.2.2.1) (by simp) (fun z hz => ?_)
    simp only [List.mem_cons, List.not_mem_nil, or_false] at hz
    rcases hz with rfl | rfl
    · have := step σ _ ox τx tox a' _ hx htx hB.2.2.2.1 hx1
      rw [hlx] at this; simpa using this
    · refine wpOp_mono (fun b wb hb => ⟨trivial, ?_⟩) (op_then hy hy1)
      have e : (doneBy l.toArray.size ([] ++ σ)).setIfInBounds z true = doneBy l.toArray.size (σ ++ [z]) := by rw [doneBy_snoc]; rfl
      rw [e]
      refine wpAnyH_all (rs := [p, r]) hB.2.2.2.2.1 (by simp) (fun u hu => ?_)
      simp only [List.mem_cons, List.not_mem_nil, or_false] at hu
      rcases hu with rfl | rfl
      · exact step (σ ++ [z]) _ op τp top _ _ hp htp hB.2.2.2.2.2.1 hb.1
      · have := step (σ ++ [z]) _ or τr tor _ _ hr htr hB.2.2.2.2.2.2 hb.2
        rw [hlr] at this; exact this
end
end Go.Proofs.YthfacjlghcdndaaGreatDoor
