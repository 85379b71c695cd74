/- Texts CdHeld Cdg CdKey Cdh. -/
import Derived.Test.YticlmjkfadklgaaDoorM11
import Derived.OrdersHeld
import Derived.WalkKit
import Derived.Laws.CopyOwn
import Derived.DeepKeys4
import Derived.Maps.OwnSet
/- A region that draws its order: operations that only read, an allocation that waits for nobody, and a last one that waits for all. -/
set_option linter.unusedSimpArgs false
set_option linter.unusedVariables false
namespace Go.Proofs.YticlmjkfadklgaaDoor
open Go.RowKit

/-- The first k are done. -/
def upTo (m : Nat) : Nat → Array Bool
  | 0 => Array.replicate m false
  | k + 1 => (upTo m k).setIfInBounds k true
/-- Operations, each of which yields its value in every world that meets S. -/
def wpHeld (P : Program) (S : World → Prop) (L : Act → Prop) : List Oper → Act → Prop
  | [], a => L a
  | o :: l, a => o.guard = none ∧ ∃ v, (∀ w, S w → (execOp a.eval o).run P w = .ok (.value v) w) ∧ wpHeld P S L l (a.put o.dst v)
theorem wpHeld_step {P : Program} {S : World → Prop} {L : Act → Prop} {o : Oper} {l : List Oper} {a : Act} (hg : o.guard = none)
    (h : ∀ K : Act → Prop, (∀ a', wpHeld P S L l a' → K a') → ∃ v, (∀ w, S w → (execOp a.eval o).run P w = .ok (.value v) w) ∧ K (a.put o.dst v)) : wpHeld P S L (o :: l) a := by
  obtain ⟨v, h1, h2⟩ := h (wpHeld P S L l) (fun _ h => h)
  exact ⟨hg, v, h1, h2⟩
theorem wpHeld_hide {P : Program} {S : World → Prop} {L : Act → Prop} {l : List Oper} {a : Act} (h : ∀ L' : Act → Prop, Hid (∀ a, L a → L' a) → wpHeld P S L' l a) : wpHeld P S L l a := h L (fun _ h => h)
def heldB (ops : Array Oper) (n : Nat) : Bool :=
  Region.noSelect ops && ((List.range n).all (fun k => Region.free .any ops (upTo ops.size k) k && (Region.ready .any ops (upTo ops.size k)).contains k) &&
    (decide (Region.ready .any ops (upTo ops.size n) = [n]) && (decide (Region.ready .any ops (upTo ops.size (n + 1)) = [n + 1]) && decide (Region.ready .any ops (upTo ops.size (n + 2)) = []))))
section
variable {P : Program} {S : World → Prop} {Q : Exit → Act → World → Prop} {w : World}
theorem held_heads {ops : Array Oper} {n f : Nat} (hs : Region.noSelect ops = true) (hall : ∀ k, k < n → Region.free .any ops (upTo ops.size k) k = true ∧ (Region.ready .any ops (upTo ops.size k)).contains k = true)
    (hQ : ∀ c a d v w, Q (.panic c) (Act.put a d v) w → Q (.panic c) a w) (hS : S w) : ∀ (l : List Oper) (k : Nat) (a : Act), (∀ j, j < l.length → l[j]? = ops[k + j]?) → k + l.length = n →
    wpHeld P S (fun a' => wpAnyH P .any ops Q S f (upTo ops.size n) a' w) l a → wpAnyH P .any ops Q S (f + l.length) (upTo ops.size k) a w
  | [], k, a, _, hk, h => by simp only [List.length_nil, Nat.add_zero] at hk ⊢; subst hk; exact h
  | o :: l, k, a, hl, hk, h => by
    obtain ⟨hg, v, h1, h2⟩ := h
    have h0 : ops[k]? = some o := by have := hl 0 (by simp); simpa using this.symm
    have hk' : k < n := by simp only [List.length_cons] at hk; omega
    have ih := held_heads hs hall hQ hS l (k + 1) (a.put o.dst v) (fun j hj => by have := hl (j + 1) (by simp; omega); simpa [Nat.add_assoc, Nat.add_comm 1 j] using this) (by simp only [List.length_cons] at hk; omega) h2
    have := wpAnyH_take (fuel := f + l.length) h0 hs (hall k hk').1 (hall k hk').2 (fun c a w h => hQ c a _ _ w h) (Or.inl ⟨by simp [Region.wanted, hg], h1⟩) hS ih
    simpa [Nat.add_assoc] using this
/-- The law. -/
theorem wp_region_alloc {id : Nat} {a : Act} {l : List Oper} (n : Nat) (hm : P.follows .mixedOrders = true) (hB : heldB l.toArray n = true) (hn : l.length = n + 2)
    (hQ : ∀ c a d v w, Q (.panic c) (Act.put a d v) w → Q (.panic c) a w) (oA oS : Oper) (hA : l[n]? = some oA) (hS' : l[n + 1]? = some oS) (gA : oA.guard = none) (gS : oS.guard = none)
    (hS : S w.drew) (h : wpHeld P S (fun a' => ∃ va w1 w2, (execOp a'.eval oA).run P w.drew = .ok (.value va) w1 ∧ S w1 ∧ (execOp (a'.put oA.dst va).eval oS).run P w1 = .ok .skip w2 ∧ S w2 ∧ Q .normal ((a'.put oA.dst va).put oS.dst undef) w2) (l.take n) a) :
    (Code.region id l.toArray true).wp P Q a w := by
  simp only [heldB, Bool.and_eq_true, decide_eq_true_eq, List.all_eq_true, List.mem_range] at hB
  obtain ⟨hs, hall, r0, r1, r2⟩ := hB
  refine wp_region_held (S := S) hm ?_
  have hz : l.toArray.size = n + 2 := by simp [hn]
  have htl : (l.take n).length = n := by simp; omega
  have key := held_heads (P := P) (S := S) (Q := Q) (w := w.drew) (ops := l.toArray) (n := n) (f := 2) hs hall hQ hS (l.take n) 0 a (fun j hj => by
    have hj' : j < n := by rw [htl] at hj; exact hj
    simp [hj']) (by rw [htl]; simp) ?_
  · rw [htl, Nat.add_comm, ← hz] at key; exact key
  · have mono : ∀ (l' : List Oper) (a : Act) (L L' : Act → Prop), (∀ a, L a → L' a) → wpHeld P S L l' a → wpHeld P S L' l' a := by
      intro l'
      induction l' with
      | nil => intro a L L' hL h; exact hL a h
      | cons o l' ih => intro a L L' hL h; obtain ⟨hg, v, h1, h2⟩ := h; exact ⟨hg, v, h1, ih _ L L' hL h2⟩
    refine mono _ _ _ _ (fun a' ⟨va, w1, w2, e1, s1, e2, s2, q⟩ => ?_) h
    refine wpAnyH_all r0 (by simp) (fun i hi => ?_)
    simp only [List.mem_singleton] at hi
    subst hi
    have hAi : l.toArray[i]? = some oA := by simpa using hA
    have hSi : l.toArray[i + 1]? = some oS := by simpa using hS'
    unfold wpOp
    simp only [hAi, Region.wanted, gA, if_true, Oper.wp, e1, Oper.upon]
    refine .inl ⟨s1, wpAnyH_all r1 (by simp) (fun j hj => ?_)⟩
    simp only [List.mem_singleton] at hj
    subst hj
    unfold wpOp
    simp only [hSi, Region.wanted, gS, if_true, Oper.wp, e2, Oper.upon]
    exact .inl ⟨s2, wpAnyH_done r2 q 0⟩
end
end Go.Proofs.YticlmjkfadklgaaDoor

/- The program: what is in a node. -/
set_option linter.unusedSimpArgs false
set_option linter.unusedVariables false
namespace Go.Proofs.YticlmjkfadklgaaDoor
open Go.RowKit

/-- What is in a node, cell by cell: ahead of its list, and with it. -/
def contentHead (nd : Fl.Node) : List Value := [.int .i64 nd.kind, .int .i64 nd.level, .int .i64 nd.a, .int .i64 nd.b, .int .i64 nd.c, .int .i64 nd.list.length]
def contentCur (nd : Fl.Node) : List Value := contentHead nd ++ List.replicate 16 (Value.int .i64 0)
def contentL (nd : Fl.Node) : List Value := contentHead nd ++ (nd.list.map (Value.int .i64) ++ List.replicate (16 - nd.list.length) (Value.int .i64 0))
theorem contentL_len (nd : Fl.Node) (h : nd.list.length ≤ 16) : (contentL nd).length = 22 := by simp [contentL, contentHead]; omega
theorem contentL_one (nd : Fl.Node) : (contentL nd).toArray.all (·.oneCell') = true := by
  rw [List.all_toArray, List.all_eq_true]; intro x hx
  simp only [contentL, contentHead, List.mem_append, List.mem_cons, List.mem_map, List.mem_replicate, List.not_mem_nil, or_false] at hx
  rcases hx with (rfl | rfl | rfl | rfl | rfl | rfl) | ⟨y, _, rfl⟩ | ⟨_, rfl⟩ <;> rfl
theorem content_splice (nd : Fl.Node) : splice (contentCur nd) 6 (nd.list.map (Value.int .i64)) = contentL nd := by
  unfold splice contentCur contentL
  have h6 : (contentHead nd).length = 6 := rfl
  rw [List.take_left' h6, List.drop_append, List.drop_of_length_le (by rw [h6]; simp), List.nil_append, List.drop_replicate, h6]
  simp
theorem Tryd.infoInt1 : (Tryd.prog.info? 3).map (·.size) = some 1 := by kernel_rfl
theorem Tryd.infoContent : (Tryd.prog.info? 129).map (·.size) = some 22 := by kernel_rfl

set_option maxRecDepth 100000 in
set_option maxHeartbeats 8000000 in
theorem contentOf_any {w : World} {nb no : Nat} {nd : Fl.Node} {lv : Value} (h : NodeAt w nb no nd lv) (h16 : nd.list.length ≤ 16) :
    Calls Tryd.prog 65 #[.pointer (some ⟨nb, no, none⟩)] w fun e w' => e = .returned (.agg (contentL nd).toArray) ∧ Below w.heap.size w w' := by
  obtain ⟨ao, cap, rfl, hcap, hm, hx⟩ := id h.hl
  have HX : Hid (nd.list ≠ [] → ∃ b off, ao = some ⟨b, off, none⟩ ∧ b < w.heap.size ∧ ∀ i, i < nd.list.length → w.cell? ⟨b, off + i, none⟩ = some (.int .i64 (nd.list.getD i 0))) := hx
  clear hx
  unfold maxLen at hm
  have hlt : nb < w.heap.size := World.block_lt_of_cell? w _ h.c0
  have H5 : Hid (w.cell? ⟨nb, no + 5, none⟩ = some (.slice ao nd.list.length cap)) := h.c5
  have a0 : ∀ o, (w.alloc o).cell? ⟨nb, no, none⟩ = some (.int .i64 nd.kind) := fun o => by rw [World.cell?_alloc_past _ _ _ hlt]; exact h.c0
  have a1 : ∀ o, (w.alloc o).cell? ⟨nb, no + 1, none⟩ = some (.int .i64 nd.level) := fun o => by rw [World.cell?_alloc_past _ _ _ hlt]; exact h.c1
  have a2 : ∀ o, (w.alloc o).cell? ⟨nb, no + 2, none⟩ = some (.int .i64 nd.a) := fun o => by rw [World.cell?_alloc_past _ _ _ hlt]; exact h.c2
  have a3 : ∀ o, (w.alloc o).cell? ⟨nb, no + 3, none⟩ = some (.int .i64 nd.b) := fun o => by rw [World.cell?_alloc_past _ _ _ hlt]; exact h.c3
  have a4 : ∀ o, (w.alloc o).cell? ⟨nb, no + 4, none⟩ = some (.int .i64 nd.c) := fun o => by rw [World.cell?_alloc_past _ _ _ hlt]; exact h.c4
  have a5 : ∀ o, (w.alloc o).cell? ⟨nb, no + 5, none⟩ = some (.slice ao nd.list.length cap) := fun o => by rw [World.cell?_alloc_past _ _ _ hlt]; exact h.c5
  clear h
  go_enter Tryd.func65, Tryd.ntmps65
  go_wp2_with fail
  obtain ⟨W0, hW0⟩ : ∃ W0, W0 = w.alloc (.cells #[.int .i64 0, .int .i64 0, .int .i64 0, .int .i64 0, .int .i64 0, .int .i64 0, .int .i64 0, .int .i64 0, .int .i64 0, .int .i64 0, .int .i64 0, .int .i64 0, .int .i64 0, .int .i64 0, .int .i64 0, .int .i64 0, .int .i64 0, .int .i64 0, .int .i64 0, .int .i64 0, .int .i64 0, .int .i64 0] 129) := ⟨_, rfl⟩
  rw [← hW0]
  have hlt0 : nb < W0.heap.size := by rw [hW0]; simp; omega
  have b0 : W0.cell? ⟨nb, no, none⟩ = some (.int .i64 nd.kind) := by rw [hW0]; exact a0 _
  have b1 : W0.cell? ⟨nb, no + 1, none⟩ = some (.int .i64 nd.level) := by rw [hW0]; exact a1 _
  have b2 : W0.cell? ⟨nb, no + 2, none⟩ = some (.int .i64 nd.a) := by rw [hW0]; exact a2 _
  have b3 : W0.cell? ⟨nb, no + 3, none⟩ = some (.int .i64 nd.b) := by rw [hW0]; exact a3 _
  have b4 : W0.cell? ⟨nb, no + 4, none⟩ = some (.int .i64 nd.c) := by rw [hW0]; exact a4 _
  have b5 : W0.cell? ⟨nb, no + 5, none⟩ = some (.slice ao nd.list.length cap) := by rw [hW0]; exact a5 _
  have HW0 : Hid (W0 = w.alloc (.cells #[.int .i64 0, .int .i64 0, .int .i64 0, .int .i64 0, .int .i64 0, .int .i64 0, .int .i64 0, .int .i64 0, .int .i64 0, .int .i64 0, .int .i64 0, .int .i64 0, .int .i64 0, .int .i64 0, .int .i64 0, .int .i64 0, .int .i64 0, .int .i64 0, .int .i64 0, .int .i64 0, .int .i64 0, .int .i64 0] 129)) := hW0
  clear hW0 a0 a1 a2 a3 a4 a5
  obtain ⟨S, hS⟩ : ∃ S : World → Prop, S = fun w' => w'.cell? ⟨nb, no, none⟩ = some (.int .i64 nd.kind) ∧ w'.cell? ⟨nb, no + 1, none⟩ = some (.int .i64 nd.level) ∧ w'.cell? ⟨nb, no + 2, none⟩ = some (.int .i64 nd.a) ∧ w'.cell? ⟨nb, no + 3, none⟩ = some (.int .i64 nd.b) ∧ w'.cell? ⟨nb, no + 4, none⟩ = some (.int .i64 nd.c) ∧ w'.cell? ⟨nb, no + 5, none⟩ = some (.slice ao nd.list.length cap) := ⟨_, rfl⟩
  have HS : Hid (∀ w', S w' → w'.cell? ⟨nb, no, none⟩ = some (.int .i64 nd.kind) ∧ w'.cell? ⟨nb, no + 1, none⟩ = some (.int .i64 nd.level) ∧ w'.cell? ⟨nb, no + 2, none⟩ = some (.int .i64 nd.a) ∧ w'.cell? ⟨nb, no + 3, none⟩ = some (.int .i64 nd.b) ∧ w'.cell? ⟨nb, no + 4, none⟩ = some (.int .i64 nd.c) ∧ w'.cell? ⟨nb, no + 5, none⟩ = some (.slice ao nd.list.length cap)) := fun w' h => by rw [hS] at h; exact h
  have HS0 : Hid (∀ o, S (W0.drew.alloc o)) := fun o => by
    have hlt0 : nb < W0.drew.heap.size := hlt0
    rw [hS]; exact ⟨(World.cell?_alloc_past _ _ _ hlt0).trans b0, (World.cell?_alloc_past _ _ _ hlt0).trans b1, (World.cell?_alloc_past _ _ _ hlt0).trans b2, (World.cell?_alloc_past _ _ _ hlt0).trans b3, (World.cell?_alloc_past _ _ _ hlt0).trans b4, (World.cell?_alloc_past _ _ _ hlt0).trans b5⟩
  refine wp_region_alloc (S := S) 26 (by kernel_rfl) (by kernel_rfl) rfl (fun c a d v w h => by cases d <;> exact h) _ _ rfl rfl rfl rfl (by rw [hS]; exact ⟨b0, b1, b2, b3, b4, b5⟩) ?_
  clear hS
  simp only [List.take_succ_cons, List.take_zero]
  refine wpHeld_hide (fun L HL => ?_)
  repeat
    refine wpHeld_step rfl (fun K hK => ?_)
    apply Exists.intro
    refine ⟨fun w' hw => ?_, ?_⟩
    · obtain ⟨s0, s1, s2, s3, s4, s5⟩ := HS.out w' hw
      go_simp
      try with_reducible rfl
    go_simp
    refine hK _ ?_
    clear hK K
  refine HL.out _ ⟨.pointer (some ⟨W0.drew.heap.size, 0, none⟩), W0.drew.alloc (.cells #[.int .i64 0, .int .i64 0, .int .i64 0, .int .i64 0, .int .i64 0, .int .i64 0, .int .i64 0, .int .i64 0, .int .i64 0, .int .i64 0, .int .i64 0, .int .i64 0, .int .i64 0, .int .i64 0, .int .i64 0, .int .i64 0, .int .i64 0, .int .i64 0, .int .i64 0, .int .i64 0, .int .i64 0, .int .i64 0] 129), W0.drew.alloc (.cells #[.int .i64 nd.kind, .int .i64 nd.level, .int .i64 nd.a, .int .i64 nd.b, .int .i64 nd.c, .int .i64 nd.list.length, .int .i64 0, .int .i64 0, .int .i64 0, .int .i64 0, .int .i64 0, .int .i64 0, .int .i64 0, .int .i64 0, .int .i64 0, .int .i64 0, .int .i64 0, .int .i64 0, .int .i64 0, .int .i64 0, .int .i64 0, .int .i64 0] 129), by kernel_rfl, HS0.out _, exec_store_new _ _ 129 rfl _ _ _ rfl rfl Tryd.infoContent rfl (by kernel_rfl), HS0.out _, ?_⟩
  clear HL
  obtain ⟨W1, hW1⟩ : ∃ W1, W1 = W0.drew.alloc (.cells #[.int .i64 nd.kind, .int .i64 nd.level, .int .i64 nd.a, .int .i64 nd.b, .int .i64 nd.c, .int .i64 nd.list.length, .int .i64 0, .int .i64 0, .int .i64 0, .int .i64 0, .int .i64 0, .int .i64 0, .int .i64 0, .int .i64 0, .int .i64 0, .int .i64 0, .int .i64 0, .int .i64 0, .int .i64 0, .int .i64 0, .int .i64 0, .int .i64 0] 129) := ⟨_, rfl⟩
  rw [← hW1]
  have hC : W0.drew.heap.size = w.heap.size + 1 := by rw [HW0.out]; simp
  rw [hC]
  have hrow : W1.heap[w.heap.size + 1]? = some (.cells (contentCur nd).toArray 129 (0, 0)) := by rw [hW1, ← hC]; exact heap_alloc_last _ _
  have hrowR : W1.heap[w.heap.size]? = some (.cells (List.replicate 22 (Value.int .i64 0)).toArray 129 (0, 0)) := by
    rw [hW1, Below.heap_alloc _ _ _ (by rw [hC]; omega)]
    show W0.heap[w.heap.size]? = _
    rw [HW0.out]; exact heap_alloc_last _ _
  have hbel : Below w.heap.size w W1 := by
    rw [hW1]
    refine Below.alloc ?_ (by rw [hC]; omega) _
    rw [HW0.out]; exact ((Below.refl _ _).alloc (Nat.le_refl _) _).drew
  have k5 : W1.cell? ⟨nb, no + 5, none⟩ = some (.slice ao nd.list.length cap) := (hbel.cell (p := ⟨nb, no + 5, none⟩) hlt).trans H5.out
  have HROW : Hid (W1.heap[w.heap.size + 1]? = some (.cells (contentCur nd).toArray 129 (0, 0))) := hrow
  have HROWR : Hid (W1.heap[w.heap.size]? = some (.cells (List.replicate 22 (Value.int .i64 0)).toArray 129 (0, 0))) := hrowR
  have HBEL : Hid (Below w.heap.size w W1) := hbel
  clear hW1 hrow hrowR hbel hC b0 b1 b2 b3 b4 b5 HS HS0 HW0 hlt0
  go_wp2_with fail
  go_still_tail 6, (by kernel_rfl)
  refine wpList_copy_splice rfl (.tmp 31) (.tmp 35) 22 22 rfl 3 Tryd.underlying22 Tryd.infoInt1 _ _ _ _ _ _ rfl rfl (w.heap.size + 1) 6 (contentCur nd) 129 HROW.out (nd.list.map (Value.int .i64)) ?hn ?hpos ?hfit ?h1 (w.heap.size + 1) W1 ?hb ?hBg ?_
  case hn => simp only [List.length_map]; show nd.list.length = min nd.list.length 16; omega
  case hpos =>
    intro hpos
    refine ⟨rfl, ?_⟩
    obtain ⟨bb, off, hao, hbb, hcell⟩ := HX.out (by intro h0; rw [h0] at hpos; simp at hpos)
    refine ⟨_, hao, fun j u hj => ?_⟩
    have hj' : j < nd.list.length := by have := (List.getElem?_eq_some_iff.1 hj).1; simpa using this
    have h2 : (⟨bb, off, none⟩ : Addr).add j = ⟨bb, off + j, none⟩ := by unfold Addr.add; split <;> simp_all
    rw [h2]
    have h3 : W1.cell? ⟨bb, off + j, none⟩ = some u := by
      rw [HBEL.out.cell (p := ⟨bb, off + j, none⟩) hbb, hcell j hj']
      rw [List.getElem?_map, List.getElem?_eq_getElem hj'] at hj
      simp only [Option.map_some, Option.some.injEq] at hj
      rw [← hj, List.getD_eq_getElem?_getD, List.getElem?_eq_getElem hj']; rfl
    exact h3
  case hfit => simp only [contentCur, contentHead, List.length_append, List.length_map, List.length_replicate, List.length_cons, List.length_nil]; omega
  case h1 => intro u hu; obtain ⟨y, _, rfl⟩ := List.mem_map.1 hu; rfl
  case hb => exact (Below.refl _ _).drew
  case hBg => omega
  intro w2 hg2 hb2
  have hg2' : w2.heap[w.heap.size + 1]? = some (.cells (contentL nd).toArray 129 (0, 0)) := by rw [hg2.out, content_splice]
  have hgR : w2.heap[w.heap.size]? = some (.cells (List.replicate 22 (Value.int .i64 0)).toArray 129 (0, 0)) := (hb2.block _ (by omega)).trans HROWR.out
  have HG : Hid (w2.heap[w.heap.size + 1]? = some (.cells (contentL nd).toArray 129 (0, 0))) := hg2'
  have HGR : Hid (w2.heap[w.heap.size]? = some (.cells (List.replicate 22 (Value.int .i64 0)).toArray 129 (0, 0))) := hgR
  have HB2 : Hid (Below w.heap.size w w2) := HBEL.out.trans (hb2.mono (by omega))
  have HI : Hid ((Tryd.prog.info? 129).map (·.size) = some (contentL nd).toArray.size) := by
    show _ = _
    rw [Tryd.infoContent]; simp only [List.size_toArray, contentL_len nd h16]
  clear hg2 hg2' hgR hb2 HROW HROWR HBEL HX H5 k5
  generalize hcl : (contentL nd).toArray = cl at *
  have HONE : Hid (cl.all (·.oneCell') = true) := by show _ = _; rw [← hcl]; exact contentL_one nd
  have HSZ : Hid ((List.replicate 22 (Value.int .i64 0)).toArray.size = cl.size) := by show _ = _; rw [← hcl]; simp only [List.size_toArray, List.length_replicate, contentL_len nd h16]
  have HCL : Hid ((contentL nd).toArray = cl) := hcl
  clear hcl
  go_wp2_with (first | (refine wpList_load_row rfl _ 129 rfl _ rfl cl _ _ HG.out _ Tryd.underlying129 rfl HI.out ?_) | (refine wpList_store_row rfl _ _ 129 rfl _ rfl _ cl rfl _ HGR.out HI.out HSZ.out HONE.out ?_))
  refine bodyPost_ret (v := .agg cl) ?_ rfl ⟨by rw [HCL.out], below_setRow HB2.out (Nat.le_refl _) _⟩
  exact results_cell1 (p := 2) (ty := 129) Tryd.results65 _ _ ⟨w.heap.size, 0, none⟩ _ rfl (run_loadVar_row _ _ _ _ cl _ _ (setRow_heap _ _ _ _ _ _ HGR.out) Tryd.underlying129 rfl HI.out)
end Go.Proofs.YticlmjkfadklgaaDoor

/- What is in a node, as a map's key. -/
set_option linter.unusedSimpArgs false
set_option linter.unusedVariables false
namespace Go.Proofs.YticlmjkfadklgaaDoor
open Go.RowKit Go.Maps Go.WideMaps

theorem Tryd.laidOut : laidOutB Tryd.prog = true := by kernel_rfl
theorem rowContent : (129 : TypeId) < Tryd.prog.types.size := of_decide_eq_true (by kernel_rfl)
theorem wideContent : (match Tryd.prog.underlying 129 with | some (.array _ _) | some (.struct _) => true | _ => false) = true := by rw [Tryd.underlying129]
set_option maxRecDepth 100000 in
theorem lawContent : Keyed Tryd.prog 129 := Keyed.of_law (deep_law_laid Tryd.laidOut (m := 4) (by omega) rowContent (by kernel_rfl) wideContent)

theorem mapM_ex {α β : Type} {f : α → Option β} : ∀ (l : List α), (∀ x ∈ l, ∃ y, f x = some y) → ∃ ys, l.mapM f = some ys
  | [], _ => ⟨[], rfl⟩
  | x :: l, h => by
    obtain ⟨y, hy⟩ := h x (by simp)
    obtain ⟨ys, hys⟩ := mapM_ex l (fun z hz => h z (by simp [hz]))
    exact ⟨y :: ys, by simp [List.mapM_cons, hy, hys]⟩
theorem map_ex {α : Type} {f : α → Option (List Lit)} {l : List α} (h : ∃ ys, l.mapM f = some ys) : ∃ y, Option.map List.flatten (l.mapM f) = some y := by
  obtain ⟨ys, hys⟩ := h; exact ⟨ys.flatten, by rw [hys]; rfl⟩
theorem take_one {l : List Value} {i : Nat} (h : i < l.length) : (l.drop i).take 1 = [l[i]] := by
  rw [List.drop_eq_getElem_cons h]; rfl
/-- A row of ints that are ints. -/
def IntRow (cs : List Value) : Prop := ∀ v ∈ cs, ∃ x : Int, v = .int .i64 x ∧ (Lit.int .i64 x).wf = true
theorem keyInt (d : Nat) {v : Value} (h : ∃ x : Int, v = .int .i64 x ∧ (Lit.int .i64 x).wf = true) : ∃ y, Tryd.prog.keyLits (d + 1) 3 [v] = some y := by
  obtain ⟨x, rfl, hw⟩ := h
  exact ⟨[.int .i64 x], by simp [Program.keyLits, Tryd.underlying3, hw]⟩
theorem cellsInt : Tryd.prog.cellsOf 3 = 1 := by kernel_rfl
theorem cellsArr : Tryd.prog.cellsOf 127 = 16 := by kernel_rfl
theorem cellsContent : Tryd.prog.cellsOf 129 = 22 := by kernel_rfl
theorem keyArr (d : Nat) {cs : List Value} (hl : cs.length = 16) (h : IntRow cs) : ∃ y, Tryd.prog.keyLits (d + 2) 127 cs = some y := by
  have hm : ∃ ys, (List.range 16).mapM (fun i => Tryd.prog.keyLits (d + 1) 3 ((cs.drop (i * Tryd.prog.cellsOf 3)).take (Tryd.prog.cellsOf 3))) = some ys := by
    refine mapM_ex _ (fun i hi => ?_)
    rw [cellsInt, Nat.mul_one, take_one (by simp at hi; omega)]
    exact keyInt d (h _ (List.getElem_mem _))
  obtain ⟨ys, hys⟩ := hm
  refine ⟨ys.flatten, ?_⟩
  unfold Program.keyLits
  simp only [Tryd.underlying127, cellsArr, hl, if_true, hys, Option.map_some]
theorem keyContent (d : Nat) {cs : List Value} (hl : cs.length = 22) (h : IntRow cs) : ∃ y, Tryd.prog.keyLits (d + 3) 129 cs = some y := by
  unfold Program.keyLits
  simp only [Tryd.underlying129, cellsContent, hl]
  rw [if_pos ⟨trivial, by kernel_rfl⟩]
  have q : ∀ i, i < 6 → ∃ y, Tryd.prog.keyLits (d + 2) 3 (List.take (Tryd.prog.cellsOf 3) (List.drop i cs)) = some y := fun i hi => by
    rw [cellsInt, take_one (by omega)]; exact keyInt (d + 1) (h _ (List.getElem_mem _))
  have qa : ∃ y, Tryd.prog.keyLits (d + 2) 127 (List.take (Tryd.prog.cellsOf 127) (List.drop 6 cs)) = some y := by
    rw [cellsArr]; exact keyArr d (by simp; omega) (fun v hv => h v (List.mem_of_mem_drop (List.mem_of_mem_take hv)))
  refine map_ex (mapM_ex _ (fun f hf => ?_))
  simp only [List.mem_cons, List.not_mem_nil, or_false] at hf
  rcases hf with rfl | rfl | rfl | rfl | rfl | rfl | rfl
  · exact q 0 (by omega)
  · exact q 1 (by omega)
  · exact q 2 (by omega)
  · exact q 3 (by omega)
  · exact q 4 (by omega)
  · exact q 5 (by omega)
  · exact qa
theorem typesMany : 3 ≤ Tryd.prog.types.size + 1 := of_decide_eq_true (by kernel_rfl)
theorem key_ex {cs : List Value} (hl : cs.length = 22) (h : IntRow cs) : ∃ kl, keyOf Tryd.prog 129 (.agg cs.toArray) = some kl := by
  obtain ⟨d, hd⟩ : ∃ d, Tryd.prog.types.size + 1 = d + 3 := ⟨Tryd.prog.types.size + 1 - 3, by have := typesMany; omega⟩
  obtain ⟨y, hy⟩ := keyContent d hl h
  have hf : (Value.agg cs.toArray).formed Tryd.prog 129 = true := by simp [Value.formed, Tryd.underlying129, cellsContent, hl]
  have hk : Tryd.prog.keyType 129 = true := by kernel_rfl
  refine ⟨.string (keyBytes y), ?_⟩
  unfold keyOf
  rw [Tryd.underlying129]
  simp only [hf, hk, Bool.and_self, if_true, Value.cells, hd, hy, Option.map_some]

namespace Fl
/-- A node of numbers that a proof may have, its list not too long. -/
def fits (nd : Node) : Prop := inR nd.kind = true ∧ inR nd.level = true ∧ inR nd.a = true ∧ inR nd.b = true ∧ inR nd.c = true ∧ nd.list.length ≤ 16 ∧ nd.list.all inR = true
end Fl
theorem inR_wf {x : Int} (h : Fl.inR x = true) : (Lit.int .i64 x).wf = true := by
  simp only [Fl.inR, Bool.and_eq_true, decide_eq_true_eq] at h
  exact WalkArith.wf_i64 (by omega)
theorem content_row {nd : Fl.Node} (h : Fl.fits nd) : IntRow (contentL nd) := by
  obtain ⟨h0, h1, h2, h3, h4, h5, h6⟩ := h
  intro v hv
  simp only [contentL, contentHead, List.mem_append, List.mem_cons, List.mem_map, List.mem_replicate, List.not_mem_nil, or_false] at hv
  rcases hv with (rfl | rfl | rfl | rfl | rfl | rfl) | ⟨y, hy, rfl⟩ | ⟨_, rfl⟩
  · exact ⟨_, rfl, inR_wf h0⟩
  · exact ⟨_, rfl, inR_wf h1⟩
  · exact ⟨_, rfl, inR_wf h2⟩
  · exact ⟨_, rfl, inR_wf h3⟩
  · exact ⟨_, rfl, inR_wf h4⟩
  · exact ⟨_, rfl, WalkArith.wf_i64 (by omega)⟩
  · exact ⟨_, rfl, inR_wf (List.all_eq_true.1 h6 y hy)⟩
  · exact ⟨_, rfl, WalkArith.wf_i64 (by omega)⟩
/-- A node's key. -/
def keyNd (P : Program) (nd : Fl.Node) : Lit := (keyOf P 129 (.agg (contentL nd).toArray)).getD .nil
theorem keyNd_is {nd : Fl.Node} (h : Fl.fits nd) : keyOf Tryd.prog 129 (.agg (contentL nd).toArray) = some (keyNd Tryd.prog nd) := by
  obtain ⟨kl, hk⟩ := key_ex (contentL_len nd h.2.2.2.2.2.1) (content_row h)
  unfold keyNd; rw [hk]; rfl
theorem contentL_inj {x y : Fl.Node} (h : contentL x = contentL y) : x = y := by
  unfold contentL at h
  have h1 := List.append_inj_left h rfl
  have h2 := List.append_inj_right h rfl
  obtain ⟨xk, xl, xa, xb, xc, xs⟩ := x
  obtain ⟨yk, yl, ya, yb, yc, ys⟩ := y
  simp only [contentHead, List.cons.injEq, Value.int.injEq, true_and, and_true] at h1
  obtain ⟨rfl, rfl, rfl, rfl, rfl, hn⟩ := h1
  have hn' : xs.length = ys.length := by omega
  have h3 := List.append_inj_left h2 (by simpa using hn')
  have h4 : xs = ys := by
    simp only at h3
    exact (List.map_inj_right (fun a b hab => by injection hab)).1 h3
  rw [h4]
theorem keyNd_inj {x y : Fl.Node} (hx : Fl.fits x) (hy : Fl.fits y) (h : keyNd Tryd.prog x = keyNd Tryd.prog y) : x = y := by
  have h1 := keyNd_is hx
  rw [h] at h1
  have := lawContent.inj h1 (keyNd_is hy)
  simp only [Value.agg.injEq] at this
  exact contentL_inj (by have := congrArg Array.toList this; simpa using this)
end Go.Proofs.YticlmjkfadklgaaDoor

/- The program: things each once. -/
set_option linter.unusedSimpArgs false
set_option linter.unusedVariables false
namespace Go.Proofs.YticlmjkfadklgaaDoor
open Go.RowKit Go.Maps Go.WideMaps

/-- Nodes that were seen, by what is in them. -/
def Seen (w : World) (T B : Nat) (seen : List Fl.Node) : Prop :=
  w.cell? ⟨T, 0, none⟩ = some (.map (some B)) ∧ ∃ n D, n ≤ seen.length ∧ w.ownsMap (H := Unit) Tryd.prog 129 (plainElem Tryd.prog 3) B n D ∧ ∀ nd, Fl.fits nd → (Maps.has D (keyNd Tryd.prog nd) = true ↔ nd ∈ seen)
theorem Seen.kept {w w' : World} {T B : Nat} {seen : List Fl.Node} (h : Seen w T B seen) {row : Option Nat} (g : w.grownBy w' row) (hT : some T ≠ row) (hB : some B ≠ row) : Seen w' T B seen := by
  obtain ⟨h1, n, D, h2, h3, h4⟩ := h
  exact ⟨g.cell h1 hT, n, D, h2, h3.kept g hB, h4⟩
theorem zeroInt (w : World) : (zeroValue 3).run Tryd.prog w = .ok (.int .i64 0) w := by kernel_rfl

set_option maxRecDepth 100000 in
set_option maxHeartbeats 2000000 in
theorem none_any (w : World) : Calls Tryd.prog 61 #[] w fun e w' => e = .returned (.pointer (some ⟨w.heap.size + 1, 0, none⟩)) ∧ Seen w' (w.heap.size + 1) w.heap.size [] ∧ Below w.heap.size w w' ∧ w'.heap.size = w.heap.size + 2 := by
  have hmm := @run_makeMap Tryd.prog
  go_enter Tryd.func61, Tryd.ntmps61
  go_wp2
  go_ret
  refine ⟨rfl, ⟨?_, 0, .map [], Nat.le_refl _, (World.ownsMap_made w _ _ _).alloc _, fun nd _ => ?_⟩, ?_, ?_⟩
  · simp
  · simp [Maps.has]
  · exact (((Below.refl _ _).alloc (Nat.le_refl _) _).alloc (by simp) _)
  · simp

set_option maxRecDepth 100000 in
set_option maxHeartbeats 4000000 in
theorem once_any {w : World} {T B : Nat} {seen : List Fl.Node} {nd : Fl.Node} (h : Seen w T B seen) (hf : Fl.fits nd) (hn : seen.length ≤ 1000000) :
    Calls Tryd.prog 64 #[.pointer (some ⟨T, 0, none⟩), .agg (contentL nd).toArray] w fun e w' => ∃ (c : Int) (t : Bool), e = .returned (.tuple #[.int .i64 c, .bool (!t)]) ∧ (t = true ↔ nd ∈ seen) ∧ Seen w' T B (nd :: seen) ∧ w.grownBy w' (some B) := by
  obtain ⟨hT, n, D, hnl, hown, hD⟩ := h
  have hkey := keyNd_is hf
  have HI : Hid ((Tryd.prog.info? 129).map (·.size) = some (contentL nd).toArray.size) := by
    show _ = _
    rw [Tryd.infoContent]; simp only [List.size_toArray, contentL_len nd hf.2.2.2.2.2.1]
  generalize hcl : (contentL nd).toArray = cl at *
  have hTlt : T < w.heap.size := World.block_lt_of_cell? w _ hT
  have hBlt := hown.lt
  have HK : Hid (keyOf Tryd.prog 129 (.agg cl) = some (keyNd Tryd.prog nd)) := hkey
  have HO : Hid (w.ownsMap (H := Unit) Tryd.prog 129 (plainElem Tryd.prog 3) B n D) := hown
  have HDD : Hid (∀ nd, Fl.fits nd → (Maps.has D (keyNd Tryd.prog nd) = true ↔ nd ∈ seen)) := hD
  have HT : Hid (w.cell? ⟨T, 0, none⟩ = some (.map (some B))) := hT
  clear hkey hown hD hcl hT
  go_enter Tryd.func64, Tryd.ntmps64
  go_wp2_with fail
  obtain ⟨W0, hW0⟩ : ∃ W0, W0 = w.alloc (.cells cl 129) := ⟨_, rfl⟩
  rw [← hW0]
  have g0 : w.grownBy W0 none := by rw [hW0]; exact World.grownBy_alloc _ _ _
  have hT0 : W0.cell? ⟨T, 0, none⟩ = some (.map (some B)) := g0.cell HT.out (by simp)
  have hown0 : W0.ownsMap (H := Unit) Tryd.prog 129 (plainElem Tryd.prog 3) B n D := HO.out.kept g0 (by simp)
  have HX : Hid (W0.heap[w.heap.size]? = some (.cells cl 129 (0, 0))) := by show _ = _; rw [hW0]; exact heap_alloc_last _ _
  have HO0 : Hid (W0.ownsMap (H := Unit) Tryd.prog 129 (plainElem Tryd.prog 3) B n D) := hown0
  have HG0 : Hid (w.grownBy W0 none) := g0
  obtain ⟨v, ps, hlk, hv⟩ := hown0.drew.look_ok lawContent Tryd.underlying147 (zeroInt _) (zd := .lit (.int .i64 0)) (zp := []) (plainElem_int Tryd.underlying3 (by decide)) HK.out
  obtain ⟨c, rfl, hc, hwc⟩ := plainElem_int_inv Tryd.underlying3 hv
  obtain ⟨t, ht⟩ : ∃ t, t = Maps.has D (keyNd Tryd.prog nd) := ⟨_, rfl⟩
  rw [← ht] at hlk
  have HLK : Hid ((Instr.lookup 147 (.map (some B)) (.agg cl) true).run Tryd.prog W0.drew = .ok (.tuple #[.int .i64 c, .bool t]) W0.drew) := hlk
  have HTT : Hid (t = Maps.has D (keyNd Tryd.prog nd)) := ht
  clear hW0 g0 hown0 hlk hv hc hwc HO ht
  refine wp_region_still_lit (by kernel_rfl) (by kernel_rfl) ?_
  iterate 4 still_step
  refine still_value rfl (.agg cl) (exec_load_row _ 129 rfl w.heap.size rfl cl _ _ HX.out _ Tryd.underlying129 rfl HI.out) ?_
  refine still_value rfl (.tuple #[.int .i64 c, .bool t]) (exec_lookup _ _ 147 rfl (.map (some B)) (.agg cl) _ rfl rfl HLK.out) ?_
  repeat still_step
  refine wpStill_nil ?_
  have hTd : W0.drew.cell? ⟨T, 0, none⟩ = some (.map (some B)) := hT0
  have HGd : Hid (w.grownBy W0.drew none) := ⟨HG0.out.os, HG0.out.tape, HG0.out.output, HG0.out.size, HG0.out.block⟩
  have HOd : Hid (W0.drew.ownsMap (H := Unit) Tryd.prog 129 (plainElem Tryd.prog 3) B n D) := HO0.out
  have HXd : Hid (W0.drew.heap[w.heap.size]? = some (.cells cl 129 (0, 0))) := HX.out
  change Exit.then _ _ _ _ W0.drew
  generalize W0.drew = W1 at *
  clear hT0 HG0 HO0 HX HLK
  cases t with
  | true =>
    have hmem : nd ∈ seen := (HDD.out nd hf).1 HTT.out.symm
    have HMEM : Hid (nd ∈ seen) := hmem
    clear hmem
    go_wp2
    go_ret2
    refine ⟨c, true, rfl, ⟨fun _ => HMEM.out, fun _ => rfl⟩, ⟨hTd, n, D, by simp; omega, HOd.out, fun nd' hf' => ?_⟩, ⟨HGd.out.os, HGd.out.tape, HGd.out.output, HGd.out.size, fun k hk _ => HGd.out.block k hk (by simp)⟩⟩
    rw [HDD.out nd' hf', List.mem_cons]
    exact ⟨fun h => .inr h, fun h => h.elim (fun e => by rw [e]; exact HMEM.out) id⟩
  | false =>
    have hno : nd ∉ seen := fun h => by have := (HDD.out nd hf).2 h; rw [← HTT.out] at this; cases this
    have HNO : Hid (nd ∉ seen) := hno
    have hsl := HOd.out.size_le
    clear hno
    go_wp2_with (at_len; refine wpList_len_own _ rfl _ 147 rfl 129 3 Tryd.underlying147 _ B n D rfl HOd.out ?_)
    refine wp_region_still_tail 6 (by kernel_rfl) (by kernel_rfl) ?_
    simp only [List.take_succ_cons, List.take_zero, List.drop_succ_cons, List.drop_zero]
    iterate 4 still_step
    refine still_value rfl (.agg cl) (exec_load_row _ 129 rfl w.heap.size rfl cl _ _ HXd.out _ Tryd.underlying129 rfl HI.out) ?_
    still_step
    refine wpStill_nil ?_
    have HOe : Hid (W1.drew.ownsMap (H := Unit) Tryd.prog 129 (plainElem Tryd.prog 3) B n D) := HOd.out
    refine wpList_mapUpdate_own W1.drew rfl _ _ _ 147 rfl 129 3 lawContent Tryd.underlying147 _ B n D rfl HOe.out (by unfold maxLen; omega) _ _ _ rfl rfl HK.out _ [] (plainElem_int Tryd.underlying3 (WalkArith.wf_i64 (by omega))) ?_
    intro w2 hown2 hg2
    have HS2 : Hid (Seen w2 T B (nd :: seen)) := by
      refine ⟨?_, n + 1, _, by simp; omega, hown2, fun nd' hf' => ?_⟩
      · have hTB : T ≠ B := by
          intro e
          obtain ⟨es, clock, hb, _⟩ := HOd.out
          subst e
          simp [World.cell?, hb] at hTd
        exact hg2.cell hTd (by simpa using hTB)
      · by_cases he : nd' = nd
        · subst he
          rw [Maps.has_put_same HOd.out.isMap (lawContent.key HK.out)]; simp
        · rw [Maps.has_put_other (fun h => he (keyNd_inj hf' hf h)), HDD.out nd' hf', List.mem_cons]
          exact ⟨fun h => .inr h, fun h => h.elim (fun e => absurd e he) id⟩
    have HG2 : Hid (w.grownBy w2 (some B)) := ⟨hg2.os.trans HGd.out.os, hg2.tape.trans HGd.out.tape, hg2.output.trans HGd.out.output, Nat.le_trans HGd.out.size hg2.size, fun k hk hne => (hg2.block k (Nat.lt_of_lt_of_le hk HGd.out.size) hne).trans (HGd.out.block k hk (by simp))⟩
    clear hown2 hg2 HOe hTd HXd
    go_wp2
    go_ret2
    exact ⟨_, false, rfl, ⟨fun h => (by cases h), fun h => absurd h HNO.out⟩, HS2.out, HG2.out⟩
end Go.Proofs.YticlmjkfadklgaaDoor
