/- Texts CdPl Lnj CeSteps Lnk. -/
import Derived.Test.YtbihjgfbocpobaaGreatDoorM19
/- The reading of a proof: what its loop holds in memory. -/
set_option linter.unusedSimpArgs false
set_option linter.unusedVariables false
namespace Go.Proofs.YtbihjgfbocpobaaGreatDoor
open Go.RowKit

/-- Of what was there nothing has turned but cells 1 and 34 of block b. -/
structure Fr (w w' : World) (b : Nat) : Prop where
  g : w.grownBy w' (some b)
  o : ∀ j, j ≠ 1 → j ≠ 34 → w'.cell? ⟨b, j, none⟩ = w.cell? ⟨b, j, none⟩
  f : ∀ j, w'.frozen? ⟨b, j, none⟩ = w.frozen? ⟨b, j, none⟩
theorem Mv.fr {w w' : World} {b : Nat} (h : Mv w w' b) : Fr w w' b := ⟨h.g, fun j h1 _ => h.o j h1, h.f⟩
theorem Fr.trans {w w1 w2 : World} {b : Nat} (h : Fr w w1 b) (k : Fr w1 w2 b) : Fr w w2 b :=
  ⟨⟨k.g.os.trans h.g.os, k.g.tape.trans h.g.tape, k.g.output.trans h.g.output, Nat.le_trans h.g.size k.g.size, fun i hi hne => (k.g.block i (Nat.lt_of_lt_of_le hi h.g.size) hne).trans (h.g.block i hi hne)⟩,
   fun j hj hj' => (k.o j hj hj').trans (h.o j hj hj'), fun j => (k.f j).trans (h.f j)⟩
theorem Fr.andGrown {w w1 w2 : World} {b : Nat} {row : Option Nat} (h : Fr w w1 b) (g : w1.grownBy w2 row) (hb : b < w.heap.size) (hall : ∀ k, row = some k → w.heap.size ≤ k) : Fr w w2 b := by
  have hne : ∀ k, k < w.heap.size → some k ≠ row := fun k hk e => by have := hall k e.symm; omega
  have hz := h.g.size
  refine ⟨⟨g.os.trans h.g.os, g.tape.trans h.g.tape, g.output.trans h.g.output, Nat.le_trans h.g.size g.size, fun k hk hkb => (g.block k (by omega) (hne k hk)).trans (h.g.block k hk hkb)⟩, fun j hj hj' => ?_, fun j => ?_⟩
  · exact (World.cell?_of_block (w := w1) (a := ⟨b, j, none⟩) (g.block b (by omega) (hne b hb))).trans (h.o j hj hj')
  · exact (World.frozen?_of_block (w := w1) (a := ⟨b, j, none⟩) (g.block b (by omega) (hne b hb))).trans (h.f j)
theorem Fr.set34 (w : World) (b : Nat) (u : Value) : Fr w (w.setCell ⟨b, 34, none⟩ u) b :=
  ⟨grown_set w b 34 u, fun j _ hj => nd_off (fun e => hj e.symm), fun j => World.frozen?_setCell _ _ _ _⟩

/-- What lies from a block on stays. -/
structure Stay (base : Nat) (w w' : World) : Prop where
  size : w.heap.size ≤ w'.heap.size
  block : ∀ k, base ≤ k → k < w.heap.size → w'.heap[k]? = w.heap[k]?
theorem Stay.alloc (base : Nat) (w : World) (o : Obj) : Stay base w (w.alloc o) := ⟨by simp, fun k _ hk => Below.heap_alloc _ _ _ hk⟩
theorem Stay.grown {base : Nat} {w w' : World} {row : Option Nat} (g : w.grownBy w' row) (h : ∀ k, row = some k → k < base) : Stay base w w' := ⟨g.size, fun k hb hk => g.block k hk (fun e => by have := h k e.symm; omega)⟩
theorem Stay.below {base : Nat} {w w' : World} (h : Below w.heap.size w w') : Stay base w w' := ⟨h.size, fun k _ hk => h.block k hk⟩
theorem Stay.trans {base : Nat} {w w1 w2 : World} (h : Stay base w w1) (k : Stay base w1 w2) : Stay base w w2 := ⟨Nat.le_trans h.size k.size, fun i hb hi => (k.block i hb (Nat.lt_of_lt_of_le hi h.size)).trans (h.block i hb hi)⟩
theorem own_stay {base : Nat} {w w' : World} {e : TypeId} {size : Nat} {v : Value} {n : Nat} {xs : List Value} (h : w.ownsRow base e size v n xs) (s : Stay base w w') : w'.ownsRow base e size v n xs := by
  refine ⟨h.1, ?_⟩
  rcases h.2 with hn | ⟨g, cap, cur, hv, hb, hg, rest⟩
  · exact .inl hn
  · exact .inr ⟨g, cap, cur, hv, hb, (s.block g hb (Array.getElem?_eq_some_iff.1 hg).1).trans hg, rest⟩
theorem ints_stay {base : Nat} {w w' : World} {lv : Value} {xs : List Int} (h : IntsAt w.heap.size w lv xs) (hb : xs ≠ [] → ∀ b, lv.ownBlock = some b → base ≤ b) (s : Stay base w w') : IntsAt w'.heap.size w' lv xs := by
  obtain ⟨ao, cap, rfl, hc, hl, hx⟩ := h
  refine ⟨ao, cap, rfl, hc, hl, fun hne => ?_⟩
  obtain ⟨b, off, rfl, hlt, hcell⟩ := hx hne
  have hbb := hb hne b rfl
  exact ⟨b, off, rfl, Nat.lt_of_lt_of_le hlt s.size, fun i hi => (World.cell?_of_block (w := w) (a := ⟨b, off + i, none⟩) (s.block b hbb hlt)).trans (hcell i hi)⟩

/-- Two lists that are appended to, and lists that stay; all from a block on. -/
structure Li (base : Nat) (w : World) (fam : List (Value × List Int)) (sv nv : Value) (n1 n2 : Nat) (xs ys : List Value) : Prop where
  hs : w.ownsRow base 3 1 sv n1 xs
  hn : w.ownsRow base 53 6 nv n2 ys
  hall : ∀ p, p ∈ fam → Kept w p.1 p.2 sv nv ∧ (p.2 ≠ [] → ∀ b, p.1.ownBlock = some b → base ≤ b)
section
variable {base : Nat} {w w' : World} {fam : List (Value × List Int)} {sv nv : Value} {n1 n2 : Nat} {xs ys : List Value}
theorem Li.stay (h : Li base w fam sv nv n1 n2 xs ys) (s : Stay base w w') : Li base w' fam sv nv n1 n2 xs ys :=
  ⟨own_stay h.hs s, own_stay h.hn s, fun p hp => ⟨⟨ints_stay (h.hall p hp).1.1 (h.hall p hp).2 s, (h.hall p hp).1.2⟩, (h.hall p hp).2⟩⟩
theorem Li.first (h : Li base w fam sv nv n1 n2 xs ys) {sv' : Value} {n1' : Nat} {xs' : List Value} (ho : w'.ownsRow base 3 1 sv' n1' xs') (hg : w.grownBy w' sv.ownBlock) (hw : sv'.ownBlock = sv.ownBlock ∨ sv'.ownBlock = some w.heap.size) : Li base w' fam sv' nv n1' n2 xs' ys :=
  ⟨ho, h.hn.kept hg (own_types h.hn h.hs (by decide)), fun p hp => ⟨(h.hall p hp).1.first hg hw, (h.hall p hp).2⟩⟩
theorem Li.second (h : Li base w fam sv nv n1 n2 xs ys) {nv' : Value} {n2' : Nat} {ys' : List Value} (ho : w'.ownsRow base 53 6 nv' n2' ys') (hg : w.grownBy w' nv.ownBlock) (hw : nv'.ownBlock = nv.ownBlock ∨ nv'.ownBlock = some w.heap.size) : Li base w' fam sv nv' n1 n2' xs ys' :=
  ⟨h.hs.kept hg (own_types h.hs h.hn (by decide)), ho, fun p hp => ⟨(h.hall p hp).1.second hg hw, (h.hall p hp).2⟩⟩
theorem Li.add (h : Li base w fam sv nv n1 n2 xs ys) {lvn : Value} {l : List Int} {N : Nat} (hi : IntsAt w.heap.size w lvn l) (hf : ∀ b, lvn.ownBlock = some b → N ≤ b) (hsN : ∀ b, sv.ownBlock = some b → b < N) (hnN : ∀ b, nv.ownBlock = some b → b < N) (hN : base ≤ N) : Li base w (fam ++ [(lvn, l)]) sv nv n1 n2 xs ys := by
  refine ⟨h.hs, h.hn, fun p hp => ?_⟩
  simp only [List.mem_append, List.mem_singleton] at hp
  rcases hp with hp | rfl
  · exact h.hall p hp
  · refine ⟨⟨hi, fun hx => ?_⟩, fun _ b hb => by have := hf b hb; omega⟩
    obtain ⟨b, hb, hlt⟩ := ints_lt hi hx
    have := hf b hb
    exact ⟨fun hh => by have := hsN b (hh.symm.trans hb); omega, fun hh => by have := hnN b (hh.symm.trans hb); omega⟩
end

/-- What the loop over nodes holds: k are read, the next one is at byte q. R: the result's block, P0: the proof's, b: the reader's. -/
structure PL (s : List UInt8) (M q0 : Nat) (w : World) (b P0 : Nat) (lv : Value) (ls : List Int) (wr : World) (k q : Nat) (sv nv : Value) (st : List Int) (acc : List Fl.Node) (lvs : List Value) : Prop where
  hk : k ≤ M
  hq : q ≤ s.length
  hst : st.length = k
  hacc : acc.length = k
  hlvs : lvs.length = k
  hrun : Fl.nodesA s M 0 q0 [] [] = Fl.nodesA s (M - k) k q st acc
  hgood : Fl.allGood acc
  hl : Li (P0 + 1) wr ((lv, ls) :: famOf acc lvs) sv nv k k (st.map (Value.int .i64)) (flat acc lvs)
  c0 : wr.cell? ⟨P0, 0, none⟩ = some lv
  c1 : wr.cell? ⟨P0, 1, none⟩ = some nv
  d0 : wr.cell? ⟨w.heap.size, 0, none⟩ = some (.slice none 0 0)
  d1 : wr.cell? ⟨w.heap.size, 1, none⟩ = some (.slice none 0 0)
  f0 : ∀ j, wr.frozen? ⟨w.heap.size, j, none⟩ = false
  f1 : ∀ j, wr.frozen? ⟨P0, j, none⟩ = false
  fb : ∀ j, wr.frozen? ⟨b, j, none⟩ = false
  fr : Fr w wr b
  a1 : wr.cell? ⟨b, 1, none⟩ = some (.int .i64 (q : Int))
  a34 : wr.cell? ⟨b, 34, none⟩ = some sv
  hR : w.heap.size < P0
  hP : P0 < wr.heap.size
  hb : b < w.heap.size
theorem PL.nodes {s : List UInt8} {M q0 : Nat} {w : World} {b P0 : Nat} {lv : Value} {ls : List Int} {wr : World} {k q : Nat} {sv nv : Value} {st : List Int} {acc : List Fl.Node} {lvs : List Value} (h : PL s M q0 w b P0 lv ls wr k q sv nv st acc lvs) : NodesAt wr.heap.size wr nv acc :=
  nodes_of_own (by rw [h.hacc]; exact h.hl.hn) (by rw [h.hacc, h.hlvs]) (fun i hi => (h.hl.hall _ (by simp only [List.mem_cons]; right; exact famOf_mem acc lvs i (by rw [h.hacc, h.hlvs]) hi)).1.1)
theorem PL.locals {s : List UInt8} {M q0 : Nat} {w : World} {b P0 : Nat} {lv : Value} {ls : List Int} {wr : World} {k q : Nat} {sv nv : Value} {st : List Int} {acc : List Fl.Node} {lvs : List Value} (h : PL s M q0 w b P0 lv ls wr k q sv nv st acc lvs) : IntsAt wr.heap.size wr lv ls := (h.hl.hall (lv, ls) (by simp)).1.1
theorem PL.starts {s : List UInt8} {M q0 : Nat} {w : World} {b P0 : Nat} {lv : Value} {ls : List Int} {wr : World} {k q : Nat} {sv nv : Value} {st : List Int} {acc : List Fl.Node} {lvs : List Value} (h : PL s M q0 w b P0 lv ls wr k q sv nv st acc lvs) : IntsAt wr.heap.size wr sv st := IntsAt.of_own h.hl.hs
end Go.Proofs.YtbihjgfbocpobaaGreatDoor

/- The program's Read: what it holds from line to line. -/
set_option linter.unusedSimpArgs false
set_option linter.unusedVariables false
namespace Go.Proofs.YtbihjgfbocpobaaGreatDoor
open Go.RowKit

structure RdRel (s : List UInt8) (P B : Nat) (W0 W : World) (i : Nat) (rest : List UInt8) (ls : List Int) (lv nv : Value) (acc : List Fl.Node) (lvs : List Value) : Prop where
  hg : Grow ls W0 W P P lv nv acc lvs
  ha : acc.length = i - 1
  hr : Fl.readText s = Fl.readL ls acc i (Fl.cutR 10 rest)
  h0 : i = 0 → ls = [] ∧ nv = .slice none 0 0
  hm : Mid P B W0 W
  hnb : ∀ b, nv.ownBlock = some b → B ≤ b
  hlb : ∀ p, p ∈ (lv, ls) :: famOf acc lvs → p.2 ≠ [] → ∀ b, p.1.ownBlock = some b → B ≤ b
  hz : B ≤ W.heap.size
  hl : rest.length + i ≤ s.length
section
variable {s rest : List UInt8} {P B i : Nat} {W0 W w1 w2 : World} {ls vs : List Int} {lv nv nv' v lvn : Value} {acc : List Fl.Node} {lvs : List Value} {nd : Fl.Node}
theorem RdRel.below (h : RdRel s P B W0 W i rest ls lv nv acc lvs) (hb : Below W.heap.size W w1) : RdRel s P B W0 w1 i rest ls lv nv acc lvs :=
  ⟨h.hg.below hb, h.ha, h.hr, h.h0, h.hm.below h.hz hb, h.hnb, h.hlb, Nat.le_trans h.hz hb.size, h.hl⟩
theorem RdRel.first (h : RdRel s P B W0 W 0 rest ls lv nv acc lvs) (hb : Below W.heap.size W w2) (ho : w2.ownsRow W.heap.size 3 1 v vs.length (vs.map (Value.int .i64))) (hc : (Lib.cut rest [10]).2.2 = true) (hl : Fl.localsOf (Fl.cutR 32 (Lib.cut rest [10]).1) = some vs) :
    RdRel s P B W0 (w2.setCell ⟨P, 0, none⟩ v) 1 (Lib.cut rest [10]).2.1 vs v nv acc lvs := by
  obtain ⟨hls, hnv⟩ := h.h0 rfl
  have hacc : acc = [] := List.eq_nil_of_length_eq_zero (by have := h.ha; omega)
  subst hls hnv hacc
  have hlvs : lvs = [] := List.eq_nil_of_length_eq_zero (by have := h.hg.hl; simpa using this)
  subst hlvs
  have hz := h.hg.hz
  have hz3 := h.hz
  have s2 := hb.size
  have hs : (w2.setCell ⟨P, 0, none⟩ v).heap.size = w2.heap.size := by simp [World.setCell]
  have c0 : w2.cell? ⟨P, 0, none⟩ = some lv := (hb.cell (p := ⟨P, 0, none⟩) hz).trans h.hg.c0
  have c1 : w2.cell? ⟨P, 1, none⟩ = some (.slice none 0 0) := (hb.cell (p := ⟨P, 1, none⟩) hz).trans h.hg.c1
  have fq : ∀ j, w2.frozen? ⟨P, j, none⟩ = false := fun j => (hb.frozen (p := ⟨P, j, none⟩) hz).trans (h.hg.fq j)
  have hov : ∀ b, v.ownBlock = some b → W.heap.size ≤ b := fun b hb => (ho.lt b hb).1
  have hcf := Fl.cut_found 10 rest hc
  refine ⟨Grow.new ?_ (by omega) (ints_set (IntsAt.of_own ho) (fun _ hh => ?_)) (Nat.le_refl _) (fun _ b hb => ?_) (cell_self c0) ((cell_off (by decide)).trans c1) (fun j => by rw [World.frozen?_setCell]; exact fq j), rfl, ?_, fun hh => by omega, ?_, fun b hb => by simp [Value.ownBlock] at hb, ?_, by omega, ?_⟩
  · exact (h.hg.hb.trans (hb.mono (by omega))).setCell (Nat.le_refl _) _
  · have h9 : W.heap.size ≤ P := hov _ hh
    omega
  · have := hov b hb; omega
  · rw [h.hr, hcf.1, Fl.readL_first _ _ _ _ (Fl.cutR_ne _ _), hl]
  · exact (h.hm.below hz3 hb).set 0 v
  · intro p hp _ b hpb
    simp only [famOf, List.mem_singleton] at hp
    subst hp
    have := hov b hpb; omega
  · have := h.hl; have := hcf.2; omega
theorem RdRel.bad0 (h : RdRel s P B W0 W 0 rest ls lv nv acc lvs) (hc : (Lib.cut rest [10]).2.2 = true) (hl : Fl.localsOf (Fl.cutR 32 (Lib.cut rest [10]).1) = none) : (Fl.readText s).2 = 1 := by
  rw [h.hr, (Fl.cut_found 10 rest hc).1, Fl.readL_first _ _ _ _ (Fl.cutR_ne _ _), hl]
theorem RdRel.next (h : RdRel s P B W0 W (i + 1) rest ls lv nv acc lvs) (hb : Below W.heap.size W w1) (hi : IntsAt w1.heap.size w1 lvn nd.list) (hf : ∀ b, lvn.ownBlock = some b → W.heap.size ≤ b)
    (ho : w2.ownsRow (P + 1) 53 6 nv' (acc.length + 1) (flat acc lvs ++ nodeCells nd lvn)) (hg : w1.grownBy w2 nv.ownBlock) (hw : nv'.ownBlock = nv.ownBlock ∨ nv'.ownBlock = some w1.heap.size) (hc : (Lib.cut rest [10]).2.2 = true) (hn : Fl.nodeOf i (Fl.cutR 32 (Lib.cut rest [10]).1) = some nd) :
    RdRel s P B W0 (w2.setCell ⟨P, 1, none⟩ nv') (i + 2) (Lib.cut rest [10]).2.1 ls lv nv' (acc ++ [nd]) (lvs ++ [lvn]) := by
  have s1 := hb.size
  have s2 := hg.size
  have hz3 := h.hz
  have hs : (w2.setCell ⟨P, 1, none⟩ nv').heap.size = w2.heap.size := by simp [World.setCell]
  have hcf := Fl.cut_found 10 rest hc
  refine ⟨h.hg.push hb hi hf ho hg hw, by have := h.ha; simp; omega, ?_, fun hh => by omega, ?_, fun b hb' => ?_, ?_, by omega, ?_⟩
  · rw [h.hr, hcf.1, Fl.readL_next _ _ _ _ _ (Fl.cutR_ne _ _), hn]
  · exact ((h.hm.below hz3 hb).grown (by omega) hg h.hnb).set 1 nv'
  · rcases hw with hw | hw
    · exact h.hnb b (hw ▸ hb')
    · rw [hw] at hb'; simp at hb'; omega
  · intro p hp hne b hpb
    rw [famOf_snoc _ _ _ _ h.hg.hl] at hp
    simp only [List.mem_cons, List.mem_append, List.not_mem_nil, or_false] at hp
    rcases hp with hp | hp | hp
    · exact h.hlb p (by rw [hp]; simp) hne b hpb
    · exact h.hlb p (by simp [hp]) hne b hpb
    · subst hp; have := hf b hpb; omega
  · have := h.hl; have := hcf.2; omega
theorem RdRel.bad (h : RdRel s P B W0 W (i + 1) rest ls lv nv acc lvs) (hc : (Lib.cut rest [10]).2.2 = true) (hn : Fl.nodeOf i (Fl.cutR 32 (Lib.cut rest [10]).1) = none) : (Fl.readText s).2 = i + 2 := by
  rw [h.hr, (Fl.cut_found 10 rest hc).1, Fl.readL_next _ _ _ _ _ (Fl.cutR_ne _ _), hn]
theorem RdRel.open (h : RdRel s P B W0 W i rest ls lv nv acc lvs) (hs : i = 0 ∨ rest ≠ []) (hc : (Lib.cut rest [10]).2.2 = false) : (Fl.readText s).2 = i + 1 := by
  rw [h.hr, Fl.readL_open _ _ _ _ hs hc]
theorem RdRel.ends (h : RdRel s P B W0 W i [] ls lv nv acc lvs) (hi : 0 < i) : Fl.readText s = ((ls, acc), 0) := by
  rw [h.hr, Fl.readL_end _ _ _ hi]
theorem own_base {b b' : Nat} {w : World} {e : TypeId} {k : Nat} {v : Value} {n : Nat} {xs : List Value} (h : w.ownsRow b e k v n xs) (hb : ∀ g, v.ownBlock = some g → b' ≤ g) : w.ownsRow b' e k v n xs := by
  refine ⟨h.1, ?_⟩
  rcases h.2 with hn | ⟨g, cap, cur, hv, hbb, hg, rest⟩
  · exact .inl hn
  · exact .inr ⟨g, cap, cur, hv, hb g (by rw [hv]; rfl), hg, rest⟩
/-- The lists stay, whatever is stored below block B. -/
theorem RdRel.stay (h : RdRel s P B W0 W i rest ls lv nv acc lvs) (hs : Stay B W w2) : IntsAt w2.heap.size w2 lv ls ∧ NodesAt w2.heap.size w2 nv acc := by
  have hk : ∀ p, p ∈ (lv, ls) :: famOf acc lvs → IntsAt w2.heap.size w2 p.1 p.2 := fun p hp => ints_stay (h.hg.hall p hp).1.1 (h.hlb p hp) hs
  exact ⟨hk (lv, ls) (by simp), nodes_of_own (own_stay (own_base h.hg.hn h.hnb) hs) h.hg.hl (fun i hi => hk _ (by simp only [List.mem_cons]; right; exact famOf_mem acc lvs i h.hg.hl hi))⟩
end
end Go.Proofs.YtbihjgfbocpobaaGreatDoor

/- A region that draws its order: step by step, reads (taken in whatever world meets S) and operations that wait. -/
set_option linter.unusedSimpArgs false
set_option linter.unusedVariables false
namespace Go.Proofs.YtbihjgfbocpobaaGreatDoor
open Go.RowKit

/-- The steps' own meaning: (true, o): a read; (false, o): what is alone ready. -/
def wpSteps (P : Program) (ops : Array Oper) (S : World → Prop) (Q : Exit → Act → World → Prop) : List (Bool × Oper) → Act → World → Prop
  | [], a, w => Q .normal a w
  | (true, o) :: l, a, w => ∃ v, YieldsIf P ops S o v a ∧ wpSteps P ops S Q l (a.put o.dst v) w
  | (false, o) :: l, a, w => wpList P ops (Exit.then (fun a1 w1 => S w1 ∧ wpSteps P ops S Q l a1 w1) Q) [o] a w
def stepsB (ops : Array Oper) : List Nat → List (Bool × Nat) → Bool
  | pre, [] => decide (Region.ready .any ops (doneBy ops.size pre) = [])
  | pre, (true, i) :: l => Region.free .any ops (doneBy ops.size pre) i && ((Region.ready .any ops (doneBy ops.size pre)).contains i && stepsB ops (pre ++ [i]) l)
  | pre, (false, i) :: l => decide (Region.ready .any ops (doneBy ops.size pre) = [i]) && stepsB ops (pre ++ [i]) l
section
variable {P : Program} {Q : Exit → Act → World → Prop} {S : World → Prop}
theorem steps_read {ops : Array Oper} {o : Oper} {l : List (Bool × Oper)} {a : Act} {w : World} (hg : o.guard = none)
    (h : ∀ K : Act → Prop, (∀ a', wpSteps P ops S Q l a' w → K a') → ∃ v, (∀ w, S w → (execOp a.eval o).run P w = .ok (.value v) w) ∧ K (a.put o.dst v)) : wpSteps P ops S Q ((true, o) :: l) a w := by
  obtain ⟨v, h1, h2⟩ := h (fun a' => wpSteps P ops S Q l a' w) (fun _ h => h)
  exact ⟨v, .inl ⟨by simp [Region.wanted, hg], h1⟩, h2⟩
theorem steps_do {ops : Array Oper} {o : Oper} {l : List (Bool × Oper)} {a : Act} {w : World} (h : wpList P ops (Exit.then (fun a1 w1 => S w1 ∧ wpSteps P ops S Q l a1 w1) Q) [o] a w) : wpSteps P ops S Q ((false, o) :: l) a w := h
theorem steps_end {ops : Array Oper} {a : Act} {w : World} (h : Q .normal a w) : wpSteps P ops S Q [] a w := h
theorem steps_any {ops : Array Oper} (hs : Region.noSelect ops = true) (hQ : ∀ c a d v w, Q (.panic c) (Act.put a d v) w → Q (.panic c) a w) :
    ∀ (st : List (Bool × Nat)) (so : List (Bool × Oper)) (pre : List Nat) (a : Act) (w : World), S w → st.map (fun p => (p.1, ops[p.2]?)) = so.map (fun p => (p.1, some p.2)) → stepsB ops pre st = true →
    wpSteps P ops S Q so a w → wpAnyH P .any ops Q S st.length (doneBy ops.size pre) a w
  | [], so, pre, a, w, hS, hso, hB, h => by
    have : so = [] := by cases so with | nil => rfl | cons o so => simp at hso
    subst this
    simp only [stepsB, decide_eq_true_eq] at hB
    exact wpAnyH_done hB h 0
  | (true, i) :: st, so, pre, a, w, hS, hso, hB, h => by
    cases so with
    | nil => simp at hso
    | cons p so =>
      obtain ⟨c, o⟩ := p
      simp only [List.map_cons, List.cons.injEq, Prod.mk.injEq] at hso
      obtain ⟨⟨rfl, ho⟩, hso⟩ := hso
      simp only [stepsB, Bool.and_eq_true] at hB
      obtain ⟨v, h1, h2⟩ := h
      have ih := steps_any hs hQ st so (pre ++ [i]) (a.put o.dst v) w hS hso hB.2.2 h2
      rw [doneBy_snoc] at ih
      exact wpAnyH_take (fuel := st.length) ho hs hB.1 hB.2.1 (fun c a w h => hQ c a _ _ w h) h1 hS ih
  | (false, i) :: st, so, pre, a, w, hS, hso, hB, h => by
    cases so with
    | nil => simp at hso
    | cons p so =>
      obtain ⟨c, o⟩ := p
      simp only [List.map_cons, List.cons.injEq, Prod.mk.injEq] at hso
      obtain ⟨⟨rfl, ho⟩, hso⟩ := hso
      simp only [stepsB, Bool.and_eq_true, decide_eq_true_eq] at hB
      refine wpAnyH_all (rs := [i]) hB.1 (by simp) (fun x hx => ?_)
      simp only [List.mem_singleton] at hx
      subst hx
      refine wpOp_mono (fun a1 w1 hk => ⟨hk.1, ?_⟩) (op_then ho h)
      have ih := steps_any hs hQ st so (pre ++ [x]) a1 w1 hk.1 hso hB.2 hk.2
      rwa [doneBy_snoc] at ih
/-- The law. -/
theorem wp_region_steps {id : Nat} {a : Act} {w : World} {l : List Oper} (S : World → Prop) (st : List (Bool × Nat)) (hm : P.follows .mixedOrders = true)
    (hB : (Region.noSelect l.toArray && stepsB l.toArray [] st) = true) (hlen : l.length = st.length) (so : List (Bool × Oper)) (hso : st.map (fun p => (p.1, l.toArray[p.2]?)) = so.map (fun p => (p.1, some p.2)))
    (hQ : ∀ c a d v w, Q (.panic c) (Act.put a d v) w → Q (.panic c) a w) (hS : S w.drew) (h : ∀ ops : Array Oper, wpSteps P ops S Q so a w.drew) : (Code.region id l.toArray true).wp P Q a w := by
  simp only [Bool.and_eq_true] at hB
  refine wp_region_held (S := S) hm ?_
  have key := steps_any (P := P) (Q := Q) (S := S) hB.1 hQ st so [] a w.drew hS hso hB.2 (h l.toArray)
  have e : l.toArray.size = st.length := by simp [hlen]
  rw [← e] at key
  simpa [doneBy] using key
/-- An operation whose guard says yes. -/
theorem wpList_unguard {ops : Array Oper} {a : Act} {w : World} {rest : List Oper} {dst : Option Tmp} {op : Op} {ty : TypeId} {pos : String} {after : Array Edge} {guard : Option (Nat × Bool)}
    (hw : Region.wanted { dst := dst, op := op, type := ty, pos := pos, after := after, guard := guard } (yielded ops a.tmps) = true) (h : wpList P ops Q ({ dst := dst, op := op, type := ty, pos := pos, after := after, guard := none } :: rest) a w) :
    wpList P ops Q ({ dst := dst, op := op, type := ty, pos := pos, after := after, guard := guard } :: rest) a w := by
  unfold wpList at h ⊢
  rw [if_pos hw]
  have hn : Region.wanted { dst := dst, op := op, type := ty, pos := pos, after := after, guard := none } (yielded ops a.tmps) = true := by simp [Region.wanted]
  rw [if_pos hn] at h
  exact h
end
end Go.Proofs.YtbihjgfbocpobaaGreatDoor

/- The program's readNode, of three words and more. -/
set_option linter.unusedSimpArgs false
set_option linter.unusedVariables false
namespace Go.Proofs.YtbihjgfbocpobaaGreatDoor
open Go.RowKit

theorem nodeIn_bad {o : Option Fl.Node} {P : Nat} {nv : Value} {acc : List Fl.Node} {lvs : List Value} {w w' : World} (ho : o = none) (hb : Below w.heap.size w w') : NodeIn o P nv acc lvs w (.returned (.bool false)) w' := .inl ⟨ho, rfl, hb⟩

set_option maxRecDepth 100000 in
set_option maxHeartbeats 8000000 in
theorem readNode_any (P T : Nat) (nv : Value) (acc : List Fl.Node) (lvs : List Value) (ws : List (List UInt8)) (b cap : Nat) (w : World)
    (hn : w.ownsRow (P + 1) 53 6 nv acc.length (flat acc lvs)) (c1 : w.cell? ⟨P, 1, none⟩ = some nv) (fq : ∀ o, w.frozen? ⟨P, o, none⟩ = false)
    (hT : w.heap[T]? = some (.cells rulesArr 88 (0, 0))) (hpw : Pows w) (hv : WordsAt w.heap.size w (.slice (some ⟨b, 0, none⟩) ws.length cap) ws) (hacc : acc.length ≤ 50000) (hwl : ws.length ≤ 50000) :
    Calls Tryz.prog 54 #[.pointer (some ⟨P, 0, none⟩), .pointer (some ⟨T, 0, none⟩), .slice (some ⟨b, 0, none⟩) ws.length cap] w (NodeIn (Fl.nodeOf acc.length ws) P nv acc lvs w) := by
  by_cases h3 : ws.length < 3
  · refine (readNode_short P T ws b cap w h3).mono ?_
    rintro e w' ⟨rfl, rfl⟩
    exact nodeIn_bad (by unfold Fl.nodeOf; rw [if_pos (.inl h3)]) (Below.refl _ _).drew
  have hPl : P < w.heap.size := World.block_lt_of_cell? w _ c1
  have hTl : T < w.heap.size := (Array.getElem?_eq_some_iff.1 hT).1
  obtain ⟨nao, ncap, rfl⟩ := own_shape6 hn
  obtain ⟨ao', cap', h1, hwc, hcm, _, _, h6⟩ := id hv
  simp only [Value.slice.injEq] at h1
  obtain ⟨e1, -, rfl⟩ := h1
  have HCELL : Hid (∀ i, i < ws.length → w.cell? ⟨b, i, none⟩ = some (strV (ws.getD i []))) := by
    obtain ⟨b', off', e', _, hc'⟩ := h6 (by intro hh; rw [hh] at h3; simp at h3)
    rw [← e1] at e'
    simp only [Option.some.injEq, Addr.mk.injEq, and_true] at e'
    intro i hi
    have := hc' i hi
    rw [← e'.1, ← e'.2, Nat.zero_add] at this; exact this
  have hbl : b < w.heap.size := World.block_lt_of_cell? w _ (HCELL.out 0 (by omega))
  have c0 := HCELL.out 0 (by omega)
  unfold strV at c0
  obtain ⟨x0, hx0⟩ : ∃ x0, x0 = ws.getD 0 [] := ⟨_, rfl⟩
  rw [← hx0] at c0
  obtain ⟨dk, hdk⟩ : ∃ dk, dk = Lib.decDigits acc.length := ⟨_, rfl⟩
  have HIT : Hid (∀ W, Below w.heap.size w W → Calls Tryz.prog 44 #[.int .i64 (acc.length : Int)] W fun e w' => e = .returned (.string ⟨dk.toArray⟩) ∧ Below W.heap.size W w') := by
    intro W hW
    rw [hdk]
    exact itoa_any acc.length W (by omega) (hpw.below (Nat.le_refl _) hW)
  have HX0 : Hid (x0 = ws.getD 0 []) := hx0
  have HDK : Hid (dk = Lib.decDigits acc.length) := hdk
  have HT : Hid (w.heap[T]? = some (.cells rulesArr 88 (0, 0))) := hT
  have HN : Hid (w.ownsRow (P + 1) 53 6 (.slice nao acc.length ncap) acc.length (flat acc lvs)) := hn
  have HWA : Hid (WordsAt w.heap.size w (.slice (some ⟨b, 0, none⟩) ws.length cap) ws) := hv
  have h3I : 3 ≤ (ws.length : Int) := by omega
  have hpos : 0 < ws.length := by omega
  have hpos1 : 1 < ws.length := by omega
  have hcap : cap ≤ 9223372036854775807 := by unfold maxLen at hcm; exact hcm
  clear hx0 hdk hpw hT hn hv h6 e1 hcm
  by_cases hx : x0 = dk
  · subst hx
    go_enter Tryz.func54, Tryz.ntmps54
    go_wp2_with fail
    refine wp_region_heldG3 (fun W => Below w.heap.size w W) [0, 1, 2, 3, 4, 5, 6, 7, 8, 9, 10, 11] 12 13 14 [(3, 17)] (by kernel_rfl) (by kernel_rfl) rfl [_, _, _, _, _, _, _, _, _, _, _, _] _ _ _ rfl rfl rfl rfl (fun c a d v w h => by cases d <;> exact h) (Below.refl _ _).drew (fun ops hG => ?_)
    have g1 := hG (3, 17) (by simp)
    simp only at g1
    clear hG
    repeat
      first
      | (refine heldG_plain rfl (fun K hK => ?_)
         apply Exists.intro
         refine ⟨fun w' hw' => ?_, ?_⟩
         · go_simp
           try with_reducible rfl
         go_simp
         refine hK _ ?_
         clear hK K)
      | (refine heldG_go rfl (by simp [yielded, g1, Act.put]; omega) (fun K hK => ?_)
         try simp only [List.getElem_toArray, List.getElem_cons_succ, List.getElem_cons_zero]
         apply Exists.intro
         refine ⟨fun w' hw' => ?_, ?_⟩
         · have r0 : w'.cell? ⟨b, 0, none⟩ = some (.string ⟨x0.toArray⟩) := (hw'.cell (p := ⟨b, 0, none⟩) hbl).trans c0
           have r1 : w'.cell? ⟨P, 1, none⟩ = some (.slice nao acc.length ncap) := (hw'.cell (p := ⟨P, 1, none⟩) hPl).trans c1
           go_simp
           try with_reducible rfl
         go_simp
         refine hK _ ?_
         clear hK K)
    refine heldG_nil ?_
    refine wpList_unguard (by simp [Region.wanted, yielded, g1]; omega) ?_
    go_wp2_with fail
    refine (HIT.out w.drew (Below.refl _ _).drew).mono ?_
    rintro e w1 ⟨rfl, hb1⟩
    have HB1 : Hid (Below w.heap.size w w1) := (Below.refl w.heap.size w).drew.trans hb1
    clear hb1
    go_wp2_with fail
    refine ⟨HB1.out, ?_⟩
    refine wpList_unguard (by simp [Region.wanted, yielded, g1]; omega) ?_
    go_wp2_with fail
    refine ⟨HB1.out, ?_⟩
    clear g1
    go_wp2_with fail
    refine ⟨HB1.out, ?_⟩
    have c1' := HCELL.out 1 (by omega)
    unfold strV at c1'
    obtain ⟨x1, hx1⟩ : ∃ x1, x1 = ws.getD 1 [] := ⟨_, rfl⟩
    rw [← hx1] at c1'
    have q1 : w1.cell? ⟨b, 1, none⟩ = some (.string ⟨x1.toArray⟩) := (HB1.out.cell (p := ⟨b, 1, none⟩) hbl).trans c1'
    obtain ⟨pk, hpk⟩ : ∃ pk, pk = Fl.place Fl.kindWords x1 := ⟨_, rfl⟩
    have HKN : Hid (Calls Tryz.prog 81 #[.pointer (some ⟨T, 0, none⟩), .string ⟨x1.toArray⟩] w1 fun e w' => e = .returned (.int .i64 pk) ∧ Below w1.heap.size w1 w') := by
      show Calls _ _ _ _ _
      rw [hpk]; exact kindNamed_any T x1 w1 ((HB1.out.block T hTl).trans HT.out)
    have hz1 := HB1.out.size
    have HX1 : Hid (x1 = ws.getD 1 []) := hx1
    have HPK : Hid (pk = Fl.place Fl.kindWords x1) := hpk
    clear hx1 hpk c1'
    go_wp2_with fail
    refine HKN.out.mono ?_
    rintro e w2 ⟨rfl, hb2⟩
    have HB2 : Hid (Below w.heap.size w w2) := HB1.out.trans (hb2.mono hz1)
    have hz2 := HB2.out.size
    obtain ⟨ov, hov⟩ : ∃ ov, ov = Fl.intsOf (ws.drop 2) := ⟨_, rfl⟩
    have HIN : Hid (Calls Tryz.prog 80 #[.slice (some ⟨b, 2, none⟩) (ws.length - 2) (cap - 2)] w2 (WordNums ov w2)) := by
      show Calls _ _ _ _ _
      rw [hov]
      refine readNumbers_any w2.heap.size _ _ w2 ?_ (Nat.le_refl _)
      have := ((HWA.out.below HB2.out).mono hz2).drop 2 (by omega); simpa using this
    have HOV : Hid (ov = Fl.intsOf (ws.drop 2)) := hov
    clear hov hb2 q1
    go_wp2_with fail
    refine HIN.out.mono ?_
    rintro e w3 ⟨v, rfl, ho3, hb3⟩
    have HB3 : Hid (Below w.heap.size w w3) := HB2.out.trans (hb3.mono hz2)
    have hz3 := HB3.out.size
    have HN0 : Hid (∀ Z : Prop, Fl.nodeOf acc.length ws = (if pk < 0 then none else match ov with
        | none => none
        | some v => if Fl.fields pk < 0 then some ⟨pk, v.getD 0 0, 0, 0, 0, v.drop 1⟩ else if (v.length : Int) ≠ 1 + Fl.fields pk then none else some ⟨pk, v.getD 0 0, v.getD 1 0, v.getD 2 0, v.getD 3 0, []⟩)) := by
      intro _
      unfold Fl.nodeOf
      rw [if_neg (by rintro (h | h); exact h3 h; exact h (by rw [← HX0.out]; exact HDK.out)), ← HX1.out, ← HPK.out, ← HOV.out]; rfl
    clear HKN HIN HIT c0
    by_cases hpk : pk < 0
    · obtain ⟨vao, vcap, rfl⟩ := own_shape6 ho3
      have HE : Hid (Fl.nodeOf acc.length ws = none) := by show _ = _; rw [HN0.out True, if_pos hpk]
      clear ho3 hb3
      go_wp2
      go_ret
      exact nodeIn_bad HE.out HB3.out
    · cases ov with
      | none =>
        obtain ⟨vao, vcap, rfl⟩ := own_shape6 ho3
        have HE : Hid (Fl.nodeOf acc.length ws = none) := by show _ = _; rw [HN0.out True, if_neg hpk]
        have hpk' : 0 ≤ pk := by omega
        clear ho3 hb3
        go_wp2
        go_ret
        exact nodeIn_bad HE.out HB3.out
      | some vs =>
        obtain ⟨k, rfl⟩ : ∃ k : Nat, pk = (k : Int) := ⟨pk.toNat, by omega⟩
        have hk8 : k < 8 := by have := place_lt x1; rw [← HPK.out] at this; omega
        simp only [Option.getD_some] at ho3
        have hvl : vs.length = ws.length - 2 := by
          have := Fl.intsOf_len (ws.drop 2) vs HOV.out.symm
          rwa [List.length_drop] at this
        have hv1 : 1 ≤ vs.length := by omega
        have hv2 : vs.length ≤ 50000 := by omega
        obtain ⟨gv, vcap, rfl, hgv, hgv2⟩ := own_strs ho3 (by omega)
        have hvc : vs.length ≤ vcap ∧ vcap ≤ 9223372036854775807 := by
          rcases ho3.2 with ⟨hh, _⟩ | ⟨g', cap', cur, hh, _, _, h4, hcm, _⟩
          · cases hh
          · simp only [Value.slice.injEq] at hh; rw [hh.2.2]; exact ⟨by omega, hcm⟩
        obtain ⟨hvc1, hvc2⟩ := hvc
        have HVC : Hid (∀ i, i < vs.length → w3.cell? ⟨gv, i, none⟩ = some (.int .i64 (vs.getD i 0))) := fun i hi => by
          have h1 := ho3.cells (g := gv) rfl i (.int .i64 (vs.getD i 0)) (by simp [List.getD_eq_getElem?_getD, hi])
          have h2 : (⟨gv, 0, none⟩ : Addr).add i = ⟨gv, i, none⟩ := by unfold Addr.add; split <;> simp_all
          rw [h2] at h1; exact h1
        have v0 := HVC.out 0 (by omega)
        obtain ⟨y0, hy0⟩ : ∃ y0, y0 = vs.getD 0 0 := ⟨_, rfl⟩
        rw [← hy0] at v0
        have HY0 : Hid (y0 = vs.getD 0 0) := hy0
        have HVL : Hid (vs.length = ws.length - 2) := hvl
        obtain ⟨rc1, rc2⟩ := rule_cells ((HB3.out.block T hTl).trans HT.out) k hk8
        have hTl3 : T < w3.heap.size := by omega
        have r1 : ∀ o, (w3.alloc o).cell? ⟨T, k * 4 + 1, none⟩ = some (.int .i64 (numF k : Nat)) := fun o => (World.cell?_alloc_lt _ _ _ hTl3).trans rc1
        have HF : Hid (Fl.fields (k : Int) = if k = 7 then -1 else (numF k : Int)) := fields_numF7 k hk8
        clear hvl hy0 ho3 hb3 hpk rc1
        have hkI : (k : Int) < 8 := by omega
        by_cases hk7 : k = 7
        · subst hk7
          have r2 : ∀ o, (w3.alloc o).cell? ⟨T, 30, none⟩ = some (.bool true) := fun o => (World.cell?_alloc_lt _ _ _ hTl3).trans rc2
          have r1' : ∀ o, (w3.alloc o).cell? ⟨T, 29, none⟩ = some (.int .i64 0) := r1
          have HR1 : Hid _ := r1'
          have HND : Hid (Fl.nodeOf acc.length ws = some ⟨7, y0, 0, 0, 0, vs.drop 1⟩) := by
            show _ = _
            rw [HN0.out True, if_neg (by omega)]; simp only
            rw [HF.out, if_pos rfl, if_pos (by decide), HY0.out]; rfl
          clear rc2 r1 r1'
          have HTV : Hid (∀ o sv, (sv = .slice (some ⟨gv, 1, none⟩) (vs.length - 1) (vcap - 1) ∨ (sv = .slice (some ⟨gv, 0, none⟩) 0 0 ∧ vs.length = 1)) → IntsAt (w3.alloc o).heap.size (w3.alloc o) sv (vs.drop 1)) := by
            rintro o sv (rfl | ⟨rfl, h1⟩)
            · exact ints_tail HVC.out ((Below.refl _ _).alloc (Nat.le_refl _) _) hgv2 hv1 hvc1 (by omega)
            · exact ints_none0 h1
          obtain ⟨ln, hdl⟩ : ∃ ln, (vs.drop 1).length = ln := ⟨_, rfl⟩
          have hln : ln ≤ 50000 := by rw [← hdl, List.length_drop]; omega
          have HDL : Hid ((vs.drop 1).length = ln) := hdl
          obtain ⟨xs, hxs⟩ : ∃ xs, xs = vs.drop 1 := ⟨_, rfl⟩
          rw [← hxs] at HTV HDL HND
          clear hdl hxs
          by_cases hvc3 : vcap = 1
          · subst hvc3
            have hvs1 : vs.length ≤ 1 := by omega
            go_wp2_with (at_builtin; refine wpList_append_rest rfl (.tmp 63) (.tmp 64) rfl (w3.heap.size + 1) (.slice none 0 0) [] rfl (World.ownsRow_nil _ _ _ _) _ rfl ((w3.alloc (.cells #[.int .i64 7, .int .i64 y0, .int .i64 0, .int .i64 0, .int .i64 0, .slice none 0 0] 53)).heap.size) xs (HTV.out _ _ (.inr ⟨rfl, by omega⟩)) (by simp) (by rw [HDL.out]; omega) (by simp) ?_)
            intro lv w5 ho5 hg5
            rw [HDL.out] at ho5
            obtain ⟨lao, lcap, rfl⟩ := own_shape6 ho5
            have hnd5 : Nd w5 w3.heap.size 7 y0 0 0 0 (.slice none 0 0) := (Nd.new w3 7 y0 0 0 0 (.slice none 0 0) 53).grown hg5 (by simp [Value.ownBlock])
            have HB5 : Hid (Below w.heap.size w w5) := (HB3.out.alloc (by omega) _).grown hg5 (by simp; omega) (fun g hg => by simp [Value.ownBlock] at hg)
            have HI5 : Hid (IntsAt w5.heap.size w5 (.slice lao ln lcap) xs) := IntsAt.of_own ho5
            have HLB : Hid (∀ b, (Value.slice lao ln lcap).ownBlock = some b → w3.heap.size < b) := fun b hb => by have := (ho5.lt b hb).1; omega
            have HC5 : Hid (w5.cell? ⟨T, 29, none⟩ = some (.int .i64 0)) := hg5.cell (HR1.out _) (by simp [Value.ownBlock])
            have HN5 : Hid _ := hnd5
            have k5 := hnd5.c5
            have kf := hnd5.f
            obtain ⟨N, hN⟩ : ∃ N, N = w3.heap.size := ⟨_, rfl⟩
            rw [← hN] at HN5 HLB k5 kf ⊢
            have hwN : w.heap.size ≤ N := by omega
            have hTN : T < N := by omega
            have hsz5 : N < w5.heap.size := HN5.out.lt
            clear ho5 hg5 hnd5 r2 HR1 HTV hN v0 hgv2 hTl3 hz3 HVC
            go_wp2_with fail
            obtain ⟨W6, hW6⟩ : ∃ W6, W6 = w5.setCell ⟨N, 5, none⟩ (.slice lao ln lcap) := ⟨_, rfl⟩
            rw [← hW6]
            have hz6 : W6.heap.size = w5.heap.size := by rw [hW6]; simp
            have HN6 : Hid (Nd W6 N 7 y0 0 0 0 (.slice lao ln lcap)) := by rw [hW6]; exact HN5.out.set5 _
            have HB6 : Hid (Below w.heap.size w W6) := by rw [hW6]; exact HB5.out.setCell (by show w.heap.size ≤ N; exact hwN) _
            have HI6 : Hid (IntsAt W6.heap.size W6 (.slice lao ln lcap) xs) := by rw [hW6]; exact ints_set HI5.out (fun _ h => by have h9 : N < N := HLB.out N h; omega)
            have q6 : W6.cell? ⟨T, 29, none⟩ = some (.int .i64 ((0 : Nat) : Int)) := by rw [hW6]; exact (grown_set w5 N 5 _).cell HC5.out (by simp; omega)
            clear hW6 HN5 HB5 HI5 HC5 k5 kf
            refine (places_any T 28 N 0 W6 (by omega) (by omega) q6).mono ?_
            rintro e W7 ⟨rfl, hW7⟩
            have g7 : W6.grownBy W7 none := by rw [hW7]; exact ⟨rfl, rfl, rfl, by simp, fun k hk _ => Below.heap_alloc _ _ _ hk⟩
            have HB7 : Hid (Below w.heap.size w W7) := by rw [hW7]; exact (HB6.out.alloc (by omega) _).drew
            have HN7 : Hid (Nd W7 N 7 y0 0 0 0 (.slice lao ln lcap)) := HN6.out.grown g7 (by simp)
            have HI70 : Hid (IntsAt W7.heap.size W7 (.slice lao ln lcap) xs) := ints_below HI6.out (by rw [hW7]; exact ((Below.refl _ _).alloc (Nat.le_refl _) _).drew)
            have hz7 : N + 2 ≤ W7.heap.size := by rw [hW7]; simp; omega
            clear hW7 g7 q6 HN6 HB6 HI6 hz6 hsz5
            go_wp2_with fail
            go_loopw [78] (fun i wr => i = .int .i64 0 ∧ wr = W7) (fun i _ => 0)
            case atStart => exact ⟨rfl, rfl⟩
            case round =>
              obtain ⟨rfl, hwr⟩ := hrel
              subst hwr
              have HBR : Hid (Below w.heap.size w wr.drew) := HB7.out.drew
              have hnd' := HN7.out.drew
              have hzr : N + 2 ≤ wr.drew.heap.size := hz7
              have HI7 : Hid (IntsAt wr.drew.heap.size wr.drew (.slice lao ln lcap) xs) := HI70.out
              obtain ⟨m0, m1, m2, m3, m4, m5, mf⟩ := hnd'
              have q1 : wr.drew.cell? ⟨P, 1, none⟩ = some (.slice nao acc.length ncap) := (HBR.out.cell (p := ⟨P, 1, none⟩) hPl).trans c1
              have hPr : P < wr.drew.heap.size := by omega
              clear HB7 HN7 HI70 c1
              go_wp2_with fail
              refine wp_region_forkc [0, 1, 2, 3] 4 5 4 6 [5, 6, 7, 8, 9, 10] [6, 7, 8, 9, 10] [4, 7, 8, 9, 10] (by kernel_rfl) (by kernel_rfl) rfl rfl rfl [_, _, _, _] _ _ _ _ [_, _, _, _, _, _] [_, _, _, _, _] [_, _, _, _, _] rfl rfl rfl rfl rfl rfl rfl rfl (fun c a d v w h => by cases d <;> exact h) ?_
              refine wpHeld_hide (fun L HL => ?_)
              repeat
                refine wpHeld_step rfl (fun K hK => ?_)
                apply Exists.intro
                refine ⟨fun w' _ => ?_, ?_⟩
                · go_simp
                  try with_reducible rfl
                go_simp
                refine hK _ ?_
                clear hK K
              refine HL.out _ ⟨?ga1, ?gb1⟩
              all_goals
                clear HL
                generalize wr.drew = W1 at *
                simp only [List.getElem_toArray, List.getElem_cons_succ, List.getElem_cons_zero]
              case' gb1 =>
                go_wp2_with fail
                refine ⟨?_, ?_⟩
              all_goals
                go_wp2_with (at_builtin; refine wpList_append_node rfl (.tmp 94) (.tmp 96) rfl (P + 1) _ acc lvs rfl (own_low HN.out (HBR.out.alloc (by omega) _)) W1.heap.size ⟨7, y0, 0, 0, 0, xs⟩ lao ln lcap rfl ?n1 (by omega) ?n2 ?_)
                case n1 =>
                  intro i u hi
                  rw [World.cell?_alloc_new]; simpa [nodeCells] using hi
                case n2 => simp; omega
                intro v3 w8 ho8 hg8 hw8
                have HB7 : Hid (Below w.heap.size w (W1.alloc (.cells #[.int .i64 7, .int .i64 y0, .int .i64 0, .int .i64 0, .int .i64 0, .slice lao ln lcap] 53))) := HBR.out.alloc (by omega) _
                have hnP : some P ≠ (Value.slice nao acc.length ncap).ownBlock := fun hh => by have := (HN.out.lt P hh.symm).1; omega
                have z1 : w8.cell? ⟨P, 1, none⟩ = some (.slice nao acc.length ncap) := hg8.cell ((World.cell?_alloc_lt _ _ _ hPr).trans q1) hnP
                have zf : ∀ o, w8.frozen? ⟨P, o, none⟩ = false := fun o => (World.frozen?_of_block (hg8.block P (by simp; omega) hnP)).trans ((HB7.out.frozen (p := ⟨P, o, none⟩) hPl).trans (fq o))
                obtain ⟨zao, zcap, rfl⟩ := own_shape6 ho8
                have HZ : Hid (NodeIn (Fl.nodeOf acc.length ws) P (.slice nao acc.length ncap) acc lvs w (.returned (.bool true)) (w8.setCell ⟨P, 1, none⟩ (.slice zao (acc.length + 1) zcap))) :=
                  .inr ⟨_, _, w8, _, _, HND.out, rfl, HB7.out, ints_alloc HI7.out _, fun b hb => (by have := HLB.out b hb; omega), ho8, hg8, by rw [World.size_alloc]; exact hw8, rfl⟩
                clear ho8 hg8 hw8 HB7 m0 m1 m2 m3 m4 m5 mf q1
                go_wp2
                go_ret
                exact HZ.out
          · have hvc4 : 1 < vcap := by omega
            go_wp2_with (at_builtin; refine wpList_append_rest rfl (.tmp 63) (.tmp 64) rfl (w3.heap.size + 1) (.slice none 0 0) [] rfl (World.ownsRow_nil _ _ _ _) _ rfl ((w3.alloc (.cells #[.int .i64 7, .int .i64 y0, .int .i64 0, .int .i64 0, .int .i64 0, .slice none 0 0] 53)).heap.size) xs (HTV.out _ _ (.inl rfl)) (by simp) (by rw [HDL.out]; omega) (by simp) ?_)
            intro lv w5 ho5 hg5
            rw [HDL.out] at ho5
            obtain ⟨lao, lcap, rfl⟩ := own_shape6 ho5
            have hnd5 : Nd w5 w3.heap.size 7 y0 0 0 0 (.slice none 0 0) := (Nd.new w3 7 y0 0 0 0 (.slice none 0 0) 53).grown hg5 (by simp [Value.ownBlock])
            have HB5 : Hid (Below w.heap.size w w5) := (HB3.out.alloc (by omega) _).grown hg5 (by simp; omega) (fun g hg => by simp [Value.ownBlock] at hg)
            have HI5 : Hid (IntsAt w5.heap.size w5 (.slice lao ln lcap) xs) := IntsAt.of_own ho5
            have HLB : Hid (∀ b, (Value.slice lao ln lcap).ownBlock = some b → w3.heap.size < b) := fun b hb => by have := (ho5.lt b hb).1; omega
            have HC5 : Hid (w5.cell? ⟨T, 29, none⟩ = some (.int .i64 0)) := hg5.cell (HR1.out _) (by simp [Value.ownBlock])
            have HN5 : Hid _ := hnd5
            have k5 := hnd5.c5
            have kf := hnd5.f
            obtain ⟨N, hN⟩ : ∃ N, N = w3.heap.size := ⟨_, rfl⟩
            rw [← hN] at HN5 HLB k5 kf ⊢
            have hwN : w.heap.size ≤ N := by omega
            have hTN : T < N := by omega
            have hsz5 : N < w5.heap.size := HN5.out.lt
            clear ho5 hg5 hnd5 r2 HR1 HTV hN v0 hgv2 hTl3 hz3 HVC
            go_wp2_with fail
            obtain ⟨W6, hW6⟩ : ∃ W6, W6 = w5.setCell ⟨N, 5, none⟩ (.slice lao ln lcap) := ⟨_, rfl⟩
            rw [← hW6]
            have hz6 : W6.heap.size = w5.heap.size := by rw [hW6]; simp
            have HN6 : Hid (Nd W6 N 7 y0 0 0 0 (.slice lao ln lcap)) := by rw [hW6]; exact HN5.out.set5 _
            have HB6 : Hid (Below w.heap.size w W6) := by rw [hW6]; exact HB5.out.setCell (by show w.heap.size ≤ N; exact hwN) _
            have HI6 : Hid (IntsAt W6.heap.size W6 (.slice lao ln lcap) xs) := by rw [hW6]; exact ints_set HI5.out (fun _ h => by have h9 : N < N := HLB.out N h; omega)
            have q6 : W6.cell? ⟨T, 29, none⟩ = some (.int .i64 ((0 : Nat) : Int)) := by rw [hW6]; exact (grown_set w5 N 5 _).cell HC5.out (by simp; omega)
            clear hW6 HN5 HB5 HI5 HC5 k5 kf
            refine (places_any T 28 N 0 W6 (by omega) (by omega) q6).mono ?_
            rintro e W7 ⟨rfl, hW7⟩
            have g7 : W6.grownBy W7 none := by rw [hW7]; exact ⟨rfl, rfl, rfl, by simp, fun k hk _ => Below.heap_alloc _ _ _ hk⟩
            have HB7 : Hid (Below w.heap.size w W7) := by rw [hW7]; exact (HB6.out.alloc (by omega) _).drew
            have HN7 : Hid (Nd W7 N 7 y0 0 0 0 (.slice lao ln lcap)) := HN6.out.grown g7 (by simp)
            have HI70 : Hid (IntsAt W7.heap.size W7 (.slice lao ln lcap) xs) := ints_below HI6.out (by rw [hW7]; exact ((Below.refl _ _).alloc (Nat.le_refl _) _).drew)
            have hz7 : N + 2 ≤ W7.heap.size := by rw [hW7]; simp; omega
            clear hW7 g7 q6 HN6 HB6 HI6 hz6 hsz5
            go_wp2_with fail
            go_loopw [78] (fun i wr => i = .int .i64 0 ∧ wr = W7) (fun i _ => 0)
            case atStart => exact ⟨rfl, rfl⟩
            case round =>
              obtain ⟨rfl, hwr⟩ := hrel
              subst hwr
              have HBR : Hid (Below w.heap.size w wr.drew) := HB7.out.drew
              have hnd' := HN7.out.drew
              have hzr : N + 2 ≤ wr.drew.heap.size := hz7
              have HI7 : Hid (IntsAt wr.drew.heap.size wr.drew (.slice lao ln lcap) xs) := HI70.out
              obtain ⟨m0, m1, m2, m3, m4, m5, mf⟩ := hnd'
              have q1 : wr.drew.cell? ⟨P, 1, none⟩ = some (.slice nao acc.length ncap) := (HBR.out.cell (p := ⟨P, 1, none⟩) hPl).trans c1
              have hPr : P < wr.drew.heap.size := by omega
              clear HB7 HN7 HI70 c1
              go_wp2_with fail
              refine wp_region_forkc [0, 1, 2, 3] 4 5 4 6 [5, 6, 7, 8, 9, 10] [6, 7, 8, 9, 10] [4, 7, 8, 9, 10] (by kernel_rfl) (by kernel_rfl) rfl rfl rfl [_, _, _, _] _ _ _ _ [_, _, _, _, _, _] [_, _, _, _, _] [_, _, _, _, _] rfl rfl rfl rfl rfl rfl rfl rfl (fun c a d v w h => by cases d <;> exact h) ?_
              refine wpHeld_hide (fun L HL => ?_)
              repeat
                refine wpHeld_step rfl (fun K hK => ?_)
                apply Exists.intro
                refine ⟨fun w' _ => ?_, ?_⟩
                · go_simp
                  try with_reducible rfl
                go_simp
                refine hK _ ?_
                clear hK K
              refine HL.out _ ⟨?ga2, ?gb2⟩
              all_goals
                clear HL
                generalize wr.drew = W1 at *
                simp only [List.getElem_toArray, List.getElem_cons_succ, List.getElem_cons_zero]
              case' gb2 =>
                go_wp2_with fail
                refine ⟨?_, ?_⟩
              all_goals
                go_wp2_with (at_builtin; refine wpList_append_node rfl (.tmp 94) (.tmp 96) rfl (P + 1) _ acc lvs rfl (own_low HN.out (HBR.out.alloc (by omega) _)) W1.heap.size ⟨7, y0, 0, 0, 0, xs⟩ lao ln lcap rfl ?n1 (by omega) ?n2 ?_)
                case n1 =>
                  intro i u hi
                  rw [World.cell?_alloc_new]; simpa [nodeCells] using hi
                case n2 => simp; omega
                intro v3 w8 ho8 hg8 hw8
                have HB7 : Hid (Below w.heap.size w (W1.alloc (.cells #[.int .i64 7, .int .i64 y0, .int .i64 0, .int .i64 0, .int .i64 0, .slice lao ln lcap] 53))) := HBR.out.alloc (by omega) _
                have hnP : some P ≠ (Value.slice nao acc.length ncap).ownBlock := fun hh => by have := (HN.out.lt P hh.symm).1; omega
                have z1 : w8.cell? ⟨P, 1, none⟩ = some (.slice nao acc.length ncap) := hg8.cell ((World.cell?_alloc_lt _ _ _ hPr).trans q1) hnP
                have zf : ∀ o, w8.frozen? ⟨P, o, none⟩ = false := fun o => (World.frozen?_of_block (hg8.block P (by simp; omega) hnP)).trans ((HB7.out.frozen (p := ⟨P, o, none⟩) hPl).trans (fq o))
                obtain ⟨zao, zcap, rfl⟩ := own_shape6 ho8
                have HZ : Hid (NodeIn (Fl.nodeOf acc.length ws) P (.slice nao acc.length ncap) acc lvs w (.returned (.bool true)) (w8.setCell ⟨P, 1, none⟩ (.slice zao (acc.length + 1) zcap))) :=
                  .inr ⟨_, _, w8, _, _, HND.out, rfl, HB7.out, ints_alloc HI7.out _, fun b hb => (by have := HLB.out b hb; omega), ho8, hg8, by rw [World.size_alloc]; exact hw8, rfl⟩
                clear ho8 hg8 hw8 HB7 m0 m1 m2 m3 m4 m5 mf q1
                go_wp2
                go_ret
                exact HZ.out
        · have r2 : ∀ o, (w3.alloc o).cell? ⟨T, k * 4 + 2, none⟩ = some (.bool false) := fun o => (World.cell?_alloc_lt _ _ _ hTl3).trans (by rw [rc2]; simp [hk7])
          have hf3 := numF_le k
          obtain ⟨f, hf⟩ : ∃ f, f = numF k := ⟨_, rfl⟩
          rw [← hf] at r1 hf3
          have HFK : Hid (Fl.fields (k : Int) = (f : Int)) := by show _ = _; rw [HF.out, if_neg hk7, hf]
          have HFF : Hid (f = numF k) := hf
          have HR1 : Hid _ := r1
          clear hf rc2
          by_cases hlen : vs.length = f + 1
          · have hvc4 : 1 < vcap := by
              have : 1 ≤ f := by
                have h1 := HFF.out
                rcases (show k = 0 ∨ k = 1 ∨ k = 2 ∨ k = 3 ∨ k = 4 ∨ k = 5 ∨ k = 6 by omega) with rfl | rfl | rfl | rfl | rfl | rfl | rfl <;> (rw [h1]; decide)
              omega
            have hf0 : (((vs.length - 1 : Nat) : Int) == (f : Int)) = true := by rw [beq_iff_eq]; omega
            obtain ⟨xs, hxs⟩ : ∃ xs, xs = vs.drop 1 := ⟨_, rfl⟩
            have hxl : xs.length = f := by rw [hxs, List.length_drop]; omega
            have HND : Hid (Fl.nodeOf acc.length ws = some ⟨(k : Int), y0, xs.getD 0 0, xs.getD 1 0, xs.getD 2 0, []⟩) := by
              show _ = _
              rw [HN0.out True, if_neg (by omega)]; simp only
              rw [HFK.out, if_neg (by omega), if_neg (by omega), HY0.out, hxs]
              simp [List.getD_eq_getElem?_getD]
            have HVX : Hid (∀ i, i < f → w3.cell? ⟨gv, 1 + i, none⟩ = some (.int .i64 (xs.getD i 0))) := by
              intro i hi
              rw [HVC.out (1 + i) (by omega), hxs, Nat.add_comm 1 i]; simp [List.getD_eq_getElem?_getD]
            have HXL : Hid (xs.length = f) := hxl
            have HLEN : Hid (vs.length = f + 1) := hlen
            clear hxs hxl
            go_wp2_with fail
            obtain ⟨W4, hW4⟩ : ∃ W4, W4 = w3.alloc (.cells #[.int .i64 (k : Int), .int .i64 y0, .int .i64 0, .int .i64 0, .int .i64 0, .slice none 0 0] 53) := ⟨_, rfl⟩
            rw [← hW4]
            obtain ⟨N, hN⟩ : ∃ N, N = w3.heap.size := ⟨_, rfl⟩
            rw [← hN]
            have hNd : Nd W4 N (k : Int) y0 0 0 0 (.slice none 0 0) := by rw [hW4, hN]; exact Nd.new _ _ _ _ _ _ _ _
            have hz4 : W4.heap.size = N + 1 := by rw [hW4, hN]; simp
            have HB4 : Hid (Below w.heap.size w W4) := by rw [hW4]; exact HB3.out.alloc (by omega) _
            have q4 : W4.cell? ⟨T, k * 4 + 1, none⟩ = some (.int .i64 (f : Int)) := by rw [hW4]; exact HR1.out _
            have HV4 : Hid (∀ i, i < f → W4.cell? ⟨gv, 1 + i, none⟩ = some (.int .i64 (xs.getD i 0))) := fun i hi => by rw [hW4]; exact (World.cell?_alloc_lt _ _ _ hgv2).trans (HVX.out i hi)
            have hgN : gv < N := by omega
            have hwN : w.heap.size ≤ N := by omega
            refine (places_any T (k * 4) N f W4 hf3 (by omega) q4).mono ?_
            rintro e W5 ⟨rfl, hW5⟩
            have g5 : W4.grownBy W5 none := by rw [hW5]; exact ⟨rfl, rfl, rfl, by simp, fun k hk _ => Below.heap_alloc _ _ _ hk⟩
            have HL : Hid (RnL W5 W5 N (k : Int) y0 (.slice none 0 0) xs 0) := RnL.zero (hNd.grown g5 (by simp))
            have HB5 : Hid (Below w.heap.size w W5) := by rw [hW5]; exact (HB4.out.alloc (by omega) _).drew
            have HP5 : Hid (∀ j, j < 3 → W5.cell? ⟨N + 1, j, none⟩ = some (.pointer (some ⟨N, 2 + j, none⟩))) := by
              intro j hj
              have h := World.cell?_alloc_new W4 #[.pointer (some ⟨N, 2, none⟩), .pointer (some ⟨N, 3, none⟩), .pointer (some ⟨N, 4, none⟩)] 102 j
              rw [hz4] at h
              rw [hW5]
              refine h.trans ?_
              rcases (show j = 0 ∨ j = 1 ∨ j = 2 by omega) with rfl | rfl | rfl <;> rfl
            have HV5 : Hid (∀ i, i < f → W5.cell? ⟨gv, 1 + i, none⟩ = some (.int .i64 (xs.getD i 0))) := fun i hi => g5.cell (HV4.out i hi) (by simp)
            have hz5 : N + 2 ≤ W5.heap.size := by rw [hW5]; simp; omega
            rw [hz4]
            clear hW4 hN hNd hz4 HB4 q4 HV4 hW5 g5 v0 r1 r2 HR1 HVX HVC hf0 hvc4 hlen hgv hgv2
            go_wp2_with fail
            go_loopw [78] (fun i wr => ∃ j : Nat, j ≤ f ∧ i = .int .i64 j ∧ RnL W5 wr N (k : Int) y0 (.slice none 0 0) xs j) (fun i _ => f - (intOf i).toNat)
            case atStart => exact ⟨0, by omega, rfl, HL.out⟩
            case round =>
              clear HL
              obtain ⟨j, hj, rfl, hl⟩ := hrel
              have HL : Hid (RnL W5 wr N (k : Int) y0 (.slice none 0 0) xs j) := hl
              clear hl
              by_cases hlt : j < f
              · have hpj : wr.cell? ⟨N + 1, j, none⟩ = some (.pointer (some ⟨N, 2 + j, none⟩)) := HL.out.g.cell (HP5.out j (by omega)) (by simp)
                have hnj : wr.cell? ⟨gv, 1 + j, none⟩ = some (.int .i64 (xs.getD j 0)) := HL.out.g.cell (HV5.out j hlt) (by simp; omega)
                obtain ⟨ov, kj⟩ := HL.out.cell (show j < 3 by omega)
                have kf := HL.out.nd.f
                have HNX : Hid _ := HL.out.next (by rw [HXL.out]; exact hlt) (show j < 3 by omega)
                generalize xs.getD j 0 = xj at hnj HNX
                have hvj : j < vs.length - 1 := by have := HLEN.out; omega
                go_wp2
                go_roundw
                case rel => exact ⟨j + 1, by omega, by go_num, HNX.out⟩
                case measure => simp [intOf]; omega
              · have hjf : j = f := by omega
                have hnd : Nd wr N (k : Int) y0 (xs.getD 0 0) (xs.getD 1 0) (xs.getD 2 0) (.slice none 0 0) := by
                  have h := HL.out; rw [hjf, ← HXL.out] at h; exact h.all
                have hBr : Below w.heap.size w wr.drew := (HB5.out.grown HL.out.g (by omega) (fun g hg => by injection hg with hg; omega)).drew
                have hnd' := hnd.drew
                have hzr : N + 2 ≤ wr.drew.heap.size := Nat.le_trans hz5 HL.out.g.size
                generalize xs.getD 0 0 = a0 at HND hnd'
                generalize xs.getD 1 0 = a1 at HND hnd'
                generalize xs.getD 2 0 = a2 at HND hnd'
                have HBR : Hid (Below w.heap.size w wr.drew) := hBr
                have HNDW : Hid (Nd wr.drew N (k : Int) y0 a0 a1 a2 (.slice none 0 0)) := hnd'
                obtain ⟨m0, m1, m2, m3, m4, m5, mf⟩ := hnd'
                have q1 : wr.drew.cell? ⟨P, 1, none⟩ = some (.slice nao acc.length ncap) := (hBr.cell (p := ⟨P, 1, none⟩) hPl).trans c1
                have hPr : P < wr.drew.heap.size := by omega
                clear hnd hBr HL HP5 HV5 HB5 hjf hj c1
                go_wp2_with fail
                refine wp_region_forkc [0, 1, 2, 3] 4 5 4 6 [5, 6, 7, 8, 9, 10] [6, 7, 8, 9, 10] [4, 7, 8, 9, 10] (by kernel_rfl) (by kernel_rfl) rfl rfl rfl [_, _, _, _] _ _ _ _ [_, _, _, _, _, _] [_, _, _, _, _] [_, _, _, _, _] rfl rfl rfl rfl rfl rfl rfl rfl (fun c a d v w h => by cases d <;> exact h) ?_
                refine wpHeld_hide (fun L HL => ?_)
                repeat
                  refine wpHeld_step rfl (fun K hK => ?_)
                  apply Exists.intro
                  refine ⟨fun w' _ => ?_, ?_⟩
                  · go_simp
                    try with_reducible rfl
                  go_simp
                  refine hK _ ?_
                  clear hK K
                refine HL.out _ ⟨?ga3, ?gb3⟩
                all_goals
                  clear HL
                  generalize wr.drew = W1 at *
                  simp only [List.getElem_toArray, List.getElem_cons_succ, List.getElem_cons_zero]
                case' gb3 =>
                  go_wp2_with fail
                  refine ⟨?_, ?_⟩
                all_goals
                  go_wp2_with (at_builtin; refine wpList_append_node rfl (.tmp 94) (.tmp 96) rfl (P + 1) _ acc lvs rfl (own_low HN.out (HBR.out.alloc (by omega) _)) W1.heap.size ⟨(k : Int), y0, a0, a1, a2, []⟩ none 0 0 rfl ?n1 (by omega) ?n2 ?_)
                  case n1 =>
                    intro i u hi
                    rw [World.cell?_alloc_new]; simpa [nodeCells] using hi
                  case n2 => simp; omega
                  intro v3 w8 ho8 hg8 hw8
                  have HB7 : Hid (Below w.heap.size w (W1.alloc (.cells #[.int .i64 (k : Int), .int .i64 y0, .int .i64 a0, .int .i64 a1, .int .i64 a2, .slice none 0 0] 53))) := HBR.out.alloc (by omega) _
                  have hnP : some P ≠ (Value.slice nao acc.length ncap).ownBlock := fun hh => by have := (HN.out.lt P hh.symm).1; omega
                  have z1 : w8.cell? ⟨P, 1, none⟩ = some (.slice nao acc.length ncap) := hg8.cell ((World.cell?_alloc_lt _ _ _ hPr).trans q1) hnP
                  have zf : ∀ o, w8.frozen? ⟨P, o, none⟩ = false := fun o => (World.frozen?_of_block (hg8.block P (by simp; omega) hnP)).trans ((HB7.out.frozen (p := ⟨P, o, none⟩) hPl).trans (fq o))
                  obtain ⟨zao, zcap, rfl⟩ := own_shape6 ho8
                  have HZ : Hid (NodeIn (Fl.nodeOf acc.length ws) P (.slice nao acc.length ncap) acc lvs w (.returned (.bool true)) (w8.setCell ⟨P, 1, none⟩ (.slice zao (acc.length + 1) zcap))) :=
                    .inr ⟨_, _, w8, _, _, HND.out, rfl, HB7.out, IntsAt.nil _ _, fun b hb => by simp [Value.ownBlock] at hb, ho8, hg8, by rw [World.size_alloc]; exact hw8, rfl⟩
                  clear ho8 hg8 hw8 HB7 m0 m1 m2 m3 m4 m5 mf q1
                  go_wp2
                  go_ret
                  exact HZ.out
          · have HE : Hid (Fl.nodeOf acc.length ws = none) := by
              show _ = _
              rw [HN0.out True, if_neg (by omega)]; simp only
              rw [HFK.out, if_neg (by omega), if_pos (by omega)]
            have HBA : Hid (∀ o, Below w.heap.size w (w3.alloc o)) := fun o => HB3.out.alloc (by omega) _
            by_cases hvc3 : vcap = 1
            · subst hvc3
              have hf0 : ((0 : Int) == (f : Int)) = false := by rw [beq_eq_false_iff_ne]; omega
              go_wp2
              go_ret
              exact nodeIn_bad HE.out (HBA.out _)
            · have hvc4 : 1 < vcap := by omega
              have hf0 : (((vs.length - 1 : Nat) : Int) == (f : Int)) = false := by rw [beq_eq_false_iff_ne]; omega
              go_wp2
              go_ret
              exact nodeIn_bad HE.out (HBA.out _)
  · have b3 : (x0 == dk) = false := by rw [beq_eq_false_iff_ne]; exact hx
    have HB : Hid (Fl.nodeOf acc.length ws = none) := by show _ = _; unfold Fl.nodeOf; rw [if_pos (.inr (by rw [← HX0.out, ← HDK.out]; exact hx))]
    clear hx
    go_enter Tryz.func54, Tryz.ntmps54
    go_wp2_with fail
    refine wp_region_heldG3 (fun W => Below w.heap.size w W) [0, 1, 2, 3, 4, 5, 6, 7, 8, 9, 10, 11] 12 13 14 [(3, 17)] (by kernel_rfl) (by kernel_rfl) rfl [_, _, _, _, _, _, _, _, _, _, _, _] _ _ _ rfl rfl rfl rfl (fun c a d v w h => by cases d <;> exact h) (Below.refl _ _).drew (fun ops hG => ?_)
    have g1 := hG (3, 17) (by simp)
    simp only at g1
    clear hG
    repeat
      first
      | (refine heldG_plain rfl (fun K hK => ?_)
         apply Exists.intro
         refine ⟨fun w' hw' => ?_, ?_⟩
         · go_simp
           try with_reducible rfl
         go_simp
         refine hK _ ?_
         clear hK K)
      | (refine heldG_go rfl (by simp [yielded, g1, Act.put]; omega) (fun K hK => ?_)
         try simp only [List.getElem_toArray, List.getElem_cons_succ, List.getElem_cons_zero]
         apply Exists.intro
         refine ⟨fun w' hw' => ?_, ?_⟩
         · have r0 : w'.cell? ⟨b, 0, none⟩ = some (.string ⟨x0.toArray⟩) := (hw'.cell (p := ⟨b, 0, none⟩) hbl).trans c0
           have r1 : w'.cell? ⟨P, 1, none⟩ = some (.slice nao acc.length ncap) := (hw'.cell (p := ⟨P, 1, none⟩) hPl).trans c1
           go_simp
           try with_reducible rfl
         go_simp
         refine hK _ ?_
         clear hK K)
    refine heldG_nil ?_
    refine wpList_unguard (by simp [Region.wanted, yielded, g1]; omega) ?_
    go_wp2_with fail
    refine (HIT.out w.drew (Below.refl _ _).drew).mono ?_
    rintro e w1 ⟨rfl, hb1⟩
    have HB1 : Hid (Below w.heap.size w w1) := (Below.refl w.heap.size w).drew.trans hb1
    clear hb1
    go_wp2_with fail
    refine ⟨HB1.out, ?_⟩
    refine wpList_unguard (by simp [Region.wanted, yielded, g1]; omega) ?_
    go_wp2_with fail
    refine ⟨HB1.out, ?_⟩
    clear g1
    go_wp2_with fail
    refine ⟨HB1.out, ?_⟩
    go_wp2
    go_ret
    exact nodeIn_bad HB.out HB1.out
end Go.Proofs.YtbihjgfbocpobaaGreatDoor
