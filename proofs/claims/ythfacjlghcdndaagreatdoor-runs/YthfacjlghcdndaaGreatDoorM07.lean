/- Texts CdMem CdLaw Cda CeStill. -/
import Derived.Test.YthfacjlghcdndaaGreatDoorM06
import Derived.Deep.QuietTactic
import Derived.WalkKit
import Derived.Deep.WholeRow
import Derived.StillTailTactics
import Derived.Test.YthfacjlghcdndaaGreatDoorProg
import Derived.WalkSpells
import Derived.WalkLawsBesides
import Derived.Deep.RegionWith
import Derived.BigQuiet
set_option linter.unusedSimpArgs false
set_option linter.unusedVariables false
namespace Go.Proofs.YthfacjlghcdndaaGreatDoor
open Go.RowKit

def stopAt (e p : Int) : List PanicEntry := [{ v := .iface 129 (.agg #[.int .i64 e, .int .i64 p]), recovered := false }]

structure Mv (w w' : World) (b : Nat) : Prop where
  g : w.grownBy w' (some b)
  o : ∀ j, j ≠ 1 → w'.cell? ⟨b, j, none⟩ = w.cell? ⟨b, j, none⟩
  f : ∀ j, w'.frozen? ⟨b, j, none⟩ = w.frozen? ⟨b, j, none⟩
theorem Mv.refl (w : World) (b : Nat) : Mv w w b := ⟨World.grownBy.refl _ _, fun _ _ => rfl, fun _ => rfl⟩
theorem Mv.trans {w w1 w2 : World} {b : Nat} (h : Mv w w1 b) (k : Mv w1 w2 b) : Mv w w2 b :=
  ⟨⟨k.g.os.trans h.g.os, k.g.tape.trans h.g.tape, k.g.output.trans h.g.output, Nat.le_trans h.g.size k.g.size, fun i hi hne => (k.g.block i (Nat.lt_of_lt_of_le hi h.g.size) hne).trans (h.g.block i hi hne)⟩,
   fun j hj => (k.o j hj).trans (h.o j hj), fun j => (k.f j).trans (h.f j)⟩
theorem Mv.lt {w w' : World} {b : Nat} (h : Mv w w' b) (hb : b < w.heap.size) : b < w'.heap.size := Nat.lt_of_lt_of_le hb h.g.size
theorem Mv.set (w : World) (b : Nat) (u : Value) : Mv w (w.setCell ⟨b, 1, none⟩ u) b := by
  refine ⟨⟨rfl, rfl, rfl, by simp [World.setCell], fun k hk hne => Below.heap_setCell _ _ _ _ (by intro h; exact hne (by rw [h]))⟩, fun j hj => ?_, fun j => World.frozen?_setCell _ _ _ _⟩
  apply World.cell?_setCell_other; intro hh; injection hh with _ h2; exact hj h2.symm
theorem Mv.of_below {w w' : World} {b : Nat} (h : Below w.heap.size w w') (hb : b < w.heap.size) : Mv w w' b :=
  ⟨⟨h.os, h.tape, h.output, h.size, fun k hk _ => h.block k hk⟩, fun j _ => h.cell (p := ⟨b, j, none⟩) hb, fun j => h.frozen (p := ⟨b, j, none⟩) hb⟩
theorem Mv.grown {w w' : World} {b : Nat} {row : Option Nat} (h : w.grownBy w' row) (hr : some b ≠ row) (hb : b < w.heap.size) (hall : ∀ k, row = some k → w.heap.size ≤ k) : Mv w w' b :=
  ⟨⟨h.os, h.tape, h.output, h.size, fun k hk _ => h.block k hk (fun e => by have := hall k e.symm; omega)⟩, fun j _ => World.cell?_of_block (w := w) (h.block b hb hr), fun j => World.frozen?_of_block (w := w) (h.block b hb hr)⟩
theorem Mv.below {w w' : World} {b B : Nat} (h : Mv w w' b) (hB : B ≤ b) (hb : b < w.heap.size) : Below B w w' :=
  ⟨h.g.os, h.g.tape, h.g.output, h.g.size, fun k hk => h.g.block k (by omega) (by simp; omega)⟩

theorem Mv.andGrown {w w1 w2 : World} {b : Nat} {row : Option Nat} (h : Mv w w1 b) (g : w1.grownBy w2 row) (hb : b < w.heap.size) (hall : ∀ k, row = some k → w.heap.size ≤ k) : Mv w w2 b := by
  have hne : ∀ k, k < w.heap.size → some k ≠ row := fun k hk e => by have := hall k e.symm; omega
  have hz := h.g.size
  refine ⟨⟨g.os.trans h.g.os, g.tape.trans h.g.tape, g.output.trans h.g.output, Nat.le_trans h.g.size g.size, fun k hk hkb => (g.block k (by omega) (hne k hk)).trans (h.g.block k hk hkb)⟩, fun j hj => ?_, fun j => ?_⟩
  · exact (World.cell?_of_block (w := w1) (a := ⟨b, j, none⟩) (g.block b (by omega) (hne b hb))).trans (h.o j hj)
  · exact (World.frozen?_of_block (w := w1) (a := ⟨b, j, none⟩) (g.block b (by omega) (hne b hb))).trans (h.f j)
theorem Mv.alloc {w w1 : World} {b : Nat} (h : Mv w w1 b) (hb : b < w.heap.size) (o : Obj) : Mv w (w1.alloc o) b := h.andGrown (World.grownBy_alloc w1 o none) hb (fun k e => by cases e)
theorem Mv.andBelow {w w1 w2 : World} {b : Nat} (h : Mv w w1 b) (k : Below w1.heap.size w1 w2) (hb : b < w.heap.size) : Mv w w2 b := h.trans (Mv.of_below k (h.lt hb))
theorem cell1_grown {w1 w2 : World} {b : Nat} {row : Option Nat} {v : Value} (c : w1.cell? ⟨b, 1, none⟩ = some v) (g : w1.grownBy w2 row) (hne : some b ≠ row) : w2.cell? ⟨b, 1, none⟩ = some v := g.cell c hne
theorem Mv.drew {w w' : World} {b : Nat} (h : Mv w w' b) : Mv w w'.drew b := h.trans ⟨⟨rfl, rfl, rfl, Nat.le_refl _, fun _ _ _ => rfl⟩, fun _ _ => rfl, fun _ => rfl⟩
theorem Mv.drewN {w w' : World} {b : Nat} (h : Mv w w' b) (n : Nat) : Mv w (w'.drewN n) b := h.trans ⟨⟨rfl, rfl, rfl, Nat.le_refl _, fun _ _ _ => rfl⟩, fun _ _ => rfl, fun _ => rfl⟩

structure Dr (w : World) (b : Nat) (ao : Option Addr) (cap : Nat) (s : List UInt8) (p : Nat) : Prop where
  c0 : w.cell? ⟨b, 0, none⟩ = some (.slice ao s.length cap)
  c1 : w.cell? ⟨b, 1, none⟩ = some (.int .i64 p)
  f1 : w.frozen? ⟨b, 1, none⟩ = false
  hb : s ≠ [] → ∃ bb bo, ao = some ⟨bb, bo, none⟩ ∧ bb ≠ b ∧ ∀ i, i < s.length → w.cell? ⟨bb, bo + i, none⟩ = some (.int .u8 (s.getD i 0).toNat)
  hp : p ≤ s.length
  hs : s.length ≤ 1099511627776
theorem Dr.lt {w : World} {b : Nat} {ao : Option Addr} {cap : Nat} {s : List UInt8} {p : Nat} (h : Dr w b ao cap s p) : b < w.heap.size := World.block_lt_of_cell? w _ h.c0
theorem Dr.move {w w' : World} {b : Nat} {ao : Option Addr} {cap : Nat} {s : List UInt8} {p q : Nat} (h : Dr w b ao cap s p) (m : Mv w w' b) (c : w'.cell? ⟨b, 1, none⟩ = some (.int .i64 q)) (hq : q ≤ s.length) : Dr w' b ao cap s q := by
  refine ⟨(m.o 0 (by decide)).trans h.c0, c, (m.f 1).trans h.f1, fun hne => ?_, hq, h.hs⟩
  obtain ⟨bb, bo, ha, hbb, hc⟩ := h.hb hne
  exact ⟨bb, bo, ha, hbb, fun i hi => m.g.cell (hc i hi) (by simpa using hbb)⟩
theorem Dr.set {w : World} {b : Nat} {ao : Option Addr} {cap : Nat} {s : List UInt8} {p q : Nat} (h : Dr w b ao cap s p) (hq : q ≤ s.length) : Dr (w.setCell ⟨b, 1, none⟩ (.int .i64 q)) b ao cap s q :=
  h.move (Mv.set _ _ _) (World.cell?_setCell_same' _ _ _ (by simp [h.c1])) hq
theorem Dr.at {w : World} {b : Nat} {ao : Option Addr} {cap : Nat} {s : List UInt8} {p : Nat} (h : Dr w b ao cap s p) (hlt : p < s.length) : ∃ bb bo, ao = some ⟨bb, bo, none⟩ ∧ bb ≠ b ∧ w.cell? ⟨bb, bo + p, none⟩ = some (.int .u8 (s.getD p 0).toNat) := by
  obtain ⟨bb, bo, ha, hbb, hc⟩ := h.hb (by intro hh; rw [hh] at hlt; simp at hlt)
  exact ⟨bb, bo, ha, hbb, hc p hlt⟩

namespace Fl
def numB (s : List UInt8) (p : Nat) (lo hi : Int) : Int × Int × Int :=
  if (num s p).2.1 < 0 then (0, -1, (num s p).2.2) else if (num s p).1 < lo ∨ hi < (num s p).1 then (0, -1, (p : Int)) else ((num s p).1, (num s p).2.1, 0)
theorem numB_ok (s : List UInt8) (p : Nat) (lo hi : Int) (h : p ≤ s.length) :
    ((numB s p lo hi).2.1 = -1) ∨ ((p : Int) < (numB s p lo hi).2.1 ∧ (numB s p lo hi).2.1 ≤ s.length ∧ 0 ≤ (numB s p lo hi).1 ∧ (numB s p lo hi).1 < 2147483648 ∧ lo ≤ (numB s p lo hi).1 ∧ (numB s p lo hi).1 ≤ hi) := by
  unfold numB
  rcases num_ok s p h with h1 | h1
  · rw [if_pos (by omega)]; left; rfl
  · rw [if_neg (by omega)]
    split
    · left; rfl
    · right; simp only; omega
end Fl
end Go.Proofs.YthfacjlghcdndaaGreatDoor

namespace Go.Proofs.YthfacjlghcdndaaGreatDoor
open Go.RowKit

section
variable {P : Program} {w : World} {ops : Array Oper} {rest : List Oper} {o : Oper} {a : Act} {Q : Exit → Act → World → Prop}
theorem wpList_build_whole (hgd : o.guard = none) (t : TypeId) (parts : Array (Nat × Operand)) (ho : o.op = .build t parts) (arr : Array Value)
    (hrun : (Instr.build t (parts.map fun (i, x) => (i, a.eval x))).run P w = .ok (.agg arr) w) (h : wpList P ops Q rest (a.put o.dst (.agg arr)) w) : wpList P ops Q (o :: rest) a w :=
  wpList_plain hgd fun _ hK => by
    have hgo := hK _ _ h
    unfold Oper.wp execOp
    simp only [ho, Sem.run_bind, hrun, Result.andThen_ok, Sem.run_pure]
    exact hgo
theorem wpList_store_new (hgd : o.guard = none) (x y : Operand) (t : TypeId) (ho : o.op = .store t x y) (w : World) (c c' : Array Value) (hx : a.eval x = .pointer (some ⟨w.heap.size, 0, none⟩)) (hy : a.eval y = .agg c')
    (hi : (P.info? t).map (·.size) = some c'.size) (hsz : c.size = c'.size) (h1 : c'.all (·.oneCell') = true) (h : wpList P ops Q rest (a.put o.dst undef) (w.alloc (.cells c' t))) : wpList P ops Q (o :: rest) a (w.alloc (.cells c t)) :=
  wpList_plain hgd fun _ hK => by
    have hgo := hK _ _ h
    unfold Oper.wp execOp
    simp only [ho, Sem.run_bind, hx, hy, run_storeAt_new w t c c' hi hsz h1, Result.andThen_ok, Sem.run_pure]
    exact hgo
theorem wpList_store_newN (hgd : o.guard = none) (x y : Operand) (t : TypeId) (ho : o.op = .store t x y) (w : World) (N : Nat) (c c' : Array Value) (hx : a.eval x = .pointer (some ⟨N, 0, none⟩)) (hN : w.heap.size = N) (hy : a.eval y = .agg c')
    (hi : (P.info? t).map (·.size) = some c'.size) (hsz : c.size = c'.size) (h1 : c'.all (·.oneCell') = true) (h : wpList P ops Q rest (a.put o.dst undef) (w.alloc (.cells c' t))) : wpList P ops Q (o :: rest) a (w.alloc (.cells c t)) := by
  subst hN; exact wpList_store_new hgd x y t ho w c c' hx hy hi hsz h1 h
theorem exec_store_new (x y : Operand) (t : TypeId) (ho : o.op = .store t x y) (w : World) (c c' : Array Value) (hx : a.eval x = .pointer (some ⟨w.heap.size, 0, none⟩)) (hy : a.eval y = .agg c')
    (hi : (P.info? t).map (·.size) = some c'.size) (hsz : c.size = c'.size) (h1 : c'.all (·.oneCell') = true) : (execOp a.eval o).run P (w.alloc (.cells c t)) = .ok .skip (w.alloc (.cells c' t)) := by
  unfold execOp
  simp only [ho, Sem.run_bind, hx, hy, run_storeAt_new w t c c' hi hsz h1, Result.andThen_ok, Sem.run_pure]
theorem wpList_load_row (hgd : o.guard = none) (x : Operand) (t : TypeId) (ho : o.op = .load t x) (g : Nat) (hx : a.eval x = .pointer (some ⟨g, 0, none⟩)) (arr : Array Value) (te : TypeId) (fr : Nat × Nat) (hg : w.heap[g]? = some (.cells arr te fr))
    (d : TypeDesc) (hu : P.underlying t = some d) (hd : (match d with | .struct _ | .array _ _ => true | _ => false) = true) (hi : (P.info? t).map (·.size) = some arr.size) (h : wpList P ops Q rest (a.put o.dst (.agg arr)) w) : wpList P ops Q (o :: rest) a w :=
  wpList_plain hgd fun _ hK => by
    have hgo := hK _ _ h
    unfold Oper.wp execOp
    simp only [ho, Sem.run_bind, hx, Instr.loadAt, Instr.sureAddr, Sem.run_pure, Result.andThen_ok, run_loadVar_row w g te t arr fr d hg hu hd hi]
    exact hgo
theorem wpList_store_row (hgd : o.guard = none) (x y : Operand) (t : TypeId) (ho : o.op = .store t x y) (g : Nat) (hx : a.eval x = .pointer (some ⟨g, 0, none⟩)) (c c' : Array Value) (hy : a.eval y = .agg c') (te : TypeId) (hg : w.heap[g]? = some (.cells c te (0, 0)))
    (hi : (P.info? t).map (·.size) = some c'.size) (hsz : c.size = c'.size) (h1 : c'.all (·.oneCell') = true) (h : wpList P ops Q rest (a.put o.dst undef) (w.setRow g c')) : wpList P ops Q (o :: rest) a w :=
  wpList_plain hgd fun _ hK => by
    have hgo := hK _ _ h
    unfold Oper.wp execOp
    simp only [ho, Sem.run_bind, hx, hy, Instr.storeAt, Instr.sureAddr, Sem.run_pure, Result.andThen_ok, run_storeVar_row w g te t c c' hg hi hsz h1]
    exact hgo
theorem still_value {L : Act → Prop} (hgd : o.guard = none) (v : Value) (hrun : (execOp a.eval o).run P w = .ok (.value v) w) (h : wpStill P ops w L rest (a.put o.dst v)) : wpStill P ops w L (o :: rest) a := by
  unfold wpStill
  simp only [Region.wanted, hgd, if_true, Oper.still, hrun, Oper.stillUpon, true_and]
  exact h
theorem exec_load_row (x : Operand) (t : TypeId) (ho : o.op = .load t x) (g : Nat) (hx : a.eval x = .pointer (some ⟨g, 0, none⟩)) (arr : Array Value) (te : TypeId) (fr : Nat × Nat) (hg : w.heap[g]? = some (.cells arr te fr))
    (d : TypeDesc) (hu : P.underlying t = some d) (hd : (match d with | .struct _ | .array _ _ => true | _ => false) = true) (hi : (P.info? t).map (·.size) = some arr.size) : (execOp a.eval o).run P w = .ok (.value (.agg arr)) w := by
  unfold execOp
  simp only [ho, Sem.run_bind, hx, Instr.loadAt, Instr.sureAddr, Sem.run_pure, Result.andThen_ok, run_loadVar_row w g te t arr fr d hg hu hd hi]
theorem exec_lookup (m x : Operand) (t : TypeId) (ho : o.op = .lookup t m x true) (mv kv v : Value) (hm : a.eval m = mv) (hx : a.eval x = kv) (hrun : (Instr.lookup t mv kv true).run P w = .ok v w) : (execOp a.eval o).run P w = .ok (.value v) w := by
  unfold execOp
  simp only [ho, Sem.run_bind, hm, hx, hrun, Result.andThen_ok, Sem.run_pure]
theorem results_cell1 {P : Program} {fn : Func} {p : Tmp} {ty : TypeId} (h : fn.results = #[.cell p ty]) (tmps : Array Value) (w : World) (ad : Addr) (v : Value) (ha : tmps.getD p undef = .pointer (some ad)) (hl : (loadVar ty ad).run P w = .ok v w) :
    (results fn tmps).run P w = .ok v w := by
  have ha' : tmps[p]?.getD undef = .pointer (some ad) := by rw [← ha, Array.getD_eq_getD_getElem?]
  simp only [results, h]
  simp [Sem.run_bind, Result.andThen, ha', asAddr, hl]
end
end Go.Proofs.YthfacjlghcdndaaGreatDoor

namespace Go.Proofs.YthfacjlghcdndaaGreatDoor
open Go.RowKit

theorem raise_any (n p : Int) (w : World) : Calls Tryz.prog 41 #[.int .i64 n, .int .i64 p] w fun e w' => e = .panicked (stopAt n p) ∧ Below w.heap.size w w' := by
  go_enter Tryz.func41, Tryz.ntmps41
  go_wp2
  exact ⟨rfl, rfl, Below.refl _ _⟩

end Go.Proofs.YthfacjlghcdndaaGreatDoor

namespace Go.Proofs.YthfacjlghcdndaaGreatDoor
open Go.RowKit

theorem still_tail_gen {P : Program} {id : Nat} {Q : Exit → Act → World → Prop} {a : Act} {w : World} {l : List Oper} (n g d g' d' : Nat) (hm : P.follows .mixedOrders = true) (hB : Region.lexTailB .any l.toArray n = true) (hg : ((l.toArray[g]?).bind fun x => x.dst) = some d) (hg' : ((l.toArray[g']?).bind fun x => x.dst) = some d')
    (h : ∀ ops : Array Oper, ((ops[g]?).bind fun x => x.dst) = some d → ((ops[g']?).bind fun x => x.dst) = some d' → wpStill P ops { w with drawn := w.drawn + 1 } (fun a' => wpList P ops Q (l.drop n) a' { w with drawn := w.drawn + 1 }) (l.take n) a) : (Code.region id l.toArray true).wp P Q a w :=
  wp_region_still_tail n hm hB (h _ hg hg')
theorem still_gen {P : Program} {id : Nat} {Q : Exit → Act → World → Prop} {a : Act} {w : World} {l : List Oper} (g d g' d' : Nat) (hm : P.follows .mixedOrders = true) (hB : Region.lexB .any l.toArray = true) (hg : ((l.toArray[g]?).bind fun x => x.dst) = some d) (hg' : ((l.toArray[g']?).bind fun x => x.dst) = some d')
    (h : ∀ ops : Array Oper, ((ops[g]?).bind fun x => x.dst) = some d → ((ops[g']?).bind fun x => x.dst) = some d' → wpStill P ops { w with drawn := w.drawn + 1 } (fun a' => Q .normal a' { w with drawn := w.drawn + 1 }) l a) : (Code.region id l.toArray true).wp P Q a w :=
  wp_region_still_lit hm hB (h _ hg hg')
theorem still_plain {P : Program} {ops : Array Oper} {w : World} {Q : Act → Prop} {a : Act} {o : Oper} {rest : List Oper} (hg : o.guard = none)
    (h : ∀ K : Act → Prop, (∀ a, wpStill P ops w Q rest a → K a) → o.still P a w K) : wpStill P ops w Q (o :: rest) a :=
  wpStill_step fun K hK => by simp only [Region.wanted, hg, if_true]; exact h K hK
theorem still_go {P : Program} {ops : Array Oper} {w : World} {Q : Act → Prop} {a : Act} {o : Oper} {rest : List Oper} {j : Nat} {b : Bool} (hg : o.guard = some (j, b)) (hy : yielded ops a.tmps j = some b)
    (h : ∀ K : Act → Prop, (∀ a, wpStill P ops w Q rest a → K a) → o.still P a w K) : wpStill P ops w Q (o :: rest) a :=
  wpStill_step fun K hK => by simp only [Region.wanted, hg, hy, beq_self_eq_true, if_true]; exact h K hK
theorem still_skip {P : Program} {ops : Array Oper} {w : World} {Q : Act → Prop} {a : Act} {o : Oper} {rest : List Oper} {j : Nat} {b c : Bool} (hg : o.guard = some (j, b)) (hy : yielded ops a.tmps j = some c) (hne : (some c == some b) = false)
    (h : wpStill P ops w Q rest (a.put o.dst undef)) : wpStill P ops w Q (o :: rest) a :=
  wpStill_step fun K hK => by simp only [Region.wanted, hg, hy, hne]; exact hK _ h
end Go.Proofs.YthfacjlghcdndaaGreatDoor
