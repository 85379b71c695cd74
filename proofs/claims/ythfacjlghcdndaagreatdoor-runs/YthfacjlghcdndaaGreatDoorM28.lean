/- Texts Rmb Rmc CeTwo CeTwoS. -/
import Derived.Test.YthfacjlghcdndaaGreatDoorM27
set_option linter.unusedSimpArgs false
set_option linter.unusedVariables false
namespace Go.Proofs.YthfacjlghcdndaaGreatDoor
open Go.RowKit
def RwEnds (lo base Rb Pb : Nat) (w0 : World) (t : Nat) (res : Nat × Fl.RS) (e : Ending) (w' : World) : Prop :=
  e = .returned (.int .i64 res.1) ∧ (res.1 = 0 → ∃ m' fl', RefAt lo base Rb Pb w0 w' m' ∧ RefOf res.2 fl' (t + 1) m' ∧ FlatR fl' res.2 ∧ cnt fl' = res.2.stmts) ∧ (res.1 ≠ 0 → Below lo w0 w')
theorem deepV_cons (f : Fl.Frame) (fs : List Fl.Frame) : deepV (f :: fs) = deepV fs ++ [.int .u8 (deepC f : Nat)] := by simp [deepV]
theorem deepV_len (fs : List Fl.Frame) : (deepV fs).length = fs.length := by simp [deepV]
theorem flatV_snoc (fl : List FlS) (f : FlS) : flatV (fl ++ [f]) = flatV fl ++ fsCells f := by simp [flatV]
section
variable {r r' : Fl.RS} {fl fl' : List FlS} {t t' : Nat} {m m' : RMem}
theorem RefOf.move (h : RefOf r fl t m) (e1 : r'.levels = r.levels) (e2 : r'.cells = r.cells) (e3 : r'.chans = r.chans) (e4 : r'.locals = r.locals) (e5 : r'.low = r.low) (e6 : r'.high = r.high) (e7 : r'.cellLv = r.cellLv) (e8 : r'.chanLv = r.chanLv) (e9 : r'.begun = r.begun)
    (hv : ∀ i, i ≠ 8 → i ≠ 10 → m'.n i = m.n i ∧ m'.xs i = m.xs i) (r8 : m'.n 8 = r'.fr.length ∧ m'.xs 8 = deepV r'.fr) (r10 : m'.n 10 = fl'.length ∧ m'.xs 10 = flatV fl') (hb : m'.begun = m.begun) (st : m'.stmts = r'.stmts) (sm : r'.stmts ≤ 16) (fr : r'.fr.length ≤ 3) (ht : t ≤ t') (ft : fl'.length ≤ t') : RefOf r' fl' t' m' := by
  have g : ∀ i, i ≠ 8 → i ≠ 10 → ∀ {k : Nat} {xs : List Value}, m.n i = k ∧ m.xs i = xs → m'.n i = k ∧ m'.xs i = xs := fun i h1 h2 k xs hh => ⟨(hv i h1 h2).1.trans hh.1, (hv i h1 h2).2.trans hh.2⟩
  exact { r1 := by rw [e1]; exact g 1 (by decide) (by decide) h.r1, r2 := by rw [e2]; exact g 2 (by decide) (by decide) h.r2, r3 := by rw [e3]; exact g 3 (by decide) (by decide) h.r3, r4 := by rw [e4]; exact g 4 (by decide) (by decide) h.r4, r5 := by rw [e5]; exact g 5 (by decide) (by decide) h.r5, r6 := by rw [e6]; exact g 6 (by decide) (by decide) h.r6, r8 := r8, r10 := r10, r12 := by rw [e7]; exact g 12 (by decide) (by decide) h.r12, r13 := by rw [e8]; exact g 13 (by decide) (by decide) h.r13,
          bg := by rw [hb, e9]; exact h.bg, st := st, nm := by rw [e1, e2, e3, e4]; exact h.nm, lv := by rw [e1]; exact h.lv, ce := by rw [e2]; exact h.ce, ch := by rw [e3]; exact h.ch, lo := by rw [e4]; exact h.lo, sm := sm, fr := fr, lw := by rw [e5]; have := h.lw; omega, ft := ft, pr := by rw [e5, e6]; exact h.pr, bw := by rw [e1, e5, e6]; exact h.bw, cl := by rw [e7, e2]; exact h.cl, hl := by rw [e8, e3]; exact h.hl }
theorem RefOf.elses (h : RefOf r fl t m) {f : Fl.Frame} {fs : List Fl.Frame} (hf : r.fr = f :: fs) (hk : f.kind = 5) (v8 v' : Value) : RefOf r.elses (fl ++ [fElse]) (t + 1) ((deepAt m v8 (m.n 8) (deepV fs ++ [.int .u8 101])).app 10 v' (fsCells fElse)) := by
  have e : r.elses = { r with fr := { f with had := true } :: fs } := by unfold Fl.RS.elses; rw [hf]
  have h8 := h.r8
  rw [hf] at h8
  have hft := h.ft
  have hfr := h.fr
  rw [hf] at hfr
  rw [e]
  refine h.move rfl rfl rfl rfl rfl rfl rfl rfl rfl (fun i h1 h2 => ?_) ⟨?_, ?_⟩ ⟨?_, ?_⟩ rfl h.st h.sm hfr (by omega) (by simp; omega)
  · show (if i = 10 then _ else if i = 8 then _ else m.n i) = _ ∧ (if i = 10 then _ else if i = 8 then _ else m.xs i) = _
    simp [h1, h2]
  · exact h8.1
  · show deepV fs ++ [.int .u8 101] = deepV ({ f with had := true } :: fs)
    rw [deepV_cons]
    simp [deepC, hk]
  · show m.n 10 + 1 = _
    rw [h.r10.1]; simp
  · show m.xs 10 ++ _ = _
    rw [h.r10.2, flatV_snoc]
theorem ends_fr {f : Fl.Frame} {fs : List Fl.Frame} (hf : r.fr = f :: fs) : r.ends.fr.length = fs.length ∧ deepV r.ends.fr = deepV fs := by
  unfold Fl.RS.ends
  rw [hf]
  cases fs with
  | nil => exact ⟨rfl, rfl⟩
  | cons g gs =>
    refine ⟨rfl, ?_⟩
    show deepV ((if g.had then _ else _) :: gs) = _
    rw [deepV_cons, deepV_cons]
    cases hg : g.had <;> simp [deepC, hg]
theorem ends_same {f : Fl.Frame} {fs : List Fl.Frame} (hf : r.fr = f :: fs) : r.ends.levels = r.levels ∧ r.ends.cells = r.cells ∧ r.ends.chans = r.chans ∧ r.ends.locals = r.locals ∧ r.ends.low = r.low ∧ r.ends.high = r.high ∧ r.ends.cellLv = r.cellLv ∧ r.ends.chanLv = r.chanLv ∧ r.ends.begun = r.begun ∧ r.ends.stmts = r.stmts := by
  unfold Fl.RS.ends
  rw [hf]
  cases fs <;> exact ⟨rfl, rfl, rfl, rfl, rfl, rfl, rfl, rfl, rfl, rfl⟩
theorem RefOf.ends (h : RefOf r fl t m) {f : Fl.Frame} {fs : List Fl.Frame} (hf : r.fr = f :: fs) (v8 v' : Value) : RefOf r.ends (fl ++ [fEnd]) (t + 1) ((deepAt m v8 fs.length (deepV fs)).app 10 v' (fsCells fEnd)) := by
  obtain ⟨e1, e2, e3, e4, e5, e6, e7, e8, e9, e10⟩ := ends_same hf
  obtain ⟨f1, f2⟩ := ends_fr hf
  have hft := h.ft
  have hfr := h.fr
  rw [hf, List.length_cons] at hfr
  refine h.move e1 e2 e3 e4 e5 e6 e7 e8 e9 (fun i h1 h2 => ?_) ⟨f1.symm, f2.symm⟩ ⟨?_, ?_⟩ rfl (by rw [e10]; exact h.st) (by rw [e10]; exact h.sm) (by rw [f1]; omega) (by omega) (by simp; omega)
  · show (if i = 10 then _ else if i = 8 then _ else m.n i) = _ ∧ (if i = 10 then _ else if i = 8 then _ else m.xs i) = _
    simp [h1, h2]
  · show m.n 10 + 1 = _
    rw [h.r10.1]; simp
  · show m.xs 10 ++ _ = _
    rw [h.r10.2, flatV_snoc]
theorem put_same (s : Fl.Stmt) : (r.put s).levels = r.levels ∧ (r.put s).cells = r.cells ∧ (r.put s).chans = r.chans ∧ (r.put s).locals = r.locals ∧ (r.put s).low = r.low ∧ (r.put s).high = r.high ∧ (r.put s).cellLv = r.cellLv ∧ (r.put s).chanLv = r.chanLv ∧ (r.put s).begun = r.begun ∧ (r.put s).stmts = r.stmts + 1 ∧ (r.put s).fr.length = r.fr.length ∧ deepV (r.put s).fr = deepV r.fr := by
  unfold Fl.RS.put
  cases hf : r.fr with
  | nil => exact ⟨rfl, rfl, rfl, rfl, rfl, rfl, rfl, rfl, rfl, rfl, rfl, rfl⟩
  | cons g gs =>
    refine ⟨rfl, rfl, rfl, rfl, rfl, rfl, rfl, rfl, rfl, rfl, rfl, ?_⟩
    show deepV ((if g.had then _ else _) :: gs) = _
    rw [deepV_cons, deepV_cons]
    cases hg : g.had <;> simp [deepC, hg]
theorem RefOf.put (h : RefOf r fl t m) (s : Fl.Stmt) (f : FlS) (hs : r.stmts < 16) (v' : Value) : RefOf (r.put s) (fl ++ [f]) (t + 1) { m.app 10 v' (fsCells f) with stmts := r.stmts + 1 } := by
  obtain ⟨e1, e2, e3, e4, e5, e6, e7, e8, e9, e10, f1, f2⟩ := put_same (r := r) s
  have hft := h.ft
  have hfr := h.fr
  refine h.move e1 e2 e3 e4 e5 e6 e7 e8 e9 (fun i h1 h2 => ?_) ⟨?_, ?_⟩ ⟨?_, ?_⟩ rfl (by rw [e10]) (by rw [e10]; omega) (by rw [f1]; omega) (by omega) (by simp; omega)
  · show (if i = 10 then _ else m.n i) = _ ∧ (if i = 10 then _ else m.xs i) = _
    simp [h2]
  · rw [f1]; exact h.r8.1
  · rw [f2]; exact h.r8.2
  · show m.n 10 + 1 = _
    rw [h.r10.1]; simp
  · show m.xs 10 ++ _ = _
    rw [h.r10.2, flatV_snoc]
theorem RefOf.opens (h : RefOf r fl t m) (kind line : Nat) (e : Fl.Expr) (hs : r.stmts < 16) (hl : r.fr.length < 3) (v' v8 : Value) (c : Nat) (hc : c = if kind = 6 then 119 else 105) : RefOf (r.opens kind line e) (fl ++ [⟨0, ⟨kind, 0, line, e, [], []⟩⟩]) (t + 1) ({ m.app 10 v' (fsCells ⟨0, ⟨kind, 0, line, e, [], []⟩⟩) with stmts := r.stmts + 1 }.app 8 v8 [.int .u8 (c : Nat)]) := by
  have hft := h.ft
  refine h.move rfl rfl rfl rfl rfl rfl rfl rfl rfl (fun i h1 h2 => ?_) ⟨?_, ?_⟩ ⟨?_, ?_⟩ rfl rfl (by show r.stmts + 1 ≤ 16; omega) (by show (_ :: r.fr).length ≤ 3; simp; omega) (by omega) (by simp; omega)
  · show (if i = 8 then _ else if i = 10 then _ else m.n i) = _ ∧ (if i = 8 then _ else if i = 10 then _ else m.xs i) = _
    simp [h1, h2]
  · show m.n 8 + 1 = (_ :: r.fr).length
    rw [h.r8.1]; simp
  · show m.xs 8 ++ _ = deepV (_ :: r.fr)
    rw [h.r8.2, deepV_cons, hc]
    simp [deepC]
  · show m.n 10 + 1 = _
    rw [h.r10.1]; simp
  · show m.xs 10 ++ _ = _
    rw [h.r10.2, flatV_snoc]
theorem head_same (ws : List (List UInt8)) : (r.head ws).2.top = r.top ∧ (r.head ws).2.fr = r.fr ∧ (r.head ws).2.stmts = r.stmts := by
  unfold Fl.RS.head
  repeat' split
  all_goals exact ⟨rfl, rfl, rfl⟩
theorem FlatR.same (h : FlatR fl r) (e1 : r'.top = r.top) (e2 : r'.fr = r.fr) : FlatR fl r' := by
  obtain ⟨a, b, h1, h2, h3⟩ := h
  exact ⟨a, b, h1, by rw [e1]; exact h2, by rw [e2]; exact h3⟩
theorem HdEnds.row {lo base Rb Pb : Nat} {w0 w' : World} {ws : List (List UInt8)} {e : Ending} (hf : FlatR fl r) (hc : cnt fl = r.stmts) (h : HdEnds lo base Rb Pb w0 fl t (r.head ws) e w') : RwEnds lo base Rb Pb w0 t (r.head ws) e w' := by
  obtain ⟨h1, h2, h3⟩ := h
  obtain ⟨s1, s2, s3⟩ := head_same (r := r) ws
  refine ⟨h1, fun h0 => ?_, h3⟩
  obtain ⟨m', hm, hr⟩ := h2 h0
  exact ⟨m', fl, hm, hr, hf.same s1 s2, by rw [s3]; exact hc⟩
end
end Go.Proofs.YthfacjlghcdndaaGreatDoor

namespace Go.Proofs.YthfacjlghcdndaaGreatDoor
open Go.RowKit
section
variable {lo base Rb Pb : Nat} {w0 w w' : World} {m : RMem} {r : Fl.RS} {fl : List FlS} {t : Nat}
set_option maxRecDepth 100000 in
set_option maxHeartbeats 20000000 in
theorem row_bad (h : RefAt lo base Rb Pb w0 w m) (hr : RefOf r fl t m) (b off n cap : Nat) (at_ : Int) (x0 : ByteArray) (hn : 1 ≤ n ∧ n ≤ maxLen) (c0 : w.cell? ⟨b, off, none⟩ = some (.string x0)) (hh : Fl.isHead x0.toList = r.begun) :
    Calls Tryz.prog 13 #[.pointer (some ⟨Rb, 0, none⟩), .slice (some ⟨b, off, none⟩) n cap, .int .i64 at_] w (RwEnds lo base Rb Pb w0 t (3, r)) := by
  have x7 : w.cell? ⟨Rb, 7, none⟩ = some (.bool r.begun) := by rw [← hr.bg]; exact h.cR.c 7 (by omega)
  have hnI : (0 : Int) < (n : Int) := by omega
  have HE : Hid (RwEnds lo base Rb Pb w0 t (3, r) (.returned (.int .i64 3)) w) := ⟨rfl, fun h => (by cases h), fun _ => h.bel⟩
  rw [← hh] at x7
  clear h hr hh
  rcases Fl.word_cases x0.toList with h | h | h | h | h | h | h | h | h | h | h | h
  all_goals
    obtain ⟨k1, k2, k3, k4, k5, k6, k7, k8, k9, k10, k11⟩ := h
    simp only [Fl.isHead, Fl.wLevel, Fl.wBelow, Fl.wCell, Fl.wChannel, Fl.wBegin, k1, k2, k3, k4, k5, Bool.or_true, Bool.true_or, Bool.or_false, Bool.false_or] at x7
    go_enter Tryz.func13, Tryz.ntmps13
    go_wp2
    go_ret
    exact HE.out
set_option maxRecDepth 100000 in
set_option maxHeartbeats 20000000 in
theorem row_head (h : RefAt lo base Rb Pb w0 w m) (hr : RefOf r fl t m) (hf : FlatR fl r) (hc : cnt fl = r.stmts) (b off n cap : Nat) (at_ : Int) (x0 : ByteArray) (ws : List (List UInt8)) (hn : 1 ≤ n ∧ n ≤ maxLen) (c0 : w.cell? ⟨b, off, none⟩ = some (.string x0)) (hh : Fl.isHead x0.toList = true) (hb : r.begun = false)
    (hhd : Calls Tryz.prog 23 #[.pointer (some ⟨Rb, 0, none⟩), .slice (some ⟨b, off, none⟩) n cap] w (HdEnds lo base Rb Pb w0 fl t (r.head ws))) :
    Calls Tryz.prog 13 #[.pointer (some ⟨Rb, 0, none⟩), .slice (some ⟨b, off, none⟩) n cap, .int .i64 at_] w (RwEnds lo base Rb Pb w0 t (r.head ws)) := by
  have x7 : w.cell? ⟨Rb, 7, none⟩ = some (.bool false) := by rw [← hb, ← hr.bg]; exact h.cR.c 7 (by omega)
  have hnI : (0 : Int) < (n : Int) := by omega
  have HHD : Hid (Calls Tryz.prog 23 #[.pointer (some ⟨Rb, 0, none⟩), .slice (some ⟨b, off, none⟩) n cap] w (fun e w' => (∃ v, e = .returned (.int .i64 v)) ∧ RwEnds lo base Rb Pb w0 t (r.head ws) e w')) := by
    refine hhd.mono ?_
    intro e w' he
    exact ⟨⟨_, he.1⟩, he.row hf hc⟩
  obtain ⟨res, hres⟩ : ∃ res, res = r.head ws := ⟨_, rfl⟩
  rw [← hres] at HHD ⊢
  clear h hr hb hf hc hhd hres
  rcases Fl.word_cases x0.toList with h | h | h | h | h | h | h | h | h | h | h | h
  all_goals
    obtain ⟨k1, k2, k3, k4, k5, k6, k7, k8, k9, k10, k11⟩ := h
    simp only [Fl.isHead, Fl.wLevel, Fl.wBelow, Fl.wCell, Fl.wChannel, Fl.wBegin, k1, k2, k3, k4, k5, Bool.or_true, Bool.true_or, Bool.or_false, Bool.false_or] at hh
    first
    | (exact absurd hh (by decide))
    | (clear hh
       go_enter Tryz.func13, Tryz.ntmps13
       go_wp2_with fail
       refine HHD.out.mono ?_
       rintro e w1 ⟨⟨v, rfl⟩, he⟩
       have HE : Hid _ := he
       clear he
       go_wp2
       go_ret
       exact HE.out)
end
end Go.Proofs.YthfacjlghcdndaaGreatDoor

namespace Go.Proofs.YthfacjlghcdndaaGreatDoor
open Go.RowKit
def wpThen (P : Program) (ops : Array Oper) (S : World → Prop) (Q : Exit → Act → World → Prop) (E : Act → World → Prop) : List (Nat × Oper) → Act → World → Prop
  | [], a, w => S w ∧ E a w
  | (0, o) :: l, a, w => ∃ v, YieldsIf P ops S o v a ∧ wpThen P ops S Q E l (a.put o.dst v) w
  | (_ + 1, o) :: l, a, w => wpList P ops (Exit.then (fun a1 w1 => S w1 ∧ wpThen P ops S Q E l a1 w1) Q) [o] a w
def thenB (ops : Array Oper) : List Nat → List (Nat × Nat) → Bool
  | _, [] => true
  | pre, (0, i) :: l => Region.free .any ops (doneBy ops.size pre) i && ((Region.ready .any ops (doneBy ops.size pre)).contains i && thenB ops (pre ++ [i]) l)
  | pre, (_ + 1, i) :: l => decide (Region.ready .any ops (doneBy ops.size pre) = [i]) && thenB ops (pre ++ [i]) l
section
variable {P : Program} {ops : Array Oper} {Q : Exit → Act → World → Prop} {S : World → Prop} {E : Act → World → Prop}
theorem then_read {o : Oper} {l : List (Nat × Oper)} {a : Act} {w : World} (hg : o.guard = none)
    (h : ∀ K : Act → Prop, (∀ a', wpThen P ops S Q E l a' w → K a') → ∃ v, (∀ w, S w → (execOp a.eval o).run P w = .ok (.value v) w) ∧ K (a.put o.dst v)) : wpThen P ops S Q E ((0, o) :: l) a w := by
  obtain ⟨v, h1, h2⟩ := h (fun a' => wpThen P ops S Q E l a' w) (fun _ h => h)
  exact ⟨v, .inl ⟨by simp [Region.wanted, hg], h1⟩, h2⟩
theorem then_do {o : Oper} {l : List (Nat × Oper)} {a : Act} {w : World} (h : wpList P ops (Exit.then (fun a1 w1 => S w1 ∧ wpThen P ops S Q E l a1 w1) Q) [o] a w) : wpThen P ops S Q E ((1, o) :: l) a w := h
theorem then_end {a : Act} {w : World} (h : S w ∧ E a w) : wpThen P ops S Q E [] a w := h
theorem then_any (f : Nat) (hs : Region.noSelect ops = true) (hQ : ∀ c a d v w, Q (.panic c) (Act.put a d v) w → Q (.panic c) a w) :
    ∀ (st : List (Nat × Nat)) (so : List (Nat × Oper)) (pre : List Nat) (a : Act) (w : World), S w → st.map (fun p => (p.1, ops[p.2]?)) = so.map (fun p => (p.1, some p.2)) → thenB ops pre st = true →
    (∀ a w, E a w → S w → wpAnyL P ops Q S [] f (doneBy ops.size (pre ++ st.map (·.2))) a w) →
    wpThen P ops S Q E so a w → wpAnyL P ops Q S [] (f + st.length) (doneBy ops.size pre) a w
  | [], so, pre, a, w, hS, hso, hB, hE, h => by
    have : so = [] := by cases so with | nil => rfl | cons o so => simp at hso
    subst this
    have := hE a w h.2 h.1
    simpa using this
  | (0, i) :: st, so, pre, a, w, hS, hso, hB, hE, h => by
    cases so with
    | nil => simp at hso
    | cons p so =>
      obtain ⟨c, o⟩ := p
      simp only [List.map_cons, List.cons.injEq, Prod.mk.injEq] at hso
      obtain ⟨⟨rfl, ho⟩, hso⟩ := hso
      simp only [thenB, Bool.and_eq_true] at hB
      obtain ⟨v, h1, h2⟩ := h
      have ih := then_any f hs hQ st so (pre ++ [i]) (a.put o.dst v) w hS hso hB.2.2 (fun a w hE' hS' => by have := hE a w hE' hS'; simpa using this) h2
      rw [doneBy_snoc] at ih
      have := wpAnyL_first ho (Region.noSelect_spec hs) (fun c a w h => hQ c a _ _ w h) (by simp) (f + st.length) _ a w (Region.free_spec ho hB.1) (by simpa using hB.2.1) h1 hS ih
      simpa [Nat.add_assoc] using this
  | (k + 1, i) :: st, so, pre, a, w, hS, hso, hB, hE, h => by
    cases so with
    | nil => simp at hso
    | cons p so =>
      obtain ⟨c, o⟩ := p
      simp only [List.map_cons, List.cons.injEq, Prod.mk.injEq] at hso
      obtain ⟨⟨rfl, ho⟩, hso⟩ := hso
      simp only [thenB, Bool.and_eq_true, decide_eq_true_eq] at hB
      rw [List.length_cons, ← Nat.add_assoc]
      refine ⟨fun h0 => (by rw [hB.1] at h0; cases h0), fun x hx => ?_⟩
      rw [hB.1] at hx
      simp only [List.mem_singleton] at hx
      subst hx
      refine wpOp_mono (fun a1 w1 hk => ⟨fun _ => hk.1, ?_⟩) (op_then ho h)
      have ih := then_any f hs hQ st so (pre ++ [x]) a1 w1 hk.1 hso hB.2 (fun a w hE' hS' => by have := hE a w hE' hS'; simpa using this) hk.2
      rwa [doneBy_snoc] at ih
theorem wp_region_two {id : Nat} {a : Act} {w : World} {l : List Oper} (S : World → Prop) (st : List (Nat × Nat)) (i j : Nat) (hm : P.follows .mixedOrders = true)
    (hB : (Region.noSelect l.toArray && (thenB l.toArray [] st && (decide (Region.ready .any l.toArray (doneBy l.toArray.size (st.map (·.2))) = [i, j]) && (decide (Region.ready .any l.toArray (doneBy l.toArray.size (st.map (·.2) ++ [i])) = [j]) && (decide (Region.ready .any l.toArray (doneBy l.toArray.size (st.map (·.2) ++ [j])) = [i]) && (decide (Region.ready .any l.toArray (doneBy l.toArray.size (st.map (·.2) ++ [i] ++ [j])) = []) && decide (Region.ready .any l.toArray (doneBy l.toArray.size (st.map (·.2) ++ [j] ++ [i])) = []))))))) = true)
    (hlen : l.length = 2 + st.length) (so : List (Nat × Oper)) (oi oj : Oper) (hso : st.map (fun p => (p.1, l.toArray[p.2]?)) = so.map (fun p => (p.1, some p.2))) (hi : l.toArray[i]? = some oi) (hj : l.toArray[j]? = some oj)
    (hQ : ∀ c a d v w, Q (.panic c) (Act.put a d v) w → Q (.panic c) a w) (hS : S w.drew)
    (h : ∀ ops : Array Oper, wpThen P ops S Q (fun a' w' => wpList P ops (Exit.then (fun a1 w1 => S w1 ∧ wpList P ops (Exit.then (fun a2 w2 => S w2 ∧ Q .normal a2 w2) Q) [oj] a1 w1) Q) [oi] a' w' ∧ wpList P ops (Exit.then (fun a1 w1 => S w1 ∧ wpList P ops (Exit.then (fun a2 w2 => S w2 ∧ Q .normal a2 w2) Q) [oi] a1 w1) Q) [oj] a' w') so a w.drew) : (Code.region id l.toArray true).wp P Q a w := by
  simp only [Bool.and_eq_true, decide_eq_true_eq] at hB
  obtain ⟨hs, hh, r0, ri, rj, rij, rji⟩ := hB
  have key := then_any (P := P) (Q := Q) (S := S) (ops := l.toArray) 2 hs hQ st so [] a w.drew hS hso hh ?_ (h l.toArray)
  · refine wp_region_any hm (wpAny_of_late (S := S) (late := []) _ _ _ _ ?_)
    have e : l.toArray.size = 2 + st.length := by simp [hlen]
    rw [← e] at key; simpa [doneBy] using key
  · intro a' w' hE hS'
    have step : ∀ (x y : Nat) (ox oy : Oper), l.toArray[x]? = some ox → l.toArray[y]? = some oy → Region.ready .any l.toArray (doneBy l.toArray.size (st.map (·.2) ++ [x])) = [y] → Region.ready .any l.toArray (doneBy l.toArray.size (st.map (·.2) ++ [x] ++ [y])) = [] →
        wpList P l.toArray (Exit.then (fun a1 w1 => S w1 ∧ wpList P l.toArray (Exit.then (fun a2 w2 => S w2 ∧ Q .normal a2 w2) Q) [oy] a1 w1) Q) [ox] a' w' → wpOp P l.toArray Q x (fun a1 w1 => (x ∉ ([] : List Nat) → S w1) ∧ wpAnyL P l.toArray Q S [] 1 ((doneBy l.toArray.size ([] ++ st.map (·.2))).setIfInBounds x true) a1 w1) a' w' := by
      intro x y ox oy hx hy h1 h2 hw
      refine wpOp_mono (fun a1 w1 hk => ⟨fun _ => hk.1, ?_⟩) (op_then hx hw)
      have e1 : (doneBy l.toArray.size ([] ++ st.map (·.2))).setIfInBounds x true = doneBy l.toArray.size (st.map (·.2) ++ [x]) := by rw [doneBy_snoc]; rfl
      rw [e1]
      refine ⟨fun h0 => (by rw [h1] at h0; cases h0), fun z hz => ?_⟩
      rw [h1] at hz
      simp only [List.mem_singleton] at hz
      subst hz
      refine wpOp_mono (fun a2 w2 hk2 => ⟨fun _ => hk2.1, ?_⟩) (op_then hy hk.2)
      have e2 : (doneBy l.toArray.size (st.map (·.2) ++ [x])).setIfInBounds z true = doneBy l.toArray.size (st.map (·.2) ++ [x] ++ [z]) := (doneBy_snoc _ _ _).symm
      rw [e2]
      exact ⟨h2, hk2.2⟩
    refine ⟨fun h0 => ?_, fun z hz => ?_⟩
    · simp only [List.nil_append] at h0; rw [r0] at h0; cases h0
    · simp only [List.nil_append] at hz
      rw [r0] at hz
      simp only [List.mem_cons, List.not_mem_nil, or_false] at hz
      rcases hz with rfl | rfl
      · exact step _ j oi oj hi hj ri rij hE.1
      · exact step _ i oj oi hj hi rj rji hE.2
end
end Go.Proofs.YthfacjlghcdndaaGreatDoor

namespace Go.Proofs.YthfacjlghcdndaaGreatDoor
open Go.RowKit
theorem doneBy_size (m : Nat) : ∀ (l : List Nat), (doneBy m l).size = m := by
  have key : ∀ (l : List Nat) (d : Array Bool), (l.foldl (fun d i => d.setIfInBounds i true) d).size = d.size := by
    intro l
    induction l with
    | nil => intro d; rfl
    | cons i l ih => intro d; rw [List.foldl_cons, ih]; simp
  intro l
  unfold doneBy
  rw [key]; simp
def thenLB (ops : Array Oper) (late : List Nat) : List Nat → List (Nat × Nat) → Bool
  | _, [] => true
  | pre, (0, i) :: l => Region.free .any ops (doneBy ops.size pre) i && ((Region.ready .any ops (doneBy ops.size pre)).contains i && (late.all (fun k => waitsFor ops k i) && thenLB ops late (pre ++ [i]) l))
  | pre, (_ + 1, i) :: l => decide (Region.ready .any ops (doneBy ops.size pre) = [i]) && thenLB ops late (pre ++ [i]) l
section
variable {P : Program} {ops : Array Oper} {Q : Exit → Act → World → Prop} {S S' : World → Prop} {E : Act → World → Prop} {late : List Nat}
theorem wpAnyL_switch : ∀ (fuel : Nat) (listed : Array Bool) (a : Act) (w : World), (∀ i, listed.getD i true = false → i ∈ late) → wpAnyL P ops Q S' [] fuel listed a w → wpAnyL P ops Q S late fuel listed a w
  | 0, _, _, _, _, h => h
  | fuel + 1, listed, a, w, hl, h => ⟨h.1, fun i hi => wpOp_mono (fun a' w' h' => ⟨fun hn => absurd (hl i (mem_ready.1 hi).1) hn, wpAnyL_switch fuel _ a' w' (fun k hk => hl k (by
      by_cases hik : i = k
      · subst hik; exact (mem_ready.1 hi).1
      · rw [getD_set_ne true hik] at hk; exact hk)) h'.2⟩) (h.2 i hi)⟩
theorem thenL_any (f : Nat) (hs : Region.noSelect ops = true) (hQ : ∀ c a d v w, Q (.panic c) (Act.put a d v) w → Q (.panic c) a w) :
    ∀ (st : List (Nat × Nat)) (so : List (Nat × Oper)) (pre : List Nat) (a : Act) (w : World), S w → st.map (fun p => (p.1, ops[p.2]?)) = so.map (fun p => (p.1, some p.2)) → thenLB ops late pre st = true →
    (∀ a w, E a w → S w → wpAnyL P ops Q S late f (doneBy ops.size (pre ++ st.map (·.2))) a w) →
    wpThen P ops S Q E so a w → wpAnyL P ops Q S late (f + st.length) (doneBy ops.size pre) a w
  | [], so, pre, a, w, hS, hso, hB, hE, h => by
    have : so = [] := by cases so with | nil => rfl | cons o so => simp at hso
    subst this
    have := hE a w h.2 h.1
    simpa using this
  | (0, i) :: st, so, pre, a, w, hS, hso, hB, hE, h => by
    cases so with
    | nil => simp at hso
    | cons p so =>
      obtain ⟨c, o⟩ := p
      simp only [List.map_cons, List.cons.injEq, Prod.mk.injEq] at hso
      obtain ⟨⟨rfl, ho⟩, hso⟩ := hso
      simp only [thenLB, Bool.and_eq_true, List.all_eq_true] at hB
      obtain ⟨v, h1, h2⟩ := h
      have ih := thenL_any f hs hQ st so (pre ++ [i]) (a.put o.dst v) w hS hso hB.2.2.2 (fun a w hE' hS' => by have := hE a w hE' hS'; simpa using this) h2
      rw [doneBy_snoc] at ih
      have := wpAnyL_first ho (Region.noSelect_spec hs) (fun c a w h => hQ c a _ _ w h) hB.2.2.1 (f + st.length) _ a w (Region.free_spec ho hB.1) (by simpa using hB.2.1) h1 hS ih
      simpa [Nat.add_assoc] using this
  | (k + 1, i) :: st, so, pre, a, w, hS, hso, hB, hE, h => by
    cases so with
    | nil => simp at hso
    | cons p so =>
      obtain ⟨c, o⟩ := p
      simp only [List.map_cons, List.cons.injEq, Prod.mk.injEq] at hso
      obtain ⟨⟨rfl, ho⟩, hso⟩ := hso
      simp only [thenLB, Bool.and_eq_true, decide_eq_true_eq] at hB
      rw [List.length_cons, ← Nat.add_assoc]
      refine ⟨fun h0 => (by rw [hB.1] at h0; cases h0), fun x hx => ?_⟩
      rw [hB.1] at hx
      simp only [List.mem_singleton] at hx
      subst hx
      refine wpOp_mono (fun a1 w1 hk => ⟨fun _ => hk.1, ?_⟩) (op_then ho h)
      have ih := thenL_any f hs hQ st so (pre ++ [x]) a1 w1 hk.1 hso hB.2 (fun a w hE' hS' => by have := hE a w hE' hS'; simpa using this) hk.2
      rwa [doneBy_snoc] at ih
theorem wp_region_two_phase {id : Nat} {a : Act} {w : World} {l : List Oper} (S : World → Prop) (late : List Nat) (st st2 : List (Nat × Nat)) (i j : Nat) (hm : P.follows .mixedOrders = true)
    (hB : (Region.noSelect l.toArray && (thenLB l.toArray late [] st && (((List.range l.length).all fun k => (doneBy l.toArray.size (st.map (·.2))).getD k true || late.contains k) && (thenB l.toArray (st.map (·.2)) st2 && (decide (Region.ready .any l.toArray (doneBy l.toArray.size (st.map (·.2) ++ st2.map (·.2))) = [i, j]) && (decide (Region.ready .any l.toArray (doneBy l.toArray.size (st.map (·.2) ++ st2.map (·.2) ++ [i])) = [j]) && (decide (Region.ready .any l.toArray (doneBy l.toArray.size (st.map (·.2) ++ st2.map (·.2) ++ [j])) = [i]) && (decide (Region.ready .any l.toArray (doneBy l.toArray.size (st.map (·.2) ++ st2.map (·.2) ++ [i] ++ [j])) = []) && decide (Region.ready .any l.toArray (doneBy l.toArray.size (st.map (·.2) ++ st2.map (·.2) ++ [j] ++ [i])) = []))))))))) = true)
    (hlen : l.length = 2 + st2.length + st.length) (so so2 : List (Nat × Oper)) (oi oj : Oper) (hso : st.map (fun p => (p.1, l.toArray[p.2]?)) = so.map (fun p => (p.1, some p.2))) (hso2 : st2.map (fun p => (p.1, l.toArray[p.2]?)) = so2.map (fun p => (p.1, some p.2))) (hi : l.toArray[i]? = some oi) (hj : l.toArray[j]? = some oj)
    (hQ : ∀ c a d v w, Q (.panic c) (Act.put a d v) w → Q (.panic c) a w) (hS : S w.drew)
    (h : ∀ ops : Array Oper, wpThen P ops S Q (wpThen P ops (fun _ => True) Q (fun a' w' => wpList P ops (Exit.then (fun a1 w1 => wpList P ops (Exit.then (fun a2 w2 => Q .normal a2 w2) Q) [oj] a1 w1) Q) [oi] a' w' ∧ wpList P ops (Exit.then (fun a1 w1 => wpList P ops (Exit.then (fun a2 w2 => Q .normal a2 w2) Q) [oi] a1 w1) Q) [oj] a' w') so2) so a w.drew) : (Code.region id l.toArray true).wp P Q a w := by
  simp only [Bool.and_eq_true, decide_eq_true_eq] at hB
  obtain ⟨hs, hh, hcov, hh2, r0, ri, rj, rij, rji⟩ := hB
  have key := thenL_any (P := P) (Q := Q) (S := S) (late := late) (ops := l.toArray) (2 + st2.length) hs hQ st so [] a w.drew hS hso hh ?_ (h l.toArray)
  · refine wp_region_any hm (wpAny_of_late (S := S) (late := late) _ _ _ _ ?_)
    have e : l.toArray.size = 2 + st2.length + st.length := by simp [hlen]
    rw [← e] at key; simpa [doneBy] using key
  · intro a0 w0 hE0 _
    refine wpAnyL_switch (S' := fun _ => True) _ _ _ _ (fun k hk => ?_) ?_
    · simp only [List.nil_append] at hk
      by_cases hkl : k < l.length
      · have := List.all_eq_true.1 hcov k (List.mem_range.2 hkl)
        rw [hk, Bool.false_or] at this
        simpa using this
      · have hsz : (doneBy l.toArray.size (st.map (·.2))).size ≤ k := by rw [doneBy_size]; simp; omega
        rw [Array.getD_eq_getD_getElem?, Array.getElem?_eq_none hsz] at hk
        cases hk
    refine then_any (S := fun _ => True) 2 hs hQ st2 so2 ([] ++ st.map (·.2)) a0 w0 trivial hso2 (by simpa using hh2) ?_ hE0
    intro a' w' hE _
    have step : ∀ (x y : Nat) (ox oy : Oper), l.toArray[x]? = some ox → l.toArray[y]? = some oy → Region.ready .any l.toArray (doneBy l.toArray.size (st.map (·.2) ++ st2.map (·.2) ++ [x])) = [y] → Region.ready .any l.toArray (doneBy l.toArray.size (st.map (·.2) ++ st2.map (·.2) ++ [x] ++ [y])) = [] →
        wpList P l.toArray (Exit.then (fun a1 w1 => wpList P l.toArray (Exit.then (fun a2 w2 => Q .normal a2 w2) Q) [oy] a1 w1) Q) [ox] a' w' → wpOp P l.toArray Q x (fun a1 w1 => (x ∉ ([] : List Nat) → True) ∧ wpAnyL P l.toArray Q (fun _ => True) [] 1 ((doneBy l.toArray.size ([] ++ st.map (·.2) ++ st2.map (·.2))).setIfInBounds x true) a1 w1) a' w' := by
      intro x y ox oy hx hy h1 h2 hw
      refine wpOp_mono (fun a1 w1 hk => ⟨fun _ => trivial, ?_⟩) (op_then hx hw)
      have e1 : (doneBy l.toArray.size ([] ++ st.map (·.2) ++ st2.map (·.2))).setIfInBounds x true = doneBy l.toArray.size (st.map (·.2) ++ st2.map (·.2) ++ [x]) := by rw [doneBy_snoc]; rfl
      rw [e1]
      refine ⟨fun h0 => (by rw [h1] at h0; cases h0), fun z hz => ?_⟩
      rw [h1] at hz
      simp only [List.mem_singleton] at hz
      subst hz
      refine wpOp_mono (fun a2 w2 hk2 => ⟨fun _ => trivial, ?_⟩) (op_then hy hk)
      have e2 : (doneBy l.toArray.size (st.map (·.2) ++ st2.map (·.2) ++ [x])).setIfInBounds z true = doneBy l.toArray.size (st.map (·.2) ++ st2.map (·.2) ++ [x] ++ [z]) := (doneBy_snoc _ _ _).symm
      rw [e2]
      exact ⟨h2, hk2⟩
    refine ⟨fun h0 => ?_, fun z hz => ?_⟩
    · simp only [List.nil_append] at h0; rw [r0] at h0; cases h0
    · simp only [List.nil_append] at hz
      rw [r0] at hz
      simp only [List.mem_cons, List.not_mem_nil, or_false] at hz
      rcases hz with rfl | rfl
      · exact step _ j oi oj hi hj ri rij hE.1
      · exact step _ i oj oi hj hi rj rji hE.2
end
end Go.Proofs.YthfacjlghcdndaaGreatDoor
