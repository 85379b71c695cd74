/- Texts CeHeld CeSteps Pri Prj. -/
import Derived.Test.YthfacjlghcdndaaGreatDoorM09
set_option linter.unusedSimpArgs false
set_option linter.unusedVariables false
namespace Go.Proofs.YthfacjlghcdndaaGreatDoor
open Go.RowKit

def wpHeldG (P : Program) (ops : Array Oper) (S : World → Prop) (L : Act → Prop) : List Oper → Act → Prop
  | [], a => L a
  | o :: l, a => ∃ v, YieldsIf P ops S o v a ∧ wpHeldG P ops S L l (a.put o.dst v)
section
variable {P : Program} {Q : Exit → Act → World → Prop} {S : World → Prop}
theorem heldG_plain {ops : Array Oper} {L : Act → Prop} {o : Oper} {l : List Oper} {a : Act} (hg : o.guard = none)
    (h : ∀ K : Act → Prop, (∀ a', wpHeldG P ops S L l a' → K a') → ∃ v, (∀ w, S w → (execOp a.eval o).run P w = .ok (.value v) w) ∧ K (a.put o.dst v)) : wpHeldG P ops S L (o :: l) a := by
  obtain ⟨v, h1, h2⟩ := h (wpHeldG P ops S L l) (fun _ h => h)
  exact ⟨v, .inl ⟨by simp [Region.wanted, hg], h1⟩, h2⟩
theorem heldG_go {ops : Array Oper} {L : Act → Prop} {o : Oper} {l : List Oper} {a : Act} {j : Nat} {b : Bool} (hg : o.guard = some (j, b)) (hy : yielded ops a.tmps j = some b)
    (h : ∀ K : Act → Prop, (∀ a', wpHeldG P ops S L l a' → K a') → ∃ v, (∀ w, S w → (execOp a.eval o).run P w = .ok (.value v) w) ∧ K (a.put o.dst v)) : wpHeldG P ops S L (o :: l) a := by
  obtain ⟨v, h1, h2⟩ := h (wpHeldG P ops S L l) (fun _ h => h)
  exact ⟨v, .inl ⟨by simp [Region.wanted, hg, hy], h1⟩, h2⟩
theorem heldG_skip {ops : Array Oper} {L : Act → Prop} {o : Oper} {l : List Oper} {a : Act} {j : Nat} {b c : Bool} (hg : o.guard = some (j, b)) (hy : yielded ops a.tmps j = some c) (hne : (some c == some b) = false)
    (h : wpHeldG P ops S L l (a.put o.dst undef)) : wpHeldG P ops S L (o :: l) a :=
  ⟨undef, .inr ⟨by simpa [Region.wanted, hg, hy] using hne, rfl⟩, h⟩
theorem heldG_nil {ops : Array Oper} {L : Act → Prop} {a : Act} (h : L a) : wpHeldG P ops S L [] a := h
theorem heldG_mono {ops : Array Oper} {L L' : Act → Prop} (hL : ∀ a, L a → L' a) : ∀ (l : List Oper) (a : Act), wpHeldG P ops S L l a → wpHeldG P ops S L' l a
  | [], a, h => hL a h
  | o :: l, a, ⟨v, h1, h2⟩ => ⟨v, h1, heldG_mono hL l _ h2⟩
theorem heldG_heads {ops : Array Oper} {f : Nat} {w : World} (hs : Region.noSelect ops = true) (hQ : ∀ c a d v w, Q (.panic c) (Act.put a d v) w → Q (.panic c) a w) (hS : S w) :
    ∀ (σ : List Nat) (so : List Oper) (pre : List Nat) (a : Act), σ.map (fun i => ops[i]?) = so.map some → headsB ops pre σ = true →
    wpHeldG P ops S (fun a' => wpAnyH P .any ops Q S f (doneBy ops.size (pre ++ σ)) a' w) so a → wpAnyH P .any ops Q S (f + σ.length) (doneBy ops.size pre) a w
  | [], so, pre, a, hso, _, h => by
    have : so = [] := by cases so with | nil => rfl | cons o so => simp at hso
    subst this; simp only [List.append_nil] at h; exact h
  | i :: σ, so, pre, a, hso, hB, h => by
    cases so with
    | nil => simp at hso
    | cons o so =>
      simp only [List.map_cons, List.cons.injEq] at hso
      simp only [headsB, Bool.and_eq_true] at hB
      obtain ⟨v, h1, h2⟩ := h
      have ih := heldG_heads (f := f) (w := w) hs hQ hS σ so (pre ++ [i]) (a.put o.dst v) hso.2 hB.2.2 (by simpa using h2)
      rw [doneBy_snoc] at ih
      have := wpAnyH_take (fuel := f + σ.length) hso.1 hs hB.1 hB.2.1 (fun c a w h => hQ c a _ _ w h) h1 hS ih
      simpa [Nat.add_assoc] using this
theorem wp_region_heldG {id : Nat} {a : Act} {w : World} {l : List Oper} (S : World → Prop) (σ : List Nat) (t1 t2 : Nat) (G : List (Nat × Nat)) (hm : P.follows .mixedOrders = true)
    (hB : (Region.noSelect l.toArray && (headsB l.toArray [] σ && (decide (Region.ready .any l.toArray (doneBy l.toArray.size σ) = [t1]) && (decide (Region.ready .any l.toArray (doneBy l.toArray.size (σ ++ [t1])) = [t2]) && (decide (Region.ready .any l.toArray (doneBy l.toArray.size (σ ++ [t1] ++ [t2])) = []) && G.all (fun p => decide (((l.toArray[p.1]?).bind fun x => x.dst) = some p.2))))))) = true)
    (hlen : l.length = 2 + σ.length) (so : List Oper) (o1 o2 : Oper) (hso : σ.map (fun i => l.toArray[i]?) = so.map some) (h1 : l.toArray[t1]? = some o1) (h2 : l.toArray[t2]? = some o2)
    (hQ : ∀ c a d v w, Q (.panic c) (Act.put a d v) w → Q (.panic c) a w) (hS : S w.drew)
    (h : ∀ ops : Array Oper, (∀ p ∈ G, ((ops[p.1]?).bind fun x => x.dst) = some p.2) → wpHeldG P ops S (fun a' => wpList P ops (Exit.then (fun a1 w1 => S w1 ∧ wpList P ops (Exit.then (fun a2 w2 => S w2 ∧ Q .normal a2 w2) Q) [o2] a1 w1) Q) [o1] a' w.drew) so a) : (Code.region id l.toArray true).wp P Q a w := by
  simp only [Bool.and_eq_true, decide_eq_true_eq, List.all_eq_true] at hB
  obtain ⟨hs, hh, r1, r2, r3, hG⟩ := hB
  refine wp_region_held (S := S) hm ?_
  have key := heldG_heads (P := P) (Q := Q) (S := S) (ops := l.toArray) (f := 2) (w := w.drew) hs hQ hS σ so [] a hso hh ?_
  · have e : l.toArray.size = 2 + σ.length := by simp [hlen]
    rw [← e] at key; simpa [doneBy] using key
  · refine heldG_mono (fun a' h' => ?_) _ _ (h l.toArray hG)
    refine wpAnyH_all (rs := [t1]) (by simpa using r1) (by simp) (fun x hx => ?_)
    simp only [List.mem_singleton] at hx
    subst hx
    refine wpOp_mono (fun a1 w1 hk => ⟨hk.1, ?_⟩) (op_then h1 h')
    have e : (doneBy l.toArray.size ([] ++ σ)).setIfInBounds x true = doneBy l.toArray.size (σ ++ [x]) := by rw [doneBy_snoc]; rfl
    rw [e]
    refine wpAnyH_all (rs := [t2]) r2 (by simp) (fun y hy => ?_)
    simp only [List.mem_singleton] at hy
    subst hy
    refine wpOp_mono (fun a2 w2 hk2 => ⟨hk2.1, ?_⟩) (op_then h2 hk.2)
    have e2 : (doneBy l.toArray.size (σ ++ [x])).setIfInBounds y true = doneBy l.toArray.size (σ ++ [x] ++ [y]) := (doneBy_snoc _ _ _).symm
    rw [e2]
    exact wpAnyH_done r3 hk2.2 0
end
end Go.Proofs.YthfacjlghcdndaaGreatDoor

namespace Go.Proofs.YthfacjlghcdndaaGreatDoor
open Go.RowKit

def wpSteps (P : Program) (ops : Array Oper) (S : World → Prop) (Q : Exit → Act → World → Prop) : List (Bool × Oper) → Act → World → Prop
  | [], a, w => Q .normal a w
  | (true, o) :: l, a, w => ∃ v, YieldsIf P ops S o v a ∧ wpSteps P ops S Q l (a.put o.dst v) w
  | (false, o) :: l, a, w => wpList P ops (Exit.then (fun a1 w1 => S w1 ∧ wpSteps P ops S Q l a1 w1) Q) [o] a w
def stepsB (ops : Array Oper) : List Nat → List (Bool × Nat) → Bool
  | pre, [] => decide (Region.ready .any ops (doneBy ops.size pre) = [])
  | pre, (true, i) :: l => Region.free .any ops (doneBy ops.size pre) i && ((Region.ready .any ops (doneBy ops.size pre)).contains i && stepsB ops (pre ++ [i]) l)
  | pre, (false, i) :: l => decide (Region.ready .any ops (doneBy ops.size pre) = [i]) && stepsB ops (pre ++ [i]) l
section
variable {P : Program} {Q : Exit → Act → World → Prop} {S : World → Prop}
theorem steps_read {ops : Array Oper} {o : Oper} {l : List (Bool × Oper)} {a : Act} {w : World} (hg : o.guard = none)
    (h : ∀ K : Act → Prop, (∀ a', wpSteps P ops S Q l a' w → K a') → ∃ v, (∀ w, S w → (execOp a.eval o).run P w = .ok (.value v) w) ∧ K (a.put o.dst v)) : wpSteps P ops S Q ((true, o) :: l) a w := by
  obtain ⟨v, h1, h2⟩ := h (fun a' => wpSteps P ops S Q l a' w) (fun _ h => h)
  exact ⟨v, .inl ⟨by simp [Region.wanted, hg], h1⟩, h2⟩
theorem steps_do {ops : Array Oper} {o : Oper} {l : List (Bool × Oper)} {a : Act} {w : World} (h : wpList P ops (Exit.then (fun a1 w1 => S w1 ∧ wpSteps P ops S Q l a1 w1) Q) [o] a w) : wpSteps P ops S Q ((false, o) :: l) a w := h
theorem steps_end {ops : Array Oper} {a : Act} {w : World} (h : Q .normal a w) : wpSteps P ops S Q [] a w := h
theorem steps_any {ops : Array Oper} (hs : Region.noSelect ops = true) (hQ : ∀ c a d v w, Q (.panic c) (Act.put a d v) w → Q (.panic c) a w) :
    ∀ (st : List (Bool × Nat)) (so : List (Bool × Oper)) (pre : List Nat) (a : Act) (w : World), S w → st.map (fun p => (p.1, ops[p.2]?)) = so.map (fun p => (p.1, some p.2)) → stepsB ops pre st = true →
    wpSteps P ops S Q so a w → wpAnyH P .any ops Q S st.length (doneBy ops.size pre) a w
  | [], so, pre, a, w, hS, hso, hB, h => by
    have : so = [] := by cases so with | nil => rfl | cons o so => simp at hso
    subst this
    simp only [stepsB, decide_eq_true_eq] at hB
    exact wpAnyH_done hB h 0
  | (true, i) :: st, so, pre, a, w, hS, hso, hB, h => by
    cases so with
    | nil => simp at hso
    | cons p so =>
      obtain ⟨c, o⟩ := p
      simp only [List.map_cons, List.cons.injEq, Prod.mk.injEq] at hso
      obtain ⟨⟨rfl, ho⟩, hso⟩ := hso
      simp only [stepsB, Bool.and_eq_true] at hB
      obtain ⟨v, h1, h2⟩ := h
      have ih := steps_any hs hQ st so (pre ++ [i]) (a.put o.dst v) w hS hso hB.2.2 h2
      rw [doneBy_snoc] at ih
      exact wpAnyH_take (fuel := st.length) ho hs hB.1 hB.2.1 (fun c a w h => hQ c a _ _ w h) h1 hS ih
  | (false, i) :: st, so, pre, a, w, hS, hso, hB, h => by
    cases so with
    | nil => simp at hso
    | cons p so =>
      obtain ⟨c, o⟩ := p
      simp only [List.map_cons, List.cons.injEq, Prod.mk.injEq] at hso
      obtain ⟨⟨rfl, ho⟩, hso⟩ := hso
      simp only [stepsB, Bool.and_eq_true, decide_eq_true_eq] at hB
      refine wpAnyH_all (rs := [i]) hB.1 (by simp) (fun x hx => ?_)
      simp only [List.mem_singleton] at hx
      subst hx
      refine wpOp_mono (fun a1 w1 hk => ⟨hk.1, ?_⟩) (op_then ho h)
      have ih := steps_any hs hQ st so (pre ++ [x]) a1 w1 hk.1 hso hB.2 hk.2
      rwa [doneBy_snoc] at ih
theorem wp_region_steps {id : Nat} {a : Act} {w : World} {l : List Oper} (S : World → Prop) (st : List (Bool × Nat)) (hm : P.follows .mixedOrders = true)
    (hB : (Region.noSelect l.toArray && stepsB l.toArray [] st) = true) (hlen : l.length = st.length) (so : List (Bool × Oper)) (hso : st.map (fun p => (p.1, l.toArray[p.2]?)) = so.map (fun p => (p.1, some p.2)))
    (hQ : ∀ c a d v w, Q (.panic c) (Act.put a d v) w → Q (.panic c) a w) (hS : S w.drew) (h : ∀ ops : Array Oper, wpSteps P ops S Q so a w.drew) : (Code.region id l.toArray true).wp P Q a w := by
  simp only [Bool.and_eq_true] at hB
  refine wp_region_held (S := S) hm ?_
  have key := steps_any (P := P) (Q := Q) (S := S) hB.1 hQ st so [] a w.drew hS hso hB.2 (h l.toArray)
  have e : l.toArray.size = st.length := by simp [hlen]
  rw [← e] at key
  simpa [doneBy] using key
theorem wpList_unguard {ops : Array Oper} {a : Act} {w : World} {rest : List Oper} {dst : Option Tmp} {op : Op} {ty : TypeId} {pos : String} {after : Array Edge} {guard : Option (Nat × Bool)}
    (hw : Region.wanted { dst := dst, op := op, type := ty, pos := pos, after := after, guard := guard } (yielded ops a.tmps) = true) (h : wpList P ops Q ({ dst := dst, op := op, type := ty, pos := pos, after := after, guard := none } :: rest) a w) :
    wpList P ops Q ({ dst := dst, op := op, type := ty, pos := pos, after := after, guard := guard } :: rest) a w := by
  unfold wpList at h ⊢
  rw [if_pos hw]
  have hn : Region.wanted { dst := dst, op := op, type := ty, pos := pos, after := after, guard := none } (yielded ops a.tmps) = true := by simp [Region.wanted]
  rw [if_pos hn] at h
  exact h
end
end Go.Proofs.YthfacjlghcdndaaGreatDoor

namespace Go.Proofs.YthfacjlghcdndaaGreatDoor
open Go.RowKit
section
variable {lo base R Pb lm vm cm : Nat} {w0 w : World} {r : Fl.RS} {line : Int} {m : PMem}
set_option maxRecDepth 100000 in
set_option maxHeartbeats 1000000 in
theorem level_any (h : PrAt lo base R Pb lm vm cm w0 w r line m) (hbg : r.begun = false) (B : Nat) (v : Value) (k x : List UInt8) (hB : B ≤ w.heap.size) (hw : WordsAt B w v [x]) (hfr : ∀ b, v.ownBlock = some b → base ≤ b) :
    Calls Tryz.prog 59 #[.pointer (some ⟨R, 0, none⟩), v] w (MEnds lo base R Pb lm vm cm w0 line (r.head [k, x])) := by
  obtain ⟨b, off, cap, rfl, hcap, hcm, hbB, hxs, hcell⟩ := hw.one (by simp)
  have hx : x.length ≤ 100000 := hxs x (by simp)
  have hbb : base ≤ b := hfr b rfl
  have hc0 : w.cell? ⟨b, off, none⟩ = some (.string ⟨x.toArray⟩) := hcell 0 (by simp)
  have c40 : w.cell? ⟨R, 40, none⟩ = some (.map (some lm)) := h.cR.c 40 (by omega)
  have hll := h.ok.lv
  obtain ⟨mx, tb, hlk, htb, -⟩ := h.drew.nl.look2 x hx
  obtain ⟨res, hres⟩ : ∃ res, res = r.head [k, x] := ⟨_, rfl⟩
  rw [← hres]
  have HRES : Hid (res = if 0 ≤ Fl.place r.levels x then (4, r) else if r.levels.length = 6 then (5, r) else (0, { r with levels := r.levels ++ [x] })) := by show _ = _; rw [hres]; rfl
  have HH : Hid (PrAt lo base R Pb lm vm cm w0 w r line m) := h
  have HTB : Hid (tb = decide (0 ≤ Fl.place r.levels x)) := htb
  simp only [List.length_cons, List.length_nil, Nat.zero_add] at hcap ⊢
  clear h hw hxs hcell hres htb hfr
  go_enter Tryz.func59, Tryz.ntmps59
  go_wp2_with fail
  refine wp_region_still_lit (by kernel_rfl) (by kernel_rfl) ?_
  iterate 7 still_step
  refine still_value rfl (.tuple #[.int .i64 mx, .bool tb]) (exec_lookup _ _ 92 rfl (.map (some lm)) (.string ⟨x.toArray⟩) _ rfl rfl hlk) ?_
  iterate 5 still_step
  refine wpStill_nil ?_
  change Exit.then _ _ _ _ w.drew
  have HW : Hid (PrAt lo base R Pb lm vm cm w0 w.drew r line m) := HH.out.below (Below.refl _ _).drew
  have hc0' : w.drew.cell? ⟨b, off, none⟩ = some (.string ⟨x.toArray⟩) := hc0
  generalize w.drew = W at *
  clear HH hlk hc0 c40
  have hba := HW.out.hba
  have hlo := HW.out.hlo
  cases tb with
  | true =>
    have h0 : 0 ≤ Fl.place r.levels x := by have := HTB.out; simpa using this
    have HR : Hid (res = (4, r)) := by show _ = _; rw [HRES.out, if_pos h0]
    clear h0
    have HRB : Hid (Calls Tryz.prog 46 #[.pointer (some ⟨R, 0, none⟩), .bool false, .int .i64 4] W fun e w' => e = .panicked (stopAt 4 line) ∧ Below W.heap.size W w') := rneed_bad R 4 line W (HW.out.cR.c 1 (by omega))
    go_wp2_with fail
    refine HRB.out.mono ?_
    rintro e w' ⟨rfl, hb'⟩
    exact ⟨rfl, MEnds.bad HR.out (by decide) rfl (HW.out.gone hb')⟩
  | false =>
    have h0 : ¬ 0 ≤ Fl.place r.levels x := by have := HTB.out; simpa using this
    have HR : Hid (res = if r.levels.length = 6 then (5, r) else (0, { r with levels := r.levels ++ [x] })) := by show _ = _; rw [HRES.out, if_neg h0]
    have HNO : Hid (Fl.place r.levels x < 0) := by show _ < _; omega
    clear h0
    have c3 : W.cell? ⟨R, 3, none⟩ = some (.int .i64 r.levels.length) := HW.out.cR.c 3 (by omega)
    have HCT : Hid (Calls Tryz.prog 75 #[.pointer (some ⟨R, 3, none⟩)] W fun e w' => e = .returned (.int .i64 r.levels.length) ∧ w' = W) := count_any R 3 _ W c3
    have HOK : Hid (∀ n, Calls Tryz.prog 46 #[.pointer (some ⟨R, 0, none⟩), .bool true, .int .i64 n] W fun e w' => e = .returned (.tuple #[]) ∧ w' = W) := fun n => rneed_ok R n W
    go_wp2_with fail
    refine (HOK.out _).mono ?_
    rintro e w' ⟨rfl, hw'⟩
    rw [hw']
    clear hw'
    go_wp2_with fail
    refine HCT.out.mono ?_
    rintro e w' ⟨rfl, hw'⟩
    rw [hw']
    clear hw' HCT
    by_cases h6 : r.levels.length = 6
    · have HR2 : Hid (res = (5, r)) := by show _ = _; rw [HR.out, if_pos h6]
      have b6 : ¬ (r.levels.length : Int) < 6 := by omega
      have HRB : Hid (Calls Tryz.prog 46 #[.pointer (some ⟨R, 0, none⟩), .bool false, .int .i64 5] W fun e w' => e = .panicked (stopAt 5 line) ∧ Below W.heap.size W w') := rneed_bad R 5 line W (HW.out.cR.c 1 (by omega))
      go_wp2_with fail
      refine HRB.out.mono ?_
      rintro e w' ⟨rfl, hb'⟩
      exact ⟨rfl, MEnds.bad HR2.out (by decide) rfl (HW.out.gone hb')⟩
    · have HR2 : Hid (res = (0, { r with levels := r.levels ++ [x] })) := by show _ = _; rw [HR.out, if_neg h6]
      have b6 : (r.levels.length : Int) < 6 := by omega
      go_wp2_with fail
      refine (HOK.out _).mono ?_
      rintro e w' ⟨rfl, hw'⟩
      rw [hw']
      clear hw' HOK
      go_wp2_with fail
      have hl6 : r.levels.length < 6 := by omega
      have c40 : W.cell? ⟨R, 40, none⟩ = some (.map (some lm)) := HW.out.cR.c 40 (by omega)
      obtain ⟨W1, hW1⟩ : ∃ W1, W1 = (W.drew.setCell ⟨R, 3 + 1 + r.levels.length * 6 + r.levels.length, none⟩ (.bool true)).setCell ⟨R, 3, none⟩ (.int .i64 (r.levels.length + 1)) := ⟨_, rfl⟩
      have HAD : Hid (Calls Tryz.prog 76 #[.pointer (some ⟨R, 3, none⟩)] W.drew fun e w' => e = .returned (.int .i64 r.levels.length) ∧ w' = W1) := by
        have := add_any R 3 r.levels.length _ W.drew hl6 c3 HW.out.cR.z (HW.out.cR.c (3 + 1 + r.levels.length * 6 + r.levels.length) (by omega))
        rw [← hW1] at this; exact this
      have hnd := HW.out.nd
      have q1 : ∀ k, k ≠ R → W1.heap[k]? = W.heap[k]? := fun k hk => by rw [hW1, setCell_block _ _ _ _ _ hk, setCell_block _ _ _ _ _ hk]; rfl
      have k40 : W1.cell? ⟨R, 40, none⟩ = some (.map (some lm)) := by
        rw [hW1]
        refine (World.cell?_setCell_other _ _ _ _ (by intro hh; injection hh with _ h2; omega)).trans ((World.cell?_setCell_other _ _ _ _ (by intro hh; injection hh with _ h2; omega)).trans c40)
      have kb : W1.cell? ⟨b, off, none⟩ = some (.string ⟨x.toArray⟩) := by
        exact (World.cell?_of_block (a := ⟨b, off, none⟩) (q1 b (by omega))).trans hc0'
      obtain ⟨W2, hput, hnm, hgr⟩ := (HW.out.nl.block (q1 lm (by omega))).put x hx HNO.out (by omega)
      obtain ⟨m', hm'⟩ := HW.out.drew.level hbg x hl6 hW1 hgr hnm
      have j40 : W2.cell? ⟨R, 40, none⟩ = some (.map (some lm)) := hm'.cR.c 40 (by omega)
      have jb : W2.cell? ⟨b, off, none⟩ = some (.string ⟨x.toArray⟩) := by
        exact hgr.cell kb (by simp; omega)
      have HM : Hid (PrAt lo base R Pb lm vm cm w0 W2 { r with levels := r.levels ++ [x] } line m') := hm'
      clear hW1 q1 hnm hgr hm'
      refine wp_region_heldG (fun W => W.cell? ⟨R, 40, none⟩ = some (.map (some lm)) ∧ W.cell? ⟨b, off, none⟩ = some (.string ⟨x.toArray⟩)) [0, 1, 2, 3, 4, 5, 6, 7, 8, 9] 10 11 [] (by kernel_rfl) (by kernel_rfl) rfl [_, _, _, _, _, _, _, _, _, _] _ _ rfl rfl rfl (fun c a d v w h => by cases d <;> exact h) ⟨c40, hc0'⟩ (fun ops hG => ?_)
      clear hG
      repeat
        refine heldG_plain rfl (fun K hK => ?_)
        apply Exists.intro
        refine ⟨fun w' hw' => ?_, ?_⟩
        · obtain ⟨k0, k1⟩ := hw'
          go_simp
          try with_reducible rfl
        go_simp
        refine hK _ ?_
        clear hK K
      refine heldG_nil ?_
      go_wp2_with fail
      refine HAD.out.mono ?_
      rintro e w2 ⟨rfl, hw2⟩
      rw [hw2]
      clear hw2 HAD
      go_wp2_with fail
      refine ⟨⟨k40, kb⟩, ?_⟩
      go_wp2_with fail
      refine ⟨⟨j40, jb⟩, ?_⟩
      go_end0
      exact MEnds.good HR2.out rfl HM.out
end
end Go.Proofs.YthfacjlghcdndaaGreatDoor

namespace Go.Proofs.YthfacjlghcdndaaGreatDoor
open Go.RowKit
section
variable {lo base R Pb lm vm cm : Nat} {w0 w : World} {r : Fl.RS} {line : Int} {m : PMem}
theorem tab0_snoc (low high : List Nat) (a b : Nat) (h : low.length = high.length) (i j : Nat) : Fl.tab0 (low ++ [a]) (high ++ [b]) i j = (Fl.tab0 low high i j || (a == i && b == j)) := by
  unfold Fl.tab0
  rw [List.zip_append h]; simp [Bool.or_assoc]
theorem rd_same (Pb lm vm cm : Nat) (line : Int) (r r' : Fl.RS) (m m' : PMem) (j : Nat) (e1 : r'.begun = r.begun) (e2 : r'.levels.length = r.levels.length) (e3 : m'.ov = m.ov) (e4 : r'.stmts = r.stmts) (h : j < 45) (ht : ∀ a b, a < 6 → b < 6 → j = 4 + a * 6 + b → m'.t a b = m.t a b) : rdCell Pb lm vm cm line r' m' j = rdCell Pb lm vm cm line r m j := by
  unfold rdCell
  rw [e1, e2, e3, e4]
  by_cases hs : j = 0 ∨ j = 1 ∨ j = 2 ∨ j = 3 ∨ j = 40 ∨ j = 41 ∨ j = 42 ∨ j = 43 ∨ j = 44
  · rcases hs with rfl | rfl | rfl | rfl | rfl | rfl | rfl | rfl | rfl <;> rfl
  · rw [ht ((j - 4) / 6) ((j - 4) % 6) (by omega) (by omega) (by omega)]
theorem PrAt.pair (h : PrAt lo base R Pb lm vm cm w0 w r line m) (hb : r.begun = false) (i j : Nat) (hi : i < r.levels.length) (hj : j < r.levels.length) : PrAt lo base R Pb lm vm cm w0 (w.setCell ⟨R, 4 + i * 6 + j, none⟩ (.bool true)) { r with low := r.low ++ [i], high := r.high ++ [j] } line { m with t := fun a b => if a = i ∧ b = j then true else m.t a b } := by
  obtain ⟨b1, b2, b3, b4, b5, b6⟩ := h.hba
  obtain ⟨l1, l2, l3, l4, l5⟩ := h.hlo
  obtain ⟨n1, n2, n3, n4, n5, n6, n7, n8, n9, n10⟩ := h.nd
  have hl := h.ok.lv
  have hz : (w.setCell ⟨R, 4 + i * 6 + j, none⟩ (.bool true)).heap.size = w.heap.size := setCell_size _ _ _
  have q : ∀ b, b ≠ R → (w.setCell ⟨R, 4 + i * 6 + j, none⟩ (.bool true)).heap[b]? = w.heap[b]? := fun b hbR => setCell_block _ _ _ _ _ hbR
  have hc := h.cR.set (j := 4 + i * 6 + j) (by omega) (.bool true)
  refine { ok := ?ok, bel := h.bel.setCell l1 _, fx := fun b f1 f2 f3 f4 f5 f6 => (q b f2).trans (h.fx b f1 f2 f3 f4 f5 f6), hlo := h.hlo, hba := ⟨b1, b2, b3, b4, b5, by omega⟩, nd := h.nd, cR := ?cR, cP := h.cP.block (q _ (Ne.symm n1)), nl := h.nl.block (q _ (Ne.symm n2)), nv := h.nv.block (q _ (Ne.symm n3)), nc := h.nc.block (q _ (Ne.symm n4)), tab := ?tab, re := ?re }
  case ok =>
    exact { cn := h.ok.cn, lv := h.ok.lv, ce := h.ok.ce, ch := h.ok.ch, lo := h.ok.lo, st := h.ok.st, fr := h.ok.fr, cl := h.ok.cl, hl := h.ok.hl, pairs := by simp [h.ok.pairs], kinds := h.ok.kinds, head := h.ok.head, below := fun p hp => by
              rw [List.zip_append h.ok.pairs, List.mem_append] at hp
              rcases hp with hp | hp
              · exact h.ok.below p hp
              · simp at hp; subst hp; exact ⟨hi, hj⟩
            clv := h.ok.clv, chv := h.ok.chv, lat := fun hh => by rw [show ({ r with low := r.low ++ [i], high := r.high ++ [j] } : Fl.RS).begun = r.begun from rfl, hb] at hh; cases hh }
  case cR =>
    refine hc.congr fun k hk => ?_
    by_cases h4 : k = 4 + i * 6 + j
    · rw [if_pos h4, h4, rd_tab _ _ _ _ _ _ _ _ _ (by omega) (by omega)]; simp
    · rw [if_neg h4]
      exact (rd_same Pb lm vm cm line r { r with low := r.low ++ [i], high := r.high ++ [j] } m { m with t := fun a b => if a = i ∧ b = j then true else m.t a b } k rfl rfl rfl rfl hk (fun a b ha hb he => if_neg (by rintro ⟨rfl, rfl⟩; exact h4 he))).symm
  case tab =>
    intro a b ha hb'
    show (if a = i ∧ b = j then true else m.t a b) = _
    rw [tab0_snoc _ _ _ _ h.ok.pairs]
    by_cases hab : a = i ∧ b = j
    · rw [if_pos hab]; simp [hab.1, hab.2, hi]
    · rw [if_neg hab, h.tab a b ha hb']
      have : (i == a && j == b) = false := by simp; omega
      rw [this, Bool.or_false]
  case re =>
    have hr := h.re.kept (w' := w.setCell ⟨R, 4 + i * 6 + j, none⟩ (.bool true)) (by omega) (fun b hw => q b (by have := h.re.wh b hw; omega))
    exact { wh := hr.wh, oc := hr.oc, tc := hr.tc, oh := hr.oh, th := hr.th, pb := hr.pb, tb := hr.tb, fa := hr.fa, oo := hr.oo, to := hr.to, la := fun hh => by rw [show ({ r with low := r.low ++ [i], high := r.high ++ [j] } : Fl.RS).begun = r.begun from rfl, hb] at hh; cases hh }

set_option maxRecDepth 100000 in
set_option maxHeartbeats 1000000 in
theorem rbelow_any (h : PrAt lo base R Pb lm vm cm w0 w r line m) (hbg : r.begun = false) (B : Nat) (v : Value) (n l : List UInt8) (hB : B ≤ w.heap.size) (hw : WordsAt B w v [n, l]) (hfr : ∀ b, v.ownBlock = some b → base ≤ b) :
    Calls Tryz.prog 60 #[.pointer (some ⟨R, 0, none⟩), v] w (MEnds lo base R Pb lm vm cm w0 line (r.head [Fl.wBelow, n, l])) := by
  obtain ⟨b, off, cap, rfl, hcap, hcm, hbB, hxs, hcell⟩ := hw.one (by simp)
  have hbb : base ≤ b := hfr b rfl
  have hn : n.length ≤ 100000 := hxs n (by simp)
  have hl : l.length ≤ 100000 := hxs l (by simp)
  have hc0 : w.cell? ⟨b, off, none⟩ = some (.string ⟨n.toArray⟩) := hcell 0 (by simp)
  have hc1 : w.cell? ⟨b, off + 1, none⟩ = some (.string ⟨l.toArray⟩) := hcell 1 (by simp)
  obtain ⟨res, hres⟩ : ∃ res, res = r.head [Fl.wBelow, n, l] := ⟨_, rfl⟩
  rw [← hres]
  have HRES : Hid (res = if Fl.place r.levels n < 0 ∨ Fl.place r.levels l < 0 then (4, r) else (0, { r with low := r.low ++ [(Fl.place r.levels n).toNat], high := r.high ++ [(Fl.place r.levels l).toNat] })) := by
    show _ = _; rw [hres]; simp [Fl.RS.head]
  have HH : Hid (PrAt lo base R Pb lm vm cm w0 w r line m) := h
  have HLN : Hid (∀ W x, x.length ≤ 100000 → PrAt lo base R Pb lm vm cm w0 W r line m → Calls Tryz.prog 78 #[.pointer (some ⟨R, 0, none⟩), .string ⟨x.toArray⟩] W (LvEnds r.levels x line W)) := fun W x hx hW => levelNamed_any R lm line r.levels x W hx hW.nl (hW.cR.c 40 (by omega)) (hW.cR.c 1 (by omega))
  simp only [List.length_cons, List.length_nil, Nat.zero_add] at hcap ⊢
  clear h hw hxs hcell hres hfr
  go_enter Tryz.func60, Tryz.ntmps60
  go_wp2_with fail
  refine wp_region_steps (fun W => W.cell? ⟨b, off, none⟩ = some (.string ⟨n.toArray⟩) ∧ W.cell? ⟨b, off + 1, none⟩ = some (.string ⟨l.toArray⟩)) [(true, 0), (true, 1), (true, 2), (true, 3), (true, 4), (true, 5), (true, 6), (true, 8), (true, 9), (true, 10), (true, 11), (false, 7), (false, 12), (false, 13)] (by kernel_rfl) (by kernel_rfl) rfl [(_, _), (_, _), (_, _), (_, _), (_, _), (_, _), (_, _), (_, _), (_, _), (_, _), (_, _), (_, _), (_, _), (_, _)] rfl (fun c a d v w h => by cases d <;> exact h) ⟨hc0, hc1⟩ (fun ops => ?_)
  repeat
    refine steps_read rfl (fun K hK => ?_)
    apply Exists.intro
    refine ⟨fun w' hw' => ?_, ?_⟩
    · obtain ⟨k0, k1⟩ := hw'
      go_simp
      try with_reducible rfl
    go_simp
    refine hK _ ?_
    clear hK K
  refine steps_do ?_
  have HW : Hid (PrAt lo base R Pb lm vm cm w0 w.drew r line m) := HH.out.drew
  have hba := HW.out.hba
  have hlo := HW.out.hlo
  have hd0 : w.drew.cell? ⟨b, off, none⟩ = some (.string ⟨n.toArray⟩) := hc0
  have hd1 : w.drew.cell? ⟨b, off + 1, none⟩ = some (.string ⟨l.toArray⟩) := hc1
  generalize w.drew = W at *
  clear hc0 hc1 HH
  go_wp2_with fail
  refine (HLN.out W n hn HW.out).mono ?_
  rintro e W1 ⟨hb1, hok, hbad⟩
  have hB1 : Below W.heap.size W W1 := hb1
  have HW1 : Hid (PrAt lo base R Pb lm vm cm w0 W1 r line m) := HW.out.below hb1
  have hbz : b < W.heap.size := World.block_lt_of_cell? W _ hd0
  have e0 : W1.cell? ⟨b, off, none⟩ = some (.string ⟨n.toArray⟩) := (hb1.cell (p := ⟨b, off, none⟩) hbz).trans hd0
  have e1 : W1.cell? ⟨b, off + 1, none⟩ = some (.string ⟨l.toArray⟩) := (hb1.cell (p := ⟨b, off + 1, none⟩) hbz).trans hd1
  have HBN : Hid (Gone lo base R Pb lm vm cm w0 W1) := ⟨HW1.out.bel, HW1.out.fx⟩
  clear hd0 hd1 hb1 hB1
  obtain ⟨i, hi⟩ : ∃ i, i = Fl.place r.levels n := ⟨_, rfl⟩
  rw [← hi] at hok hbad
  by_cases hi0 : 0 ≤ i
  case neg =>
    obtain rfl := hbad (by omega)
    have HR : res = (4, r) := by rw [HRES.out, if_pos (.inl (by omega))]
    exact ⟨rfl, MEnds.bad HR (by decide) rfl HBN.out⟩
  obtain rfl := hok hi0
  have hil : i < r.levels.length := by
    rcases Fl.place_cases r.levels n with h | h
    · omega
    · omega
  have HI : Hid (i = Fl.place r.levels n) := hi
  clear hok hbad hi HBN
  go_wp2_with fail
  refine ⟨⟨e0, e1⟩, ?_⟩
  refine steps_do ?_
  go_wp2_with fail
  refine (HLN.out W1 l hl HW1.out).mono ?_
  rintro e W2 ⟨hb2, hok, hbad⟩
  have HW2 : Hid (PrAt lo base R Pb lm vm cm w0 W2 r line m) := HW1.out.below hb2
  have hbz1 : b < W1.heap.size := World.block_lt_of_cell? W1 _ e0
  have f0 : W2.cell? ⟨b, off, none⟩ = some (.string ⟨n.toArray⟩) := (hb2.cell (p := ⟨b, off, none⟩) hbz1).trans e0
  have f1 : W2.cell? ⟨b, off + 1, none⟩ = some (.string ⟨l.toArray⟩) := (hb2.cell (p := ⟨b, off + 1, none⟩) hbz1).trans e1
  clear e0 e1 hb2
  obtain ⟨j, hj⟩ : ∃ j, j = Fl.place r.levels l := ⟨_, rfl⟩
  rw [← hj] at hok hbad
  by_cases hj0 : 0 ≤ j
  case neg =>
    obtain rfl := hbad (by omega)
    have HR : res = (4, r) := by rw [HRES.out, if_pos (.inr (by omega))]
    exact ⟨rfl, MEnds.bad HR (by decide) rfl ⟨HW2.out.bel, HW2.out.fx⟩⟩
  obtain rfl := hok hj0
  have hjl : j < r.levels.length := by
    rcases Fl.place_cases r.levels l with h | h
    · omega
    · omega
  have HR : Hid (res = (0, { r with low := r.low ++ [i.toNat], high := r.high ++ [j.toNat] })) := by
    show _ = _
    rw [HRES.out, if_neg (by rw [← HI.out, ← hj]; omega), ← HI.out, ← hj]
  have hll := HW2.out.ok.lv
  have HP : Hid (∃ m', PrAt lo base R Pb lm vm cm w0 (W2.setCell ⟨R, 3 + 1 + i.toNat * 6 + j.toNat, none⟩ (.bool true)) { r with low := r.low ++ [i.toNat], high := r.high ++ [j.toNat] } line m') := ⟨_, HW2.out.pair hbg i.toNat j.toNat (by omega) (by omega)⟩
  have HBL : Hid (Calls Tryz.prog 77 #[.pointer (some ⟨R, 3, none⟩), .int .i64 i, .int .i64 j] W2 fun e w' => e = .returned (.tuple #[]) ∧ w' = W2.setCell ⟨R, 3 + 1 + i.toNat * 6 + j.toNat, none⟩ (.bool true)) := by
    have := obelow_any R 3 i.toNat j.toNat _ W2 (by omega) (by omega) HW2.out.cR.z (HW2.out.cR.c (3 + 1 + i.toNat * 6 + j.toNat) (by omega))
    rw [show ((i.toNat : Nat) : Int) = i by omega, show ((j.toNat : Nat) : Int) = j by omega] at this
    exact this
  have g0 : ∀ W, W = W2.setCell ⟨R, 3 + 1 + i.toNat * 6 + j.toNat, none⟩ (.bool true) → W.cell? ⟨b, off, none⟩ = some (.string ⟨n.toArray⟩) ∧ W.cell? ⟨b, off + 1, none⟩ = some (.string ⟨l.toArray⟩) := fun W hW => by
    have hq : W.heap[b]? = W2.heap[b]? := by rw [hW]; exact setCell_block _ _ _ _ _ (by omega)
    exact ⟨(World.cell?_of_block (a := ⟨b, off, none⟩) hq).trans f0, (World.cell?_of_block (a := ⟨b, off + 1, none⟩) hq).trans f1⟩
  have HG : Hid (∀ W, W = W2.setCell ⟨R, 3 + 1 + i.toNat * 6 + j.toNat, none⟩ (.bool true) → W.cell? ⟨b, off, none⟩ = some (.string ⟨n.toArray⟩) ∧ W.cell? ⟨b, off + 1, none⟩ = some (.string ⟨l.toArray⟩)) := g0
  clear hok hbad hj g0
  go_wp2_with fail
  refine ⟨⟨f0, f1⟩, ?_⟩
  refine steps_do ?_
  go_wp2_with fail
  refine HBL.out.mono ?_
  rintro e W3 ⟨rfl, hW3⟩
  have HG3 := HG.out W3 hW3
  have HP3 : Hid (∃ m', PrAt lo base R Pb lm vm cm w0 W3 { r with low := r.low ++ [i.toNat], high := r.high ++ [j.toNat] } line m') := by rw [hW3]; exact HP.out
  clear hW3 HP HG HBL
  go_wp2_with fail
  refine ⟨HG3, ?_⟩
  refine steps_end ?_
  go_end0
  obtain ⟨m', hm'⟩ := HP3.out
  exact MEnds.good HR.out rfl hm'
end
end Go.Proofs.YthfacjlghcdndaaGreatDoor
