/- Texts Reb Mca Mcb Mcc. -/
import Derived.Test.YthfacjlghcdndaaGreatDoorM21
import Derived.Laws.EntriesVeiled
set_option linter.unusedSimpArgs false
set_option linter.unusedVariables false
namespace Go.Proofs.YthfacjlghcdndaaGreatDoor
open Go.RowKit
structure FlS where
  tag : Nat
  s : Fl.Stmt
def fsCells (f : FlS) : List Value :=
  if f.tag = 0 then [.int .i64 f.s.kind, .int .i64 f.s.x, .int .i64 f.s.line, .int .i64 f.s.e.op, .bool f.s.e.a.var, .int .i64 f.s.e.a.v, .bool f.s.e.b.var, .int .i64 f.s.e.b.v, .slice none 0 0, .slice none 0 0]
  else [.int .i64 (if f.tag = 1 then -1 else -2), .int .i64 0, .int .i64 0, .int .i64 0, .bool false, .int .i64 0, .bool false, .int .i64 0, .slice none 0 0, .slice none 0 0]
def flatV (l : List FlS) : List Value := l.flatMap fsCells
def deepC (f : Fl.Frame) : Nat := if f.kind = 6 then 119 else if f.had then 101 else 105
def deepV (l : List Fl.Frame) : List Value := (l.map fun f => Value.int .u8 (deepC f : Nat)).reverse
structure RefOf (r : Fl.RS) (fl : List FlS) (t : Nat) (m : RMem) : Prop where
  r1 : m.n 1 = r.levels.length ∧ m.xs 1 = r.levels.map strV
  r2 : m.n 2 = r.cells.length ∧ m.xs 2 = r.cells.map strV
  r3 : m.n 3 = r.chans.length ∧ m.xs 3 = r.chans.map strV
  r4 : m.n 4 = r.locals.length ∧ m.xs 4 = r.locals.map strV
  r5 : m.n 5 = r.low.length ∧ m.xs 5 = intsV r.low
  r6 : m.n 6 = r.high.length ∧ m.xs 6 = intsV r.high
  r8 : m.n 8 = r.fr.length ∧ m.xs 8 = deepV r.fr
  r10 : m.n 10 = fl.length ∧ m.xs 10 = flatV fl
  r12 : m.n 12 = r.cellLv.length ∧ m.xs 12 = intsV r.cellLv
  r13 : m.n 13 = r.chanLv.length ∧ m.xs 13 = intsV r.chanLv
  bg : m.begun = r.begun
  st : m.stmts = r.stmts
  nm : ∀ x ∈ r.levels ++ (r.cells ++ (r.chans ++ r.locals)), x.length ≤ 100000
  lv : r.levels.length ≤ 6
  ce : r.cells.length ≤ 6
  ch : r.chans.length ≤ 3
  lo : r.locals.length ≤ 4
  sm : r.stmts ≤ 16
  fr : r.fr.length ≤ 3
  lw : r.low.length ≤ t
  ft : fl.length ≤ t
  pr : r.low.length = r.high.length
  bw : (∀ x ∈ r.low, x < r.levels.length) ∧ (∀ x ∈ r.high, x < r.levels.length)
  cl : r.cellLv.length = r.cells.length
  hl : r.chanLv.length = r.chans.length
section
variable {lo base Rb Pb : Nat} {w0 w w' : World} {m : RMem} {r : Fl.RS} {fl : List FlS} {t : Nat}
theorem RefAt.words (h : RefAt lo base Rb Pb w0 w m) (j : Nat) (hj : isRow j) (ws : List (List UInt8)) (hr : m.n j = ws.length ∧ m.xs j = ws.map strV) (hz : rSz j = 1) (hl : ws.length ≤ 100000) (hnm : ∀ x ∈ ws, x.length ≤ 100000) : WordsAt w.heap.size w (m.v j) ws := by
  have ho := h.own j hj
  rw [hr.2, hz] at ho
  exact WordsAt.of_own ho hl hnm
theorem RefAt.levels (h : RefAt lo base Rb Pb w0 w m) (hr : RefOf r fl t m) : WordsAt w.heap.size w (m.v 1) r.levels := h.words 1 (by unfold isRow; omega) _ hr.r1 rfl (by have := hr.lv; omega) (fun x hx => hr.nm x (by simp [hx]))
theorem RefAt.cells (h : RefAt lo base Rb Pb w0 w m) (hr : RefOf r fl t m) : WordsAt w.heap.size w (m.v 2) r.cells := h.words 2 (by unfold isRow; omega) _ hr.r2 rfl (by have := hr.ce; omega) (fun x hx => hr.nm x (by simp [hx]))
theorem RefAt.chans (h : RefAt lo base Rb Pb w0 w m) (hr : RefOf r fl t m) : WordsAt w.heap.size w (m.v 3) r.chans := h.words 3 (by unfold isRow; omega) _ hr.r3 rfl (by have := hr.ch; omega) (fun x hx => hr.nm x (by simp [hx]))
theorem RefAt.locals (h : RefAt lo base Rb Pb w0 w m) (hr : RefOf r fl t m) : WordsAt w.heap.size w (m.v 4) r.locals := h.words 4 (by unfold isRow; omega) _ hr.r4 rfl (by have := hr.lo; omega) (fun x hx => hr.nm x (by simp [hx]))
def AtEnds (o : Option Fl.Atom) (w : World) (e : Ending) (w' : World) : Prop :=
  Below w.heap.size w w' ∧ (∀ a, o = some a → e = .returned (.tuple #[.agg #[.bool a.var, .int .i64 a.v], .bool true])) ∧ (o = none → ∃ v : Int, e = .returned (.tuple #[.agg #[.bool true, .int .i64 v], .bool false]))
set_option maxRecDepth 100000 in
set_option maxHeartbeats 2000000 in
theorem fatom_any (h : RefAt lo base Rb Pb w0 w m) (hr : RefOf r fl t m) (x : List UInt8) (hx : x.length ≤ 100000) :
    Calls Tryz.prog 37 #[.pointer (some ⟨Rb, 0, none⟩), .string ⟨x.toArray⟩] w (AtEnds (r.atom x) w) := by
  have hba := h.hba
  have hRz : Rb < w.heap.size := by omega
  have HNU : Hid (∀ W, Calls Tryz.prog 35 #[.string ⟨x.toArray⟩, .int .i64 9] W fun e w' => e = .returned (.tuple #[.int .i64 (Fl.number x 9).1, .bool (Fl.number x 9).2]) ∧ w' = W) := fun W => number_words x W hx
  have HPC : Hid (∀ W, Below w.heap.size w W → Calls Tryz.prog 22 #[m.v 2, .string ⟨x.toArray⟩] W fun e w' => e = .returned (.int .i64 (Fl.place r.cells x)) ∧ w' = W) := fun W hW => place_words ((h.below hW).cells hr) x
  have HPL : Hid (∀ W, Below w.heap.size w W → Calls Tryz.prog 22 #[m.v 4, .string ⟨x.toArray⟩] W fun e w' => e = .returned (.int .i64 (Fl.place r.locals x)) ∧ w' = W) := fun W hW => place_words ((h.below hW).locals hr) x
  obtain ⟨c2, k2, hv2⟩ := h.shape 2 (by unfold isRow; omega)
  obtain ⟨c4, k4, hv4⟩ := h.shape 4 (by unfold isRow; omega)
  rw [hr.r2.1] at hv2
  rw [hr.r4.1] at hv4
  rw [hv2] at HPC
  rw [hv4] at HPL
  have q2 : ∀ o, (w.alloc o).cell? ⟨Rb, 2, none⟩ = some (.slice c2 r.cells.length k2) := fun o => (World.cell?_alloc_lt _ _ _ hRz).trans (by rw [← hv2]; exact h.cR.c 2 (by omega))
  have q4 : ∀ o, (w.alloc o).cell? ⟨Rb, 4, none⟩ = some (.slice c4 r.locals.length k4) := fun o => (World.cell?_alloc_lt _ _ _ hRz).trans (by rw [← hv4]; exact h.cR.c 4 (by omega))
  have HB : Hid (∀ o, Below w.heap.size w (w.alloc o)) := fun o => (Below.refl _ _).alloc (Nat.le_refl _) _
  have HAT : Hid (r.atom x = if (Fl.number x 9).2 then some ⟨false, (Fl.number x 9).1⟩ else if 0 ≤ Fl.place r.cells x then some ⟨true, (Fl.place r.cells x).toNat⟩ else if 0 ≤ Fl.place r.locals x then some ⟨true, r.cells.length + (Fl.place r.locals x).toNat⟩ else none) := rfl
  obtain ⟨res, hres⟩ : ∃ res, res = r.atom x := ⟨_, rfl⟩
  rw [← hres] at HAT ⊢
  have hcc := Fl.place_cases r.cells x
  have hlc := Fl.place_cases r.locals x
  have hce := hr.ce
  have hlo := hr.lo
  generalize (Fl.number x 9).1 = nv at *
  generalize (Fl.number x 9).2 = nb at *
  generalize Fl.place r.cells x = pc at *
  generalize Fl.place r.locals x = pl at *
  have hnc6 : (r.cells.length : Int) ≤ 6 := by omega
  have hpc1 : -1 ≤ pc ∧ pc ≤ 6 := by omega
  have hpl1 : -1 ≤ pl ∧ pl ≤ 4 := by omega
  clear h hr hres hv2 hv4
  cases nb with
  | true =>
    have HR : Hid (res = some ⟨false, nv⟩) := by show _ = _; rw [HAT.out]; rfl
    go_enter Tryz.func37, Tryz.ntmps37
    go_wp2_with fail
    refine (HNU.out _).mono ?_
    rintro e w1 ⟨rfl, hw1⟩
    rw [hw1]
    clear hw1 w1
    go_wp2
    refine bodyPost_ret (v := .tuple #[.agg #[.bool false, .int .i64 nv], .bool true]) (by simp [results, Tryz.results37, go_sem]) rfl ?_
    rw [HR.out]
    exact ⟨HB.out _, fun a ha => by simp only [Option.some.injEq] at ha; subst ha; rfl, fun h => by cases h⟩
  | false =>
    go_enter Tryz.func37, Tryz.ntmps37
    go_wp2_with fail
    refine (HNU.out _).mono ?_
    rintro e w1 ⟨rfl, hw1⟩
    rw [hw1]
    clear hw1 w1
    go_wp2_with fail
    refine (HPC.out _ (HB.out _)).mono ?_
    rintro e w1 ⟨rfl, hw1⟩
    rw [hw1]
    clear hw1 w1
    by_cases hp : 0 ≤ pc
    · have HR : Hid (res = some ⟨true, pc.toNat⟩) := by show _ = _; rw [HAT.out, if_neg (by decide), if_pos hp]
      have e1 : ((pc.toNat : Nat) : Int) = pc := by omega
      have E1 : Hid (((pc.toNat : Nat) : Int) = pc) := e1
      clear e1
      go_wp2
      refine bodyPost_ret (v := .tuple #[.agg #[.bool true, .int .i64 pc], .bool true]) (by simp [results, Tryz.results37, go_sem]) rfl ?_
      rw [HR.out]
      exact ⟨HB.out _, fun a ha => by simp only [Option.some.injEq] at ha; subst ha; rw [E1.out], fun h => by cases h⟩
    · have hp2 : pc < 0 := by omega
      clear hp
      go_wp2_with fail
      refine (HPL.out _ (HB.out _)).mono ?_
      rintro e w1 ⟨rfl, hw1⟩
      rw [hw1]
      clear hw1 w1
      by_cases hl : 0 ≤ pl
      · have HR : Hid (res = some ⟨true, r.cells.length + pl.toNat⟩) := by show _ = _; rw [HAT.out, if_neg (by decide), if_neg (show ¬ 0 ≤ pc by omega), if_pos hl]
        have E1 : Hid (((r.cells.length + pl.toNat : Nat) : Int) = (r.cells.length : Int) + pl) := by show _ = _; omega
        have hd : decide (pl ≥ 0) = true := decide_eq_true hl
        go_wp2
        refine bodyPost_ret (v := .tuple #[.agg #[.bool true, .int .i64 ((r.cells.length : Int) + pl)], .bool true]) (by simp [results, Tryz.results37, go_sem, hl]) rfl ?_
        rw [HR.out]
        exact ⟨HB.out _, fun a ha => by simp only [Option.some.injEq] at ha; subst ha; rw [E1.out], fun h => by cases h⟩
      · have HR : Hid (res = none) := by show _ = _; rw [HAT.out, if_neg (by decide), if_neg (show ¬ 0 ≤ pc by omega), if_neg hl]
        go_wp2
        refine bodyPost_ret (v := .tuple #[.agg #[.bool true, .int .i64 ((r.cells.length : Int) + pl)], .bool false]) (by simp [results, Tryz.results37, go_sem, hl]) rfl ?_
        rw [HR.out]
        exact ⟨HB.out _, fun a ha => (by cases ha), fun h => ⟨_, rfl⟩⟩
end
end Go.Proofs.YthfacjlghcdndaaGreatDoor

namespace Go.Proofs.YthfacjlghcdndaaGreatDoor
open Go.RowKit
def opArr (Tb : Nat) : Array Value := #[.func (.func 48) #[] #[], .func (.func 49) #[] #[], .func (.func 50) #[] #[], .func (.func 51) #[] #[.pointer (some ⟨Tb, 0, none⟩)], .func (.func 52) #[] #[.pointer (some ⟨Tb, 0, none⟩)]]
def opW (w : World) : World := (w.alloc (.cells #[.func (.func 47) #[] #[]] 138)).alloc (.cells (opArr w.heap.size) 139)
set_option maxRecDepth 100000 in
theorem operations_any (w : World) : Calls Tryz.prog 29 #[] w fun e w' => e = .returned (.slice (some ⟨w.heap.size + 1, 0, none⟩) 5 5) ∧ w' = opW w := by
  have hmf : ∀ (fn : Fn) (first cap : Array Value) (w : World), (Instr.makeFunc fn first cap).run Tryz.prog w = .ok (.func fn first cap) w := fun _ _ _ _ => rfl
  go_enter Tryz.func29, Tryz.ntmps29
  go_wp2_with fail
  go_ret
  exact ⟨rfl, rfl⟩
def truthV (b : Bool) : Int := if b = true then 1 else 0
theorem truth_any (b : Bool) (w : World) : Calls Tryz.prog 47 #[.bool b] w fun e w' => e = .returned (.int .u32 (truthV b)) ∧ w' = w := by
  go_enter Tryz.func47, Tryz.ntmps47
  cases b
  · go_wp2
    go_ret
    exact ⟨rfl, rfl⟩
  · go_wp2
    go_ret
    exact ⟨rfl, rfl⟩
section
variable (x y : Nat) (hx : x < 4294967296) (hy : y < 4294967296) (w : World)
theorem op2_any : Calls Tryz.prog 48 #[.int .u32 x, .int .u32 y] w fun e w' => e = .returned (.int .u32 ((Fl.opV 0 x y : Nat) : Int)) ∧ w' = w := by
  go_enter Tryz.func48, Tryz.ntmps48
  go_wp2
  go_ret
  refine ⟨?_, rfl⟩
  show Ending.returned (.int .u32 (((x : Int) + y) % 4294967296)) = _
  simp [Fl.opV, Fl.u32]
theorem op3_any (x y : Nat) (hx : x < 4294967296) (hy : y < 4294967296) (w : World) : Calls Tryz.prog 49 #[.int .u32 x, .int .u32 y] w fun e w' => e = .returned (.int .u32 ((Fl.opV 1 x y : Nat) : Int)) ∧ w' = w := by
  go_enter Tryz.func49, Tryz.ntmps49
  go_wp2
  go_ret
  refine ⟨?_, rfl⟩
  show Ending.returned (.int .u32 (((x : Int) - y) % 4294967296)) = _
  have : ((x : Int) - y) % 4294967296 = ((Fl.opV 1 x y : Nat) : Int) := by simp only [Fl.opV, Fl.u32]; simp; omega
  rw [this]
theorem op4_any : Calls Tryz.prog 50 #[.int .u32 x, .int .u32 y] w fun e w' => e = .returned (.int .u32 ((Fl.opV 2 x y : Nat) : Int)) ∧ w' = w := by
  go_enter Tryz.func50, Tryz.ntmps50
  go_wp2
  go_ret
  refine ⟨?_, rfl⟩
  show Ending.returned (.int .u32 (((x : Int) * y) % 4294967296)) = _
  simp [Fl.opV, Fl.u32]
theorem op5_any (Tb : Nat) (hT : w.cell? ⟨Tb, 0, none⟩ = some (.func (.func 47) #[] #[])) : Calls Tryz.prog 51 #[.int .u32 x, .int .u32 y, .pointer (some ⟨Tb, 0, none⟩)] w fun e w' => e = .returned (.int .u32 ((Fl.opV 3 x y : Nat) : Int)) ∧ w' = w := by
  have HT : Hid (∀ b, Calls Tryz.prog 47 #[.bool b] w fun e w' => e = .returned (.int .u32 (truthV b)) ∧ w' = w) := fun b => truth_any b w
  go_enter Tryz.func51, Tryz.ntmps51
  go_wp2_with fail
  refine (HT.out _).mono ?_
  rintro e w1 ⟨rfl, hw1⟩
  rw [hw1]
  clear hw1
  go_wp2
  go_ret
  refine ⟨?_, rfl⟩
  by_cases h : x < y <;> simp [Fl.opV, truthV, h]
theorem op6_any (Tb : Nat) (hT : w.cell? ⟨Tb, 0, none⟩ = some (.func (.func 47) #[] #[])) : Calls Tryz.prog 52 #[.int .u32 x, .int .u32 y, .pointer (some ⟨Tb, 0, none⟩)] w fun e w' => e = .returned (.int .u32 ((Fl.opV 4 x y : Nat) : Int)) ∧ w' = w := by
  have HT : Hid (∀ b, Calls Tryz.prog 47 #[.bool b] w fun e w' => e = .returned (.int .u32 (truthV b)) ∧ w' = w) := fun b => truth_any b w
  go_enter Tryz.func52, Tryz.ntmps52
  go_wp2_with fail
  refine (HT.out _).mono ?_
  rintro e w1 ⟨rfl, hw1⟩
  rw [hw1]
  clear hw1
  go_wp2
  go_ret
  refine ⟨?_, rfl⟩
  by_cases h : x = y
  · simp [Fl.opV, truthV, h]
  · have h2 : ¬ (x : Int) = (y : Int) := by omega
    simp [Fl.opV, truthV, h, h2]
theorem op_at (Tb k : Nat) (hk : k < 5) (hT : w.cell? ⟨Tb, 0, none⟩ = some (.func (.func 47) #[] #[])) : ∃ fn cap, (opArr Tb)[k]? = some (.func (.func fn) #[] cap) ∧ (∀ args W, (callFunc fn args).run Tryz.prog W = .ok (.enter fn args) W) ∧
    ∀ x y : Nat, x < 4294967296 → y < 4294967296 → ∀ W, W.cell? ⟨Tb, 0, none⟩ = some (.func (.func 47) #[] #[]) → Calls Tryz.prog fn (#[.int .u32 x, .int .u32 y] ++ cap) W fun e w' => e = .returned (.int .u32 ((Fl.opV (k : Int) x y : Nat) : Int)) ∧ w' = W := by
  rcases (show k = 0 ∨ k = 1 ∨ k = 2 ∨ k = 3 ∨ k = 4 by omega) with rfl | rfl | rfl | rfl | rfl
  · exact ⟨_, _, rfl, fun args W => by kernel_rfl, fun x y hx hy W hW => op2_any x y W⟩
  · exact ⟨_, _, rfl, fun args W => by kernel_rfl, fun x y hx hy W hW => op3_any x y hx hy W⟩
  · exact ⟨_, _, rfl, fun args W => by kernel_rfl, fun x y hx hy W hW => op4_any x y W⟩
  · exact ⟨_, _, rfl, fun args W => by kernel_rfl, fun x y hx hy W hW => op5_any x y W Tb hW⟩
  · exact ⟨_, _, rfl, fun args W => by kernel_rfl, fun x y hx hy W hW => op6_any x y W Tb hW⟩
end
end Go.Proofs.YthfacjlghcdndaaGreatDoor

namespace Go.Proofs.YthfacjlghcdndaaGreatDoor
open Go.RowKit
def sentV (l : List (Nat × Nat)) : List Value := l.flatMap fun p => [.int .i64 p.1, .int .u32 p.2]
structure MachIn (lo base Mb Vb Ob Tb nv : Nat) (w0 : World) : Prop where
  hlo : lo ≤ Mb ∧ lo ≤ Vb ∧ lo ≤ base
  hba : Mb < base ∧ Vb < base ∧ Ob < base ∧ Tb < base
  nd : Mb ≠ Vb ∧ Ob ≠ Mb ∧ Ob ≠ Vb ∧ Tb ≠ Mb ∧ Tb ≠ Vb
  nvm : nv ≤ 10
  ob : w0.heap[Ob]? = some (.cells (opArr Tb) 139 (0, 0))
  tb : w0.heap[Tb]? = some (.cells #[.func (.func 47) #[] #[]] 138 (0, 0))
structure MachAt (lo base Mb Vb Ob Tb nv : Nat) (w0 w : World) (m : Fl.MS) (sv : Value) : Prop where
  inn : MachIn lo base Mb Vb Ob Tb nv w0
  bel : Below lo w0 w
  fx : ∀ b, b < base → b ≠ Mb → b ≠ Vb → w.heap[b]? = w0.heap[b]?
  hbz : base ≤ w.heap.size
  cM : Cells w Mb 4 (rw_ [.slice (some ⟨Vb, 0, none⟩) nv nv, sv, .int .i64 m.fuel, .slice (some ⟨Ob, 0, none⟩) 5 5])
  hv : m.vars.length = nv
  cV : Cells w Vb nv (fun i => .int .u32 (m.vars.getD i 0))
  vb : ∀ x ∈ m.vars, x < 4294967296
  sl : m.sent.length + m.fuel ≤ 2000
  os : w.ownsRow base 63 2 sv m.sent.length (sentV m.sent)
section
variable {lo base Mb Vb Ob Tb nv : Nat} {w0 w w' : World} {m : Fl.MS} {sv : Value}
theorem MachAt.below (h : MachAt lo base Mb Vb Ob Tb nv w0 w m sv) (hb : Below w.heap.size w w') : MachAt lo base Mb Vb Ob Tb nv w0 w' m sv := by
  obtain ⟨b1, b2, b3, b4⟩ := h.inn.hba
  obtain ⟨l1, l2, l3⟩ := h.inn.hlo
  have hbz := h.hbz
  have hz := hb.size
  have q : ∀ b, b < w.heap.size → w'.heap[b]? = w.heap[b]? := fun b hlt => hb.block b hlt
  exact { inn := h.inn, bel := h.bel.trans (hb.mono (by omega)), fx := fun b f1 f2 f3 => (q b (by omega)).trans (h.fx b f1 f2 f3), hbz := by omega, cM := h.cM.block (q _ (by omega)), hv := h.hv, cV := h.cV.block (q _ (by omega)), vb := h.vb, sl := h.sl,
          os := own_same h.os (fun b hv => q b (by
            rcases h.os.2 with ⟨h1, _⟩ | ⟨g, cap, cur, h1, hg, hh, _⟩
            · rw [h1] at hv; cases hv
            · rw [h1] at hv; simp only [Value.ownBlock, Option.some.injEq] at hv; subst hv
              exact Classical.byContradiction fun hn => by rw [Array.getElem?_eq_none (by omega)] at hh; cases hh)) }
theorem MachAt.drew (h : MachAt lo base Mb Vb Ob Tb nv w0 w m sv) : MachAt lo base Mb Vb Ob Tb nv w0 w.drew m sv := h.below (Below.refl _ _).drew
theorem getD_lt {l : List Nat} {B : Nat} (h : ∀ x ∈ l, x < B) (hB : 0 < B) (i : Nat) : l.getD i 0 < B := by
  rw [List.getD_eq_getElem?_getD]
  cases hi : l[i]? with
  | none => exact hB
  | some x => exact h x (List.mem_of_getElem? hi)
theorem atomV_lt {vs : List Nat} (h : ∀ x ∈ vs, x < 4294967296) (a : Fl.Atom) : Fl.atomV vs a < 4294967296 := by
  unfold Fl.atomV
  split
  · exact getD_lt h (by decide) _
  · exact Nat.mod_lt _ (by decide)
set_option maxRecDepth 100000 in
set_option maxHeartbeats 1000000 in
theorem vatom_any {S : Nat → Prop} (h : MachAt lo base Mb Vb Ob Tb nv w0 w m sv) (p : Value) (a : Fl.Atom) (hp : AtomAt S w p a) (ha : Fl.AtomOk nv a) :
    Calls Tryz.prog 74 #[.pointer (some ⟨Mb, 0, none⟩), p] w fun e w' => e = .returned (.int .u32 ((Fl.atomV m.vars a : Nat) : Int)) ∧ Below w.heap.size w w' := by
  obtain ⟨vb, rfl, -, hc⟩ := hp
  have c0 : w.cell? ⟨vb, 0, none⟩ = some (.int .i64 (if a.var then 1 else 0)) := hc.c 0 (by omega)
  have c1 : w.cell? ⟨vb, 1, none⟩ = some (.int .i64 a.v) := hc.c 1 (by omega)
  have m0 : w.cell? ⟨Mb, 0, none⟩ = some (.slice (some ⟨Vb, 0, none⟩) nv nv) := h.cM.c 0 (by omega)
  unfold ptr
  cases hv : a.var with
  | true =>
    have hlt : a.v < nv := by unfold Fl.AtomOk at ha; rw [if_pos hv] at ha; exact ha
    have cv : w.cell? ⟨Vb, a.v, none⟩ = some (.int .u32 ((m.vars.getD a.v 0 : Nat) : Int)) := h.cV.c a.v hlt
    have hr : Fl.atomV m.vars a = m.vars.getD a.v 0 := by unfold Fl.atomV; rw [if_pos hv]
    rw [hr]
    rw [hv] at c0
    simp only [if_true] at c0
    generalize m.vars.getD a.v 0 = x at *
    have hnv := h.inn.nvm
    have hlt2 : (a.v : Int) < (nv : Int) := by omega
    generalize a.v = k at *
    clear hc h ha hr hv
    go_enter Tryz.func74, Tryz.ntmps74
    go_wp2_with fail
    go_quiet (fail)
    go_wp2
    go_ret
    exact ⟨rfl, rfl, rfl, rfl, Nat.le_refl _, fun _ _ => rfl⟩
  | false =>
    have hr : Fl.atomV m.vars a = a.v % 4294967296 := by unfold Fl.atomV; rw [hv]; rfl
    rw [hr]
    rw [hv] at c0
    simp only [Bool.false_eq_true, if_false] at c0
    generalize a.v = k at *
    clear hc h ha hr hv
    go_enter Tryz.func74, Tryz.ntmps74
    go_wp2
    go_ret
    exact ⟨by simp, Below.refl _ _⟩
end
end Go.Proofs.YthfacjlghcdndaaGreatDoor

namespace Go.Proofs.YthfacjlghcdndaaGreatDoor
open Go.RowKit
section
variable {lo base Mb Vb Ob Tb nv : Nat} {w0 w w' : World} {m : Fl.MS} {sv : Value}
set_option maxRecDepth 100000 in
set_option maxHeartbeats 2000000 in
theorem mvalue_any {S : Nat → Prop} (h : MachAt lo base Mb Vb Ob Tb nv w0 w m sv) (p : Value) (x : Fl.Expr) (hp : PVal S w p x) (hx : Fl.ExprOk nv x) :
    Calls Tryz.prog 74 #[.pointer (some ⟨Mb, 0, none⟩), p] w fun e w' => e = .returned (.int .u32 ((Fl.exprV m.vars x : Nat) : Int)) ∧ Below w.heap.size w w' := by
  rcases hp with ⟨ho, hp⟩ | ⟨ho, vb, pa, pb, rfl, -, hc, hpa, hpb⟩
  · have hr : Fl.exprV m.vars x = Fl.atomV m.vars x.a := by unfold Fl.exprV; rw [if_pos ho]
    rw [hr]; exact vatom_any h p x.a hp hx.2.2.1
  · have hr : Fl.exprV m.vars x = Fl.opV x.op (Fl.atomV m.vars x.a) (Fl.atomV m.vars x.b) := by unfold Fl.exprV; rw [if_neg (by omega)]
    rw [hr]
    have hba := h.inn.hba
    have hnd := h.inn.nd
    have hbz := h.hbz
    obtain ⟨xa, rfl, -, -⟩ := id hpa
    obtain ⟨xb, rfl, -, -⟩ := id hpb
    have tcell : ∀ W, Below w.heap.size w W → W.cell? ⟨Tb, 0, none⟩ = some (.func (.func 47) #[] #[]) := fun W hW =>
      cell_of_row _ _ 0 _ _ (0, 0) ((hW.block Tb (by omega)).trans ((h.fx Tb (by omega) hnd.2.2.2.1 hnd.2.2.2.2).trans h.inn.tb))
    obtain ⟨k, hk⟩ : ∃ k : Nat, x.op = (k : Int) := ⟨x.op.toNat, by omega⟩
    have hk5 : k < 5 := by have := hx.2.1; omega
    obtain ⟨fn, cap, hfa, hin, hop⟩ := op_at w Tb k hk5 (tcell w (Below.refl _ _))
    have oc : w.cell? ⟨Ob, k, none⟩ = some (.func (.func fn) #[] cap) := (cell_of_row _ _ k _ _ (0, 0) ((h.fx Ob (by omega) hnd.2.1 hnd.2.2.1).trans h.inn.ob)).trans hfa
    have c0 : w.cell? ⟨vb, 0, none⟩ = some (.int .i64 2) := hc.c 0 (by omega)
    have c1 : w.cell? ⟨vb, 1, none⟩ = some (.int .i64 k) := by rw [← hk]; exact hc.c 1 (by omega)
    have c2 : w.cell? ⟨vb, 2, none⟩ = some (.pointer (some ⟨xa, 0, none⟩)) := hc.c 2 (by omega)
    have c3 : w.cell? ⟨vb, 3, none⟩ = some (.pointer (some ⟨xb, 0, none⟩)) := hc.c 3 (by omega)
    have m3 : w.cell? ⟨Mb, 3, none⟩ = some (.slice (some ⟨Ob, 0, none⟩) 5 5) := h.cM.c 3 (by omega)
    rw [hk]
    have hv1 := atomV_lt h.vb x.a
    have hv2 := atomV_lt h.vb x.b
    have HA : Hid (∀ W, Below w.heap.size w W → Calls Tryz.prog 74 #[.pointer (some ⟨Mb, 0, none⟩), .pointer (some ⟨xa, 0, none⟩)] W fun e w' => e = .returned (.int .u32 ((Fl.atomV m.vars x.a : Nat) : Int)) ∧ Below W.heap.size W w') := fun W hW => vatom_any (S := fun b => b < w.heap.size) (h.below hW) _ x.a (by
      obtain ⟨vb', e1, -, e3⟩ := hpa
      exact ⟨vb', e1, e3.lt (by omega), e3.block (hW.block _ (e3.lt (by omega)))⟩) hx.2.2.1
    have HB : Hid (∀ W, Below w.heap.size w W → Calls Tryz.prog 74 #[.pointer (some ⟨Mb, 0, none⟩), .pointer (some ⟨xb, 0, none⟩)] W fun e w' => e = .returned (.int .u32 ((Fl.atomV m.vars x.b : Nat) : Int)) ∧ Below W.heap.size W w') := fun W hW => vatom_any (S := fun b => b < w.heap.size) (h.below hW) _ x.b (by
      obtain ⟨vb', e1, -, e3⟩ := hpb
      exact ⟨vb', e1, e3.lt (by omega), e3.block (hW.block _ (e3.lt (by omega)))⟩) hx.2.2.2
    generalize Fl.atomV m.vars x.a = va at *
    generalize Fl.atomV m.vars x.b = vb2 at *
    have HOP : Hid (∀ W, Below w.heap.size w W → Calls Tryz.prog fn (#[.int .u32 va, .int .u32 vb2] ++ cap) W fun e w' => e = .returned (.int .u32 ((Fl.opV (k : Int) va vb2 : Nat) : Int)) ∧ w' = W) := fun W hW => hop va vb2 hv1 hv2 W (tcell W hW)
    generalize Fl.opV (k : Int) va vb2 = res at *
    have hk5' : (k : Int) < 5 := by omega
    have KEEP : Hid (∀ W, Below w.heap.size w W → W.cell? ⟨vb, 1, none⟩ = some (.int .i64 k) ∧ W.cell? ⟨vb, 2, none⟩ = some (.pointer (some ⟨xa, 0, none⟩)) ∧ W.cell? ⟨vb, 3, none⟩ = some (.pointer (some ⟨xb, 0, none⟩)) ∧ W.cell? ⟨Mb, 3, none⟩ = some (.slice (some ⟨Ob, 0, none⟩) 5 5) ∧ W.cell? ⟨Ob, k, none⟩ = some (.func (.func fn) #[] cap)) := fun W hW => by
      have hvb : vb < w.heap.size := World.block_lt_of_cell? w _ c0
      exact ⟨(hW.cell (p := ⟨vb, 1, none⟩) hvb).trans c1, (hW.cell (p := ⟨vb, 2, none⟩) hvb).trans c2, (hW.cell (p := ⟨vb, 3, none⟩) hvb).trans c3, (hW.cell (p := ⟨Mb, 3, none⟩) (by show Mb < _; omega)).trans m3, (hW.cell (p := ⟨Ob, k, none⟩) (by show Ob < _; omega)).trans oc⟩
    clear h hx hc hpa hpb hr ho hk hop tcell hfa hv1 hv2 hba hnd hbz
    unfold ptr
    go_enter Tryz.func74, Tryz.ntmps74
    go_wp2_with fail
    refine wp_region_late (fun W => Below w.heap.size w W) [] [(0, 0), (0, 1), (0, 2), (0, 3), (0, 4), (0, 5), (0, 6), (0, 7), (0, 8), (0, 9), (0, 10), (0, 11), (0, 12), (0, 13), (0, 14), (0, 16), (0, 17), (0, 18), (0, 19), (0, 20), (1, 15), (1, 21), (1, 22), (0, 23)] [] (by kernel_rfl) (by kernel_rfl) rfl [(_, _), (_, _), (_, _), (_, _), (_, _), (_, _), (_, _), (_, _), (_, _), (_, _), (_, _), (_, _), (_, _), (_, _), (_, _), (_, _), (_, _), (_, _), (_, _), (_, _), (_, _), (_, _), (_, _), (_, _)] rfl (fun c a d v w h => by cases d <;> exact h) (Below.refl _ _).drew (fun ops hG => ?_)
    clear hG
    simp only [List.getElem_toArray, List.getElem_cons_succ, List.getElem_cons_zero]
    clear c0 c1 c2 c3 m3 oc
    iterate 20
      refine late_read rfl (fun K hK => ?_)
      apply Exists.intro
      refine ⟨fun w' hw' => ?_, ?_⟩
      · obtain ⟨k1, k2, k3, k4, k5⟩ := KEEP.out w' hw'
        clear hw'
        go_simp
        try with_reducible rfl
      go_simp
      refine hK _ ?_
      clear hK K
    refine late_do ?_
    go_wp2_with fail
    refine (HA.out w.drew (Below.refl _ _).drew).mono ?_
    rintro e W ⟨rfl, hb⟩
    have HB1 : Hid (Below w.heap.size w W) := (Below.refl w.heap.size w).drew.trans hb
    clear hb
    go_wp2_with fail
    refine ⟨HB1.out, ?_⟩
    refine late_do ?_
    go_wp2_with fail
    refine (HB.out W HB1.out).mono ?_
    rintro e W2 ⟨rfl, hb⟩
    have HB2 : Hid (Below w.heap.size w W2) := HB1.out.trans (hb.mono HB1.out.size)
    clear hb
    go_wp2_with fail
    refine ⟨HB2.out, ?_⟩
    refine late_do ?_
    go_wp2_with fail
    refine (HOP.out W2 HB2.out).mono ?_
    rintro e W3 ⟨rfl, hw3⟩
    rw [hw3]
    clear hw3
    go_wp2_with fail
    refine ⟨HB2.out, ?_⟩
    refine late_read rfl (fun K hK => ?_)
    apply Exists.intro
    refine ⟨fun w' hw' => ?_, ?_⟩
    · clear hw'
      go_simp
      try with_reducible rfl
    go_simp
    refine hK _ ?_
    clear hK K
    refine late_end ?_
    go_wp2
    go_ret
    exact ⟨rfl, HB2.out⟩
end
end Go.Proofs.YthfacjlghcdndaaGreatDoor
