/- Texts Pru Prv Prw Prx. -/
import Derived.Test.YthfacjlghcdndaaGreatDoorM13
set_option linter.unusedSimpArgs false
set_option linter.unusedVariables false
namespace Go.Proofs.YthfacjlghcdndaaGreatDoor
open Go.RowKit
def NewB (w w' : World) (b : Nat) : Prop := w.heap.size ≤ b ∧ b < w'.heap.size
theorem Fl.RS.atom_map (r : Fl.RS) (x : List UInt8) : r.atom x = if (Fl.number x 9).2 then some ⟨false, (Fl.number x 9).1⟩ else if 0 ≤ Fl.place (r.cells ++ r.locals) x then some ⟨true, (Fl.place (r.cells ++ r.locals) x).toNat⟩ else none := by
  unfold Fl.RS.atom
  rw [Fl.place_append]
  have h1 := Fl.place_cases r.cells x
  have h2 := Fl.place_cases r.locals x
  by_cases hn : (Fl.number x 9).2 = true
  · rw [if_pos hn, if_pos hn]
  · rw [if_neg hn, if_neg hn]
    by_cases hc : 0 ≤ Fl.place r.cells x
    · rw [if_pos hc, if_pos hc, if_pos hc]
    · rw [if_neg hc, if_neg hc]
      by_cases hl : 0 ≤ Fl.place r.locals x
      · rw [if_pos hl, if_pos hl, if_pos (by omega)]
        congr 2; omega
      · rw [if_neg hl, if_neg hl, if_neg (by omega)]
def VaEnds (o : Option Fl.Atom) (line : Int) (w : World) (e : Ending) (w' : World) : Prop :=
  Below w.heap.size w w' ∧ (∀ a, o = some a → ∃ p, e = .returned p ∧ AtomAt (NewB w w') w' p a) ∧ (o = none → e = .panicked (stopAt 4 line))
theorem atom_new (w : World) (k v : Int) (a : Fl.Atom) (hk : k = if a.var then 1 else 0) (hv : v = a.v) {W : World} (hW : Below w.heap.size w W) : AtomAt (NewB w (W.alloc (.cells #[.int .i64 k, .int .i64 v, .pointer none, .pointer none] 185))) (W.alloc (.cells #[.int .i64 k, .int .i64 v, .pointer none, .pointer none] 185)) (.pointer (some ⟨W.heap.size, 0, none⟩)) a := by
  refine ⟨W.heap.size, rfl, ⟨hW.size, by simp⟩, ?_⟩
  rw [← hk, ← hv]
  exact Cells.new W [.int .i64 k, .int .i64 v, .pointer none, .pointer none] _
section
variable {lo base R Pb lm vm cm : Nat} {w0 w : World} {r : Fl.RS} {line : Int} {m : PMem}
set_option maxRecDepth 100000 in
set_option maxHeartbeats 1000000 in
theorem simple_any (h : PrAt lo base R Pb lm vm cm w0 w r line m) (x : List UInt8) (hx : x.length ≤ 100000) :
    Calls Tryz.prog 94 #[.pointer (some ⟨R, 0, none⟩), .string ⟨x.toArray⟩] w (VaEnds (r.atom x) line w) := by
  have hnum := pnumber_any x w hx
  have hnine := Fl.lnum_nine x
  obtain ⟨ra, hra⟩ : ∃ ra, ra = r.atom x := ⟨_, rfl⟩
  have hat := Fl.RS.atom_map r x
  rw [← hra] at hat ⊢
  obtain ⟨nb, hnb⟩ : ∃ nb, nb = (Fl.number x 9).2 := ⟨_, rfl⟩
  obtain ⟨nv, hnv⟩ : ∃ nv, nv = (Fl.number x 9).1 := ⟨_, rfl⟩
  obtain ⟨pl, hpl⟩ : ∃ pl, pl = Fl.place (r.cells ++ r.locals) x := ⟨_, rfl⟩
  rw [← hnb, ← hnv] at hnine hat
  rw [← hpl] at hat
  rw [hnine] at hnum
  have HAT : Hid (ra = if nb then some ⟨false, nv⟩ else if 0 ≤ pl then some ⟨true, pl.toNat⟩ else none) := hat
  have HH : Hid (PrAt lo base R Pb lm vm cm w0 w r line m) := h
  have HPL : Hid (pl = Fl.place (r.cells ++ r.locals) x) := hpl
  clear hnine hat hra hnb hnv hpl h
  cases nb with
  | true =>
    have HN : Hid (Calls Tryz.prog 89 #[.string ⟨x.toArray⟩] w fun e w' => e = .returned (.tuple #[.int .i64 nv, .bool true]) ∧ Below w.heap.size w w') := hnum
    have HR : Hid (ra = some ⟨false, nv⟩) := HAT.out
    clear hnum
    go_enter Tryz.func94, Tryz.ntmps94
    go_wp2_with fail
    refine HN.out.mono ?_
    rintro e W ⟨rfl, hb⟩
    have HB : Hid (Below w.heap.size w W) := hb
    clear hb HN
    go_wp2
    go_ret
    exact ⟨HB.out.alloc HB.out.size _, fun a ha => ⟨_, rfl, by rw [HR.out] at ha; simp only [Option.some.injEq] at ha; subst ha; exact atom_new w 0 nv ⟨false, nv⟩ rfl rfl HB.out⟩, fun hn => by rw [HR.out] at hn; cases hn⟩
  | false =>
    have HN : Hid (Calls Tryz.prog 89 #[.string ⟨x.toArray⟩] w fun e w' => e = .returned (.tuple #[.int .i64 0, .bool false]) ∧ Below w.heap.size w w') := hnum
    have HR : Hid (ra = if 0 ≤ pl then some ⟨true, pl.toNat⟩ else none) := HAT.out
    clear hnum
    go_enter Tryz.func94, Tryz.ntmps94
    go_wp2_with fail
    refine HN.out.mono ?_
    rintro e W ⟨rfl, hb⟩
    have HB : Hid (Below w.heap.size w W) := hb
    have HW : Hid (PrAt lo base R Pb lm vm cm w0 W r line m) := HH.out.below hb
    obtain ⟨mx, tb, hlk, htb, hmx⟩ := HW.out.nv.look2 x hx
    rw [← HPL.out] at htb hmx
    have HTB : Hid (tb = decide (0 ≤ pl)) := htb
    have HMX : Hid (mx = max 0 pl) := hmx
    have c41 : W.cell? ⟨R, 41, none⟩ = some (.map (some vm)) := HW.out.cR.c 41 (by omega)
    have HRB : Hid (Calls Tryz.prog 46 #[.pointer (some ⟨R, 0, none⟩), .bool false, .int .i64 4] W fun e w' => e = .panicked (stopAt 4 line) ∧ Below W.heap.size W w') := rneed_bad R 4 line W (HW.out.cR.c 1 (by omega))
    have HOK : Hid (Calls Tryz.prog 46 #[.pointer (some ⟨R, 0, none⟩), .bool true, .int .i64 4] W fun e w' => e = .returned (.tuple #[]) ∧ w' = W) := rneed_ok R 4 W
    have hz := hb.size
    clear hb HN htb hmx
    cases tb with
    | true =>
      have h0 : 0 ≤ pl := by have := HTB.out; simpa using this
      have HR2 : Hid (ra = some ⟨true, pl.toNat⟩) := by show _ = _; rw [HR.out, if_pos h0]
      have HM2 : Hid (mx = pl) := by show _ = _; rw [HMX.out]; omega
      go_wp2_with fail
      refine HOK.out.mono ?_
      rintro e w1 ⟨rfl, hw1⟩
      rw [hw1]
      clear hw1 w1 hlk c41
      go_wp2
      go_ret
      exact ⟨HB.out.alloc HB.out.size _, fun a ha => ⟨_, rfl, by rw [HR2.out] at ha; simp only [Option.some.injEq] at ha; subst ha; exact atom_new w 1 mx ⟨true, pl.toNat⟩ rfl (by rw [HM2.out]; simp; omega) HB.out⟩, fun hn => by rw [HR2.out] at hn; cases hn⟩
    | false =>
      have h0 : ¬ 0 ≤ pl := by have := HTB.out; simpa using this
      have HR2 : Hid (ra = none) := by show _ = _; rw [HR.out, if_neg h0]
      go_wp2_with fail
      refine HRB.out.mono ?_
      rintro e w1 ⟨rfl, hb1⟩
      exact ⟨rfl, HB.out.trans (hb1.mono (by omega)), fun a ha => (by rw [HR2.out] at ha; cases ha), fun _ => rfl⟩
end
end Go.Proofs.YthfacjlghcdndaaGreatDoor

namespace Go.Proofs.YthfacjlghcdndaaGreatDoor
open Go.RowKit
def PvEnds (o : Option Fl.Expr) (line : Int) (w : World) (e : Ending) (w' : World) : Prop :=
  Below w.heap.size w w' ∧ (∀ x, o = some x → ∃ pb, e = .returned (.pointer (some ⟨pb, 0, none⟩)) ∧ PVal (NewB w w') w' (ptr pb) x) ∧ (o = none → e = .panicked (stopAt 4 line))
theorem AtomAt.later {w w1 w2 : World} {p : Value} {a : Fl.Atom} (h : AtomAt (NewB w w1) w1 p a) (hb : Below w1.heap.size w1 w2) : AtomAt (NewB w w2) w2 p a :=
  h.kept (fun b hb' => ⟨hb'.1, Nat.lt_of_lt_of_le hb'.2 hb.size⟩) (fun b hb' => hb.block b hb'.2)
theorem AtomAt.lower {w w1 w2 : World} {p : Value} {a : Fl.Atom} (h : AtomAt (NewB w1 w2) w2 p a) (hz : w.heap.size ≤ w1.heap.size) : AtomAt (NewB w w2) w2 p a :=
  h.kept (fun b hb' => ⟨Nat.le_trans hz hb'.1, hb'.2⟩) (fun _ _ => rfl)
section
variable {lo base R Pb lm vm cm : Nat} {w0 w : World} {r : Fl.RS} {line : Int} {m : PMem}
set_option maxRecDepth 100000 in
set_option maxHeartbeats 1000000 in
theorem value1_any (h : PrAt lo base R Pb lm vm cm w0 w r line m) (b off cap : Nat) (x : List UInt8) (hx : x.length ≤ 100000) (hcap : 1 ≤ cap) (hc0 : w.cell? ⟨b, off, none⟩ = some (.string ⟨x.toArray⟩)) :
    Calls Tryz.prog 81 #[.pointer (some ⟨R, 0, none⟩), .slice (some ⟨b, off, none⟩) 1 cap] w (PvEnds (r.value [x]) line w) := by
  have HS : Hid (Calls Tryz.prog 94 #[.pointer (some ⟨R, 0, none⟩), .string ⟨x.toArray⟩] w (VaEnds (r.atom x) line w)) := simple_any h x hx
  clear h
  go_enter Tryz.func81, Tryz.ntmps81
  go_wp2_with fail
  refine HS.out.mono ?_
  rintro e W ⟨hb, hok, hbad⟩
  have HB : Hid (Below w.heap.size w W) := hb
  clear hb HS
  cases hra : r.atom x with
  | none =>
    obtain rfl := hbad hra
    exact ⟨rfl, HB.out, fun y hy => (by simp [Fl.RS.value, hra] at hy), fun _ => rfl⟩
  | some a =>
    obtain ⟨p, rfl, hat⟩ := hok a hra
    obtain ⟨vb, rfl, hvb⟩ := id hat
    have HAT : Hid (AtomAt (NewB w W) W (ptr vb) a) := hat
    have HRA : Hid (r.atom x = some a) := hra
    clear hat hok hbad hra hvb
    unfold ptr
    go_wp2
    go_ret
    refine ⟨HB.out, fun y hy => ⟨vb, rfl, ?_⟩, fun hn => ?_⟩
    · simp only [Fl.RS.value, HRA.out, Option.map_some, Option.some.injEq] at hy
      subst hy
      exact .inl ⟨rfl, HAT.out⟩
    · simp [Fl.RS.value, HRA.out] at hn
set_option maxRecDepth 100000 in
set_option maxHeartbeats 1000000 in
theorem value3_any (h : PrAt lo base R Pb lm vm cm w0 w r line m) (b off cap : Nat) (x o y : List UInt8) (hx : x.length ≤ 100000) (ho : o.length ≤ 100000) (hy : y.length ≤ 100000) (hop : 0 ≤ Fl.place Fl.signs o) (hcap : 3 ≤ cap)
    (hc0 : w.cell? ⟨b, off, none⟩ = some (.string ⟨x.toArray⟩)) (hc1 : w.cell? ⟨b, off + 1, none⟩ = some (.string ⟨o.toArray⟩)) (hc2 : w.cell? ⟨b, off + 2, none⟩ = some (.string ⟨y.toArray⟩)) :
    Calls Tryz.prog 81 #[.pointer (some ⟨R, 0, none⟩), .slice (some ⟨b, off, none⟩) 3 cap] w (PvEnds (r.value [x, o, y]) line w) := by
  obtain ⟨ov, hov⟩ : ∃ ov : Int, ov = Fl.place Fl.signs o := ⟨_, rfl⟩
  have HOP : Hid (∀ W, Calls Tryz.prog 90 #[.string ⟨o.toArray⟩] W fun e w' => e = .returned (.tuple #[.int .i64 ov, .bool true]) ∧ w' = W) := fun W => by
    have := operation_any o W ho
    rw [show (((Fl.place Fl.signs o).toNat : Nat) : Int) = ov by rw [hov]; omega, show decide (0 ≤ Fl.place Fl.signs o) = true by simpa using hop] at this
    exact this
  have HS : Hid (∀ W z, z.length ≤ 100000 → PrAt lo base R Pb lm vm cm w0 W r line m → Calls Tryz.prog 94 #[.pointer (some ⟨R, 0, none⟩), .string ⟨z.toArray⟩] W (VaEnds (r.atom z) line W)) := fun W z hz hW => simple_any hW z hz
  have HH : Hid (PrAt lo base R Pb lm vm cm w0 w r line m) := h
  have hov0 : 0 ≤ ov := by rw [hov]; exact hop
  obtain ⟨res, hres⟩ : ∃ res, res = r.value [x, o, y] := ⟨_, rfl⟩
  rw [← hres]
  have HRES : Hid (res = (r.atom x).bind fun a => (r.atom y).map fun c => ⟨ov, a, c⟩) := by show _ = _; rw [hres, hov]; rfl
  clear h hov hop hres
  go_enter Tryz.func81, Tryz.ntmps81
  go_wp2_with fail
  refine (HOP.out _).mono ?_
  rintro e w1 ⟨rfl, hw1⟩
  rw [hw1]
  clear hw1 w1 HOP hc1
  go_wp2_with fail
  refine wp_region_late (fun W => W.cell? ⟨b, off, none⟩ = some (.string ⟨x.toArray⟩) ∧ W.cell? ⟨b, off + 2, none⟩ = some (.string ⟨y.toArray⟩)) [] [(0, 0), (0, 1), (0, 2), (0, 3), (0, 4), (0, 6), (0, 7), (0, 8), (0, 9), (1, 5), (1, 10), (0, 11), (1, 12), (0, 13)] [] (by kernel_rfl) (by kernel_rfl) rfl [(_, _), (_, _), (_, _), (_, _), (_, _), (_, _), (_, _), (_, _), (_, _), (_, _), (_, _), (_, _), (_, _), (_, _)] rfl (fun c a d v w h => by cases d <;> exact h) ⟨hc0, hc2⟩ (fun ops hG => ?_)
  clear hG
  simp only [List.getElem_toArray, List.getElem_cons_succ, List.getElem_cons_zero]
  iterate 9
    refine late_read rfl (fun K hK => ?_)
    apply Exists.intro
    refine ⟨fun w' hw' => ?_, ?_⟩
    · obtain ⟨k0, k1⟩ := hw'
      go_simp
      try with_reducible rfl
    go_simp
    refine hK _ ?_
    clear hK K
  refine late_do ?_
  have hbz : b < w.heap.size := World.block_lt_of_cell? w _ hc0
  go_wp2_with fail
  refine (HS.out w.drew x hx HH.out.drew).mono ?_
  rintro e W ⟨hb, hok, hbad⟩
  have hB : Below w.heap.size w W := (Below.refl w.heap.size w).drew.trans hb
  have HB : Hid (Below w.heap.size w W) := hB
  have HW : Hid (PrAt lo base R Pb lm vm cm w0 W r line m) := HH.out.below hB
  have d0 : W.cell? ⟨b, off, none⟩ = some (.string ⟨x.toArray⟩) := (hB.cell (p := ⟨b, off, none⟩) hbz).trans hc0
  have d2 : W.cell? ⟨b, off + 2, none⟩ = some (.string ⟨y.toArray⟩) := (hB.cell (p := ⟨b, off + 2, none⟩) hbz).trans hc2
  have hz := hB.size
  clear hc0 hc2 hb hB
  cases hra : r.atom x with
  | none =>
    obtain rfl := hbad hra
    have HN : res = none := by rw [HRES.out, hra]; rfl
    exact ⟨rfl, HB.out, fun y hy => (by rw [HN] at hy; cases hy), fun _ => rfl⟩
  | some a =>
    obtain ⟨p, rfl, hat⟩ := hok a hra
    obtain ⟨xb, rfl, -⟩ := id hat
    have HAT : Hid (AtomAt (NewB w W) W (ptr xb) a) := by
      refine AtomAt.kept hat (fun b' hb' => ?_) (fun _ _ => rfl)
      exact ⟨by have := hb'.1; simpa using this, hb'.2⟩
    have HR1 : Hid (res = (r.atom y).map fun c => ⟨ov, a, c⟩) := by show _ = _; rw [HRES.out, hra]; rfl
    clear hat hok hbad hra
    unfold ptr
    go_wp2_with fail
    refine ⟨⟨d0, d2⟩, ?_⟩
    refine late_do ?_
    go_wp2_with fail
    refine (HS.out W y hy HW.out).mono ?_
    rintro e W2 ⟨hb2, hok, hbad⟩
    have HB2 : Hid (Below W.heap.size W W2) := hb2
    have f0 : W2.cell? ⟨b, off, none⟩ = some (.string ⟨x.toArray⟩) := (hb2.cell (p := ⟨b, off, none⟩) (by show b < _; omega)).trans d0
    have f2 : W2.cell? ⟨b, off + 2, none⟩ = some (.string ⟨y.toArray⟩) := (hb2.cell (p := ⟨b, off + 2, none⟩) (by show b < _; omega)).trans d2
    have hz2 := hb2.size
    clear d0 d2 hb2
    cases hrc : r.atom y with
    | none =>
      obtain rfl := hbad hrc
      have HN : res = none := by rw [HR1.out, hrc]; rfl
      exact ⟨rfl, HB.out.trans (HB2.out.mono (by omega)), fun y hy => (by rw [HN] at hy; cases hy), fun _ => rfl⟩
    | some c =>
      obtain ⟨p, rfl, hac⟩ := hok c hrc
      obtain ⟨yb, rfl, -⟩ := id hac
      have HAC : Hid (AtomAt (NewB w W2) W2 (ptr yb) c) := AtomAt.lower hac (by omega)
      have HAT2 : Hid (AtomAt (NewB w W2) W2 (ptr xb) a) := AtomAt.later HAT.out HB2.out
      have HR2 : Hid (res = some ⟨ov, a, c⟩) := by show _ = _; rw [HR1.out, hrc]; rfl
      have HBW2 : Hid (Below w.heap.size w W2) := HB.out.trans (HB2.out.mono (by omega))
      have f0' : ∀ o, (W2.alloc o).cell? ⟨b, off, none⟩ = some (.string ⟨x.toArray⟩) := fun o => (World.cell?_alloc_lt _ _ _ (by show b < _; omega)).trans f0
      have f2' : ∀ o, (W2.alloc o).cell? ⟨b, off + 2, none⟩ = some (.string ⟨y.toArray⟩) := fun o => (World.cell?_alloc_lt _ _ _ (by show b < _; omega)).trans f2
      clear hac hok hbad hrc
      unfold ptr
      go_wp2_with fail
      refine ⟨⟨f0, f2⟩, ?_⟩
      refine late_read rfl (fun K hK => ?_)
      apply Exists.intro
      refine ⟨fun w' hw' => ?_, ?_⟩
      · go_simp
        try with_reducible rfl
      go_simp
      refine hK _ ?_
      clear hK K
      refine late_do ?_
      go_wp2_with fail
      refine ⟨⟨f0' _, f2' _⟩, ?_⟩
      refine late_read rfl (fun K hK => ?_)
      apply Exists.intro
      refine ⟨fun w' hw' => ?_, ?_⟩
      · go_simp
        try with_reducible rfl
      go_simp
      refine hK _ ?_
      clear hK K
      refine late_end ?_
      go_wp2
      go_ret
      refine ⟨HBW2.out.alloc HBW2.out.size _, fun z hz' => ⟨_, rfl, ?_⟩, fun hn => (by rw [HR2.out] at hn; cases hn)⟩
      rw [HR2.out] at hz'
      simp only [Option.some.injEq] at hz'
      subst hz'
      have hbl : Below W2.heap.size W2 (W2.alloc (.cells #[.int .i64 2, .int .i64 ov, .pointer (some ⟨xb, 0, none⟩), .pointer (some ⟨yb, 0, none⟩)] 185)) := (Below.refl _ _).alloc (Nat.le_refl _) _
      refine .inr ⟨hov0, W2.heap.size, ptr xb, ptr yb, rfl, ⟨HBW2.out.size, by simp⟩, ?_, AtomAt.later HAT2.out hbl, AtomAt.later HAC.out hbl⟩
      exact Cells.new W2 [.int .i64 2, .int .i64 ov, ptr xb, ptr yb] _
end
end Go.Proofs.YthfacjlghcdndaaGreatDoor

namespace Go.Proofs.YthfacjlghcdndaaGreatDoor
open Go.RowKit
section
variable {lo base R Pb lm vm cm : Nat} {w0 w w' : World} {r : Fl.RS} {line : Int} {m : PMem}
theorem PrAt.addLocal (h : PrAt lo base R Pb lm vm cm w0 w r line m) (hb : r.begun = true) (x : List UInt8) (hlo : r.locals.length < 4) (hz : w.heap.size ≤ w'.heap.size) (hq : ∀ b, b < w.heap.size → b ≠ vm → b ≠ Pb → w'.heap[b]? = w.heap[b]?) (hbel : Below lo w0 w')
    (hcP : Cells w' Pb 5 (rw_ [m.pl, m.clv, m.chv, .int .i64 ((r.locals.length : Int) + 1), m.bv])) (hnv : NameMap w' vm (r.cells ++ (r.locals ++ [x]))) : PrAt lo base R Pb lm vm cm w0 w' { r with locals := r.locals ++ [x] } line m := by
  obtain ⟨b1, b2, b3, b4, b5, b6⟩ := h.hba
  obtain ⟨n1, n2, n3, n4, n5, n6, n7, n8, n9, n10⟩ := h.nd
  have hr := h.re.kept (w' := w') hz (fun b hw => hq b (h.re.wh b hw).2 (by have := h.re.wh b hw; omega) (by have := h.re.wh b hw; omega))
  exact { ok := { cn := h.ok.cn, lv := h.ok.lv, ce := h.ok.ce, ch := h.ok.ch, lo := by simp; omega, st := h.ok.st, fr := h.ok.fr, cl := h.ok.cl, hl := h.ok.hl, pairs := h.ok.pairs, kinds := h.ok.kinds, head := fun hh => (by rw [show ({ r with locals := r.locals ++ [x] } : Fl.RS).begun = r.begun from rfl, hb] at hh; cases hh), below := h.ok.below, clv := h.ok.clv, chv := h.ok.chv, lat := h.ok.lat },
          bel := hbel, fx := fun b f1 f2 f3 f4 f5 f6 => (hq b (by omega) f5 f3).trans (h.fx b f1 f2 f3 f4 f5 f6), hlo := h.hlo, hba := ⟨b1, b2, b3, b4, b5, by omega⟩, nd := h.nd, cR := (h.cR.block (hq _ (by omega) n3 n1)).congr (fun j hj => (rd_same Pb lm vm cm line r { r with locals := r.locals ++ [x] } m m j rfl rfl rfl rfl hj (fun _ _ _ _ _ => rfl)).symm),
          cP := by simpa using hcP, nl := h.nl.block (hq _ (by omega) n8 (Ne.symm n5)), nv := hnv, nc := h.nc.block (hq _ (by omega) (Ne.symm n10) (Ne.symm n7)), tab := h.tab,
          re := { wh := hr.wh, oc := hr.oc, tc := hr.tc, oh := hr.oh, th := hr.th, pb := hr.pb, tb := hr.tb, fa := hr.fa, oo := hr.oo, to := hr.to, la := hr.la } }
theorem Fl.RS.target_map (r : Fl.RS) (x : List UInt8) : r.target x = if 0 ≤ Fl.place (r.cells ++ r.locals) x then some ((Fl.place (r.cells ++ r.locals) x).toNat, r) else if r.locals.length = 4 then none else some (r.cells.length + r.locals.length, { r with locals := r.locals ++ [x] }) := by
  unfold Fl.RS.target
  rw [Fl.place_append]
  by_cases hc : 0 ≤ Fl.place r.cells x
  · rw [if_pos hc, if_pos hc, if_pos hc]
  · rw [if_neg hc, if_neg hc]
    by_cases hl : 0 ≤ Fl.place r.locals x
    · rw [if_pos hl, if_pos hl, if_pos (by omega)]
      congr 2; omega
    · rw [if_neg hl, if_neg hl, if_neg (show ¬ (0 : Int) ≤ -1 by omega)]
def VrEnds (lo base R Pb lm vm cm : Nat) (w0 : World) (r : Fl.RS) (line : Int) (m : PMem) (x : List UInt8) (w : World) (e : Ending) (w' : World) : Prop :=
  (∃ k r', r.target x = some (k, r') ∧ e = .returned (.int .i64 (k : Nat)) ∧ PrAt lo base R Pb lm vm cm w0 w' r' line m ∧ w.heap.size ≤ w'.heap.size ∧ ∀ b, b < w.heap.size → b ≠ vm → b ≠ Pb → w'.heap[b]? = w.heap[b]?) ∨ (r.target x = none ∧ e = .panicked (stopAt 5 line) ∧ Gone lo base R Pb lm vm cm w0 w')
set_option maxRecDepth 100000 in
set_option maxHeartbeats 1000000 in
theorem variable_any (h : PrAt lo base R Pb lm vm cm w0 w r line m) (hbg : r.begun = true) (x : List UInt8) (hx : x.length ≤ 100000) :
    Calls Tryz.prog 83 #[.pointer (some ⟨R, 0, none⟩), .string ⟨x.toArray⟩] w (VrEnds lo base R Pb lm vm cm w0 r line m x w) := by
  obtain ⟨pl, hpl⟩ : ∃ pl, pl = Fl.place (r.cells ++ r.locals) x := ⟨_, rfl⟩
  obtain ⟨tg, htg⟩ : ∃ tg, tg = r.target x := ⟨_, rfl⟩
  have hT := Fl.RS.target_map r x
  rw [← hpl] at hT
  have HT : Hid (r.target x = if 0 ≤ pl then some (pl.toNat, r) else if r.locals.length = 4 then none else some (r.cells.length + r.locals.length, { r with locals := r.locals ++ [x] })) := hT
  obtain ⟨mx, tb, hlk, htb, hmx⟩ := h.nv.look2 x hx
  rw [← hpl] at htb hmx
  have HTB : Hid (tb = decide (0 ≤ pl)) := htb
  have HMX : Hid (mx = max 0 pl) := hmx
  have HPL : Hid (pl = Fl.place (r.cells ++ r.locals) x) := hpl
  have c41 : w.cell? ⟨R, 41, none⟩ = some (.map (some vm)) := h.cR.c 41 (by omega)
  have c0 : w.cell? ⟨R, 0, none⟩ = some (.pointer (some ⟨Pb, 0, none⟩)) := h.cR.c 0 (by omega)
  have p3 : w.cell? ⟨Pb, 3, none⟩ = some (.int .i64 r.locals.length) := h.cP.c 3 (by omega)
  have HH : Hid (PrAt lo base R Pb lm vm cm w0 w r line m) := h
  have hlo4 := h.ok.lo
  have hce := h.ok.ce
  have hba := h.hba
  have hlo := h.hlo
  have hnd := h.nd
  clear h hT htg htb hmx hpl
  cases tb with
  | true =>
    have h0 : 0 ≤ pl := by have := HTB.out; simpa using this
    have HM2 : Hid (mx = (pl.toNat : Int)) := by show _ = _; rw [HMX.out]; omega
    go_enter Tryz.func83, Tryz.ntmps83
    go_wp2
    go_ret
    exact .inl ⟨pl.toNat, r, by rw [HT.out, if_pos h0], by rw [← HM2.out]; rfl, HH.out, Nat.le_refl _, fun _ _ _ _ => rfl⟩
  | false =>
    have h0 : ¬ 0 ≤ pl := by have := HTB.out; simpa using this
    have HRB : Hid (Calls Tryz.prog 46 #[.pointer (some ⟨R, 0, none⟩), .bool false, .int .i64 5] w fun e w' => e = .panicked (stopAt 5 line) ∧ Below w.heap.size w w') := rneed_bad R 5 line w (HH.out.cR.c 1 (by omega))
    have HOK : Hid (Calls Tryz.prog 46 #[.pointer (some ⟨R, 0, none⟩), .bool true, .int .i64 5] w fun e w' => e = .returned (.tuple #[]) ∧ w' = w) := rneed_ok R 5 w
    by_cases h4 : r.locals.length = 4
    · have HT2 : Hid (r.target x = none) := by show _ = _; rw [HT.out, if_neg h0, if_pos h4]
      have b4 : ¬ (r.locals.length : Int) < 4 := by omega
      clear h4
      go_enter Tryz.func83, Tryz.ntmps83
      go_wp2_with fail
      try rw [show decide ((r.locals.length : Int) < 4) = false from decide_eq_false (by omega)]
      refine HRB.out.mono ?_
      rintro e w1 ⟨rfl, hb1⟩
      exact ⟨rfl, .inr ⟨HT2.out, rfl, HH.out.gone hb1⟩⟩
    · have HT2 : Hid (r.target x = some (r.cells.length + r.locals.length, { r with locals := r.locals ++ [x] })) := by show _ = _; rw [HT.out, if_neg h0, if_neg h4]
      have b4 : (r.locals.length : Int) < 4 := by omega
      obtain ⟨W2, hput, hnm, hgr⟩ := HH.out.nv.put x hx (by rw [← HPL.out]; omega) (by simp; omega)
      have hlen := HH.out.nv.len
      obtain ⟨nn, hnn⟩ : ∃ nn, nn = (r.cells ++ r.locals).length := ⟨_, rfl⟩
      rw [← hnn] at hput hlen
      have HNN : Hid (nn = r.cells.length + r.locals.length) := by show _ = _; rw [hnn]; simp
      have q2 : ∀ k, k < w.heap.size → k ≠ vm → W2.heap[k]? = w.heap[k]? := fun k hk hne => hgr.block k hk (by simpa using hne)
      have d0 : W2.cell? ⟨R, 0, none⟩ = some (.pointer (some ⟨Pb, 0, none⟩)) := (World.cell?_of_block (a := ⟨R, 0, none⟩) (q2 R (by omega) (by omega))).trans c0
      have d3 : W2.cell? ⟨Pb, 3, none⟩ = some (.int .i64 r.locals.length) := (World.cell?_of_block (a := ⟨Pb, 3, none⟩) (q2 Pb (by omega) (by omega))).trans p3
      have dz : ∀ j, W2.frozen? ⟨Pb, j, none⟩ = false := fun j => (World.frozen?_of_block (a := ⟨Pb, j, none⟩) (q2 Pb (by omega) (by omega))).trans (HH.out.cP.z j)
      have hzW := hgr.size
      have HF : Hid (PrAt lo base R Pb lm vm cm w0 (W2.setCell ⟨Pb, 3, none⟩ (.int .i64 ((r.locals.length : Int) + 1))) { r with locals := r.locals ++ [x] } line m ∧ w.heap.size ≤ (W2.setCell ⟨Pb, 3, none⟩ (.int .i64 ((r.locals.length : Int) + 1))).heap.size ∧ ∀ b, b < w.heap.size → b ≠ vm → b ≠ Pb → (W2.setCell ⟨Pb, 3, none⟩ (.int .i64 ((r.locals.length : Int) + 1))).heap[b]? = w.heap[b]?) := by
        have hqq : ∀ b, b < w.heap.size → b ≠ vm → b ≠ Pb → (W2.setCell ⟨Pb, 3, none⟩ (.int .i64 ((r.locals.length : Int) + 1))).heap[b]? = w.heap[b]? := fun b hb1 hb2 hb3 => by rw [setCell_block _ _ _ _ _ hb3]; exact q2 b hb1 hb2
        refine ⟨HH.out.addLocal hbg x (by omega) (by rw [setCell_size]; omega) hqq ?_ ?_ ?_, by rw [setCell_size]; omega, hqq⟩
        · exact (HH.out.bel.grown hgr (by have := HH.out.bel.size; omega) (fun k hk => by simp only [Option.some.injEq] at hk; omega)).setCell (by show lo ≤ Pb; omega) _
        · have hc := (HH.out.cP.block (w' := W2) (q2 Pb (by omega) (by omega))).set (j := 3) (by omega) (.int .i64 ((r.locals.length : Int) + 1))
          refine hc.congr fun k hk => ?_
          rcases (show k = 0 ∨ k = 1 ∨ k = 2 ∨ k = 3 ∨ k = 4 by omega) with rfl | rfl | rfl | rfl | rfl <;> rfl
        · rw [← List.append_assoc]
          exact hnm.block (setCell_block _ _ _ _ _ (by omega))
      clear hgr hnm q2 h4 hnn
      go_enter Tryz.func83, Tryz.ntmps83
      go_wp2_with fail
      refine HOK.out.mono ?_
      rintro e w1 ⟨rfl, hw1⟩
      rw [hw1]
      clear hw1 w1 HOK HRB
      go_wp2
      go_ret
      exact .inl ⟨_, _, HT2.out, by rw [← HNN.out]; rfl, HF.out⟩
end
end Go.Proofs.YthfacjlghcdndaaGreatDoor

namespace Go.Proofs.YthfacjlghcdndaaGreatDoor
open Go.RowKit
section
variable {lo base R Pb lm vm cm : Nat} {w0 w w' : World} {r : Fl.RS} {line : Int} {m : PMem}
def lastV (gs : List GF) : Value := match gs with
  | [] => .pointer none
  | g :: _ => .pointer (some ⟨g.ob, 0, none⟩)
theorem ov_shape (h : PrAt lo base R Pb lm vm cm w0 w r line m) : ∃ ao cap, m.ov = .slice ao r.fr.length cap ∧ r.fr.length ≤ cap ∧ (0 < r.fr.length → ∃ g, ao = some ⟨g, 0, none⟩ ∧ base ≤ g ∧ g < w.heap.size ∧ w.cell? ⟨g, r.fr.length - 1, none⟩ = some (lastV m.gs)) := by
  have hl := h.re.fa.len
  rcases h.re.oo.2 with ⟨h1, h2⟩ | ⟨g, cap, cur, h1, hb, hg, hnc, hcm, hcs, ht⟩
  · exact ⟨none, 0, by rw [h1, h2], by omega, fun h0 => by omega⟩
  · refine ⟨_, cap, h1, by omega, fun h0 => ⟨g, rfl, hb, (Array.getElem?_eq_some_iff.1 hg).1, ?_⟩⟩
    have h4 := h.re.oo.cells (g := g) (by rw [h1]; rfl) (r.fr.length - 1) (lastV m.gs) (by
      cases hgs : m.gs with
      | nil => rw [hgs] at hl; simp at hl; omega
      | cons a l =>
        rw [hgs] at hl
        simp only [List.map_cons, List.reverse_cons, List.length_cons] at hl ⊢
        rw [List.getElem?_append_right (by simp; omega)]
        simp only [List.length_reverse, List.length_map]
        rw [show r.fr.length - 1 - l.length = 0 by omega]; rfl)
    have h5 : (⟨g, 0, none⟩ : Addr).add (r.fr.length - 1) = ⟨g, r.fr.length - 1, none⟩ := by unfold Addr.add; split <;> simp_all
    rw [h5] at h4; exact h4
set_option maxRecDepth 100000 in
set_option maxHeartbeats 1000000 in
theorem lastOpened_any (h : PrAt lo base R Pb lm vm cm w0 w r line m) :
    Calls Tryz.prog 85 #[.pointer (some ⟨R, 0, none⟩)] w fun e w' => e = .returned (lastV m.gs) ∧ Below w.heap.size w w' ∧ w'.heap = w.heap := by
  obtain ⟨ao, cap, hov, hcap, hlast⟩ := ov_shape h
  have c43 : w.cell? ⟨R, 43, none⟩ = some (.slice ao r.fr.length cap) := by rw [← hov]; exact h.cR.c 43 (by omega)
  have hl := h.re.fa.len
  have hfr := h.ok.fr
  by_cases h0 : r.fr.length = 0
  · have b0 : ((r.fr.length : Int) == 0) = true := by rw [h0]; rfl
    have HG : Hid (m.gs = []) := List.eq_nil_of_length_eq_zero (by omega)
    clear hlast h0 hl h
    go_enter Tryz.func85, Tryz.ntmps85
    go_wp2
    go_ret
    exact ⟨by rw [HG.out]; rfl, Below.refl _ _, rfl⟩
  · have b0 : ((r.fr.length : Int) == 0) = false := by rw [beq_eq_false_iff_ne]; omega
    obtain ⟨g, rfl, hgb, hgz, hgc⟩ := hlast (by omega)
    obtain ⟨n, hn⟩ : ∃ n, r.fr.length = n + 1 := ⟨r.fr.length - 1, by omega⟩
    rw [hn] at c43 hgc b0 hcap
    rw [Nat.add_sub_cancel] at hgc
    obtain ⟨lv, hlv⟩ : ∃ lv, lv = lastV m.gs := ⟨_, rfl⟩
    rw [← hlv] at hgc ⊢
    have hlvs : ∃ q, lv = .pointer (some ⟨q, 0, none⟩) := by
      rw [hlv]
      cases hgs : m.gs with
      | nil => rw [hgs] at hl; simp at hl; omega
      | cons a l => exact ⟨_, rfl⟩
    obtain ⟨q, rfl⟩ := hlvs
    have hnJ : (n : Int) ≤ 2 := by omega
    have hnI : (0 : Int) ≤ (n : Int) := by omega
    clear h0 hl h hov hlv hn hfr
    have hnc : n + 1 ≤ cap := hcap
    have hwr : IntKind.i64.wrap (n : Int) = (n : Int) := by simp [IntKind.wrap, IntKind.signed, IntKind.bits]; omega
    have hlt : (n : Int) < (n : Int) + 1 := by omega
    go_enter Tryz.func85, Tryz.ntmps85
    go_wp2_with fail
    refine wp_region_still_lit (by kernel_rfl) (by kernel_rfl) ?_
    iterate 13 still_step
    refine wpStill_nil ?_
    go_wp2
    go_ret
    exact ⟨rfl, (Below.refl _ _).drew, rfl⟩
end
end Go.Proofs.YthfacjlghcdndaaGreatDoor
