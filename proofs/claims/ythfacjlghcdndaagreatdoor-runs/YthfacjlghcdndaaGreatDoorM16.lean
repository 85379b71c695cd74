/- Texts Psc Psd Pse Psf. -/
import Derived.Test.YthfacjlghcdndaaGreatDoorM15
set_option linter.unusedSimpArgs false
set_option linter.unusedVariables false
namespace Go.Proofs.YthfacjlghcdndaaGreatDoor
open Go.RowKit
section
variable {lo base R Pb lm vm cm : Nat} {w0 w : World} {r : Fl.RS} {line : Int} {m : PMem}
set_option maxRecDepth 100000 in
set_option maxHeartbeats 2000000 in
theorem out_any (h : PrAt lo base R Pb lm vm cm w0 w r line m) (hbg : r.begun = true) (B : Nat) (v : Value) (k n : List UInt8) (vs : List (List UInt8)) (ln : Nat) (hln : line = (ln : Int)) (hB : B ≤ w.heap.size) (hw : WordsAt B w v (n :: vs)) (hko : (k == Fl.wOut) = true) (hsh : Fl.fitAll [97] vs = true ∨ Fl.fitAll [97, 111, 97] vs = true) :
    Calls Tryz.prog 65 #[.pointer (some ⟨R, 0, none⟩), v] w (MEnds lo base R Pb lm vm cm w0 line (r.stmt ln (k :: n :: vs))) := by
  obtain ⟨b, off, cap, rfl, hcap, hcm, hbB, hxs, hcell⟩ := hw.one (by simp)
  have hn : n.length ≤ 100000 := hxs n (by simp)
  have hvl : 1 ≤ vs.length := by rcases hsh with hs | hs <;> have := Fl.fitAll_len _ _ hs <;> simp at this <;> omega
  have hc0 : w.cell? ⟨b, off, none⟩ = some (.string ⟨n.toArray⟩) := hcell 0 (by simp)
  obtain ⟨res, hres⟩ : ∃ res, res = r.stmt ln (k :: n :: vs) := ⟨_, rfl⟩
  rw [← hres]
  obtain ⟨pl, hpl⟩ : ∃ pl, pl = Fl.place r.chans n := ⟨_, rfl⟩
  have HRES : Hid (res = match r.value vs with
    | none => (4, r)
    | some e => if pl < 0 then (4, r) else if 16 ≤ r.stmts then (5, r) else (0, r.put ⟨4, pl.toNat, ln, e, [], []⟩)) := by
    show _ = _
    rw [hres, hpl]
    match vs, hvl with
    | a :: vs', _ =>
      simp only [Fl.RS.stmt]
      cases r.value (a :: vs') with
      | none => rfl
      | some e =>
        simp only [hko, if_true]
        try rfl
  have c42 : w.cell? ⟨R, 42, none⟩ = some (.map (some cm)) := h.cR.c 42 (by omega)
  obtain ⟨mx, tb, hlk, htb, hmx⟩ := h.drew.nc.look2 n hn
  rw [← hpl] at htb hmx
  have HTB : Hid (tb = decide (0 ≤ pl)) := htb
  have HMX : Hid (mx = max 0 pl) := hmx
  have HH : Hid (PrAt lo base R Pb lm vm cm w0 w r line m) := h
  have HVL : Hid (∀ W, PrAt lo base R Pb lm vm cm w0 W r line m → Below w.heap.size w W → Calls Tryz.prog 81 #[.pointer (some ⟨R, 0, none⟩), .slice (some ⟨b, off + 1, none⟩) vs.length (cap - 1)] W (PvEnds (r.value vs) line W)) := fun W hW hbW =>
    value_any hW b (off + 1) vs.length (cap - 1) vs rfl (by simp at hcap; omega) (fun x hx => hxs x (by simp [hx])) hsh (fun i hi => by
      rw [hbW.cell (p := ⟨b, off + 1 + i, none⟩) (by show b < _; omega)]
      have := hcell (i + 1) (by simp; omega)
      rw [show off + 1 + i = off + (i + 1) by omega, this]; rfl)
  have hbz : b < w.heap.size := by omega
  simp only [List.length_cons] at hcap ⊢
  have hcI : (2 : Int) ≤ (cap : Int) := by omega
  have hlI : (1 : Int) ≤ (vs.length : Int) := by omega
  have hlJ : (vs.length : Int) + 1 ≤ (cap : Int) := by omega
  have hcne : cap ≠ 1 := by omega
  unfold maxLen at hcm
  have HLN : Hid (line = (ln : Int)) := hln
  clear h hw hxs hcell hres htb hmx hsh hko hln hpl
  go_enter Tryz.func65, Tryz.ntmps65
  go_wp2_with fail
  refine wp_region_still_lit (by kernel_rfl) (by kernel_rfl) ?_
  iterate 7 still_step
  refine still_value rfl (.tuple #[.int .i64 mx, .bool tb]) (exec_lookup _ _ 92 rfl (.map (some cm)) (.string ⟨n.toArray⟩) _ rfl rfl hlk) ?_
  iterate 5 still_step
  refine wpStill_nil ?_
  change Exit.then _ _ _ _ w.drew
  have HW : Hid (PrAt lo base R Pb lm vm cm w0 w.drew r line m) := HH.out.drew
  have HBW : Hid (Below w.heap.size w w.drew) := (Below.refl _ _).drew
  have hdz : w.drew.heap.size = w.heap.size := rfl
  have HDZ : Hid (w.drew.heap.size = w.heap.size) := hdz
  clear hlk hc0 c42 hdz
  generalize w.drew = W at *
  have hba := HW.out.hba
  have hlo := HW.out.hlo
  have hzz := HBW.out.size
  have HRB : Hid (Calls Tryz.prog 46 #[.pointer (some ⟨R, 0, none⟩), .bool false, .int .i64 4] W fun e w' => e = .panicked (stopAt 4 line) ∧ Below W.heap.size W w') := rneed_bad R 4 line W (HW.out.cR.c 1 (by omega))
  have HOK : Hid (Calls Tryz.prog 46 #[.pointer (some ⟨R, 0, none⟩), .bool true, .int .i64 4] W fun e w' => e = .returned (.tuple #[]) ∧ w' = W) := rneed_ok R 4 W
  cases tb with
  | false =>
    have h0 : pl < 0 := by have := HTB.out; simpa using this
    have HR : Hid (res = (4, r)) := by
      show _ = _; rw [HRES.out]
      cases r.value vs with
      | none => rfl
      | some e => exact if_pos h0
    go_wp2_with fail
    refine HRB.out.mono ?_
    rintro e w1 ⟨rfl, hb1⟩
    exact ⟨rfl, MEnds.bad HR.out (by decide) rfl (HW.out.gone hb1)⟩
  | true =>
    have h0 : 0 ≤ pl := by have := HTB.out; simpa using this
    obtain ⟨q, hq⟩ : ∃ q : Nat, pl = q := ⟨pl.toNat, by omega⟩
    have hmq : mx = (q : Int) := by rw [HMX.out, hq]; omega
    subst hmq
    have HQ : Hid (pl = (q : Int)) := hq
    clear hq h0 HMX HTB
    go_wp2_with fail
    refine HOK.out.mono ?_
    rintro e w1 ⟨rfl, hw1⟩
    rw [hw1]
    clear hw1 w1 HOK HRB
    have HVW := HVL.out W HW.out HBW.out
    have HVH : Hid (Calls Tryz.prog 81 #[.pointer (some ⟨R, 0, none⟩), .slice (some ⟨b, off + 1, none⟩) vs.length (cap - 1)] W (PvEnds (r.value vs) line W)) := HVW
    clear HVW HVL
    go_wp2_with fail
    refine HVH.out.mono ?_
    rintro e W2 ⟨hb2, hok, hbad⟩
    have HP2 : Hid (PrAt lo base R Pb lm vm cm w0 W2 r line m) := HW.out.below hb2
    have HB2 : Hid (Below W.heap.size W W2) := hb2
    have hz2 := hb2.size
    clear HVH hb2
    cases hval : r.value vs with
    | none =>
      obtain rfl := hbad hval
      have HR : res = (4, r) := by rw [HRES.out, hval]
      exact ⟨rfl, MEnds.bad HR (by decide) rfl (HW.out.gone HB2.out)⟩
    | some ex =>
      obtain ⟨pb, rfl, hpv⟩ := hok ex hval
      have HPV : Hid (PVal (NewB W W2) W2 (ptr pb) ex) := hpv
      have HR2 : Hid (res = if 16 ≤ r.stmts then (5, r) else (0, r.put ⟨4, q, ln, ex, [], []⟩)) := by
        show _ = _; rw [HRES.out, hval, HQ.out]
        exact if_neg (by omega)
      have HTL : Hid (Calls Tryz.prog 82 #[.pointer (some ⟨R, 0, none⟩), .pointer (some ⟨W2.heap.size, 0, none⟩)] (W2.alloc (.cells #[.int .i64 4, .int .i64 0, .int .i64 q, .pointer (some ⟨pb, 0, none⟩), .slice none 0 0, .slice none 0 0] 169)) fun e' w' =>
            (16 ≤ r.stmts ∧ e' = .panicked (stopAt 5 line) ∧ Gone lo base R Pb lm vm cm w0 w') ∨ (r.stmts < 16 ∧ e' = .returned (.tuple #[]) ∧ ∃ m', PrAt lo base R Pb lm vm cm w0 w' (r.put ⟨4, q, ln, ex, [], []⟩) line m')) :=
          put_tail HP2.out hbg W.heap.size 4 q ln pb ex (fun b hb => (HW.out.re.wh b hb).2) ⟨by omega, by omega⟩ HLN.out
            (HPV.out.kept (fun b hb => ⟨hb.1, hb.2⟩) (fun _ _ => rfl))
      clear hpv hok hbad HRES hval
      go_wp2_with fail
      refine HTL.out.mono ?_
      rintro e W4 (⟨h16, rfl, hb4⟩ | ⟨h16, rfl, m', hP4⟩)
      · have HR : res = (5, r) := by rw [HR2.out, if_pos h16]
        exact ⟨rfl, MEnds.bad HR (by decide) rfl hb4⟩
      · have HR : res = (0, r.put ⟨4, q, ln, ex, [], []⟩) := by rw [HR2.out, if_neg (by omega)]
        have HF : Hid (MEnds lo base R Pb lm vm cm w0 line res (.returned (.tuple #[])) W4) := MEnds.good HR rfl hP4
        clear HR hP4 HTL
        go_wp2
        go_end0
        exact HF.out
end
end Go.Proofs.YthfacjlghcdndaaGreatDoor

namespace Go.Proofs.YthfacjlghcdndaaGreatDoor
open Go.RowKit
section
variable {lo base R Pb lm vm cm : Nat} {w0 w : World} {r : Fl.RS} {line : Int} {m : PMem}
theorem own_none (e : TypeId) (w : World) : w.ownsRow base e 1 (.slice none 0 0) 0 [] := ⟨rfl, .inl ⟨rfl, rfl⟩⟩
theorem PartAt.none (d : Nat) (S : Nat → Prop) (w : World) : PartAt d S base w (.slice none 0 0) [] [] := ⟨[], own_none _ _, rfl, fun i hi => absurd hi (by simp)⟩
theorem PrAt.elses (h : PrAt lo base R Pb lm vm cm w0 w r line m) (hb : r.begun = true) {f : Fl.Frame} {fs : List Fl.Frame} {g : GF} {gs : List GF} (hfr : r.fr = f :: fs) (hgs : m.gs = g :: gs) (hh : f.had = false) : ∃ m', PrAt lo base R Pb lm vm cm w0 (w.setCell ⟨g.ob, 1, none⟩ (.bool true)) r.elses line m' := by
  obtain ⟨b1, b2, b3, b4, b5, b6⟩ := h.hba
  obtain ⟨l1, l2, l3, l4, l5⟩ := h.hlo
  have hfa := h.re.fa
  rw [hfr, hgs] at hfa
  obtain ⟨hf, hft⟩ := hfa
  have hob := h.re.wh g.ob (by rw [hf.to]; omega)
  have hz : (w.setCell ⟨g.ob, 1, none⟩ (.bool true)).heap.size = w.heap.size := setCell_size _ _ _
  have q : ∀ k, k ≠ g.ob → (w.setCell ⟨g.ob, 1, none⟩ (.bool true)).heap[k]? = w.heap[k]? := fun k hk => setCell_block _ _ _ _ _ hk
  have q' : ∀ k, m.who k ≠ 11 + 3 * fs.length → (w.setCell ⟨g.ob, 1, none⟩ (.bool true)).heap[k]? = w.heap[k]? := fun k hk => q k (fun he => hk (by rw [he]; exact hf.to))
  obtain ⟨w', hw'⟩ : ∃ w', w' = w.setCell ⟨g.ob, 1, none⟩ (.bool true) := ⟨_, rfl⟩
  have hbel : Below lo w0 w' := by rw [hw']; exact h.bel.setCell (by show lo ≤ g.ob; omega) _
  have hco : Cells w' g.ob 2 (rw_ [ptr g.sb, .bool true]) := by
    rw [hw']
    refine (hf.co.set (j := 1) (by omega) (.bool true)).congr fun k hk => ?_
    rcases (show k = 0 ∨ k = 1 by omega) with rfl | rfl <;> rfl
  rw [← hw'] at hz q q' ⊢
  clear hw'
  have hels : r.elses = { r with fr := { f with had := true } :: fs } := by unfold Fl.RS.elses; rw [hfr]
  rw [hels]
  have hact : g.act f = g.fv := by unfold GF.act; rw [hh]; rfl
  obtain ⟨hev, hel⟩ := hf.pe hh
  have hta : ∀ b, g.fv.ownBlock = some b → m.who b = 12 + 3 * fs.length := fun b hb' => hf.ta b (by rw [hact]; exact hb')
  obtain ⟨who', hwho⟩ : ∃ who' : Nat → Nat, who' = fun b => if g.fv.ownBlock = some b then 0 else m.who b := ⟨_, rfl⟩
  have wold : ∀ b, m.who b ≠ 12 + 3 * fs.length → who' b = m.who b := fun b hb' => by rw [hwho]; exact if_neg (fun he => hb' (hta b he))
  have wfv : ∀ b, g.fv.ownBlock = some b → who' b = 0 := fun b hb' => by rw [hwho]; exact if_pos hb'
  have w5 : ∀ b, who' b ≠ 5 → m.who b ≠ 5 := fun b hb' he => hb' (by rw [wold b (by omega)]; exact he)
  clear hwho
  have h0 : ∀ b, m.who b = 0 → who' b = 0 := fun b hb' => (wold b (by omega)).trans hb'
  have h0h : ∀ b, m.who b = 0 → w'.heap[b]? = w.heap[b]? := fun b hb' => q' b (by omega)
  have hlw := h.re.low (w' := w') who' (fun b hb' => ⟨wold b (by omega), q' b (by omega)⟩)
  have hcn := h.ok.cn
  have hst := h.ok.st
  rw [hfr] at hcn
  have hfirst : f.first.length ≤ 16 := by have := hcn.2.1; rw [hh] at this; simp at this; omega
  refine ⟨{ m with who := who' }, ?_⟩
  refine { ok := ?ok, bel := hbel, fx := fun b f1 f2 f3 f4 f5 f6 => (q b (by omega)).trans (h.fx b f1 f2 f3 f4 f5 f6), hlo := h.hlo, hba := ⟨b1, b2, b3, b4, b5, by omega⟩, nd := h.nd, cR := ?cR, cP := h.cP.block (q _ (by omega)), nl := h.nl.block (q _ (by omega)), nv := h.nv.block (q _ (by omega)), nc := h.nc.block (q _ (by omega)), tab := h.tab, re := ?re }
  case ok =>
    exact { cn := ⟨by have := hcn.1; simpa using this, (by
              show cntFr r.stmts 0 ({ f with had := true } :: fs)
              obtain ⟨c1, c2, c3⟩ := hcn.2
              rw [hh] at c1 c2; simp at c1 c2
              refine ⟨?_, ?_, c3⟩ <;> simp <;> omega)⟩,
            lv := h.ok.lv, ce := h.ok.ce, ch := h.ok.ch, lo := h.ok.lo, st := h.ok.st, fr := (by have := h.ok.fr; rw [hfr] at this; simpa using this), cl := h.ok.cl, hl := h.ok.hl, pairs := h.ok.pairs,
            kinds := (by
              intro k hk
              have hkk := h.ok.kinds
              rw [hfr] at hkk
              rcases List.mem_cons.1 hk with rfl | hk
              · exact hkk f (by simp)
              · exact hkk k (by simp [hk])),
            head := fun hd => (by rw [show ({ r with fr := { f with had := true } :: fs } : Fl.RS).begun = r.begun from rfl, hb] at hd; cases hd), below := h.ok.below, clv := h.ok.clv, chv := h.ok.chv, lat := h.ok.lat }
  case cR =>
    refine (h.cR.block (q R (by omega))).congr fun j hj => ?_
    exact (rd_same Pb lm vm cm line r { r with fr := { f with had := true } :: fs } m { m with who := who' } j rfl rfl rfl rfl hj (fun _ _ _ _ _ => rfl)).symm
  case re =>
    have hool := hlw.oo
    rw [hfr] at hool
    refine { wh := fun b hb' => (by have := h.re.wh b (w5 b hb'); exact ⟨this.1, by omega⟩), oc := hlw.oc.1, tc := hlw.oc.2, oh := hlw.oh.1, th := hlw.oh.2, pb := hlw.pb.1, tb := hlw.pb.2, fa := ?fa, oo := hool.1, to := hool.2, la := hlw.la }
    case fa =>
      show FramesAt who' base w' (3 - ({ f with had := true } :: fs).length) [] ({ f with had := true } :: fs) m.gs
      rw [hgs]
      refine ⟨?_, ?_⟩
      · refine { ts := (wold g.sb (by rw [hf.ts]; omega)).trans hf.ts, to := (wold g.ob (by rw [hf.to]; omega)).trans hf.to, ta := fun b hb' => ?ta, co := hco, cs := hf.cs.block (q' g.sb (by rw [hf.ts]; omega)), hv := hf.hv.kept h0 h0h, pa := ?pa, pf := fun _ => ?pf, pe := fun hd => by cases hd }
        case ta =>
          have : g.ev.ownBlock = some b := hb'
          rw [hev] at this; cases this
        case pa =>
          show PartAt _ _ base w' g.ev f.els []
          rw [hev, hel]; exact PartAt.none _ _ _
        case pf =>
          have hp := hf.pa
          rw [hact, hh] at hp
          exact PartAt.closed (hp.kept h0 h0h (fun b hb' => q' b (by rw [hta b hb']; omega))) wfv hfirst
      · exact hft.kept (fun b hb' => by
          rcases hb' with hb' | hb'
          · exact ⟨wold b (by omega), h0h b hb'⟩
          · exact ⟨wold b (by omega), q' b (by omega)⟩)
set_option maxRecDepth 100000 in
set_option maxHeartbeats 2000000 in
theorem openElse_any (h : PrAt lo base R Pb lm vm cm w0 w r line m) (hbg : r.begun = true) (v : Value) (k : List UInt8) (ln : Nat) (hk : (k == Fl.wElse) = true) :
    Calls Tryz.prog 67 #[.pointer (some ⟨R, 0, none⟩), v] w (MEnds lo base R Pb lm vm cm w0 line (r.stmt ln [k])) := by
  obtain ⟨res, hres⟩ : ∃ res, res = r.stmt ln [k] := ⟨_, rfl⟩
  rw [← hres]
  have HLO : Hid (Calls Tryz.prog 85 #[.pointer (some ⟨R, 0, none⟩)] w fun e w' => e = .returned (lastV m.gs) ∧ Below w.heap.size w w' ∧ w'.heap = w.heap) := lastOpened_any h
  have HH : Hid (PrAt lo base R Pb lm vm cm w0 w r line m) := h
  have hl := h.re.fa.len
  have hba := h.hba
  have hlo := h.hlo
  cases hfr : r.fr with
  | nil =>
    have hgs : m.gs = [] := by rw [hfr] at hl; exact List.eq_nil_of_length_eq_zero (by simpa using hl)
    have HR : Hid (res = (3, r)) := by show _ = _; rw [hres]; simp only [Fl.RS.stmt, hfr]
    rw [hgs] at HLO
    unfold lastV at HLO
    clear h hres hfr hgs hl
    go_enter Tryz.func67, Tryz.ntmps67
    go_wp2_with fail
    refine HLO.out.mono ?_
    rintro e W ⟨rfl, hb1, hh1⟩
    have hzz := hb1.size
    have HW : Hid (PrAt lo base R Pb lm vm cm w0 W r line m) := HH.out.below hb1
    have HRB : Hid (Calls Tryz.prog 46 #[.pointer (some ⟨R, 0, none⟩), .bool false, .int .i64 3] W fun e w' => e = .panicked (stopAt 3 line) ∧ Below W.heap.size W w') := rneed_bad R 3 line W (HW.out.cR.c 1 (by omega))
    clear hb1 hh1 HLO
    go_wp2_with fail
    refine HRB.out.mono ?_
    rintro e w1 ⟨rfl, hb1⟩
    exact ⟨rfl, MEnds.bad HR.out (by decide) rfl (HW.out.gone hb1)⟩
  | cons f fs =>
    cases hgs : m.gs with
    | nil => rw [hfr, hgs] at hl; simp at hl
    | cons g gs =>
      have hfa := h.re.fa
      rw [hfr, hgs] at hfa
      have hkd := h.ok.kinds f (by rw [hfr]; simp)
      have HF : Hid (FrameOk m.who base w (3 - (f :: fs).length) fs.length [] f g) := hfa.1
      have HFR : Hid (r.fr = f :: fs) := hfr
      have HGS : Hid (m.gs = g :: gs) := hgs
      have HR : Hid (res = if f.kind = 5 ∧ f.had = false then (0, r.elses) else (3, r)) := by show _ = _; rw [hres]; simp only [Fl.RS.stmt, hfr, hk, if_true]
      rw [hgs] at HLO
      unfold lastV at HLO
      clear h hres hfr hgs hl hfa
      go_enter Tryz.func67, Tryz.ntmps67
      go_wp2_with fail
      refine HLO.out.mono ?_
      rintro e W ⟨rfl, hb1, hh1⟩
      have hzz := hb1.size
      have HW : Hid (PrAt lo base R Pb lm vm cm w0 W r line m) := HH.out.below hb1
      have HRB : Hid (Calls Tryz.prog 46 #[.pointer (some ⟨R, 0, none⟩), .bool false, .int .i64 3] W fun e w' => e = .panicked (stopAt 3 line) ∧ Below W.heap.size W w') := rneed_bad R 3 line W (HW.out.cR.c 1 (by omega))
      have HOK : Hid (Calls Tryz.prog 46 #[.pointer (some ⟨R, 0, none⟩), .bool true, .int .i64 3] W fun e w' => e = .returned (.tuple #[]) ∧ w' = W) := rneed_ok R 3 W
      have o0 : W.cell? ⟨g.ob, 0, none⟩ = some (.pointer (some ⟨g.sb, 0, none⟩)) := (HF.out.co.block (w' := W) (by rw [hh1])).c 0 (by omega)
      have o1 : W.cell? ⟨g.ob, 1, none⟩ = some (.bool f.had) := (HF.out.co.block (w' := W) (by rw [hh1])).c 1 (by omega)
      have oz : ∀ j, W.frozen? ⟨g.ob, j, none⟩ = false := (HF.out.co.block (w' := W) (by rw [hh1])).z
      have s0 : W.cell? ⟨g.sb, 0, none⟩ = some (.int .i64 f.kind) := (HF.out.cs.block (w' := W) (by rw [hh1])).c 0 (by omega)
      clear hb1 hh1 HLO HF
      have HBAD : Hid ((f.kind = 5 ∧ f.had = false → False) → res = (3, r)) := fun hn => by rw [HR.out]; exact if_neg hn
      have HGOOD : Hid (f.kind = 5 → f.had = false → MEnds lo base R Pb lm vm cm w0 line res (.returned (.tuple #[])) (W.setCell ⟨g.ob, 1, none⟩ (.bool true))) := fun h1 h2 => by
        obtain ⟨m', hm⟩ := HW.out.elses hbg HFR.out HGS.out h2
        exact MEnds.good (by rw [HR.out]; exact if_pos ⟨h1, h2⟩) rfl hm
      clear HR
      by_cases h5 : f.kind = 5
      · have k5 : ((f.kind : Int) == 5) = true := by rw [h5]; rfl
        cases hhd : f.had with
        | true =>
          rw [hhd] at o1
          have HX : Hid (res = (3, r)) := HBAD.out (fun hx => by rw [hhd] at hx; cases hx.2)
          clear HBAD HGOOD hhd
          go_wp2_with fail
          refine HRB.out.mono ?_
          rintro e w1 ⟨rfl, hb1⟩
          exact ⟨rfl, MEnds.bad HX.out (by decide) rfl (HW.out.gone hb1)⟩
        | false =>
          rw [hhd] at o1
          have HX := HGOOD.out h5 hhd
          have HXH : Hid (MEnds lo base R Pb lm vm cm w0 line res (.returned (.tuple #[])) (W.setCell ⟨g.ob, 1, none⟩ (.bool true))) := HX
          clear HBAD HGOOD hhd HX h5
          go_wp2_with fail
          refine HOK.out.mono ?_
          rintro e w1 ⟨rfl, hw1⟩
          rw [hw1]
          clear hw1 w1 HOK HRB
          go_wp2
          go_end0
          exact HXH.out
      · have k5 : ((f.kind : Int) == 5) = false := by rw [beq_eq_false_iff_ne]; omega
        have HX : Hid (res = (3, r)) := HBAD.out (fun hx => h5 hx.1)
        clear HBAD HGOOD h5
        go_wp2_with fail
        refine HRB.out.mono ?_
        rintro e w1 ⟨rfl, hb1⟩
        exact ⟨rfl, MEnds.bad HX.out (by decide) rfl (HW.out.gone hb1)⟩
end
end Go.Proofs.YthfacjlghcdndaaGreatDoor

namespace Go.Proofs.YthfacjlghcdndaaGreatDoor
open Go.RowKit
section
variable {lo base R Pb lm vm cm : Nat} {w0 w w' : World} {r : Fl.RS} {line : Int} {m : PMem}
theorem own_less {e : TypeId} {g n cap : Nat} {xs : List Value} {x : Value} (h : w.ownsRow base e 1 (.slice (some ⟨g, 0, none⟩) (n + 1) cap) (n + 1) (xs ++ [x])) : w.ownsRow base e 1 (.slice (some ⟨g, 0, none⟩) n cap) n xs := by
  obtain ⟨h1, h2⟩ := h
  have hl : xs.length = n := by simp at h1; omega
  refine ⟨by omega, ?_⟩
  rcases h2 with ⟨h3, -⟩ | ⟨g', cap', cur, h3, hb, hg, hc, hm, hs, ht⟩
  · cases h3
  · simp only [Value.slice.injEq, Option.some.injEq, Addr.mk.injEq] at h3
    obtain ⟨⟨rfl, -⟩, -, rfl⟩ := h3
    refine .inr ⟨g, cap, cur, rfl, hb, hg, by omega, hm, hs, ?_⟩
    have := congrArg (List.take n) ht
    rw [List.take_take, List.take_append_of_le_length (by omega), List.take_of_length_le (by omega : xs.length ≤ n)] at this
    rw [Nat.mul_one] at this ⊢
    rw [show min n (n + 1) = n by omega] at this
    exact this
theorem PartAt.shut {d : Nat} {S S' : Nat → Prop} {v p : Value} {ts : List Fl.Stmt} {s : Fl.Stmt} (h : PartAt d S base w v ts [p]) (hS : ∀ b, S b → S' b) (hw : ∀ b, S b → w'.heap[b]? = w.heap[b]?) (hv : ∀ b, v.ownBlock = some b → w'.heap[b]? = w.heap[b]?) (hp : PStmt1 (PStmts d) S' w' p s) : PartAt d S' base w' v (ts ++ [s]) [] := by
  obtain ⟨ps, h1, h2, h3⟩ := PartAt.kept (S' := S') (w' := w') h hS hw hv
  refine ⟨ps ++ [p], ?_, by simp [h2], fun i hi => ?_⟩
  · simp only [List.length_append, List.length_cons, List.length_nil, List.append_nil, Nat.add_zero] at h1 ⊢
    exact h1
  · by_cases hl : i < ts.length
    · have := h3 i hl
      rw [List.getD_eq_getElem?_getD, List.getElem?_append_left (by omega), List.getD_eq_getElem?_getD, List.getElem?_append_left hl]
      rw [List.getD_eq_getElem?_getD, List.getD_eq_getElem?_getD] at this
      exact this
    · have he : i = ts.length := by simp at hi; omega
      subst he
      rw [List.getD_eq_getElem?_getD, List.getElem?_append_right (by omega), List.getD_eq_getElem?_getD, List.getElem?_append_right (by omega)]
      rw [h2]
      simpa using hp
theorem tailOf_two (g g2 : GF) (gs : List GF) : tailOf (g :: g2 :: gs) = tailOf (g2 :: gs) := by
  simp only [tailOf]
  cases tailOf gs <;> rfl
theorem FrameOk.done {who who' : Nat → Nat} {d i : Nat} {f : Fl.Frame} {g : GF} (h : FrameOk who base w d i [] f g) (hlen : f.first.length ≤ 16 ∧ f.els.length ≤ 16) (hS : ∀ b, who b = 0 ∨ who b = 10 + 3 * i ∨ who b = 12 + 3 * i → who' b = 0) (hw : ∀ b, who b ≠ 5 → w'.heap[b]? = w.heap[b]?) : PStmt1 (PStmts (d + 1)) (fun b => who' b = 0) w' (ptr g.sb) f.done := by
  have h0 : ∀ b, who b = 0 → who' b = 0 := fun b hb => hS b (.inl hb)
  have h0h : ∀ b, who b = 0 → w'.heap[b]? = w.heap[b]? := fun b hb => hw b (by omega)
  have hp : PStmts (d + 1) (fun b => who' b = 0) w' (g.act f) (if f.had then f.els else f.first) := by
    refine PartAt.closed (h.pa.kept h0 h0h (fun b hb => hw b (by rw [h.ta b hb]; omega))) (fun b hb => hS b (.inr (.inr (h.ta b hb)))) ?_
    split
    · exact hlen.2
    · exact hlen.1
  refine ⟨g.sb, g.vp, g.fv, g.ev, rfl, hS _ (.inr (.inl h.ts)), h.cs.block (hw _ (by rw [h.ts]; omega)), h.hv.kept h0 h0h, ?_, ?_⟩
  · show PStmts (d + 1) _ w' g.fv f.first
    cases hh : f.had with
    | true => exact PStmts.kept h0 h0h _ _ _ (h.pf hh)
    | false => unfold GF.act at hp; rw [hh] at hp; exact hp
  · show PStmts (d + 1) _ w' g.ev f.els
    cases hh : f.had with
    | true => unfold GF.act at hp; rw [hh] at hp; exact hp
    | false => obtain ⟨e1, e2⟩ := h.pe hh; rw [e1, e2]; exact PStmts.nil _ _ _
theorem PrAt.ends (h : PrAt lo base R Pb lm vm cm w0 w r line m) (hb : r.begun = true) {f : Fl.Frame} {fs : List Fl.Frame} {g : GF} {gs : List GF} {q cap : Nat} (hfr : r.fr = f :: fs) (hgs : m.gs = g :: gs) (hov : m.ov = .slice (some ⟨q, 0, none⟩) (fs.length + 1) cap) : ∃ m', PrAt lo base R Pb lm vm cm w0 (w.setCell ⟨R, 43, none⟩ (.slice (some ⟨q, 0, none⟩) fs.length cap)) r.ends line m' := by
  obtain ⟨b1, b2, b3, b4, b5, b6⟩ := h.hba
  obtain ⟨l1, l2, l3, l4, l5⟩ := h.hlo
  obtain ⟨n1, n2, n3, n4, n5, n6, n7, n8, n9, n10⟩ := h.nd
  have hfa := h.re.fa
  rw [hfr, hgs] at hfa
  obtain ⟨hf, hft⟩ := hfa
  have hfr3 := h.ok.fr
  rw [hfr] at hfr3
  simp only [List.length_cons] at hfr3 hf hft
  have hcn := h.ok.cn
  have hst := h.ok.st
  rw [hfr] at hcn
  have hz : (w.setCell ⟨R, 43, none⟩ (.slice (some ⟨q, 0, none⟩) fs.length cap)).heap.size = w.heap.size := setCell_size _ _ _
  have qn : ∀ k, k ≠ R → (w.setCell ⟨R, 43, none⟩ (.slice (some ⟨q, 0, none⟩) fs.length cap)).heap[k]? = w.heap[k]? := fun k hk => setCell_block _ _ _ _ _ hk
  have hbel := h.bel.setCell (p := ⟨R, 43, none⟩) (by show lo ≤ R; omega) (.slice (some ⟨q, 0, none⟩) fs.length cap)
  have hcR := h.cR.set (j := 43) (by omega) (.slice (some ⟨q, 0, none⟩) fs.length cap)
  obtain ⟨w', hw'⟩ : ∃ w', w' = w.setCell ⟨R, 43, none⟩ (.slice (some ⟨q, 0, none⟩) fs.length cap) := ⟨_, rfl⟩
  rw [← hw'] at hz qn hbel hcR ⊢
  clear hw'
  have qw : ∀ b, m.who b ≠ 5 → w'.heap[b]? = w.heap[b]? := fun b hb' => qn b (by have := h.re.wh b hb'; omega)
  obtain ⟨who', hwho⟩ : ∃ who' : Nat → Nat, who' = fun b => if 10 + 3 * fs.length ≤ m.who b ∧ m.who b ≤ 12 + 3 * fs.length then 0 else m.who b := ⟨_, rfl⟩
  have wold : ∀ b, ¬ (10 + 3 * fs.length ≤ m.who b ∧ m.who b ≤ 12 + 3 * fs.length) → who' b = m.who b := fun b hb' => by rw [hwho]; exact if_neg hb'
  have wnew : ∀ b, 10 + 3 * fs.length ≤ m.who b → m.who b ≤ 12 + 3 * fs.length → who' b = 0 := fun b h1 h2 => by rw [hwho]; exact if_pos ⟨h1, h2⟩
  have w5 : ∀ b, who' b ≠ 5 → m.who b ≠ 5 := fun b hb' he => hb' (by rw [wold b (by omega)]; exact he)
  clear hwho
  have h0 : ∀ b, m.who b = 0 → who' b = 0 := fun b hb' => (wold b (by omega)).trans hb'
  have h0h : ∀ b, m.who b = 0 → w'.heap[b]? = w.heap[b]? := fun b hb' => qw b (by omega)
  have hlw := h.re.low (w' := w') who' (fun b hb' => ⟨wold b (by omega), qw b (by omega)⟩)
  have hlen : f.first.length ≤ 16 ∧ f.els.length ≤ 16 := by obtain ⟨c1, c2, -⟩ := hcn.2; exact ⟨by omega, by omega⟩
  have hdone := hf.done (w' := w') (who' := who') hlen (fun b hb' => by
    rcases hb' with hb' | hb' | hb'
    · exact h0 b hb'
    · exact wnew b (by omega) (by omega)
    · exact wnew b (by omega) (by omega)) qw
  rw [show 3 - (fs.length + 1) + 1 = 3 - fs.length by omega] at hdone hft
  have hool := hlw.oo
  rw [hfr, hgs, hov] at hool
  simp only [List.length_cons, List.map_cons, List.reverse_cons] at hool
  have hool1 := own_less hool.1
  have hRC : ∀ (r' : Fl.RS) (m' : PMem), r'.begun = r.begun → r'.levels.length = r.levels.length → r'.stmts = r.stmts → m'.ov = .slice (some ⟨q, 0, none⟩) fs.length cap → m'.t = m.t → Cells w' R 45 (rdCell Pb lm vm cm line r' m') := fun r' m' e1 e2 e4 e5 e6 => hcR.congr (fun j hj => by
    by_cases h4 : j = 43
    · subst h4; rw [if_pos rfl]; exact e5.symm
    · rw [if_neg h4]
      unfold rdCell
      rw [e1, e2, e4, e6]
      by_cases hs : j = 0 ∨ j = 1 ∨ j = 2 ∨ j = 3 ∨ j = 40 ∨ j = 41 ∨ j = 42 ∨ j = 44
      · rcases hs with rfl | rfl | rfl | rfl | rfl | rfl | rfl | rfl <;> rfl
      · rw [if_neg (show ¬ j = 0 by omega), if_neg (show ¬ j = 1 by omega), if_neg (show ¬ j = 2 by omega), if_neg (show ¬ j = 3 by omega), if_neg (show ¬ j = 40 by omega), if_neg (show ¬ j = 41 by omega), if_neg (show ¬ j = 42 by omega), if_neg h4, if_neg (show ¬ j = 44 by omega)]
        rw [if_neg (show ¬ j = 0 by omega), if_neg (show ¬ j = 1 by omega), if_neg (show ¬ j = 2 by omega), if_neg (show ¬ j = 3 by omega), if_neg (show ¬ j = 40 by omega), if_neg (show ¬ j = 41 by omega), if_neg (show ¬ j = 42 by omega), if_neg h4])
  have hto : ∀ b, (Value.slice (some ⟨q, 0, none⟩) fs.length cap).ownBlock = some b → who' b = 2 := hool.2
  refine ⟨{ m with who := who', gs := gs, ov := .slice (some ⟨q, 0, none⟩) fs.length cap }, ?_⟩
  cases hfs : fs with
  | nil =>
    have hg0 : gs = [] := by have := hft.len; rw [hfs] at this; exact List.eq_nil_of_length_eq_zero (by simpa using this)
    have hends : r.ends = { r with top := r.top ++ [f.done], fr := [] } := by unfold Fl.RS.ends; rw [hfr, hfs]
    rw [hends]
    refine { ok := ?ok, bel := hbel, fx := fun b f1 f2 f3 f4 f5 f6 => (qn b f2).trans (h.fx b f1 f2 f3 f4 f5 f6), hlo := h.hlo, hba := ⟨b1, b2, b3, b4, b5, by omega⟩, nd := h.nd, cR := ?cR, cP := h.cP.block (qn _ (by omega)), nl := h.nl.block (qn _ (by omega)), nv := h.nv.block (qn _ (by omega)), nc := h.nc.block (qn _ (by omega)), tab := h.tab, re := ?re }
    case ok =>
      exact { cn := ⟨by have := hcn.1; simp at this ⊢; omega, trivial⟩, lv := h.ok.lv, ce := h.ok.ce, ch := h.ok.ch, lo := h.ok.lo, st := h.ok.st, fr := (by simp), cl := h.ok.cl, hl := h.ok.hl, pairs := h.ok.pairs, kinds := (by intro k hk; cases hk),
              head := fun hd => (by rw [show ({ r with top := r.top ++ [f.done], fr := [] } : Fl.RS).begun = r.begun from rfl, hb] at hd; cases hd), below := h.ok.below, clv := h.ok.clv, chv := h.ok.chv, lat := h.ok.lat }
    case cR => exact hRC _ _ rfl rfl rfl (by rw [hfs]) rfl
    case re =>
      have hpb := h.re.pb
      rw [hgs, hg0] at hpb
      rw [hfs] at hdone hool1 hto
      rw [hg0] at hool1
      rw [hg0]
      refine { wh := fun b hb' => (by have := h.re.wh b (w5 b hb'); exact ⟨this.1, by omega⟩), oc := hlw.oc.1, tc := hlw.oc.2, oh := hlw.oh.1, th := hlw.oh.2, pb := ?pb, tb := hlw.pb.2, fa := trivial, oo := hool1, to := hto, la := hlw.la }
      case pb => exact PartAt.shut hpb h0 h0h (fun b hb' => qw b (by rw [h.re.tb b hb']; decide)) hdone
  | cons f2 fs2 =>
    cases hgg : gs with
    | nil => have := hft.len; rw [hfs, hgg] at this; simp at this
    | cons g2 gs2 =>
      rw [hfs, hgg] at hft
      obtain ⟨hf2, hft2⟩ := hft
      obtain ⟨f', hf'⟩ : ∃ f' : Fl.Frame, f' = if f2.had then { f2 with els := f2.els ++ [f.done] } else { f2 with first := f2.first ++ [f.done] } := ⟨_, rfl⟩
      have hkd : f'.kind = f2.kind ∧ f'.line = f2.line ∧ f'.e = f2.e ∧ f'.had = f2.had := by rw [hf']; split <;> exact ⟨rfl, rfl, rfl, rfl⟩
      have hends : r.ends = { r with fr := f' :: fs2 } := by unfold Fl.RS.ends; rw [hfr, hfs, hf']
      rw [hends]
      have hact : g2.act f' = g2.act f2 := by unfold GF.act; rw [hkd.2.2.2]
      rw [hfs] at hcn
      rw [hfs] at wold wnew hool1 hto hfr3
      rw [hgg] at hool1
      simp only [List.length_cons] at wold wnew hfr3
      refine { ok := ?ok, bel := hbel, fx := fun b f1 f2 f3 f4 f5 f6 => (qn b f2).trans (h.fx b f1 f2 f3 f4 f5 f6), hlo := h.hlo, hba := ⟨b1, b2, b3, b4, b5, by omega⟩, nd := h.nd, cR := ?cR, cP := h.cP.block (qn _ (by omega)), nl := h.nl.block (qn _ (by omega)), nv := h.nv.block (qn _ (by omega)), nc := h.nc.block (qn _ (by omega)), tab := h.tab, re := ?re }
      case ok =>
        exact { cn := ⟨by have := hcn.1; simp at this ⊢; omega, (by
                  show cntFr r.stmts 0 (f' :: fs2)
                  obtain ⟨-, -, c1, c2, c3⟩ := hcn.2
                  rw [hf']
                  cases hh : f2.had with
                  | true => rw [hh] at c1 c2; simp at c1 c2; refine ⟨?_, ?_, c3⟩ <;> simp [hh] <;> omega
                  | false => rw [hh] at c1 c2; simp at c1 c2; refine ⟨?_, ?_, c3⟩ <;> simp [hh] <;> omega)⟩,
                lv := h.ok.lv, ce := h.ok.ce, ch := h.ok.ch, lo := h.ok.lo, st := h.ok.st, fr := (by simp; omega), cl := h.ok.cl, hl := h.ok.hl, pairs := h.ok.pairs,
                kinds := (by
                  intro k hk
                  have hkk := h.ok.kinds
                  rw [hfr, hfs] at hkk
                  rcases List.mem_cons.1 hk with rfl | hk
                  · rw [hkd.1]; exact hkk f2 (by simp)
                  · exact hkk k (by simp [hk])),
                head := fun hd => (by rw [show ({ r with fr := f' :: fs2 } : Fl.RS).begun = r.begun from rfl, hb] at hd; cases hd), below := h.ok.below, clv := h.ok.clv, chv := h.ok.chv, lat := h.ok.lat }
      case cR => exact hRC _ _ rfl rfl rfl (by rw [hfs]) rfl
      case re =>
        have hpb := hlw.pb
        rw [hgs, hgg, tailOf_two] at hpb
        rw [hfs] at hdone
        refine { wh := fun b hb' => (by have := h.re.wh b (w5 b hb'); exact ⟨this.1, by omega⟩), oc := hlw.oc.1, tc := hlw.oc.2, oh := hlw.oh.1, th := hlw.oh.2, pb := hpb.1, tb := hpb.2, fa := ?fa, oo := hool1, to := hto, la := hlw.la }
        case fa =>
          show FramesAt who' base w' (3 - (f' :: fs2).length) [] (f' :: fs2) (g2 :: gs2)
          have hta : ∀ b, (g2.act f2).ownBlock = some b → m.who b = 12 + 3 * fs2.length := hf2.ta
          refine ⟨?_, ?_⟩
          · refine { ts := (wold g2.sb (by rw [hf2.ts]; omega)).trans hf2.ts, to := (wold g2.ob (by rw [hf2.to]; omega)).trans hf2.to, ta := fun b hb' => (by rw [hact] at hb'; exact (wold b (by rw [hta b hb']; omega)).trans (hta b hb')), co := ?co, cs := ?cs, hv := by rw [hkd.2.2.1]; exact hf2.hv.kept h0 h0h, pa := ?pa, pf := ?pf, pe := ?pe }
            case co => rw [hkd.2.2.2]; exact hf2.co.block (qw _ (by rw [hf2.to]; omega))
            case cs => rw [hkd.1, hkd.2.1]; exact hf2.cs.block (qw _ (by rw [hf2.ts]; omega))
            case pa =>
              rw [hact, hkd.2.2.2]
              have := PartAt.shut (w' := w') hf2.pa h0 h0h (fun b hb' => qw b (by rw [hta b hb']; omega)) hdone
              rw [hf']
              cases hh : f2.had <;> rw [hh] at this <;> exact this
            case pf =>
              intro hh
              rw [hkd.2.2.2] at hh
              have := PStmts.kept h0 h0h _ _ _ (hf2.pf hh)
              rw [hf', hh]; exact this
            case pe =>
              intro hh
              rw [hkd.2.2.2] at hh
              rw [hf', hh]; exact hf2.pe hh
          · exact hft2.kept (fun b hb' => by
              rcases hb' with hb' | hb'
              · exact ⟨wold b (by omega), h0h b hb'⟩
              · exact ⟨wold b (by omega), qw b (by omega)⟩)
set_option maxRecDepth 100000 in
set_option maxHeartbeats 2000000 in
theorem end_any (h : PrAt lo base R Pb lm vm cm w0 w r line m) (hbg : r.begun = true) (v : Value) (k : List UInt8) (ln : Nat) (hk : (k == Fl.wElse) = false) :
    Calls Tryz.prog 69 #[.pointer (some ⟨R, 0, none⟩), v] w (MEnds lo base R Pb lm vm cm w0 line (r.stmt ln [k])) := by
  obtain ⟨res, hres⟩ : ∃ res, res = r.stmt ln [k] := ⟨_, rfl⟩
  rw [← hres]
  have HLO : Hid (Calls Tryz.prog 85 #[.pointer (some ⟨R, 0, none⟩)] w fun e w' => e = .returned (lastV m.gs) ∧ Below w.heap.size w w' ∧ w'.heap = w.heap) := lastOpened_any h
  have HH : Hid (PrAt lo base R Pb lm vm cm w0 w r line m) := h
  have hl := h.re.fa.len
  have hba := h.hba
  have hlo := h.hlo
  cases hfr : r.fr with
  | nil =>
    have hgs : m.gs = [] := by rw [hfr] at hl; exact List.eq_nil_of_length_eq_zero (by simpa using hl)
    have HR : Hid (res = (3, r)) := by show _ = _; rw [hres]; simp only [Fl.RS.stmt, hfr]
    rw [hgs] at HLO
    unfold lastV at HLO
    clear h hres hfr hgs hl
    go_enter Tryz.func69, Tryz.ntmps69
    go_wp2_with fail
    refine HLO.out.mono ?_
    rintro e W ⟨rfl, hb1, hh1⟩
    have hzz := hb1.size
    have HW : Hid (PrAt lo base R Pb lm vm cm w0 W r line m) := HH.out.below hb1
    have HRB : Hid (Calls Tryz.prog 46 #[.pointer (some ⟨R, 0, none⟩), .bool false, .int .i64 3] W fun e w' => e = .panicked (stopAt 3 line) ∧ Below W.heap.size W w') := rneed_bad R 3 line W (HW.out.cR.c 1 (by omega))
    clear hb1 hh1 HLO
    go_wp2_with fail
    refine HRB.out.mono ?_
    rintro e w1 ⟨rfl, hb1⟩
    exact ⟨rfl, MEnds.bad HR.out (by decide) rfl (HW.out.gone hb1)⟩
  | cons f fs =>
    cases hgs : m.gs with
    | nil => rw [hfr, hgs] at hl; simp at hl
    | cons g gs =>
      obtain ⟨ao, cap, hov, hcap, hlast⟩ := ov_shape h
      have hfr3 := h.ok.fr
      rw [hfr] at hov hcap hlast hfr3
      obtain ⟨q, rfl, -, -, -⟩ := hlast (by simp)
      simp only [List.length_cons] at hov hcap hfr3
      have HR : Hid (res = (0, r.ends)) := by show _ = _; rw [hres]; simp only [Fl.RS.stmt, hfr, hk]; rfl
      obtain ⟨n, hn⟩ : ∃ n, n = fs.length := ⟨_, rfl⟩
      have HEND : Hid (∀ W, PrAt lo base R Pb lm vm cm w0 W r line m → MEnds lo base R Pb lm vm cm w0 line res (.returned (.tuple #[])) (W.setCell ⟨R, 43, none⟩ (.slice (some ⟨q, 0, none⟩) n cap))) := fun W hW => by
        obtain ⟨m', hm⟩ := hW.ends hbg hfr hgs hov
        rw [← hn] at hm
        exact MEnds.good HR.out rfl hm
      rw [← hn] at hov hcap hfr3
      rw [hgs] at HLO
      unfold lastV at HLO
      have HOV : Hid (m.ov = .slice (some ⟨q, 0, none⟩) (n + 1) cap) := hov
      have hnI : (0 : Int) ≤ (n : Int) := by omega
      have hnJ : (n : Int) ≤ 2 := by omega
      have hnC : (n : Int) + 1 ≤ (cap : Int) := by omega
      have hnD : (n : Int) ≤ (cap : Int) := by omega
      have hcz : cap ≠ 0 := by omega
      have hwr : IntKind.i64.wrap (n : Int) = (n : Int) := by simp [IntKind.wrap, IntKind.signed, IntKind.bits]; omega
      clear h hres hfr hgs hl hov hlast hn
      go_enter Tryz.func69, Tryz.ntmps69
      go_wp2_with fail
      refine HLO.out.mono ?_
      rintro e W ⟨rfl, hb1, hh1⟩
      have hzz := hb1.size
      have HW : Hid (PrAt lo base R Pb lm vm cm w0 W r line m) := HH.out.below hb1
      have HOK : Hid (Calls Tryz.prog 46 #[.pointer (some ⟨R, 0, none⟩), .bool true, .int .i64 3] W fun e w' => e = .returned (.tuple #[]) ∧ w' = W) := rneed_ok R 3 W
      have c43 : W.cell? ⟨R, 43, none⟩ = some (.slice (some ⟨q, 0, none⟩) (n + 1) cap) := by rw [← HOV.out]; exact HW.out.cR.c 43 (by omega)
      have zR := HW.out.cR.z
      have HE2 : Hid (MEnds lo base R Pb lm vm cm w0 line res (.returned (.tuple #[])) (W.drew.setCell ⟨R, 43, none⟩ (.slice (some ⟨q, 0, none⟩) n cap))) := HEND.out W.drew HW.out.drew
      clear hb1 hh1 HLO HEND
      go_wp2_with fail
      refine HOK.out.mono ?_
      rintro e w1 ⟨rfl, hw1⟩
      rw [hw1]
      clear hw1 w1 HOK
      go_wp2_with fail
      go_still_tail 14, (by kernel_rfl)
      go_wp2_with fail
      go_end0
      exact HE2.out
end
end Go.Proofs.YthfacjlghcdndaaGreatDoor

namespace Go.Proofs.YthfacjlghcdndaaGreatDoor
open Go.RowKit
section
variable {lo base R Pb lm vm cm : Nat} {w0 w w1 w' W : World} {r : Fl.RS} {line : Int} {m : PMem}
theorem PartAt.open_ {d : Nat} {S S' : Nat → Prop} {v v' : Value} {ts : List Fl.Stmt} {n : Nat} {xs : List Value} {p : Value} (h : PartAt d S base W v ts []) (ho : W.ownsRow base 140 1 v n xs) (ho' : w'.ownsRow base 140 1 v' (n + 1) (xs ++ [p])) (hS : ∀ b, S b → S' b) (hw : ∀ b, S b → w'.heap[b]? = W.heap[b]?) : PartAt d S' base w' v' ts [p] := by
  obtain ⟨ps, h1, h2, h3⟩ := h
  simp only [List.append_nil, List.length_nil, Nat.add_zero] at h1
  obtain ⟨rfl, rfl⟩ := own_unique h1 ho
  exact ⟨ps, ho', h2, fun i hi => (h3 i hi).kept (fun v l h => PStmts.kept hS hw d v l h) hS hw⟩
def whoOpen (who : Nat → Nat) (z1 sn ob i T : Nat) (v' ov' : Value) : Nat → Nat := fun b => if b = sn then 10 + 3 * i else if b = ob then 11 + 3 * i else if z1 ≤ b ∧ b < sn then 0 else if v'.ownBlock = some b then T else if ov'.ownBlock = some b then 2 else who b
structure OpenWho (who who' : Nat → Nat) (z1 sn ob i T : Nat) (v' ov' : Value) : Prop where
  old : ∀ b, who b ≠ 5 → who' b = who b
  s : who' sn = 10 + 3 * i
  o : who' ob = 11 + 3 * i
  new : ∀ b, z1 ≤ b → b < sn → who' b = 0
  row : ∀ b, v'.ownBlock = some b → who' b = T
  orow : ∀ b, ov'.ownBlock = some b → who' b = 2
  five : ∀ b, who' b ≠ 5 → who b ≠ 5 ∨ (z1 ≤ b ∧ b ≤ sn) ∨ b = ob ∨ v'.ownBlock = some b ∨ ov'.ownBlock = some b
theorem openWho {who : Nat → Nat} {z1 sn ob i T : Nat} {v v' ov ov' : Value} (hI : ∀ b, who b ≠ 5 → b < z1) (hz : z1 ≤ sn ∧ sn < ob) (hT : T ≠ 5 ∧ T ≠ 2) (hv : ∀ b, v.ownBlock = some b → who b = T) (hov : ∀ b, ov.ownBlock = some b → who b = 2) (hw : v'.ownBlock = v.ownBlock ∨ ∃ g, v'.ownBlock = some g ∧ sn < g ∧ g < ob) (how : ov'.ownBlock = ov.ownBlock ∨ ∃ g, ov'.ownBlock = some g ∧ ob < g) : OpenWho who (whoOpen who z1 sn ob i T v' ov') z1 sn ob i T v' ov' := by
  have hlt : ∀ b, who b ≠ 5 → b ≠ sn ∧ b ≠ ob ∧ ¬ (z1 ≤ b ∧ b < sn) := fun b hb => by have := hI b hb; omega
  have hvo : ∀ b, v'.ownBlock = some b → (who b = T) ∨ (sn < b ∧ b < ob) := fun b hb => by
    rcases hw with e | ⟨g, e, h1, h2⟩
    · exact .inl (hv b (by rw [← e]; exact hb))
    · rw [e] at hb; simp only [Option.some.injEq] at hb; subst hb; exact .inr ⟨h1, h2⟩
  have hoo : ∀ b, ov'.ownBlock = some b → (who b = 2) ∨ ob < b := fun b hb => by
    rcases how with e | ⟨g, e, h1⟩
    · exact .inl (hov b (by rw [← e]; exact hb))
    · rw [e] at hb; simp only [Option.some.injEq] at hb; subst hb; exact .inr h1
  refine { old := fun b hb => ?_, s := if_pos rfl, o := ?_, new := fun b h1 h2 => ?_, row := fun b hb => ?_, orow := fun b hb => ?_, five := fun b hb => ?_ }
  · obtain ⟨h1, h2, h3⟩ := hlt b hb
    unfold whoOpen
    rw [if_neg h1, if_neg h2, if_neg h3]
    by_cases e1 : v'.ownBlock = some b
    · rw [if_pos e1]
      rcases hvo b e1 with h | h
      · exact h.symm
      · have := hI b hb; omega
    · rw [if_neg e1]
      by_cases e2 : ov'.ownBlock = some b
      · rw [if_pos e2]
        rcases hoo b e2 with h | h
        · exact h.symm
        · have := hI b hb; omega
      · rw [if_neg e2]
  · unfold whoOpen; rw [if_neg (by omega), if_pos rfl]
  · unfold whoOpen; rw [if_neg (by omega), if_neg (by omega), if_pos ⟨h1, h2⟩]
  · have : b ≠ sn ∧ b ≠ ob ∧ ¬ (z1 ≤ b ∧ b < sn) := by
      rcases hvo b hb with h | h
      · exact hlt b (by rw [h]; exact hT.1)
      · omega
    unfold whoOpen; rw [if_neg this.1, if_neg this.2.1, if_neg this.2.2, if_pos hb]
  · have : b ≠ sn ∧ b ≠ ob ∧ ¬ (z1 ≤ b ∧ b < sn) := by
      rcases hoo b hb with h | h
      · exact hlt b (by rw [h]; decide)
      · omega
    have hnv : v'.ownBlock ≠ some b := fun e => by
      rcases hvo b e with h | h
      · rcases hoo b hb with h' | h'
        · exact hT.2 (by rw [← h, h'])
        · have := hI b (by rw [h]; exact hT.1); omega
      · rcases hoo b hb with h' | h'
        · have := hI b (by rw [h']; decide); omega
        · omega
    unfold whoOpen; rw [if_neg this.1, if_neg this.2.1, if_neg this.2.2, if_neg hnv, if_pos hb]
  · unfold whoOpen at hb
    by_cases e1 : b = sn
    · exact .inr (.inl ⟨by omega, by omega⟩)
    · rw [if_neg e1] at hb
      by_cases e2 : b = ob
      · exact .inr (.inr (.inl e2))
      · rw [if_neg e2] at hb
        by_cases e3 : z1 ≤ b ∧ b < sn
        · exact .inr (.inl ⟨by omega, by omega⟩)
        · rw [if_neg e3] at hb
          by_cases e4 : v'.ownBlock = some b
          · exact .inr (.inr (.inr (.inl e4)))
          · rw [if_neg e4] at hb
            by_cases e5 : ov'.ownBlock = some b
            · exact .inr (.inr (.inr (.inr e5)))
            · rw [if_neg e5] at hb; exact .inl hb
theorem PrAt.opens (h : PrAt lo base R Pb lm vm cm w0 W { r with stmts := r.stmts + 1 } line m) (hb : r.begun = true) (hk3 : r.fr.length < 3) {z1 sn kind ln : Nat} {vp v' ov' : Value} {e : Fl.Expr} {n : Nat} {xs : List Value} (hkd : kind = 5 ∨ kind = 6) (hI : ∀ b, m.who b ≠ 5 → b < z1) (hz1 : base ≤ z1) (hsn : z1 ≤ sn ∧ sn + 1 = W.heap.size) (hln : line = (ln : Int)) (hst : CntOk r.stmts r.fr r.top.length)
    (hc : Cells W sn 6 (rw_ [.int .i64 kind, .int .i64 line, .int .i64 0, vp, .slice none 0 0, .slice none 0 0])) (hv : PVal (fun b => z1 ≤ b ∧ b < sn) W vp e) (ho : W.ownsRow base 140 1 (actV m.bv r.fr m.gs) n xs) (G : GrewAt 140 lo base w0 W w1 (actB Pb m.gs) (actI r.fr) (actV m.bv r.fr m.gs) v' n xs (ptr sn))
    (o : Obj) (hob : Cells (w1.alloc o) w1.heap.size 2 (rw_ [ptr sn, .bool false])) (G2 : GrewAt 178 lo base w0 (w1.alloc o) w' R 43 m.ov ov' r.fr.length ((m.gs.map fun g => ptr g.ob).reverse) (ptr w1.heap.size)) :
    ∃ m', PrAt lo base R Pb lm vm cm w0 w' (r.opens kind ln e) line m' := by
  obtain ⟨b1, b2, b3, b4, b5, b6⟩ := h.hba
  obtain ⟨n1, n2, n3, n4, n5, n6, n7, n8, n9, n10⟩ := h.nd
  have hl := h.re.fa.len
  have hz := G.hz
  have hz2 := G2.hz
  have hza : (w1.alloc o).heap.size = w1.heap.size + 1 := World.size_alloc _ _
  have hlow := grew_keeps (r := { r with stmts := r.stmts + 1 }) h G ho
  have hw5 : ∀ b, z1 ≤ b → m.who b = 5 := fun b hb' => Classical.byContradiction fun hne => by have := hI b hne; omega
  have hto := h.re.to
  have hov2 : ∀ b, m.ov.ownBlock = some b → b < z1 ∧ base ≤ b := fun b hb' => ⟨hI b (by rw [hto b hb']; decide), (h.re.wh b (by rw [hto b hb']; decide)).1⟩
  -- the second growth leaves
  have q2 : ∀ b, b < w1.heap.size → b ≠ R → m.ov.ownBlock ≠ some b → w'.heap[b]? = w1.heap[b]? := fun b h1 h2 h3 => by
    rw [G2.q b (by omega) h2 h3]
    exact ((Below.refl w1.heap.size w1).alloc (Nat.le_refl _) _).block b h1
  have q2l : ∀ b, b < base → b ≠ R → w'.heap[b]? = w1.heap[b]? := fun b h1 h2 => q2 b (by omega) h2 (fun h3 => by have := hov2 b h3; omega)
  have hobc : Cells w' w1.heap.size 2 (rw_ [ptr sn, .bool false]) := hob.block (G2.q _ (by omega) (by omega) (fun h3 => by have := hov2 _ h3; omega))
  have how : ov'.ownBlock = m.ov.ownBlock ∨ ∃ g, ov'.ownBlock = some g ∧ w1.heap.size < g := by
    rcases G2.wh with e | ⟨g, e, hg⟩
    · exact .inl e
    · exact .inr ⟨g, e, by omega⟩
  have hvw : v'.ownBlock = (actV m.bv r.fr m.gs).ownBlock ∨ ∃ g, v'.ownBlock = some g ∧ sn < g ∧ g < w1.heap.size := by
    rcases G.wh with e | ⟨g, e, hg⟩
    · exact .inl e
    · exact .inr ⟨g, e, by omega, (G.own.lt g e).2⟩
  have hcR : ∀ (r' : Fl.RS) (m' : PMem), r'.begun = r.begun → r'.levels.length = r.levels.length → r'.stmts = r.stmts + 1 → m'.ov = ov' → m'.t = m.t → R ≠ actB Pb m.gs → Cells w' R 45 (rdCell Pb lm vm cm line r' m') := fun r' m' e1 e2 e4 e5 e6 hne => by
    have c1 : Cells (w1.alloc o) R 45 (rdCell Pb lm vm cm line { r with stmts := r.stmts + 1 } m) := (h.cR.block (hlow R b1 hne)).block (((Below.refl w1.heap.size w1).alloc (Nat.le_refl _) _).block R (by omega))
    refine (G2.cs 45 _ c1 (by decide)).congr (fun j hj => ?_)
    by_cases h4 : j = 43
    · subst h4; rw [if_pos rfl]; exact e5.symm
    · rw [if_neg h4]
      unfold rdCell
      rw [e1, e2, e4, e6]
      by_cases hs : j = 0 ∨ j = 1 ∨ j = 2 ∨ j = 3 ∨ j = 40 ∨ j = 41 ∨ j = 42 ∨ j = 44
      · rcases hs with rfl | rfl | rfl | rfl | rfl | rfl | rfl | rfl <;> rfl
      · rw [if_neg (show ¬ j = 0 by omega), if_neg (show ¬ j = 1 by omega), if_neg (show ¬ j = 2 by omega), if_neg (show ¬ j = 3 by omega), if_neg (show ¬ j = 40 by omega), if_neg (show ¬ j = 41 by omega), if_neg (show ¬ j = 42 by omega), if_neg h4, if_neg (show ¬ j = 44 by omega)]
        rw [if_neg (show ¬ j = 0 by omega), if_neg (show ¬ j = 1 by omega), if_neg (show ¬ j = 2 by omega), if_neg (show ¬ j = 3 by omega), if_neg (show ¬ j = 40 by omega), if_neg (show ¬ j = 41 by omega), if_neg (show ¬ j = 42 by omega), if_neg h4]
  have hwh : ∀ (who' : Nat → Nat) (i T : Nat), OpenWho m.who who' z1 sn w1.heap.size i T v' ov' → ∀ b, who' b ≠ 5 → base ≤ b ∧ b < w'.heap.size := fun who' i T hO b hb' => by
    rcases hO.five b hb' with h5 | h5 | h5 | h5 | h5
    · have := h.re.wh b h5; omega
    · omega
    · omega
    · have := G.own.lt b h5; omega
    · have := G2.own.lt b h5; omega
  have hops : r.opens kind ln e = { r with fr := ⟨kind, ln, e, [], false, []⟩ :: r.fr, stmts := r.stmts + 1 } := rfl
  have hkinds : ∀ f ∈ (⟨kind, ln, e, [], false, []⟩ :: r.fr : List Fl.Frame), f.kind = 5 ∨ f.kind = 6 := fun f hf => by
    rcases List.mem_cons.1 hf with rfl | hf
    · exact hkd
    · exact h.ok.kinds f hf
  -- the frame that is new
  have hnf : ∀ (who' : Nat → Nat) (T : Nat), OpenWho m.who who' z1 sn w1.heap.size r.fr.length T v' ov' → actB Pb m.gs < z1 → (∀ k, (actV m.bv r.fr m.gs).ownBlock = some k → m.who k ≠ 5) → FrameOk who' base w' (3 - (r.fr.length + 1)) r.fr.length [] ⟨kind, ln, e, [], false, []⟩ ⟨sn, w1.heap.size, vp, .slice none 0 0, .slice none 0 0⟩ := fun who' T hO hab hak => by
    have qn : ∀ b, z1 ≤ b → b < W.heap.size → w'.heap[b]? = W.heap[b]? := fun b h1 h2 => by
      rw [q2 b (by omega) (by omega) (fun h3 => by have := hov2 b h3; omega)]
      exact G.q b h2 (by omega) (fun hk => hak b hk (hw5 b h1))
    refine { ts := hO.s, to := hO.o, ta := fun b hb' => ?_, co := hobc, cs := ?_, hv := hv.kept (fun b hb' => hO.new b hb'.1 hb'.2) (fun b hb' => qn b hb'.1 (by omega)), pa := PartAt.none _ _ _, pf := fun hh => (by cases hh), pe := fun _ => ⟨rfl, rfl⟩ }
    · cases hb'
    · have := hc.block (w' := w') (qn sn (by omega) (by omega))
      rw [hln] at this
      exact this
  have hcnt : cntFr (r.stmts + 1) 1 r.fr := by
    have hst2 := hst.2
    cases hfr : r.fr with
    | nil => trivial
    | cons f fs =>
      rw [hfr] at hst2
      obtain ⟨c1, c2, c3⟩ := hst2
      cases hh : f.had with
      | true => rw [hh] at c1 c2; simp at c1 c2; refine ⟨?_, ?_, cntFr.mono (by omega) (Nat.le_refl _) c3⟩ <;> simp [hh] <;> omega
      | false => rw [hh] at c1 c2; simp at c1 c2; refine ⟨?_, ?_, cntFr.mono (by omega) (Nat.le_refl _) c3⟩ <;> simp [hh] <;> omega
  rw [hops]
  have hRS : RsOk { r with fr := ⟨kind, ln, e, [], false, []⟩ :: r.fr, stmts := r.stmts + 1 } :=
    { cn := ⟨by have := hst.1; simp; omega, ⟨by simp, by simp, hcnt⟩⟩, lv := h.ok.lv, ce := h.ok.ce, ch := h.ok.ch, lo := h.ok.lo, st := h.ok.st, fr := (by simp; omega), cl := h.ok.cl, hl := h.ok.hl, pairs := h.ok.pairs, kinds := hkinds,
      head := fun hd => (by rw [show ({ r with fr := ⟨kind, ln, e, [], false, []⟩ :: r.fr, stmts := r.stmts + 1 } : Fl.RS).begun = r.begun from rfl, hb] at hd; cases hd), below := h.ok.below, clv := h.ok.clv, chv := h.ok.chv, lat := h.ok.lat }
  have hoo : w'.ownsRow base 178 1 ov' (r.fr.length + 1) ((m.gs.map fun g => ptr g.ob).reverse ++ [ptr w1.heap.size]) := G2.own
  cases hfr : r.fr with
  | nil =>
    have hgs : m.gs = [] := by
      rw [show ({ r with stmts := r.stmts + 1 } : Fl.RS).fr = r.fr from rfl, hfr] at hl
      exact List.eq_nil_of_length_eq_zero (by simpa using hl)
    rw [hfr] at hRS
    rw [hfr, hgs] at hoo G ho hvw hnf
    rw [hgs] at hlow hcR
    have htb : ∀ b, m.bv.ownBlock = some b → m.who b = 1 := h.re.tb
    have hO := openWho (i := 0) (T := 1) (v := m.bv) (ov := m.ov) hI ⟨hsn.1, by omega⟩ (by decide) htb hto hvw how
    obtain ⟨who', hwho⟩ : ∃ who', who' = whoOpen m.who z1 sn w1.heap.size 0 1 v' ov' := ⟨_, rfl⟩
    rw [← hwho] at hO
    have hq : ∀ b, m.who b ≠ 5 → m.who b ≠ 1 → m.who b ≠ 2 → w'.heap[b]? = W.heap[b]? := fun b h5 h1 h2 => by
      have hbw := h.re.wh b h5
      rw [q2 b (by omega) (by omega) (fun h3 => h2 (hto b h3))]
      exact G.q b hbw.2 (by show b ≠ Pb; omega) (fun hk => h1 (htb b hk))
    have h0 : ∀ b, m.who b = 0 → who' b = 0 := fun b hb' => (hO.old b (by omega)).trans hb'
    have h0h : ∀ b, m.who b = 0 → w'.heap[b]? = W.heap[b]? := fun b hb' => hq b (by omega) (by omega) (by omega)
    have hown : w'.ownsRow base 140 1 v' (n + 1) (xs ++ [ptr sn]) := own_same G.own (fun b hb' => q2 b (G.own.lt b hb').2 (by have := (G.own.lt b hb').1; omega) (fun h3 => by
      have h2 := hto b h3
      have := hO.old b (by rw [h2]; decide)
      rw [hO.row b hb', h2] at this; omega))
    refine ⟨{ m with bv := v', gs := [⟨sn, w1.heap.size, vp, .slice none 0 0, .slice none 0 0⟩], ov := ov', who := who' }, ?_⟩
    refine { ok := hRS, bel := G2.bel, fx := fun b f1 f2 f3 f4 f5 f6 => ((q2l b f1 f2).trans (hlow b f1 f3)).trans (h.fx b f1 f2 f3 f4 f5 f6), hlo := h.hlo, hba := ⟨b1, b2, b3, b4, b5, by omega⟩, nd := h.nd, cR := hcR _ _ rfl rfl rfl rfl rfl (by show R ≠ Pb; omega), cP := ?cP, nl := (h.nl.block (hlow _ b3 (by show lm ≠ Pb; omega))).block (q2l _ b3 (by omega)), nv := (h.nv.block (hlow _ b4 (by show vm ≠ Pb; omega))).block (q2l _ b4 (by omega)), nc := (h.nc.block (hlow _ b5 (by show cm ≠ Pb; omega))).block (q2l _ b5 (by omega)), tab := h.tab, re := ?re }
    case cP =>
      refine ((G.cs 5 _ h.cP (by decide)).block (q2l Pb b2 (by omega))).congr fun k hk => ?_
      rcases (show k = 0 ∨ k = 1 ∨ k = 2 ∨ k = 3 ∨ k = 4 by omega) with rfl | rfl | rfl | rfl | rfl <;> rfl
    case re =>
      have hpb := h.re.pb
      rw [hgs] at hpb
      refine { wh := hwh who' 0 1 hO, oc := own_same h.re.oc (fun b hb' => hq b (by rw [h.re.tc b hb']; decide) (by rw [h.re.tc b hb']; decide) (by rw [h.re.tc b hb']; decide)), tc := fun b hb' => (hO.old b (by rw [h.re.tc b hb']; decide)).trans (h.re.tc b hb'),
               oh := own_same h.re.oh (fun b hb' => hq b (by rw [h.re.th b hb']; decide) (by rw [h.re.th b hb']; decide) (by rw [h.re.th b hb']; decide)), th := fun b hb' => (hO.old b (by rw [h.re.th b hb']; decide)).trans (h.re.th b hb'),
               pb := PartAt.open_ hpb ho hown h0 h0h, tb := hO.row, fa := ?fa, oo := hoo, to := hO.orow, la := fun hg => ?la }
      case fa =>
        refine ⟨?_, trivial⟩
        have := hnf who' 1
        simp only [List.length_nil] at this
        exact this hO (by show Pb < z1; omega) (fun k hk => by rw [htb k hk]; decide)
      case la =>
        obtain ⟨Lb, e1, e2, e3⟩ := h.re.la hg
        exact ⟨Lb, e1, h0 Lb e2, e3.block (h0h Lb e2)⟩
  | cons f fs =>
    cases hgs : m.gs with
    | nil => rw [show ({ r with stmts := r.stmts + 1 } : Fl.RS).fr = r.fr from rfl, hfr, hgs] at hl; simp at hl
    | cons g gs =>
      rw [hfr] at hRS
      rw [hfr, hgs] at hoo G ho hvw hnf
      rw [hgs] at hlow hcR
      rw [hfr] at hk3
      simp only [List.length_cons] at hk3
      have hfa := h.re.fa
      rw [show ({ r with stmts := r.stmts + 1 } : Fl.RS).fr = r.fr from rfl, hfr, hgs] at hfa
      obtain ⟨hf, hft⟩ := hfa
      have hsbw := h.re.wh g.sb (by rw [hf.ts]; omega)
      have hsbz := hI g.sb (by rw [hf.ts]; omega)
      obtain ⟨g', hg'⟩ : ∃ g' : GF, g' = if f.had then { g with ev := v' } else { g with fv := v' } := ⟨_, rfl⟩
      have hsb : g'.sb = g.sb := by rw [hg']; split <;> rfl
      have hob' : g'.ob = g.ob := by rw [hg']; split <;> rfl
      have hvp : g'.vp = g.vp := by rw [hg']; split <;> rfl
      have hact : g'.act f = v' := by
        unfold GF.act; rw [hg']
        cases f.had <;> rfl
      have hta : ∀ b, (actV m.bv (f :: fs) (g :: gs)).ownBlock = some b → m.who b = 12 + 3 * fs.length := hf.ta
      have hO := openWho (i := fs.length + 1) (T := 12 + 3 * fs.length) (ov := m.ov) hI ⟨hsn.1, by omega⟩ ⟨by omega, by omega⟩ hta hto hvw how
      obtain ⟨who', hwho⟩ : ∃ who', who' = whoOpen m.who z1 sn w1.heap.size (fs.length + 1) (12 + 3 * fs.length) v' ov' := ⟨_, rfl⟩
      rw [← hwho] at hO
      have hq : ∀ b, m.who b ≠ 5 → m.who b ≠ 12 + 3 * fs.length → m.who b ≠ 10 + 3 * fs.length → m.who b ≠ 2 → w'.heap[b]? = W.heap[b]? := fun b h5 h1 h10 h2 => by
        have hbw := h.re.wh b h5
        rw [q2 b (by omega) (by omega) (fun h3 => h2 (hto b h3))]
        exact G.q b hbw.2 (fun he => h10 (by rw [show b = g.sb from he]; exact hf.ts)) (fun hk => h1 (hta b hk))
      have h0 : ∀ b, m.who b = 0 → who' b = 0 := fun b hb' => (hO.old b (by omega)).trans hb'
      have h0h : ∀ b, m.who b = 0 → w'.heap[b]? = W.heap[b]? := fun b hb' => hq b (by omega) (by omega) (by omega) (by omega)
      have hown : w'.ownsRow base 140 1 v' (n + 1) (xs ++ [ptr sn]) := own_same G.own (fun b hb' => q2 b (G.own.lt b hb').2 (by have := (G.own.lt b hb').1; omega) (fun h3 => by
        have h2 := hto b h3
        have := hO.old b (by rw [h2]; decide)
        rw [hO.row b hb', h2] at this; omega))
      refine ⟨{ m with gs := ⟨sn, w1.heap.size, vp, .slice none 0 0, .slice none 0 0⟩ :: g' :: gs, ov := ov', who := who' }, ?_⟩
      refine { ok := hRS, bel := G2.bel, fx := fun b f1 f2 f3 f4 f5 f6 => ((q2l b f1 f2).trans (hlow b f1 (by show b ≠ g.sb; omega))).trans (h.fx b f1 f2 f3 f4 f5 f6), hlo := h.hlo, hba := ⟨b1, b2, b3, b4, b5, by omega⟩, nd := h.nd, cR := hcR _ _ rfl rfl rfl rfl rfl (by show R ≠ g.sb; omega), cP := (h.cP.block (hlow _ b2 (by show Pb ≠ g.sb; omega))).block (q2l _ b2 (by omega)), nl := (h.nl.block (hlow _ b3 (by show lm ≠ g.sb; omega))).block (q2l _ b3 (by omega)), nv := (h.nv.block (hlow _ b4 (by show vm ≠ g.sb; omega))).block (q2l _ b4 (by omega)), nc := (h.nc.block (hlow _ b5 (by show cm ≠ g.sb; omega))).block (q2l _ b5 (by omega)), tab := h.tab, re := ?re }
      case re =>
        have hpb := h.re.pb
        rw [hgs] at hpb
        have htl : tailOf (⟨sn, w1.heap.size, vp, .slice none 0 0, .slice none 0 0⟩ :: g' :: gs) = tailOf (g :: gs) := by rw [tailOf_two]; simp only [tailOf, hsb]
        refine { wh := hwh who' _ _ hO, oc := own_same h.re.oc (fun b hb' => hq b (by rw [h.re.tc b hb']; decide) (by rw [h.re.tc b hb']; omega) (by rw [h.re.tc b hb']; omega) (by rw [h.re.tc b hb']; decide)), tc := fun b hb' => (hO.old b (by rw [h.re.tc b hb']; decide)).trans (h.re.tc b hb'),
                 oh := own_same h.re.oh (fun b hb' => hq b (by rw [h.re.th b hb']; decide) (by rw [h.re.th b hb']; omega) (by rw [h.re.th b hb']; omega) (by rw [h.re.th b hb']; decide)), th := fun b hb' => (hO.old b (by rw [h.re.th b hb']; decide)).trans (h.re.th b hb'),
                 pb := ?pb, tb := fun b hb' => (hO.old b (by rw [h.re.tb b hb']; decide)).trans (h.re.tb b hb'), fa := ?fa, oo := ?oo, to := hO.orow, la := fun hg => ?la }
        case pb =>
          show PartAt 3 _ base w' m.bv r.top (tailOf (_ :: g' :: gs))
          rw [htl]
          exact hpb.kept h0 h0h (fun b hb' => hq b (by rw [h.re.tb b hb']; decide) (by rw [h.re.tb b hb']; omega) (by rw [h.re.tb b hb']; omega) (by rw [h.re.tb b hb']; decide))
        case oo =>
          show w'.ownsRow base _ 1 ov' (_ :: f :: fs).length (((_ :: g' :: gs).map fun g => ptr g.ob).reverse)
          simp only [List.map_cons, List.reverse_cons, List.length_cons, hob'] at hoo ⊢
          exact hoo
        case la =>
          obtain ⟨Lb, e1, e2, e3⟩ := h.re.la hg
          exact ⟨Lb, e1, h0 Lb e2, e3.block (h0h Lb e2)⟩
        case fa =>
          refine ⟨?_, ?_, ?_⟩
          · have := hnf who' (12 + 3 * fs.length)
            simp only [List.length_cons] at this
            exact this hO hsbz (fun k hk => by rw [hta k hk]; omega)
          · show FrameOk who' base w' (3 - (fs.length + 1 + 1) + 1) fs.length [ptr sn] f g'
            rw [show 3 - (fs.length + 1 + 1) + 1 = 3 - (fs.length + 1) by omega]
            refine { ts := by rw [hsb]; exact (hO.old g.sb (by rw [hf.ts]; omega)).trans hf.ts, to := by rw [hob']; exact (hO.old g.ob (by rw [hf.to]; omega)).trans hf.to, ta := fun b hb' => hO.row b (by rw [← hact]; exact hb'), co := ?co, cs := ?cs, hv := by rw [hvp]; exact hf.hv.kept h0 h0h, pa := ?pa, pf := ?pf, pe := ?pe }
            case co => rw [hob', hsb]; exact hf.co.block (hq g.ob (by rw [hf.to]; omega) (by rw [hf.to]; omega) (by rw [hf.to]; omega) (by rw [hf.to]; omega))
            case cs =>
              rw [hsb, hvp]
              refine ((G.cs 6 _ hf.cs (by show (if f.had then 5 else 4) < 6; split <;> omega)).block (q2 g.sb (by omega) (by omega) (fun h3 => by have := hto _ h3; rw [hf.ts] at this; omega))).congr fun k hk => ?_
              rw [hg']
              show (if k = (if f.had then 5 else 4) then v' else _) = _
              cases f.had <;> rcases (show k = 0 ∨ k = 1 ∨ k = 2 ∨ k = 3 ∨ k = 4 ∨ k = 5 by omega) with rfl | rfl | rfl | rfl | rfl | rfl <;> rfl
            case pa =>
              rw [hact]
              exact PartAt.open_ hf.pa ho hown h0 h0h
            case pf =>
              intro hh
              have := PStmts.kept h0 h0h _ _ _ (hf.pf hh)
              rw [hg', hh]; exact this
            case pe =>
              intro hh
              rw [hg', hh]; exact hf.pe hh
          · show FramesAt who' base w' (3 - (fs.length + 1 + 1) + 1 + 1) [ptr g'.sb] fs gs
            rw [hsb, show 3 - (fs.length + 1 + 1) + 1 + 1 = 3 - (fs.length + 1) + 1 by omega]
            exact hft.kept (fun b hb' => by
              rcases hb' with hb' | hb'
              · exact ⟨hO.old b (by omega), h0h b hb'⟩
              · exact ⟨hO.old b (by omega), hq b (by omega) (by omega) (by omega) (by omega)⟩)
end
end Go.Proofs.YthfacjlghcdndaaGreatDoor
