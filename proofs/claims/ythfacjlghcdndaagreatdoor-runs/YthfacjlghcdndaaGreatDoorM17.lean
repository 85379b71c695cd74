/- Texts Psg Psh Psi Spl2. -/
import Derived.Test.YthfacjlghcdndaaGreatDoorM16
set_option linter.unusedSimpArgs false
set_option linter.unusedVariables false
namespace Go.Proofs.YthfacjlghcdndaaGreatDoor
open Go.RowKit
theorem Tryz.infoPOpened : (Tryz.prog.info? 178).map (fun i => (i.zero, i.size, i.bytes)) = some (some (.pointer none), 1, 8) := by kernel_rfl
section
variable {lo base R Pb lm vm cm : Nat} {w0 w : World} {r : Fl.RS} {line : Int} {m : PMem}
set_option maxRecDepth 100000 in
set_option maxHeartbeats 2000000 in
theorem opens_any (h : PrAt lo base R Pb lm vm cm w0 w r line m) (hbg : r.begun = true) (B : Nat) (v : Value) (k a : List UInt8) (ln kind : Nat) (hln : line = (ln : Int)) (hB : B ≤ w.heap.size) (hw : WordsAt B w v [a]) (hkind : kind = if k == Fl.wIf then 5 else 6) :
    Calls Tryz.prog 84 #[.pointer (some ⟨R, 0, none⟩), .int .i64 kind, v] w (MEnds lo base R Pb lm vm cm w0 line (r.stmt ln [k, a])) := by
  obtain ⟨b, off, cp, rfl, hcap, hcm, hbB, hxs, hcell⟩ := hw.one (by simp)
  obtain ⟨res, hres⟩ : ∃ res, res = r.stmt ln [k, a] := ⟨_, rfl⟩
  rw [← hres]
  have HRES : Hid (res = match r.value [a] with
    | none => (4, r)
    | some e => if 16 ≤ r.stmts ∨ 3 ≤ r.fr.length then (5, r) else (0, r.opens kind ln e)) := by
    show _ = _
    rw [hres, hkind]
    simp only [Fl.RS.stmt]
    cases r.value [a] <;> rfl
  have HVH : Hid (Calls Tryz.prog 81 #[.pointer (some ⟨R, 0, none⟩), .slice (some ⟨b, off, none⟩) 1 cp] w (PvEnds (r.value [a]) line w)) := value1_any h b off cp a (hxs a (by simp)) (by simpa using hcap) (hcell 0 (by simp))
  have HKD : Hid (kind = 5 ∨ kind = 6) := by show _ ∨ _; rw [hkind]; split <;> simp
  have HLN : Hid (line = (ln : Int)) := hln
  have HH : Hid (PrAt lo base R Pb lm vm cm w0 w r line m) := h
  have hba := h.hba
  have hlo := h.hlo
  simp only [List.length_cons, List.length_nil, Nat.zero_add]
  obtain ⟨ao, cap, hov, hcapo, hlast⟩ := ov_shape h
  have hfr3 := h.ok.fr
  obtain ⟨n, hn⟩ : ∃ n, n = r.fr.length := ⟨_, rfl⟩
  rw [← hn] at hov hfr3
  have HN : Hid (n = r.fr.length) := hn
  have HOV : Hid (m.ov = .slice ao n cap) := hov
  clear h hw hxs hcell hres hkind hln hcap hcm hbB hB hov hcapo hlast hn
  go_enter Tryz.func84, Tryz.ntmps84
  go_wp2_with fail
  refine HVH.out.mono ?_
  rintro e W2 ⟨hb2, hok, hbad⟩
  have HP2 : Hid (PrAt lo base R Pb lm vm cm w0 W2 r line m) := HH.out.below hb2
  have hz2 := hb2.size
  cases hval : r.value [a] with
  | none =>
    obtain rfl := hbad hval
    have HR : res = (4, r) := by rw [HRES.out, hval]
    exact ⟨rfl, MEnds.bad HR (by decide) rfl (HH.out.gone hb2)⟩
  | some ex =>
    obtain ⟨pb, rfl, hpv⟩ := hok ex hval
    have HPV : Hid (PVal (NewB w W2) W2 (ptr pb) ex) := hpv
    have HR1 : Hid (res = if 16 ≤ r.stmts ∨ 3 ≤ n then (5, r) else (0, r.opens kind ln ex)) := by show _ = _; rw [HRES.out, hval, HN.out]
    clear HVH hb2 hpv hok hbad HRES hval
    have hRz : R < W2.heap.size := by omega
    have c43 : W2.cell? ⟨R, 43, none⟩ = some (.slice ao n cap) := by rw [← HOV.out]; exact HP2.out.cR.c 43 (by omega)
    obtain ⟨o, ho⟩ : ∃ o : Obj, o = .cells #[.int .i64 kind, .int .i64 0, .int .i64 0, .pointer (some ⟨pb, 0, none⟩), .slice none 0 0, .slice none 0 0] 169 := ⟨_, rfl⟩
    have HA : Hid (PrAt lo base R Pb lm vm cm w0 (W2.alloc o) r line m) := HP2.out.below ((Below.refl _ _).alloc (Nat.le_refl _) _)
    have hza : (W2.alloc o).heap.size = W2.heap.size + 1 := World.size_alloc _ _
    have HZA : Hid ((W2.alloc o).heap.size = W2.heap.size + 1) := hza
    have HRB : Hid (Calls Tryz.prog 46 #[.pointer (some ⟨R, 0, none⟩), .bool false, .int .i64 5] (W2.alloc o) fun e w' => e = .panicked (stopAt 5 line) ∧ Below (W2.alloc o).heap.size (W2.alloc o) w') := rneed_bad R 5 line _ (HA.out.cR.c 1 (by omega))
    have HOK : Hid (Calls Tryz.prog 46 #[.pointer (some ⟨R, 0, none⟩), .bool true, .int .i64 5] (W2.alloc o) fun e w' => e = .returned (.tuple #[]) ∧ w' = W2.alloc o) := rneed_ok R 5 _
    have hw5 : m.who W2.heap.size = 5 := Classical.byContradiction fun hne => by have := (HP2.out.re.wh _ hne).2; omega
    have HADD : Hid (Calls Tryz.prog 82 #[.pointer (some ⟨R, 0, none⟩), .pointer (some ⟨W2.heap.size, 0, none⟩)] (W2.alloc o) (AddEnds lo base R Pb lm vm cm w0 r line m W2.heap.size kind 0 (ptr pb) (W2.alloc o))) :=
      radd_any HA.out hbg W2.heap.size kind 0 (ptr pb) (by omega) hw5 (by omega) (by rw [ho]; exact Cells.new W2 [.int .i64 kind, .int .i64 0, .int .i64 0, .pointer (some ⟨pb, 0, none⟩), .slice none 0 0, .slice none 0 0] _)
    have HBO : Hid (∀ b, b < W2.heap.size → (W2.alloc o).heap[b]? = W2.heap[b]?) := ((Below.refl W2.heap.size W2).alloc (Nat.le_refl _) _).block
    rw [ho] at HRB HOK HADD
    clear hza hw5
    by_cases h3 : 3 ≤ n
    · have b3 : ¬ (n : Int) < 3 := by omega
      have HR : Hid (res = (5, r)) := by show _ = _; rw [HR1.out]; exact if_pos (.inr h3)
      rw [ho] at HA HZA
      clear ho HADD HOK HBO
      go_wp2_with fail
      try rw [show decide ((n : Int) < 3) = false from decide_eq_false (by omega)]
      refine HRB.out.mono ?_
      rintro e w1 ⟨rfl, hb1⟩
      exact ⟨rfl, MEnds.bad HR.out (by decide) rfl (HA.out.gone hb1)⟩
    · have b3 : (n : Int) < 3 := by omega
      have HO : Hid (o = .cells #[.int .i64 kind, .int .i64 0, .int .i64 0, .pointer (some ⟨pb, 0, none⟩), .slice none 0 0, .slice none 0 0] 169) := ho
      clear HRB ho
      go_wp2_with fail
      try rw [show decide ((n : Int) < 3) = true from decide_eq_true (by omega)]
      refine HOK.out.mono ?_
      rintro e w1 ⟨rfl, hw1⟩
      rw [hw1]
      clear hw1 w1 HOK
      go_wp2_with fail
      refine HADD.out.mono ?_
      rintro e w1 (⟨h16, rfl, hb4⟩ | ⟨h16, rfl, W3, hP3, hz3, hq3, hc3, nn, xs, v', ho3, G⟩)
      · have HR : res = (5, r) := by rw [HR1.out]; exact if_pos (.inl h16)
        exact ⟨rfl, MEnds.bad HR (by decide) rfl hb4⟩
      · rw [← HO.out] at hz3 hq3
        have hlow := grew_keeps (r := { r with stmts := r.stmts + 1 }) hP3 G ho3
        have hba3 := hP3.hba
        have hto := hP3.re.to
        have hab : R ≠ actB Pb m.gs := by
          cases hgs : m.gs with
          | nil => exact hP3.nd.1
          | cons g gs =>
            have hl := hP3.re.fa.len
            have hfa := hP3.re.fa
            cases hfr : r.fr with
            | nil => rw [show ({ r with stmts := r.stmts + 1 } : Fl.RS).fr = r.fr from rfl, hfr, hgs] at hl; simp at hl
            | cons f fs =>
              rw [show ({ r with stmts := r.stmts + 1 } : Fl.RS).fr = r.fr from rfl, hfr, hgs] at hfa
              have := hP3.re.wh g.sb (by rw [hfa.1.ts]; omega)
              show R ≠ g.sb
              omega
        have hz1 := G.hz
        have e43 : w1.cell? ⟨R, 43, none⟩ = some (.slice ao n cap) := (World.cell?_of_block (a := ⟨R, 43, none⟩) (hlow R (by omega) hab)).trans (by rw [← HOV.out]; exact hP3.cR.c 43 (by omega))
        have efz : ∀ j, w1.frozen? ⟨R, j, none⟩ = false := fun j => (World.frozen?_of_block (a := ⟨R, j, none⟩) (hlow R (by omega) hab)).trans (hP3.cR.z j)
        have hR1 : R < w1.heap.size := by omega
        obtain ⟨ys, hys⟩ : ∃ ys, ys = (m.gs.map fun g => ptr g.ob).reverse := ⟨_, rfl⟩
        have hovb : ∀ k, (Value.slice ao n cap).ownBlock = some k → base ≤ k ∧ k < W3.heap.size ∧ k ≠ R ∧ w1.heap[k]? = W3.heap[k]? := fun k hk => by
          rw [← HOV.out] at hk
          have h2 := hto k hk
          have h1 := hP3.re.wh k (by rw [h2]; decide)
          refine ⟨h1.1, h1.2, by omega, G.q k h1.2 (fun he => ?_) (fun he => ?_)⟩
          · cases hgs : m.gs with
            | nil => rw [hgs] at he; have : k = Pb := he; omega
            | cons g gs =>
              have hl := hP3.re.fa.len
              have hfa := hP3.re.fa
              cases hfr : r.fr with
              | nil => rw [show ({ r with stmts := r.stmts + 1 } : Fl.RS).fr = r.fr from rfl, hfr, hgs] at hl; simp at hl
              | cons f fs =>
                rw [show ({ r with stmts := r.stmts + 1 } : Fl.RS).fr = r.fr from rfl, hfr, hgs] at hfa
                rw [hgs] at he
                have he' : k = g.sb := he
                rw [he', hfa.1.ts] at h2; omega
          · cases hgs : m.gs with
            | nil =>
              have hl := hP3.re.fa.len
              have hfr : r.fr = [] := List.eq_nil_of_length_eq_zero (by rw [hgs] at hl; simpa using hl.symm)
              rw [hgs, hfr] at he
              rw [hP3.re.tb k he] at h2; omega
            | cons g gs =>
              have hl := hP3.re.fa.len
              have hfa := hP3.re.fa
              cases hfr : r.fr with
              | nil => rw [show ({ r with stmts := r.stmts + 1 } : Fl.RS).fr = r.fr from rfl, hfr, hgs] at hl; simp at hl
              | cons f fs =>
                rw [show ({ r with stmts := r.stmts + 1 } : Fl.RS).fr = r.fr from rfl, hfr, hgs] at hfa
                rw [hgs, hfr] at he
                rw [hfa.1.ta k he] at h2; omega
        obtain ⟨oo, hoo⟩ : ∃ oo : Obj, oo = .cells #[.pointer (some ⟨W2.heap.size, 0, none⟩), .bool false] 181 := ⟨_, rfl⟩
        have hza1 : (w1.alloc oo).heap.size = w1.heap.size + 1 := World.size_alloc _ _
        have HOWN : Hid ((w1.alloc oo).ownsRow base 178 1 (.slice ao n cap) n ys) := by
          have h1 := hP3.re.oo
          rw [HOV.out, ← hys] at h1
          rw [show ({ r with stmts := r.stmts + 1 } : Fl.RS).fr = r.fr from rfl, ← HN.out] at h1
          exact own_same h1 (fun k hk => (((Below.refl w1.heap.size w1).alloc (Nat.le_refl _) oo).block k (by have := hovb k hk; omega)).trans (hovb k hk).2.2.2)
        have HFIN : Hid (∀ (W4 : World) (u : Value) (o2 : Obj), W4.ownsRow base 178 1 u (n + 1) (ys ++ [ptr w1.heap.size]) → ((w1.alloc oo).alloc o2).grownBy W4 (Value.slice ao n cap).ownBlock → (u.ownBlock = (Value.slice ao n cap).ownBlock ∨ u.ownBlock = some ((w1.alloc oo).alloc o2).heap.size) → MEnds lo base R Pb lm vm cm w0 line res (.returned (.tuple #[])) (W4.setCell ⟨R, 43, none⟩ u)) := fun W4 u o2 h1 h2 h3' => by
          have hG2 : GrewAt 178 lo base w0 (w1.alloc oo) (W4.setCell ⟨R, 43, none⟩ u) R 43 (.slice ao n cap) u n ys (ptr w1.heap.size) :=
            GrewAt.of (G.bel.alloc (by omega) _) (by omega) (by omega) (by omega) h1 h2 h3' (fun k hk => by have := hovb k hk; exact ⟨this.1, by omega, this.2.2.1⟩) (by omega)
          rw [← HOV.out, HN.out, hys] at hG2
          obtain ⟨m', hm⟩ := PrAt.opens (r := r) hP3 hbg (by rw [← HN.out]; omega) (z1 := w.heap.size) (sn := W2.heap.size) (kind := kind) (ln := ln) (vp := ptr pb) (e := ex) HKD.out (fun b hb => (HH.out.re.wh b hb).2) (by omega) ⟨by omega, by rw [hz3, HZA.out]⟩ HLN.out HH.out.ok.cn hc3
            (HPV.out.kept (fun b hb => hb) (fun b hb => (hq3 b (by have := hb.1; omega) (by have := hb.2; omega)).trans (HBO.out b hb.2))) ho3 G oo
            (by rw [hoo]; exact Cells.new w1 [.pointer (some ⟨W2.heap.size, 0, none⟩), .bool false] _) hG2
          exact MEnds.good (by rw [HR1.out]; exact if_neg (by omega)) rfl hm
        have HOB : Hid (∀ k, (Value.slice ao n cap).ownBlock = some k → base ≤ k ∧ k < w1.heap.size ∧ k ≠ R) := fun k hk => by have := hovb k hk; exact ⟨this.1, by omega, this.2.2.1⟩
        have t0 : ∀ i u, ([.pointer (some ⟨w1.heap.size, 0, none⟩)] : List Value)[i]? = some u → ((w1.alloc (.cells #[.pointer (some ⟨W2.heap.size, 0, none⟩), .bool false] 181)).alloc (.cells #[.pointer (some ⟨w1.heap.size, 0, none⟩)] 178)).cell? ((⟨w1.heap.size + 1, 0, none⟩ : Addr).add i) = some u := by
          have := (str_cell_new : ∀ i u, ([.pointer (some ⟨w1.heap.size, 0, none⟩)] : List Value)[i]? = some u → ((w1.alloc (.cells #[.pointer (some ⟨W2.heap.size, 0, none⟩), .bool false] 181)).alloc (.cells #[.pointer (some ⟨w1.heap.size, 0, none⟩)] 178)).cell? ((⟨(w1.alloc (.cells #[.pointer (some ⟨W2.heap.size, 0, none⟩), .bool false] 181)).heap.size, 0, none⟩ : Addr).add i) = some u)
          rw [World.size_alloc] at this
          exact this
        rw [hoo] at HOWN HFIN
        obtain ⟨i0, hi0, hz0, hzs, hzb⟩ := info_parts Tryz.infoPOpened
        clear hP3 hq3 hc3 ho3 G hlow hovb hto hys hoo hza1 HPV HR1 HADD HBO HA HP2 HH hz3 HO c43
        go_wp2_with (at_builtin; refine wpList_append_at _ rfl (.tmp 28) (.tmp 32) 98 rfl base 178 i0 (.pointer none) 1 8 Tryz.underlying98 hi0 hz0 hzs hzb rfl (by decide) _ _ _ rfl (HOWN.out.alloc _) ⟨_, 0, none⟩ 1 1 [.pointer (some ⟨w1.heap.size, 0, none⟩)] rfl rfl (by decide) t0 ?c2 ?c3 ?c4 ?c5 ?_)
        case c2 => intro u hu; simp at hu; subst hu; rfl
        case c3 => unfold maxLen; omega
        case c4 => omega
        case c5 => simp; omega
        intro u W4 hown4 hg4 hwh4
        obtain ⟨va, vcap, rfl⟩ := row_shape hown4
        have hq4 : W4.heap[R]? = w1.heap[R]? := (hg4.block R (by simp; omega) (fun hh => (HOB.out R hh.symm).2.2 rfl)).trans ((((Below.refl w1.heap.size w1).alloc (Nat.le_refl _) _).alloc (by simp) _).block R hR1)
        have g4 : W4.cell? ⟨R, 43, none⟩ = some (.slice ao n cap) := (World.cell?_of_block (a := ⟨R, 43, none⟩) hq4).trans e43
        have gz : ∀ j, W4.frozen? ⟨R, j, none⟩ = false := fun j => (World.frozen?_of_block (a := ⟨R, j, none⟩) hq4).trans (efz j)
        have HE : Hid (MEnds lo base R Pb lm vm cm w0 line res (.returned (.tuple #[])) (W4.setCell ⟨R, 43, none⟩ (.slice va (n + 1) vcap))) := HFIN.out W4 _ _ hown4 hg4 (by simp only [World.size_alloc] at hwh4 ⊢; exact hwh4)
        clear hown4 hg4 hwh4 hq4 HFIN HOWN HOB e43 efz t0
        go_wp2
        go_end0
        exact HE.out
end
end Go.Proofs.YthfacjlghcdndaaGreatDoor

namespace Go.Proofs.YthfacjlghcdndaaGreatDoor
open Go.RowKit
section
variable {lo base R Pb lm vm cm : Nat} {w0 w : World} {r : Fl.RS} {line : Int} {m : PMem}
set_option maxRecDepth 100000 in
theorem openIf_any (h : PrAt lo base R Pb lm vm cm w0 w r line m) (hbg : r.begun = true) (B : Nat) (v : Value) (k a : List UInt8) (ln : Nat) (hln : line = (ln : Int)) (hB : B ≤ w.heap.size) (hw : WordsAt B w v [a]) (hk : (k == Fl.wIf) = true) :
    Calls Tryz.prog 66 #[.pointer (some ⟨R, 0, none⟩), v] w (MEnds lo base R Pb lm vm cm w0 line (r.stmt ln [k, a])) := by
  have HO : Hid (Calls Tryz.prog 84 #[.pointer (some ⟨R, 0, none⟩), .int .i64 5, v] w (MEnds lo base R Pb lm vm cm w0 line (r.stmt ln [k, a]))) := opens_any h hbg B v k a ln 5 hln hB hw (by rw [hk]; rfl)
  obtain ⟨res, hres⟩ : ∃ res, res = r.stmt ln [k, a] := ⟨_, rfl⟩
  rw [← hres] at HO ⊢
  obtain ⟨ao, n, c, rfl⟩ : ∃ ao n c, v = .slice ao n c := by obtain ⟨ao, c, h1, -⟩ := hw; exact ⟨_, _, _, h1⟩
  clear h hln hB hw hk hres
  go_enter Tryz.func66, Tryz.ntmps66
  go_wp2_with fail
  refine HO.out.mono ?_
  rintro e W (⟨h1, rfl, hm⟩ | ⟨h1, rfl, hb⟩)
  · have HE : Hid (MEnds lo base R Pb lm vm cm w0 line res (.returned (.tuple #[])) W) := .inl ⟨h1, rfl, hm⟩
    clear h1 hm HO
    go_wp2
    go_end0
    exact HE.out
  · exact ⟨rfl, .inr ⟨h1, rfl, hb⟩⟩
set_option maxRecDepth 100000 in
theorem openWhile_any (h : PrAt lo base R Pb lm vm cm w0 w r line m) (hbg : r.begun = true) (B : Nat) (v : Value) (k a : List UInt8) (ln : Nat) (hln : line = (ln : Int)) (hB : B ≤ w.heap.size) (hw : WordsAt B w v [a]) (hk : (k == Fl.wIf) = false) :
    Calls Tryz.prog 68 #[.pointer (some ⟨R, 0, none⟩), v] w (MEnds lo base R Pb lm vm cm w0 line (r.stmt ln [k, a])) := by
  have HO : Hid (Calls Tryz.prog 84 #[.pointer (some ⟨R, 0, none⟩), .int .i64 6, v] w (MEnds lo base R Pb lm vm cm w0 line (r.stmt ln [k, a]))) := opens_any h hbg B v k a ln 6 hln hB hw (by rw [hk]; rfl)
  obtain ⟨res, hres⟩ : ∃ res, res = r.stmt ln [k, a] := ⟨_, rfl⟩
  rw [← hres] at HO ⊢
  obtain ⟨ao, n, c, rfl⟩ : ∃ ao n c, v = .slice ao n c := by obtain ⟨ao, c, h1, -⟩ := hw; exact ⟨_, _, _, h1⟩
  clear h hln hB hw hk hres
  go_enter Tryz.func68, Tryz.ntmps68
  go_wp2_with fail
  refine HO.out.mono ?_
  rintro e W (⟨h1, rfl, hm⟩ | ⟨h1, rfl, hb⟩)
  · have HE : Hid (MEnds lo base R Pb lm vm cm w0 line res (.returned (.tuple #[])) W) := .inl ⟨h1, rfl, hm⟩
    clear h1 hm HO
    go_wp2
    go_end0
    exact HE.out
  · exact ⟨rfl, .inr ⟨h1, rfl, hb⟩⟩
def rowOut (r : Fl.RS) (ws : List (List UInt8)) (ln : Nat) : Nat × Fl.RS := if Fl.line ws = true then r.row ws ln else (2, r)
theorem rule_head (ws : List (List UInt8)) (k : Nat) (hk : k < 12) (hr : Fl.isRule ws k = true) : Fl.isHead (ws.getD 0 []) = (Fl.rule k).2.2 := by
  unfold Fl.isRule at hr
  simp only [Bool.and_eq_true, beq_iff_eq] at hr
  rw [hr.1]
  rcases (show k = 0 ∨ k = 1 ∨ k = 2 ∨ k = 3 ∨ k = 4 ∨ k = 5 ∨ k = 6 ∨ k = 7 ∨ k = 8 ∨ k = 9 ∨ k = 10 ∨ k = 11 by omega) with rfl | rfl | rfl | rfl | rfl | rfl | rfl | rfl | rfl | rfl | rfl | rfl <;> rfl
theorem rowOut_of (r : Fl.RS) (ws : List (List UInt8)) (ln k : Nat) (hne : ws ≠ []) (hk : k < 12) (hr : Fl.isRule ws k = true) (hb : (Fl.rule k).2.2 ≠ r.begun) : rowOut r ws ln = if (Fl.rule k).2.2 = true then r.head ws else r.stmt ln ws := by
  unfold rowOut Fl.RS.row
  rw [if_pos ((Fl.line_rule ws hne).2 ⟨k, hk, hr⟩), rule_head ws k hk hr, if_neg hb]
theorem rule_words (ws : List (List UInt8)) (k : Nat) (hne : ws ≠ []) (hr : Fl.isRule ws k = true) : ∃ xs, ws = (Fl.rule k).1 :: xs ∧ ws.drop 1 = xs ∧ Fl.fitAll (Fl.rule k).2.1 xs = true := by
  match ws, hne with
  | x :: xs, _ =>
    unfold Fl.isRule at hr
    simp only [Bool.and_eq_true, beq_iff_eq] at hr
    exact ⟨xs, by rw [← hr.1]; rfl, rfl, hr.2⟩
theorem row_any (h : PrAt lo base R Pb lm vm cm w0 w r line m) (T b off n cap ln : Nat) (ws : List (List UInt8)) (hT : w.heap[T]? = some (.cells linesArr 161 (0, 0))) (hws : WordsAt w.heap.size w (.slice (some ⟨b, off, none⟩) n cap) ws) (hne : ws ≠ []) (hln : line = (ln : Int)) (hb : base ≤ b ∧ m.who b = 5) :
    Calls Tryz.prog 45 #[.pointer (some ⟨R, 0, none⟩), .slice (some ⟨T, 0, none⟩) 12 12, .slice (some ⟨b, off, none⟩) n cap] w (MEnds lo base R Pb lm vm cm w0 line (rowOut r ws ln)) := by
  have hba := h.hba
  have hlo := h.hlo
  refine (oneLine_any R T b off n cap ws line r.begun w (fun W' => (rowOut r ws ln).1 = 0 ∧ ∃ m', PrAt lo base R Pb lm vm cm w0 W' (rowOut r ws ln).2 line m') (fun n p W' => p = line ∧ n = ((rowOut r ws ln).1 : Int) ∧ (rowOut r ws ln).1 ≠ 0 ∧ Gone lo base R Pb lm vm cm w0 W') hT hws hne (h.cR.c 1 (by omega)) (h.cR.c 2 (by omega)) ?_ ?_ ?_).mono ?_
  · intro hno W hW
    have hl : ¬ Fl.line ws = true := fun hl => by
      obtain ⟨k, hk, hr⟩ := (Fl.line_rule ws hne).1 hl
      rw [hno k hk] at hr; cases hr
    have : rowOut r ws ln = (2, r) := if_neg hl
    rw [this]
    exact ⟨rfl, rfl, Nat.succ_ne_zero _, h.gone hW⟩
  · intro k hk hr hbeg W hW
    have : rowOut r ws ln = (3, r) := by
      unfold rowOut Fl.RS.row
      rw [if_pos ((Fl.line_rule ws hne).2 ⟨k, hk, hr⟩), rule_head ws k hk hr, if_pos hbeg]
    rw [this]
    exact ⟨rfl, rfl, Nat.succ_ne_zero _, h.gone hW⟩
  · intro k hk hr hbeg W v hW hv hvb
    have hP := h.below hW
    have hBz := hW.size
    have hO := rowOut_of r ws ln k hne hk hr hbeg
    obtain ⟨xs, hx, hdr, hfit⟩ := rule_words ws k hne hr
    rw [hdr] at hv
    have hown : ∀ b', v.ownBlock = some b' → base ≤ b' ∧ m.who b' = 5 := fun b' h' => by rw [hvb] at h'; simp only [Option.some.injEq] at h'; subst h'; exact hb
    have hM : ∀ (F : Nat), Calls Tryz.prog F #[.pointer (some ⟨R, 0, none⟩), v] W (MEnds lo base R Pb lm vm cm w0 line (rowOut r ws ln)) → Calls Tryz.prog F #[.pointer (some ⟨R, 0, none⟩), v] W fun e W' => (e = .returned (.tuple #[]) ∧ (rowOut r ws ln).1 = 0 ∧ ∃ m', PrAt lo base R Pb lm vm cm w0 W' (rowOut r ws ln).2 line m') ∨ ∃ n p, e = .panicked (stopAt n p) ∧ p = line ∧ n = ((rowOut r ws ln).1 : Int) ∧ (rowOut r ws ln).1 ≠ 0 ∧ Gone lo base R Pb lm vm cm w0 W' := fun F hF => hF.mono (by
      rintro e W' (⟨h1, h2, h3⟩ | ⟨h1, h2, h3⟩)
      · exact .inl ⟨h2, h1, h3⟩
      · exact .inr ⟨_, _, h2, rfl, rfl, h1, h3⟩)
    have hbt : (Fl.rule k).2.2 = true → r.begun = false := fun ht => by rw [ht] at hbeg; cases hbb : r.begun <;> simp_all
    have hbf : (Fl.rule k).2.2 = false → r.begun = true := fun ht => by rw [ht] at hbeg; cases hbb : r.begun <;> simp_all
    refine hM _ ?_
    rw [hO]
    clear hM hO hbeg
    rcases (show k = 0 ∨ k = 1 ∨ k = 2 ∨ k = 3 ∨ k = 4 ∨ k = 5 ∨ k = 6 ∨ k = 7 ∨ k = 8 ∨ k = 9 ∨ k = 10 ∨ k = 11 by omega) with rfl | rfl | rfl | rfl | rfl | rfl | rfl | rfl | rfl | rfl | rfl | rfl
    · match xs, Fl.fitAll_len _ _ hfit with
      | [x], _ => rw [hx]; exact level_any hP (hbt rfl) w.heap.size v Fl.wLevel x hBz hv (fun b' h' => (hown b' h').1)
    · match xs, Fl.fitAll_len _ _ hfit with
      | [x, y], _ => rw [hx]; exact rbelow_any hP (hbt rfl) w.heap.size v x y hBz hv (fun b' h' => (hown b' h').1)
    · match xs, Fl.fitAll_len _ _ hfit with
      | [x, y], _ => rw [hx]; exact cell_any hP (hbt rfl) w.heap.size v x y hBz hv hown
    · match xs, Fl.fitAll_len _ _ hfit with
      | [x, y], _ => rw [hx]; exact channel_any hP (hbt rfl) w.heap.size v x y hBz hv hown
    · match xs, Fl.fitAll_len _ _ hfit with
      | [], _ => rw [hx]; exact begin_any hP (hbt rfl) v Fl.wBegin (by obtain ⟨ao, c, h1, -⟩ := hv; exact ⟨_, _, _, h1⟩)
    · match xs, Fl.fitAll_len _ _ hfit with
      | [x, y], _ => rw [hx]; exact set_any hP (hbf rfl) w.heap.size v Fl.wSet x [y] ln hln hBz hv hown (by decide) (.inl (by have := hfit; simp only [Fl.rule, Fl.ruleL, List.getD_cons_succ, List.getD_cons_zero, Fl.fitAll, Bool.and_eq_true] at this; simp only [Fl.fitAll, Bool.and_eq_true]; exact this.2))
    · match xs, Fl.fitAll_len _ _ hfit with
      | [x, y, z, t], _ => rw [hx]; exact set_any hP (hbf rfl) w.heap.size v Fl.wSet x [y, z, t] ln hln hBz hv hown (by decide) (.inr (by have := hfit; simp only [Fl.rule, Fl.ruleL, List.getD_cons_succ, List.getD_cons_zero, Fl.fitAll, Bool.and_eq_true] at this; simp only [Fl.fitAll, Bool.and_eq_true]; exact this.2))
    · match xs, Fl.fitAll_len _ _ hfit with
      | [x, y], _ => rw [hx]; exact out_any hP (hbf rfl) w.heap.size v Fl.wOut x [y] ln hln hBz hv (by decide) (.inl (by have := hfit; simp only [Fl.rule, Fl.ruleL, List.getD_cons_succ, List.getD_cons_zero, Fl.fitAll, Bool.and_eq_true] at this; simp only [Fl.fitAll, Bool.and_eq_true]; exact this.2))
    · match xs, Fl.fitAll_len _ _ hfit with
      | [x], _ => rw [hx]; exact openIf_any hP (hbf rfl) w.heap.size v Fl.wIf x ln hln hBz hv (by decide)
    · match xs, Fl.fitAll_len _ _ hfit with
      | [], _ => rw [hx]; exact openElse_any hP (hbf rfl) v Fl.wElse ln (by decide)
    · match xs, Fl.fitAll_len _ _ hfit with
      | [x], _ => rw [hx]; exact openWhile_any hP (hbf rfl) w.heap.size v Fl.wWhile x ln hln hBz hv (by decide)
    · match xs, Fl.fitAll_len _ _ hfit with
      | [], _ => rw [hx]; exact end_any hP (hbf rfl) v Fl.wEnd ln (by decide)
  · rintro e W' (⟨rfl, h1, h2⟩ | ⟨n', p, rfl, rfl, rfl, h1, h2⟩)
    · exact .inl ⟨h1, rfl, h2⟩
    · exact .inr ⟨h1, rfl, h2⟩
end
end Go.Proofs.YthfacjlghcdndaaGreatDoor

namespace Go.Proofs.YthfacjlghcdndaaGreatDoor
open Go.RowKit
section
variable {lo base R Pb lm vm cm : Nat} {w0 w : World} {r : Fl.RS} {line : Int} {m : PMem}
theorem PrAt.setLine (h : PrAt lo base R Pb lm vm cm w0 w r line m) (l' : Int) : PrAt lo base R Pb lm vm cm w0 (w.setCell ⟨R, 1, none⟩ (.int .i64 l')) r l' m := by
  obtain ⟨b1, b2, b3, b4, b5, b6⟩ := h.hba
  obtain ⟨l1, l2, l3, l4, l5⟩ := h.hlo
  obtain ⟨n1, n2, n3, n4, n5, n6, n7, n8, n9, n10⟩ := h.nd
  have hz : (w.setCell ⟨R, 1, none⟩ (.int .i64 l')).heap.size = w.heap.size := setCell_size _ _ _
  have q : ∀ k, k ≠ R → (w.setCell ⟨R, 1, none⟩ (.int .i64 l')).heap[k]? = w.heap[k]? := fun k hk => setCell_block _ _ _ _ _ hk
  exact { ok := h.ok, bel := h.bel.setCell (by show lo ≤ R; omega) _, fx := fun b f1 f2 f3 f4 f5 f6 => (q b f2).trans (h.fx b f1 f2 f3 f4 f5 f6), hlo := h.hlo, hba := ⟨b1, b2, b3, b4, b5, by omega⟩, nd := h.nd,
          cR := (h.cR.set (j := 1) (by omega) (.int .i64 l')).congr (fun j hj => by
            by_cases h4 : j = 1
            · subst h4; rfl
            · rw [if_neg h4]
              unfold rdCell
              by_cases h0 : j = 0
              · subst h0; rfl
              · rw [if_neg h0, if_neg h0, if_neg h4, if_neg h4]),
          cP := h.cP.block (q _ (Ne.symm n1)), nl := h.nl.block (q _ (Ne.symm n2)), nv := h.nv.block (q _ (Ne.symm n3)), nc := h.nc.block (q _ (Ne.symm n4)), tab := h.tab,
          re := h.re.kept (by omega) (fun k hk => q k (by have := h.re.wh k hk; omega)) }
set_option maxRecDepth 100000 in
set_option maxHeartbeats 1000000 in
theorem each_line (h : PrAt lo base R Pb lm vm cm w0 w r line m) (B1 B2 T b n ln : Nat) (ws : List (List UInt8)) (hB1 : w.cell? ⟨B1, 0, none⟩ = some (.pointer (some ⟨R, 0, none⟩))) (hB2 : w.cell? ⟨B2, 0, none⟩ = some (.slice (some ⟨T, 0, none⟩) 12 12)) (hT : w.heap[T]? = some (.cells linesArr 161 (0, 0))) (hd : B1 ≠ R ∧ B2 ≠ R ∧ T ≠ R)
    (hws : WordsAt w.heap.size w (.slice (some ⟨b, 0, none⟩) n n) ws) (hne : ws ≠ []) (hb : base ≤ b ∧ m.who b = 5) :
    Calls Tryz.prog 44 #[.int .i64 ln, .slice (some ⟨b, 0, none⟩) n n, .pointer (some ⟨B1, 0, none⟩), .pointer (some ⟨B2, 0, none⟩)] w (MEnds lo base R Pb lm vm cm w0 ln (rowOut r ws ln)) := by
  have hba := h.hba
  obtain ⟨d1, d2, d3⟩ := hd
  have hz : (w.setCell ⟨R, 1, none⟩ (.int .i64 ln)).heap.size = w.heap.size := setCell_size _ _ _
  have q : ∀ k, k ≠ R → (w.setCell ⟨R, 1, none⟩ (.int .i64 ln)).heap[k]? = w.heap[k]? := fun k hk => setCell_block _ _ _ _ _ hk
  have H1 := h.setLine (ln : Int)
  have hws1 : WordsAt (w.setCell ⟨R, 1, none⟩ (.int .i64 ln)).heap.size (w.setCell ⟨R, 1, none⟩ (.int .i64 ln)) (.slice (some ⟨b, 0, none⟩) n n) ws := by
    obtain ⟨ao, c, h1, h2, h3, h4, h5, h6⟩ := hws
    refine ⟨ao, c, h1, h2, h3, h4, h5, fun hn => ?_⟩
    obtain ⟨b', off, e, hb', hc⟩ := h6 hn
    refine ⟨b', off, e, by rw [hz]; exact hb', fun i hi => ?_⟩
    have he : b' = b := by rw [e] at h1; simp only [Value.slice.injEq, Option.some.injEq, Addr.mk.injEq] at h1; exact h1.1.1.symm
    exact (World.cell?_of_block (a := ⟨b', off + i, none⟩) (q b' (by omega))).trans (hc i hi)
  have HR : Hid (Calls Tryz.prog 45 #[.pointer (some ⟨R, 0, none⟩), .slice (some ⟨T, 0, none⟩) 12 12, .slice (some ⟨b, 0, none⟩) n n] (w.setCell ⟨R, 1, none⟩ (.int .i64 ln)) (MEnds lo base R Pb lm vm cm w0 ln (rowOut r ws ln))) :=
    row_any H1 T b 0 n n ln ws ((q T d3).trans hT) hws1 hne rfl hb
  obtain ⟨res, hres⟩ : ∃ res, res = rowOut r ws ln := ⟨_, rfl⟩
  rw [← hres] at HR ⊢
  have e1 : (w.setCell ⟨R, 1, none⟩ (.int .i64 ln)).cell? ⟨B1, 0, none⟩ = some (.pointer (some ⟨R, 0, none⟩)) := (World.cell?_of_block (a := ⟨B1, 0, none⟩) (q B1 d1)).trans hB1
  have e2 : (w.setCell ⟨R, 1, none⟩ (.int .i64 ln)).cell? ⟨B2, 0, none⟩ = some (.slice (some ⟨T, 0, none⟩) 12 12) := (World.cell?_of_block (a := ⟨B2, 0, none⟩) (q B2 d2)).trans hB2
  have c1 : w.cell? ⟨R, 1, none⟩ = some (.int .i64 line) := h.cR.c 1 (by omega)
  have zR := h.cR.z
  clear h hz q H1 hws1 hws hT hres hb hne
  go_enter Tryz.func44, Tryz.ntmps44
  go_wp2_with fail
  refine HR.out.mono ?_
  rintro e W (⟨h1, rfl, hm⟩ | ⟨h1, rfl, hb⟩)
  · have HE : Hid (MEnds lo base R Pb lm vm cm w0 ln res (.returned (.tuple #[])) W) := .inl ⟨h1, rfl, hm⟩
    clear h1 hm HR
    go_wp2
    go_end0
    exact HE.out
  · exact ⟨rfl, .inr ⟨h1, rfl, hb⟩⟩
end
end Go.Proofs.YthfacjlghcdndaaGreatDoor

namespace Go.Proofs.YthfacjlghcdndaaGreatDoor
theorem cutR_len (c : UInt8) (s : List UInt8) : (Fl.cutR c s).length ≤ s.length + 1 ∧ ∀ x ∈ Fl.cutR c s, x.length ≤ s.length := by
  induction s with
  | nil => simp [Fl.cutR]
  | cons a r ih =>
    unfold Fl.cutR
    split
    · refine ⟨by simp; omega, fun x hx => ?_⟩
      rcases List.mem_cons.1 hx with rfl | hx
      · simp
      · have := ih.2 x hx; simp; omega
    · cases hc : Fl.cutR c r with
      | nil => exact absurd hc (Fl.cutR_ne c r)
      | cons y t =>
        rw [hc] at ih
        simp only [Fl.onHead, List.length_cons] at ih ⊢
        refine ⟨by omega, fun x hx => ?_⟩
        rcases List.mem_cons.1 hx with rfl | hx
        · have := ih.2 y (by simp); simp; omega
        · have := ih.2 x (by simp [hx]); omega
end Go.Proofs.YthfacjlghcdndaaGreatDoor
