/- Texts Cee Cef Ceg CeStill. -/
import Derived.Test.YtbihjgfbocpobaaGreatDoorM24
import Derived.StillTailTactics
/- The program: a number's bytes. -/
set_option linter.unusedSimpArgs false
set_option linter.unusedVariables false
namespace Go.Proofs.YtbihjgfbocpobaaGreatDoor
open Go.RowKit

theorem Tryz.infoByte : (Tryz.prog.info? 5).map (fun i => (i.zero, i.size, i.bytes)) = some (some (.int .u8 0), 1, 1) := by kernel_rfl
def bval (u : UInt8) : Value := .int .u8 (u.toNat : Int)
set_option maxRecDepth 100000 in
theorem or128 : ∀ x, x < 256 → x ||| 128 = x % 128 + 128 := by decide
theorem byte_or128 (x : Nat) (hx : x < 256) : bits .or .u8 (x : Int) 128 = ((x % 128 + 128 : Nat) : Int) := by
  have := u8_or_nat x 128 hx (by omega)
  rw [or128 x hx] at this; simpa using this

set_option maxRecDepth 100000 in
set_option maxHeartbeats 1000000 in
theorem appendNumber_any (n : Nat) (hn : n < 2147483648) (base : Nat) (bs : List UInt8) (v : Value) (w : World) (hown : Holds w base v bs.length (bs.map bval)) (hlen : bs.length ≤ 1000000) (hbase : base ≤ w.heap.size) :
    Calls Tryz.prog 89 #[v, .int .i64 n] w fun e w' => ∃ v', e = .returned v' ∧ w'.ownsRow base 5 1 v' (bs ++ Fl.coded n).length ((bs ++ Fl.coded n).map bval) ∧ Below base w w' ∧ Step w v w' v' := by
  obtain ⟨i0, hi, hz0, hz1, hz2⟩ := info_parts Tryz.infoByte
  have HO0 : Hid (Holds w base v bs.length (bs.map bval)) := hown
  clear hown
  go_enter Tryz.func89, Tryz.ntmps89
  go_wp2_with fail
  go_loopw [0, 1] (fun vv i wr => ∃ (f k : Nat) (xs : List UInt8), f ≤ 9 ∧ k < 128 ^ f ∧ k < 2147483648 ∧ i = .int .i64 k ∧ bs ++ Fl.coded n = xs ++ Fl.codedF f k ∧ xs.length + f ≤ bs.length + 9 ∧ Holds wr base vv xs.length (xs.map bval) ∧ Below base w wr ∧ Step w v wr vv) (fun _ i _ => (intOf i).toNat)
  case atStart => exact ⟨9, n, bs, by omega, by omega, hn, rfl, rfl, by omega, HO0.out, Below.refl _ _, Step.refl _ _⟩
  case round =>
    obtain ⟨f, k, xs, hf, hkf, hk, rfl, hspec, hxl, hown, hbel, hstp⟩ := hrel
    have HST : Hid (Step w v wr u0) := hstp
    have HSP : Hid (bs ++ Fl.coded n = xs ++ Fl.codedF f k) := hspec
    have HB : Hid (Below base w wr) := hbel
    have HKF : Hid (k < 128 ^ f) := hkf
    have HO : Hid (Holds wr base u0 xs.length (xs.map bval)) := hown
    clear hspec hbel hkf hown hstp
    by_cases hge : 128 ≤ k
    · have hge' : (128 : Int) ≤ (k : Int) := by omega
      have hor := byte_or128 (k % 256) (by omega)
      go_wp2_with (at_builtin; refine wpList_append_holds _ rfl _ _ 23 rfl base i0 (.int .u8 0) Tryz.underlying23 hi hz0 hz1 hz2 rfl _ _ _ rfl (HO.out.alloc _) ⟨_, 0, none⟩ 1 1 [.int .u8 (bits .or .u8 ((k : Int) % 256) 128)] rfl rfl (by decide) one_cell_new ?c2 ?c3 ?c4 ?c5 ?_)
      case c2 => intro u hu; simp at hu; subst hu; rfl
      case c3 => unfold maxLen; omega
      case c4 => omega
      case c5 => have := HB.out.size; simp; omega
      · intro v' w2 hown' hgrow hwhere
        have HS2 : Hid (Step w v w2 v') := (HST.out.alloc _).append hgrow (by simp only [World.size_alloc] at hwhere ⊢; exact hwhere)
        have hb2 : Below base w w2 := HB.out.trans ⟨hgrow.os, hgrow.tape, hgrow.output, Nat.le_trans (by simp) hgrow.size, fun g hg => by
          have hsz := HB.out.size
          refine (hgrow.block g (by simp; omega) (fun hh => ?_)).trans (Below.heap_alloc _ _ _ (by omega))
          have := (HO.out.lt g hh.symm).1; omega⟩
        have HB2 : Hid (Below base w w2) := hb2
        obtain ⟨f', rfl⟩ : ∃ f', f = f' + 1 := ⟨f - 1, by
          cases f with
          | zero => have := HKF.out; simp at this; omega
          | succ g => omega⟩
        have hbv : (.int .u8 (bits .or .u8 ((k : Int) % 256) 128) : Value) = bval (UInt8.ofNat (k % 128 + 128)) := by
          have h1 : ((k : Int) % 256) = ((k % 256 : Nat) : Int) := by omega
          rw [h1, hor]
          have h2 : (UInt8.ofNat (k % 128 + 128)).toNat = k % 128 + 128 := by simp; omega
          unfold bval; rw [h2]
          congr 1; omega
        have ho1 : w2.ownsRow base 5 1 v' (xs ++ [UInt8.ofNat (k % 128 + 128)]).length ((xs ++ [UInt8.ofNat (k % 128 + 128)]).map bval) := by rw [hbv] at hown'; simpa using hown'
        have HO1 : Hid (w2.ownsRow base 5 1 v' (xs ++ [UInt8.ofNat (k % 128 + 128)]).length ((xs ++ [UInt8.ofNat (k % 128 + 128)]).map bval)) := ho1
        have HSP2 : Hid (bs ++ Fl.coded n = (xs ++ [UInt8.ofNat (k % 128 + 128)]) ++ Fl.codedF f' (k / 128)) := by
          show bs ++ Fl.coded n = _
          rw [HSP.out]; simp [Fl.codedF, show ¬ k < 128 by omega]
        have HK2 : Hid (k / 128 < 128 ^ f') := by
          have := HKF.out
          rw [Nat.pow_succ] at this
          exact Nat.div_lt_of_lt_mul (by rw [Nat.mul_comm]; exact this)
        clear hown' hgrow hwhere hb2 hbv ho1 hor
        go_wp2
        exact ⟨⟨f', k / 128, xs ++ [UInt8.ofNat (k % 128 + 128)], by omega, HK2.out, by omega, by go_num, HSP2.out, by simp; omega, .inl HO1.out, HB2.out, HS2.out⟩, by simp [intOf]; omega⟩
    · have hge' : (k : Int) < 128 := by omega
      have hc : Fl.codedF f k = [UInt8.ofNat k] := by
        cases f with
        | zero => rfl
        | succ g => simp [Fl.codedF, show k < 128 by omega]
      have HC : Hid (Fl.codedF f k = [UInt8.ofNat k]) := hc
      clear hc
      go_wp2_with (at_builtin; refine wpList_append_holds _ rfl _ _ 23 rfl base i0 (.int .u8 0) Tryz.underlying23 hi hz0 hz1 hz2 rfl _ _ _ rfl (HO.out.alloc _) ⟨_, 0, none⟩ 1 1 [.int .u8 (k : Int)] rfl rfl (by decide) one_cell_new ?d2 ?d3 ?d4 ?d5 ?_)
      case d2 => intro u hu; simp at hu; subst hu; rfl
      case d3 => unfold maxLen; omega
      case d4 => omega
      case d5 => have := HB.out.size; simp; omega
      · intro v' w2 hown' hgrow hwhere
        have HS2 : Hid (Step w v w2 v') := (HST.out.alloc _).append hgrow (by simp only [World.size_alloc] at hwhere ⊢; exact hwhere)
        have hb2 : Below base w w2 := HB.out.trans ⟨hgrow.os, hgrow.tape, hgrow.output, Nat.le_trans (by simp) hgrow.size, fun g hg => by
          have hsz := HB.out.size
          refine (hgrow.block g (by simp; omega) (fun hh => ?_)).trans (Below.heap_alloc _ _ _ (by omega))
          have := (HO.out.lt g hh.symm).1; omega⟩
        have HB2 : Hid (Below base w w2) := hb2
        have hbv : (.int .u8 (k : Int) : Value) = bval (UInt8.ofNat k) := by
          have h2 : (UInt8.ofNat k).toNat = k := by simp; omega
          unfold bval; rw [h2]
        have ho1 : w2.ownsRow base 5 1 v' (bs ++ Fl.coded n).length ((bs ++ Fl.coded n).map bval) := by
          rw [hbv] at hown'
          rw [HSP.out, HC.out]; simpa using hown'
        have HO1 : Hid (w2.ownsRow base 5 1 v' (bs ++ Fl.coded n).length ((bs ++ Fl.coded n).map bval)) := ho1
        clear hown' hgrow hwhere hb2 hbv ho1
        go_wp2
        go_ret
        exact ⟨v', rfl, HO1.out, HB2.out, HS2.out⟩
end Go.Proofs.YtbihjgfbocpobaaGreatDoor

/- The program: a list's bytes. -/
set_option linter.unusedSimpArgs false
set_option linter.unusedVariables false
namespace Go.Proofs.YtbihjgfbocpobaaGreatDoor
open Go.RowKit

set_option maxRecDepth 100000 in
set_option maxHeartbeats 1000000 in
theorem appendList_any (l : List Int) (hl : l.all Fl.inR = true) (hll : l.length ≤ 200) (B base : Nat) (hBb : B ≤ base) (lv : Value) (bs : List UInt8) (v : Value) (w : World) (hi : IntsAt B w lv l) (hown : Holds w base v bs.length (bs.map bval)) (hlen : bs.length ≤ 900000) (hbase : base ≤ w.heap.size) :
    Calls Tryz.prog 88 #[v, lv] w fun e w' => ∃ v', e = .returned v' ∧ w'.ownsRow base 5 1 v' (bs ++ (Fl.coded l.length ++ Fl.codedAll l)).length ((bs ++ (Fl.coded l.length ++ Fl.codedAll l)).map bval) ∧ Below base w w' ∧ Step w v w' v' := by
  have HA : Hid (∀ (k : Nat) (ys : List UInt8) (u : Value) (W : World), k < 2147483648 → Holds W base u ys.length (ys.map bval) → ys.length ≤ 1000000 → base ≤ W.heap.size → Calls Tryz.prog 89 #[u, .int .i64 k] W fun e w' => ∃ v', e = .returned v' ∧ w'.ownsRow base 5 1 v' (ys ++ Fl.coded k).length ((ys ++ Fl.coded k).map bval) ∧ Below base W w' ∧ Step W u w' v') := fun k ys u W h1 h2 h3 h4 => appendNumber_any k h1 base ys u W h2 h3 h4
  obtain ⟨ao, cap, rfl, _, hm, _⟩ := id hi
  have HI : Hid (IntsAt B w (.slice ao l.length cap) l) := hi
  have HL : Hid (l.all Fl.inR = true) := hl
  have HO : Hid (Holds w base v bs.length (bs.map bval)) := hown
  clear hi hl hown hm
  go_enter Tryz.func88, Tryz.ntmps88
  go_wp2_with (go_at_call 89; refine (HA.out l.length bs v w (by omega) HO.out (by omega) hbase).mono ?_; rintro e w1 ⟨v1, rfl, ho1, hb1, hs1⟩)
  have HO1 : Hid (w1.ownsRow base 5 1 v1 (bs ++ Fl.coded l.length).length ((bs ++ Fl.coded l.length).map bval)) := ho1
  have HB1 : Hid (Below base w w1) := hb1
  have HS1 : Hid (Step w v w1 v1) := hs1
  clear ho1 hb1 hs1
  go_wp2_with fail
  go_loopw [0, 13] (fun vv i wr => ∃ (j : Nat) (xs : List UInt8), j ≤ l.length ∧ i = .int .i64 j ∧ xs = bs ++ (Fl.coded l.length ++ Fl.codedAll (l.take j)) ∧ wr.ownsRow base 5 1 vv xs.length (xs.map bval) ∧ Below base w wr ∧ Step w v wr vv) (fun _ i _ => l.length - (intOf i).toNat)
  case atStart => exact ⟨0, bs ++ Fl.coded l.length, by omega, rfl, by simp [Fl.codedAll], HO1.out, HB1.out, HS1.out⟩
  case round =>
    clear HO1 HB1 HS1
    obtain ⟨j, xs, hj, rfl, hxs, hown, hbel, hstp⟩ := hrel
    have HST : Hid (Step w v wr u0) := hstp
    have HXS : Hid (xs = bs ++ (Fl.coded l.length ++ Fl.codedAll (l.take j))) := hxs
    have HOW : Hid (wr.ownsRow base 5 1 u0 xs.length (xs.map bval)) := hown
    have HBE : Hid (Below base w wr) := hbel
    have hxl : xs.length ≤ 1000000 := by
      have h1 := Fl.codedAll_len (l.take j)
      have h2 := Fl.coded_len l.length
      have h3 : (l.take j).length ≤ 200 := by simp; omega
      rw [hxs]; simp only [List.length_append]; omega
    clear hxs hown hbel hstp
    by_cases hlt : j < l.length
    · obtain ⟨b, off, rfl, hbB, hcj⟩ := ((HI.out).below (HBE.out.mono hBb)).at hlt
      have hji : (j : Int) < (l.length : Int) := by omega
      have hin : Fl.inR (l.getD j 0) = true := by
        have := HL.out
        rw [List.all_eq_true] at this
        exact this _ (by rw [List.getD_eq_getElem?_getD, List.getElem?_eq_getElem hlt]; exact List.getElem_mem hlt)
      simp only [Fl.inR, Bool.and_eq_true, decide_eq_true_eq] at hin
      obtain ⟨x, hx⟩ : ∃ x : Nat, (x : Int) = l.getD j 0 := ⟨(l.getD j 0).toNat, by omega⟩
      have hx31 : x < 2147483648 := by omega
      rw [← hx] at hcj
      have HX : Hid ((x : Int) = l.getD j 0) := hx
      have hbw : base ≤ wr.heap.size := Nat.le_trans hbase HBE.out.size
      clear hin hx
      go_wp2_with (go_at_call 89; refine (HA.out x xs u0 wr hx31 (.inl HOW.out) hxl hbw).mono ?_; rintro e w2 ⟨v2, rfl, ho2, hb2, hs2⟩)
      have HO2 : Hid (w2.ownsRow base 5 1 v2 (xs ++ Fl.coded x).length ((xs ++ Fl.coded x).map bval)) := ho2
      have HB2 : Hid (Below base w w2) := HBE.out.trans hb2
      have HS2 : Hid (Step w v w2 v2) := HST.out.trans hs2
      clear ho2 hb2 hs2
      go_wp2
      refine ⟨⟨j + 1, xs ++ Fl.coded x, by omega, by go_num, ?_, HO2.out, HB2.out, HS2.out⟩, by simp [intOf]; omega⟩
      have hg : l.take (j + 1) = l.take j ++ [(x : Int)] := by
        rw [HX.out, List.take_succ_eq_append_getElem hlt, List.getD_eq_getElem?_getD, List.getElem?_eq_getElem hlt]; rfl
      rw [hg, HXS.out]; simp [Fl.codedAll]
    · have hji : (l.length : Int) ≤ (j : Int) := by omega
      have hjl : j = l.length := by omega
      have HF : Hid (xs = bs ++ (Fl.coded l.length ++ Fl.codedAll l)) := by
        show xs = _
        rw [HXS.out, hjl, List.take_length]
      clear hjl
      go_wp2
      go_ret
      exact ⟨u0, rfl, by rw [← HF.out]; exact HOW.out, HBE.out, HST.out⟩
end Go.Proofs.YtbihjgfbocpobaaGreatDoor

/- The program: the sizes. -/
set_option linter.unusedSimpArgs false
set_option linter.unusedVariables false
namespace Go.Proofs.YtbihjgfbocpobaaGreatDoor
open Go.RowKit

set_option maxRecDepth 100000 in
set_option maxHeartbeats 400000 in
theorem sizesFit_any (ls : List Int) (ns : List Fl.Node) (la na : Option Addr) (lc nc B : Nat) (w : World) (hl : IntsAt B w (.slice la ls.length lc) ls) (hn : NodesAt B w (.slice na ns.length nc) ns) (hB : B ≤ w.heap.size) :
    Calls Tryz.prog 56 #[.agg #[.slice la ls.length lc, .slice na ns.length nc]] w fun e w' => e = .returned (.bool (decide (ls.length ≤ 4) && (ls.all Fl.inR && (decide (1 ≤ ns.length) && decide (ns.length ≤ 200))))) ∧ Below w.heap.size w w' := by
  have HA : Hid (∀ W, Below B w W → Calls Tryz.prog 82 #[.slice la ls.length lc] W fun e w' => e = .returned (.bool (ls.all Fl.inR)) ∧ Below W.heap.size W w') := fun W hW => allNumbers_any ls _ B W (hl.below hW)
  obtain ⟨r, hr⟩ : ∃ r, r = (decide (ls.length ≤ 4) && (ls.all Fl.inR && (decide (1 ≤ ns.length) && decide (ns.length ≤ 200)))) := ⟨_, rfl⟩
  rw [← hr]
  have HR : Hid (r = (decide (ls.length ≤ 4) && (ls.all Fl.inR && (decide (1 ≤ ns.length) && decide (ns.length ≤ 200))))) := hr
  clear hl hr hn
  by_cases h4 : ls.length ≤ 4
  · have h4' : (ls.length : Int) ≤ 4 := by omega
    go_enter Tryz.func56, Tryz.ntmps56
    go_wp2_with fail
    have hBa : Below B w (w.alloc (.cells #[.slice la ls.length lc, .slice na ns.length nc] 32)) := (Below.refl _ w).alloc hB _
    refine (HA.out _ hBa).mono ?_
    rintro e w1 ⟨rfl, hb1⟩
    have p1 : w1.cell? ⟨w.heap.size, 1, none⟩ = some (.slice na ns.length nc) := (hb1.cell (p := ⟨w.heap.size, 1, none⟩) (by simp)).trans (by simp)
    have HB1 : Hid (Below w.heap.size w w1) := ((Below.refl _ w).alloc (Nat.le_refl _) _).trans (hb1.mono (by simp))
    clear hb1 hBa HA
    cases ha : ls.all Fl.inR with
    | false =>
      have HS : Hid (r = false) := by show r = false; rw [HR.out, ha]; simp
      clear ha
      go_wp2
      go_ret
      exact ⟨ret_bool HS.out.symm, HB1.out⟩
    | true =>
      have HA1 : Hid (ls.all Fl.inR = true) := ha
      clear ha
      by_cases h1 : 1 ≤ ns.length
      · have h1' : (1 : Int) ≤ (ns.length : Int) := by omega
        by_cases h2 : ns.length ≤ 200
        · have h2' : (ns.length : Int) ≤ 200 := by omega
          have HS : Hid (r = true) := by show r = true; rw [HR.out, HA1.out]; simp [h4, h1, h2]
          go_wp2
          go_ret
          exact ⟨ret_bool HS.out.symm, HB1.out⟩
        · have h2' : (200 : Int) < (ns.length : Int) := by omega
          have HS : Hid (r = false) := by show r = false; rw [HR.out, HA1.out]; simp [h2]
          go_wp2
          go_ret
          exact ⟨ret_bool (by rw [HS.out]; simp; omega), HB1.out⟩
      · have h1' : (ns.length : Int) < 1 := by omega
        have HS : Hid (r = false) := by show r = false; rw [HR.out, HA1.out]; simp [h1]
        go_wp2
        go_ret
        exact ⟨ret_bool HS.out.symm, HB1.out⟩
  · have h4' : (4 : Int) < (ls.length : Int) := by omega
    have HS : Hid (r = false) := by show r = false; rw [HR.out]; simp [h4]
    go_enter Tryz.func56, Tryz.ntmps56
    go_wp2_with fail
    go_ret
    exact ⟨ret_bool HS.out.symm, (Below.refl _ w).alloc (Nat.le_refl _) _⟩
end Go.Proofs.YtbihjgfbocpobaaGreatDoor

/- A region of reads with a guard, then a forced tail: the region's own list is hidden in the walk. -/
set_option linter.unusedSimpArgs false
set_option linter.unusedVariables false
namespace Go.Proofs.YtbihjgfbocpobaaGreatDoor
open Go.RowKit

/-- The law: two guards. -/
theorem still_tail_gen {P : Program} {id : Nat} {Q : Exit → Act → World → Prop} {a : Act} {w : World} {l : List Oper} (n g d g' d' : Nat) (hm : P.follows .mixedOrders = true) (hB : Region.lexTailB .any l.toArray n = true) (hg : ((l.toArray[g]?).bind fun x => x.dst) = some d) (hg' : ((l.toArray[g']?).bind fun x => x.dst) = some d')
    (h : ∀ ops : Array Oper, ((ops[g]?).bind fun x => x.dst) = some d → ((ops[g']?).bind fun x => x.dst) = some d' → wpStill P ops { w with drawn := w.drawn + 1 } (fun a' => wpList P ops Q (l.drop n) a' { w with drawn := w.drawn + 1 }) (l.take n) a) : (Code.region id l.toArray true).wp P Q a w :=
  wp_region_still_tail n hm hB (h _ hg hg')
/-- The same where all only read. -/
theorem still_gen {P : Program} {id : Nat} {Q : Exit → Act → World → Prop} {a : Act} {w : World} {l : List Oper} (g d g' d' : Nat) (hm : P.follows .mixedOrders = true) (hB : Region.lexB .any l.toArray = true) (hg : ((l.toArray[g]?).bind fun x => x.dst) = some d) (hg' : ((l.toArray[g']?).bind fun x => x.dst) = some d')
    (h : ∀ ops : Array Oper, ((ops[g]?).bind fun x => x.dst) = some d → ((ops[g']?).bind fun x => x.dst) = some d' → wpStill P ops { w with drawn := w.drawn + 1 } (fun a' => Q .normal a' { w with drawn := w.drawn + 1 }) l a) : (Code.region id l.toArray true).wp P Q a w :=
  wp_region_still_lit hm hB (h _ hg hg')
theorem still_plain {P : Program} {ops : Array Oper} {w : World} {Q : Act → Prop} {a : Act} {o : Oper} {rest : List Oper} (hg : o.guard = none)
    (h : ∀ K : Act → Prop, (∀ a, wpStill P ops w Q rest a → K a) → o.still P a w K) : wpStill P ops w Q (o :: rest) a :=
  wpStill_step fun K hK => by simp only [Region.wanted, hg, if_true]; exact h K hK
theorem still_go {P : Program} {ops : Array Oper} {w : World} {Q : Act → Prop} {a : Act} {o : Oper} {rest : List Oper} {j : Nat} {b : Bool} (hg : o.guard = some (j, b)) (hy : yielded ops a.tmps j = some b)
    (h : ∀ K : Act → Prop, (∀ a, wpStill P ops w Q rest a → K a) → o.still P a w K) : wpStill P ops w Q (o :: rest) a :=
  wpStill_step fun K hK => by simp only [Region.wanted, hg, hy, beq_self_eq_true, if_true]; exact h K hK
theorem still_skip {P : Program} {ops : Array Oper} {w : World} {Q : Act → Prop} {a : Act} {o : Oper} {rest : List Oper} {j : Nat} {b c : Bool} (hg : o.guard = some (j, b)) (hy : yielded ops a.tmps j = some c) (hne : (some c == some b) = false)
    (h : wpStill P ops w Q rest (a.put o.dst undef)) : wpStill P ops w Q (o :: rest) a :=
  wpStill_step fun K hK => by simp only [Region.wanted, hg, hy, hne]; exact hK _ h
end Go.Proofs.YtbihjgfbocpobaaGreatDoor
