/- Texts Rmm RuRow. -/
import Derived.Test.YthfacjlghcdndaaGreatDoorM37
import Derived.Test.YthfacjlghcdndaaGreatDoorTie
import Derived.Test.YthfacjlghcdndaaGreatDoorCards
import Derived.SevenTiedAt
import Derived.ChangeSlices
import Derived.SizedLaws
import Derived.Carry
import Derived.HandedShaped
import Derived.Shelf.Vars
import Derived.Lib.LaidTab
import Derived.LaidMore
set_option linter.unusedSimpArgs false
set_option linter.unusedVariables false
namespace Go.Proofs.YthfacjlghcdndaaGreatDoor
open Go.RowKit
def toU32 (x : Int) : Nat := (x % 4294967296).toNat
theorem toU32_lt (x : Int) : toU32 x < 4294967296 := by unfold toU32; omega
theorem toU32_cast (x : Int) : ((toU32 x : Nat) : Int) = x % 4294967296 := by unfold toU32; omega
set_option maxRecDepth 100000 in
set_option maxHeartbeats 20000000 in
theorem runs_any (l : List UInt8) (xs : List Int) (ao : Option Addr) (cap : Nat) (fuel : Int) (W : World) (hE : ErrType W) (hg : 1 < W.heap.size) (hm : MaxLenIs W) (hi : IntsAt W.heap.size W (.slice ao xs.length cap) xs) (hl : l.length ≤ 1000000000000000000) (hx : xs.length ≤ 1000000000000000000) :
    Calls Tryz.prog 3 #[.string ⟨l.toArray⟩, .slice ao xs.length cap, .int .i64 fuel] W fun e w' => e = .returned (.bool true) ∧ Below W.heap.size W w' := by
  obtain ⟨n, hn⟩ : ∃ n, n = xs.length := ⟨_, rfl⟩
  rw [← hn] at hi hx ⊢
  have hlI : (l.length : Int) ≤ 1000000000000000000 := by omega
  have hnI : (n : Int) ≤ 1000000000000000000 := by omega
  have hmx : maxLen = 9223372036854775807 := rfl
  by_cases hbig : 32768 < l.length + n
  · have hbI : (32768 : Int) < (l.length : Int) + (n : Int) := by omega
    clear hi hE hg hm
    go_enter Tryz.func3, Tryz.ntmps3
    go_wp2
    go_ret
    exact ⟨rfl, Below.refl _ _⟩
  have hbI : ¬ (32768 : Int) < (l.length : Int) + (n : Int) := by omega
  have hbI2 : (l.length : Int) + (n : Int) ≤ 32768 := by omega
  have hn2 : (n : Int) ≤ 32768 := by omega
  obtain ⟨cs, hcs⟩ : ∃ cs, cs = xs.map toU32 := ⟨_, rfl⟩
  have HCL : Hid (cs.length = n) := by show _ = _; rw [hcs, hn]; simp
  have HLT : Hid (∀ x ∈ cs, x < 4294967296) := by rw [hcs]; intro x hx; obtain ⟨y, -, rfl⟩ := List.mem_map.1 hx; exact toU32_lt y
  have HRAN : Hid (∀ (W' : World) (v : Value), Below W.heap.size W W' → U32At W' v cs → Calls Tryz.prog 4 #[.string ⟨l.toArray⟩, v, .int .i64 fuel] W' fun e w' => e = .returned (.bool true) ∧ Below W'.heap.size W' w') := fun W' v hW hv => ran_any fuel ((hW.cell (p := ⟨0, 0, none⟩) (World.block_lt_of_cell? W _ hE)).trans hE) (by omega) (by have := hW.size; omega) (by
      obtain ⟨x, hx⟩ := hm
      exact ⟨x, (hW.cell (p := ⟨1, 0, none⟩) hg).trans hx⟩) hv (by rw [HCL.out]; omega)
  have HIN : Hid (∀ k, (hk : k < n) → ∃ b off x, ao = some ⟨b, off, none⟩ ∧ (∀ W', Below W.heap.size W W' → W'.cell? ⟨b, off + k, none⟩ = some (.int .i64 x)) ∧ cs[k]? = some (toU32 x)) := fun k hk => by
    obtain ⟨a, c, e, -, -, h6⟩ := hi
    simp only [Value.slice.injEq] at e
    obtain ⟨b, off, h7, h8, h9⟩ := h6 (by intro h; rw [h] at hn; simp at hn; omega)
    refine ⟨b, off, xs.getD k 0, by rw [e.1, h7], fun W' hW => (hW.cell (p := ⟨b, off + k, none⟩) h8).trans (h9 k (by omega)), ?_⟩
    have hk' : k < xs.length := by omega
    rw [hcs, List.getElem?_map, List.getElem?_eq_getElem hk', List.getD_eq_getElem?_getD, List.getElem?_eq_getElem hk']
    rfl
  clear hi hE hg hm hcs hn hx hbig
  obtain ⟨i0, hi0, hz0, hzs, hzb⟩ := info_parts Tryz.infoU32P
  go_enter Tryz.func3, Tryz.ntmps3
  go_wp2_with fail
  go_loopw [7, 8] (fun c i wr => ∃ k : Nat, k ≤ n ∧ i = .int .i64 k ∧ Below W.heap.size W wr ∧ wr.ownsRow W.heap.size 24 1 c k (u32V (cs.take k))) (fun _ i _ => n - (intOf i).toNat)
  case atStart => exact ⟨0, Nat.zero_le _, rfl, Below.refl _ _, World.ownsRow_nil _ _ _ _⟩
  case round =>
    rename_i u7 u8
    obtain ⟨k, hk, rfl, hbr, hown⟩ := hrel
    have HOWN : Hid (wr.ownsRow W.heap.size 24 1 u7 k (u32V (cs.take k))) := hown
    have HBR : Hid (Below W.heap.size W wr) := hbr
    obtain ⟨va, vc, rfl⟩ : ∃ a c, u7 = .slice a k c := by
      rcases hown.2 with ⟨h1, h2⟩ | ⟨g, cp, cur, h1, _⟩
      · exact ⟨none, 0, by rw [h1, h2]⟩
      · exact ⟨_, cp, h1⟩
    clear hown hbr
    by_cases hlt : k < n
    · have hkI : (k : Int) < (n : Int) := by omega
      obtain ⟨b, off, x, rfl, hcell, hcs⟩ := HIN.out k hlt
      have c0 := hcell wr HBR.out
      clear hcell
      have e1 : (x % 4294967296) = ((toU32 x : Nat) : Int) := (toU32_cast x).symm
      obtain ⟨y, hy⟩ : ∃ y, y = x % 4294967296 := ⟨_, rfl⟩
      obtain ⟨Wm, hWm⟩ : ∃ Wm, Wm = wr.alloc (.cells #[.int .u32 (x % 4294967296)] 24) := ⟨_, rfl⟩
      have HBm : Hid (Below wr.heap.size wr Wm) := by show Below _ _ _; rw [hWm]; exact (Below.refl _ _).alloc (Nat.le_refl _) _
      have HO : Hid (Wm.ownsRow W.heap.size 24 1 (.slice va k vc) k (u32V (cs.take k))) := own_same HOWN.out (fun b hb => HBm.out.block b (HOWN.out.lt b hb).2)
      have t0 : ∀ i u, ([.int .u32 (x % 4294967296)] : List Value)[i]? = some u → Wm.cell? ((⟨wr.heap.size, 0, none⟩ : Addr).add i) = some u := by rw [hWm]; exact str_cell_new
      have hzm : wr.heap.size < Wm.heap.size := by rw [hWm]; simp
      have hWz : W.heap.size ≤ wr.heap.size := HBR.out.size
      have HTK : Hid (u32V (cs.take (k + 1)) = u32V (cs.take k) ++ [.int .u32 (x % 4294967296)]) := by
        have hkc : k < cs.length := by rw [HCL.out]; exact hlt
        have h1 : cs[k] = toU32 x := by rw [List.getElem?_eq_getElem hkc] at hcs; exact Option.some.inj hcs
        show _ = _
        rw [List.take_succ_eq_append_getElem hkc, h1]
        unfold u32V
        rw [List.map_append, e1]
        rfl
      have HWm : Hid (wr.alloc (.cells #[.int .u32 (x % 4294967296)] 24) = Wm) := hWm.symm
      clear hy hWm e1 hcs
      go_wp2_with (at_builtin; rw [HWm.out]; refine wpList_append_at _ rfl (.tmp 21) (.tmp 27) 23 rfl W.heap.size 24 i0 (.int .u32 0) 1 4 Tryz.underlying23 hi0 hz0 hzs hzb rfl (by decide) _ _ _ rfl HO.out ⟨wr.heap.size, 0, none⟩ 1 1 [.int .u32 (x % 4294967296)] rfl rfl (by decide) t0 ?c2 ?c3 ?c4 ?c5 ?_)
      case c2 => intro u hu; simp at hu; subst hu; rfl
      case c3 => unfold maxLen; omega
      case c4 => omega
      case c5 => omega
      intro v' W4 hown4 hg4 hwh4
      have HNX : Hid (Below W.heap.size W W4 ∧ W4.ownsRow W.heap.size 24 1 v' (k + 1) (u32V (cs.take (k + 1)))) := by
        refine ⟨(HBR.out.trans (HBm.out.mono hWz)).grown hg4 (by omega) (fun b hb => (HO.out.lt b hb).1), ?_⟩
        rw [HTK.out]
        exact hown4
      clear hown4 hg4 hwh4
      go_wp2
      go_roundw
      case rel => exact ⟨k + 1, by omega, by go_num, HNX.out.1, HNX.out.2⟩
      case measure => simp [intOf]; omega
    · have hkI : ¬ (k : Int) < (n : Int) := by omega
      obtain rfl : k = n := by omega
      have HU : Hid (U32At wr (.slice va k vc) cs) := by
        have h1 := HOWN.out
        have h2 : cs.take k = cs := List.take_of_length_le (by rw [HCL.out]; omega)
        rw [h2] at h1
        refine U32At.of_own (base := W.heap.size) ?_ HLT.out
        rw [HCL.out]
        exact h1
      clear HOWN
      go_wp2_with fail
      refine (HRAN.out wr _ HBR.out HU.out).mono ?_
      rintro e W5 ⟨rfl, hb5⟩
      have HE : Hid (Below W.heap.size W W5) := HBR.out.trans (hb5.mono HBR.out.size)
      clear hb5
      go_wp2
      go_ret
      exact ⟨rfl, HE.out⟩
end Go.Proofs.YthfacjlghcdndaaGreatDoor

namespace Go.Proofs.YthfacjlghcdndaaGreatDoor
open Go.ChangeShapes Go.WideShapes Go.RowKit Go.ChangeMaps

theorem Tryz.laidOutR : laidOutB Tryz.prog = true := by kernel_rfl
abbrev laidR : List (String × DataW Unit) := Rows.runsRow.laid
theorem err_of_laid {W : World} (h : laidMetH Tryz.prog laidR W) : ErrType W := by
  have h' : laidMet Tryz.prog [("unicode/utf8.acceptRanges", Rows.laid_unicode_utf8_acceptRanges), ("unicode/utf8.first", Rows.laid_unicode_utf8_first)] W ∧ handlesMet Tryz.prog [("errors.errorType", Rows.laid_errors_errorType)] W := h
  exact handle_of_laid ⟨⟨[], rfl, List.nodup_nil, fun _ _ h => by cases h⟩, h'.2⟩
theorem maxLen_of_shape {W : World} (h : W.ShapedOpen Tryz.prog) : MaxLenIs W :=
  cell_of_shapedOpen_int (P := Tryz.prog) (g := 1) (t := 3) (zero := #[.int .i64 0]) h (of_decide_eq_true (by kernel_rfl)) (by kernel_rfl) rfl (by kernel_rfl) (by kernel_rfl) Tryz.underlying3

theorem Tryz.cellsInt : Tryz.prog.cellsOf 3 = 1 := by kernel_rfl
theorem Tryz.bytesInt : Tryz.prog.bytesOf 3 = 8 := by kernel_rfl

set_option maxRecDepth 100000 in
theorem ints_in {H : Type} {enc : TypeId × Value → H} {W : World} {base : Nat} {v : Value} {d : DataW H} {p : List MemPlace} (hval : Value.okWide Tryz.prog W .any base 22 v) (h : DataW.Trod enc Tryz.prog W 0 (fun _ => true) true 22 v d p) :
    ∃ (xs : List Int) (ao : Option Addr) (cap : Nat), v = .slice ao xs.length cap ∧ IntsAt W.heap.size W (.slice ao xs.length cap) xs ∧ (∀ x ∈ xs, -9223372036854775808 ≤ x ∧ x ≤ 9223372036854775807) ∧ (xs.length = 0 ∨ ∃ elems spare, d = .slice elems spare ∧ elems.length = xs.length) := by
  obtain ⟨a0, len, cap, rfl⟩ := okWide_slice Tryz.underlying22 hval
  obtain ⟨fuel, hf⟩ := h
  rcases open_ints Tryz.underlying22 Tryz.underlying3 Tryz.cellsInt hf with ⟨hcs, hx⟩ | ⟨a, len', cap', zs, hcs, _, hl, hm, hz, hx, hcell, hwz⟩
  · simp [Value.cells] at hcs
    obtain ⟨rfl, rfl, rfl⟩ := hcs
    exact ⟨[], none, 0, rfl, IntsAt.nil _ _, fun x hx => (by cases hx), .inl rfl⟩
  · simp [Value.cells] at hcs
    obtain ⟨rfl, rfl, rfl⟩ := hcs
    simp only [Prod.mk.injEq] at hx
    obtain ⟨rfl, rfl⟩ := hx
    simp only [if_true] at hz
    have htl : (zs.take len).length = len := by simp; omega
    refine ⟨zs.take len, some a, cap, by rw [htl], ⟨some a, cap, rfl, by omega, by omega, fun hne => ?_⟩, fun x hx => ?_, .inr ⟨_, _, rfl, by simp [lits]⟩⟩
    · have hpos : 0 < len := by
        rcases Nat.eq_zero_or_pos len with h0 | h0
        · rw [h0] at hne; simp at hne
        · exact h0
      obtain ⟨b, off, spot⟩ := a
      have g0 := hcell 0 (by omega)
      have hspot : spot = none := by simpa [Addr.add] using World.cell?_spot g0
      subst hspot
      have hadd : ∀ i, (⟨b, off, none⟩ : Addr).add i = ⟨b, off + i, none⟩ := fun i => by unfold Addr.add; split <;> simp_all
      refine ⟨b, off, rfl, ?_, fun i hi => ?_⟩
      · have := World.block_lt_of_cell? W _ g0
        rwa [hadd] at this
      · have hi' : i < len := by omega
        have := hcell i (by omega)
        rw [hadd] at this
        rw [this]
        simp [List.getD_eq_getElem?_getD, List.getElem?_take, hi']
    · have := hwz x (List.mem_of_mem_take hx)
      simp [Lit.wf, IntKind.min, IntKind.max, IntKind.signed, IntKind.bits] at this
      omega

theorem returnsIn_shaped_sized {H : Type} {enc : TypeId × Value → H} {a : Assume} {C : Checked} {os : Os} {f : FuncId} {fn : Func} {s : ChangeSpec} {conds : List PathCond} {apart fresh handsOn again : Bool} {X : World → Array Value → Prop}
    (hX : ∀ (w w' : World) (args : Array Value), w.heap = w'.heap → X w args → X w' args)
    (own : ownKnob C.prog.godebug = none) (started : os.Started) (noInit : C.prog.inits.idxOf? f = none) (hfn : C.prog.funcs[f]? = some fn)
    (witness : ∃ (w : World) (tape : Tape) (i : Input), w.os = os ∧ (w.forCall tape i).Shaped C.prog ∧ i.vars = [] ∧ Input.okWide C.prog (w.forCall tape i) .any w.heap.size f i ∧
      ((s.pre enc C.prog fn conds apart (w.forCall tape i).memory i.args ∧ X (w.forCall tape i).memory i.args) ∧ sizedMet enc C.prog fn (OpenSpec.ofChange s) apart (w.forCall tape i).memory i.args) ∧ a.holds C.prog (lone (Frame.enter C.prog f i.args .normal) [] (w.forCall tape i)))
    (contract : ∀ (W : World) (base : Nat) (args : Array Value) (ds gs : List (DataW H)) (before : List MemPlace),
      (∀ (j : Nat) t v, fn.params[j]? = some t → args[j]? = some v → Value.okWide C.prog W .any base t v) →
      DataW.Whole enc C.prog fn.params.toList s.vars apart W args.toList ds gs before → (DataW.weightsEach C.prog (fn.params.toList ++ s.plain.varTypes C.prog) (ds ++ gs)).all (· ≤ reachBytes) = true → X W args → W.ShapedOpen C.prog →
      Calls C.prog f args W fun e W' => ∃ v, e = .returned v ∧ s.post enc C.prog fn apart fresh handsOn again W args v W') :
    ReturnsInHanded a C os f .any (fun w args => (s.pre enc C.prog fn conds apart w args ∧ X w args) ∧ sizedMet enc C.prog fn (OpenSpec.ofChange s) apart w args) (s.post enc C.prog fn apart fresh handsOn again) := by
  refine returnsInHanded_of_calls own started noInit witness ?_
  intro w tape i _ hsh _ hok hpre hholds
  obtain ⟨_, _, _, fn', hfn', _, _, _, _, hval⟩ := hok
  have e : fn' = fn := Option.some.inj (hfn'.symm.trans hfn)
  subst e
  obtain ⟨⟨⟨ds, gs, before, hw, _⟩, hx⟩, hz⟩ := hpre
  have hw' := DataW.Whole.of_heap (w' := w.forCall tape i) (by rfl) hw
  refine (contract (w.forCall tape i) w.heap.size i.args ds gs before hval hw' (hz.weights hw) (hX _ _ _ (by rfl) hx) hsh).mono fun e W' ⟨v, he, hp⟩ => ?_
  subst he
  exact ChangeSpec.post_blind hp

theorem doorWorld_met (os : Os) (args : Array Value) : laidMetH Tryz.prog laidR ((({ World.doorLaid Tryz.prog 41 os with heap := (World.doorLaid Tryz.prog 41 os).heap.modify 2 fun
      | .cells _ t frozen => .cells (Go.Pinned.utf8FirstZ.map fun (z : Nat) => Value.int .u8 (z : Int)).toArray t frozen
      | o => o } : World)).forCall (fun _ _ => 0) ⟨#[], args, []⟩).memory :=
  laidMetH_of_parts (laidMet_of_run' 8 (by kernel_rfl) (by kernel_rfl)) (by kernel_rfl)

set_option maxRecDepth 100000 in
theorem runs_lifted (os : Os) (started : os.Started) (H : Type) (enc : TypeId × Value → H) :
    ReturnsInHanded {} Tryz.checked os 3 .any (fun w args => (Rows.runsSpec.pre enc Tryz.prog Tryz.f3 [] false w args ∧ laidMetH Tryz.prog laidR w) ∧ sizedMet enc Tryz.prog Tryz.f3 (OpenSpec.ofChange Rows.runsSpec) false w args)
      (Rows.runsSpec.post enc Tryz.prog Tryz.f3 false true false false) := by
  refine returnsIn_shaped_sized (C := Tryz.checked) (X := fun w _ => laidMetH Tryz.prog laidR w) (fun _ _ _ hh h => h.of_heap hh) Tryz.own started (by kernel_rfl) Tryz.func3
    (ChangeSpec.witness_shaped (enc := enc) (C := Tryz.checked) (os := os) (X := fun w _ => laidMetH Tryz.prog laidR w) false ({ World.doorLaid Tryz.prog 41 os with heap := (World.doorLaid Tryz.prog 41 os).heap.modify 2 fun
      | .cells _ t frozen => .cells (Go.Pinned.utf8FirstZ.map fun (z : Nat) => Value.int .u8 (z : Int)).toArray t frozen
      | o => o } : World) #[.string ⟨#[]⟩, .slice none 0 0, .int .i64 0] 8 rfl (World.shaped_of_RefB (by kernel_rfl) (by kernel_rfl)) (by kernel_rfl) (by kernel_rfl) (by kernel_rfl) (doorWorld_met os _)) ?_
  intro W base args ds gs before hval0 hW hwt hL hsh
  have hval : ∀ (j : Nat) t v, Tryz.f3.params[j]? = some t → args[j]? = some v → Value.okWide Tryz.prog W .any base t v := hval0
  have hW' := hW
  obtain ⟨p, q, hA0, hV0, rfl, hfz, hnd⟩ := hW
  have hA : DataW.TrodAll enc Tryz.prog W 0 (fun _ => true) true Tryz.f3.params.toList args.toList ds p := hA0
  have hV : DataW.TrodVars enc Tryz.prog W (fun _ => true) [] gs q := hV0
  have hwt' : (DataW.weightsEach Tryz.prog (Tryz.f3.params.toList ++ Rows.runsSpec.plain.varTypes Tryz.prog) (ds ++ gs)).all (· ≤ reachBytes) = true := hwt
  rw [Tryz.params3] at hA hval hwt'
  obtain ⟨v0, v1, v2, d0, d1, d2, p0, p1, p2, rfl, rfl, rfl, t0, t1, t2⟩ := trodAll_three hA
  obtain ⟨rfl, rfl⟩ := trodVars_none hV
  obtain ⟨s, rfl, rfl, rfl, hsz⟩ := open_string Tryz.underlying9 (hval 0 9 v0 rfl rfl) t0
  obtain ⟨xs, la, lc, rfl, hl, hlr, hld⟩ := ints_in (hval 1 22 v1 rfl rfl) t1
  obtain ⟨fuel, rfl, rfl, rfl, hfw⟩ := open_int Tryz.underlying3 (hval 2 3 v2 rfl rfl) t2
  have hg := err_of_laid hL
  have hrb := reachBytes_lt
  have hs1 : s.data.toList.length ≤ 1000000000000000000 := by
    have := sized_string hwt' (j := 0) (t := 9) (bytes := s.data.toList) rfl rfl
    omega
  have hx1 : xs.length ≤ 1000000000000000000 := by
    rcases hld with h0 | ⟨elems, spare, rfl, hlen⟩
    · omega
    · have := sized_slice hwt' (j := 1) (t := 22) (e := 3) (elems := elems) (spare := spare) rfl rfl Tryz.underlying22
      rw [Tryz.bytesInt] at this
      omega
  have hgm : 1 < W.heap.size := by
    obtain ⟨x, hx⟩ := maxLen_of_shape hsh
    exact World.block_lt_of_cell? W _ hx
  have hs2 : (⟨s.data.toList.toArray⟩ : ByteArray) = s := by simp
  have hwalk := runs_any s.data.toList xs la lc fuel W hg hgm (maxLen_of_shape hsh) hl hs1 hx1
  rw [hs2] at hwalk
  have hlt : ∀ x ∈ [] ++ p1 ++ [] ++ [], x.block < W.heap.size := fun x hx => hW'.lt x hx
  have e1 : Rows.runsSpec.fn H ([.lit (.string s.data.toList), d1, .lit (.int .i64 fuel)] ++ []) = { results := [.lit (.bool true)], args := [.lit (.string s.data.toList), d1, .lit (.int .i64 fuel)] } := by simp [Rows.runsSpec]
  refine hwalk.mono fun e W' ⟨he, hw⟩ => ?_
  subst he
  refine ⟨_, rfl, _, _, _, [], [] ++ (p1 ++ []), [], hW', ?_, ?_, ?_, hw.frame _, fun h => by cases h⟩
  · rw [e1]; exact trodAll_mk1 (shut_bool Tryz.underlying4 true)
  · rw [e1]
    exact trodAll_mk3 (shut_string Tryz.underlying9 hsz) (Below.trod Tryz.laidOutR (by kernel_rfl) (of_decide_eq_true (by kernel_rfl)) t1 hw (fun x hx => hlt x (by simp [hx]))) (shut_int Tryz.underlying3 hfw)
  · rw [e1]; rfl

theorem runs_said : Rows.RunsSaid :=
  OpenClaim.holds_of_wide 3 Tryz.f3 rfl rfl rfl rfl rfl rfl rfl ⟨rfl, rfl, rfl, rfl, rfl⟩ rfl rfl rfl rfl rfl (by kernel_rfl) Tryz.func3 (by kernel_rfl)
    (of_decide_eq_true (by kernel_rfl)) (by unfold Func.isWrapper; rw [if_neg (of_decide_eq_false (by kernel_rfl))]; exact ⟨rfl, rfl⟩)
    (fun os started H enc _ => runs_lifted os started H enc)

theorem runs_card : Rows.RunsCardSaid :=
  Claim7.holds_tied_plain_at .later [] [.data, .handle, .pinned] true Rows.runsCard.stood.harness true
    runs_said (fun _ h => by cases h) (by kernel_rfl) (fun _ h => by cases h) runs_row_tie rfl ⟨rfl, rfl⟩ (by kernel_rfl) rfl
    (fun f fn hf hfn => by
      obtain rfl : f = 3 := Option.some.inj ((show Tryz.prog.funcNamed Rows.runsRow.func = some 3 by kernel_rfl).symm.trans hf) |>.symm
      obtain rfl : fn = Tryz.f3 := (Option.some.inj (Tryz.func3.symm.trans hfn)).symm
      exact ⟨by kernel_rfl, fun j t ht => by
        rw [Tryz.params3] at ht
        rcases j with _ | _ | _ | j
        · have h3 : t = 9 := by simpa using ht.symm
          subst h3
          exact (show Tryz.prog.wantsStandIn 9 = false by kernel_rfl)
        · have h3 : t = 22 := by simpa using ht.symm
          subst h3
          exact (show Tryz.prog.wantsStandIn 22 = false by kernel_rfl)
        · have h3 : t = 3 := by simpa using ht.symm
          subst h3
          exact (show Tryz.prog.wantsStandIn 3 = false by kernel_rfl)
        · simp at ht⟩)
    (by kernel_rfl)
end Go.Proofs.YthfacjlghcdndaaGreatDoor
