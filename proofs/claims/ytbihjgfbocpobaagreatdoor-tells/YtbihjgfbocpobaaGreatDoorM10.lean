/- Texts AppR RefH RefX Lwa. -/
import Derived.Test.YtbihjgfbocpobaaGreatDoorM09
/- append(row, list...): the row the call's own, the list anybody's. -/
set_option linter.unusedSimpArgs false
set_option linter.unusedVariables false
namespace Go.Proofs.YtbihjgfbocpobaaGreatDoor
open Go.RowKit

theorem run_append_own_empty (w : World) (base : Nat) (v : Value) (n : Nat) (xs : List Value) (hown : w.ownsRow base 3 1 v n xs) (c : Nat) (ty : TypeId) {i : TypeInfo} (hi : Tryz.prog.info? 3 = some i) : (Builtin.append_ #[29, 29] ty #[v, .slice none 0 c]).run Tryz.prog w = .ok v w := by
  rcases hown.2 with ⟨rfl, h0⟩ | ⟨g, cap, cur, rfl, hb, hg, hnc, hcm, hcs, ht⟩
  · simp [Builtin.append_, run_underlying Tryz.underlying29, sizeOf, typeInfo, hi, Builtin.lenOf, Builtin.firstCells]
  · simp [Builtin.append_, run_underlying Tryz.underlying29, sizeOf, typeInfo, hi, Builtin.lenOf, Builtin.firstCells, hnc, storeCells]

/-- append(row, xs...). -/
theorem wpList_append_rest {w : World} {ops : Array Oper} {rest : List Oper} {o : Oper} {a : Act} {Q : Exit → Act → World → Prop} (hgd : o.guard = none) (s x : Operand)
    (ho : o.op = .call { callee := .builtin .append, args := #[s, x], argTypes := #[29, 29] }) (base : Nat) (v : Value) (ys : List Int) (hs : a.eval s = v) (hown : w.ownsRow base 3 1 v ys.length (ys.map (Value.int .i64))) (xv : Value) (hx : a.eval x = xv) (B : Nat) (xs : List Int) (hin : IntsAt B w xv xs) (hyl : ys.length ≤ 1000000) (hlen : xs.length ≤ 1000000) (hbase : base ≤ w.heap.size)
    (h : ∀ v' w', w'.ownsRow base 3 1 v' (ys ++ xs).length ((ys ++ xs).map (Value.int .i64)) → w.grownBy w' v.ownBlock → wpList Tryz.prog ops Q rest (a.put o.dst v') w') : wpList Tryz.prog ops Q (o :: rest) a w := by
  obtain ⟨i0, hi, hz0, hz1, hz2⟩ := info_parts Tryz.infoInt
  obtain ⟨ao, cap, rfl, hc, hm, hcell⟩ := hin
  have hgo : ∀ ad, ao = some ad → (∀ j u, (xs.map (Value.int .i64))[j]? = some u → w.cell? (ad.add j) = some u) → wpList Tryz.prog ops Q (o :: rest) a w := by
    rintro ad rfl hcs
    refine wpList_append_own _ hgd s x 29 ho base 3 i0 (.int .i64 0) 1 8 Tryz.underlying29 hi hz0 hz1 hz2 rfl (by decide) _ _ _ hs hown ad xs.length cap (xs.map (Value.int .i64)) hx (by simp) hcs ?_ (by unfold maxLen; omega) (by omega) hbase ?_
    · intro u hu; simp only [List.mem_map] at hu; obtain ⟨y, _, rfl⟩ := hu; rfl
    · intro v' w' hown' hg _
      exact h v' w' (by rw [List.length_append, List.map_append]; exact hown') hg
  by_cases hne : xs = []
  · subst hne
    cases ao with
    | some ad => exact hgo ad rfl (by simp)
    | none =>
      have hrun := run_append_own_empty w base v ys.length _ hown cap o.type hi
      refine wpList_plain hgd fun K hK => ?_
      unfold Oper.wp
      simp only [List.length_nil] at hx
      simp [execOp, ho, resolve, invoke, builtin, hs, hx, hrun, Result.andThen]
      exact hK _ _ (h _ _ (by simpa using hown) ⟨rfl, rfl, rfl, Nat.le_refl _, fun _ _ _ => rfl⟩)
  · obtain ⟨b, off, rfl, hbB, hcells⟩ := hcell hne
    refine hgo _ rfl ?_
    intro j u hj
    rw [List.getElem?_map] at hj
    obtain ⟨y, hy, rfl⟩ := Option.map_eq_some_iff.1 hj
    have hjl : j < xs.length := (List.getElem?_eq_some_iff.1 hy).1
    have := hcells j hjl
    rw [List.getD_eq_getElem?_getD, hy] at this
    have h2 : (⟨b, off, none⟩ : Addr).add j = ⟨b, off + j, none⟩ := by unfold Addr.add; split <;> simp_all
    rw [h2]; simpa using this
end Go.Proofs.YtbihjgfbocpobaaGreatDoor

/- The reference's premises. -/
set_option linter.unusedSimpArgs false
set_option linter.unusedVariables false
namespace Go.Proofs.YtbihjgfbocpobaaGreatDoor
open Go.RowKit

set_option maxRecDepth 100000 in
set_option maxHeartbeats 2000000 in
theorem premises_any (n : Fl.Node) (lv : Value) (B : Nat) (w : World) (hB : B ≤ w.heap.size) (hl : IntsAt B w lv n.list) :
    Calls Tryz.prog 32 #[nodeV n lv] w fun e w' => ∃ v, e = .returned v ∧ IntsAt w'.heap.size w' v (prem n) ∧ Below w.heap.size w w' := by
  unfold nodeV
  obtain ⟨ao, cap, rfl, hc, hm, hx⟩ := hl
  have HL : Hid (IntsAt B w (.slice ao n.list.length cap) n.list) := ⟨ao, cap, rfl, hc, hm, hx⟩
  clear hx
  obtain ⟨k, l, a, b, c, ls⟩ := n
  simp only at HL ⊢
  by_cases k2 : k = 2
  · subst k2
    go_enter Tryz.func32, Tryz.ntmps32
    go_wp2
    go_ret
    exact ⟨_, rfl, IntsAt.fresh2 _ _ (prem ⟨2, l, a, b, c, ls⟩) _ _ _ rfl rfl (by simp [prem, maxLen]), ((Below.refl _ _).alloc (Nat.le_refl _) _).alloc (by simp) _⟩
  by_cases k3 : k = 3
  · subst k3
    go_enter Tryz.func32, Tryz.ntmps32
    go_wp2
    go_ret
    exact ⟨_, rfl, IntsAt.fresh2 _ _ (prem ⟨3, l, a, b, c, ls⟩) _ _ _ rfl rfl (by simp [prem, maxLen]), ((Below.refl _ _).alloc (Nat.le_refl _) _).alloc (by simp) _⟩
  by_cases k4 : k = 4
  · subst k4
    go_enter Tryz.func32, Tryz.ntmps32
    go_wp2
    go_ret
    exact ⟨_, rfl, IntsAt.fresh2 _ _ (prem ⟨4, l, a, b, c, ls⟩) _ _ _ rfl rfl (by simp [prem, maxLen]), ((Below.refl _ _).alloc (Nat.le_refl _) _).alloc (by simp) _⟩
  by_cases k5 : k = 5
  · subst k5
    go_enter Tryz.func32, Tryz.ntmps32
    go_wp2
    go_ret
    exact ⟨_, rfl, IntsAt.fresh2 _ _ (prem ⟨5, l, a, b, c, ls⟩) _ _ _ rfl rfl (by simp [prem, maxLen]), ((Below.refl _ _).alloc (Nat.le_refl _) _).alloc (by simp) _⟩
  by_cases k6 : k = 6
  · subst k6
    go_enter Tryz.func32, Tryz.ntmps32
    go_wp2
    go_ret
    exact ⟨_, rfl, IntsAt.fresh2 _ _ (prem ⟨6, l, a, b, c, ls⟩) _ _ _ rfl rfl (by simp [prem, maxLen]), ((Below.refl _ _).alloc (Nat.le_refl _) _).alloc (by simp) _⟩
  by_cases k7 : k = 7
  · subst k7
    go_enter Tryz.func32, Tryz.ntmps32
    go_wp2
    go_ret
    exact ⟨_, rfl, (HL.out.mono hB).below ((Below.refl _ _).alloc (Nat.le_refl _) _) |>.mono (by simp), (Below.refl _ _).alloc (Nat.le_refl _) _⟩
  have b2 : (k == 2) = false := beq_eq_false_iff_ne.2 k2
  have b3 : (k == 3) = false := beq_eq_false_iff_ne.2 k3
  have b4 : (k == 4) = false := beq_eq_false_iff_ne.2 k4
  have b5 : (k == 5) = false := beq_eq_false_iff_ne.2 k5
  have b6 : (k == 6) = false := beq_eq_false_iff_ne.2 k6
  have b7 : (k == 7) = false := beq_eq_false_iff_ne.2 k7
  have hp : prem ⟨k, l, a, b, c, ls⟩ = [] := by simp [prem, k2, k3, k4, k5, k6, k7]
  have HP : Hid (prem ⟨k, l, a, b, c, ls⟩ = []) := hp
  clear hp k2 k3 k4 k5 k6 k7
  go_enter Tryz.func32, Tryz.ntmps32
  go_wp2
  go_ret
  exact ⟨_, rfl, by rw [HP.out]; exact IntsAt.nil _ _, (Below.refl _ _).alloc (Nat.le_refl _) _⟩
end Go.Proofs.YtbihjgfbocpobaaGreatDoor

/- The reference's Text. -/
set_option linter.unusedSimpArgs false
set_option linter.unusedVariables false
namespace Go.Proofs.YtbihjgfbocpobaaGreatDoor
open Go.RowKit
namespace Fl
/-- The numbers of a node's line. -/
def lineNums (n : Node) : List Int := if 0 < fields n.kind then [n.level, n.a, n.b, n.c].take (1 + (fields n.kind).toNat) else n.level :: n.list
def nodeLine (k : Nat) (n : Node) : List UInt8 := Lib.decDigits k ++ (32 :: (kindWords.getD n.kind.toNat [] ++ spaced (lineNums n)))
/-- The first k nodes' lines, behind the levels'. -/
def textTo (ls : List Int) (ns : List Node) (k : Nat) : List UInt8 := wLocals ++ spaced ls ++ (List.range k).flatMap (fun i => nodeLine i (nth ns i))
def text (ls : List Int) (ns : List Node) : List UInt8 := textTo ls ns ns.length
theorem textTo_succ (ls : List Int) (ns : List Node) (k : Nat) : textTo ls ns (k + 1) = textTo ls ns k ++ nodeLine k (nth ns k) := by
  unfold textTo; rw [List.range_succ]; simp
/-- A node that can be told: its kind, its numbers, few of them. -/
def Tellable (n : Node) : Prop := 0 ≤ n.kind ∧ n.kind < 8 ∧ (0 ≤ n.level ∧ n.level < 2147483648) ∧ (0 ≤ n.a ∧ n.a < 2147483648) ∧ (0 ≤ n.b ∧ n.b < 2147483648) ∧ (0 ≤ n.c ∧ n.c < 2147483648) ∧ n.list.length ≤ 16 ∧ ∀ x ∈ n.list, 0 ≤ x ∧ x < 2147483648
end Fl

theorem ints_take4 (w : World) (p q r s : Int) (m : Nat) (hm : m ≤ 3) : IntsAt (w.alloc (.cells #[.int .i64 p, .int .i64 q, .int .i64 r, .int .i64 s] 3)).heap.size (w.alloc (.cells #[.int .i64 p, .int .i64 q, .int .i64 r, .int .i64 s] 3)) (.slice (some ⟨w.heap.size, 0, none⟩) (m + 1) 4) ([p, q, r, s].take (1 + m)) := by
  have hl : ([p, q, r, s].take (1 + m)).length = m + 1 := by simp; omega
  refine ⟨some ⟨w.heap.size, 0, none⟩, 4, by rw [hl], by rw [hl]; omega, by rw [hl]; unfold maxLen; omega, fun _ => ⟨w.heap.size, 0, rfl, by simp, fun i hi => ?_⟩⟩
  rw [World.cell?_alloc_new]
  rw [hl] at hi
  rcases (show m = 0 ∨ m = 1 ∨ m = 2 ∨ m = 3 by omega) with rfl | rfl | rfl | rfl <;> rcases (show i = 0 ∨ i = 1 ∨ i = 2 ∨ i = 3 by omega) with rfl | rfl | rfl | rfl <;> first | rfl | omega

set_option maxRecDepth 100000 in
set_option maxHeartbeats 4000000 in
theorem text_any (ls : List Int) (ns : List Fl.Node) (lv nv : Value) (B : Nat) (w : World) (hB : B ≤ w.heap.size) (hl : IntsAt B w lv ls) (hn : NodesAt B w nv ns) (hll : ls.length ≤ 4) (hlr : ∀ x ∈ ls, 0 ≤ x ∧ x < 2147483648) (hnl : ns.length ≤ 200) (hT : ∀ i, i < ns.length → Fl.Tellable (Fl.nth ns i)) :
    Calls Tryz.prog 9 #[.agg #[lv, nv]] w fun e w' => e = .returned (strV (Fl.text ls ns)) ∧ Below w.heap.size w w' := by
  obtain ⟨la, lcap, rfl, _, _, _⟩ := id hl
  obtain ⟨na, ncap, rfl, _, _, _⟩ := id hn
  obtain ⟨i0, hi, hz0, hz1, hz2⟩ := info_parts Tryz.infoInt
  have HL : Hid (IntsAt B w (Value.slice la ls.length lcap) ls) := hl
  have HN : Hid (NodesAt B w (Value.slice na ns.length ncap) ns) := hn
  have HT : Hid (∀ i, i < ns.length → Fl.Tellable (Fl.nth ns i)) := hT
  have HLR : Hid (∀ x ∈ ls, 0 ≤ x ∧ x < 2147483648) := hlr
  have hsl : (Fl.spaced ls).length ≤ 100 := by
    have := blanks_len ls (fun x hx => by have := hlr x hx; omega)
    simp [Fl.spaced]; omega
  obtain ⟨sp, hsp⟩ : ∃ sp, sp = Fl.spaced ls := ⟨_, rfl⟩
  have HSP : Hid (Calls Tryz.prog 19 #[Value.slice la ls.length lcap] (w.alloc (.cells #[Value.slice la ls.length lcap, Value.slice na ns.length ncap] 32)) fun e w' => e = .returned (.string ⟨sp.toArray⟩) ∧ w' = (w.alloc (.cells #[Value.slice la ls.length lcap, Value.slice na ns.length ncap] 32))) := by
    have := spaced_any B _ ls _ (hl.below ((Below.refl _ _).alloc hB (.cells #[Value.slice la ls.length lcap, Value.slice na ns.length ncap] 32))) (by omega) hlr
    rw [← hsp] at this; exact this
  rw [← hsp] at hsl
  have hss : ((⟨sp.toArray⟩ : ByteArray).size : Int) ≤ 100 := by show ((sp.toArray.size : Nat) : Int) ≤ 100; simp; omega
  have hs6 : ((⟨#[108, 111, 99, 97, 108, 115]⟩ : ByteArray).size : Int) = 6 := rfl
  have HSE : Hid (sp = Fl.spaced ls) := hsp
  clear hl hn hT hlr hsp
  go_enter Tryz.func9, Tryz.ntmps9
  go_wp2_with (first | (go_at_call 19; refine (HSP.out).mono ?_; rintro e w' ⟨rfl, rfl⟩) | (go_at_call 20; refine (words_any _).mono ?_; rintro e w' ⟨rfl, rfl⟩))
  go_loopw [3, 4, 6] (fun l t i wr => ∃ (k : Nat) (s : List UInt8) (l0 : ByteArray), k ≤ ns.length ∧ i = .int .i64 k ∧ l = .string l0 ∧ t = .string ⟨s.toArray⟩ ∧ s = Fl.textTo ls ns k ∧ s.length ≤ 200 + 400 * k ∧ Below (w.heap.size + 2) ((w.alloc (Obj.cells #[Value.slice la ls.length lcap, Value.slice na ns.length ncap] 32)).alloc (Obj.cells kindStrs 9)) wr) (fun _ _ i _ => ns.length - (intOf i).toNat)
  case atStart =>
    refine ⟨0, Fl.wLocals ++ sp, _, by omega, rfl, rfl, ?_, ?_, ?_, Below.refl _ _⟩
    · exact congrArg Value.string (ByteArray.mk_append_mk Fl.wLocals sp)
    · unfold Fl.textTo; rw [← HSE.out]; simp
    · simp [Fl.wLocals]; omega
  case round =>
    obtain ⟨k, s, l0, hk, rfl, rfl, rfl, hs, hsl', hbel⟩ := hrel
    have HS : Hid (s = Fl.textTo ls ns k) := hs
    have hb2 : Below (w.heap.size + 2) ((w.alloc (Obj.cells #[Value.slice la ls.length lcap, Value.slice na ns.length ncap] 32)).alloc (Obj.cells kindStrs 9)) wr := hbel
    have hbs : w.heap.size + 2 ≤ wr.heap.size := by have := hb2.size; simp only [World.size_alloc] at this; omega
    have p1 : wr.cell? ⟨w.heap.size, 1, none⟩ = some (.slice na ns.length ncap) := (hb2.cell (p := ⟨w.heap.size, 1, none⟩) (by show w.heap.size < _; omega)).trans ((World.cell?_alloc_lt _ _ _ (by simp)).trans (by simp))
    have HKW : Hid (∀ j, j < 8 → wr.cell? ⟨w.heap.size + 1, j, none⟩ = some (strV (Fl.kindWords.getD j []))) := by
      intro j hj
      refine (hb2.cell (p := ⟨w.heap.size + 1, j, none⟩) (by show w.heap.size + 1 < _; omega)).trans ?_
      have := World.cell?_alloc_new (w.alloc (Obj.cells #[Value.slice la ls.length lcap, Value.slice na ns.length ncap] 32)) kindStrs 9 j
      simp only [World.size_alloc] at this
      rw [this]
      rcases (show j = 0 ∨ j = 1 ∨ j = 2 ∨ j = 3 ∨ j = 4 ∨ j = 5 ∨ j = 6 ∨ j = 7 by omega) with rfl | rfl | rfl | rfl | rfl | rfl | rfl | rfl <;> rfl
    have HBW : Hid (Below (w.heap.size + 2) ((w.alloc (Obj.cells #[Value.slice la ls.length lcap, Value.slice na ns.length ncap] 32)).alloc (Obj.cells kindStrs 9)) wr) := hbel
    have HB1 : Hid (Below w.heap.size w wr) := Below.trans (Below.alloc (Below.alloc (Below.refl _ _) (Nat.le_refl _) _) (by simp) _) (hb2.mono (by omega))
    have hss' : ((⟨s.toArray⟩ : ByteArray).size : Int) ≤ 80200 := by show ((s.toArray.size : Nat) : Int) ≤ 80200; simp; omega
    clear hs hbel hb2
    by_cases hlt : k < ns.length
    · obtain ⟨nd, hnd⟩ : ∃ nd, nd = Fl.nth ns k := ⟨_, rfl⟩
      obtain ⟨b, off, rfl⟩ : ∃ b off, na = some ⟨b, off, none⟩ := by
        obtain ⟨ao', cap', hv', _, _, hx'⟩ := HN.out
        obtain ⟨b, off, ha, _⟩ := hx' (by intro h; rw [h] at hlt; simp at hlt)
        simp only [Value.slice.injEq] at hv'
        exact ⟨b, off, hv'.1.trans ha⟩
      obtain ⟨hbB, xv, hxi, c0, c1, c2, c3, c4, c5⟩ := (HN.out.below (HB1.out.mono hB)).at hlt
      obtain ⟨xao, xcap, rfl, _⟩ := id hxi
      rw [← hnd] at hxi c0 c1 c2 c3 c4 c5
      have HND : Hid (nd = Fl.nth ns k) := hnd
      have HXI : Hid (IntsAt B wr (.slice xao nd.list.length xcap) nd.list) := hxi
      obtain ⟨k1, k2, k3, k4, k5, k6, k7, k8⟩ : Fl.Tellable nd := by rw [hnd]; exact HT.out k hlt
      have HK8 : Hid (∀ x ∈ nd.list, 0 ≤ x ∧ x < 2147483648) := k8
      have HR : Hid ((0 ≤ nd.level ∧ nd.level < 2147483648) ∧ (0 ≤ nd.a ∧ nd.a < 2147483648) ∧ (0 ≤ nd.b ∧ nd.b < 2147483648) ∧ (0 ≤ nd.c ∧ nd.c < 2147483648)) := ⟨k3, k4, k5, k6⟩
      have hkw := HKW.out nd.kind.toNat (by omega)
      have hki : ((nd.kind.toNat : Nat) : Int) = nd.kind := by omega
      obtain ⟨kn, hkn⟩ : ∃ kn : Nat, nd.kind = (kn : Int) := ⟨nd.kind.toNat, by omega⟩
      have hkt : nd.kind.toNat = kn := by omega
      rw [hkt] at hkw
      obtain ⟨kw, hkw'⟩ : ∃ kw, kw = Fl.kindWords.getD kn [] := ⟨_, rfl⟩
      rw [← hkw'] at hkw
      have hkwl : kw.length ≤ 5 := by
        rw [hkw']
        rcases (show kn = 0 ∨ kn = 1 ∨ kn = 2 ∨ kn = 3 ∨ kn = 4 ∨ kn = 5 ∨ kn = 6 ∨ kn = 7 by omega) with rfl | rfl | rfl | rfl | rfl | rfl | rfl | rfl <;> decide
      have hkws : ((⟨kw.toArray⟩ : ByteArray).size : Int) ≤ 5 := by show ((kw.toArray.size : Nat) : Int) ≤ 5; simp; omega
      have HKN : Hid (nd.kind = (kn : Int) ∧ kw = Fl.kindWords.getD kn []) := ⟨hkn, hkw'⟩
      have hknl : kn < 8 := by omega
      have HF := fields_any (kn : Int) (wr.alloc (.cells #[.int .i64 kn, .int .i64 nd.level, .int .i64 nd.a, .int .i64 nd.b, .int .i64 nd.c, .slice xao nd.list.length xcap] 53))
      rw [hkn] at c0
      have hfc : Fl.fields (kn : Int) = -1 ∨ Fl.fields (kn : Int) = 1 ∨ Fl.fields (kn : Int) = 2 ∨ Fl.fields (kn : Int) = 3 := by
        rcases (show kn = 0 ∨ kn = 1 ∨ kn = 2 ∨ kn = 3 ∨ kn = 4 ∨ kn = 5 ∨ kn = 6 ∨ kn = 7 by omega) with rfl | rfl | rfl | rfl | rfl | rfl | rfl | rfl <;> decide
      have HFE : Hid (∀ f, Fl.fields (kn : Int) = f → Fl.fields nd.kind = f) := fun f h => by rw [hkn]; exact h
      unfold strV at hkw
      clear hnd hxi k8 k3 k4 k5 k6 hki hkt hkw' hkn k1 k2 HKW
      obtain ⟨f, hf⟩ : ∃ f, Fl.fields (kn : Int) = f := ⟨_, rfl⟩
      rw [hf] at HF hfc
      have HFF : Hid (Fl.fields nd.kind = f) := HFE.out f hf
      have HFH : Hid (Calls Tryz.prog 21 #[.int .i64 kn] (wr.alloc (.cells #[.int .i64 kn, .int .i64 nd.level, .int .i64 nd.a, .int .i64 nd.b, .int .i64 nd.c, .slice xao nd.list.length xcap] 53)) fun e w' => e = .returned (.int .i64 f) ∧ w' = (wr.alloc (.cells #[.int .i64 kn, .int .i64 nd.level, .int .i64 nd.a, .int .i64 nd.b, .int .i64 nd.c, .slice xao nd.list.length xcap] 53))) := HF
      have hkI : (k : Int) < (ns.length : Int) := by omega
      have hdl := decDigits_len k (by omega)
      obtain ⟨dk, hdk⟩ : ∃ dk, dk = Lib.decDigits k := ⟨_, rfl⟩
      rw [← hdk] at hdl
      have HDK : Hid (dk = Lib.decDigits k) := hdk
      have HDC : Hid (∀ W : World, Calls Tryz.prog 22 #[.int .i64 k] W fun e w' => e = .returned (.string ⟨dk.toArray⟩) ∧ w' = W) := fun W => by
        have := decimal_any k W (by omega); rw [← hdk] at this; exact this
      have hds : ((⟨dk.toArray⟩ : ByteArray).size : Int) ≤ 18 := by show ((dk.toArray.size : Nat) : Int) ≤ 18; simp; omega
      clear hf HF HFE hdk
      go_wp2_with (first | (go_at_call 21; refine (HFH.out).mono ?_; rintro e w' ⟨rfl, rfl⟩) | (at_builtin; refine wpList_append_rest rfl _ _ rfl (wr.heap.size + 1) _ [nd.level] (by exact rfl) ?a0 _ (by exact rfl) B nd.list ?a1 (by simp) (by omega) ?a2 ?_))
      case a0 => exact ⟨rfl, .inr ⟨wr.heap.size + 1, 1, #[.int .i64 nd.level], rfl, Nat.le_refl _, by simpa using heap_alloc_new (wr.alloc _) _, by simp, by simp [maxLen], rfl, rfl⟩⟩
      case a1 => exact HXI.out.below (((Below.refl _ _).alloc (by omega) _).alloc (by simp; omega) _)
      case a2 => simp
      intro v1 w1 ho1 hg1
      have ho1' : w1.ownsRow (wr.heap.size + 1) 3 1 v1 (nd.level :: nd.list).length ((nd.level :: nd.list).map (Value.int .i64)) := by simpa using ho1
      obtain ⟨vao, vcap, rfl⟩ := own_shape6 ho1'
      have hb1 : Below (wr.heap.size + 1) (wr.alloc (.cells #[.int .i64 kn, .int .i64 nd.level, .int .i64 nd.a, .int .i64 nd.b, .int .i64 nd.c, .slice xao nd.list.length xcap] 53)) w1 :=
        Below.grown ((Below.refl _ _).alloc (by simp) _) hg1 (by simp) (fun g hg => by simp [Value.ownBlock] at hg; omega)
      have xx : ∀ i, w1.cell? ⟨wr.heap.size, i, none⟩ = #[Value.int IntKind.i64 kn, Value.int IntKind.i64 nd.level, Value.int IntKind.i64 nd.a, Value.int IntKind.i64 nd.b, Value.int IntKind.i64 nd.c, Value.slice xao nd.list.length xcap][i]? := fun i => (hb1.cell (p := ⟨wr.heap.size, i, none⟩) (by simp)).trans (World.cell?_alloc_new _ _ _ _)
      have x0 := xx 0
      have x1 := xx 1
      have x2 := xx 2
      have x3 := xx 3
      have x4 := xx 4
      simp at x0 x1 x2 x3 x4
      have hbw : Below wr.heap.size wr w1 := Below.trans ((Below.refl _ _).alloc (Nat.le_refl _) _) (hb1.mono (by omega))
      have y1 : w1.cell? ⟨w.heap.size + 1, kn, none⟩ = some (.string ⟨kw.toArray⟩) := (hbw.cell (p := ⟨w.heap.size + 1, kn, none⟩) (by show w.heap.size + 1 < _; omega)).trans hkw
      have HI1 : Hid (IntsAt w1.heap.size w1 (.slice vao (nd.level :: nd.list).length vcap) (nd.level :: nd.list)) := IntsAt.of_own ho1'
      have HBV : Hid (Below (w.heap.size + 2) ((w.alloc (Obj.cells #[Value.slice la ls.length lcap, Value.slice (some ⟨b, off, none⟩) ns.length ncap] 32)).alloc (Obj.cells kindStrs 9)) w1) := HBW.out.trans (hbw.mono hbs)
      have hz1 : w.heap.size + 1 < w1.heap.size := by have := hbw.size; omega
      have hz2 : wr.heap.size < w1.heap.size := by have := hb1.size; simp only [World.size_alloc] at this; omega
      clear ho1 ho1' hg1 hb1 xx hbw c0 c1 c2 c3 c4 c5 p1 hkw HFH
      have HLN : Hid ((Fl.lineNums nd).length ≤ 17 ∧ ∀ x ∈ Fl.lineNums nd, 0 ≤ x ∧ x < 2147483648) := by
        have h9 := HR.out
        have h8 := HK8.out
        refine ⟨?_, fun x hx => ?_⟩
        · unfold Fl.lineNums; split
          · simp; omega
          · simp; omega
        · unfold Fl.lineNums at hx; split at hx
          · have := List.mem_of_mem_take hx
            simp only [List.mem_cons, List.not_mem_nil, or_false] at this
            rcases this with rfl | rfl | rfl | rfl
            · exact h9.1
            · exact h9.2.1
            · exact h9.2.2.1
            · exact h9.2.2.2
          · rcases List.mem_cons.1 hx with rfl | hx
            · exact h9.1
            · exact h8 x hx
      obtain ⟨sl, hsl⟩ : ∃ sl, sl = Fl.spaced (Fl.lineNums nd) := ⟨_, rfl⟩
      have hsll : sl.length ≤ 350 := by
        have h1 := blanks_len (Fl.lineNums nd) (fun x hx => by have := HLN.out.2 x hx; omega)
        have h2 := HLN.out.1
        rw [hsl]; simp [Fl.spaced]; omega
      have HSC : Hid (∀ (W : World) xv, IntsAt W.heap.size W xv (Fl.lineNums nd) → Calls Tryz.prog 19 #[xv] W fun e w' => e = .returned (.string ⟨sl.toArray⟩) ∧ w' = W) := by
        intro W xv hx
        have := spaced_any W.heap.size xv (Fl.lineNums nd) W hx (by have := HLN.out.1; omega) HLN.out.2
        rw [← hsl] at this; exact this
      have hsls : ((⟨sl.toArray⟩ : ByteArray).size : Int) ≤ 350 := by show ((sl.toArray.size : Nat) : Int) ≤ 350; simp; omega
      have HSL : Hid (sl = Fl.spaced (Fl.lineNums nd)) := hsl
      have HCAT : Hid (Value.string ((((⟨s.toArray⟩ : ByteArray) ++ ⟨dk.toArray⟩) ++ ⟨#[32]⟩) ++ ⟨kw.toArray⟩ ++ ⟨sl.toArray⟩) = .string ⟨(s ++ (dk ++ (32 :: (kw ++ sl)))).toArray⟩) := by
        show _ = _
        rw [ByteArray.mk_append_mk, show (⟨#[32]⟩ : ByteArray) = ⟨[32].toArray⟩ from rfl, ByteArray.mk_append_mk, ByteArray.mk_append_mk, ByteArray.mk_append_mk]; simp
      have HTN : Hid (s ++ (dk ++ (32 :: (kw ++ sl))) = Fl.textTo ls ns (k + 1) ∧ (s ++ (dk ++ (32 :: (kw ++ sl)))).length ≤ 200 + 400 * (k + 1)) := by
        refine ⟨?_, by simp; omega⟩
        rw [Fl.textTo_succ, ← HND.out, ← HS.out]; unfold Fl.nodeLine; rw [← HDK.out, ← HSL.out, HKN.out.1, HKN.out.2]; rfl
      have h32 : ((⟨#[32]⟩ : ByteArray).size : Int) = 1 := rfl
      clear hsl
      rcases hfc with rfl | rfl | rfl | rfl
      · have HI2 : Hid (IntsAt w1.heap.size w1 (.slice vao (nd.level :: nd.list).length vcap) (Fl.lineNums nd)) := by
          show IntsAt _ _ _ _
          unfold Fl.lineNums; rw [HFF.out, if_neg (by decide)]; exact HI1.out
        go_wp2_with (first | (go_at_call 22; refine (HDC.out _).mono ?_; rintro e w' ⟨rfl, rfl⟩) | (go_at_call 19; refine (HSC.out _ _ HI2.out).mono ?_; rintro e w' ⟨rfl, rfl⟩))
        go_roundw
        case rel => exact ⟨k + 1, _, _, by omega, by go_num, rfl, HCAT.out, HTN.out.1, HTN.out.2, HBV.out⟩
        case measure => simp [intOf]; omega
      · have HI2 : Hid (IntsAt (w1.alloc (.cells #[.int .i64 nd.level, .int .i64 nd.a, .int .i64 nd.b, .int .i64 nd.c] 3)).heap.size (w1.alloc (.cells #[.int .i64 nd.level, .int .i64 nd.a, .int .i64 nd.b, .int .i64 nd.c] 3)) (.slice (some ⟨w1.heap.size, 0, none⟩) 2 4) (Fl.lineNums nd)) := by
          show IntsAt _ _ _ _
          unfold Fl.lineNums; rw [HFF.out, if_pos (by decide)]; exact ints_take4 w1 _ _ _ _ 1 (by omega)
        have HBV2 : Hid (Below (w.heap.size + 2) ((w.alloc (Obj.cells #[Value.slice la ls.length lcap, Value.slice (some ⟨b, off, none⟩) ns.length ncap] 32)).alloc (Obj.cells kindStrs 9)) (w1.alloc (.cells #[.int .i64 nd.level, .int .i64 nd.a, .int .i64 nd.b, .int .i64 nd.c] 3))) := HBV.out.alloc (by omega) _
        go_wp2_with (first | (go_at_call 22; refine (HDC.out _).mono ?_; rintro e w' ⟨rfl, rfl⟩) | (go_at_call 19; refine (HSC.out _ _ HI2.out).mono ?_; rintro e w' ⟨rfl, rfl⟩))
        go_roundw
        case rel => exact ⟨k + 1, _, _, by omega, by go_num, rfl, HCAT.out, HTN.out.1, HTN.out.2, HBV2.out⟩
        case measure => simp [intOf]; omega
      · have HI2 : Hid (IntsAt (w1.alloc (.cells #[.int .i64 nd.level, .int .i64 nd.a, .int .i64 nd.b, .int .i64 nd.c] 3)).heap.size (w1.alloc (.cells #[.int .i64 nd.level, .int .i64 nd.a, .int .i64 nd.b, .int .i64 nd.c] 3)) (.slice (some ⟨w1.heap.size, 0, none⟩) 3 4) (Fl.lineNums nd)) := by
          show IntsAt _ _ _ _
          unfold Fl.lineNums; rw [HFF.out, if_pos (by decide)]; exact ints_take4 w1 _ _ _ _ 2 (by omega)
        have HBV2 : Hid (Below (w.heap.size + 2) ((w.alloc (Obj.cells #[Value.slice la ls.length lcap, Value.slice (some ⟨b, off, none⟩) ns.length ncap] 32)).alloc (Obj.cells kindStrs 9)) (w1.alloc (.cells #[.int .i64 nd.level, .int .i64 nd.a, .int .i64 nd.b, .int .i64 nd.c] 3))) := HBV.out.alloc (by omega) _
        go_wp2_with (first | (go_at_call 22; refine (HDC.out _).mono ?_; rintro e w' ⟨rfl, rfl⟩) | (go_at_call 19; refine (HSC.out _ _ HI2.out).mono ?_; rintro e w' ⟨rfl, rfl⟩))
        go_roundw
        case rel => exact ⟨k + 1, _, _, by omega, by go_num, rfl, HCAT.out, HTN.out.1, HTN.out.2, HBV2.out⟩
        case measure => simp [intOf]; omega
      · have HI2 : Hid (IntsAt (w1.alloc (.cells #[.int .i64 nd.level, .int .i64 nd.a, .int .i64 nd.b, .int .i64 nd.c] 3)).heap.size (w1.alloc (.cells #[.int .i64 nd.level, .int .i64 nd.a, .int .i64 nd.b, .int .i64 nd.c] 3)) (.slice (some ⟨w1.heap.size, 0, none⟩) 4 4) (Fl.lineNums nd)) := by
          show IntsAt _ _ _ _
          unfold Fl.lineNums; rw [HFF.out, if_pos (by decide)]; exact ints_take4 w1 _ _ _ _ 3 (by omega)
        have HBV2 : Hid (Below (w.heap.size + 2) ((w.alloc (Obj.cells #[Value.slice la ls.length lcap, Value.slice (some ⟨b, off, none⟩) ns.length ncap] 32)).alloc (Obj.cells kindStrs 9)) (w1.alloc (.cells #[.int .i64 nd.level, .int .i64 nd.a, .int .i64 nd.b, .int .i64 nd.c] 3))) := HBV.out.alloc (by omega) _
        go_wp2_with (first | (go_at_call 22; refine (HDC.out _).mono ?_; rintro e w' ⟨rfl, rfl⟩) | (go_at_call 19; refine (HSC.out _ _ HI2.out).mono ?_; rintro e w' ⟨rfl, rfl⟩))
        go_roundw
        case rel => exact ⟨k + 1, _, _, by omega, by go_num, rfl, HCAT.out, HTN.out.1, HTN.out.2, HBV2.out⟩
        case measure => simp [intOf]; omega
    · have HF : Hid (Fl.text ls ns = s) := by
        show _ = _
        rw [Fl.text, HS.out]; congr 1; omega
      go_wp2
      go_ret
      exact ⟨by rw [HF.out]; rfl, HB1.out⟩
end Go.Proofs.YtbihjgfbocpobaaGreatDoor

/- The statements' own helpers: a list that is copied by append. -/
set_option linter.unusedSimpArgs false
set_option linter.unusedVariables false
namespace Go.Proofs.YtbihjgfbocpobaaGreatDoor
open Go.RowKit

theorem run_append_empty (w : World) (ao : Option Addr) (c : Nat) (ty : TypeId) {i : TypeInfo} (hi : Tryz.prog.info? 3 = some i) : (Builtin.append_ #[29, 29] ty #[.slice none 0 0, .slice ao 0 c]).run Tryz.prog w = .ok (.slice none 0 0) w := by
  cases ao with
  | none => simp [Builtin.append_, run_underlying Tryz.underlying29, sizeOf, typeInfo, hi, Builtin.lenOf, Builtin.firstCells]
  | some a => simp [Builtin.append_, run_underlying Tryz.underlying29, sizeOf, typeInfo, hi, Builtin.lenOf, Builtin.firstCells, loadCells, loadCellsFrom]

/-- append([]int(nil), xs...). -/
theorem wpList_append_ints {w : World} {ops : Array Oper} {rest : List Oper} {o : Oper} {a : Act} {Q : Exit → Act → World → Prop} (hgd : o.guard = none) (s x : Operand)
    (ho : o.op = .call { callee := .builtin .append, args := #[s, x], argTypes := #[29, 29] }) (hs : a.eval s = .slice none 0 0) (xv : Value) (hx : a.eval x = xv) (B : Nat) (xs : List Int) (hin : IntsAt B w xv xs) (hlen : xs.length ≤ 1000000) (base : Nat) (hbase : base ≤ w.heap.size)
    (h : ∀ v' w', w'.ownsRow base 3 1 v' xs.length (xs.map (Value.int .i64)) → Below w.heap.size w w' → wpList Tryz.prog ops Q rest (a.put o.dst v') w') : wpList Tryz.prog ops Q (o :: rest) a w := by
  obtain ⟨i0, hi, hz0, hz1, hz2⟩ := info_parts Tryz.infoInt
  obtain ⟨ao, cap, rfl, hc, hm, hcell⟩ := hin
  by_cases hne : xs = []
  · subst hne
    have hrun := run_append_empty w ao cap o.type hi
    refine wpList_plain hgd fun K hK => ?_
    unfold Oper.wp
    simp only [List.length_nil] at hx
    simp [execOp, ho, resolve, invoke, builtin, hs, hx, hrun, Result.andThen]
    exact hK _ _ (h _ _ (World.ownsRow_nil _ _ _ _) (Below.refl _ _))
  · obtain ⟨b, off, rfl, hbB, hcells⟩ := hcell hne
    refine wpList_append_own _ hgd s x 29 ho base 3 i0 (.int .i64 0) 1 8 Tryz.underlying29 hi hz0 hz1 hz2 rfl (by decide) _ 0 [] hs (World.ownsRow_nil _ _ _ _) ⟨b, off, none⟩ xs.length cap (xs.map (Value.int .i64)) hx (by simp) ?_ ?_ (by omega) (by omega) hbase ?_
    · intro j u hj
      rw [List.getElem?_map] at hj
      obtain ⟨y, hy, rfl⟩ := Option.map_eq_some_iff.1 hj
      have hjl : j < xs.length := (List.getElem?_eq_some_iff.1 hy).1
      have := hcells j hjl
      rw [List.getD_eq_getElem?_getD, hy] at this
      have h2 : (⟨b, off, none⟩ : Addr).add j = ⟨b, off + j, none⟩ := by unfold Addr.add; split <;> simp_all
      rw [h2]; simpa using this
    · intro u hu; simp only [List.mem_map] at hu; obtain ⟨y, _, rfl⟩ := hu; rfl
    · intro v' w' hown hg _
      rw [Nat.zero_add, List.nil_append] at hown
      exact h v' w' hown ((Below.refl _ _).grown hg (Nat.le_refl _) (fun k hk => by simp [Value.ownBlock] at hk))
end Go.Proofs.YtbihjgfbocpobaaGreatDoor
