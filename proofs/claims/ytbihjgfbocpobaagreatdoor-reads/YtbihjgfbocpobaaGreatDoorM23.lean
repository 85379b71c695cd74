/- Texts Lno Cea Ceb Cec. -/
import Derived.Test.YtbihjgfbocpobaaGreatDoorM22
import Derived.StillTailTactics
/- The program's Read. -/
set_option linter.unusedSimpArgs false
set_option linter.unusedVariables false
namespace Go.Proofs.YtbihjgfbocpobaaGreatDoor
open Go.RowKit

theorem six_all (w : World) (o0 o1 o2 o3 o4 o5 : Obj) : ((((((w.alloc o0).alloc o1).alloc o2).alloc o3).alloc o4).alloc o5).heap[w.heap.size + 1]? = some o1 := by
  have a : ∀ (u : World) (o : Obj) (k : Nat), k < u.heap.size → (u.alloc o).heap[k]? = u.heap[k]? := fun u o k hk => Below.heap_alloc _ _ _ hk
  have l : ∀ (u : World) (o : Obj) (k : Nat), u.heap.size = k → (u.alloc o).heap[k]? = some o := fun u o k hk => by subst hk; exact heap_alloc_last u o
  rw [a _ _ _ (by simp <;> omega), a _ _ _ (by simp <;> omega), a _ _ _ (by simp <;> omega), a _ _ _ (by simp <;> omega), l _ _ _ (by simp <;> omega)]

/-- Where the reading begins. -/
def RW5 (w : World) (s : List UInt8) : World := ((((w.alloc (.cells #[.string ⟨s.toArray⟩] 9)).alloc (.cells #[.slice none 0 0, .slice none 0 0] 32)).alloc (.cells #[.slice none 0 0, .slice none 0 0] 32)).alloc (.cells rulesArr 88)).alloc (.cells rulesArr 88)

/-- What Catch hands back. -/
structure RdCatch (r : (List Int × List Fl.Node) × Nat) (w : World) (e : Ending) (w' : World) : Prop where
  hB : Below w.heap.size w w'
  hsz : w.heap.size + 6 ≤ w'.heap.size
  c0 : w'.cell? ⟨w.heap.size + 1, 0, none⟩ = some (.slice none 0 0)
  c1 : w'.cell? ⟨w.heap.size + 1, 1, none⟩ = some (.slice none 0 0)
  fz : ∀ j, w'.frozen? ⟨w.heap.size + 1, j, none⟩ = false
  bad : r.2 ≠ 0 → ∃ q, e = .returned (.iface 71 (.pointer (some ⟨q, 0, none⟩))) ∧ w.heap.size + 6 ≤ q ∧ w'.cell? ⟨q, 0, none⟩ = some (.int .i64 2) ∧ w'.cell? ⟨q, 1, none⟩ = some (.int .i64 (r.2 : Int))
  good : r.2 = 0 → ∃ la n lc na n' nc, e = .returned .nilIface ∧ w'.cell? ⟨w.heap.size + 2, 0, none⟩ = some (.slice la n lc) ∧ w'.cell? ⟨w.heap.size + 2, 1, none⟩ = some (.slice na n' nc) ∧ ∀ w'', Stay (w.heap.size + 6) w' w'' → IntsAt w''.heap.size w'' (.slice la n lc) r.1.1 ∧ NodesAt w''.heap.size w'' (.slice na n' nc) r.1.2

set_option maxRecDepth 100000 in
set_option maxHeartbeats 2000000 in
theorem catch_read {s : List UInt8} {w : World} (hs : s.length ≤ 40000) (hpw : Pows w) (hmx : MaxLenIs w) :
    Calls Tryz.prog 39 #[.func (.func 50) #[] #[.pointer (some ⟨w.heap.size, 0, none⟩), .pointer (some ⟨w.heap.size + 2, 0, none⟩), .pointer (some ⟨w.heap.size + 4, 0, none⟩)]] (RW5 w s) (RdCatch (Fl.readText s) w) := by
  obtain ⟨r0, r2, r3, r4, r5, hsz, hB⟩ : let W := (RW5 w s).alloc (.cells #[.nilIface] 43); _ := six_blocks w (.cells #[.string ⟨s.toArray⟩] 9) (.cells #[.slice none 0 0, .slice none 0 0] 32) (.cells #[.slice none 0 0, .slice none 0 0] 32) (.cells rulesArr 88) (.cells rulesArr 88) (.cells #[.nilIface] 43)
  have r1 := six_all w (.cells #[.string ⟨s.toArray⟩] 9) (.cells #[.slice none 0 0, .slice none 0 0] 32) (.cells #[.slice none 0 0, .slice none 0 0] 32) (.cells rulesArr 88) (.cells rulesArr 88) (.cells #[.nilIface] 43)
  have h5 : (RW5 w s).heap.size = w.heap.size + 5 := by simp [RW5]
  change ((RW5 w s).alloc (.cells #[.nilIface] 43)).heap[w.heap.size]? = _ at r0
  change ((RW5 w s).alloc (.cells #[.nilIface] 43)).heap[w.heap.size + 1]? = _ at r1
  change ((RW5 w s).alloc (.cells #[.nilIface] 43)).heap[w.heap.size + 2]? = _ at r2
  change ((RW5 w s).alloc (.cells #[.nilIface] 43)).heap[w.heap.size + 3]? = _ at r3
  change ((RW5 w s).alloc (.cells #[.nilIface] 43)).heap[w.heap.size + 4]? = _ at r4
  change ((RW5 w s).alloc (.cells #[.nilIface] 43)).heap[w.heap.size + 5]? = _ at r5
  change ((RW5 w s).alloc (.cells #[.nilIface] 43)).heap.size = _ at hsz
  change Below w.heap.size w ((RW5 w s).alloc (.cells #[.nilIface] 43)) at hB
  have hca := catch_any 50 #[.pointer (some ⟨w.heap.size, 0, none⟩), .pointer (some ⟨w.heap.size + 2, 0, none⟩), .pointer (some ⟨w.heap.size + 4, 0, none⟩)] (RW5 w s)
  generalize hW6 : (RW5 w s).alloc (.cells #[.nilIface] 43) = W6 at *
  rw [h5] at hca
  have cc : ∀ (b i : Nat) (c : Array Value) (te : TypeId), W6.heap[b]? = some (.cells c te) → W6.cell? ⟨b, i, none⟩ = c[i]? := fun b i c te h => cell_of_row W6 b i c te (0, 0) h
  have hlp := hpw.lt
  have hlm := hmx.lt
  have hbeg : RdBeg s w.heap.size (w.heap.size + 2) (w.heap.size + 4) (w.heap.size + 6) W6 :=
    ⟨hs, hpw.below (Nat.le_refl _) hB, by omega, hmx.below (Nat.le_refl _) hB, by omega, r4, by omega, by omega, by omega, (cc _ _ _ _ r0).trans rfl, (cc _ _ _ _ r2).trans rfl, (cc _ _ _ _ r2).trans rfl, fun j => row_free _ _ _ _ _ r2⟩
  have five : ∀ {w' : World}, Mid (w.heap.size + 2) (w.heap.size + 6) W6 w' → w'.cell? ⟨w.heap.size + 5, 0, none⟩ = some .nilIface ∧ w'.frozen? ⟨w.heap.size + 5, 0, none⟩ = false := fun hm => by
    have h5' := hm (w.heap.size + 5) (by omega) (by omega)
    exact ⟨(World.cell?_of_block (w := W6) (a := ⟨w.heap.size + 5, 0, none⟩) h5').trans ((cc _ _ _ _ r5).trans rfl), (World.frozen?_of_block (w := W6) (a := ⟨w.heap.size + 5, 0, none⟩) h5').trans (row_free _ _ _ _ _ r5)⟩
  have one : ∀ {w' : World}, Below (w.heap.size + 2) W6 w' → w'.heap[w.heap.size + 1]? = W6.heap[w.heap.size + 1]? := fun hb => hb.block _ (by omega)
  refine (hca (fun w' => ∃ i, 0 < i ∧ RdSt s (w.heap.size + 2) (w.heap.size + 6) W6 i [] w') (RdBad s (w.heap.size + 2) (w.heap.size + 6) W6) (fun W => by kernel_rfl) ((do_read hbeg).mono ?_)).mono ?_
  · rintro e w' (⟨rfl, i, hi, hst⟩ | ⟨n, p, rfl, hp⟩)
    · obtain ⟨ls, lv, nv, acc, lvs, hr⟩ := id hst
      exact ⟨(five hr.hm).1, (five hr.hm).2, .inl ⟨rfl, i, hi, hst⟩⟩
    · exact ⟨(five hp.2.2.2.2.1).1, (five hp.2.2.2.2.1).2, .inr ⟨_, _, rfl, hp⟩⟩
  · have set5 : ∀ (u : World) (v : Value) (k : Nat), k ≠ w.heap.size + 5 → (u.setCell ⟨w.heap.size + 5, 0, none⟩ v).heap[k]? = u.heap[k]? := fun u v k hk => Below.heap_setCell _ _ _ _ (by intro h; exact hk (by simpa using h))
    rintro e wz (⟨w2, rfl, ⟨i, hi, ls, lv, nv, acc, lvs, hr⟩, rfl⟩ | ⟨n, pl, w1, o, rfl, ⟨rfl, hpl, hpos, hb, hm, hz⟩, rfl⟩)
    · have he := hr.ends hi
      obtain ⟨la, lc, hlv, _⟩ := id hr.hg.locals
      obtain ⟨na, nc, hnv⟩ := own_shape6 hr.hg.hn
      subst hlv hnv
      have hz := hr.hz
      have hn : (w2.setCell ⟨w.heap.size + 5, 0, none⟩ .nilIface).heap[w.heap.size + 1]? = W6.heap[w.heap.size + 1]? := (set5 _ _ _ (by omega)).trans (one hr.hg.hb)
      have hp2 : (w2.setCell ⟨w.heap.size + 5, 0, none⟩ .nilIface).heap[w.heap.size + 2]? = w2.heap[w.heap.size + 2]? := set5 _ _ _ (by omega)
      refine ⟨(hB.trans (hr.hg.hb.mono (by omega))).setCell (show w.heap.size ≤ (⟨w.heap.size + 5, 0, none⟩ : Addr).block by simp) _, by simpa using hz, ?_, ?_, ?_, ?_, ?_⟩
      · exact (World.cell?_of_block (w := W6) (a := ⟨w.heap.size + 1, 0, none⟩) hn).trans ((cc _ _ _ _ r1).trans rfl)
      · exact (World.cell?_of_block (w := W6) (a := ⟨w.heap.size + 1, 1, none⟩) hn).trans ((cc _ _ _ _ r1).trans rfl)
      · exact fun j => (World.frozen?_of_block (w := W6) (a := ⟨w.heap.size + 1, j, none⟩) hn).trans (row_free _ _ _ _ _ r1)
      · intro h; rw [he] at h; exact absurd rfl h
      · intro _
        refine ⟨la, _, lc, na, _, nc, rfl, (World.cell?_of_block (w := w2) (a := ⟨w.heap.size + 2, 0, none⟩) hp2).trans hr.hg.c0, (World.cell?_of_block (w := w2) (a := ⟨w.heap.size + 2, 1, none⟩) hp2).trans hr.hg.c1, fun w'' hs'' => ?_⟩
        rw [he]
        exact hr.stay ((Stay.setCell (w.heap.size + 6) w2 (w.heap.size + 5) 0 .nilIface (by omega)).trans hs'')
    · have hall : ∀ v k, k < w.heap.size + 5 → (((w1.alloc o).alloc (.cells #[.int .i64 2, .int .i64 pl] 75)).setCell ⟨w.heap.size + 5, 0, none⟩ v).heap[k]? = w1.heap[k]? := fun v k hk => by
        rw [Below.heap_setCell _ _ _ _ (by simp; omega), Below.heap_alloc _ _ _ (by simp; omega), Below.heap_alloc _ _ _ (by omega)]
      have hn := fun v => (hall v (w.heap.size + 1) (by omega)).trans (one hb)
      have hq : ∀ v, (((w1.alloc o).alloc (.cells #[.int .i64 2, .int .i64 pl] 75)).setCell ⟨w.heap.size + 5, 0, none⟩ v).heap[w1.heap.size + 1]? = some (.cells #[.int .i64 2, .int .i64 pl] 75) := fun v => by
        rw [Below.heap_setCell _ _ _ _ (by simp; omega)]
        have := heap_alloc_last (w1.alloc o) (.cells #[.int .i64 2, .int .i64 pl] 75)
        simpa using this
      have hqc := fun v i => cell_of_row _ (w1.heap.size + 1) i _ _ (0, 0) (hq v)
      refine ⟨(((hB.trans (hb.mono (by omega))).alloc (by omega) _).alloc (by simp; omega) _).setCell (show w.heap.size ≤ (⟨w.heap.size + 5, 0, none⟩ : Addr).block by simp) _, by simp; omega, ?_, ?_, ?_, ?_, ?_⟩
      · exact (World.cell?_of_block (w := W6) (a := ⟨w.heap.size + 1, 0, none⟩) (hn _)).trans ((cc _ _ _ _ r1).trans rfl)
      · exact (World.cell?_of_block (w := W6) (a := ⟨w.heap.size + 1, 1, none⟩) (hn _)).trans ((cc _ _ _ _ r1).trans rfl)
      · exact fun j => (World.frozen?_of_block (w := W6) (a := ⟨w.heap.size + 1, j, none⟩) (hn _)).trans (row_free _ _ _ _ _ r1)
      · exact fun _ => ⟨_, rfl, by omega, (hqc _ 0).trans rfl, (hqc _ 1).trans (by rw [hpl]; rfl)⟩
      · intro h; omega

/-- How Read ends. -/
def ReadEnds (r : (List Int × List Fl.Node) × Nat) (w : World) (e : Ending) (w' : World) : Prop :=
  Below w.heap.size w w' ∧
  (r.2 ≠ 0 → ∃ q, e = .returned (.tuple #[.agg #[.slice none 0 0, .slice none 0 0], .iface 71 (.pointer (some ⟨q, 0, none⟩))]) ∧ w'.cell? ⟨q, 0, none⟩ = some (.int .i64 2) ∧ w'.cell? ⟨q, 1, none⟩ = some (.int .i64 (r.2 : Int))) ∧
  (r.2 = 0 → ∃ la n lc na n' nc, e = .returned (.tuple #[.agg #[.slice la n lc, .slice na n' nc], .nilIface]) ∧ ∀ w'', Stay w.heap.size w' w'' → IntsAt w''.heap.size w'' (.slice la n lc) r.1.1 ∧ NodesAt w''.heap.size w'' (.slice na n' nc) r.1.2)

set_option maxRecDepth 100000 in
set_option maxHeartbeats 2000000 in
theorem read_prog {s : List UInt8} {w : World} (hs : s.length ≤ 40000) (hpw : Pows w) (hmx : MaxLenIs w) :
    Calls Tryz.prog 35 #[.string ⟨s.toArray⟩] w (ReadEnds (Fl.readText s) w) := by
  have hmf : ∀ (fn : Fn) (first cap : Array Value) (w : World), (Instr.makeFunc fn first cap).run Tryz.prog w = .ok (.func fn first cap) w := fun _ _ _ _ => rfl
  have HC : Hid (Calls Tryz.prog 39 #[.func (.func 50) #[] #[.pointer (some ⟨w.heap.size, 0, none⟩), .pointer (some ⟨w.heap.size + 2, 0, none⟩), .pointer (some ⟨w.heap.size + 4, 0, none⟩)]] (RW5 w s) (RdCatch (Fl.readText s) w)) := catch_read hs hpw hmx
  clear hs hpw hmx
  go_enter Tryz.func35, Tryz.ntmps35
  go_wp2_with (first | (go_at_call 38; refine (rules_any _).mono ?_; rintro e w1 ⟨rfl, rfl⟩) | (refine wpList_store_newN rfl _ _ 88 rfl _ _ _ rulesArr rfl (by simp) rfl Tryz.infoRules rulesSize rulesOne ?_))
  refine (HC.out).mono ?_
  clear HC
  rintro e wz ⟨hB, hsz, c0, c1, fz, hbad, hgood⟩
  have HB : Hid (Below w.heap.size w wz) := hB
  clear hB
  by_cases hr : (Fl.readText s).2 = 0
  · obtain ⟨la, n, lc, na, n', nc, rfl, d0, d1, hst⟩ := hgood hr
    have HRR : Hid ((Fl.readText s).2 = 0) := hr
    have HST : Hid (∀ w'', Stay (w.heap.size + 6) wz w'' → IntsAt w''.heap.size w'' (.slice la n lc) (Fl.readText s).1.1 ∧ NodesAt w''.heap.size w'' (.slice na n' nc) (Fl.readText s).1.2) := hst
    clear hbad hgood hr hst
    go_wp2_with fail
    obtain ⟨e0, e1, ek, es, eb⟩ := two_set (.slice la n lc) (.slice na n' nc) c0 c1
    exact bodyPost_ret (v := .tuple #[.agg #[.slice la n lc, .slice na n' nc], .nilIface]) (by simp [results, Tryz.results35, go_sem, e0, e1]) rfl
      ⟨eb _ _ HB.out (by omega), fun h => absurd HRR.out h, fun _ => ⟨la, n, lc, na, n', nc, rfl, fun w'' hs'' => HST.out w'' ⟨by have := hs''.size; omega, fun k hk hlt => (hs''.block k (by omega) (by omega)).trans (ek k (by omega))⟩⟩⟩
  · obtain ⟨q, rfl, hq, q0, q1⟩ := hbad hr
    have HRR : Hid (¬ (Fl.readText s).2 = 0) := hr
    clear hbad hgood hr
    go_wp2_with fail
    obtain ⟨e0, e1, ek, es, eb⟩ := two_set (.slice none 0 0) (.slice none 0 0) c0 c1
    exact bodyPost_ret (v := .tuple #[.agg #[.slice none 0 0, .slice none 0 0], .iface 71 (.pointer (some ⟨q, 0, none⟩))]) (by simp [results, Tryz.results35, go_sem, e0, e1]) rfl
      ⟨eb _ _ HB.out (by omega), fun _ => ⟨q, rfl, (World.cell?_of_block (w := wz) (a := ⟨q, 0, none⟩) (ek q (by omega))).trans q0, (World.cell?_of_block (w := wz) (a := ⟨q, 1, none⟩) (ek q (by omega))).trans q1⟩, fun h => absurd h HRR.out⟩
end Go.Proofs.YtbihjgfbocpobaaGreatDoor

/- The program: are all numbers in range? -/
set_option linter.unusedSimpArgs false
set_option linter.unusedVariables false
namespace Go.Proofs.YtbihjgfbocpobaaGreatDoor
open Go.RowKit

set_option maxRecDepth 100000 in
set_option maxHeartbeats 800000 in
theorem isNumber_any (n : Int) (w : World) : Calls Tryz.prog 98 #[.int .i64 n] w fun e w' => e = .returned (.bool (Fl.inR n)) ∧ w' = w := by
  by_cases h0 : 0 ≤ n
  · have b0 : decide ((0 : Int) ≤ n) = true := by simpa using h0
    by_cases h1 : n ≤ 2147483647
    · go_enter Tryz.func98, Tryz.ntmps98
      go_wp2
      go_ret
      exact ⟨ret_bool (by simp [Fl.inR]; omega), rfl⟩
    · go_enter Tryz.func98, Tryz.ntmps98
      go_wp2
      go_ret
      exact ⟨ret_bool (by simp [Fl.inR]; omega), rfl⟩
  · go_enter Tryz.func98, Tryz.ntmps98
    go_wp2
    go_ret
    exact ⟨ret_bool (by simp [Fl.inR]; omega), rfl⟩

set_option maxRecDepth 100000 in
set_option maxHeartbeats 800000 in
theorem pred_any (n : Int) (w : World) : Calls Tryz.prog 97 #[.int .i64 n] w fun e w' => e = .returned (.bool (!Fl.inR n)) ∧ w' = w := by
  go_enter Tryz.func97, Tryz.ntmps97
  go_wp2_with (go_at_call 98; refine (isNumber_any _ _).mono ?_; rintro e w1 ⟨rfl, rfl⟩)
  go_ret
  exact ⟨rfl, rfl⟩

set_option maxRecDepth 100000 in
set_option maxHeartbeats 2000000 in
theorem indexFunc_any (xs : List Int) (v : Value) (B : Nat) (w : World) (hx : IntsAt B w v xs) :
    Calls Tryz.prog 109 #[v, .func (.func 97) #[] #[]] w fun e w' => (xs.all Fl.inR = true → e = .returned (.int .i64 (-1))) ∧ (xs.all Fl.inR = false → ∃ j : Nat, e = .returned (.int .i64 j)) ∧ Below w.heap.size w w' := by
  obtain ⟨ao, cap, rfl, _, hm, _⟩ := id hx
  unfold maxLen at hm
  have HX : Hid (IntsAt B w (.slice ao xs.length cap) xs) := hx
  clear hx
  go_enter Tryz.func109, Tryz.ntmps109
  go_wp2_with fail
  go_loopw [8] (fun i wr => ∃ j m : Nat, j ≤ xs.length ∧ i = .int .i64 j ∧ wr = w.drewN m ∧ ∀ t, t < j → Fl.inR (xs.getD t 0) = true) (fun i _ => xs.length - (intOf i).toNat)
  case atStart => exact ⟨0, 0, by omega, rfl, rfl, fun t ht => by omega⟩
  case round =>
    obtain ⟨j, m, hj, rfl, rfl, hall⟩ := hrel
    have HA : Hid (∀ t, t < j → Fl.inR (xs.getD t 0) = true) := hall
    clear hall
    by_cases hlt : j < xs.length
    · obtain ⟨b, off, rfl, hbB, hcj⟩ := HX.out.at hlt
      have hji : (j : Int) < (xs.length : Int) := by omega
      obtain ⟨x, hx⟩ : ∃ x, x = xs.getD j 0 := ⟨_, rfl⟩
      rw [← hx] at hcj
      have HXJ : Hid (x = xs.getD j 0) := hx
      have HP : Hid (∀ (c : Bool) (W : World), Fl.inR x = !c → Calls Tryz.prog 97 #[.int .i64 x] W fun e w' => e = .returned (.bool c) ∧ w' = W) := fun c W hc => (pred_any _ W).mono (by rintro e w' ⟨rfl, rfl⟩; exact ⟨by rw [hc]; simp, rfl⟩)
      clear hx
      cases hin : Fl.inR x with
      | true =>
        have HIN : Hid (Fl.inR x = true) := hin
        clear hin
        go_wp2_with (go_at_call 97; refine (HP.out false _ HIN.out).mono ?_; rintro e w1 ⟨rfl, rfl⟩)
        go_roundw
        case rel => exact ⟨j + 1, m, by omega, by go_num, rfl, fun t ht => by
          by_cases h : t < j
          · exact HA.out t h
          · have : t = j := by omega
            subst this; rw [← HXJ.out]; exact HIN.out⟩
        case measure => simp [intOf]; omega
      | false =>
        have HIN : Hid (Fl.inR x = false) := hin
        clear hin
        go_wp2_with (go_at_call 97; refine (HP.out true _ HIN.out).mono ?_; rintro e w1 ⟨rfl, rfl⟩)
        go_ret
        refine ⟨fun h => ?_, fun _ => ⟨j, rfl⟩, by repeat (first | exact Below.refl _ _ | apply Below.drewN_of)⟩
        rw [List.all_eq_true] at h
        have := h (xs.getD j 0) (by rw [List.getD_eq_getElem?_getD, List.getElem?_eq_getElem hlt]; exact List.getElem_mem hlt)
        rw [← HXJ.out, HIN.out] at this; cases this
    · have hji : (xs.length : Int) ≤ (j : Int) := by omega
      go_wp2_with fail
      go_ret
      have hallt : xs.all Fl.inR = true := by
        rw [List.all_eq_true]; intro y hy
        obtain ⟨t, ht, rfl⟩ := List.getElem_of_mem hy
        have := HA.out t (by omega)
        rwa [List.getD_eq_getElem?_getD, List.getElem?_eq_getElem ht] at this
      refine ⟨fun _ => rfl, fun h => (by rw [hallt] at h; cases h), by repeat (first | exact Below.refl _ _ | apply Below.drewN_of)⟩

set_option maxRecDepth 100000 in
set_option maxHeartbeats 2000000 in
theorem containsFunc_any (xs : List Int) (v : Value) (B : Nat) (w : World) (hx : IntsAt B w v xs) :
    Calls Tryz.prog 96 #[v, .func (.func 97) #[] #[]] w fun e w' => e = .returned (.bool (!xs.all Fl.inR)) ∧ Below w.heap.size w w' := by
  have HI : Hid (Calls Tryz.prog 109 #[v, .func (.func 97) #[] #[]] w fun e w' => (xs.all Fl.inR = true → e = .returned (.int .i64 (-1))) ∧ (xs.all Fl.inR = false → ∃ j : Nat, e = .returned (.int .i64 j)) ∧ Below w.heap.size w w') := indexFunc_any xs v B w hx
  obtain ⟨ao, cap, rfl, _, hm, _⟩ := id hx
  clear hx hm
  go_enter Tryz.func96, Tryz.ntmps96
  go_wp2_with fail
  refine (HI.out).mono ?_
  rintro e w1 ⟨h1, h2, hb⟩
  have HB : Hid (Below w.heap.size w w1) := hb
  clear hb
  cases ha : xs.all Fl.inR with
  | true =>
    obtain rfl := h1 ha
    have HAL : Hid (xs.all Fl.inR = true) := ha
    clear h1 h2 ha
    go_wp2
    go_ret
    exact ⟨ret_bool (by rw [HAL.out]; rfl), HB.out⟩
  | false =>
    obtain ⟨j, rfl⟩ := h2 ha
    have hj0 : (0 : Int) ≤ (j : Int) := by omega
    have HAL : Hid (xs.all Fl.inR = false) := ha
    clear h1 h2 ha
    go_wp2
    go_ret
    exact ⟨ret_bool (by rw [HAL.out]; rfl), HB.out⟩

set_option maxRecDepth 100000 in
set_option maxHeartbeats 2000000 in
theorem allNumbers_any (xs : List Int) (v : Value) (B : Nat) (w : World) (hx : IntsAt B w v xs) :
    Calls Tryz.prog 82 #[v] w fun e w' => e = .returned (.bool (xs.all Fl.inR)) ∧ Below w.heap.size w w' := by
  have hmf : ∀ (fn : Fn) (first cap : Array Value) (w : World), (Instr.makeFunc fn first cap).run Tryz.prog w = .ok (.func fn first cap) w := fun _ _ _ _ => rfl
  have HI : Hid (Calls Tryz.prog 96 #[v, .func (.func 97) #[] #[]] w fun e w' => e = .returned (.bool (!xs.all Fl.inR)) ∧ Below w.heap.size w w') := containsFunc_any xs v B w hx
  obtain ⟨ao, cap, rfl, _, hm, _⟩ := id hx
  clear hx hm
  go_enter Tryz.func82, Tryz.ntmps82
  go_wp2_with fail
  refine (HI.out).mono ?_
  rintro e w1 ⟨rfl, hb⟩
  have HB : Hid (Below w.heap.size w w1) := hb
  clear hb
  cases ha : xs.all Fl.inR with
  | true =>
    have HAL : Hid (xs.all Fl.inR = true) := ha
    clear ha
    go_wp2
    go_ret
    exact ⟨ret_bool (by rw [HAL.out]), HB.out⟩
  | false =>
    have HAL : Hid (xs.all Fl.inR = false) := ha
    clear ha
    go_wp2
    go_ret
    exact ⟨ret_bool (by rw [HAL.out]), HB.out⟩
end Go.Proofs.YtbihjgfbocpobaaGreatDoor

/- The program: a node's rest is zero. -/
set_option linter.unusedSimpArgs false
set_option linter.unusedVariables false
namespace Go.Proofs.YtbihjgfbocpobaaGreatDoor
open Go.RowKit

theorem i64_or_nat (a b : Nat) (ha : a < 2147483648) (hb : b < 2147483648) : bits .or .i64 (a : Int) (b : Int) = ((a ||| b : Nat) : Int) := by
  have hx : a ||| b < 2 ^ 31 := Nat.or_lt_two_pow (by omega) (by omega)
  have o : ∀ x : Nat, x < 2147483648 → (BitVec.ofInt 64 (x : Int)).toNat = x := fun x hx => by rw [BitVec.ofInt_natCast, BitVec.toNat_ofNat]; exact Nat.mod_eq_of_lt (by omega)
  show IntKind.i64.wrap ((BitVec.ofInt 64 (a : Int) ||| BitVec.ofInt 64 (b : Int)).toNat : Int) = _
  rw [BitVec.toNat_or, o a ha, o b hb]
  generalize a ||| b = x at *
  simp [IntKind.wrap, IntKind.bits, IntKind.signed]
  omega
/-- What a node has in the places that its kind does not use. -/
def restV (n : Nat) (a b c : Int) : Int := if n = 0 then bits .or .i64 (bits .or .i64 (bits .or .i64 0 a) b) c else if n = 1 then bits .or .i64 (bits .or .i64 0 b) c else if n = 2 then bits .or .i64 0 c else 0
theorem or_zero_iff (a b : Nat) : a ||| b = 0 ↔ a = 0 ∧ b = 0 := by
  constructor
  · intro h
    have h1 : a ≤ a ||| b := Nat.left_le_or
    have h2 : b ≤ a ||| b := Nat.right_le_or
    omega
  · rintro ⟨rfl, rfl⟩; rfl
theorem restV_zero (n : Nat) (a b c : Int) (ha : Fl.inR a = true) (hb : Fl.inR b = true) (hc : Fl.inR c = true) : restV n a b c = 0 ↔ (n = 0 → a = 0) ∧ (n ≤ 1 → b = 0) ∧ (n ≤ 2 → c = 0) := by
  simp only [Fl.inR, Bool.and_eq_true, decide_eq_true_eq] at ha hb hc
  obtain ⟨A, rfl⟩ := Int.eq_ofNat_of_zero_le ha.1
  obtain ⟨B, rfl⟩ := Int.eq_ofNat_of_zero_le hb.1
  obtain ⟨C, rfl⟩ := Int.eq_ofNat_of_zero_le hc.1
  have e0 : ∀ x : Nat, x < 2147483648 → bits .or .i64 0 (x : Int) = (x : Int) := fun x hx => by have := i64_or_nat 0 x (by omega) hx; simpa using this
  have hAB : A ||| B < 2 ^ 31 := Nat.or_lt_two_pow (by omega) (by omega)
  unfold restV
  rw [e0 A (by omega), e0 B (by omega), e0 C (by omega), i64_or_nat A B (by omega) (by omega), i64_or_nat (A ||| B) C (by omega) (by omega), i64_or_nat B C (by omega) (by omega)]
  have h1 := or_zero_iff A B
  have h2 := or_zero_iff (A ||| B) C
  have h3 := or_zero_iff B C
  generalize (A ||| B) ||| C = X at *
  generalize A ||| B = Y at *
  generalize B ||| C = Z at *
  split
  · omega
  · split
    · omega
    · split <;> omega

set_option maxRecDepth 100000 in
set_option maxHeartbeats 4000000 in
theorem rest_any (rb ro nb no n : Nat) (hn : n ≤ 3) (l : Bool) (nd : Fl.Node) (lv : Value) (w : World) (h : NodeAt w nb no nd lv) (h1 : w.cell? ⟨rb, ro + 1, none⟩ = some (.int .i64 n)) (h2 : w.cell? ⟨rb, ro + 2, none⟩ = some (.bool l)) :
    Calls Tryz.prog 99 #[.pointer (some ⟨rb, ro, none⟩), .pointer (some ⟨nb, no, none⟩)] w fun e w' => e = .returned (.bool (decide (restV n nd.a nd.b nd.c = 0) && (l || decide (nd.list = [])))) ∧ Below w.heap.size w w' := by
  have c2 := h.c2
  have c3 := h.c3
  have c4 := h.c4
  have c5 := h.c5
  obtain ⟨ao, cap, rfl, _, hm, _⟩ := h.hl
  have hle : decide (nd.list = []) = ((nd.list.length : Int) == 0) := by
    cases nd.list with
    | nil => rfl
    | cons x y => simp; omega
  unfold maxLen at hm
  have HLE : Hid (decide (nd.list = []) = ((nd.list.length : Int) == 0)) := hle
  have hcase : n = 0 ∨ n = 1 ∨ n = 2 ∨ n = 3 := by omega
  clear h hn hle
  generalize nd.list.length = len at *
  rcases hcase with rfl | rfl | rfl | rfl
  · have HR : Hid (decide (restV 0 nd.a nd.b nd.c = 0) = (bits .or .i64 (bits .or .i64 (bits .or .i64 0 nd.a) nd.b) nd.c == 0)) := rfl
    cases hz : (bits .or .i64 (bits .or .i64 (bits .or .i64 0 nd.a) nd.b) nd.c == 0) with
    | true =>
      have HZ : Hid ((bits .or .i64 (bits .or .i64 (bits .or .i64 0 nd.a) nd.b) nd.c == 0) = true) := hz
      cases l with
      | true =>
        go_enter Tryz.func99, Tryz.ntmps99
        go_wp2_with fail
        go_ret
        exact ⟨ret_bool (by rw [HR.out, HZ.out]; rfl), Below.refl _ _⟩
      | false =>
        go_enter Tryz.func99, Tryz.ntmps99
        go_wp2_with fail
        go_ret
        exact ⟨ret_bool (by rw [HR.out, HZ.out, HLE.out]; simp), Below.refl _ _⟩
    | false =>
      have HZ : Hid ((bits .or .i64 (bits .or .i64 (bits .or .i64 0 nd.a) nd.b) nd.c == 0) = false) := hz
      go_enter Tryz.func99, Tryz.ntmps99
      go_wp2_with fail
      go_ret
      exact ⟨ret_bool (by rw [HR.out, HZ.out]; simp), Below.refl _ _⟩
  · have HR : Hid (decide (restV 1 nd.a nd.b nd.c = 0) = (bits .or .i64 (bits .or .i64 0 nd.b) nd.c == 0)) := rfl
    cases hz : (bits .or .i64 (bits .or .i64 0 nd.b) nd.c == 0) with
    | true =>
      have HZ : Hid ((bits .or .i64 (bits .or .i64 0 nd.b) nd.c == 0) = true) := hz
      cases l with
      | true =>
        go_enter Tryz.func99, Tryz.ntmps99
        go_wp2_with fail
        go_ret
        exact ⟨ret_bool (by rw [HR.out, HZ.out]; rfl), Below.refl _ _⟩
      | false =>
        go_enter Tryz.func99, Tryz.ntmps99
        go_wp2_with fail
        go_ret
        exact ⟨ret_bool (by rw [HR.out, HZ.out, HLE.out]; simp), Below.refl _ _⟩
    | false =>
      have HZ : Hid ((bits .or .i64 (bits .or .i64 0 nd.b) nd.c == 0) = false) := hz
      go_enter Tryz.func99, Tryz.ntmps99
      go_wp2_with fail
      go_ret
      exact ⟨ret_bool (by rw [HR.out, HZ.out]; simp), Below.refl _ _⟩
  · have HR : Hid (decide (restV 2 nd.a nd.b nd.c = 0) = (bits .or .i64 0 nd.c == 0)) := rfl
    cases hz : (bits .or .i64 0 nd.c == 0) with
    | true =>
      have HZ : Hid ((bits .or .i64 0 nd.c == 0) = true) := hz
      cases l with
      | true =>
        go_enter Tryz.func99, Tryz.ntmps99
        go_wp2_with fail
        go_ret
        exact ⟨ret_bool (by rw [HR.out, HZ.out]; rfl), Below.refl _ _⟩
      | false =>
        go_enter Tryz.func99, Tryz.ntmps99
        go_wp2_with fail
        go_ret
        exact ⟨ret_bool (by rw [HR.out, HZ.out, HLE.out]; simp), Below.refl _ _⟩
    | false =>
      have HZ : Hid ((bits .or .i64 0 nd.c == 0) = false) := hz
      go_enter Tryz.func99, Tryz.ntmps99
      go_wp2_with fail
      go_ret
      exact ⟨ret_bool (by rw [HR.out, HZ.out]; simp), Below.refl _ _⟩
  · have HR : Hid (decide (restV 3 nd.a nd.b nd.c = 0) = true) := rfl
    cases l with
    | true =>
      go_enter Tryz.func99, Tryz.ntmps99
      go_wp2_with fail
      go_ret
      exact ⟨ret_bool (by rw [HR.out]; rfl), Below.refl _ _⟩
    | false =>
      go_enter Tryz.func99, Tryz.ntmps99
      go_wp2_with fail
      go_ret
      exact ⟨ret_bool (by rw [HR.out, HLE.out]; simp), Below.refl _ _⟩
end Go.Proofs.YtbihjgfbocpobaaGreatDoor

/- The program: a node has the numbers of its kind. -/
set_option linter.unusedSimpArgs false
set_option linter.unusedVariables false
namespace Go.Proofs.YtbihjgfbocpobaaGreatDoor
open Go.RowKit

theorem sound_kind {nd : Fl.Node} {k : Nat} (hk : nd.kind = (k : Int)) (h8 : k < 8) :
    Fl.sound nd = ((Fl.inR nd.level && (Fl.inR nd.a && (Fl.inR nd.b && Fl.inR nd.c))) && ((decide (restV (numF k) nd.a nd.b nd.c = 0) && ((k == 7) || decide (nd.list = []))) && (decide (nd.list.length ≤ 16) && nd.list.all Fl.inR))) := by
  have hcase : k = 0 ∨ k = 1 ∨ k = 2 ∨ k = 3 ∨ k = 4 ∨ k = 5 ∨ k = 6 ∨ k = 7 := by omega
  cases ha : Fl.inR nd.a with
  | false => simp [Fl.sound, Fl.okV, ha]
  | true =>
    cases hb : Fl.inR nd.b with
    | false => simp [Fl.sound, Fl.okV, hb]
    | true =>
      cases hc : Fl.inR nd.c with
      | false => simp [Fl.sound, Fl.okV, hc]
      | true =>
        have hr := restV_zero (numF k) nd.a nd.b nd.c ha hb hc
        have hr' : decide (restV (numF k) nd.a nd.b nd.c = 0) = decide ((numF k = 0 → nd.a = 0) ∧ (numF k ≤ 1 → nd.b = 0) ∧ (numF k ≤ 2 → nd.c = 0)) := decide_eq_decide.2 hr
        rw [hr', Bool.eq_iff_iff]
        rcases hcase with rfl | rfl | rfl | rfl | rfl | rfl | rfl | rfl <;> simp [Fl.sound, Fl.okV, hk, ha, hb, hc, numF, Fl.fields] <;> grind
theorem sound_out {nd : Fl.Node} (h : nd.kind < 0 ∨ 8 ≤ nd.kind) : Fl.sound nd = false := by
  have : Fl.fields nd.kind = -2 := by unfold Fl.fields; (repeat' split) <;> omega
  simp [Fl.sound, this]
end Go.Proofs.YtbihjgfbocpobaaGreatDoor
