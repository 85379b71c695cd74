/- Texts RefM RefN RefO RefP. -/
import Derived.Test.YtbihjgfbocpobaaGreatDoorM11
import Derived.Deep.RegionWith
/- The reference's shaped. -/
set_option linter.unusedSimpArgs false
set_option linter.unusedVariables false
namespace Go.Proofs.YtbihjgfbocpobaaGreatDoor
open Go.RowKit

/-- Is one of the nodes below j, behind k, by node k? -/
def usedTo (l : List Fl.Node) (k j : Nat) : Bool := (List.range j).any (fun j => decide (k < j) && (prem (Fl.nth l j)).any (· == (k : Int)))
theorem usedTo_start (l : List Fl.Node) (k : Nat) : usedTo l k (k + 1) = false := by
  unfold usedTo; rw [List.any_eq_false]; intro x hx
  have : ¬ k < x := by simp at hx; omega
  simp [this]
theorem usedTo_succ (l : List Fl.Node) (k j : Nat) (h : k < j) : usedTo l k (j + 1) = (usedTo l k j || (prem (Fl.nth l j)).any (· == (k : Int))) := by
  unfold usedTo; rw [List.range_succ, List.any_append]; simp [h]

set_option maxRecDepth 100000 in
set_option maxHeartbeats 8000000 in
theorem shaped_walk (ns : List Fl.Node) (v : Value) (B : Nat) (w : World) (hB : B ≤ w.heap.size) (hv : NodesAt B w v ns) :
    Calls Tryz.prog 18 #[v] w fun e w' => e = .returned (.int .i64 (Fl.shaped ns)) ∧ Below w.heap.size w w' := by
  obtain ⟨ao, cap, rfl, hc, hm, hx⟩ := hv
  unfold maxLen at hm
  have HX : Hid (NodesAt B w (.slice ao ns.length cap) ns) := ⟨ao, cap, rfl, hc, hm, hx⟩
  clear hx
  go_enter Tryz.func18, Tryz.ntmps18
  go_wp2
  go_loopw [3] (fun i wr => ∃ k : Nat, k ≤ ns.length ∧ i = .int .i64 k ∧ (∀ j, j < k → Fl.bad ns j = false) ∧ Below w.heap.size w wr) (fun i _ => ns.length - (intOf i).toNat)
  case atStart => exact ⟨0, by omega, rfl, fun j hj => by omega, Below.refl _ _⟩
  case round =>
    obtain ⟨k, hk, rfl, hno, hbr⟩ := hrel
    have HN : Hid (∀ j, j < k → Fl.bad ns j = false) := hno
    clear hno
    have hrs := hbr.size
    by_cases hlt : k < ns.length
    · obtain ⟨b, off, rfl⟩ : ∃ b off, ao = some ⟨b, off, none⟩ := by
        obtain ⟨ao', cap', hv', _, _, hx'⟩ := HX.out
        obtain ⟨b, off, ha, _⟩ := hx' (by intro h; rw [h] at hlt; simp at hlt)
        simp only [Value.slice.injEq] at hv'
        exact ⟨b, off, hv'.1.trans ha⟩
      obtain ⟨hbB, lv, h0, h1, h2, h3, h4, h5, h6⟩ := (HX.out.below (hbr.mono hB)).at hlt
      have HS : Hid (Calls Tryz.prog 33 #[nodeV (Fl.nth ns k) lv] wr fun e w' => e = .returned (.bool (Fl.sound (Fl.nth ns k))) ∧ Below wr.heap.size wr w') := sound_any _ _ B _ (by omega) h0
      clear h0
      go_wp2_with fail
      refine (HS.out).mono ?_
      rintro e w1 ⟨rfl, hb1⟩
      clear HS h1 h2 h3 h4 h5 h6
      have hbw1 : Below w.heap.size w w1 := hbr.trans (hb1.mono hrs)
      have hs1 := hbw1.size
      by_cases hsd : Fl.sound (Fl.nth ns k) = true
      · rw [hsd]
        obtain ⟨_, lv1, h0, h1, h2, h3, h4, h5, h6⟩ := (HX.out.below (hbw1.mono hB)).at hlt
        have HP : Hid (Calls Tryz.prog 32 #[nodeV (Fl.nth ns k) lv1] w1 fun e w' => ∃ v, e = .returned v ∧ IntsAt w'.heap.size w' v (prem (Fl.nth ns k)) ∧ Below w1.heap.size w1 w') := premises_any _ _ B _ (by omega) h0
        have HSD : Hid (Fl.sound (Fl.nth ns k) = true) := hsd
        clear h0 hsd
        go_wp2_with fail
        refine (HP.out).mono ?_
        rintro e w2 ⟨pv, rfl, hpi, hb2⟩
        clear HP h1 h2 h3 h4 h5 h6
        have hbw2 : Below w.heap.size w w2 := hbw1.trans (hb2.mono hs1)
        obtain ⟨pao, pcap, rfl, _, hpm, hpc⟩ := hpi
        generalize hps : prem (Fl.nth ns k) = ps at *
        have HPS : Hid (prem (Fl.nth ns k) = ps) := hps
        have HPC : Hid (ps ≠ [] → ∃ b off, pao = some ⟨b, off, none⟩ ∧ b < w2.heap.size ∧ ∀ i, i < ps.length → w2.cell? ⟨b, off + i, none⟩ = some (.int .i64 (ps.getD i 0))) := hpc
        clear hps hpc hb2 hb1 hbr hbw1
        unfold maxLen at hpm
        go_wp2
        go_loop [6] (fun i => ∃ j : Nat, j ≤ ps.length ∧ i = .int .i64 j ∧ ∀ t, t < j → ¬ (k : Int) ≤ ps.getD t 0) (fun i => ps.length - (intOf i).toNat)
        case atStart => exact ⟨0, by omega, rfl, fun t ht => by omega⟩
        case round =>
          obtain ⟨j, hj, rfl, hsm⟩ := hrel
          have HSM : Hid (∀ t, t < j → ¬ (k : Int) ≤ ps.getD t 0) := hsm
          clear hsm
          by_cases hjl : j < ps.length
          · obtain ⟨pb, po, rfl, hpb, hpcell⟩ := HPC.out (by intro h; rw [h] at hjl; simp at hjl)
            have hcj := hpcell j hjl
            obtain ⟨x, hx⟩ : ∃ x, x = ps.getD j 0 := ⟨_, rfl⟩
            rw [← hx] at hcj
            have HXJ : Hid (x = ps.getD j 0) := hx
            have hji : (j : Int) < (ps.length : Int) := by omega
            clear hpcell hx
            by_cases hkx : (k : Int) ≤ x
            · have hbad : Fl.bad ns k = true := by
                have h1 : (prem (Fl.nth ns k)).any (fun p => decide ((k : Int) ≤ p)) = true := by
                  rw [HPS.out, List.any_eq_true]; exact ⟨x, by rw [HXJ.out]; exact getD_mem hjl, by simpa using hkx⟩
                simp [Fl.bad, h1]
              have HF : Hid (Fl.shaped ns = (k : Int)) := by unfold Fl.shaped; rw [Fl.find_first _ _ k HN.out hlt hbad]; rfl
              clear hbad
              go_wp2
              go_ret
              exact ⟨ret_int HF.out.symm, hbw2⟩
            · go_wp2
              go_round
              case rel => exact ⟨j + 1, by omega, by go_num, fun t ht => by
                by_cases h : t < j
                · exact HSM.out t h
                · have : t = j := by omega
                  subst this; rw [← HXJ.out]; omega⟩
              case measure => simp [intOf]; omega
          · have hany : (prem (Fl.nth ns k)).any (fun p => decide ((k : Int) ≤ p)) = false := by
              rw [HPS.out, List.any_eq_false]; intro x hx
              obtain ⟨i, hi, rfl⟩ := List.getElem_of_mem hx
              have := HSM.out i (by omega)
              rw [List.getD_eq_getElem?_getD, List.getElem?_eq_getElem hi] at this
              simpa using this
            have HAN : Hid ((prem (Fl.nth ns k)).any (fun p => decide ((k : Int) ≤ p)) = false) := hany
            clear hany HSM HPC
            go_wp2
            go_loopw [7] (fun i wr => ∃ j : Nat, j ≤ k ∧ i = .int .i64 j ∧ (∀ t, t < j → Fl.eqNode (Fl.nth ns t) (Fl.nth ns k) = false) ∧ Below w.heap.size w wr) (fun i _ => k - (intOf i).toNat)
            case atStart => exact ⟨0, by omega, rfl, fun t ht => by omega, hbw2⟩
            case round =>
              clear hbw2
              obtain ⟨i, hi, rfl, hne, hb3⟩ := hrel
              have HNE : Hid (∀ t, t < i → Fl.eqNode (Fl.nth ns t) (Fl.nth ns k) = false) := hne
              clear hne
              have hs3 := hb3.size
              by_cases hik : i < k
              · obtain ⟨_, li, i0, i1, i2, i3, i4, i5, i6⟩ := (HX.out.below (hb3.mono hB)).at (show i < ns.length from by omega)
                obtain ⟨_, lk, k0, k1, k2, k3, k4, k5, k6⟩ := (HX.out.below (hb3.mono hB)).at hlt
                have HE : Hid (∀ wz, Below B wr wz → Calls Tryz.prog 34 #[nodeV (Fl.nth ns i) li, nodeV (Fl.nth ns k) lk] wz fun e w' => e = .returned (.bool (Fl.eqNode (Fl.nth ns i) (Fl.nth ns k))) ∧ Below wz.heap.size wz w') :=
                  fun wz hz => equal_any _ _ _ _ B _ (by have := hz.size; omega) (i0.below hz) (k0.below hz)
                clear i0 k0
                have hii : (i : Int) < (k : Int) := by omega
                have hil : (i : Int) < (ns.length : Int) := by omega
                have hkl : (k : Int) < (ns.length : Int) := by omega
                by_cases heq : Fl.eqNode (Fl.nth ns i) (Fl.nth ns k) = true
                · rw [heq] at HE
                  have hbad : Fl.bad ns k = true := by
                    have h2 : (List.range k).any (fun i => Fl.eqNode (Fl.nth ns i) (Fl.nth ns k)) = true := by
                      rw [List.any_eq_true]; exact ⟨i, by simpa using hik, heq⟩
                    simp [Fl.bad, h2]
                  have HF : Hid (Fl.shaped ns = (k : Int)) := by unfold Fl.shaped; rw [Fl.find_first _ _ k HN.out hlt hbad]; rfl
                  clear hbad heq
                  go_wp2_with fail
                  go_region_with (go_at_call 34; refine (HE.out _ (Below.refl _ _).drew).mono ?_; rintro e w4 ⟨rfl, hb4⟩)
                  all_goals
                    go_wp2
                    go_ret
                    exact ⟨ret_int HF.out.symm, hb3.trans ((Below.refl _ _).drew.trans (hb4.mono hs3))⟩
                · have heq' : Fl.eqNode (Fl.nth ns i) (Fl.nth ns k) = false := by simpa using heq
                  rw [heq'] at HE
                  have HEQ : Hid (Fl.eqNode (Fl.nth ns i) (Fl.nth ns k) = false) := heq'
                  clear heq heq'
                  go_wp2_with fail
                  go_region_with (go_at_call 34; refine (HE.out _ (Below.refl _ _).drew).mono ?_; rintro e w4 ⟨rfl, hb4⟩)
                  all_goals
                    go_wp2
                    go_roundw
                    case rel => exact ⟨i + 1, by omega, by go_num, fun t ht => by
                      by_cases h : t < i
                      · exact HNE.out t h
                      · have : t = i := by omega
                        subst this; exact HEQ.out, hb3.trans ((Below.refl _ _).drew.trans (hb4.mono hs3))⟩
                    case measure => simp [intOf]; omega
              · have hbad : Fl.bad ns k = false := by
                  have h2 : (List.range k).any (fun i => Fl.eqNode (Fl.nth ns i) (Fl.nth ns k)) = false := by
                    rw [List.any_eq_false]; intro x hx; rw [HNE.out x (by simp at hx; omega)]; simp
                  simp [Fl.bad, HSD.out, HAN.out, h2]
                have HBF : Hid (Fl.bad ns k = false) := hbad
                clear hbad
                go_wp2
                go_roundw
                case rel => exact ⟨k + 1, by omega, by go_num, fun j hj => by
                  by_cases h : j < k
                  · exact HN.out j h
                  · have : j = k := by omega
                    subst this; exact HBF.out, hb3⟩
                case measure => simp [intOf]; omega
      · have hsf : Fl.sound (Fl.nth ns k) = false := by simpa using hsd
        rw [hsf]
        have hbad : Fl.bad ns k = true := by simp [Fl.bad, hsf]
        have hfin : Fl.shaped ns = (k : Int) := by unfold Fl.shaped; rw [Fl.find_first _ _ k HN.out hlt hbad]
        have HF : Hid (Fl.shaped ns = (k : Int)) := hfin
        clear hsd hsf hbad hfin
        go_wp2
        go_ret
        exact ⟨ret_int HF.out.symm, hbw1⟩
    · have hnone : (List.range ns.length).find? (Fl.bad ns) = none := Fl.find_none _ _ (fun j hj => HN.out j (by omega))
      have HNO : Hid ((List.range ns.length).find? (Fl.bad ns) = none) := hnone
      clear hnone HN
      go_wp2
      go_loopw [9] (fun i wr => ∃ k : Nat, (k = 0 ∨ k + 1 ≤ ns.length) ∧ i = .int .i64 k ∧ (∀ j, j < k → (!Fl.used ns j) = false) ∧ Below w.heap.size w wr) (fun i _ => ns.length - (intOf i).toNat)
      case atStart => exact ⟨0, Or.inl rfl, rfl, fun j hj => by omega, hbr⟩
      case round =>
        clear hbr hk hlt
        rename_i kk0 _ _
        obtain ⟨k2, hk2, rfl, hus, hb4⟩ := hrel
        have HUS : Hid (∀ j, j < k2 → (!Fl.used ns j) = false) := hus
        clear hus
        have hs4 := hb4.size
        by_cases hkl : (k2 : Int) < (ns.length : Int) - 1
        · go_wp2
          go_loopw [10, 11] (fun u i wr => ∃ j : Nat, k2 < j ∧ j ≤ ns.length ∧ i = .int .i64 j ∧ u = .bool (usedTo ns k2 j) ∧ Below w.heap.size w wr) (fun _ i _ => ns.length - (intOf i).toNat)
          case atStart => exact ⟨k2 + 1, by omega, by omega, by go_num, by rw [usedTo_start], hb4⟩
          case round =>
            clear hb4
            obtain ⟨j, hj1, hj2, rfl, rfl, hb5⟩ := hrel
            have hs5 := hb5.size
            by_cases hjl : j < ns.length
            · obtain ⟨b, off, rfl⟩ : ∃ b off, ao = some ⟨b, off, none⟩ := by
                obtain ⟨ao', cap', hv', _, _, hx'⟩ := HX.out
                obtain ⟨b, off, ha, _⟩ := hx' (by intro h; rw [h] at hjl; simp at hjl)
                simp only [Value.slice.injEq] at hv'
                exact ⟨b, off, hv'.1.trans ha⟩
              obtain ⟨hbB, lv, h0, h1, h2, h3, h4, h5, h6⟩ := (HX.out.below (hb5.mono hB)).at hjl
              have HP : Hid (Calls Tryz.prog 32 #[nodeV (Fl.nth ns j) lv] wr fun e w' => ∃ v, e = .returned v ∧ IntsAt w'.heap.size w' v (prem (Fl.nth ns j)) ∧ Below wr.heap.size wr w') := premises_any _ _ B _ (by omega) h0
              clear h0
              have hji : (j : Int) < (ns.length : Int) := by omega
              have hus : usedTo ns k2 (j + 1) = (usedTo ns k2 j || (prem (Fl.nth ns j)).any (· == (k2 : Int))) := usedTo_succ ns k2 j hj1
              generalize hu0 : usedTo ns k2 j = u0 at *
              go_wp2_with fail
              refine (HP.out).mono ?_
              rintro e w6 ⟨pv, rfl, hpi, hb6⟩
              clear HP h1 h2 h3 h4 h5 h6 hu0
              have hbw6 : Below w.heap.size w w6 := hb5.trans (hb6.mono hs5)
              obtain ⟨pao, pcap, rfl, _, hpm, hpc⟩ := hpi
              generalize hps : prem (Fl.nth ns j) = ps at *
              have HUU : Hid (usedTo ns k2 (j + 1) = (u0 || ps.any (· == (k2 : Int)))) := hus
              have HPC : Hid (ps ≠ [] → ∃ b off, pao = some ⟨b, off, none⟩ ∧ b < w6.heap.size ∧ ∀ i, i < ps.length → w6.cell? ⟨b, off + i, none⟩ = some (.int .i64 (ps.getD i 0))) := hpc
              clear hps hpc hb6 hb5 hus
              unfold maxLen at hpm
              go_wp2
              go_loop [10, 13] (fun u i => ∃ t : Nat, t ≤ ps.length ∧ i = .int .i64 t ∧ u = .bool (u0 || (ps.take t).any (· == (k2 : Int)))) (fun _ i => ps.length - (intOf i).toNat)
              case atStart => exact ⟨0, by omega, rfl, by simp⟩
              case round =>
                obtain ⟨t, ht, rfl, rfl⟩ := hrel
                by_cases htl : t < ps.length
                · obtain ⟨pb, po, rfl, hpb, hpcell⟩ := HPC.out (by intro h; rw [h] at htl; simp at htl)
                  have hcj := hpcell t htl
                  have hsn : (ps.take (t + 1)).any (· == (k2 : Int)) = ((ps.take t).any (· == (k2 : Int)) || (ps.getD t 0 == (k2 : Int))) := by
                    rw [Fl.take_snocI _ t htl, List.any_append]; simp
                  have HSN : Hid ((ps.take (t + 1)).any (· == (k2 : Int)) = ((ps.take t).any (· == (k2 : Int)) || (ps.getD t 0 == (k2 : Int)))) := hsn
                  obtain ⟨x, hx⟩ : ∃ x, x = ps.getD t 0 := ⟨_, rfl⟩
                  rw [← hx] at hcj
                  have HXJ : Hid (x = ps.getD t 0) := hx
                  have hti : (t : Int) < (ps.length : Int) := by omega
                  clear hpcell hx hsn
                  generalize hac : (u0 || (ps.take t).any (· == (k2 : Int))) = acc at *
                  have HAC : Hid ((u0 || (ps.take t).any (· == (k2 : Int))) = acc) := hac
                  clear hac
                  cases acc
                  · go_wp2
                    go_round
                    case rel => exact ⟨t + 1, by omega, by go_num, by rw [HSN.out, ← Bool.or_assoc, HAC.out, ← HXJ.out]; simp⟩
                    case measure => simp [intOf]; omega
                  · go_wp2
                    go_round
                    case rel => exact ⟨t + 1, by omega, by go_num, by rw [HSN.out, ← Bool.or_assoc, HAC.out]; simp⟩
                    case measure => simp [intOf]; omega
                · have hall : ps.take t = ps := List.take_of_length_le (by omega)
                  have HAL : Hid (ps.take t = ps) := hall
                  clear hall HPC
                  go_wp2
                  go_roundw
                  case rel => exact ⟨j + 1, by omega, by omega, by go_num, by rw [HUU.out, HAL.out], hbw6⟩
                  case measure => simp [intOf]; omega
            · have hue : usedTo ns k2 j = Fl.used ns k2 := by have : j = ns.length := by omega
                                                              rw [this]; rfl
              generalize hu0 : usedTo ns k2 j = u0 at *
              have HUE : Hid (u0 = Fl.used ns k2) := hue
              clear hue hu0
              cases u0
              · have hfin : Fl.shaped ns = (k2 : Int) := by
                  unfold Fl.shaped; rw [HNO.out]; simp only
                  rw [Fl.find_first (fun k => !Fl.used ns k) _ k2 HUS.out (by omega) (by rw [← HUE.out]; rfl)]
                have HF : Hid (Fl.shaped ns = (k2 : Int)) := hfin
                clear hfin
                go_wp2
                go_ret
                exact ⟨ret_int HF.out.symm, hb5⟩
              · go_wp2
                go_roundw
                case rel => exact ⟨k2 + 1, Or.inr (by omega), by go_num, fun j hj => by
                  by_cases h : j < k2
                  · exact HUS.out j h
                  · have : j = k2 := by omega
                    subst this; rw [← HUE.out]; rfl, hb5⟩
                case measure => simp [intOf]; omega
        · have hfin : Fl.shaped ns = -1 := by
            unfold Fl.shaped; rw [HNO.out]; simp only
            rw [Fl.find_none (fun k => !Fl.used ns k) _ (fun j hj => HUS.out j (by omega))]
          have HF : Hid (Fl.shaped ns = -1) := hfin
          clear hfin
          go_wp2
          go_ret
          exact ⟨ret_int HF.out.symm, hb4⟩
end Go.Proofs.YtbihjgfbocpobaaGreatDoor

/- The reference's one. -/
set_option linter.unusedSimpArgs false
set_option linter.unusedVariables false
namespace Go.Proofs.YtbihjgfbocpobaaGreatDoor
open Go.RowKit

/-- What one answers. -/
def OneEnds (r : Fl.Node × Int × Int) (w : World) (e : Ending) (w' : World) : Prop :=
  Below w.heap.size w w' ∧ ∃ nv, e = .returned (.tuple #[nv, .int .i64 r.2.1, .int .i64 r.2.2]) ∧ (∃ nd ao n cap, nv = nodeV nd (.slice ao n cap)) ∧ (0 ≤ r.2.1 → ∃ lv, nv = nodeV r.1 lv ∧ IntsAt w'.heap.size w' lv r.1.list ∧ ∀ b, lv.ownBlock = some b → w.heap.size ≤ b)

theorem one_bad {w w' : World} {nv : Value} {b : Int} {r : Fl.Node × Int × Int} {e : Ending} (hr : r = (Fl.nd0, -1, b)) (he : e = .returned (.tuple #[nv, .int .i64 (-1), .int .i64 b])) (hv : ∃ nd ao n cap, nv = nodeV nd (.slice ao n cap)) (hb : Below w.heap.size w w') : OneEnds r w e w' := by
  subst hr; exact ⟨hb, nv, he, hv, fun h => absurd (show (0 : Int) ≤ -1 from h) (by decide)⟩

set_option maxRecDepth 100000 in
set_option maxHeartbeats 4000000 in
theorem one_end (s : ByteArray) (k : Nat) (w : World) (hs : s.size ≤ 4611686018427387904) :
    Calls Tryz.prog 17 #[.string s, .int .i64 s.size, .int .i64 k] w fun e w' => OneEnds (Fl.nd0, -1, (s.size : Int)) w e w' := by
  have b1 : ((s.size : Int) == (s.size : Int)) = true := by simp
  go_enter Tryz.func17, Tryz.ntmps17
  go_wp2
  exact bodyPost_ret (v := .tuple #[.agg #[.int .i64 0, .int .i64 0, .int .i64 0, .int .i64 0, .int .i64 0, .slice none 0 0], .int .i64 (-1), .int .i64 s.size]) (by simp [results, Tryz.results17, go_sem]) rfl (one_bad rfl rfl ⟨⟨_, _, _, _, _, []⟩, _, _, _, rfl⟩ (((Below.refl _ _).alloc (Nat.le_refl _) _).alloc (by simp) _))

theorem num_i (s : ByteArray) (q : Int) (w : World) (hs : s.size ≤ 4611686018427387904) (h0 : 0 ≤ q) (hq : q ≤ s.size) (v n b : Int) (h : Fl.num s.toList q.toNat = (v, n, b)) :
    Calls Tryz.prog 15 #[.string s, .int .i64 q] w fun e w' => e = .returned (.tuple #[.int .i64 v, .int .i64 n, .int .i64 b]) ∧ w' = w := by
  obtain ⟨m, rfl⟩ := Int.eq_ofNat_of_zero_le h0
  exact num_l s m w hs (by omega) v n b (by simpa using h)
theorem nums_i (s : ByteArray) (q m : Int) (w : World) (hs : s.size ≤ 4611686018427387904) (h0 : 0 ≤ q) (hq : q ≤ s.size) (hm0 : 0 ≤ m) (hm : m ≤ 1000) (l : List Int) (n b : Int) (h : Fl.nums s.toList q.toNat m.toNat = (l, n, b)) :
    Calls Tryz.prog 16 #[.string s, .int .i64 q, .int .i64 m] w fun e w' => ∃ v, e = .returned (.tuple #[v, .int .i64 n, .int .i64 b]) ∧ w'.ownsRow w.heap.size 3 1 v l.length (l.map (Value.int .i64)) ∧ Below w.heap.size w w' := by
  obtain ⟨q, rfl⟩ := Int.eq_ofNat_of_zero_le h0
  obtain ⟨m, rfl⟩ := Int.eq_ofNat_of_zero_le hm0
  have := nums_walk s q m w hs (by omega) (by omega)
  rw [show Fl.nums s.toList q m = (l, n, b) from by simpa using h] at this
  exact this

set_option maxRecDepth 100000 in
set_option maxHeartbeats 4000000 in
theorem one_kind (s : ByteArray) (p k : Nat) (w : World) (hs : s.size ≤ 4611686018427387904) (hp : p < s.size)
    (H : Hid (∀ w, Calls Tryz.prog 21 #[.int .i64 s[p].toNat] w fun e w' => e = .returned (.int .i64 (-2)) ∧ w' = w)) :
    Calls Tryz.prog 17 #[.string s, .int .i64 p, .int .i64 k] w fun e w' => OneEnds (Fl.nd0, -1, (p : Int)) w e w' := by
  have b1 : ((p : Int) == (s.size : Int)) = false := beq_eq_false_iff_ne.2 (by omega)
  have hc : s[p].toNat < 256 := s[p].toNat_lt
  go_enter Tryz.func17, Tryz.ntmps17
  go_wp2_with (go_at_call 21; refine (H.out _).mono ?_; rintro e w' ⟨rfl, rfl⟩)
  exact bodyPost_ret (v := .tuple #[.agg #[.int .i64 s[p].toNat, .int .i64 0, .int .i64 0, .int .i64 0, .int .i64 0, .slice none 0 0], .int .i64 (-1), .int .i64 p]) (by simp [results, Tryz.results17, go_sem]) rfl (one_bad rfl rfl ⟨⟨_, _, _, _, _, []⟩, _, _, _, rfl⟩ (((Below.refl _ _).alloc (Nat.le_refl _) _).alloc (by simp) _))

set_option maxRecDepth 100000 in
set_option maxHeartbeats 4000000 in
theorem one_lev (s : ByteArray) (p k : Nat) (F v n b : Int) (w : World) (hs : s.size ≤ 4611686018427387904) (hp : p < s.size) (hF : F ≠ -2) (hn : n < 0)
    (H : Hid (∀ w, Calls Tryz.prog 21 #[.int .i64 s[p].toNat] w fun e w' => e = .returned (.int .i64 F) ∧ w' = w))
    (H1 : Hid (∀ w, Calls Tryz.prog 15 #[.string s, .int .i64 ((p : Int) + 1)] w fun e w' => e = .returned (.tuple #[.int .i64 v, .int .i64 n, .int .i64 b]) ∧ w' = w)) :
    Calls Tryz.prog 17 #[.string s, .int .i64 p, .int .i64 k] w fun e w' => OneEnds (Fl.nd0, -1, b) w e w' := by
  have b1 : ((p : Int) == (s.size : Int)) = false := beq_eq_false_iff_ne.2 (by omega)
  have b2 : (F == -2) = false := beq_eq_false_iff_ne.2 hF
  have hc : s[p].toNat < 256 := s[p].toNat_lt
  clear hF
  go_enter Tryz.func17, Tryz.ntmps17
  go_wp2_with (first | (go_at_call 21; refine (H.out _).mono ?_; rintro e w' ⟨rfl, rfl⟩) | (go_at_call 15; refine (H1.out _).mono ?_; rintro e w' ⟨rfl, rfl⟩))
  exact bodyPost_ret (v := .tuple #[.agg #[.int .i64 s[p].toNat, .int .i64 0, .int .i64 0, .int .i64 0, .int .i64 0, .slice none 0 0], .int .i64 (-1), .int .i64 b]) (by simp [results, Tryz.results17, go_sem]) rfl (one_bad rfl rfl ⟨⟨_, _, _, _, _, []⟩, _, _, _, rfl⟩ (((Below.refl _ _).alloc (Nat.le_refl _) _).alloc (by simp) _))

set_option maxRecDepth 100000 in
set_option maxHeartbeats 4000000 in
theorem one_cnt (s : ByteArray) (p k : Nat) (v n b v2 n2 b2 r : Int) (w : World) (hs : s.size ≤ 4611686018427387904) (hp : p < s.size) (hn : ¬ n < 0) (hn2 : (n2 < 0 ∧ r = b2) ∨ (¬ n2 < 0 ∧ 16 < v2 ∧ r = n))
    (H : Hid (∀ w, Calls Tryz.prog 21 #[.int .i64 s[p].toNat] w fun e w' => e = .returned (.int .i64 (-1)) ∧ w' = w))
    (H1 : Hid (∀ w, Calls Tryz.prog 15 #[.string s, .int .i64 ((p : Int) + 1)] w fun e w' => e = .returned (.tuple #[.int .i64 v, .int .i64 n, .int .i64 b]) ∧ w' = w))
    (H2 : Hid (∀ w, Calls Tryz.prog 15 #[.string s, .int .i64 n] w fun e w' => e = .returned (.tuple #[.int .i64 v2, .int .i64 n2, .int .i64 b2]) ∧ w' = w)) :
    Calls Tryz.prog 17 #[.string s, .int .i64 p, .int .i64 k] w fun e w' => OneEnds (Fl.nd0, -1, r) w e w' := by
  have b1 : ((p : Int) == (s.size : Int)) = false := beq_eq_false_iff_ne.2 (by omega)
  have hc : s[p].toNat < 256 := s[p].toNat_lt
  rcases hn2 with ⟨hn2, rfl⟩ | ⟨hn2, hv2, rfl⟩
  · go_enter Tryz.func17, Tryz.ntmps17
    go_wp2_with (go_at_call 21; refine (H.out _).mono ?_; rintro e w' ⟨rfl, rfl⟩)
    refine (H1.out _).mono ?_; rintro e w' ⟨rfl, rfl⟩
    go_wp2_with fail
    refine (H2.out _).mono ?_; rintro e w' ⟨rfl, rfl⟩
    go_wp2
    exact bodyPost_ret (v := .tuple #[.agg #[.int .i64 s[p].toNat, .int .i64 v, .int .i64 0, .int .i64 0, .int .i64 0, .slice none 0 0], .int .i64 (-1), .int .i64 r]) (by simp [results, Tryz.results17, go_sem]) rfl (one_bad rfl rfl ⟨⟨_, _, _, _, _, []⟩, _, _, _, rfl⟩ (((Below.refl _ _).alloc (Nat.le_refl _) _).alloc (by simp) _))
  · go_enter Tryz.func17, Tryz.ntmps17
    go_wp2_with (go_at_call 21; refine (H.out _).mono ?_; rintro e w' ⟨rfl, rfl⟩)
    refine (H1.out _).mono ?_; rintro e w' ⟨rfl, rfl⟩
    go_wp2_with fail
    refine (H2.out _).mono ?_; rintro e w' ⟨rfl, rfl⟩
    go_wp2
    exact bodyPost_ret (v := .tuple #[.agg #[.int .i64 s[p].toNat, .int .i64 v, .int .i64 0, .int .i64 0, .int .i64 0, .slice none 0 0], .int .i64 (-1), .int .i64 r]) (by simp [results, Tryz.results17, go_sem]) rfl (one_bad rfl rfl ⟨⟨_, _, _, _, _, []⟩, _, _, _, rfl⟩ (((Below.refl _ _).alloc (Nat.le_refl _) _).alloc (by simp) _))
end Go.Proofs.YtbihjgfbocpobaaGreatDoor

/- The reference's one, of a Block. -/
set_option linter.unusedSimpArgs false
set_option linter.unusedVariables false
namespace Go.Proofs.YtbihjgfbocpobaaGreatDoor
open Go.RowKit

theorem cell_self {W : World} {a : Addr} {o v : Value} (h : W.cell? a = some o) : (W.setCell a v).cell? a = some v := World.cell?_setCell_same' W a v (by simp [h])
theorem cell_off {W : World} {B i j : Nat} {v : Value} (h : i ≠ j) : (W.setCell ⟨B, j, none⟩ v).cell? ⟨B, i, none⟩ = W.cell? ⟨B, i, none⟩ := by
  apply World.cell?_setCell_other; intro hh; apply h; injection hh with _ h2; exact h2.symm
theorem six_same {w1 : World} {B : Nat} (v0 v1 v2 v3 v4 v5 : Value) {o0 o1 o2 o3 o4 o5 : Value} (h0 : w1.cell? ⟨B, 0, none⟩ = some o0) (h1 : w1.cell? ⟨B, 1, none⟩ = some o1) (h2 : w1.cell? ⟨B, 2, none⟩ = some o2) (h3 : w1.cell? ⟨B, 3, none⟩ = some o3) (h4 : w1.cell? ⟨B, 4, none⟩ = some o4) (h5 : w1.cell? ⟨B, 5, none⟩ = some o5) :
    (w1.setCell ⟨B, 0, none⟩ v0).cell? ⟨B, 0, none⟩ = some v0 ∧ ((w1.setCell ⟨B, 0, none⟩ v0).setCell ⟨B, 1, none⟩ v1).cell? ⟨B, 1, none⟩ = some v1 ∧ (((w1.setCell ⟨B, 0, none⟩ v0).setCell ⟨B, 1, none⟩ v1).setCell ⟨B, 2, none⟩ v2).cell? ⟨B, 2, none⟩ = some v2 ∧ ((((w1.setCell ⟨B, 0, none⟩ v0).setCell ⟨B, 1, none⟩ v1).setCell ⟨B, 2, none⟩ v2).setCell ⟨B, 3, none⟩ v3).cell? ⟨B, 3, none⟩ = some v3 ∧ (((((w1.setCell ⟨B, 0, none⟩ v0).setCell ⟨B, 1, none⟩ v1).setCell ⟨B, 2, none⟩ v2).setCell ⟨B, 3, none⟩ v3).setCell ⟨B, 4, none⟩ v4).cell? ⟨B, 4, none⟩ = some v4 ∧ ((((((w1.setCell ⟨B, 0, none⟩ v0).setCell ⟨B, 1, none⟩ v1).setCell ⟨B, 2, none⟩ v2).setCell ⟨B, 3, none⟩ v3).setCell ⟨B, 4, none⟩ v4).setCell ⟨B, 5, none⟩ v5).cell? ⟨B, 5, none⟩ = some v5 := by
  refine ⟨cell_self h0, cell_self (o := o1) ?_, cell_self (o := o2) ?_, cell_self (o := o3) ?_, cell_self (o := o4) ?_, cell_self (o := o5) ?_⟩ <;> repeat (rw [cell_off (by decide)])
  all_goals assumption

theorem six_below {B : Nat} {w w1 : World} {v0 v1 v2 v3 v4 v5 : Value} (h : Below B w w1) :
    Below B w ((((((w1.setCell ⟨B, 0, none⟩ v0).setCell ⟨B, 1, none⟩ v1).setCell ⟨B, 2, none⟩ v2).setCell ⟨B, 3, none⟩ v3).setCell ⟨B, 4, none⟩ v4).setCell ⟨B, 5, none⟩ v5) :=
  (((((h.setCell (Nat.le_refl _) _).setCell (Nat.le_refl _) _).setCell (Nat.le_refl _) _).setCell (Nat.le_refl _) _).setCell (Nat.le_refl _) _).setCell (Nat.le_refl _) _

set_option maxRecDepth 100000 in
set_option maxHeartbeats 4000000 in
theorem one_lbad (s : ByteArray) (p k : Nat) (v n b v2 n2 b2 n3 b3 : Int) (w : World) (hs : s.size ≤ 4611686018427387904) (hp : p < s.size) (hn : ¬ n < 0) (hn2 : ¬ n2 < 0) (hv2 : ¬ 16 < v2) (hn3 : n3 < 0)
    (H : Hid (∀ w, Calls Tryz.prog 21 #[.int .i64 s[p].toNat] w fun e w' => e = .returned (.int .i64 (-1)) ∧ w' = w))
    (H1 : Hid (∀ w, Calls Tryz.prog 15 #[.string s, .int .i64 ((p : Int) + 1)] w fun e w' => e = .returned (.tuple #[.int .i64 v, .int .i64 n, .int .i64 b]) ∧ w' = w))
    (H2 : Hid (∀ w, Calls Tryz.prog 15 #[.string s, .int .i64 n] w fun e w' => e = .returned (.tuple #[.int .i64 v2, .int .i64 n2, .int .i64 b2]) ∧ w' = w))
    (H3 : Hid (∀ w, Calls Tryz.prog 16 #[.string s, .int .i64 n2, .int .i64 v2] w fun e w' => ∃ lv, e = .returned (.tuple #[lv, .int .i64 n3, .int .i64 b3]) ∧ Below w.heap.size w w')) :
    Calls Tryz.prog 17 #[.string s, .int .i64 p, .int .i64 k] w fun e w' => OneEnds (Fl.nd0, -1, b3) w e w' := by
  have b1 : ((p : Int) == (s.size : Int)) = false := beq_eq_false_iff_ne.2 (by omega)
  have hc : s[p].toNat < 256 := s[p].toNat_lt
  go_enter Tryz.func17, Tryz.ntmps17
  go_wp2_with (go_at_call 21; refine (H.out _).mono ?_; rintro e w' ⟨rfl, rfl⟩)
  refine (H1.out _).mono ?_; rintro e w' ⟨rfl, rfl⟩
  go_wp2_with fail
  refine (H2.out _).mono ?_; rintro e w' ⟨rfl, rfl⟩
  go_wp2_with fail
  refine (H3.out _).mono ?_; rintro e w1 ⟨lv, rfl, hb1⟩
  obtain ⟨hcB, hfB⟩ := bcell hb1
  simp only [World.size_alloc] at hcB hfB
  have hz : w.heap.size + 1 < w1.heap.size := by have := hb1.size; simp at this; omega
  obtain ⟨q0, q1, q2, q3, q4, q5⟩ := six_same (w1 := w1) (B := w.heap.size) (o0 := .int .i64 0) (o1 := .int .i64 0) (o2 := .int .i64 0) (o3 := .int .i64 0) (o4 := .int .i64 0) (o5 := .slice none 0 0) (.int .i64 s[p].toNat) (.int .i64 v) (.int .i64 0) (.int .i64 0) (.int .i64 0) (.slice none 0 0) (by rw [hcB _ _ (by omega)]; simp) (by rw [hcB _ _ (by omega)]; simp) (by rw [hcB _ _ (by omega)]; simp) (by rw [hcB _ _ (by omega)]; simp) (by rw [hcB _ _ (by omega)]; simp) (by rw [hcB _ _ (by omega)]; simp)
  go_wp2
  exact bodyPost_ret (v := .tuple #[.agg #[.int .i64 s[p].toNat, .int .i64 v, .int .i64 0, .int .i64 0, .int .i64 0, .slice none 0 0], .int .i64 (-1), .int .i64 b3]) (by simp [results, Tryz.results17, go_sem, q0, q1, q2, q3, q4, q5]) rfl (one_bad rfl rfl ⟨⟨_, _, _, _, _, []⟩, _, _, _, rfl⟩ (six_below ((((Below.refl _ _).alloc (Nat.le_refl _) _).alloc (by simp) _).trans (hb1.mono (by simp; omega)))))
end Go.Proofs.YtbihjgfbocpobaaGreatDoor

/- The reference's one, of a Block, read to its end. -/
set_option linter.unusedSimpArgs false
set_option linter.unusedVariables false
namespace Go.Proofs.YtbihjgfbocpobaaGreatDoor
open Go.RowKit

theorem own_below {w w' : World} {base : Nat} {e : TypeId} {size : Nat} {v : Value} {n : Nat} {xs : List Value} (h : w.ownsRow base e size v n xs) (hb : Below w.heap.size w w') : w'.ownsRow base e size v n xs :=
  h.kept (row := none) ⟨hb.os, hb.tape, hb.output, hb.size, fun k hk _ => hb.block k hk⟩ (by cases v.ownBlock <;> simp)
theorem own_six {w1 : World} {base : Nat} {e : TypeId} {size : Nat} {v : Value} {n : Nat} {xs : List Value} {B : Nat} {v0 v1 v2 v3 v4 v5 : Value} (h : w1.ownsRow base e size v n xs) (hB : B < base) :
    ((((((w1.setCell ⟨B, 0, none⟩ v0).setCell ⟨B, 1, none⟩ v1).setCell ⟨B, 2, none⟩ v2).setCell ⟨B, 3, none⟩ v3).setCell ⟨B, 4, none⟩ v4).setCell ⟨B, 5, none⟩ v5).ownsRow base e size v n xs :=
  ownsRow_setCell_below (ownsRow_setCell_below (ownsRow_setCell_below (ownsRow_setCell_below (ownsRow_setCell_below (ownsRow_setCell_below h hB _) hB _) hB _) hB _) hB _) hB _
theorem own_shape {w : World} {base : Nat} {e : TypeId} {v : Value} {n : Nat} {xs : List Value} (h : w.ownsRow base e 1 v n xs) : ∃ ao cap, v = .slice ao n cap := by
  rcases h.2 with ⟨rfl, rfl⟩ | ⟨g, cap, cur, rfl, _⟩
  · exact ⟨_, _, rfl⟩
  · exact ⟨_, _, rfl⟩
theorem one_good {w w' : World} {nv lv : Value} {r : Fl.Node × Int × Int} {nd : Fl.Node} {x : Int} {e : Ending} (hr : r = (nd, x, 0)) (he : e = .returned (.tuple #[nv, .int .i64 x, .int .i64 0])) (hnv : nv = nodeV nd lv) (hl : IntsAt w'.heap.size w' lv nd.list) (hf : ∀ b, lv.ownBlock = some b → w.heap.size ≤ b) (hb : Below w.heap.size w w') : OneEnds r w e w' := by
  subst hr
  have hl2 := hl
  obtain ⟨ao, cap, hlv, _⟩ := hl2
  exact ⟨hb, nv, he, ⟨nd, ao, _, cap, by rw [hnv, hlv]⟩, fun _ => ⟨lv, hnv, hl, hf⟩⟩

set_option maxRecDepth 100000 in
set_option maxHeartbeats 8000000 in
theorem one_list (s : ByteArray) (p k : Nat) (v n b v2 n2 b2 n3 b3 : Int) (l : List Int) (w : World) (hn2 : ¬ n2 < 0) (hv2 : ¬ 16 < v2) (hn3 : ¬ n3 < 0) (hll : l.length ≤ 16) (hs : s.size ≤ 4611686018427387904) (hp : p < s.size) (hn : ¬ n < 0)
    (H1 : Hid (∀ w, Calls Tryz.prog 15 #[.string s, .int .i64 ((p : Int) + 1)] w fun e w' => e = .returned (.tuple #[.int .i64 v, .int .i64 n, .int .i64 b]) ∧ w' = w))
    (H : Hid (∀ w, Calls Tryz.prog 21 #[.int .i64 s[p].toNat] w fun e w' => e = .returned (.int .i64 (-1)) ∧ w' = w))
    (H2 : Hid (∀ w, Calls Tryz.prog 15 #[.string s, .int .i64 n] w fun e w' => e = .returned (.tuple #[.int .i64 v2, .int .i64 n2, .int .i64 b2]) ∧ w' = w))
    (H3 : Hid (∀ w, Calls Tryz.prog 16 #[.string s, .int .i64 n2, .int .i64 v2] w fun e w' => ∃ lv, e = .returned (.tuple #[lv, .int .i64 n3, .int .i64 b3]) ∧ w'.ownsRow w.heap.size 3 1 lv l.length (l.map (Value.int .i64)) ∧ Below w.heap.size w w')) :
    Calls Tryz.prog 17 #[.string s, .int .i64 p, .int .i64 k] w fun e w' => OneEnds (Fl.oneFin p k ⟨s[p].toNat, v, 0, 0, 0, l⟩ n3) w e w' := by
  have b1 : ((p : Int) == (s.size : Int)) = false := beq_eq_false_iff_ne.2 (by omega)
  have hc : s[p].toNat < 256 := s[p].toNat_lt
  go_enter Tryz.func17, Tryz.ntmps17
  go_wp2_with (go_at_call 21; refine (H.out _).mono ?_; rintro e w' ⟨rfl, rfl⟩)
  refine (H1.out _).mono ?_; rintro e w' ⟨rfl, rfl⟩
  go_wp2_with fail
  refine (H2.out _).mono ?_; rintro e w' ⟨rfl, rfl⟩
  go_wp2_with fail
  refine (H3.out _).mono ?_; rintro e w1 ⟨lv, rfl, hown, hb1⟩
  obtain ⟨hcB, hfB⟩ := bcell hb1
  simp only [World.size_alloc] at hcB hfB hown
  have hz : w.heap.size + 1 < w1.heap.size := by have := hb1.size; simp at this; omega
  have hbw1 : Below w.heap.size w w1 := (((Below.refl _ _).alloc (Nat.le_refl _) _).alloc (by simp) _).trans (hb1.mono (by simp; omega))
  have HOS : Hid ((w1.setCell ⟨w.heap.size + 1, 5, none⟩ lv).ownsRow (w.heap.size + 1 + 1) 3 1 lv l.length (l.map (Value.int .i64))) := ownsRow_setCell_below hown (by simp) _
  obtain ⟨lao, lcap, rfl⟩ := own_shape hown
  have HP : Hid (Calls Tryz.prog 32 #[nodeV ⟨s[p].toNat, v, 0, 0, 0, l⟩ (.slice lao l.length lcap)] (w1.setCell ⟨w.heap.size + 1, 5, none⟩ (.slice lao l.length lcap)) fun e w' => ∃ pv, e = .returned pv ∧ IntsAt w'.heap.size w' pv (prem ⟨s[p].toNat, v, 0, 0, 0, l⟩) ∧ Below (w1.setCell ⟨w.heap.size + 1, 5, none⟩ (.slice lao l.length lcap)).heap.size (w1.setCell ⟨w.heap.size + 1, 5, none⟩ (.slice lao l.length lcap)) w') :=
    premises_any _ _ _ _ (Nat.le_refl _) (IntsAt.of_own HOS.out)
  have HW1 : Hid (Below w.heap.size w (w1.setCell ⟨w.heap.size + 1, 5, none⟩ (.slice lao l.length lcap))) := hbw1.setCell (by simp) _
  have g0 : (w1.setCell ⟨w.heap.size + 1, 5, none⟩ (.slice lao l.length lcap)).cell? ⟨w.heap.size + 1, 5, none⟩ = some (.slice lao l.length lcap) := cell_self (o := .slice none 0 0) (by rw [hcB _ _ (by omega)]; simp)
  clear hown hbw1
  go_wp2_with fail
  refine (HP.out).mono ?_; rintro e w2 ⟨pv, rfl, hpi, hb2⟩
  obtain ⟨hcC, hfC⟩ := bcell hb2
  have hsz2 : (w1.setCell ⟨w.heap.size + 1, 5, none⟩ (Value.slice lao l.length lcap)).heap.size = w1.heap.size := by simp [World.setCell]
  rw [hsz2] at hcC hfC
  have hz2 : w.heap.size + 1 < w2.heap.size := by have := hb2.size; rw [hsz2] at this; omega
  have hbw2 : Below w.heap.size w w2 := HW1.out.trans (hb2.mono (by rw [hsz2]; omega))
  have HO2 : Hid (w2.ownsRow (w.heap.size + 1 + 1) 3 1 (.slice lao l.length lcap) l.length (l.map (Value.int .i64))) := own_below HOS.out hb2
  have c0 : w2.cell? ⟨w.heap.size + 1, 0, none⟩ = some (.int .i64 s[p].toNat) := by rw [hcC _ _ (by omega), cell_off (by decide), hcB _ _ (by omega)]; simp
  have c1 : w2.cell? ⟨w.heap.size + 1, 1, none⟩ = some (.int .i64 v) := by rw [hcC _ _ (by omega), cell_off (by decide), hcB _ _ (by omega)]; simp
  have c2 : w2.cell? ⟨w.heap.size + 1, 2, none⟩ = some (.int .i64 0) := by rw [hcC _ _ (by omega), cell_off (by decide), hcB _ _ (by omega)]; simp
  have c3 : w2.cell? ⟨w.heap.size + 1, 3, none⟩ = some (.int .i64 0) := by rw [hcC _ _ (by omega), cell_off (by decide), hcB _ _ (by omega)]; simp
  have c4 : w2.cell? ⟨w.heap.size + 1, 4, none⟩ = some (.int .i64 0) := by rw [hcC _ _ (by omega), cell_off (by decide), hcB _ _ (by omega)]; simp
  have c5 : w2.cell? ⟨w.heap.size + 1, 5, none⟩ = some (.slice lao l.length lcap) := by rw [hcC _ _ (by omega)]; exact g0
  have hblk : ∀ j, j < 6 → (w1.setCell ⟨w.heap.size + 1, 5, none⟩ (Value.slice lao l.length lcap)).cell? ⟨w.heap.size, j, none⟩ = w1.cell? ⟨w.heap.size, j, none⟩ := fun j _ => by apply World.cell?_setCell_other; intro hh; injection hh with h2; omega
  have d0 : w2.cell? ⟨w.heap.size, 0, none⟩ = some (.int .i64 0) := by rw [hcC _ _ (by omega), hblk _ (by omega), hcB _ _ (by omega)]; simp
  have d1 : w2.cell? ⟨w.heap.size, 1, none⟩ = some (.int .i64 0) := by rw [hcC _ _ (by omega), hblk _ (by omega), hcB _ _ (by omega)]; simp
  have d2 : w2.cell? ⟨w.heap.size, 2, none⟩ = some (.int .i64 0) := by rw [hcC _ _ (by omega), hblk _ (by omega), hcB _ _ (by omega)]; simp
  have d3 : w2.cell? ⟨w.heap.size, 3, none⟩ = some (.int .i64 0) := by rw [hcC _ _ (by omega), hblk _ (by omega), hcB _ _ (by omega)]; simp
  have d4 : w2.cell? ⟨w.heap.size, 4, none⟩ = some (.int .i64 0) := by rw [hcC _ _ (by omega), hblk _ (by omega), hcB _ _ (by omega)]; simp
  have d5 : w2.cell? ⟨w.heap.size, 5, none⟩ = some (.slice none 0 0) := by rw [hcC _ _ (by omega), hblk _ (by omega), hcB _ _ (by omega)]; simp
  have hfr : ∀ j, w2.frozen? ⟨w.heap.size, j, none⟩ = false := fun j => by
    rw [hfC _ _ (by omega), World.frozen?_setCell, hfB _ _ (by omega)]; simp
  obtain ⟨q0, q1, q2, q3, q4, q5⟩ := six_same (w1 := w2) (B := w.heap.size) (.int .i64 s[p].toNat) (.int .i64 v) (.int .i64 0) (.int .i64 0) (.int .i64 0) (.slice lao l.length lcap) d0 d1 d2 d3 d4 d5
  obtain ⟨pao, pcap, rfl, _, hpm, hpc⟩ := hpi
  generalize hps : prem ⟨s[p].toNat, v, 0, 0, 0, l⟩ = ps at *
  have HPS : Hid (prem ⟨s[p].toNat, v, 0, 0, 0, l⟩ = ps) := hps
  have HPC : Hid (ps ≠ [] → ∃ b off, pao = some ⟨b, off, none⟩ ∧ b < w2.heap.size ∧ ∀ i, i < ps.length → w2.cell? ⟨b, off + i, none⟩ = some (.int .i64 (ps.getD i 0))) := hpc
  clear hps hpc hb2 hb1 hcB hfB hcC hfC HP g0 hblk HOS HW1
  unfold maxLen at hpm
  go_wp2
  go_loop [23] (fun i => ∃ j : Nat, j ≤ ps.length ∧ i = .int .i64 j ∧ ∀ t, t < j → ¬ (k : Int) ≤ ps.getD t 0) (fun i => ps.length - (intOf i).toNat)
  case atStart => exact ⟨0, by omega, rfl, fun t ht => by omega⟩
  case round =>
    obtain ⟨j, hj, rfl, hsm⟩ := hrel
    have HSM : Hid (∀ t, t < j → ¬ (k : Int) ≤ ps.getD t 0) := hsm
    clear hsm
    by_cases hjl : j < ps.length
    · obtain ⟨pb, po, rfl, hpb, hpcell⟩ := HPC.out (by intro h; rw [h] at hjl; simp at hjl)
      have hcj := hpcell j hjl
      obtain ⟨x, hx⟩ : ∃ x, x = ps.getD j 0 := ⟨_, rfl⟩
      rw [← hx] at hcj
      have HXJ : Hid (x = ps.getD j 0) := hx
      have hji : (j : Int) < (ps.length : Int) := by omega
      clear hpcell hx
      by_cases hkx : (k : Int) ≤ x
      · have hany : Fl.oneFin p k ⟨s[p].toNat, v, 0, 0, 0, l⟩ n3 = (Fl.nd0, -1, (p : Int)) := by
          unfold Fl.oneFin; rw [HPS.out, if_pos]
          rw [List.any_eq_true]; exact ⟨x, by rw [HXJ.out]; exact getD_mem hjl, by simpa using hkx⟩
        have HAN : Hid (Fl.oneFin p k ⟨s[p].toNat, v, 0, 0, 0, l⟩ n3 = (Fl.nd0, -1, (p : Int))) := hany
        clear hany
        go_wp2
        exact bodyPost_ret (v := .tuple #[.agg #[.int .i64 s[p].toNat, .int .i64 v, .int .i64 0, .int .i64 0, .int .i64 0, .slice lao l.length lcap], .int .i64 (-1), .int .i64 p]) (by simp [results, Tryz.results17, go_sem, q0, q1, q2, q3, q4, q5]) rfl (one_bad HAN.out rfl ⟨⟨_, _, _, _, _, []⟩, _, _, _, rfl⟩ (six_below hbw2))
      · go_wp2
        go_round
        case rel => exact ⟨j + 1, by omega, by go_num, fun t ht => by
          by_cases h : t < j
          · exact HSM.out t h
          · have : t = j := by omega
            subst this; rw [← HXJ.out]; omega⟩
        case measure => simp [intOf]; omega
    · have hany : Fl.oneFin p k ⟨s[p].toNat, v, 0, 0, 0, l⟩ n3 = (⟨s[p].toNat, v, 0, 0, 0, l⟩, n3, 0) := by
        unfold Fl.oneFin; rw [HPS.out, if_neg]
        rw [Bool.not_eq_true, List.any_eq_false]; intro x hx
        obtain ⟨i, hi, rfl⟩ := List.getElem_of_mem hx
        have := HSM.out i (by omega)
        rw [List.getD_eq_getElem?_getD, List.getElem?_eq_getElem hi] at this
        simpa using this
      have HAN : Hid (Fl.oneFin p k ⟨s[p].toNat, v, 0, 0, 0, l⟩ n3 = (⟨s[p].toNat, v, 0, 0, 0, l⟩, n3, 0)) := hany
      clear hany HSM HPC
      go_wp2
      exact bodyPost_ret (v := .tuple #[.agg #[.int .i64 s[p].toNat, .int .i64 v, .int .i64 0, .int .i64 0, .int .i64 0, .slice lao l.length lcap], .int .i64 n3, .int .i64 0]) (by simp [results, Tryz.results17, go_sem, q0, q1, q2, q3, q4, q5]) rfl (one_good HAN.out rfl rfl (IntsAt.of_own (own_six HO2.out (by omega))) (fun b hb => by have := (HO2.out.lt b hb).1; omega) (six_below hbw2))
end Go.Proofs.YtbihjgfbocpobaaGreatDoor
