/- Texts Cej Cek Lnp. -/
import Derived.Test.YtbihjgfbocpobaaGreatDoorM26
import Derived.Lib.SlBytesConst
/- The program: a proof's bytes are written. -/
set_option linter.unusedSimpArgs false
set_option linter.unusedVariables false
namespace Go.Proofs.YtbihjgfbocpobaaGreatDoor
open Go.RowKit

theorem ints_same {B : Nat} {w w' : World} {v : Value} {xs : List Int} (h : IntsAt B w v xs) (hc : ∀ b o, b < B → w'.cell? ⟨b, o, none⟩ = w.cell? ⟨b, o, none⟩) : IntsAt B w' v xs := by
  obtain ⟨ao, cap, hv, hc0, hl, hx⟩ := h
  refine ⟨ao, cap, hv, hc0, hl, fun hne => ?_⟩
  obtain ⟨b, off, ha, hbB, hcell⟩ := hx hne
  exact ⟨b, off, ha, hbB, fun i hi => (hc b _ hbB).trans (hcell i hi)⟩
theorem own_mono {w : World} {base base' : Nat} {e : TypeId} {size : Nat} {v : Value} {n : Nat} {xs : List Value} (h : w.ownsRow base e size v n xs) (hb : base' ≤ base) : w.ownsRow base' e size v n xs :=
  ⟨h.1, h.2.imp id (fun ⟨g, cap, cur, hv, hg, rest⟩ => ⟨g, cap, cur, hv, Nat.le_trans hb hg, rest⟩)⟩
theorem nodeBytes_num {nd : Fl.Node} {k lev : Nat} (hk : nd.kind = (k : Int)) (h8 : k < 8) (h7 : k ≠ 7) (hlev : nd.level = (lev : Int)) : Fl.nodeBytes nd = [UInt8.ofNat k] ++ (Fl.coded lev ++ Fl.codedAll ([nd.a, nd.b, nd.c].take (numF k))) := by
  unfold Fl.nodeBytes Fl.nodeNums
  rw [hk, hlev, fields_numF k h8 h7, if_neg (by omega), if_neg (by omega)]; simp
theorem nodeBytes_list {nd : Fl.Node} {lev : Nat} (hk : nd.kind = ((7 : Nat) : Int)) (hlev : nd.level = (lev : Int)) : Fl.nodeBytes nd = [UInt8.ofNat 7] ++ (Fl.coded lev ++ (Fl.coded nd.list.length ++ Fl.codedAll nd.list)) := by
  unfold Fl.nodeBytes Fl.nodeNums
  have : Fl.fields (((7 : Nat) : Int)) = -1 := by decide
  rw [hk, hlev, this]; simp

set_option maxRecDepth 100000 in
set_option maxHeartbeats 8000000 in
theorem write_any (ls : List Int) (ns : List Fl.Node) (la na : Option Addr) (lc nc B : Nat) (w : World) (hB : B ≤ w.heap.size) (hl : IntsAt B w (.slice la ls.length lc) ls) (hn : NodesAt B w (.slice na ns.length nc) ns) (h1 : ls.length ≤ 4) (hall : ls.all Fl.inR = true) (h2 : ns.length ≤ 200) (hsd : ∀ k, k < ns.length → Fl.sound (Fl.nth ns k) = true) :
    Calls Tryz.prog 59 #[.agg #[.slice la ls.length lc, .slice na ns.length nc]] w fun e w' => ∃ v', e = .returned v' ∧ w'.ownsRow w.heap.size 5 1 v' (Fl.headBytes ls ns ++ Fl.allBytes ns).length ((Fl.headBytes ls ns ++ Fl.allBytes ns).map bval) ∧ Below w.heap.size w w' := by
  obtain ⟨i0, hi, hz0, hz1, hz2⟩ := info_parts Tryz.infoByte
  have HL : Hid (IntsAt B w (.slice la ls.length lc) ls) := hl
  have HN : Hid (NodesAt B w (.slice na ns.length nc) ns) := hn
  have HA : Hid (ls.all Fl.inR = true) := hall
  have HS : Hid (∀ k, k < ns.length → Fl.sound (Fl.nth ns k) = true) := hsd
  have kc := Lib.run_convert_bytes_const (P := Tryz.prog) (((w.alloc (.cells #[.slice la ls.length lc, .slice na ns.length nc] 32)).alloc (.cells rulesArr 88)).alloc (.cells rulesArr 88)) 23 5 #[.int .u8 70, .int .u8 80, .int .u8 49] 3 3 Tryz.underlying23 Tryz.underlying5
  simp only [World.size_alloc, List.size_toArray, List.length_cons, List.length_nil, Nat.reduceAdd] at kc
  clear hl hn hall hsd
  go_enter Tryz.func59, Tryz.ntmps59
  go_wp2_with (first | (go_at_call 38; refine (rules_any _).mono ?_; rintro e w1 ⟨rfl, rfl⟩) | (refine wpList_store_newN rfl _ _ 88 rfl _ _ _ rulesArr rfl (by simp) rfl Tryz.infoRules rulesSize rulesOne ?_))
  clear kc
  obtain ⟨W4, hW4⟩ : ∃ W4, W4 = ((((w.alloc (.cells #[.slice la ls.length lc, .slice na ns.length nc] 32)).alloc (.cells rulesArr 88)).alloc (.cells rulesArr 88)).alloc (.cells #[.int .u8 70, .int .u8 80, .int .u8 49] 5 (3, 4))) := ⟨_, rfl⟩
  rw [← hW4]
  have hz4 : W4.heap.size = w.heap.size + 4 := by rw [hW4]; simp
  have hb4 : Below w.heap.size w W4 := by
    rw [hW4]
    exact ((((Below.refl _ _).alloc (Nat.le_refl _) _).alloc (by simp) _).alloc (by simp; omega) _).alloc (by simp; omega) _
  have hrow : W4.heap[w.heap.size + 2]? = some (.cells rulesArr 88 (0, 0)) := by
    rw [hW4, Below.heap_alloc _ _ _ (by simp)]
    have := heap_alloc_last ((w.alloc (.cells #[.slice la ls.length lc, .slice na ns.length nc] 32)).alloc (.cells rulesArr 88)) (.cells rulesArr 88)
    simpa only [World.size_alloc] using this
  have hp1 : W4.heap[w.heap.size]? = some (.cells #[.slice la ls.length lc, .slice na ns.length nc] 32 (0, 0)) := by
    rw [hW4, Below.heap_alloc _ _ _ (by simp; omega), Below.heap_alloc _ _ _ (by simp; omega), Below.heap_alloc _ _ _ (by simp)]
    exact heap_alloc_last _ _
  have hlit : W4.heap[w.heap.size + 3]? = some (.cells #[.int .u8 70, .int .u8 80, .int .u8 49] 5 (3, 4)) := by
    have := heap_alloc_last (((w.alloc (.cells #[.slice la ls.length lc, .slice na ns.length nc] 32)).alloc (.cells rulesArr 88)).alloc (.cells rulesArr 88)) (.cells #[.int .u8 70, .int .u8 80, .int .u8 49] 5 (3, 4))
    rw [hW4]; simpa only [World.size_alloc] using this
  have HR4 : Hid (RulesAt W4 (w.heap.size + 2) 0) := rules_at hrow
  have HH : Hid (Holds W4 (w.heap.size + 3) (.slice (some ⟨w.heap.size + 3, 0, none⟩) 3 3) ([70, 80, 49] : List UInt8).length (([70, 80, 49] : List UInt8).map bval)) := by
    refine .inr ⟨w.heap.size + 3, Nat.le_refl _, by omega, rfl, rfl, fun j u hj => ?_⟩
    have h2 : (⟨w.heap.size + 3, 0, none⟩ : Addr).add j = ⟨w.heap.size + 3, j, none⟩ := by unfold Addr.add; split <;> simp_all
    rw [h2, cell_of_row W4 _ j _ _ _ hlit]
    simpa [bval] using hj
  have HP1 : Hid (W4.heap[w.heap.size]? = some (.cells #[.slice la ls.length lc, .slice na ns.length nc] 32 (0, 0))) := hp1
  have HB4 : Hid (Below w.heap.size w W4) := hb4
  have HAL : Hid (Calls Tryz.prog 88 #[.slice (some ⟨w.heap.size + 3, 0, none⟩) 3 3, .slice la ls.length lc] W4 fun e w' => ∃ v', e = .returned v' ∧ w'.ownsRow (w.heap.size + 3) 5 1 v' (([70, 80, 49] : List UInt8) ++ (Fl.coded ls.length ++ Fl.codedAll ls)).length ((([70, 80, 49] : List UInt8) ++ (Fl.coded ls.length ++ Fl.codedAll ls)).map bval) ∧ Below (w.heap.size + 3) W4 w' ∧ Step W4 (.slice (some ⟨w.heap.size + 3, 0, none⟩) 3 3) w' v') :=
    appendList_any ls HA.out (by omega) B (w.heap.size + 3) (by omega) (.slice la ls.length lc) [70, 80, 49] _ W4 (HL.out.below (hb4.mono hB)) HH.out (by simp) (by omega)
  clear hrow hp1 hlit hb4 hW4
  refine (HAL.out).mono ?_
  rintro e w5 ⟨v5, rfl, ho5, hb5, _⟩
  have hcl := Fl.coded_len ls.length
  have hca := Fl.codedAll_len ls
  have hl5 : (([70, 80, 49] : List UInt8) ++ (Fl.coded ls.length ++ Fl.codedAll ls)).length ≤ 60 := by simp only [List.length_append, List.length_cons, List.length_nil]; omega
  obtain ⟨xs5, hx5⟩ : ∃ xs5, xs5 = (([70, 80, 49] : List UInt8) ++ (Fl.coded ls.length ++ Fl.codedAll ls)) := ⟨_, rfl⟩
  rw [← hx5] at ho5 hl5
  have HX5 : Hid (xs5 = (([70, 80, 49] : List UInt8) ++ (Fl.coded ls.length ++ Fl.codedAll ls))) := hx5
  have HO5 : Hid (w5.ownsRow (w.heap.size + 3) 5 1 v5 xs5.length (xs5.map bval)) := ho5
  have HB5 : Hid (Below (w.heap.size + 3) W4 w5) := hb5
  have q1 : w5.cell? ⟨w.heap.size, 1, none⟩ = some (.slice na ns.length nc) := (hb5.cell (p := ⟨w.heap.size, 1, none⟩) (by simp)).trans ((cell_of_row _ _ _ _ _ _ HP1.out).trans rfl)
  have HAN : Hid (Calls Tryz.prog 89 #[v5, .int .i64 (ns.length : Nat)] w5 fun e w' => ∃ v', e = .returned v' ∧ w'.ownsRow (w.heap.size + 3) 5 1 v' (xs5 ++ Fl.coded ns.length).length ((xs5 ++ Fl.coded ns.length).map bval) ∧ Below (w.heap.size + 3) w5 w' ∧ Step w5 v5 w' v') :=
    appendNumber_any ns.length (by omega) (w.heap.size + 3) xs5 v5 w5 (.inl ho5) (by omega) (by have := hb5.size; omega)
  clear HAL HH ho5 hb5 hx5 hcl hca
  go_wp2_with fail
  refine (HAN.out).mono ?_
  rintro e w6 ⟨v6, rfl, ho6, hb6, _⟩
  have HO6 : Hid (w6.ownsRow (w.heap.size + 3) 5 1 v6 (xs5 ++ Fl.coded ns.length).length ((xs5 ++ Fl.coded ns.length).map bval)) := ho6
  have HB6 : Hid (Below (w.heap.size + 3) W4 w6) := HB5.out.trans hb6
  have q6 : w6.cell? ⟨w.heap.size, 1, none⟩ = some (.slice na ns.length nc) := (hb6.cell (p := ⟨w.heap.size, 1, none⟩) (by simp)).trans q1
  have hl6 : (xs5 ++ Fl.coded ns.length).length ≤ 70 := by have := Fl.coded_len ns.length; simp only [List.length_append]; omega
  have HX6 : Hid (xs5 ++ Fl.coded ns.length = Fl.headBytes ls ns) := by
    show _ = _
    rw [HX5.out]; unfold Fl.headBytes; simp [List.append_assoc]
  clear HAN ho6 hb6 q1 HO5
  go_wp2_with fail
  obtain ⟨TB, hTB⟩ : ∃ TB, TB = w.heap.size + 1 + 1 := ⟨_, rfl⟩
  rw [← hTB]
  have HRT : Hid (RulesAt W4 TB 0) := by subst hTB; exact HR4.out
  have HTB : Hid (TB = w.heap.size + 2) := hTB
  have HO7 : Hid (w6.ownsRow (TB + 1) 5 1 v6 (xs5 ++ Fl.coded ns.length).length ((xs5 ++ Fl.coded ns.length).map bval)) := by subst hTB; exact HO6.out
  have HB7 : Hid (Below (TB + 1) W4 w6) := by subst hTB; exact HB6.out
  have hz4' : W4.heap.size = TB + 2 := by omega
  have hwT : w.heap.size < TB := by omega
  clear hTB HO6 HB6 HR4 q6 hz4
  go_loopw [4, 24] (fun v i wr => ∃ (j : Nat) (xs : List UInt8), j ≤ ns.length ∧ i = .int .i64 j ∧ xs = Fl.headBytes ls ns ++ Fl.allBytes (ns.take j) ∧ wr.ownsRow (TB + 1) 5 1 v xs.length (xs.map bval) ∧ Below (TB + 1) W4 wr) (fun _ i _ => ns.length - (intOf i).toNat)
  case atStart => exact ⟨0, xs5 ++ Fl.coded ns.length, by omega, rfl, by rw [HX6.out]; simp [Fl.allBytes], HO7.out, HB7.out⟩
  case round =>
    clear HO7 HB7 HX6 hl6
    obtain ⟨j, xs, hj, rfl, hxs, hown, hbel⟩ := hrel
    have HXS : Hid (xs = Fl.headBytes ls ns ++ Fl.allBytes (ns.take j)) := hxs
    have HOW : Hid (wr.ownsRow (TB + 1) 5 1 u4 xs.length (xs.map bval)) := hown
    have HBE : Hid (Below (TB + 1) W4 wr) := hbel
    have hxl : xs.length ≤ 41000 := by
      have h1 := Fl.allBytes_len (ns.take j) (fun x hx => by
        obtain ⟨i, hi, rfl⟩ := Fl.mem_nth (List.mem_of_mem_take hx); exact HS.out i hi)
      have h2 := Fl.coded_len ls.length
      have h3 := Fl.codedAll_len ls
      have h4 := Fl.coded_len ns.length
      have h5 : (ns.take j).length ≤ 200 := by simp; omega
      rw [hxs]; simp only [Fl.headBytes, List.length_append, List.length_cons, List.length_nil]; omega
    have hwr : TB + 2 ≤ wr.heap.size := by have := hbel.size; omega
    clear hxs hown hbel
    by_cases hlt : j < ns.length
    · obtain ⟨b, off, rfl⟩ : ∃ b off, na = some ⟨b, off, none⟩ := by
        obtain ⟨ao', cap', hv', _, _, hx'⟩ := HN.out
        obtain ⟨b, off, ha, _⟩ := hx' (by intro h; rw [h] at hlt; simp at hlt)
        simp only [Value.slice.injEq] at hv'
        exact ⟨b, off, hv'.1.trans ha⟩
      have hbw : Below w.heap.size w wr := HB4.out.trans (HBE.out.mono (by omega))
      obtain ⟨hbB, lv, c0, c1, c2, c3, c4, c5, c6⟩ := (HN.out.below (hbw.mono hB)).at hlt
      have hsd := HS.out j hlt
      obtain ⟨nd, hnd⟩ : ∃ nd, nd = Fl.nth ns j := ⟨_, rfl⟩
      rw [← hnd] at c0 c1 c2 c3 c4 c5 hsd
      have HND : Hid (nd = Fl.nth ns j) := hnd
      obtain ⟨hfit, hk0, hk8⟩ := Fl.sound_fits hsd
      obtain ⟨k, hk⟩ : ∃ k : Nat, nd.kind = (k : Int) := ⟨nd.kind.toNat, by omega⟩
      have h8 : k < 8 := by omega
      rw [hk] at c1
      obtain ⟨lao, lcap, rfl, _⟩ := id c0
      have HLI : Hid (∀ W, Below (TB + 1) W4 W → IntsAt B W (.slice lao nd.list.length lcap) nd.list) := fun W hW => ints_same c0 (fun b o hb => (hW.cell (p := ⟨b, o, none⟩) (by simp only; omega)).trans (HBE.out.cell (p := ⟨b, o, none⟩) (by simp only; omega)).symm)
      have HFT : Hid (Fl.fits nd) := hfit
      have HSD : Hid (Fl.sound nd = true) := hsd
      have HK : Hid (nd.kind = (k : Int)) := hk
      have HRW : Hid (RulesAt wr TB 0) := fun k hk => by
        obtain ⟨g1, g2, g3⟩ := HRT.out k hk
        exact ⟨(HBE.out.cell (p := ⟨TB, _, none⟩) (by simp)).trans g1, (HBE.out.cell (p := ⟨TB, _, none⟩) (by simp)).trans g2, (HBE.out.cell (p := ⟨TB, _, none⟩) (by simp)).trans g3⟩
      have hji : (j : Int) < (ns.length : Int) := by omega
      have h8' : (k : Int) < 8 := by omega
      clear hnd hfit hk0 hk8 hk c0 hsd hbw
      have HH1 : Hid (∀ o o', Holds ((wr.alloc o).alloc o') (TB + 1) u4 xs.length (xs.map bval)) := fun o o' => (Holds.alloc (Or.inl HOW.out) o).alloc o'
      go_wp2_with (at_builtin; (refine wpList_append_holds _ rfl _ _ 23 rfl (TB + 1) i0 (.int .u8 0) Tryz.underlying23 hi hz0 hz1 hz2 rfl _ _ _ rfl (HH1.out _ _) ⟨_, 0, none⟩ 1 1 [.int .u8 (k : Int)] rfl rfl (by decide) one_cell_new2 ?c2 ?c3 ?c4 ?c5 ?_))
      case c2 => intro u hu; simp at hu; subst hu; rfl
      case c3 => unfold maxLen; omega
      case c4 => omega
      case c5 => simp; omega
      intro v7 w7 ho7 hg7 hw7
      obtain ⟨N, hN⟩ : ∃ N, N = wr.heap.size := ⟨_, rfl⟩
      obtain ⟨WA, hWA⟩ : ∃ WA, WA = wr.alloc (.cells #[.int .i64 (k : Int), .int .i64 nd.level, .int .i64 nd.a, .int .i64 nd.b, .int .i64 nd.c, .slice lao nd.list.length lcap] 53) := ⟨_, rfl⟩
      have hzA : WA.heap.size = N + 1 := by rw [hWA, hN]; simp
      have hrowA : WA.heap[N]? = some (.cells #[.int .i64 (k : Int), .int .i64 nd.level, .int .i64 nd.a, .int .i64 nd.b, .int .i64 nd.c, .slice lao nd.list.length lcap] 53 (0, 0)) := by rw [hWA, hN]; exact heap_alloc_last _ _
      have hbA : Below N wr WA := by rw [hWA, hN]; exact (Below.refl _ _).alloc (Nat.le_refl _) _
      rw [← hWA] at hg7
      have HS7 : Hid (Step WA u4 w7 v7) := ((Step.refl WA u4).alloc _).append hg7 (by simp only [World.size_alloc, hzA, hN] at hw7 ⊢; exact hw7)
      have HO7 : Hid (w7.ownsRow (TB + 1) 5 1 v7 (xs ++ [UInt8.ofNat k]).length ((xs ++ [UInt8.ofNat k]).map bval)) := by
        have hbv : (.int .u8 (k : Int) : Value) = bval (UInt8.ofNat k) := by
          have h2 : (UInt8.ofNat k).toNat = k := by simp; omega
          unfold bval; rw [h2]
        rw [hbv] at ho7
        show World.ownsRow _ _ _ _ _ _ _
        simpa using ho7
      have hneN : some N ≠ u4.ownBlock := fun hh => by have := (HOW.out.lt N hh.symm).2; omega
      have hneT : some TB ≠ u4.ownBlock := fun hh => by have := (HOW.out.lt TB hh.symm).1; omega
      have HCN : Hid (∀ W V, Step WA u4 W V → (∀ o, W.cell? ⟨N, o, none⟩ = #[Value.int .i64 (k : Int), .int .i64 nd.level, .int .i64 nd.a, .int .i64 nd.b, .int .i64 nd.c, .slice lao nd.list.length lcap][o]?) ∧ RulesAt W TB 0 ∧ Below (TB + 1) W4 W ∧ N < W.heap.size ∧ Below N wr WA) := fun W V hst => by
        refine ⟨fun o => (hst.cell (by omega) hneN).trans (cell_of_row _ _ _ _ _ _ hrowA), fun k hk => ?_, ?_, by have := hst.1.size; omega, hbA⟩
        · obtain ⟨g1, g2, g3⟩ := HRW.out k hk
          have q : ∀ o, W.cell? ⟨TB, o, none⟩ = wr.cell? ⟨TB, o, none⟩ := fun o => (hst.cell (by omega) hneT).trans (hbA.cell (p := ⟨TB, o, none⟩) (by simp only; omega))
          exact ⟨(q _).trans g1, (q _).trans g2, (q _).trans g3⟩
        · exact (HBE.out.trans (hbA.mono (by omega))).grown hst.1 (by omega) (fun g hg => (HOW.out.lt g hg).1)
      rw [← hN]
      have d1 : w7.cell? ⟨N, 1, none⟩ = some (.int .i64 nd.level) := (HCN.out _ _ HS7.out).1 1
      have hNT : TB < N := by omega
      clear ho7 hg7 hw7 hrowA hbA hneN hneT c1 c2 c3 c4 c5 c6 hWA hN
      obtain ⟨lev, hlev⟩ : ∃ lev : Nat, nd.level = (lev : Int) := ⟨nd.level.toNat, by have := Fl.inR_nat HFT.out.2.1; omega⟩
      have hlev31 : lev < 2147483648 := by have := Fl.inR_nat HFT.out.2.1; omega
      have HLV : Hid (nd.level = (lev : Int)) := hlev
      rw [hlev] at d1
      obtain ⟨ys7, hys7⟩ : ∃ ys7, ys7 = xs ++ [UInt8.ofNat k] := ⟨_, rfl⟩
      rw [← hys7] at HO7
      have hyl7 : ys7.length ≤ 41001 := by rw [hys7]; simp; omega
      have HY7 : Hid (ys7 = xs ++ [UInt8.ofNat k]) := hys7
      have hz7 : N < w7.heap.size := (HCN.out _ _ HS7.out).2.2.2.1
      clear hys7 hlev
      have HAN : Hid (Calls Tryz.prog 89 #[v7, .int .i64 lev] w7 fun e w' => ∃ v', e = .returned v' ∧ w'.ownsRow (TB + 1) 5 1 v' (ys7 ++ Fl.coded lev).length ((ys7 ++ Fl.coded lev).map bval) ∧ Below (TB + 1) w7 w' ∧ Step w7 v7 w' v') :=
        appendNumber_any lev hlev31 (TB + 1) ys7 v7 w7 (.inl HO7.out) (by omega) (by omega)
      go_wp2_with fail
      refine (HAN.out).mono ?_
      rintro e w8 ⟨v8, rfl, ho8, _, hs8⟩
      have HS8 : Hid (Step WA u4 w8 v8) := HS7.out.trans hs8
      have HO8 : Hid (w8.ownsRow (TB + 1) 5 1 v8 (ys7 ++ Fl.coded lev).length ((ys7 ++ Fl.coded lev).map bval)) := ho8
      clear HAN ho8 hs8 d1 HO7 HS7 hz7
      have hR8 := (HCN.out _ _ HS8.out).2.1 k h8
      have hz8 : N < w8.heap.size := (HCN.out _ _ HS8.out).2.2.2.1
      have e1 : w8.cell? ⟨TB, k * 4 + 1, none⟩ = some (.int .i64 (numF k : Nat)) := by have := hR8.1; simpa using this
      have hnf : numF k ≤ 3 := by unfold numF; (repeat' split) <;> omega
      have HPL : Hid (Calls Tryz.prog 43 #[.pointer (some ⟨TB, k * 4, none⟩), .pointer (some ⟨N, 0, none⟩)] w8 fun e w' => e = .returned (.slice (some ⟨w8.heap.size, 0, none⟩) (numF k) 3) ∧ w' = (w8.alloc (.cells #[.pointer (some ⟨N, 2, none⟩), .pointer (some ⟨N, 3, none⟩), .pointer (some ⟨N, 4, none⟩)] 102)).drew) := places_any TB (k * 4) N (numF k) w8 hnf (by omega) e1
      clear hR8 e1
      go_wp2_with fail
      refine (HPL.out).mono ?_
      rintro e w9 ⟨rfl, hw9⟩
      obtain ⟨PB, hPB⟩ : ∃ PB, PB = w8.heap.size := ⟨_, rfl⟩
      have hz9 : w9.heap.size = PB + 1 := by rw [hw9, hPB]; simp
      have hrow9 : w9.heap[PB]? = some (.cells #[.pointer (some ⟨N, 2, none⟩), .pointer (some ⟨N, 3, none⟩), .pointer (some ⟨N, 4, none⟩)] 102 (0, 0)) := by rw [hw9, hPB]; exact heap_alloc_last _ _
      have hb89 : Below w8.heap.size w8 w9 := by rw [hw9]; exact ((Below.refl _ _).alloc (Nat.le_refl _) _).drew
      have HS9 : Hid (Step WA u4 w9 v8) := HS8.out.below hb89
      have HO9 : Hid (w9.ownsRow (TB + 1) 5 1 v8 (ys7 ++ Fl.coded lev).length ((ys7 ++ Fl.coded lev).map bval)) := HO8.out.kept (row := none) ⟨hb89.os, hb89.tape, hb89.output, hb89.size, fun k hk _ => hb89.block k hk⟩ (by cases v8.ownBlock <;> simp)
      have hneP : some PB ≠ v8.ownBlock := fun hh => by have := (HO8.out.lt PB hh.symm).2; omega
      have HCP : Hid (∀ W V, Step w9 v8 W V → ∀ o, W.cell? ⟨PB, o, none⟩ = #[Value.pointer (some ⟨N, 2, none⟩), .pointer (some ⟨N, 3, none⟩), .pointer (some ⟨N, 4, none⟩)][o]?) := fun W V hst o => (hst.cell (by omega) hneP).trans (cell_of_row _ _ _ _ _ _ hrow9)
      rw [← hPB]
      clear hw9 hrow9 hb89 hneP HO8 HS8 HPL hPB hz8
      go_wp2_with fail
      go_loopw [4, 44] (fun v i wz => ∃ (m : Nat) (zs : List UInt8), m ≤ numF k ∧ i = .int .i64 m ∧ zs = ys7 ++ (Fl.coded lev ++ Fl.codedAll ([nd.a, nd.b, nd.c].take m)) ∧ wz.ownsRow (TB + 1) 5 1 v zs.length (zs.map bval) ∧ Step w9 v8 wz v) (fun _ i _ => numF k - (intOf i).toNat)
      case atStart => exact ⟨0, ys7 ++ Fl.coded lev, by omega, rfl, by simp [Fl.codedAll], HO9.out, Step.refl _ _⟩
      case round =>
        clear HO9
        obtain ⟨m, zs, hm, rfl, hzs, hown, hstp⟩ := hrel
        have HZS : Hid (zs = ys7 ++ (Fl.coded lev ++ Fl.codedAll ([nd.a, nd.b, nd.c].take m))) := hzs
        have HOZ : Hid (wr.ownsRow (TB + 1) 5 1 u4 zs.length (zs.map bval)) := hown
        have HSZ : Hid (Step w9 v8 wr u4) := hstp
        have hzl : zs.length ≤ 41060 := by
          have h1 := Fl.coded_len lev
          have h2 := Fl.codedAll_len ([nd.a, nd.b, nd.c].take m)
          have h3 : ([nd.a, nd.b, nd.c].take m).length ≤ 3 := by simp; omega
          rw [hzs]; simp only [List.length_append]; omega
        have hSA := HS9.out.trans hstp
        have hcc := HCN.out _ _ hSA
        have hzN : N < wr.heap.size := hcc.2.2.2.1
        have hbase : TB + 1 ≤ wr.heap.size := by omega
        clear hzs hown
        by_cases hmlt : m < numF k
        · have hm3 : m < 3 := by omega
          have p1 : wr.cell? ⟨PB, m, none⟩ = some (.pointer (some ⟨N, 2 + m, none⟩)) := by
            rw [HCP.out _ _ hstp m]
            have : m = 0 ∨ m = 1 ∨ m = 2 := by omega
            rcases this with rfl | rfl | rfl <;> rfl
          have p2 : wr.cell? ⟨N, 2 + m, none⟩ = some (.int .i64 ([nd.a, nd.b, nd.c].getD m 0)) := by
            rw [hcc.1 (2 + m)]
            have : m = 0 ∨ m = 1 ∨ m = 2 := by omega
            rcases this with rfl | rfl | rfl <;> rfl
          have hinr : Fl.inR ([nd.a, nd.b, nd.c].getD m 0) = true := by
            obtain ⟨_, _, ha, hb, hc, _⟩ := HFT.out
            have : m = 0 ∨ m = 1 ∨ m = 2 := by omega
            rcases this with rfl | rfl | rfl <;> assumption
          have hinr2 := Fl.inR_nat hinr
          obtain ⟨x, hx⟩ : ∃ x : Nat, (x : Int) = [nd.a, nd.b, nd.c].getD m 0 := ⟨([nd.a, nd.b, nd.c].getD m 0).toNat, by omega⟩
          rw [← hx] at p2
          have hx31 : x < 2147483648 := by omega
          have HX : Hid ((x : Int) = [nd.a, nd.b, nd.c].getD m 0) := hx
          have hmi : (m : Int) < (numF k : Int) := by omega
          have HAX : Hid (Calls Tryz.prog 89 #[u4, .int .i64 x] wr fun e w' => ∃ v', e = .returned v' ∧ w'.ownsRow (TB + 1) 5 1 v' (zs ++ Fl.coded x).length ((zs ++ Fl.coded x).map bval) ∧ Below (TB + 1) wr w' ∧ Step wr u4 w' v') :=
            appendNumber_any x hx31 (TB + 1) zs u4 wr (.inl HOZ.out) (by omega) hbase
          clear hinr hinr2 hx hcc hSA hstp
          go_wp2_with fail
          refine (HAX.out).mono ?_
          rintro e w10 ⟨v10, rfl, ho10, _, hs10⟩
          have HO10 : Hid (w10.ownsRow (TB + 1) 5 1 v10 (zs ++ Fl.coded x).length ((zs ++ Fl.coded x).map bval)) := ho10
          have HS10 : Hid (Step w9 v8 w10 v10) := HSZ.out.trans hs10
          clear ho10 hs10 p1 p2 HAX
          go_wp2
          refine ⟨⟨m + 1, zs ++ Fl.coded x, by omega, by go_num, ?_, HO10.out, HS10.out⟩, by simp [intOf]; omega⟩
          rw [Fl.take_snocI _ m (by simp; omega), ← HX.out, Fl.codedAll_snoc, HZS.out]; simp [List.append_assoc]
        · have hmk : m = numF k := by omega
          have hR := hcc.2.1 k h8
          have e2 : wr.cell? ⟨TB, k * 4 + 2, none⟩ = some (.bool (k == 7)) := by have := hR.2.1; simpa using this
          have e5 : wr.cell? ⟨N, 5, none⟩ = some (.slice lao nd.list.length lcap) := hcc.1 5
          have HBZ : Hid (Below (TB + 1) W4 wr) := hcc.2.2.1
          have hmi : ¬ (m : Int) < (numF k : Int) := by omega
          by_cases h7 : k = 7
          · subst h7
            have hwN : Below w.heap.size w wr := HB4.out.trans (HBZ.out.mono (by omega))
            have HALL : Hid (Calls Tryz.prog 88 #[u4, .slice lao nd.list.length lcap] wr fun e w' => ∃ v', e = .returned v' ∧ w'.ownsRow (TB + 1) 5 1 v' (zs ++ (Fl.coded nd.list.length ++ Fl.codedAll nd.list)).length ((zs ++ (Fl.coded nd.list.length ++ Fl.codedAll nd.list)).map bval) ∧ Below (TB + 1) wr w' ∧ Step wr u4 w' v') := by
              obtain ⟨_, _, _, _, _, hl16, hlall⟩ := HFT.out
              refine appendList_any nd.list hlall (by omega) B (TB + 1) (by omega) _ zs u4 wr (HLI.out wr HBZ.out) (.inl HOZ.out) (by omega) hbase
            have hb7 : ((7 : Nat) == 7) = true := rfl
            rw [hb7] at e2
            clear hcc hSA hstp hR
            go_wp2_with fail
            refine (HALL.out).mono ?_
            rintro e w10 ⟨v10, rfl, ho10, hb10, hs10⟩
            have HO10 : Hid (w10.ownsRow (TB + 1) 5 1 v10 (zs ++ (Fl.coded nd.list.length ++ Fl.codedAll nd.list)).length ((zs ++ (Fl.coded nd.list.length ++ Fl.codedAll nd.list)).map bval)) := ho10
            have HB10 : Hid (Below (TB + 1) W4 w10) := HBZ.out.trans hb10
            clear ho10 hb10 hs10 e2 e5 HALL
            go_wp2
            refine ⟨⟨j + 1, zs ++ (Fl.coded nd.list.length ++ Fl.codedAll nd.list), by omega, by go_num, ?_, HO10.out, HB10.out⟩, by simp [intOf]; omega⟩
            rw [Fl.take_snocN ns j hlt, Fl.allBytes_snoc, ← HND.out, nodeBytes_list HK.out HLV.out, HZS.out, HY7.out, HXS.out, hmk]; simp [Fl.codedAll, numF, List.append_assoc]
          · have hb7 : (k == 7) = false := by simpa using h7
            rw [hb7] at e2
            have HFIN : Hid (zs = Fl.headBytes ls ns ++ Fl.allBytes (ns.take (j + 1))) := by
              show zs = _
              rw [Fl.take_snocN ns j hlt, Fl.allBytes_snoc, ← HND.out, nodeBytes_num HK.out h8 h7 HLV.out, HZS.out, HY7.out, HXS.out, hmk]; simp [List.append_assoc]
            clear hcc hSA hstp hR
            go_wp2
            exact ⟨⟨j + 1, zs, by omega, by go_num, HFIN.out, HOZ.out, HBZ.out⟩, by simp [intOf]; omega⟩
    · have hjl : j = ns.length := by omega
      have HFIN : Hid (xs = Fl.headBytes ls ns ++ Fl.allBytes ns) := by
        show xs = _
        rw [HXS.out, List.take_of_length_le (by omega)]
      go_wp2
      go_ret
      refine ⟨u4, rfl, ?_, HB4.out.trans (HBE.out.mono (by omega))⟩
      rw [← HFIN.out]
      exact own_mono HOW.out (by omega)
end Go.Proofs.YtbihjgfbocpobaaGreatDoor

/- The program: proof.Encode. -/
set_option linter.unusedSimpArgs false
set_option linter.unusedVariables false
namespace Go.Proofs.YtbihjgfbocpobaaGreatDoor
open Go.RowKit

/-- How Encode ends. -/
def EncEnds (r : List UInt8 × Bool × Int) (w : World) (e : Ending) (w' : World) : Prop :=
  Below w.heap.size w w' ∧
  (r.2.1 = true → ∃ va n c, e = .returned (.tuple #[.slice va n c, .nilIface]) ∧ w'.ownsRow w.heap.size 5 1 (.slice va n c) r.1.length (r.1.map bval)) ∧
  (r.2.1 = false → (r.2.2 < 0 → e = .returned (.tuple #[.slice none 0 0, .iface 26 (.int .i64 8)])) ∧ (0 ≤ r.2.2 → ∃ q, e = .returned (.tuple #[.slice none 0 0, .iface 71 (.pointer (some ⟨q, 0, none⟩))]) ∧ w'.cell? ⟨q, 0, none⟩ = some (.int .i64 8) ∧ w'.cell? ⟨q, 1, none⟩ = some (.int .i64 r.2.2)))

theorem encode_unfit {ls : List Int} {ns : List Fl.Node} (h : (decide (ls.length ≤ 4) && (ls.all Fl.inR && (decide (1 ≤ ns.length) && decide (ns.length ≤ 200)))) = false) : Fl.encode ls ns = ([], false, -1) := by
  unfold Fl.encode
  by_cases h1 : 4 < ls.length ∨ ns.length = 0 ∨ 200 < ns.length
  · rw [if_pos h1]
  · rw [if_neg h1]
    have ha : ls.all Fl.inR = false := by
      have e1 : decide (ls.length ≤ 4) = true := by simp; omega
      have e2 : decide (1 ≤ ns.length) = true := by simp; omega
      have e3 : decide (ns.length ≤ 200) = true := by simp; omega
      rw [e1, e2, e3] at h; simpa using h
    rw [if_pos ha]
theorem encode_fit {ls : List Int} {ns : List Fl.Node} (h : (decide (ls.length ≤ 4) && (ls.all Fl.inR && (decide (1 ≤ ns.length) && decide (ns.length ≤ 200)))) = true) : ls.length ≤ 4 ∧ ls.all Fl.inR = true ∧ 1 ≤ ns.length ∧ ns.length ≤ 200 ∧ Fl.encode ls ns = if 0 ≤ Fl.shaped ns then ([], false, Fl.shaped ns) else (Fl.headBytes ls ns ++ Fl.allBytes ns, true, -1) := by
  simp only [Bool.and_eq_true, decide_eq_true_eq] at h
  refine ⟨h.1, h.2.1, h.2.2.1, h.2.2.2, ?_⟩
  unfold Fl.encode
  rw [if_neg (by omega), if_neg (by rw [h.2.1]; simp)]

set_option maxRecDepth 100000 in
set_option maxHeartbeats 4000000 in
theorem encode_prog (ls : List Int) (ns : List Fl.Node) (la na : Option Addr) (lc nc : Nat) (w : World) (hl : IntsAt w.heap.size w (.slice la ls.length lc) ls) (hn : NodesAt w.heap.size w (.slice na ns.length nc) ns) :
    Calls Tryz.prog 36 #[.agg #[.slice la ls.length lc, .slice na ns.length nc]] w (EncEnds (Fl.encode ls ns) w) := by
  have HL : Hid (IntsAt w.heap.size w (.slice la ls.length lc) ls) := hl
  have HN : Hid (NodesAt w.heap.size w (.slice na ns.length nc) ns) := hn
  clear hl hn
  go_enter Tryz.func36, Tryz.ntmps36
  go_wp2_with fail
  obtain ⟨W1, hW1⟩ : ∃ W1, W1 = w.alloc (.cells #[.slice la ls.length lc, .slice na ns.length nc] 32) := ⟨_, rfl⟩
  rw [← hW1]
  have hb1 : Below w.heap.size w W1 := by rw [hW1]; exact (Below.refl _ _).alloc (Nat.le_refl _) _
  have hz1 : W1.heap.size = w.heap.size + 1 := by rw [hW1]; simp
  have hp : ∀ i, W1.cell? ⟨w.heap.size, i, none⟩ = #[Value.slice la ls.length lc, .slice na ns.length nc][i]? := fun i => by rw [hW1]; exact World.cell?_alloc_new _ _ _ _
  have HP : Hid (∀ i, W1.cell? ⟨w.heap.size, i, none⟩ = #[Value.slice la ls.length lc, .slice na ns.length nc][i]?) := hp
  have HB1 : Hid (Below w.heap.size w W1) := hb1
  have HSF : Hid (Calls Tryz.prog 56 #[.agg #[.slice la ls.length lc, .slice na ns.length nc]] W1 fun e w' => e = .returned (.bool (decide (ls.length ≤ 4) && (ls.all Fl.inR && (decide (1 ≤ ns.length) && decide (ns.length ≤ 200))))) ∧ Below W1.heap.size W1 w') :=
    sizesFit_any ls ns la na lc nc w.heap.size W1 (HL.out.below hb1) (HN.out.below hb1) (by omega)
  clear hW1 hb1 hp
  refine (HSF.out).mono ?_
  rintro e w2 ⟨rfl, hb2⟩
  have HB2 : Hid (Below W1.heap.size W1 w2) := hb2
  have HBW2 : Hid (Below w.heap.size w w2) := HB1.out.trans (hb2.mono (by omega))
  have p0 : w2.cell? ⟨w.heap.size, 0, none⟩ = some (.slice la ls.length lc) := (hb2.cell (p := ⟨w.heap.size, 0, none⟩) (by simp only; omega)).trans (HP.out 0)
  have p1 : w2.cell? ⟨w.heap.size, 1, none⟩ = some (.slice na ns.length nc) := (hb2.cell (p := ⟨w.heap.size, 1, none⟩) (by simp only; omega)).trans (HP.out 1)
  clear hb2 HSF
  cases hfit : (decide (ls.length ≤ 4) && (ls.all Fl.inR && (decide (1 ≤ ns.length) && decide (ns.length ≤ 200)))) with
  | false =>
    have HE : Hid (Fl.encode ls ns = ([], false, -1)) := encode_unfit hfit
    clear hfit
    go_wp2
    go_ret2
    refine ⟨HBW2.out, fun h => ?_, fun _ => ⟨fun _ => rfl, fun h => ?_⟩⟩
    · rw [HE.out] at h; cases h
    · rw [HE.out] at h; simp at h
  | true =>
    obtain ⟨h4, hall, h1, h200, henc⟩ := encode_fit hfit
    have HE : Hid (Fl.encode ls ns = if 0 ≤ Fl.shaped ns then ([], false, Fl.shaped ns) else (Fl.headBytes ls ns ++ Fl.allBytes ns, true, -1)) := henc
    have HA : Hid (ls.all Fl.inR = true) := hall
    have HFW : Hid (Calls Tryz.prog 57 #[.slice na ns.length nc] w2 fun e w' => e = .returned (.int .i64 (Fl.firstBad ns)) ∧ Below w2.heap.size w2 w') := firstWrong_any ns _ w2 ((HN.out.below HBW2.out).mono HBW2.out.size) (by omega)
    have hfb := Fl.firstBad_lt ns
    clear hfit henc hall
    go_wp2_with fail
    refine (HFW.out).mono ?_
    rintro e w3 ⟨rfl, hb3⟩
    have HB3 : Hid (Below w.heap.size w w3) := HBW2.out.trans (hb3.mono HBW2.out.size)
    have hz2 : w.heap.size < w2.heap.size := by have := HB2.out.size; omega
    have r0 : w3.cell? ⟨w.heap.size, 0, none⟩ = some (.slice la ls.length lc) := (hb3.cell (p := ⟨w.heap.size, 0, none⟩) hz2).trans p0
    have r1 : w3.cell? ⟨w.heap.size, 1, none⟩ = some (.slice na ns.length nc) := (hb3.cell (p := ⟨w.heap.size, 1, none⟩) hz2).trans p1
    have hz3 : w.heap.size < w3.heap.size := Nat.lt_of_lt_of_le hz2 hb3.size
    clear hb3 HFW p0 p1 HB2 HBW2
    by_cases hbad : 0 ≤ Fl.firstBad ns
    · have HSH : Hid (Fl.encode ls ns = ([], false, Fl.firstBad ns)) := by
        show Fl.encode ls ns = _
        rw [HE.out, Fl.shaped_bad ns hbad, if_pos hbad]
      obtain ⟨x, hx⟩ : ∃ x, x = Fl.firstBad ns := ⟨_, rfl⟩
      rw [← hx] at hbad hfb HSH ⊢
      clear hx
      have hb' : ¬ x < 0 := by omega
      go_wp2
      go_ret2
      refine ⟨HB3.out.alloc (by omega) _, fun h => ?_, fun _ => ⟨fun h => ?_, fun _ => ⟨w3.heap.size, rfl, by simp, ?_⟩⟩⟩
      · rw [HSH.out] at h; cases h
      · rw [HSH.out] at h; simp only at h; omega
      · rw [HSH.out]; simp
    · have hbn : Fl.firstBad ns < 0 := by omega
      have hgood := Fl.allGood_bad ns hbn
      have HSU : Hid (Fl.shaped ns = Fl.firstUn ns) := Fl.shaped_un ns hbn
      have HFU : Hid (Calls Tryz.prog 58 #[.slice na ns.length nc] w3 fun e w' => e = .returned (.int .i64 (Fl.firstUn ns)) ∧ Below w3.heap.size w3 w') :=
        firstUnused_any ns _ w3 ((HN.out.below HB3.out).mono HB3.out.size) (by omega) (fun i hi => (Fl.sound_fits (hgood i hi).1).2) (fun i hi p hp => by have := Fl.good_lt (hgood i hi) hp; omega)
      have HGD : Hid (∀ k, k < ns.length → Fl.sound (Fl.nth ns k) = true) := fun k hk => (hgood k hk).1
      obtain ⟨x, hx⟩ : ∃ x, x = Fl.firstBad ns := ⟨_, rfl⟩
      rw [← hx] at hbn hfb ⊢
      clear hgood hbad hx
      go_wp2_with fail
      refine (HFU.out).mono ?_
      rintro e w4 ⟨rfl, hb4⟩
      have HB4 : Hid (Below w.heap.size w w4) := HB3.out.trans (hb4.mono HB3.out.size)
      have s0 : w4.cell? ⟨w.heap.size, 0, none⟩ = some (.slice la ls.length lc) := (hb4.cell (p := ⟨w.heap.size, 0, none⟩) hz3).trans r0
      have s1 : w4.cell? ⟨w.heap.size, 1, none⟩ = some (.slice na ns.length nc) := (hb4.cell (p := ⟨w.heap.size, 1, none⟩) hz3).trans r1
      have hz4 : w.heap.size < w4.heap.size := Nat.lt_of_lt_of_le hz3 hb4.size
      clear hb4 HFU r0 r1
      obtain ⟨y, hy⟩ : ∃ y, y = Fl.firstUn ns := ⟨_, rfl⟩
      rw [← hy] at HSU ⊢
      clear hy
      by_cases hy0 : 0 ≤ y
      · have HSH : Hid (Fl.encode ls ns = ([], false, y)) := by
          show Fl.encode ls ns = _
          rw [HE.out, HSU.out, if_pos hy0]
        go_wp2
        go_ret2
        refine ⟨HB4.out.alloc (by omega) _, fun h => ?_, fun _ => ⟨fun h => ?_, fun _ => ⟨w4.heap.size, rfl, by simp, ?_⟩⟩⟩
        · rw [HSH.out] at h; cases h
        · rw [HSH.out] at h; simp only at h; omega
        · rw [HSH.out]; simp
      · have HSH : Hid (Fl.encode ls ns = (Fl.headBytes ls ns ++ Fl.allBytes ns, true, -1)) := by
          show Fl.encode ls ns = _
          rw [HE.out, HSU.out, if_neg hy0]
        have HWR : Hid (Calls Tryz.prog 59 #[.agg #[.slice la ls.length lc, .slice na ns.length nc]] w4 fun e w' => ∃ v', e = .returned v' ∧ w'.ownsRow w4.heap.size 5 1 v' (Fl.headBytes ls ns ++ Fl.allBytes ns).length ((Fl.headBytes ls ns ++ Fl.allBytes ns).map bval) ∧ Below w4.heap.size w4 w') :=
          write_any ls ns la na lc nc w.heap.size w4 (by omega) (HL.out.below HB4.out) (HN.out.below HB4.out) h4 HA.out h200 HGD.out
        obtain ⟨bl, hbl⟩ : ∃ bl, bl = Fl.headBytes ls ns ++ Fl.allBytes ns := ⟨_, rfl⟩
        rw [← hbl] at HSH HWR
        clear hbl
        go_wp2_with fail
        refine (HWR.out).mono ?_
        rintro e w5 ⟨v', rfl, ho5, hb5⟩
        obtain ⟨va, vc, rfl⟩ := own_shape6 ho5
        have HO5 : Hid (w5.ownsRow w4.heap.size 5 1 (.slice va bl.length vc) bl.length (bl.map bval)) := ho5
        have HB5 : Hid (Below w.heap.size w w5) := HB4.out.trans (hb5.mono HB4.out.size)
        clear ho5 hb5 HWR s0 s1
        go_wp2
        go_ret2
        refine ⟨HB5.out, fun _ => ⟨_, _, _, rfl, ?_⟩, fun h => ?_⟩
        · rw [HSH.out]; exact own_mono (base := w4.heap.size) HO5.out (by omega)
        · rw [HSH.out] at h; cases h
/-- How plain.Encode ends. -/
def PlainEnc (r : List UInt8 × Bool × Int) (w : World) (e : Ending) (w' : World) : Prop :=
  Below w.heap.size w w' ∧
  (r.2.1 = false → e = .returned (.tuple #[.slice none 0 0, .int .i64 8, .int .i64 r.2.2])) ∧
  (r.2.1 = true → ∃ va n c, e = .returned (.tuple #[.slice va n c, .int .i64 0, .int .i64 (-1)]) ∧ w'.ownsRow w.heap.size 5 1 (.slice va n c) r.1.length (r.1.map bval))
theorem encode_neg (ls : List Int) (ns : List Fl.Node) (h : (Fl.encode ls ns).2.2 < 0) : (Fl.encode ls ns).2.2 = -1 := by
  unfold Fl.encode at *
  split at h
  · rename_i hc; rw [if_pos hc]
  · rename_i hc
    rw [if_neg hc]
    split at h
    · rename_i hd; rw [if_pos hd]
    · rename_i hd
      rw [if_neg hd]
      split at h
      · rename_i he; simp only at h; omega
      · rename_i he; rw [if_neg he]
end Go.Proofs.YtbihjgfbocpobaaGreatDoor

/- The program: flows.Bytes and plain.Bytes. -/
set_option linter.unusedSimpArgs false
set_option linter.unusedVariables false
namespace Go.Proofs.YtbihjgfbocpobaaGreatDoor
open Go.RowKit

/-- How flows.Bytes ends. -/
def FlowsBytes (s : List UInt8) (w : World) (e : Ending) (w' : World) : Prop :=
  Below w.heap.size w w' ∧
  ((Fl.readText s).2 ≠ 0 → ∃ q, e = .returned (.tuple #[.slice none 0 0, .iface 71 (.pointer (some ⟨q, 0, none⟩))]) ∧ w'.cell? ⟨q, 0, none⟩ = some (.int .i64 2) ∧ w'.cell? ⟨q, 1, none⟩ = some (.int .i64 ((Fl.readText s).2 : Int))) ∧
  ((Fl.readText s).2 = 0 → EncEnds (Fl.encode (Fl.readText s).1.1 (Fl.readText s).1.2) w e w')
theorem EncEnds.base {r : List UInt8 × Bool × Int} {w w1 w' : World} {e : Ending} (h : EncEnds r w1 e w') (hb : Below w.heap.size w w1) : EncEnds r w e w' := by
  obtain ⟨h1, h2, h3⟩ := h
  refine ⟨hb.trans (h1.mono hb.size), fun hr => ?_, h3⟩
  obtain ⟨va, n, c, he, ho⟩ := h2 hr
  exact ⟨va, n, c, he, own_mono (base' := w.heap.size) ho hb.size⟩

set_option maxRecDepth 100000 in
set_option maxHeartbeats 2000000 in
theorem flows_bytes {s : List UInt8} {w : World} (hs : s.length ≤ 40000) (hpw : Pows w) (hmx : MaxLenIs w) :
    Calls Tryz.prog 23 #[.string ⟨s.toArray⟩] w (FlowsBytes s w) := by
  have HC : Hid (Calls Tryz.prog 35 #[.string ⟨s.toArray⟩] w (ReadEnds (Fl.readText s) w)) := read_prog hs hpw hmx
  clear hs hpw hmx
  go_enter Tryz.func23, Tryz.ntmps23
  go_wp2_with fail
  refine HC.out.mono ?_
  rintro e wz ⟨hB, hbad, hgood⟩
  have HB : Hid (Below w.heap.size w wz) := hB
  clear hB HC
  by_cases hr : (Fl.readText s).2 = 0
  · obtain ⟨la, n, lc, na, n', nc, rfl, hst⟩ := hgood hr
    have HRR : Hid ((Fl.readText s).2 = 0) := hr
    obtain ⟨ls, hls⟩ : ∃ ls, ls = (Fl.readText s).1.1 := ⟨_, rfl⟩
    obtain ⟨ns, hns⟩ : ∃ ns, ns = (Fl.readText s).1.2 := ⟨_, rfl⟩
    obtain ⟨hi, hn⟩ := hst wz ⟨Nat.le_refl _, fun _ _ _ => rfl⟩
    rw [← hls] at hi
    rw [← hns] at hn
    obtain ⟨_, _, e1, _⟩ := id hi
    obtain ⟨_, _, e2, _⟩ := id hn
    simp only [Value.slice.injEq] at e1 e2
    obtain ⟨-, rfl, -⟩ := e1
    obtain ⟨-, rfl, -⟩ := e2
    have HEN : Hid (∀ o, Calls Tryz.prog 36 #[.agg #[.slice la ls.length lc, .slice na ns.length nc]] (wz.alloc o) (EncEnds (Fl.encode ls ns) (wz.alloc o))) := fun o =>
      encode_prog ls ns la na lc nc (wz.alloc o) ((hi.below ((Below.refl _ _).alloc (Nat.le_refl _) _)).mono (by simp)) ((hn.below ((Below.refl _ _).alloc (Nat.le_refl _) _)).mono (by simp))
    have HLS : Hid (ls = (Fl.readText s).1.1) := hls
    have HNS : Hid (ns = (Fl.readText s).1.2) := hns
    clear hbad hgood hr hst hi hn hls hns
    go_wp2_with fail
    refine (HEN.out _).mono ?_
    intro e w2 he
    have HE : Hid (EncEnds (Fl.encode ls ns) w e w2) := he.base (HB.out.alloc HB.out.size _)
    have hcase := HE.out.2
    clear he HEN
    have HFIN : Hid (∀ e', e' = e → FlowsBytes s w e' w2) := by
      rintro e' rfl
      exact ⟨HE.out.1, fun h => absurd HRR.out h, fun _ => by rw [← HLS.out, ← HNS.out]; exact HE.out⟩
    cases hr2 : (Fl.encode ls ns).2.1 with
    | true =>
      obtain ⟨va, n, c, rfl, _⟩ := hcase.1 hr2
      clear hcase hr2 HE
      go_wp2
      go_ret2
      exact HFIN.out _ rfl
    | false =>
      by_cases h0 : (Fl.encode ls ns).2.2 < 0
      · obtain rfl := (hcase.2 hr2).1 h0
        clear hcase hr2 HE h0
        go_wp2
        go_ret2
        exact HFIN.out _ rfl
      · obtain ⟨q, rfl, _, _⟩ := (hcase.2 hr2).2 (by omega)
        clear hcase hr2 HE h0
        go_wp2
        go_ret2
        exact HFIN.out _ rfl
  · obtain ⟨q, rfl, q0, q1⟩ := hbad hr
    have HRR : Hid (¬ (Fl.readText s).2 = 0) := hr
    have HQ : Hid (∀ o, (wz.alloc o).cell? ⟨q, 0, none⟩ = some (.int .i64 2) ∧ (wz.alloc o).cell? ⟨q, 1, none⟩ = some (.int .i64 ((Fl.readText s).2 : Int))) := fun o => ⟨(World.cell?_alloc_lt _ _ _ (World.block_lt_of_cell? wz _ q0)).trans q0, (World.cell?_alloc_lt _ _ _ (World.block_lt_of_cell? wz _ q1)).trans q1⟩
    clear hbad hgood hr q0 q1
    go_wp2
    go_ret2
    exact ⟨HB.out.alloc HB.out.size _, fun _ => ⟨q, rfl, HQ.out _⟩, fun h => absurd h HRR.out⟩

/-- How plain.Bytes ends. -/
def PlainBytes (s : List UInt8) (w : World) (e : Ending) (w' : World) : Prop :=
  Below w.heap.size w w' ∧
  ((Fl.readText s).2 ≠ 0 → e = .returned (.tuple #[.slice none 0 0, .int .i64 2, .int .i64 ((Fl.readText s).2 : Int)])) ∧
  ((Fl.readText s).2 = 0 → PlainEnc (Fl.encode (Fl.readText s).1.1 (Fl.readText s).1.2) w e w')

set_option maxRecDepth 100000 in
set_option maxHeartbeats 2000000 in
theorem plain_bytes {s : List UInt8} {w : World} (hE : ErrType w) (hs : s.length ≤ 40000) (hpw : Pows w) (hmx : MaxLenIs w) :
    Calls Tryz.prog 10 #[.string ⟨s.toArray⟩] w (PlainBytes s w) := by
  have HC : Hid (Calls Tryz.prog 23 #[.string ⟨s.toArray⟩] w (FlowsBytes s w)) := flows_bytes hs hpw hmx
  have HEB : Hid (∀ o, Below w.heap.size w o → ErrType o) := fun o ho => (ho.cell (p := ⟨0, 0, none⟩) (World.block_lt_of_cell? w _ hE)).trans hE
  clear hs hpw hmx hE
  go_enter Tryz.func10, Tryz.ntmps10
  go_wp2_with fail
  refine HC.out.mono ?_
  rintro e wz ⟨hB, hbad, hgood⟩
  have HB : Hid (Below w.heap.size w wz) := hB
  have hsz := hB.size
  clear hB HC
  by_cases hr : (Fl.readText s).2 = 0
  · obtain ⟨-, hgood, hbad2⟩ := hgood hr
    have HRR : Hid ((Fl.readText s).2 = 0) := hr
    obtain ⟨r, hr1⟩ : ∃ r, r = Fl.encode (Fl.readText s).1.1 (Fl.readText s).1.2 := ⟨_, rfl⟩
    have HNG : Hid (r.2.2 < 0 → r.2.2 = -1) := fun h => by rw [hr1] at h ⊢; exact encode_neg _ _ h
    have HFIN : Hid (∀ e' w2, Below w.heap.size w w2 → PlainEnc r w e' w2 → PlainBytes s w e' w2) := fun e' w2 hb hp => ⟨hb, fun h => absurd HRR.out h, fun _ => by rw [← hr1]; exact hp⟩
    rw [← hr1] at hgood hbad2
    clear hbad hr hr1
    cases hr2 : r.2.1 with
    | true =>
      obtain ⟨va, n, c, rfl, ho⟩ := hgood hr2
      have HO : Hid (wz.ownsRow w.heap.size 5 1 (.slice va n c) r.1.length (r.1.map bval)) := ho
      have HR2 : Hid (r.2.1 = true) := hr2
      clear hgood hbad2 hr2 ho
      go_wp2_with fail
      refine (tell_nil _).mono ?_
      rintro e w2 ⟨rfl, hB2⟩
      have HB2 : Hid (Below w.heap.size w w2) := HB.out.trans (hB2.mono (by omega))
      have HO2 : Hid (w2.ownsRow w.heap.size 5 1 (.slice va n c) r.1.length (r.1.map bval)) := HO.out.kept (row := none) ⟨hB2.os, hB2.tape, hB2.output, hB2.size, fun k hk _ => hB2.block k hk⟩ (by cases (Value.slice va n c).ownBlock <;> simp)
      clear hB2
      go_wp2
      go_ret3
      exact HFIN.out _ _ HB2.out ⟨HB2.out, fun h => (by rw [HR2.out] at h; cases h), fun _ => ⟨va, n, c, rfl, HO2.out⟩⟩
    | false =>
      have HR2 : Hid (r.2.1 = false) := hr2
      by_cases h0 : r.2.2 < 0
      · obtain rfl := (hbad2 hr2).1 h0
        have H0 : Hid (r.2.2 = -1) := HNG.out h0
        clear hgood hbad2 hr2 h0
        go_wp2_with fail
        refine (tell_errno 8 _ (HEB.out _ HB.out)).mono ?_
        rintro e w2 ⟨rfl, hB2⟩
        have HB2 : Hid (Below w.heap.size w w2) := HB.out.trans (hB2.mono (by omega))
        clear hB2
        go_wp2
        go_ret3
        exact HFIN.out _ _ HB2.out ⟨HB2.out, fun _ => by rw [H0.out]; rfl, fun h => by rw [HR2.out] at h; cases h⟩
      · obtain ⟨q, rfl, q0, q1⟩ := (hbad2 hr2).2 (by omega)
        clear hgood hbad2 hr2 h0
        go_wp2_with fail
        refine (tell_at q 0 8 r.2.2 _ (HEB.out _ HB.out) q0 q1).mono ?_
        rintro e w2 ⟨rfl, hB2⟩
        have HB2 : Hid (Below w.heap.size w w2) := HB.out.trans (hB2.mono (by omega))
        clear hB2 q0 q1
        go_wp2
        go_ret3
        exact HFIN.out _ _ HB2.out ⟨HB2.out, fun _ => rfl, fun h => by rw [HR2.out] at h; cases h⟩
  · obtain ⟨q, rfl, q0, q1⟩ := hbad hr
    have HRR : Hid (¬ (Fl.readText s).2 = 0) := hr
    clear hbad hgood hr
    go_wp2_with fail
    refine (tell_at q 0 2 ((Fl.readText s).2 : Int) _ (HEB.out _ HB.out) q0 q1).mono ?_
    rintro e w2 ⟨rfl, hB2⟩
    have HB2 : Hid (Below w.heap.size w w2) := HB.out.trans (hB2.mono (by omega))
    clear hB2 q0 q1
    go_wp2
    go_ret3
    exact ⟨HB2.out, fun _ => rfl, fun h => absurd h HRR.out⟩
end Go.Proofs.YtbihjgfbocpobaaGreatDoor
