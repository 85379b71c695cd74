import Derived.Test.YtminjljgedopkaaGreatDoorM28
import Derived.Lib.OthersKept
import Derived.Lib.AppendStr
import Derived.Lib.UnsafeStr
import Derived.Laws.Externs
set_option linter.all false
set_option maxRecDepth 100000
set_option maxHeartbeats 40000000
namespace Go.Proofs.YtminjljgedopkaaGreatDoor
open Go.RowKit Go.Proofs.Tryz
def zzx {o : Option Fl.Node} {P : Nat} {nv : Value} {acc : List Fl.Node} {lvs : List Value} {w w' : World} (ho : o = none) (hb : Below w.heap.size w w') : zq1 o P nv acc lvs w (.returned (.bool false)) w' := .inl ⟨ho, rfl, hb⟩
def yxz (P T : Nat) (nv : Value) (acc : List Fl.Node) (lvs : List Value) (ws : List (List UInt8)) (b cap : Nat) (w : World)
    (hn : w.ownsRow (P + 1) 121 6 nv acc.length (Xs acc lvs)) (c1 : w.cell? ⟨P, 1, none⟩ = some nv) (fq : ∀ o, w.frozen? ⟨P, o, none⟩ = false)
    (hT : w.heap[T]? = some (.cells Zu 98 (0, 0))) (hpw : Vs w) (hv : Zg w.heap.size w (.slice (some ⟨b, 0, none⟩) ws.length cap) ws) (hacc : acc.length <= 50000) (hwl : ws.length <= 50000) :
    Calls prog 58 #[.pointer (some ⟨P, 0, none⟩), .pointer (some ⟨T, 0, none⟩), .slice (some ⟨b, 0, none⟩) ws.length cap] w (zq1 (Fl.nodeOf acc.length ws) P nv acc lvs w) := by
  by_cases h3 : ws.length < 3
  · refine (ze3 P T ws b cap w h3).mono ?_
    rintro e w' ⟨rfl, rfl⟩
    exact zzx (by unfold Fl.nodeOf; rw [if_pos (.inl h3)]) (Below.refl _ _).drew
  have hPl : P < w.heap.size := World.block_lt_of_cell? w _ c1
  have hTl : T < w.heap.size := (Array.getElem?_eq_some_iff.1 hT).1
  obtain ⟨nao, ncap, rfl⟩ := Yt hn
  obtain ⟨ao', cap', h1, hwc, hcm, _, _, h6⟩ := id hv
  simp only [Value.slice.injEq] at h1
  obtain ⟨e1, -, rfl⟩ := h1
  have HCELL : Hid (∀ i, i < ws.length -> w.cell? ⟨b, i, none⟩ = some (strV (ws.getD i []))) := by
    obtain ⟨b', off', e', _, hc'⟩ := h6 (by intro hh; rw [hh] at h3; simp at h3)
    rw [<- e1] at e'
    simp only [Option.some.injEq, Addr.mk.injEq, and_true] at e'
    intro i hi
    have := hc' i hi
    rw [<- e'.1, <- e'.2, Nat.zero_add] at this; exact this
  have hbl : b < w.heap.size := World.block_lt_of_cell? w _ (HCELL.out 0 (by omega))
  have c0 := HCELL.out 0 (by omega)
  unfold strV at c0
  obtain ⟨x0, hx0⟩ : ∃ x0, x0 = ws.getD 0 [] := ⟨_, rfl⟩
  rw [<- hx0] at c0
  obtain ⟨dk, hdk⟩ : ∃ dk, dk = Lib.decDigits acc.length := ⟨_, rfl⟩
  have HIT : Hid (∀ W, Below w.heap.size w W -> Calls prog 48 #[.int .i64 (acc.length : Int)] W λe w' => e = .returned (.string ⟨dk.toArray⟩) /\ Below W.heap.size W w') := by
    intro W hW
    rw [hdk]
    exact zj6 acc.length W (by omega) (hpw.below (Nat.le_refl _) hW)
  have HX0 : Hid (x0 = ws.getD 0 []) := hx0
  have HDK : Hid (dk = Lib.decDigits acc.length) := hdk
  have HT : Hid (w.heap[T]? = some (.cells Zu 98 (0, 0))) := hT
  have HN : Hid (w.ownsRow (P + 1) 121 6 (.slice nao acc.length ncap) acc.length (Xs acc lvs)) := hn
  have HWA : Hid (Zg w.heap.size w (.slice (some ⟨b, 0, none⟩) ws.length cap) ws) := hv
  have h3I : 3 <= (ws.length : Int) := by omega
  have hpos : 0 < ws.length := by omega
  have hpos1 : 1 < ws.length := by omega
  have hcap : cap <= 9223372036854775807 := by unfold maxLen at hcm; exact hcm
  clear hx0 hdk hpw hT hn hv h6 e1 hcm
  by_cases hx : x0 = dk
  · subst hx
    go_enter func58, ntmps58
    go_wp2_with fail
    refine zy9 (λW => Below w.heap.size w W) [0, 1, 2, 3, 4, 5, 6, 7, 8, 9, 10, 11] 12 13 14 [(3, 17)] (by kernel_rfl) (by kernel_rfl) rfl [_, _, _, _, _, _, _, _, _, _, _, _] _ _ _ rfl rfl rfl rfl (λc a d v w h => by cases d <;> exact h) (Below.refl _ _).drew (λops hG => ?_)
    have g1 := hG (3, 17) (by simp)
    simp only at g1
    clear hG
    repeat
      first
      | (refine Um rfl (λK hK => ?_)
         apply Exists.intro
         refine ⟨λw' hw' => ?_, ?_⟩
         · go_simp
           try with_reducible rfl
         go_simp
         refine hK _ ?_
         clear hK K)
      | (refine za2 rfl (by simp [yielded, g1, Act.put]; omega) (λK hK => ?_)
         try simp only [List.getElem_toArray, List.getElem_cons_succ, List.getElem_cons_zero]
         apply Exists.intro
         refine ⟨λw' hw' => ?_, ?_⟩
         · have r0 : w'.cell? ⟨b, 0, none⟩ = some (.string ⟨x0.toArray⟩) := (hw'.cell (p := ⟨b, 0, none⟩) hbl).trans c0
           have r1 : w'.cell? ⟨P, 1, none⟩ = some (.slice nao acc.length ncap) := (hw'.cell (p := ⟨P, 1, none⟩) hPl).trans c1
           go_simp
           try with_reducible rfl
         go_simp
         refine hK _ ?_
         clear hK K)
    refine zv6 ?_
    refine Xy (by simp [Region.wanted, yielded, g1]; omega) ?_
    go_wp2_with fail
    refine (HIT.out w.drew (Below.refl _ _).drew).mono ?_
    rintro e w1 ⟨rfl, hb1⟩
    have HB1 : Hid (Below w.heap.size w w1) := (Below.refl w.heap.size w).drew.trans hb1
    clear hb1
    go_wp2_with fail
    refine ⟨HB1.out, ?_⟩
    refine Xy (by simp [Region.wanted, yielded, g1]; omega) ?_
    go_wp2_with fail
    refine ⟨HB1.out, ?_⟩
    clear g1
    go_wp2_with fail
    refine ⟨HB1.out, ?_⟩
    have c1' := HCELL.out 1 (by omega)
    unfold strV at c1'
    obtain ⟨x1, hx1⟩ : ∃ x1, x1 = ws.getD 1 [] := ⟨_, rfl⟩
    rw [<- hx1] at c1'
    have q1 : w1.cell? ⟨b, 1, none⟩ = some (.string ⟨x1.toArray⟩) := (HB1.out.cell (p := ⟨b, 1, none⟩) hbl).trans c1'
    obtain ⟨pk, hpk⟩ : ∃ pk, pk = Fl.place Fl.kindWords x1 := ⟨_, rfl⟩
    have HKN : Hid (Calls prog 102 #[.pointer (some ⟨T, 0, none⟩), .string ⟨x1.toArray⟩] w1 λe w' => e = .returned (.int .i64 pk) /\ Below w1.heap.size w1 w') := by
      show Calls _ _ _ _ _
      rw [hpk]; exact zbz T x1 w1 ((HB1.out.block T hTl).trans HT.out)
    have hz1 := HB1.out.size
    have HX1 : Hid (x1 = ws.getD 1 []) := hx1
    have HPK : Hid (pk = Fl.place Fl.kindWords x1) := hpk
    clear hx1 hpk c1'
    go_wp2_with fail
    refine HKN.out.mono ?_
    rintro e w2 ⟨rfl, hb2⟩
    have HB2 : Hid (Below w.heap.size w w2) := HB1.out.trans (hb2.mono hz1)
    have hz2 := HB2.out.size
    obtain ⟨ov, hov⟩ : ∃ ov, ov = Fl.intsOf (ws.drop 2) := ⟨_, rfl⟩
    have HIN : Hid (Calls prog 101 #[.slice (some ⟨b, 2, none⟩) (ws.length - 2) (cap - 2)] w2 (zj5 ov w2)) := by
      show Calls _ _ _ _ _
      rw [hov]
      refine zs2 w2.heap.size _ _ w2 ?_ (Nat.le_refl _)
      have := ((HWA.out.below HB2.out).mono hz2).drop 2 (by omega); simpa using this
    have HOV : Hid (ov = Fl.intsOf (ws.drop 2)) := hov
    clear hov hb2 q1
    go_wp2_with fail
    refine HIN.out.mono ?_
    rintro e w3 ⟨v, rfl, ho3, hb3⟩
    have HB3 : Hid (Below w.heap.size w w3) := HB2.out.trans (hb3.mono hz2)
    have hz3 := HB3.out.size
    have HN0 : Hid (∀ Z : Prop, Fl.nodeOf acc.length ws = (if pk < 0 then none else match ov with
        | none => none
        | some v => if Fl.fields pk < 0 then some ⟨pk, v.getD 0 0, 0, 0, 0, v.drop 1⟩ else if (v.length : Int) ≠ 1 + Fl.fields pk then none else some ⟨pk, v.getD 0 0, v.getD 1 0, v.getD 2 0, v.getD 3 0, []⟩)) := by
      intro _
      unfold Fl.nodeOf
      rw [if_neg (by rintro (h | h); exact h3 h; exact h (by rw [<- HX0.out]; exact HDK.out)), <- HX1.out, <- HPK.out, <- HOV.out]; rfl
    clear HKN HIN HIT c0
    by_cases hpk : pk < 0
    · obtain ⟨vao, vcap, rfl⟩ := Yt ho3
      have HE : Hid (Fl.nodeOf acc.length ws = none) := by show _ = _; rw [HN0.out True, if_pos hpk]
      clear ho3 hb3
      go_wp2
      go_ret
      exact zzx HE.out HB3.out
    · cases ov with
      | none =>
        obtain ⟨vao, vcap, rfl⟩ := Yt ho3
        have HE : Hid (Fl.nodeOf acc.length ws = none) := by show _ = _; rw [HN0.out True, if_neg hpk]
        have hpk' : 0 <= pk := by omega
        clear ho3 hb3
        go_wp2
        go_ret
        exact zzx HE.out HB3.out
      | some vs =>
        obtain ⟨k, rfl⟩ : ∃ k : Nat, pk = (k : Int) := ⟨pk.toNat, by omega⟩
        have hk8 : k < 8 := by have := ykv x1; rw [<- HPK.out] at this; omega
        simp only [Option.getD_some] at ho3
        have hvl : vs.length = ws.length - 2 := by
          have := Fl.intsOf_len (ws.drop 2) vs HOV.out.symm
          rwa [List.length_drop] at this
        have hv1 : 1 <= vs.length := by omega
        have hv2 : vs.length <= 50000 := by omega
        obtain ⟨gv, vcap, rfl, hgv, hgv2⟩ := yl1 ho3 (by omega)
        have hvc : vs.length <= vcap /\ vcap <= 9223372036854775807 := by
          rcases ho3.2 with ⟨hh, _⟩ | ⟨g', cap', cur, hh, _, _, h4, hcm, _⟩
          · cases hh
          · simp only [Value.slice.injEq] at hh; rw [hh.2.2]; exact ⟨by omega, hcm⟩
        obtain ⟨hvc1, hvc2⟩ := hvc
        have HVC : Hid (∀ i, i < vs.length -> w3.cell? ⟨gv, i, none⟩ = some (.int .i64 (vs.getD i 0))) := λi hi => by
          have h1 := ho3.cells (g := gv) rfl i (.int .i64 (vs.getD i 0)) (by simp [List.getD_eq_getElem?_getD, hi])
          have h2 : (⟨gv, 0, none⟩ : Addr).add i = ⟨gv, i, none⟩ := by unfold Addr.add; split <;> simp_all
          rw [h2] at h1; exact h1
        have v0 := HVC.out 0 (by omega)
        obtain ⟨y0, hy0⟩ : ∃ y0, y0 = vs.getD 0 0 := ⟨_, rfl⟩
        rw [<- hy0] at v0
        have HY0 : Hid (y0 = vs.getD 0 0) := hy0
        have HVL : Hid (vs.length = ws.length - 2) := hvl
        obtain ⟨rc1, rc2⟩ := zg7 ((HB3.out.block T hTl).trans HT.out) k hk8
        have hTl3 : T < w3.heap.size := by omega
        have r1 : ∀ o, (w3.alloc o).cell? ⟨T, k * 4 + 1, none⟩ = some (.int .i64 (Yq k : Nat)) := λo => (World.cell?_alloc_lt _ _ _ hTl3).trans rc1
        have HF : Hid (Fl.fields (k : Int) = if k = 7 then -1 else (Yq k : Int)) := yx9 k hk8
        clear hvl hy0 ho3 hb3 hpk rc1
        have hkI : (k : Int) < 8 := by omega
        by_cases hk7 : k = 7
        · subst hk7
          have r2 : ∀ o, (w3.alloc o).cell? ⟨T, 30, none⟩ = some (.bool true) := λo => (World.cell?_alloc_lt _ _ _ hTl3).trans rc2
          have r1' : ∀ o, (w3.alloc o).cell? ⟨T, 29, none⟩ = some (.int .i64 0) := r1
          have HR1 : Hid _ := r1'
          have HND : Hid (Fl.nodeOf acc.length ws = some ⟨7, y0, 0, 0, 0, vs.drop 1⟩) := by
            show _ = _
            rw [HN0.out True, if_neg (by omega)]; simp only
            rw [HF.out, if_pos rfl, if_pos (by decide), HY0.out]; rfl
          clear rc2 r1 r1'
          have HTV : Hid (∀ o sv, (sv = .slice (some ⟨gv, 1, none⟩) (vs.length - 1) (vcap - 1) \/ (sv = .slice (some ⟨gv, 0, none⟩) 0 0 /\ vs.length = 1)) -> Zy (w3.alloc o).heap.size (w3.alloc o) sv (vs.drop 1)) := by
            rintro o sv (rfl | ⟨rfl, h1⟩)
            · exact ym3 HVC.out ((Below.refl _ _).alloc (Nat.le_refl _) _) hgv2 hv1 hvc1 (by omega)
            · exact yq6 h1
          obtain ⟨ln, hdl⟩ : ∃ ln, (vs.drop 1).length = ln := ⟨_, rfl⟩
          have hln : ln <= 50000 := by rw [<- hdl, List.length_drop]; omega
          have HDL : Hid ((vs.drop 1).length = ln) := hdl
          obtain ⟨xs, hxs⟩ : ∃ xs, xs = vs.drop 1 := ⟨_, rfl⟩
          rw [<- hxs] at HTV HDL HND
          clear hdl hxs
          by_cases hvc3 : vcap = 1
          · subst hvc3
            have hvs1 : vs.length <= 1 := by omega
            go_wp2_with (at_builtin; refine Je rfl (.tmp 63) (.tmp 64) rfl (w3.heap.size + 1) (.slice none 0 0) [] rfl (World.ownsRow_nil _ _ _ _) _ rfl ((w3.alloc (.cells #[.int .i64 7, .int .i64 y0, .int .i64 0, .int .i64 0, .int .i64 0, .slice none 0 0] 121)).heap.size) xs (HTV.out _ _ (.inr ⟨rfl, by omega⟩)) (by simp) (by rw [HDL.out]; omega) (by simp) ?_)
            intro lv w5 ho5 hg5
            rw [HDL.out] at ho5
            obtain ⟨lao, lcap, rfl⟩ := Yt ho5
            have hnd5 : Nd w5 w3.heap.size 7 y0 0 0 0 (.slice none 0 0) := (Nd.new w3 7 y0 0 0 0 (.slice none 0 0) 121).grown hg5 (by simp [Value.ownBlock])
            have HB5 : Hid (Below w.heap.size w w5) := (HB3.out.alloc (by omega) _).grown hg5 (by simp; omega) (λg hg => by simp [Value.ownBlock] at hg)
            have HI5 : Hid (Zy w5.heap.size w5 (.slice lao ln lcap) xs) := Zy.of_own ho5
            have HLB : Hid (∀ b, (Value.slice lao ln lcap).ownBlock = some b -> w3.heap.size < b) := λb hb => by have := (ho5.lt b hb).1; omega
            have HC5 : Hid (w5.cell? ⟨T, 29, none⟩ = some (.int .i64 0)) := hg5.cell (HR1.out _) (by simp [Value.ownBlock])
            have HN5 : Hid _ := hnd5
            have k5 := hnd5.c5
            have kf := hnd5.f
            obtain ⟨N, hN⟩ : ∃ N, N = w3.heap.size := ⟨_, rfl⟩
            rw [<- hN] at HN5 HLB k5 kf ⊢
            have hwN : w.heap.size <= N := by omega
            have hTN : T < N := by omega
            have hsz5 : N < w5.heap.size := HN5.out.lt
            clear ho5 hg5 hnd5 r2 HR1 HTV hN v0 hgv2 hTl3 hz3 HVC
            go_wp2_with fail
            obtain ⟨W6, hW6⟩ : ∃ W6, W6 = w5.setCell ⟨N, 5, none⟩ (.slice lao ln lcap) := ⟨_, rfl⟩
            rw [<- hW6]
            have hz6 : W6.heap.size = w5.heap.size := by rw [hW6]; simp
            have HN6 : Hid (Nd W6 N 7 y0 0 0 0 (.slice lao ln lcap)) := by rw [hW6]; exact HN5.out.set5 _
            have HB6 : Hid (Below w.heap.size w W6) := by rw [hW6]; exact HB5.out.setCell (by show w.heap.size <= N; exact hwN) _
            have HI6 : Hid (Zy W6.heap.size W6 (.slice lao ln lcap) xs) := by rw [hW6]; exact Xh HI5.out (λ_ h => by have h9 : N < N := HLB.out N h; omega)
            have q6 : W6.cell? ⟨T, 29, none⟩ = some (.int .i64 ((0 : Nat) : Int)) := by rw [hW6]; exact (Yl w5 N 5 _).cell HC5.out (by simp; omega)
            clear hW6 HN5 HB5 HI5 HC5 k5 kf
            refine (zz3 T 28 N 0 W6 (by omega) (by omega) q6).mono ?_
            rintro e W7 ⟨rfl, hW7⟩
            have g7 : W6.grownBy W7 none := by rw [hW7]; exact ⟨rfl, rfl, rfl, by simp, λk hk _ => Below.heap_alloc _ _ _ hk⟩
            have HB7 : Hid (Below w.heap.size w W7) := by rw [hW7]; exact (HB6.out.alloc (by omega) _).drew
            have HN7 : Hid (Nd W7 N 7 y0 0 0 0 (.slice lao ln lcap)) := HN6.out.grown g7 (by simp)
            have HI70 : Hid (Zy W7.heap.size W7 (.slice lao ln lcap) xs) := Ut HI6.out (by rw [hW7]; exact ((Below.refl _ _).alloc (Nat.le_refl _) _).drew)
            have hz7 : N + 2 <= W7.heap.size := by rw [hW7]; simp; omega
            clear hW7 g7 q6 HN6 HB6 HI6 hz6 hsz5
            go_wp2_with fail
            go_loopw [78] (λi wr => i = .int .i64 0 /\ wr = W7) (λi _ => 0)
            case atStart => exact ⟨rfl, rfl⟩
            case round =>
              obtain ⟨rfl, hwr⟩ := hrel
              subst hwr
              have HBR : Hid (Below w.heap.size w wr.drew) := HB7.out.drew
              have hnd' := HN7.out.drew
              have hzr : N + 2 <= wr.drew.heap.size := hz7
              have HI7 : Hid (Zy wr.drew.heap.size wr.drew (.slice lao ln lcap) xs) := HI70.out
              obtain ⟨m0, m1, m2, m3, m4, m5, mf⟩ := hnd'
              have q1 : wr.drew.cell? ⟨P, 1, none⟩ = some (.slice nao acc.length ncap) := (HBR.out.cell (p := ⟨P, 1, none⟩) hPl).trans c1
              have hPr : P < wr.drew.heap.size := by omega
              clear HB7 HN7 HI70 c1
              go_wp2_with fail
              refine Vo [0, 1, 2, 3] 4 5 4 6 [5, 6, 7, 8, 9, 10] [6, 7, 8, 9, 10] [4, 7, 8, 9, 10] (by kernel_rfl) (by kernel_rfl) rfl rfl rfl [_, _, _, _] _ _ _ _ [_, _, _, _, _, _] [_, _, _, _, _] [_, _, _, _, _] rfl rfl rfl rfl rfl rfl rfl rfl (λc a d v w h => by cases d <;> exact h) ?_
              refine Ya (λL HL => ?_)
              repeat
                refine Yb rfl (λK hK => ?_)
                apply Exists.intro
                refine ⟨λw' _ => ?_, ?_⟩
                · go_simp
                  try with_reducible rfl
                go_simp
                refine hK _ ?_
                clear hK K
              refine HL.out _ ⟨?ga1, ?gb1⟩
              all_goals
                clear HL
                generalize wr.drew = W1 at *
                simp only [List.getElem_toArray, List.getElem_cons_succ, List.getElem_cons_zero]
              case' gb1 =>
                go_wp2_with fail
                refine ⟨?_, ?_⟩
              all_goals
                go_wp2_with (at_builtin; refine zz1 rfl (.tmp 94) (.tmp 96) rfl (P + 1) _ acc lvs rfl (zq0 HN.out (HBR.out.alloc (by omega) _)) W1.heap.size ⟨7, y0, 0, 0, 0, xs⟩ lao ln lcap rfl ?n1 (by omega) ?n2 ?_)
                case n1 =>
                  intro i u hi
                  rw [World.cell?_alloc_new]; simpa [Zj] using hi
                case n2 => simp; omega
                intro v3 w8 ho8 hg8 hw8
                have HB7 : Hid (Below w.heap.size w (W1.alloc (.cells #[.int .i64 7, .int .i64 y0, .int .i64 0, .int .i64 0, .int .i64 0, .slice lao ln lcap] 121))) := HBR.out.alloc (by omega) _
                have hnP : some P ≠ (Value.slice nao acc.length ncap).ownBlock := λhh => by have := (HN.out.lt P hh.symm).1; omega
                have z1 : w8.cell? ⟨P, 1, none⟩ = some (.slice nao acc.length ncap) := hg8.cell ((World.cell?_alloc_lt _ _ _ hPr).trans q1) hnP
                have zf : ∀ o, w8.frozen? ⟨P, o, none⟩ = false := λo => (World.frozen?_of_block (hg8.block P (by simp; omega) hnP)).trans ((HB7.out.frozen (p := ⟨P, o, none⟩) hPl).trans (fq o))
                obtain ⟨zao, zcap, rfl⟩ := Yt ho8
                have HZ : Hid (zq1 (Fl.nodeOf acc.length ws) P (.slice nao acc.length ncap) acc lvs w (.returned (.bool true)) (w8.setCell ⟨P, 1, none⟩ (.slice zao (acc.length + 1) zcap))) :=
                  .inr ⟨_, _, w8, _, _, HND.out, rfl, HB7.out, zq7 HI7.out _, λb hb => (by have := HLB.out b hb; omega), ho8, hg8, by rw [World.size_alloc]; exact hw8, rfl⟩
                clear ho8 hg8 hw8 HB7 m0 m1 m2 m3 m4 m5 mf q1
                go_wp2
                go_ret
                exact HZ.out
          · have hvc4 : 1 < vcap := by omega
            go_wp2_with (at_builtin; refine Je rfl (.tmp 63) (.tmp 64) rfl (w3.heap.size + 1) (.slice none 0 0) [] rfl (World.ownsRow_nil _ _ _ _) _ rfl ((w3.alloc (.cells #[.int .i64 7, .int .i64 y0, .int .i64 0, .int .i64 0, .int .i64 0, .slice none 0 0] 121)).heap.size) xs (HTV.out _ _ (.inl rfl)) (by simp) (by rw [HDL.out]; omega) (by simp) ?_)
            intro lv w5 ho5 hg5
            rw [HDL.out] at ho5
            obtain ⟨lao, lcap, rfl⟩ := Yt ho5
            have hnd5 : Nd w5 w3.heap.size 7 y0 0 0 0 (.slice none 0 0) := (Nd.new w3 7 y0 0 0 0 (.slice none 0 0) 121).grown hg5 (by simp [Value.ownBlock])
            have HB5 : Hid (Below w.heap.size w w5) := (HB3.out.alloc (by omega) _).grown hg5 (by simp; omega) (λg hg => by simp [Value.ownBlock] at hg)
            have HI5 : Hid (Zy w5.heap.size w5 (.slice lao ln lcap) xs) := Zy.of_own ho5
            have HLB : Hid (∀ b, (Value.slice lao ln lcap).ownBlock = some b -> w3.heap.size < b) := λb hb => by have := (ho5.lt b hb).1; omega
            have HC5 : Hid (w5.cell? ⟨T, 29, none⟩ = some (.int .i64 0)) := hg5.cell (HR1.out _) (by simp [Value.ownBlock])
            have HN5 : Hid _ := hnd5
            have k5 := hnd5.c5
            have kf := hnd5.f
            obtain ⟨N, hN⟩ : ∃ N, N = w3.heap.size := ⟨_, rfl⟩
            rw [<- hN] at HN5 HLB k5 kf ⊢
            have hwN : w.heap.size <= N := by omega
            have hTN : T < N := by omega
            have hsz5 : N < w5.heap.size := HN5.out.lt
            clear ho5 hg5 hnd5 r2 HR1 HTV hN v0 hgv2 hTl3 hz3 HVC
            go_wp2_with fail
            obtain ⟨W6, hW6⟩ : ∃ W6, W6 = w5.setCell ⟨N, 5, none⟩ (.slice lao ln lcap) := ⟨_, rfl⟩
            rw [<- hW6]
            have hz6 : W6.heap.size = w5.heap.size := by rw [hW6]; simp
            have HN6 : Hid (Nd W6 N 7 y0 0 0 0 (.slice lao ln lcap)) := by rw [hW6]; exact HN5.out.set5 _
            have HB6 : Hid (Below w.heap.size w W6) := by rw [hW6]; exact HB5.out.setCell (by show w.heap.size <= N; exact hwN) _
            have HI6 : Hid (Zy W6.heap.size W6 (.slice lao ln lcap) xs) := by rw [hW6]; exact Xh HI5.out (λ_ h => by have h9 : N < N := HLB.out N h; omega)
            have q6 : W6.cell? ⟨T, 29, none⟩ = some (.int .i64 ((0 : Nat) : Int)) := by rw [hW6]; exact (Yl w5 N 5 _).cell HC5.out (by simp; omega)
            clear hW6 HN5 HB5 HI5 HC5 k5 kf
            refine (zz3 T 28 N 0 W6 (by omega) (by omega) q6).mono ?_
            rintro e W7 ⟨rfl, hW7⟩
            have g7 : W6.grownBy W7 none := by rw [hW7]; exact ⟨rfl, rfl, rfl, by simp, λk hk _ => Below.heap_alloc _ _ _ hk⟩
            have HB7 : Hid (Below w.heap.size w W7) := by rw [hW7]; exact (HB6.out.alloc (by omega) _).drew
            have HN7 : Hid (Nd W7 N 7 y0 0 0 0 (.slice lao ln lcap)) := HN6.out.grown g7 (by simp)
            have HI70 : Hid (Zy W7.heap.size W7 (.slice lao ln lcap) xs) := Ut HI6.out (by rw [hW7]; exact ((Below.refl _ _).alloc (Nat.le_refl _) _).drew)
            have hz7 : N + 2 <= W7.heap.size := by rw [hW7]; simp; omega
            clear hW7 g7 q6 HN6 HB6 HI6 hz6 hsz5
            go_wp2_with fail
            go_loopw [78] (λi wr => i = .int .i64 0 /\ wr = W7) (λi _ => 0)
            case atStart => exact ⟨rfl, rfl⟩
            case round =>
              obtain ⟨rfl, hwr⟩ := hrel
              subst hwr
              have HBR : Hid (Below w.heap.size w wr.drew) := HB7.out.drew
              have hnd' := HN7.out.drew
              have hzr : N + 2 <= wr.drew.heap.size := hz7
              have HI7 : Hid (Zy wr.drew.heap.size wr.drew (.slice lao ln lcap) xs) := HI70.out
              obtain ⟨m0, m1, m2, m3, m4, m5, mf⟩ := hnd'
              have q1 : wr.drew.cell? ⟨P, 1, none⟩ = some (.slice nao acc.length ncap) := (HBR.out.cell (p := ⟨P, 1, none⟩) hPl).trans c1
              have hPr : P < wr.drew.heap.size := by omega
              clear HB7 HN7 HI70 c1
              go_wp2_with fail
              refine Vo [0, 1, 2, 3] 4 5 4 6 [5, 6, 7, 8, 9, 10] [6, 7, 8, 9, 10] [4, 7, 8, 9, 10] (by kernel_rfl) (by kernel_rfl) rfl rfl rfl [_, _, _, _] _ _ _ _ [_, _, _, _, _, _] [_, _, _, _, _] [_, _, _, _, _] rfl rfl rfl rfl rfl rfl rfl rfl (λc a d v w h => by cases d <;> exact h) ?_
              refine Ya (λL HL => ?_)
              repeat
                refine Yb rfl (λK hK => ?_)
                apply Exists.intro
                refine ⟨λw' _ => ?_, ?_⟩
                · go_simp
                  try with_reducible rfl
                go_simp
                refine hK _ ?_
                clear hK K
              refine HL.out _ ⟨?ga2, ?gb2⟩
              all_goals
                clear HL
                generalize wr.drew = W1 at *
                simp only [List.getElem_toArray, List.getElem_cons_succ, List.getElem_cons_zero]
              case' gb2 =>
                go_wp2_with fail
                refine ⟨?_, ?_⟩
              all_goals
                go_wp2_with (at_builtin; refine zz1 rfl (.tmp 94) (.tmp 96) rfl (P + 1) _ acc lvs rfl (zq0 HN.out (HBR.out.alloc (by omega) _)) W1.heap.size ⟨7, y0, 0, 0, 0, xs⟩ lao ln lcap rfl ?n1 (by omega) ?n2 ?_)
                case n1 =>
                  intro i u hi
                  rw [World.cell?_alloc_new]; simpa [Zj] using hi
                case n2 => simp; omega
                intro v3 w8 ho8 hg8 hw8
                have HB7 : Hid (Below w.heap.size w (W1.alloc (.cells #[.int .i64 7, .int .i64 y0, .int .i64 0, .int .i64 0, .int .i64 0, .slice lao ln lcap] 121))) := HBR.out.alloc (by omega) _
                have hnP : some P ≠ (Value.slice nao acc.length ncap).ownBlock := λhh => by have := (HN.out.lt P hh.symm).1; omega
                have z1 : w8.cell? ⟨P, 1, none⟩ = some (.slice nao acc.length ncap) := hg8.cell ((World.cell?_alloc_lt _ _ _ hPr).trans q1) hnP
                have zf : ∀ o, w8.frozen? ⟨P, o, none⟩ = false := λo => (World.frozen?_of_block (hg8.block P (by simp; omega) hnP)).trans ((HB7.out.frozen (p := ⟨P, o, none⟩) hPl).trans (fq o))
                obtain ⟨zao, zcap, rfl⟩ := Yt ho8
                have HZ : Hid (zq1 (Fl.nodeOf acc.length ws) P (.slice nao acc.length ncap) acc lvs w (.returned (.bool true)) (w8.setCell ⟨P, 1, none⟩ (.slice zao (acc.length + 1) zcap))) :=
                  .inr ⟨_, _, w8, _, _, HND.out, rfl, HB7.out, zq7 HI7.out _, λb hb => (by have := HLB.out b hb; omega), ho8, hg8, by rw [World.size_alloc]; exact hw8, rfl⟩
                clear ho8 hg8 hw8 HB7 m0 m1 m2 m3 m4 m5 mf q1
                go_wp2
                go_ret
                exact HZ.out
        · have r2 : ∀ o, (w3.alloc o).cell? ⟨T, k * 4 + 2, none⟩ = some (.bool false) := λo => (World.cell?_alloc_lt _ _ _ hTl3).trans (by rw [rc2]; simp [hk7])
          have hf3 := zr5 k
          obtain ⟨f, hf⟩ : ∃ f, f = Yq k := ⟨_, rfl⟩
          rw [<- hf] at r1 hf3
          have HFK : Hid (Fl.fields (k : Int) = (f : Int)) := by show _ = _; rw [HF.out, if_neg hk7, hf]
          have HFF : Hid (f = Yq k) := hf
          have HR1 : Hid _ := r1
          clear hf rc2
          by_cases hlen : vs.length = f + 1
          · have hvc4 : 1 < vcap := by
              have : 1 <= f := by
                have h1 := HFF.out
                rcases (show k = 0 \/ k = 1 \/ k = 2 \/ k = 3 \/ k = 4 \/ k = 5 \/ k = 6 by omega) with rfl | rfl | rfl | rfl | rfl | rfl | rfl <;> (rw [h1]; decide)
              omega
            have hf0 : (((vs.length - 1 : Nat) : Int) == (f : Int)) = true := by rw [beq_iff_eq]; omega
            obtain ⟨xs, hxs⟩ : ∃ xs, xs = vs.drop 1 := ⟨_, rfl⟩
            have hxl : xs.length = f := by rw [hxs, List.length_drop]; omega
            have HND : Hid (Fl.nodeOf acc.length ws = some ⟨(k : Int), y0, xs.getD 0 0, xs.getD 1 0, xs.getD 2 0, []⟩) := by
              show _ = _
              rw [HN0.out True, if_neg (by omega)]; simp only
              rw [HFK.out, if_neg (by omega), if_neg (by omega), HY0.out, hxs]
              simp [List.getD_eq_getElem?_getD]
            have HVX : Hid (∀ i, i < f -> w3.cell? ⟨gv, 1 + i, none⟩ = some (.int .i64 (xs.getD i 0))) := by
              intro i hi
              rw [HVC.out (1 + i) (by omega), hxs, Nat.add_comm 1 i]; simp [List.getD_eq_getElem?_getD]
            have HXL : Hid (xs.length = f) := hxl
            have HLEN : Hid (vs.length = f + 1) := hlen
            clear hxs hxl
            go_wp2_with fail
            obtain ⟨W4, hW4⟩ : ∃ W4, W4 = w3.alloc (.cells #[.int .i64 (k : Int), .int .i64 y0, .int .i64 0, .int .i64 0, .int .i64 0, .slice none 0 0] 121) := ⟨_, rfl⟩
            rw [<- hW4]
            obtain ⟨N, hN⟩ : ∃ N, N = w3.heap.size := ⟨_, rfl⟩
            rw [<- hN]
            have hNd : Nd W4 N (k : Int) y0 0 0 0 (.slice none 0 0) := by rw [hW4, hN]; exact Nd.new _ _ _ _ _ _ _ _
            have hz4 : W4.heap.size = N + 1 := by rw [hW4, hN]; simp
            have HB4 : Hid (Below w.heap.size w W4) := by rw [hW4]; exact HB3.out.alloc (by omega) _
            have q4 : W4.cell? ⟨T, k * 4 + 1, none⟩ = some (.int .i64 (f : Int)) := by rw [hW4]; exact HR1.out _
            have HV4 : Hid (∀ i, i < f -> W4.cell? ⟨gv, 1 + i, none⟩ = some (.int .i64 (xs.getD i 0))) := λi hi => by rw [hW4]; exact (World.cell?_alloc_lt _ _ _ hgv2).trans (HVX.out i hi)
            have hgN : gv < N := by omega
            have hwN : w.heap.size <= N := by omega
            refine (zz3 T (k * 4) N f W4 hf3 (by omega) q4).mono ?_
            rintro e W5 ⟨rfl, hW5⟩
            have g5 : W4.grownBy W5 none := by rw [hW5]; exact ⟨rfl, rfl, rfl, by simp, λk hk _ => Below.heap_alloc _ _ _ hk⟩
            have HL : Hid (RnL W5 W5 N (k : Int) y0 (.slice none 0 0) xs 0) := RnL.zero (hNd.grown g5 (by simp))
            have HB5 : Hid (Below w.heap.size w W5) := by rw [hW5]; exact (HB4.out.alloc (by omega) _).drew
            have HP5 : Hid (∀ j, j < 3 -> W5.cell? ⟨N + 1, j, none⟩ = some (.pointer (some ⟨N, 2 + j, none⟩))) := by
              intro j hj
              have h := World.cell?_alloc_new W4 #[.pointer (some ⟨N, 2, none⟩), .pointer (some ⟨N, 3, none⟩), .pointer (some ⟨N, 4, none⟩)] 126 j
              rw [hz4] at h
              rw [hW5]
              refine h.trans ?_
              rcases (show j = 0 \/ j = 1 \/ j = 2 by omega) with rfl | rfl | rfl <;> rfl
            have HV5 : Hid (∀ i, i < f -> W5.cell? ⟨gv, 1 + i, none⟩ = some (.int .i64 (xs.getD i 0))) := λi hi => g5.cell (HV4.out i hi) (by simp)
            have hz5 : N + 2 <= W5.heap.size := by rw [hW5]; simp; omega
            rw [hz4]
            clear hW4 hN hNd hz4 HB4 q4 HV4 hW5 g5 v0 r1 r2 HR1 HVX HVC hf0 hvc4 hlen hgv hgv2
            go_wp2_with fail
            go_loopw [78] (λi wr => ∃ j : Nat, j <= f /\ i = .int .i64 j /\ RnL W5 wr N (k : Int) y0 (.slice none 0 0) xs j) (λi _ => f - (intOf i).toNat)
            case atStart => exact ⟨0, by omega, rfl, HL.out⟩
            case round =>
              clear HL
              obtain ⟨j, hj, rfl, hl⟩ := hrel
              have HL : Hid (RnL W5 wr N (k : Int) y0 (.slice none 0 0) xs j) := hl
              clear hl
              by_cases hlt : j < f
              · have hpj : wr.cell? ⟨N + 1, j, none⟩ = some (.pointer (some ⟨N, 2 + j, none⟩)) := HL.out.g.cell (HP5.out j (by omega)) (by simp)
                have hnj : wr.cell? ⟨gv, 1 + j, none⟩ = some (.int .i64 (xs.getD j 0)) := HL.out.g.cell (HV5.out j hlt) (by simp; omega)
                obtain ⟨ov, kj⟩ := HL.out.cell (show j < 3 by omega)
                have kf := HL.out.nd.f
                have HNX : Hid _ := HL.out.next (by rw [HXL.out]; exact hlt) (show j < 3 by omega)
                generalize xs.getD j 0 = xj at hnj HNX
                have hvj : j < vs.length - 1 := by have := HLEN.out; omega
                go_wp2
                go_roundw
                case rel => exact ⟨j + 1, by omega, by go_num, HNX.out⟩
                case measure => simp [intOf]; omega
              · have hjf : j = f := by omega
                have hnd : Nd wr N (k : Int) y0 (xs.getD 0 0) (xs.getD 1 0) (xs.getD 2 0) (.slice none 0 0) := by
                  have h := HL.out; rw [hjf, <- HXL.out] at h; exact h.all
                have hBr : Below w.heap.size w wr.drew := (HB5.out.grown HL.out.g (by omega) (λg hg => by injection hg with hg; omega)).drew
                have hnd' := hnd.drew
                have hzr : N + 2 <= wr.drew.heap.size := Nat.le_trans hz5 HL.out.g.size
                generalize xs.getD 0 0 = a0 at HND hnd'
                generalize xs.getD 1 0 = a1 at HND hnd'
                generalize xs.getD 2 0 = a2 at HND hnd'
                have HBR : Hid (Below w.heap.size w wr.drew) := hBr
                have HNDW : Hid (Nd wr.drew N (k : Int) y0 a0 a1 a2 (.slice none 0 0)) := hnd'
                obtain ⟨m0, m1, m2, m3, m4, m5, mf⟩ := hnd'
                have q1 : wr.drew.cell? ⟨P, 1, none⟩ = some (.slice nao acc.length ncap) := (hBr.cell (p := ⟨P, 1, none⟩) hPl).trans c1
                have hPr : P < wr.drew.heap.size := by omega
                clear hnd hBr HL HP5 HV5 HB5 hjf hj c1
                go_wp2_with fail
                refine Vo [0, 1, 2, 3] 4 5 4 6 [5, 6, 7, 8, 9, 10] [6, 7, 8, 9, 10] [4, 7, 8, 9, 10] (by kernel_rfl) (by kernel_rfl) rfl rfl rfl [_, _, _, _] _ _ _ _ [_, _, _, _, _, _] [_, _, _, _, _] [_, _, _, _, _] rfl rfl rfl rfl rfl rfl rfl rfl (λc a d v w h => by cases d <;> exact h) ?_
                refine Ya (λL HL => ?_)
                repeat
                  refine Yb rfl (λK hK => ?_)
                  apply Exists.intro
                  refine ⟨λw' _ => ?_, ?_⟩
                  · go_simp
                    try with_reducible rfl
                  go_simp
                  refine hK _ ?_
                  clear hK K
                refine HL.out _ ⟨?ga3, ?gb3⟩
                all_goals
                  clear HL
                  generalize wr.drew = W1 at *
                  simp only [List.getElem_toArray, List.getElem_cons_succ, List.getElem_cons_zero]
                case' gb3 =>
                  go_wp2_with fail
                  refine ⟨?_, ?_⟩
                all_goals
                  go_wp2_with (at_builtin; refine zz1 rfl (.tmp 94) (.tmp 96) rfl (P + 1) _ acc lvs rfl (zq0 HN.out (HBR.out.alloc (by omega) _)) W1.heap.size ⟨(k : Int), y0, a0, a1, a2, []⟩ none 0 0 rfl ?n1 (by omega) ?n2 ?_)
                  case n1 =>
                    intro i u hi
                    rw [World.cell?_alloc_new]; simpa [Zj] using hi
                  case n2 => simp; omega
                  intro v3 w8 ho8 hg8 hw8
                  have HB7 : Hid (Below w.heap.size w (W1.alloc (.cells #[.int .i64 (k : Int), .int .i64 y0, .int .i64 a0, .int .i64 a1, .int .i64 a2, .slice none 0 0] 121))) := HBR.out.alloc (by omega) _
                  have hnP : some P ≠ (Value.slice nao acc.length ncap).ownBlock := λhh => by have := (HN.out.lt P hh.symm).1; omega
                  have z1 : w8.cell? ⟨P, 1, none⟩ = some (.slice nao acc.length ncap) := hg8.cell ((World.cell?_alloc_lt _ _ _ hPr).trans q1) hnP
                  have zf : ∀ o, w8.frozen? ⟨P, o, none⟩ = false := λo => (World.frozen?_of_block (hg8.block P (by simp; omega) hnP)).trans ((HB7.out.frozen (p := ⟨P, o, none⟩) hPl).trans (fq o))
                  obtain ⟨zao, zcap, rfl⟩ := Yt ho8
                  have HZ : Hid (zq1 (Fl.nodeOf acc.length ws) P (.slice nao acc.length ncap) acc lvs w (.returned (.bool true)) (w8.setCell ⟨P, 1, none⟩ (.slice zao (acc.length + 1) zcap))) :=
                    .inr ⟨_, _, w8, _, _, HND.out, rfl, HB7.out, Zy.nil _ _, λb hb => by simp [Value.ownBlock] at hb, ho8, hg8, by rw [World.size_alloc]; exact hw8, rfl⟩
                  clear ho8 hg8 hw8 HB7 m0 m1 m2 m3 m4 m5 mf q1
                  go_wp2
                  go_ret
                  exact HZ.out
          · have HE : Hid (Fl.nodeOf acc.length ws = none) := by
              show _ = _
              rw [HN0.out True, if_neg (by omega)]; simp only
              rw [HFK.out, if_neg (by omega), if_pos (by omega)]
            have HBA : Hid (∀ o, Below w.heap.size w (w3.alloc o)) := λo => HB3.out.alloc (by omega) _
            by_cases hvc3 : vcap = 1
            · subst hvc3
              have hf0 : ((0 : Int) == (f : Int)) = false := by rw [beq_eq_false_iff_ne]; omega
              go_wp2
              go_ret
              exact zzx HE.out (HBA.out _)
            · have hvc4 : 1 < vcap := by omega
              have hf0 : (((vs.length - 1 : Nat) : Int) == (f : Int)) = false := by rw [beq_eq_false_iff_ne]; omega
              go_wp2
              go_ret
              exact zzx HE.out (HBA.out _)
  · have b3 : (x0 == dk) = false := by rw [beq_eq_false_iff_ne]; exact hx
    have HB : Hid (Fl.nodeOf acc.length ws = none) := by show _ = _; unfold Fl.nodeOf; rw [if_pos (.inr (by rw [<- HX0.out, <- HDK.out]; exact hx))]
    clear hx
    go_enter func58, ntmps58
    go_wp2_with fail
    refine zy9 (λW => Below w.heap.size w W) [0, 1, 2, 3, 4, 5, 6, 7, 8, 9, 10, 11] 12 13 14 [(3, 17)] (by kernel_rfl) (by kernel_rfl) rfl [_, _, _, _, _, _, _, _, _, _, _, _] _ _ _ rfl rfl rfl rfl (λc a d v w h => by cases d <;> exact h) (Below.refl _ _).drew (λops hG => ?_)
    have g1 := hG (3, 17) (by simp)
    simp only at g1
    clear hG
    repeat
      first
      | (refine Um rfl (λK hK => ?_)
         apply Exists.intro
         refine ⟨λw' hw' => ?_, ?_⟩
         · go_simp
           try with_reducible rfl
         go_simp
         refine hK _ ?_
         clear hK K)
      | (refine za2 rfl (by simp [yielded, g1, Act.put]; omega) (λK hK => ?_)
         try simp only [List.getElem_toArray, List.getElem_cons_succ, List.getElem_cons_zero]
         apply Exists.intro
         refine ⟨λw' hw' => ?_, ?_⟩
         · have r0 : w'.cell? ⟨b, 0, none⟩ = some (.string ⟨x0.toArray⟩) := (hw'.cell (p := ⟨b, 0, none⟩) hbl).trans c0
           have r1 : w'.cell? ⟨P, 1, none⟩ = some (.slice nao acc.length ncap) := (hw'.cell (p := ⟨P, 1, none⟩) hPl).trans c1
           go_simp
           try with_reducible rfl
         go_simp
         refine hK _ ?_
         clear hK K)
    refine zv6 ?_
    refine Xy (by simp [Region.wanted, yielded, g1]; omega) ?_
    go_wp2_with fail
    refine (HIT.out w.drew (Below.refl _ _).drew).mono ?_
    rintro e w1 ⟨rfl, hb1⟩
    have HB1 : Hid (Below w.heap.size w w1) := (Below.refl w.heap.size w).drew.trans hb1
    clear hb1
    go_wp2_with fail
    refine ⟨HB1.out, ?_⟩
    refine Xy (by simp [Region.wanted, yielded, g1]; omega) ?_
    go_wp2_with fail
    refine ⟨HB1.out, ?_⟩
    clear g1
    go_wp2_with fail
    refine ⟨HB1.out, ?_⟩
    go_wp2
    go_ret
    exact zzx HB.out HB1.out
def Tryz.infoU8:(Tryz.prog.info? 5).map (λi=>(i.zero,i.size,i.bytes))=some (some (.int .u8 0),1,1):=by kernel_rfl
def Tryz.sizeBld:(Tryz.prog.info? 118).map (·.size)=some 2:=by kernel_rfl
def Tryz.liesBld:liesAt Tryz.prog Tryz.prog.depth 118 (2 / Tryz.prog.cellsOf 118) 0 118 1=true:=by kernel_rfl
def ze4(b:Nat)(w:World)(h0:w.cell? ⟨b,0,none⟩=some (.pointer (some ⟨b,0,none⟩))):
  Calls prog 133 #[.pointer (some ⟨b,0,none⟩)] w λe w'=>e=.returned (.tuple #[])/\w'=w:=by
 obtain⟨j,hj,_⟩:=Option.map_eq_some_iff.1 Tryz.sizeBld
 go_enter func133,ntmps133
 go_wp2;rw[Lib.run_neq_ptr_same w _ underlying116 hj];go_wp2
 go_end0
 exact⟨rfl,rfl⟩
def zg8(b:Nat)(w:World)(h0:w.cell? ⟨b,0,none⟩=some (.pointer none))(hsh:w.shape? b=some (118,2))(hfz:w.frozen? ⟨b,0,none⟩=false):
  Calls prog 133 #[.pointer (some ⟨b,0,none⟩)] w λe w'=>e=.returned (.tuple #[])/\w'=w.setCell ⟨b,0,none⟩ (.pointer (some ⟨b,0,none⟩)):=by
 obtain⟨j,hj,hjs⟩:=Option.map_eq_some_iff.1 Tryz.sizeBld
 go_enter func133,ntmps133
 go_wp2;rw[Lib.run_to_unsafe w ⟨b,0,none⟩ underlying116 underlying104 hj (by rw[hjs];decide) hsh (Nat.zero_lt_succ 1)];simp only[Result.andThen];rw[Oper.upon_value];go_wp2;rw[run_callFunc_extern func167 (by kernel_rfl) (by kernel_rfl) (by kernel_rfl) (e:=Extern.AbiNoEscape.same) (by kernel_rfl)];rw[Lib.run_noEscape];simp only[Result.andThen];rw[Oper.upon_value];go_wp2;rw[Lib.run_from_unsafe w ⟨b,0,none⟩ underlying104 underlying116 hj hsh Tryz.liesBld];simp only[Result.andThen];rw[Oper.upon_value];go_wp2
 go_end0
 exact⟨rfl,rfl⟩
def zby(B b:Nat)(bs:List Value)(w:World)(h:Lib.IsBuilderF 118 5 B b bs w):
  Calls prog 133 #[.pointer (some ⟨b,0,none⟩)] w λe w'=>e=.returned (.tuple #[])/\(Lib.BuilderAtF 118 5 B b (.pointer (some ⟨b,0,none⟩)) bs w'/\Below B w w'/\Lib.OthersKept 5 (some b) w w'):=by
 rcases h with h|h
 ·refine(zg8 b w h.cell0 h.shape h.frozen0).mono ?_
  rintro e w' ⟨rfl,rfl⟩;exact⟨rfl,h.used _,(Below.refl B w).setCell (p:=⟨b,0,none⟩) h.1 _,(Lib.OthersKept.refl _ _ w).setCell ⟨b,0,none⟩ rfl _⟩
 ·refine(ze4 b w h.cell0).mono ?_
  rintro e w' ⟨rfl,rfl⟩;exact⟨rfl,h,Below.refl B _,Lib.OthersKept.refl _ _ _⟩
def zg9(B b:Nat)(bs:List Value)(s:ByteArray)(w:World)(h:Lib.IsBuilderF 118 5 B b bs w)(hlen:bs.length+s.size<=140737488355328)(hBw:B<=w.heap.size):
  Calls prog 89 #[.pointer (some ⟨b,0,none⟩),.string s] w λe w'=>e=.returned (.tuple #[.int .i64 s.size,.nilIface])/\(Lib.BuilderAtF 118 5 B b (.pointer (some ⟨b,0,none⟩)) (bs++Lib.strCells s) w'/\Below B w w'/\Lib.OthersKept 5 (some b) w w'):=by
 obtain⟨i0,hi,hz0,hz1,hz2⟩:=info_parts Tryz.infoU8
 go_enter func89,ntmps89
 go_wp2_with fail
 refine(zby B b bs _ h).mono ?_;rintro e w1 ⟨rfl,h1,hb1,hk1⟩;obtain⟨hB,v,hbk,hown,hne⟩:=h1
 have c0:w1.cell? ⟨b,0,none⟩=some (.pointer (some ⟨b,0,none⟩)):=by rw[Lib.cell_of_heap hbk];rfl
 have c1:w1.cell? ⟨b,1,none⟩=some v:=by rw[Lib.cell_of_heap hbk];rfl
 go_wp2_with (at_builtin;refine Lib.wpList_append_own_stringF _ rfl _ _ 30 9 rfl B 5 i0 underlying30 underlying9 hi hz0 hz1 hz2 _ _ _ rfl hown s rfl ?c3 ?c4 ?c5 ?_)
 case c3=>unfold maxLen;omega
 case c4=>omega
 case c5=>have:=hb1.size;omega
 intro v' w2 hown' hgrow _;have hlt:b<w1.heap.size:=by
  rcases Nat.lt_or_ge b w1.heap.size with h'|h'
  ·exact h'
  ·simp[Array.getElem?_eq_none h']at hbk
 have hb2:w2.heap[b]?=some (.cells #[.pointer (some ⟨b,0,none⟩),v] 118 (0,0)):=by
  rw[hgrow.block b hlt (λe=>hne e.symm)];exact hbk
 have d0:w2.cell? ⟨b,0,none⟩=some (.pointer (some ⟨b,0,none⟩)):=by rw[Lib.cell_of_heap hb2];rfl
 have d1:w2.cell? ⟨b,1,none⟩=some v:=by rw[Lib.cell_of_heap hb2];rfl
 have f1:w2.frozen? ⟨b,1,none⟩=false:=Lib.frozen_of_heap hb2 1;obtain⟨ao,n',cap,rfl⟩:∃ao n' cap,v'=.slice ao n' cap:=by
  rcases hown'.2 with⟨hv,_⟩|⟨g,cap,cur,fz,hv,_⟩
  ·exact⟨_,_,_,hv⟩
  ·exact⟨_,_,_,hv⟩
 go_wp2
 go_ret2
 refine⟨rfl,?_,?_,(hk1.grown hgrow (Lib.ownsRowF_kind hown)).setCell ⟨b,1,none⟩ rfl _⟩
 ·exact Lib.BuilderAtF.put (T:=118) (e:=5) hB hb2 (bs':=bs++Lib.strCells s) (by simpa [Lib.strCells_length] using hown') (by decide)
 ·exact(hb1.grown hgrow (by have:=hb1.size;omega) (λk hk=>(hown.lt k hk).1)).setCell (p:=⟨b,1,none⟩) hB _
structure Wr(b:Nat)(w w':World):Prop where
 bl:Below b w w'
 ok:Lib.OthersKept 5 (some b) w w'
def Wr.refl(b:Nat)(w:World):Wr b w w:=⟨Below.refl _ _,Lib.OthersKept.refl _ _ _⟩
def Wr.trans{b:Nat}{w w1 w2:World}(h:Wr b w w1)(k:Wr b w1 w2):Wr b w w2:=⟨h.bl.trans k.bl,h.ok.trans k.ok⟩
def Wr.below{b:Nat}{w w1 w2:World}(h:Wr b w w1)(k:Below w1.heap.size w1 w2)(hb:b<=w1.heap.size):Wr b w w2:=
 ⟨h.bl.trans (k.mono hb),λi o hi hb' ho=>by
  have h1:=h.ok i o hi hb' ho
  exact(k.block i (Array.getElem?_eq_some_iff.1 h1).1).trans h1⟩
def Wr.row{b:Nat}{w w1:World}(h:Wr b w w1){k:Nat}{c:Array Value}{t:TypeId}{fz:Nat×Nat}(hk:w.heap[k]?=some (.cells c t fz))(hkb:k≠b)(ht:t≠5):w1.heap[k]?=some (.cells c t fz):=
 h.ok k _ hk (λe=>hkb (Option.some.inj e)) (λ_ _ e=>by injection e with _ e2;exact ht e2)
def Vs.lt{w:World}(h:Vs w):1<w.heap.size:=by
 obtain⟨_,_,h⟩:=h;exact(Array.getElem?_eq_some_iff.1 h).1
def Vs.wr{b:Nat}{w w':World}(h:Vs w)(hg:1<b)(hb:Below b w w'):Vs w':=by
 obtain⟨ty,fz,h⟩:=h;exact⟨ty,fz,(hb.block _ hg).trans h⟩
def zu0{B b:Nat}{bs:List Value}{p:Value}{w w':World}(h:Lib.BuilderAtF 118 5 B b p bs w)(hb:Below w.heap.size w w'):Lib.BuilderAtF 118 5 B b p bs w':=by
 obtain⟨hB,v,hbk,hown,hne⟩:=h;refine⟨hB,v,(hb.block b (Array.getElem?_eq_some_iff.1 hbk).1).trans hbk,⟨hown.1,?_⟩,hne⟩;rcases hown.2 with hn|⟨g,cap,cur,fz,hv,hbg,hg,rest⟩
 ·exact .inl hn
 ·exact .inr ⟨g,cap,cur,fz,hv,hbg,(hb.block g (Array.getElem?_eq_some_iff.1 hg).1).trans hg,rest⟩
def zv3(b:Nat)(bs s:List UInt8)(w:World)(h:Lib.IsBuilderF 118 5 b b (Lib.byteCells bs) w)(hb:b<=w.heap.size)(hlen:bs.length<=100000000)(hl:s.length<=100000000):
  Calls prog 89 #[.pointer (some ⟨b,0,none⟩),.string ⟨s.toArray⟩] w λe w'=>(∃v,e=.returned v)/\Lib.BuilderAtF 118 5 b b (.pointer (some ⟨b,0,none⟩)) (Lib.byteCells (bs++s)) w'/\Wr b w w':=by
 have hsz:(⟨s.toArray⟩:ByteArray).size=s.length:=by show s.toArray.size=_;simp
 refine(zg9 b b _ ⟨s.toArray⟩ w h (by rw[Lib.byteCells_length,hsz];omega) hb).mono ?_;rintro e w' ⟨rfl,h1,h2,h3⟩;rw[Lib.byteCells_append];exact⟨⟨_,rfl⟩,h1,h2,h3⟩
def zo8(b:Nat)(bs ws:List UInt8)(nv:Value)(xs:List Int)(w:World)(h:Lib.IsBuilderF 118 5 b b (Lib.byteCells bs) w)(hb:b<=w.heap.size)
  (hI:∀W,Wr b w W->Zy W.heap.size W nv xs) (hx:∀x∈xs,0<=x/\x<2147483648) (hp:Vs w) (hpb:1<b) (hbs:bs.length<=10000000) (hws:ws.length<=1000) (hn:xs.length<=1000):
  Calls prog 46 #[.pointer (some ⟨b,0,none⟩),.string ⟨ws.toArray⟩,nv] w λe w'=>e=.returned (.tuple #[])/\Lib.BuilderAtF 118 5 b b (.pointer (some ⟨b,0,none⟩)) (Lib.byteCells (bs++ws++Fl.spaced xs)) w'/\Wr b w w':=by
 obtain⟨ao,cap,rfl,hl,hcap,-⟩:=id (hI w (Wr.refl _ _));have HI:Hid _:=hI;have HP:Hid (Vs w):=hp;have HW:=zv3 b bs ws w h hb (by omega) (by omega);have HX:Hid _:=hx;clear hI hp h hx
 go_enter func46,ntmps46
 go_wp2_with fail
 refine HW.mono ?_;rintro e w1 ⟨⟨v1,rfl⟩,hb1,hw1⟩;clear HW;have HB1:Hid _:=hb1;have HW1:Hid (Wr b w w1):=hw1;clear hb1 hw1
 go_wp2_with fail
 go_loopw [13] (λi wr=>∃k:Nat,k<=xs.length/\i=.int .i64 k/\Lib.BuilderAtF 118 5 b b (.pointer (some ⟨b,0,none⟩)) (Lib.byteCells (bs++ws++Fl.blanks (xs.take k))) wr/\Wr b w wr) (λi _=>xs.length - (intOf i).toNat)
 case atStart=>exact⟨0,by omega,rfl,by rw[show bs++ws++Fl.blanks (xs.take 0)=bs++ws from by simp[Fl.blanks]];exact HB1.out,HW1.out⟩
 case round=>
  clear HB1 HW1;obtain⟨k,hk,rfl,hbk,hwr⟩:=hrel;have hbl:(Fl.blanks (xs.take k)).length<=19000:=by
   have:=zg6 (xs.take k) (λx hx=>by have:=HX.out x (List.mem_of_mem_take hx);omega);rw[List.length_take]at this;omega
  have hbz:b<=wr.heap.size:=Nat.le_trans hb hwr.bl.size;have HWR:Hid (Wr b w wr):=hwr
  by_cases hlt:k<xs.length
  ·obtain⟨ao',cap',heq,_,_,hc⟩:=HI.out wr hwr
   simp only[Value.slice.injEq]at heq;obtain⟨rfl,-,rfl⟩:=heq;obtain⟨g,off,rfl,_,hcell⟩:=hc (by intro h;rw[h]at hlt;simp at hlt);have hck:=hcell k hlt;have hxr:=HX.out (xs.getD k 0) (by rw[List.getD_eq_getElem?_getD,List.getElem?_eq_getElem hlt];simp);obtain⟨v,hv⟩:∃v:Nat,xs.getD k 0=(v:Int):=⟨(xs.getD k 0).toNat,by omega⟩;have hvn:v<2147483648:=(by omega);have HS:Hid (bs++ws++Fl.blanks (xs.take (k+1))=(bs++ws++Fl.blanks (xs.take k)++[32])++Lib.decDigits v):=by
    show _=_;rw[Fl.blanks_take xs k hlt,hv];simp
   rw[hv]at hck;have HW2:=zv3 b (bs++ws++Fl.blanks (xs.take k)) [32] wr (.inr hbk) hbz (by simp only[List.length_append];omega) (by simp);have HPW:Hid (Vs wr):=HP.out.wr hpb hwr.bl;clear hcell hc hv hxr hbk hwr
   go_wp2_with fail
   refine HW2.mono ?_;rintro e w2 ⟨⟨v2,rfl⟩,hb2,hw2⟩;have HB2:Hid _:=hb2;have HWR2:Hid (Wr b w w2):=HWR.out.trans hw2;have hbz2:b<=w2.heap.size:=Nat.le_trans hbz hw2.bl.size;have HIT:=zj6 v w2 (by omega) (HPW.out.wr hpb hw2.bl);clear HW2 hb2 hw2 hck
   go_wp2_with fail
   refine HIT.mono ?_;rintro e w3 ⟨rfl,hb3⟩;have hdl:=zo7 v (by omega);have HW3:=zv3 b (bs++ws++Fl.blanks (xs.take k)++[32]) (Lib.decDigits v) w3 (.inr (zu0 HB2.out hb3)) (Nat.le_trans hbz2 hb3.size) (by simp only[List.length_append,List.length_singleton];omega) (by omega);have HWR3:Hid (Wr b w w3):=HWR2.out.below hb3 hbz2;clear HIT hb3 hbz2 hbz
   go_wp2_with fail
   refine HW3.mono ?_;rintro e w4 ⟨⟨v4,rfl⟩,hb4,hw4⟩;have HB4:Hid _:=hb4;have HWR4:Hid (Wr b w w4):=HWR3.out.trans hw4;clear HW3 hb4 hw4 hdl;go_wp2
   go_roundw
   case rel=>exact⟨k+1,by omega,by go_num,by rw[HS.out];exact HB4.out,HWR4.out⟩
   case measure=>simp[intOf];omega
  ·have HW2:=zv3 b (bs++ws++Fl.blanks (xs.take k)) [10] wr (.inr hbk) hbz (by simp only[List.length_append];omega) (by simp)
   have HS:Hid (bs++ws++Fl.blanks (xs.take k)++[10]=bs++ws++Fl.spaced xs):=by
    show _=_;rw[Fl.spaced,List.take_of_length_le (by omega)];simp
   clear hbk hwr
   go_wp2_with fail
   refine HW2.mono ?_;rintro e w2 ⟨⟨v2,rfl⟩,hb2,hw2⟩;have HB2:Hid _:=hb2;have HWR2:Hid (Wr b w w2):=HWR.out.trans hw2;clear HW2 hb2 hw2;go_wp2
   go_end0
   exact⟨rfl,by rw[<-HS.out];exact HB2.out,HWR2.out⟩
def zx9(s:List UInt8)(P B:Nat)(W0:World)(i:Nat)(rest:List UInt8)(W:World):Prop:=∃ls lv nv acc lvs,Xd s P B W0 W i rest ls lv nv acc lvs
def zs4(s:List UInt8)(P B:Nat)(W0:World)(n p:Int)(W:World):Prop:=n=2/\((Fl.readText s).2:Int)=p/\0<(Fl.readText s).2/\Below P W0 W/\Mid P B W0 W/\B<=W.heap.size
def zx9.below{s:List UInt8}{P B:Nat}{W0:World}{i:Nat}{rest:List UInt8}{W W':World}(h:zx9 s P B W0 i rest W)(hb:Below W.heap.size W W'):zx9 s P B W0 i rest W':=by
 obtain⟨ls,lv,nv,acc,lvs,h⟩:=h;exact⟨ls,lv,nv,acc,lvs,h.below hb⟩
def Zh.lt{w:World}(h:Zh w):2<w.heap.size:=by
 obtain⟨_,h⟩:=h;exact World.block_lt_of_cell? w _ h
def Zh.wr{b:Nat}{w w':World}(h:Zh w)(hg:2<b)(hb:Below b w w'):Zh w':=by
 obtain⟨m,h⟩:=h;exact⟨m,(hb.cell (p:=⟨2,0,none⟩) hg).trans h⟩
def yq7{s:List UInt8}{P T B:Nat}{W0:World}(rest:List UInt8)(W:World)(b n:Nat)(h:zx9 s P B W0 0 rest W)(hc:(Lib.cut rest [10]).2.2=true)(hn:n=(Fl.cutR 32 (Lib.cut rest [10]).1).length)
  (hv:Zg W.heap.size W (.slice (some ⟨b,0,none⟩) n n) (Fl.cutR 32 (Lib.cut rest [10]).1)):
  Calls prog 56 #[.int .i64 1,.slice (some ⟨b,0,none⟩) n n,.pointer (some ⟨P,0,none⟩),.pointer (some ⟨T,0,none⟩)] W λe W'=>(e=.returned (.tuple #[])/\zx9 s P B W0 1 (Lib.cut rest [10]).2.1 W')\/∃n p,e=.panicked (Zl n p)/\zs4 s P B W0 n p W':=by
 obtain⟨ls,lv,nv,acc,lvs,h⟩:=h;subst hn;have hne:0<(Fl.cutR 32 (Lib.cut rest [10]).1).length:=List.length_pos_iff.2 (Fl.cutR_ne _ _);have HL:=ze2 W.heap.size b _ _ W hv (Nat.le_refl _) hne;obtain⟨ov,hov⟩:∃ov,ov=Fl.localsOf (Fl.cutR 32 (Lib.cut rest [10]).1):=⟨_,rfl⟩;rw[<-hov]at HL;generalize (Fl.cutR 32 (Lib.cut rest [10]).1).length=n at*;have HOV:Hid (ov=Fl.localsOf (Fl.cutR 32 (Lib.cut rest [10]).1)):=hov;have HR:Hid (Xd s P B W0 W 0 rest ls lv nv acc lvs):=h;have HCU:Hid ((Lib.cut rest [10]).2.2=true):=hc;clear hv hov hc h hne
 go_enter func56,ntmps56
 go_wp2_with fail
 refine HL.mono ?_;rintro e w1 ⟨v,rfl,ho,hb⟩;obtain⟨vao,vcap,rfl⟩:=Yt ho;have G1:=HR.out.hg.below hb;have q0:=G1.c0;have qf:=G1.fq;have HO:Hid (w1.ownsRow W.heap.size 3 1 (.slice vao (ov.getD []).length vcap) (ov.getD []).length ((ov.getD []).map (Value.int .i64))):=ho;have HB:Hid (Below W.heap.size W w1):=hb;clear ho hb G1 HL
 cases ov with
 |none=>
  have HBAD:Hid ((Fl.readText s).2=1):=HR.out.bad0 HCU.out HOV.out.symm;have HST:Hid (∀u W',Below (w1.setCell ⟨P,0,none⟩ u).heap.size (w1.setCell ⟨P,0,none⟩ u) W'->zs4 s P B W0 2 1 W'):=by
   intro u W' hw;have hz:(w1.setCell ⟨P,0,none⟩ u).heap.size=w1.heap.size:=(by simp[World.setCell]);have hP:=(HR.out.hg.below HB.out).hz;have hB:=Nat.le_trans HR.out.hz HB.out.size;have hsz:=hw.size;refine⟨rfl,by rw[HBAD.out];rfl,by rw[HBAD.out];decide,((HR.out.hg.below HB.out).hb.setCell (Nat.le_refl _) u).trans (hw.mono (by omega)),((HR.out.hm.below HR.out.hz HB.out).set 0 u).below (by omega) hw,by omega⟩
  go_wp2_with fail
  refine(Jj 2 1 _).mono ?_;rintro e w2 ⟨rfl,hb2⟩;exact⟨rfl,.inr ⟨_,_,rfl,HST.out _ _ hb2⟩⟩
 |some vs=>
  have HNX:Hid (Xd s P B W0 (w1.setCell ⟨P,0,none⟩ (.slice vao vs.length vcap)) 1 (Lib.cut rest [10]).2.1 vs (.slice vao vs.length vcap) nv acc lvs):=HR.out.first HB.out HO.out HCU.out HOV.out.symm;clear HO;go_wp2
  go_end0
  exact .inl ⟨rfl,_,_,_,_,_,HNX.out⟩
def ym4{s:List UInt8}{P T B:Nat}{W0:World}(hs:s.length<=40000)(hpw:Vs W0)(hgp:1<P)(hT:W0.heap[T]?=some (.cells Zu 98 (0,0)))(hPT:P<T)(hTB:T<B)
  (i:Nat) (rest:List UInt8) (W:World) (b n:Nat) (h:zx9 s P B W0 (i+1) rest W) (hc:(Lib.cut rest [10]).2.2=true) (hn:n=(Fl.cutR 32 (Lib.cut rest [10]).1).length)
  (hv:Zg W.heap.size W (.slice (some ⟨b,0,none⟩) n n) (Fl.cutR 32 (Lib.cut rest [10]).1)):
  Calls prog 56 #[.int .i64 ((i:Int)+1+1),.slice (some ⟨b,0,none⟩) n n,.pointer (some ⟨P,0,none⟩),.pointer (some ⟨T,0,none⟩)] W λe W'=>(e=.returned (.tuple #[])/\zx9 s P B W0 (i+2) (Lib.cut rest [10]).2.1 W')\/∃n p,e=.panicked (Zl n p)/\zs4 s P B W0 n p W':=by
 obtain⟨ls,lv,nv,acc,lvs,h⟩:=h
 have ha:acc.length=i:=by have:=h.ha;omega
 have hl:=h.hl;have hwl:(Fl.cutR 32 (Lib.cut rest [10]).1).length<=50000:=by
  have h1:=(zt5 32 (Lib.cut rest [10]).1).1;have hcf:=Fl.cut_found 10 rest hc;have h2:=(zt5 10 rest).2 (Lib.cut rest [10]).1 (by rw[hcf.1];exact List.mem_cons_self);omega
 have HN:=yxz P T nv acc lvs (Fl.cutR 32 (Lib.cut rest [10]).1) b n W h.hg.hn h.hg.c1 h.hg.fq ((h.hm T hPT hTB).trans hT) (hpw.wr hgp h.hg.hb) (by rw[<-hn];exact hv) (by omega) hwl;rw[ha,<-hn]at HN;have HR:Hid (Xd s P B W0 W (i+1) rest ls lv nv acc lvs):=h;have HCU:Hid ((Lib.cut rest [10]).2.2=true):=hc
 have b1:(((i:Int)+1+1)==1)=false:=by rw[beq_eq_false_iff_ne];omega
 have hi:(i:Int)<=100000:=by omega
 have HHN:Hid (Calls prog 58 #[.pointer (some ⟨P,0,none⟩),.pointer (some ⟨T,0,none⟩),.slice (some ⟨b,0,none⟩) n n] W (zq1 (Fl.nodeOf i (Fl.cutR 32 (Lib.cut rest [10]).1)) P nv acc lvs W)):=HN;clear hv hc h hn HN ha hl hwl hT hpw
 go_enter func56,ntmps56
 go_wp2_with fail
 refine HHN.out.mono ?_;rintro e w1 (⟨ho,rfl,hb⟩|⟨nd,wa,wb,nv',lvn,ho,rfl,h1,h2,h3,h4,h5,h6,rfl⟩)
 ·have HBAD:Hid ((Fl.readText s).2=i+2):=HR.out.bad HCU.out ho
  have HST:Hid (∀W',Below w1.heap.size w1 W'->zs4 s P B W0 2 ((i:Int)+1+1) W'):=by
   intro W' hw;have h':=(HR.out.below hb).below hw;exact⟨rfl,by rw[HBAD.out];omega,by rw[HBAD.out];omega,h'.hg.hb,h'.hm,h'.hz⟩
  clear ho hb HHN
  go_wp2_with fail
  refine(Jj 2 _ _).mono ?_;rintro e w2 ⟨rfl,hb2⟩;exact⟨rfl,.inr ⟨_,_,rfl,HST.out _ hb2⟩⟩
 ·have HNX:Hid (zx9 s P B W0 (i+2) (Lib.cut rest [10]).2.1 (wb.setCell ⟨P,1,none⟩ nv')):=⟨_,_,_,_,_,HR.out.next h1 h2 h3 h4 h5 h6 HCU.out ho⟩
  clear ho h1 h2 h3 h4 h5 h6 HHN;go_wp2
  go_end0
  exact .inl ⟨rfl,HNX.out⟩
structure za0(s:List UInt8)(Sx P T B:Nat)(W0:World):Prop where
 hs:s.length<=40000
 hpw:Vs W0
 hgp:1<P
 hmx:Zh W0
 hgm:2<P
 hT:W0.heap[T]?=some (.cells Zu 98 (0,0))
 hPT:P<T
 hTB:T<B
 hB:B<=W0.heap.size
 hSx:W0.cell? ⟨Sx,0,none⟩=some (.string ⟨s.toArray⟩)
 p0:W0.cell? ⟨P,0,none⟩=some (.slice none 0 0)
 p1:W0.cell? ⟨P,1,none⟩=some (.slice none 0 0)
 pf:∀j,W0.frozen? ⟨P,j,none⟩=false
def za0.begin{s:List UInt8}{Sx P T B:Nat}{W0:World}(h:za0 s Sx P T B W0):zx9 s P B W0 0 s W0:=by
 have hP:P<W0.heap.size:=World.block_lt_of_cell? W0 _ h.p0;refine⟨[],.slice none 0 0,.slice none 0 0,[],[],zz0.new (Below.refl _ _) hP (Zy.nil _ _) (Nat.le_refl _) (λh=>absurd rfl h) h.p0 h.p1 h.pf,rfl,rfl,λ_=>⟨rfl,rfl⟩,Mid.refl _ _ _,λb hb=>by simp[Value.ownBlock]at hb,?_,h.hB,by omega⟩;intro p hp hne;simp only[Ye,List.mem_singleton]at hp;subst hp;exact absurd rfl hne
def RdEnds(s:List UInt8)(P B:Nat)(W0:World)(e:Ending)(W:World):Prop:=
 (e=.returned (.tuple #[])/\∃i,0<i/\zx9 s P B W0 i [] W)\/∃n p,e=.panicked (Zl n p)/\zs4 s P B W0 n p W
def yj2{s:List UInt8}{Sx P T B:Nat}{W0:World}(h:za0 s Sx P T B W0):
  Calls prog 54 #[.pointer (some ⟨Sx,0,none⟩),.pointer (some ⟨P,0,none⟩),.pointer (some ⟨T,0,none⟩)] W0 (RdEnds s P B W0):=by
 have hmf:∀(fn:Fn) (first cap:Array Value) (w:World),(Instr.makeFunc fn first cap).run prog w=.ok (.func fn first cap) w:=λ_ _ _ _=>rfl;have hE:=yj0 56 #[.pointer (some ⟨P,0,none⟩),.pointer (some ⟨T,0,none⟩)] s W0 (zx9 s P B W0) (zs4 s P B W0) (λargs W=>by kernel_rfl) (λi s W W' h hb=>h.below hb)
  (λi s' W hst=>by obtain⟨_,_,_,_,_,hr⟩:=hst;exact h.hmx.wr h.hgm hr.hg.hb)
  (λi s' W hst=>by obtain⟨_,_,_,_,_,hr⟩:=hst;have:=hr.hl;have:=h.hs;omega)
  (λi s' W hst hgo hc=>by obtain⟨_,_,_,_,_,hr⟩:=hst;have he:=hr.open hgo hc;exact⟨rfl,by rw[he];rfl,by rw[he];omega,hr.hg.hb,hr.hm,hr.hz⟩)
  (λi s' W b n hst hgo hc hn hv=>by
   match i,hst,hgo with
   |0,hst,hgo=>exact yq7 s' W b n hst hc hn hv
   |i+1,hst,hgo=>exact ym4 h.hs h.hpw h.hgp h.hT h.hPT h.hTB i s' W b n hst hc hn hv) h.begin
 have HE:Hid (Calls prog 55 #[.string ⟨s.toArray⟩,.func (.func 56) #[] #[.pointer (some ⟨P,0,none⟩),.pointer (some ⟨T,0,none⟩)]] W0 (zt6 (zx9 s P B W0) (zs4 s P B W0))):=hE;have q:=h.hSx;clear hE h
 go_enter func54,ntmps54
 go_wp2_with fail
 refine HE.out.mono ?_;rintro e w1 (⟨i,rfl,hi,hst⟩|⟨n,p,rfl,hp⟩)
 ·have HST:Hid (zx9 s P B W0 i [] w1):=hst
  have HI:Hid (0<i):=hi;clear hst hi HE;go_wp2
  go_end0
  exact .inl ⟨rfl,i,HI.out,HST.out⟩
 ·exact⟨rfl,.inr ⟨_,_,rfl,hp⟩⟩
end Go.Proofs.YtminjljgedopkaaGreatDoor
