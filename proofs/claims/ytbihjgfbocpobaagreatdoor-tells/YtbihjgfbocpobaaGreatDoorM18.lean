/- Texts Cdf Cdg CdKey Cdh. -/
import Derived.Test.YtbihjgfbocpobaaGreatDoorM17
import Derived.Laws.CopyOwn
import Derived.DeepKeys4
import Derived.Maps.OwnSet
/- The program: a node is read. -/
set_option linter.unusedSimpArgs false
set_option linter.unusedVariables false
namespace Go.Proofs.YtbihjgfbocpobaaGreatDoor
open Go.RowKit

set_option maxRecDepth 100000 in
set_option maxHeartbeats 8000000 in
theorem node_walk {b : Nat} {ao : Option Addr} {cap : Nat} {s : List UInt8} {p : Nat} {w : World} (h : Dr w b ao cap s p) (hr : RulesAt w b 2) (k : Nat) (hk : k ≤ 200) :
    Calls Tryz.prog 71 #[.pointer (some ⟨b, 0, none⟩), .int .i64 k] w fun e w' => NodeEnds (Fl.one s p k) b w e w' := by
  have hlb := h.lt
  have hp := h.hp
  have hs := h.hs
  have hc1 : ∀ o, (w.alloc o).cell? ⟨b, 1, none⟩ = some (.int .i64 p) := fun o => by rw [World.cell?_alloc_past _ _ _ hlb]; exact h.c1
  have HD : Hid (Dr w b ao cap s p) := h
  have HR : Hid (RulesAt w b 2) := hr
  clear h hr
  go_enter Tryz.func71, Tryz.ntmps71
  go_wp2_with fail
  obtain ⟨W0, hW0⟩ : ∃ W0, W0 = w.alloc (.cells #[.int .i64 0, .int .i64 0, .int .i64 0, .int .i64 0, .int .i64 0, .slice none 0 0] 53) := ⟨_, rfl⟩
  rw [← hW0]
  have hm0 : Mv w W0 b := by rw [hW0]; exact (Mv.refl w b).alloc hlb _
  have hcc : W0.cell? ⟨b, 1, none⟩ = some (.int .i64 p) := by rw [hW0]; exact hc1 _
  have HM0 : Hid (Mv w W0 b) := hm0
  have HD0 : Hid (Dr W0 b ao cap s p) := HD.out.move hm0 hcc hp
  have HR0 : Hid (Nd W0 w.heap.size 0 0 0 0 0 (.slice none 0 0)) := by rw [hW0]; exact Nd.new _ _ _ _ _ _ _ _
  have hz0 : W0.heap.size = w.heap.size + 1 := by rw [hW0]; simp
  have HZ0 : Hid (W0.heap.size = w.heap.size + 1) := hz0
  clear hm0 hc1 hW0 hz0
  by_cases hlt : p < s.length
  · refine (next_ok HD0.out hlt).mono ?_
    rintro e w1 ⟨rfl, hm1, hd1⟩
    obtain ⟨x, hx⟩ : ∃ x, x = (s.getD p 0).toNat := ⟨_, rfl⟩
    rw [← hx]
    have hx256 : x < 256 := by rw [hx]; exact (s.getD p 0).toNat_lt
    have HX : Hid (x = (s.getD p 0).toNat) := hx
    have HM1 : Hid (Mv w w1 b) := HM0.out.trans hm1
    have hz1 : w.heap.size + 1 ≤ w1.heap.size := by have := hm1.g.size; have := HZ0.out; omega
    have HR1 : Hid (Nd w1 w.heap.size 0 0 0 0 0 (.slice none 0 0)) := HR0.out.grown hm1.g (by simp; omega)
    have HD1 : Hid (Dr w1 b ao cap s (p + 1)) := HD0.out.move hm1 hd1 (by omega)
    clear hx hm1 hd1 hcc
    by_cases hx8 : x < 8
    · have hd8 : decide ((x : Int) < 8) = true := decide_eq_true (by omega)
      have hd8n : decide (x < 8) = true := decide_eq_true hx8
      go_wp2_with fail
      obtain ⟨W1, hW1⟩ : ∃ W1, W1 = w1.alloc (.cells #[.int .i64 x, .int .i64 0, .int .i64 0, .int .i64 0, .int .i64 0, .slice none 0 0] 53) := ⟨_, rfl⟩
      rw [← hW1]
      obtain ⟨N, hN⟩ : ∃ N, N = w1.heap.size := ⟨_, rfl⟩
      have hNd : Nd W1 N x 0 0 0 0 (.slice none 0 0) := by rw [hW1, hN]; exact Nd.new _ _ _ _ _ _ _ _
      have hwN : w.heap.size < N := by omega
      have HR2 : Hid (Nd W1 w.heap.size 0 0 0 0 0 (.slice none 0 0)) := by rw [hW1]; exact HR1.out.grown (World.grownBy_alloc _ _ none) (by simp)
      rw [← hN]
      have HM2 : Hid (Mv w W1 b) := by rw [hW1]; exact HM1.out.alloc hlb _
      have HD2 : Hid (Dr W1 b ao cap s (p + 1)) := by rw [hW1]; exact HD1.out.move ((Mv.refl w1 b).alloc HD1.out.lt _) (by rw [World.cell?_alloc_past _ _ _ HD1.out.lt]; exact HD1.out.c1) (by omega)
      have HND : Hid (Nd W1 N x 0 0 0 0 (.slice none 0 0)) := hNd
      have n0 := hNd.c0
      clear hW1 hN hNd HD1
      refine (need_ok _ _ _).mono ?_
      rintro e w' ⟨rfl, rfl⟩
      go_wp2_with fail
      go_quiet (fail)
      go_wp2_with fail
      obtain ⟨W2, hW2⟩ : ∃ W2, W2 = w'.drewN nq := ⟨_, rfl⟩
      rw [← hW2]
      have HM3 : Hid (Mv w W2 b) := by rw [hW2]; exact HM2.out.drewN _
      have HD3 : Hid (Dr W2 b ao cap s (p + 1)) := by rw [hW2]; exact HD2.out.move ((Mv.refl w' b).drewN _) HD2.out.c1 (by omega)
      have HN3 : Hid (Nd W2 N x 0 0 0 0 (.slice none 0 0)) := by rw [hW2]; exact HND.out.drewN _
      have HR3 : Hid (Nd W2 w.heap.size 0 0 0 0 0 (.slice none 0 0)) := by rw [hW2]; exact HR2.out.drewN _
      clear n0 hW2 HM2 HD2 HND HR2 HR1 HM1 HR0 HM0 HD0 HZ0
      refine (number_max HD3.out).mono ?_
      rintro e w2 ⟨hm2, hbad, hgood⟩
      by_cases hv : (Fl.num s (p + 1)).2.1 < 0
      · obtain rfl := hbad hv
        exact ⟨rfl, nodeEnds_bad (one_level_bad hlt HX.out hx8 hv) (HM3.out.trans hm2)⟩
      · obtain ⟨rfl, hd2⟩ := hgood hv
        obtain ⟨v, q, hnum, hpq, hqs, hv31⟩ := num_split s (p + 1) (by omega) hv
        rw [hnum] at hd2 ⊢
        simp only at hd2 ⊢
        have HNUM : Hid (Fl.num s (p + 1) = ((v : Int), (q : Int), 0)) := hnum
        have HM4 : Hid (Mv w w2 b) := HM3.out.trans hm2
        have hbN : b ≠ N := by omega
        have hN4 := HN3.out.grown hm2.g (by simpa using fun h => hbN h.symm)
        have HR4 : Hid (Nd w2 w.heap.size 0 0 0 0 0 (.slice none 0 0)) := HR3.out.grown hm2.g (by simp; omega)
        have k1 := hN4.c1
        have kf := hN4.f
        have HN4 : Hid (Nd w2 N x 0 0 0 0 (.slice none 0 0)) := hN4
        have HD4 : Hid (w2.cell? ⟨b, 1, none⟩ = some (.int .i64 (q : Int))) := hd2
        clear hv hbad hgood hnum hd2 hN4 hm2
        go_wp2_with fail
        obtain ⟨W3, hW3⟩ : ∃ W3, W3 = w2.setCell ⟨N, 1, none⟩ (.int .i64 (v : Int)) := ⟨_, rfl⟩
        rw [← hW3]
        have g3 : w2.grownBy W3 (some N) := by rw [hW3]; exact grown_set _ _ _ _
        have HM5 : Hid (Mv w W3 b) := by rw [hW3]; exact HM4.out.andSet hlb (by omega) _ _
        have HN5 : Hid (Nd W3 N x v 0 0 0 (.slice none 0 0)) := by rw [hW3]; exact HN4.out.set1 _
        have HR5 : Hid (Nd W3 w.heap.size 0 0 0 0 0 (.slice none 0 0)) := HR4.out.grown g3 (by simp; omega)
        have HD5 : Hid (W3.cell? ⟨b, 1, none⟩ = some (.int .i64 (q : Int))) := g3.cell HD4.out (by simpa using hbN)
        have hNW := HN5.out.lt
        clear hW3 g3 HM4 HN4 HR4 HD4 k1 kf HD3 HN3 HR3 HM3
        have hrx := (HR.out.move HM5.out (by omega)) x hx8
        refine (places_any b (2 + x * 4) N (numF x) W3 (numF_le x) (HM5.out.lt hlb) hrx.1).mono ?_
        rintro e w3 ⟨rfl, hw3⟩
        have HL : Hid (NodeLoop s q (numF x) w w3 b N W3.heap.size x v 0 q []) := by
          have g4 : W3.grownBy w3 none := by rw [hw3]; exact ⟨rfl, rfl, rfl, by simp, fun k hk _ => Below.heap_alloc _ _ _ hk⟩
          refine ⟨⟨by omega, hqs, rfl, rfl⟩, HM5.out.andGrown g4 hlb (fun k e => by cases e), g4.cell HD5.out (by simp), HN5.out.grown g4 (by simp), HR5.out.grown g4 (by simp), ?_, ?_, ?_, hwN, hNW⟩
          all_goals (rw [hw3]; simp)
        obtain ⟨PB, hPB⟩ : ∃ PB, PB = W3.heap.size := ⟨_, rfl⟩
        rw [← hPB] at HL ⊢
        have hnf := numF_le x
        obtain ⟨f, hf⟩ : ∃ f, f = numF x := ⟨_, rfl⟩
        rw [← hf] at HL hnf ⊢
        have HF : Hid (f = numF x) := hf
        clear hPB hw3 HM5 HN5 HR5 HD5 hrx hf
        go_wp2_with fail
        go_loopw [36] (fun i wr => ∃ (j q' : Nat) (xs : List Int), i = .int .i64 j ∧ NodeLoop s q f w wr b N PB x v j q' xs) (fun i _ => f - (intOf i).toNat)
        case atStart => exact ⟨0, q, [], rfl, HL.out⟩
        case round =>
          clear HL
          obtain ⟨j, q', xs, rfl, hl⟩ := hrel
          have HL : Hid (NodeLoop s q f w wr b N PB x v j q' xs) := hl
          have hjf := hl.hn.1
          clear hl
          have HDj : Hid (Dr wr b ao cap s q') := HD.out.move HL.out.hm HL.out.hc HL.out.hn.2.1
          by_cases hlt2 : j < f
          · have hx7 : x ≠ 7 := fun h => by have := HF.out; rw [h] at this; have h0 : numF 7 = 0 := rfl; omega
            have hpj := HL.out.ptr (show j < 3 by omega)
            by_cases hv : (Fl.num s q').2.1 < 0
            · go_wp2_with (go_at_call 70; refine (number_max HDj.out).mono ?_; rintro e w4 ⟨hm4, hbad, _⟩; obtain rfl := hbad hv)
              refine ⟨rfl, nodeEnds_bad ?_ (HL.out.hm.trans hm4)⟩
              rw [one_plain hlt HX.out hx8 hx7 HNUM.out, ← HF.out]
              have := HL.out.hn.bad hlt2 (v := (Fl.num s q').1) (m := (Fl.num s q').2.1) (b := (Fl.num s q').2.2) rfl hv
              rw [this]; rfl
            · obtain ⟨y, m, hnum, _, _, _⟩ := num_split s q' HL.out.hn.2.1 hv
              have HNM : Hid (Fl.num s q' = ((y : Int), (m : Int), 0)) := hnum
              have HCA : Hid (Calls Tryz.prog 70 #[.pointer (some ⟨b, 0, none⟩), .int .i64 0, .int .i64 2147483647] wr fun e w' => NumEnds ((y : Int), (m : Int), 0) b wr e w') := by rw [← hnum]; exact number_max HDj.out
              clear hv hnum
              go_wp2_with (go_at_call 70; refine (HCA.out).mono ?_; rintro e w4 ⟨hm4, _, hgood⟩; obtain ⟨rfl, hd4⟩ := hgood (by simp only; omega); have kj := hm4.g.cell (HL.out.cell (show j < 3 by omega)) (by simpa using fun h => hbN h.symm); have kf : ∀ o, w4.frozen? ⟨N, o, none⟩ = false := (HL.out.nd.grown hm4.g (by simpa using fun h => hbN h.symm)).f)
              go_roundw
              case rel => exact ⟨j + 1, m, xs ++ [(y : Int)], by go_num, HL.out.next hlb hlt2 (by omega) HNM.out hm4 hd4⟩
              case measure => simp [intOf]; omega
          · have hjf' : j = f := by omega
            have hnums : Fl.nums s q f = (xs, (q' : Int), 0) := by
              have := HL.out.hn.2.2.2; rw [this, hjf', Nat.sub_self]; rfl
            have HNS : Hid (Fl.nums s q f = (xs, (q' : Int), 0)) := hnums
            have hrx := (HR.out.move HL.out.hm (by omega)) x hx8
            have hl2 := hrx.2.1
            clear hnums hjf'
            by_cases hx7 : x = 7
            · have b7 : (x == 7) = true := beq_iff_eq.2 hx7
              rw [b7] at hl2
              have HX7 : Hid (x = 7) := hx7
              have h3 := hrx.2.2
              have HRX : Hid (wr.cell? ⟨b, 2 + x * 4 + 3, none⟩ = some (.func (.func (byF x)) #[] #[])) := h3
              have hf0 : f = 0 := by have := HF.out; rw [hx7] at this; exact this
              have hqq : q' = q ∧ xs = [] := by
                have h1 := HNS.out; rw [hf0] at h1
                have h2 : Fl.nums s q 0 = ([], (q : Int), 0) := rfl
                rw [h2] at h1; simp only [Prod.mk.injEq] at h1
                exact ⟨by omega, h1.1.symm⟩
              obtain ⟨rfl, rfl⟩ := hqq
              have HCN : Hid (Calls Tryz.prog 70 #[.pointer (some ⟨b, 0, none⟩), .int .i64 0, .int .i64 16] wr fun e w' => NumEnds (Fl.numB s q' 0 16) b wr e w') := number_walk HDj.out 0 16 (by omega) (by omega)
              have hnd0 : Hid (Nd wr N x v 0 0 0 (.slice none 0 0)) := HL.out.nd
              clear hrx h3 hx7 hf0
              go_wp2_with fail
              refine (HCN.out).mono ?_
              rintro e w4 ⟨hm4, hbad, hgood⟩
              by_cases hv2 : (Fl.numB s q' 0 16).2.1 < 0
              · obtain rfl := hbad hv2
                exact ⟨rfl, nodeEnds_bad (one_list_bad hlt (by rw [← HX.out, HX7.out]) HNUM.out hv2 hqs) (HL.out.hm.trans hm4)⟩
              · obtain ⟨rfl, hd4⟩ := hgood hv2
                obtain ⟨m, q2, hnb, hnm, hq2, hq2s, _, hm16⟩ := numB_split s q' 0 16 hqs hv2
                rw [hnb] at hd4 ⊢
                simp only at hd4 ⊢
                have HNM : Hid (Fl.num s q' = ((m : Int), (q2 : Int), 0)) := hnm
                have HM4 : Hid (Mv w w4 b) := HL.out.hm.trans hm4
                have HD4 : Hid (Dr w4 b ao cap s q2) := HDj.out.move hm4 hd4 hq2s
                have HN4 : Hid (Nd w4 N x v 0 0 0 (.slice none 0 0)) := hnd0.out.grown hm4.g (by simpa using fun h => hbN h.symm)
                have HR4 : Hid (Nd w4 w.heap.size 0 0 0 0 0 (.slice none 0 0)) := HL.out.rs.grown hm4.g (by simp; omega)
                have hm16' : m ≤ 16 := by omega
                have HRX4 : Hid (w4.cell? ⟨b, 2 + x * 4 + 3, none⟩ = some (.func (.func (byF x)) #[] #[])) := (hm4.o _ (by omega)).trans HRX.out
                clear hbad hgood hv2 hnb hnm hd4 hm4 hl2 HRX hnd0 HCN
                go_wp2_with fail
                refine (numbers_walk HD4.out m (by omega)).mono ?_
                rintro e w5 ⟨hm5, hbad, hgood⟩
                have HONE0 := cone_list (k := k) hlt (by rw [← HX.out, HX7.out]) HNUM.out HNM.out hm16'
                by_cases hv3 : (Fl.nums s q2 m).2.1 < 0
                · obtain rfl := hbad hv3
                  rw [if_pos hv3] at HONE0
                  exact ⟨rfl, nodeEnds_bad HONE0 (HM4.out.trans hm5)⟩
                · obtain ⟨lv, rfl, hown, hd5⟩ := hgood hv3
                  rw [if_neg hv3] at HONE0
                  have hnok := Fl.nums_ok s q2 m hq2s
                  obtain ⟨ls, q3, hns⟩ : ∃ (ls : List Int) (q3 : Nat), Fl.nums s q2 m = (ls, (q3 : Int), (Fl.nums s q2 m).2.2) := ⟨(Fl.nums s q2 m).1, (Fl.nums s q2 m).2.1.toNat, by rw [Int.toNat_of_nonneg (by omega)]⟩
                  rw [hns] at HONE0 hown hd5
                  simp only at HONE0 hown hd5
                  obtain ⟨lao, lcap, rfl⟩ := own_shape6 hown
                  have HONE : Hid (Fl.one s p k = Fl.oneFin p k ⟨x, v, 0, 0, 0, ls⟩ (q3 : Int)) := by show _ = _; rw [HONE0, HX7.out]; rfl
                  have hNn4 := HN4.out.lt
                  have hownN : ∀ bb, (Value.slice lao ls.length lcap).ownBlock = some bb → N < bb := fun bb h => by have := (hown.lt bb h).1; omega
                  have hnd5 := HN4.out.grown hm5.g (by simpa using fun h => hbN h.symm)
                  have k5 := hnd5.c5
                  have kf := hnd5.f
                  have HN5 : Hid (Nd w5 N x v 0 0 0 (.slice none 0 0)) := hnd5
                  have HR5 : Hid (Nd w5 w.heap.size 0 0 0 0 0 (.slice none 0 0)) := HR4.out.grown hm5.g (by simp; omega)
                  have HM5' : Hid (Mv w w5 b) := HM4.out.trans hm5
                  have HI5 : Hid (IntsAt w5.heap.size w5 (.slice lao ls.length lcap) ls) := IntsAt.of_own hown
                  have HD5' : Hid (w5.cell? ⟨b, 1, none⟩ = some (.int .i64 (q3 : Int))) := hd5
                  have HRX5 : Hid (w5.cell? ⟨b, 2 + x * 4 + 3, none⟩ = some (.func (.func (byF x)) #[] #[])) := (hm5.o _ (by omega)).trans HRX4.out
                  have HOW : Hid (∀ bb, (Value.slice lao ls.length lcap).ownBlock = some bb → N < bb) := hownN
                  clear HONE0 hnok hns hown hd5 hnd5 hm5 hbad hgood hv3 hownN
                  go_wp2_with fail
                  obtain ⟨W6, hW6⟩ : ∃ W6, W6 = w5.setCell ⟨N, 5, none⟩ (.slice lao ls.length lcap) := ⟨_, rfl⟩
                  rw [← hW6]
                  have g6 : w5.grownBy W6 (some N) := by rw [hW6]; exact grown_set _ _ _ _
                  have HM6 : Hid (Mv w W6 b) := by rw [hW6]; exact HM5'.out.andSet hlb (by omega) _ _
                  have HN6 : Hid (Nd W6 N x v 0 0 0 (.slice lao ls.length lcap)) := by rw [hW6]; exact HN5.out.set5 _
                  have HR6 : Hid (Nd W6 w.heap.size 0 0 0 0 0 (.slice none 0 0)) := HR5.out.grown g6 (by simp; omega)
                  have HD6 : Hid (W6.cell? ⟨b, 1, none⟩ = some (.int .i64 (q3 : Int))) := g6.cell HD5'.out (by simpa using hbN)
                  have HI6 : Hid (IntsAt W6.heap.size W6 (.slice lao ls.length lcap) ls) := by rw [hW6]; exact ints_set HI5.out (fun _ h => by have h9 : N < N := HOW.out N h; omega)
                  have HRX6 : Hid (W6.cell? ⟨b, 2 + x * 4 + 3, none⟩ = some (.func (.func (byF x)) #[] #[])) := g6.cell HRX5.out (by simpa using hbN)
                  clear hW6 g6 k5 kf HM5' HN5 HR5 HD5' HI5 HRX5
                  refine (isBehind_any b (2 + x * 4) (byF x) k (.pointer (some ⟨N, 0, none⟩)) (prem ⟨x, v, 0, 0, 0, ls⟩) W6 HRX6.out (by_enter x _ _) (by_any (HN6.out.nodeAt HI6.out))).mono ?_
                  rintro e w7 ⟨rfl, hb7⟩
                  have HM7 : Hid (Mv w w7 b) := HM6.out.andBelow hb7 hlb
                  have HC7 : Hid (w7.cell? ⟨b, 1, none⟩ = some (.int .i64 (q3 : Int))) := (hb7.cell (p := ⟨b, 1, none⟩) (HM6.out.lt hlb)).trans HD6.out
                  have g7 : W6.grownBy w7 none := ⟨hb7.os, hb7.tape, hb7.output, hb7.size, fun k hk _ => hb7.block k hk⟩
                  have HI7 : Hid (IntsAt w7.heap.size w7 (.slice lao ls.length lcap) ls) := ints_below HI6.out hb7
                  have hn7 := HN6.out.grown g7 (by simp)
                  have hr7 := HR6.out.grown g7 (by simp)
                  obtain ⟨e0, e1, e2, e3, e4, e5, _⟩ := hn7
                  obtain ⟨d0, d1, d2, d3, d4, d5, df⟩ := hr7
                  obtain ⟨q0, q1, q2', q3', q4, q5⟩ := six_same (w1 := w7) (B := w.heap.size) (.int .i64 x) (.int .i64 v) (.int .i64 0) (.int .i64 0) (.int .i64 0) (.slice lao ls.length lcap) d0 d1 d2 d3 d4 d5
                  clear hb7 g7 HM6 HN6 HR6 HD6 HI6 HRX6
                  by_cases hany : (prem ⟨x, v, 0, 0, 0, ls⟩).any (fun y => decide ((k : Int) ≤ y)) = true
                  · rw [hany]
                    have HAN : Hid (Fl.one s p k = (Fl.nd0, -1, (p : Int))) := HONE.out.trans (oneFin_bad hany)
                    clear hany q0 q1 q2' q3' q4 q5
                    go_wp2_with fail
                    refine (need_bad _ _ _).mono ?_
                    rintro e w6 ⟨rfl, hb6⟩
                    exact ⟨rfl, nodeEnds_bad HAN.out (HM7.out.andBelow hb6 hlb)⟩
                  · have hany' : (prem ⟨x, v, 0, 0, 0, ls⟩).any (fun y => decide ((k : Int) ≤ y)) = false := by simpa using hany
                    rw [hany']
                    have HAN : Hid (Fl.one s p k = (⟨x, v, 0, 0, 0, ls⟩, (q3 : Int), 0)) := HONE.out.trans (oneFin_good hany')
                    clear hany hany'
                    go_wp2_with fail
                    refine (need_ok _ _ _).mono ?_
                    rintro e w6 ⟨rfl, rfl⟩
                    go_wp2
                    exact bodyPost_ret (v := .agg #[.int .i64 x, .int .i64 v, .int .i64 0, .int .i64 0, .int .i64 0, .slice lao ls.length lcap]) (by simp [results, Tryz.results71, go_sem, q0, q1, q2', q3', q4, q5]) rfl (nodeEnds_six HAN.out HM7.out hlb rfl HC7.out HI7.out (fun bb h => by have := HOW.out bb h; omega))
            · have b7 : (x == 7) = false := beq_eq_false_iff_ne.2 hx7
              rw [b7] at hl2
              have h3 := hrx.2.2
              have HRX : Hid (wr.cell? ⟨b, 2 + x * 4 + 3, none⟩ = some (.func (.func (byF x)) #[] #[])) := h3
              clear hrx h3
              go_wp2_with fail
              have HI : Hid (IntsAt wr.heap.size wr (.slice none 0 0) ([] : List Int)) := IntsAt.nil _ _
              refine (isBehind_any b (2 + x * 4) (byF x) k (.pointer (some ⟨N, 0, none⟩)) (prem ⟨x, v, xs.getD 0 0, xs.getD 1 0, xs.getD 2 0, []⟩) wr HRX.out (by_enter x _ _) (by_any (HL.out.nd.nodeAt HI.out))).mono ?_
              rintro e w5 ⟨rfl, hb5⟩
              have HM5 : Hid (Mv w w5 b) := HL.out.hm.andBelow hb5 hlb
              have HONE : Hid (Fl.one s p k = Fl.oneFin p k ⟨x, v, xs.getD 0 0, xs.getD 1 0, xs.getD 2 0, []⟩ (q' : Int)) := by
                show _ = _
                rw [one_plain hlt HX.out hx8 hx7 HNUM.out, ← HF.out, HNS.out, if_neg (by simp only; omega)]
              have HC5 : Hid (w5.cell? ⟨b, 1, none⟩ = some (.int .i64 (q' : Int))) := (hb5.cell (p := ⟨b, 1, none⟩) (HL.out.hm.lt hlb)).trans HL.out.hc
              have g5 : wr.grownBy w5 none := ⟨hb5.os, hb5.tape, hb5.output, hb5.size, fun k hk _ => hb5.block k hk⟩
              have hn5 := HL.out.nd.grown g5 (by simp)
              have hr5 := HL.out.rs.grown g5 (by simp)
              obtain ⟨e0, e1, e2, e3, e4, e5, _⟩ := hn5
              obtain ⟨d0, d1, d2, d3, d4, d5, df⟩ := hr5
              obtain ⟨q0, q1, q2, q3, q4, q5⟩ := six_same (w1 := w5) (B := w.heap.size) (.int .i64 x) (.int .i64 v) (.int .i64 (xs.getD 0 0)) (.int .i64 (xs.getD 1 0)) (.int .i64 (xs.getD 2 0)) (.slice none 0 0) d0 d1 d2 d3 d4 d5
              clear hb5 g5 hl2 HI
              by_cases hany : (prem ⟨x, v, xs.getD 0 0, xs.getD 1 0, xs.getD 2 0, []⟩).any (fun y => decide ((k : Int) ≤ y)) = true
              · rw [hany]
                have HAN : Hid (Fl.one s p k = (Fl.nd0, -1, (p : Int))) := HONE.out.trans (oneFin_bad hany)
                clear hany q0 q1 q2 q3 q4 q5
                go_wp2_with fail
                refine (need_bad _ _ _).mono ?_
                rintro e w6 ⟨rfl, hb6⟩
                exact ⟨rfl, nodeEnds_bad HAN.out (HM5.out.andBelow hb6 hlb)⟩
              · have hany' : (prem ⟨x, v, xs.getD 0 0, xs.getD 1 0, xs.getD 2 0, []⟩).any (fun y => decide ((k : Int) ≤ y)) = false := by simpa using hany
                rw [hany']
                have HAN : Hid (Fl.one s p k = (⟨x, v, xs.getD 0 0, xs.getD 1 0, xs.getD 2 0, []⟩, (q' : Int), 0)) := HONE.out.trans (oneFin_good hany')
                clear hany hany'
                go_wp2_with fail
                refine (need_ok _ _ _).mono ?_
                rintro e w6 ⟨rfl, rfl⟩
                generalize xs.getD 0 0 = xa at *
                generalize xs.getD 1 0 = xb at *
                generalize xs.getD 2 0 = xc at *
                go_wp2
                exact bodyPost_ret (v := .agg #[.int .i64 x, .int .i64 v, .int .i64 xa, .int .i64 xb, .int .i64 xc, .slice none 0 0]) (by simp [results, Tryz.results71, go_sem, q0, q1, q2, q3, q4, q5]) rfl (nodeEnds_six HAN.out HM5.out hlb rfl HC5.out (IntsAt.nil _ _) (fun bb h => by simp [Value.ownBlock] at h))
    · have hd8 : decide ((x : Int) < 8) = false := decide_eq_false (by omega)
      have hd8n : decide (x < 8) = false := decide_eq_false hx8
      go_wp2_with fail
      refine (need_bad _ _ _).mono ?_
      rintro e w' ⟨rfl, hb⟩
      refine ⟨rfl, nodeEnds_bad ?_ ((HM1.out.alloc hlb _).andBelow hb hlb)⟩
      unfold Fl.one; rw [if_neg (by omega)]
      simp only [← HX.out]
      rw [if_pos (by unfold Fl.fields; repeat' split <;> omega)]
  · refine (next_end HD0.out hlt).mono ?_
    rintro e w1 ⟨rfl, hm1⟩
    refine ⟨rfl, nodeEnds_bad ?_ (HM0.out.trans hm1)⟩
    have : p = s.length := by omega
    unfold Fl.one; rw [if_pos this, this]
end Go.Proofs.YtbihjgfbocpobaaGreatDoor

/- The program: what is in a node. -/
set_option linter.unusedSimpArgs false
set_option linter.unusedVariables false
namespace Go.Proofs.YtbihjgfbocpobaaGreatDoor
open Go.RowKit

/-- What is in a node, cell by cell: ahead of its list, and with it. -/
def contentHead (nd : Fl.Node) : List Value := [.int .i64 nd.kind, .int .i64 nd.level, .int .i64 nd.a, .int .i64 nd.b, .int .i64 nd.c, .int .i64 nd.list.length]
def contentCur (nd : Fl.Node) : List Value := contentHead nd ++ List.replicate 16 (Value.int .i64 0)
def contentL (nd : Fl.Node) : List Value := contentHead nd ++ (nd.list.map (Value.int .i64) ++ List.replicate (16 - nd.list.length) (Value.int .i64 0))
theorem contentL_len (nd : Fl.Node) (h : nd.list.length ≤ 16) : (contentL nd).length = 22 := by simp [contentL, contentHead]; omega
theorem contentL_one (nd : Fl.Node) : (contentL nd).toArray.all (·.oneCell') = true := by
  rw [List.all_toArray, List.all_eq_true]; intro x hx
  simp only [contentL, contentHead, List.mem_append, List.mem_cons, List.mem_map, List.mem_replicate, List.not_mem_nil, or_false] at hx
  rcases hx with (rfl | rfl | rfl | rfl | rfl | rfl) | ⟨y, _, rfl⟩ | ⟨_, rfl⟩ <;> rfl
theorem content_splice (nd : Fl.Node) : splice (contentCur nd) 6 (nd.list.map (Value.int .i64)) = contentL nd := by
  unfold splice contentCur contentL
  have h6 : (contentHead nd).length = 6 := rfl
  rw [List.take_left' h6, List.drop_append, List.drop_of_length_le (by rw [h6]; simp), List.nil_append, List.drop_replicate, h6]
  simp
theorem Tryz.infoInt1 : (Tryz.prog.info? 3).map (·.size) = some 1 := by kernel_rfl
theorem Tryz.infoContent : (Tryz.prog.info? 160).map (·.size) = some 22 := by kernel_rfl

set_option maxRecDepth 100000 in
set_option maxHeartbeats 8000000 in
theorem contentOf_any {w : World} {nb no : Nat} {nd : Fl.Node} {lv : Value} (h : NodeAt w nb no nd lv) (h16 : nd.list.length ≤ 16) :
    Calls Tryz.prog 87 #[.pointer (some ⟨nb, no, none⟩)] w fun e w' => e = .returned (.agg (contentL nd).toArray) ∧ Below w.heap.size w w' := by
  obtain ⟨ao, cap, rfl, hcap, hm, hx⟩ := id h.hl
  have HX : Hid (nd.list ≠ [] → ∃ b off, ao = some ⟨b, off, none⟩ ∧ b < w.heap.size ∧ ∀ i, i < nd.list.length → w.cell? ⟨b, off + i, none⟩ = some (.int .i64 (nd.list.getD i 0))) := hx
  clear hx
  unfold maxLen at hm
  have hlt : nb < w.heap.size := World.block_lt_of_cell? w _ h.c0
  have H5 : Hid (w.cell? ⟨nb, no + 5, none⟩ = some (.slice ao nd.list.length cap)) := h.c5
  have a0 : ∀ o, (w.alloc o).cell? ⟨nb, no, none⟩ = some (.int .i64 nd.kind) := fun o => by rw [World.cell?_alloc_past _ _ _ hlt]; exact h.c0
  have a1 : ∀ o, (w.alloc o).cell? ⟨nb, no + 1, none⟩ = some (.int .i64 nd.level) := fun o => by rw [World.cell?_alloc_past _ _ _ hlt]; exact h.c1
  have a2 : ∀ o, (w.alloc o).cell? ⟨nb, no + 2, none⟩ = some (.int .i64 nd.a) := fun o => by rw [World.cell?_alloc_past _ _ _ hlt]; exact h.c2
  have a3 : ∀ o, (w.alloc o).cell? ⟨nb, no + 3, none⟩ = some (.int .i64 nd.b) := fun o => by rw [World.cell?_alloc_past _ _ _ hlt]; exact h.c3
  have a4 : ∀ o, (w.alloc o).cell? ⟨nb, no + 4, none⟩ = some (.int .i64 nd.c) := fun o => by rw [World.cell?_alloc_past _ _ _ hlt]; exact h.c4
  have a5 : ∀ o, (w.alloc o).cell? ⟨nb, no + 5, none⟩ = some (.slice ao nd.list.length cap) := fun o => by rw [World.cell?_alloc_past _ _ _ hlt]; exact h.c5
  clear h
  go_enter Tryz.func87, Tryz.ntmps87
  go_wp2_with fail
  obtain ⟨W0, hW0⟩ : ∃ W0, W0 = w.alloc (.cells #[.int .i64 0, .int .i64 0, .int .i64 0, .int .i64 0, .int .i64 0, .int .i64 0, .int .i64 0, .int .i64 0, .int .i64 0, .int .i64 0, .int .i64 0, .int .i64 0, .int .i64 0, .int .i64 0, .int .i64 0, .int .i64 0, .int .i64 0, .int .i64 0, .int .i64 0, .int .i64 0, .int .i64 0, .int .i64 0] 160) := ⟨_, rfl⟩
  rw [← hW0]
  have hlt0 : nb < W0.heap.size := by rw [hW0]; simp; omega
  have b0 : W0.cell? ⟨nb, no, none⟩ = some (.int .i64 nd.kind) := by rw [hW0]; exact a0 _
  have b1 : W0.cell? ⟨nb, no + 1, none⟩ = some (.int .i64 nd.level) := by rw [hW0]; exact a1 _
  have b2 : W0.cell? ⟨nb, no + 2, none⟩ = some (.int .i64 nd.a) := by rw [hW0]; exact a2 _
  have b3 : W0.cell? ⟨nb, no + 3, none⟩ = some (.int .i64 nd.b) := by rw [hW0]; exact a3 _
  have b4 : W0.cell? ⟨nb, no + 4, none⟩ = some (.int .i64 nd.c) := by rw [hW0]; exact a4 _
  have b5 : W0.cell? ⟨nb, no + 5, none⟩ = some (.slice ao nd.list.length cap) := by rw [hW0]; exact a5 _
  have HW0 : Hid (W0 = w.alloc (.cells #[.int .i64 0, .int .i64 0, .int .i64 0, .int .i64 0, .int .i64 0, .int .i64 0, .int .i64 0, .int .i64 0, .int .i64 0, .int .i64 0, .int .i64 0, .int .i64 0, .int .i64 0, .int .i64 0, .int .i64 0, .int .i64 0, .int .i64 0, .int .i64 0, .int .i64 0, .int .i64 0, .int .i64 0, .int .i64 0] 160)) := hW0
  clear hW0 a0 a1 a2 a3 a4 a5
  obtain ⟨S, hS⟩ : ∃ S : World → Prop, S = fun w' => w'.cell? ⟨nb, no, none⟩ = some (.int .i64 nd.kind) ∧ w'.cell? ⟨nb, no + 1, none⟩ = some (.int .i64 nd.level) ∧ w'.cell? ⟨nb, no + 2, none⟩ = some (.int .i64 nd.a) ∧ w'.cell? ⟨nb, no + 3, none⟩ = some (.int .i64 nd.b) ∧ w'.cell? ⟨nb, no + 4, none⟩ = some (.int .i64 nd.c) ∧ w'.cell? ⟨nb, no + 5, none⟩ = some (.slice ao nd.list.length cap) := ⟨_, rfl⟩
  have HS : Hid (∀ w', S w' → w'.cell? ⟨nb, no, none⟩ = some (.int .i64 nd.kind) ∧ w'.cell? ⟨nb, no + 1, none⟩ = some (.int .i64 nd.level) ∧ w'.cell? ⟨nb, no + 2, none⟩ = some (.int .i64 nd.a) ∧ w'.cell? ⟨nb, no + 3, none⟩ = some (.int .i64 nd.b) ∧ w'.cell? ⟨nb, no + 4, none⟩ = some (.int .i64 nd.c) ∧ w'.cell? ⟨nb, no + 5, none⟩ = some (.slice ao nd.list.length cap)) := fun w' h => by rw [hS] at h; exact h
  have HS0 : Hid (∀ o, S (W0.drew.alloc o)) := fun o => by
    have hlt0 : nb < W0.drew.heap.size := hlt0
    rw [hS]; exact ⟨(World.cell?_alloc_past _ _ _ hlt0).trans b0, (World.cell?_alloc_past _ _ _ hlt0).trans b1, (World.cell?_alloc_past _ _ _ hlt0).trans b2, (World.cell?_alloc_past _ _ _ hlt0).trans b3, (World.cell?_alloc_past _ _ _ hlt0).trans b4, (World.cell?_alloc_past _ _ _ hlt0).trans b5⟩
  refine wp_region_alloc (S := S) 26 (by kernel_rfl) (by kernel_rfl) rfl (fun c a d v w h => by cases d <;> exact h) _ _ rfl rfl rfl rfl (by rw [hS]; exact ⟨b0, b1, b2, b3, b4, b5⟩) ?_
  clear hS
  simp only [List.take_succ_cons, List.take_zero]
  refine wpHeld_hide (fun L HL => ?_)
  repeat
    refine wpHeld_step rfl (fun K hK => ?_)
    apply Exists.intro
    refine ⟨fun w' hw => ?_, ?_⟩
    · obtain ⟨s0, s1, s2, s3, s4, s5⟩ := HS.out w' hw
      go_simp
      try with_reducible rfl
    go_simp
    refine hK _ ?_
    clear hK K
  refine HL.out _ ⟨.pointer (some ⟨W0.drew.heap.size, 0, none⟩), W0.drew.alloc (.cells #[.int .i64 0, .int .i64 0, .int .i64 0, .int .i64 0, .int .i64 0, .int .i64 0, .int .i64 0, .int .i64 0, .int .i64 0, .int .i64 0, .int .i64 0, .int .i64 0, .int .i64 0, .int .i64 0, .int .i64 0, .int .i64 0, .int .i64 0, .int .i64 0, .int .i64 0, .int .i64 0, .int .i64 0, .int .i64 0] 160), W0.drew.alloc (.cells #[.int .i64 nd.kind, .int .i64 nd.level, .int .i64 nd.a, .int .i64 nd.b, .int .i64 nd.c, .int .i64 nd.list.length, .int .i64 0, .int .i64 0, .int .i64 0, .int .i64 0, .int .i64 0, .int .i64 0, .int .i64 0, .int .i64 0, .int .i64 0, .int .i64 0, .int .i64 0, .int .i64 0, .int .i64 0, .int .i64 0, .int .i64 0, .int .i64 0] 160), by kernel_rfl, HS0.out _, exec_store_new _ _ 160 rfl _ _ _ rfl rfl Tryz.infoContent rfl (by kernel_rfl), HS0.out _, ?_⟩
  clear HL
  obtain ⟨W1, hW1⟩ : ∃ W1, W1 = W0.drew.alloc (.cells #[.int .i64 nd.kind, .int .i64 nd.level, .int .i64 nd.a, .int .i64 nd.b, .int .i64 nd.c, .int .i64 nd.list.length, .int .i64 0, .int .i64 0, .int .i64 0, .int .i64 0, .int .i64 0, .int .i64 0, .int .i64 0, .int .i64 0, .int .i64 0, .int .i64 0, .int .i64 0, .int .i64 0, .int .i64 0, .int .i64 0, .int .i64 0, .int .i64 0] 160) := ⟨_, rfl⟩
  rw [← hW1]
  have hC : W0.drew.heap.size = w.heap.size + 1 := by rw [HW0.out]; simp
  rw [hC]
  have hrow : W1.heap[w.heap.size + 1]? = some (.cells (contentCur nd).toArray 160 (0, 0)) := by rw [hW1, ← hC]; exact heap_alloc_last _ _
  have hrowR : W1.heap[w.heap.size]? = some (.cells (List.replicate 22 (Value.int .i64 0)).toArray 160 (0, 0)) := by
    rw [hW1, Below.heap_alloc _ _ _ (by rw [hC]; omega)]
    show W0.heap[w.heap.size]? = _
    rw [HW0.out]; exact heap_alloc_last _ _
  have hbel : Below w.heap.size w W1 := by
    rw [hW1]
    refine Below.alloc ?_ (by rw [hC]; omega) _
    rw [HW0.out]; exact ((Below.refl _ _).alloc (Nat.le_refl _) _).drew
  have k5 : W1.cell? ⟨nb, no + 5, none⟩ = some (.slice ao nd.list.length cap) := (hbel.cell (p := ⟨nb, no + 5, none⟩) hlt).trans H5.out
  have HROW : Hid (W1.heap[w.heap.size + 1]? = some (.cells (contentCur nd).toArray 160 (0, 0))) := hrow
  have HROWR : Hid (W1.heap[w.heap.size]? = some (.cells (List.replicate 22 (Value.int .i64 0)).toArray 160 (0, 0))) := hrowR
  have HBEL : Hid (Below w.heap.size w W1) := hbel
  clear hW1 hrow hrowR hbel hC b0 b1 b2 b3 b4 b5 HS HS0 HW0 hlt0
  go_wp2_with fail
  go_still_tail 6, (by kernel_rfl)
  refine wpList_copy_splice rfl (.tmp 31) (.tmp 35) 29 29 rfl 3 Tryz.underlying29 Tryz.infoInt1 _ _ _ _ _ _ rfl rfl (w.heap.size + 1) 6 (contentCur nd) 160 HROW.out (nd.list.map (Value.int .i64)) ?hn ?hpos ?hfit ?h1 (w.heap.size + 1) W1 ?hb ?hBg ?_
  case hn => simp only [List.length_map]; show nd.list.length = min nd.list.length 16; omega
  case hpos =>
    intro hpos
    refine ⟨rfl, ?_⟩
    obtain ⟨bb, off, hao, hbb, hcell⟩ := HX.out (by intro h0; rw [h0] at hpos; simp at hpos)
    refine ⟨_, hao, fun j u hj => ?_⟩
    have hj' : j < nd.list.length := by have := (List.getElem?_eq_some_iff.1 hj).1; simpa using this
    have h2 : (⟨bb, off, none⟩ : Addr).add j = ⟨bb, off + j, none⟩ := by unfold Addr.add; split <;> simp_all
    rw [h2]
    have h3 : W1.cell? ⟨bb, off + j, none⟩ = some u := by
      rw [HBEL.out.cell (p := ⟨bb, off + j, none⟩) hbb, hcell j hj']
      rw [List.getElem?_map, List.getElem?_eq_getElem hj'] at hj
      simp only [Option.map_some, Option.some.injEq] at hj
      rw [← hj, List.getD_eq_getElem?_getD, List.getElem?_eq_getElem hj']; rfl
    exact h3
  case hfit => simp only [contentCur, contentHead, List.length_append, List.length_map, List.length_replicate, List.length_cons, List.length_nil]; omega
  case h1 => intro u hu; obtain ⟨y, _, rfl⟩ := List.mem_map.1 hu; rfl
  case hb => exact (Below.refl _ _).drew
  case hBg => omega
  intro w2 hg2 hb2
  have hg2' : w2.heap[w.heap.size + 1]? = some (.cells (contentL nd).toArray 160 (0, 0)) := by rw [hg2.out, content_splice]
  have hgR : w2.heap[w.heap.size]? = some (.cells (List.replicate 22 (Value.int .i64 0)).toArray 160 (0, 0)) := (hb2.block _ (by omega)).trans HROWR.out
  have HG : Hid (w2.heap[w.heap.size + 1]? = some (.cells (contentL nd).toArray 160 (0, 0))) := hg2'
  have HGR : Hid (w2.heap[w.heap.size]? = some (.cells (List.replicate 22 (Value.int .i64 0)).toArray 160 (0, 0))) := hgR
  have HB2 : Hid (Below w.heap.size w w2) := HBEL.out.trans (hb2.mono (by omega))
  have HI : Hid ((Tryz.prog.info? 160).map (·.size) = some (contentL nd).toArray.size) := by
    show _ = _
    rw [Tryz.infoContent]; simp only [List.size_toArray, contentL_len nd h16]
  clear hg2 hg2' hgR hb2 HROW HROWR HBEL HX H5 k5
  generalize hcl : (contentL nd).toArray = cl at *
  have HONE : Hid (cl.all (·.oneCell') = true) := by show _ = _; rw [← hcl]; exact contentL_one nd
  have HSZ : Hid ((List.replicate 22 (Value.int .i64 0)).toArray.size = cl.size) := by show _ = _; rw [← hcl]; simp only [List.size_toArray, List.length_replicate, contentL_len nd h16]
  have HCL : Hid ((contentL nd).toArray = cl) := hcl
  clear hcl
  go_wp2_with (first | (refine wpList_load_row rfl _ 160 rfl _ rfl cl _ _ HG.out _ Tryz.underlying160 rfl HI.out ?_) | (refine wpList_store_row rfl _ _ 160 rfl _ rfl _ cl rfl _ HGR.out HI.out HSZ.out HONE.out ?_))
  refine bodyPost_ret (v := .agg cl) ?_ rfl ⟨by rw [HCL.out], below_setRow HB2.out (Nat.le_refl _) _⟩
  exact results_cell1 (p := 2) (ty := 160) Tryz.results87 _ _ ⟨w.heap.size, 0, none⟩ _ rfl (run_loadVar_row _ _ _ _ cl _ _ (setRow_heap _ _ _ _ _ _ HGR.out) Tryz.underlying160 rfl HI.out)
end Go.Proofs.YtbihjgfbocpobaaGreatDoor

/- What is in a node, as a map's key. -/
set_option linter.unusedSimpArgs false
set_option linter.unusedVariables false
namespace Go.Proofs.YtbihjgfbocpobaaGreatDoor
open Go.RowKit Go.Maps Go.WideMaps

theorem Tryz.laidOut : laidOutB Tryz.prog = true := by kernel_rfl
theorem rowContent : (160 : TypeId) < Tryz.prog.types.size := of_decide_eq_true (by kernel_rfl)
theorem wideContent : (match Tryz.prog.underlying 160 with | some (.array _ _) | some (.struct _) => true | _ => false) = true := by rw [Tryz.underlying160]
set_option maxRecDepth 100000 in
theorem lawContent : Keyed Tryz.prog 160 := Keyed.of_law (deep_law_laid Tryz.laidOut (m := 4) (by omega) rowContent (by kernel_rfl) wideContent)

theorem mapM_ex {α β : Type} {f : α → Option β} : ∀ (l : List α), (∀ x ∈ l, ∃ y, f x = some y) → ∃ ys, l.mapM f = some ys
  | [], _ => ⟨[], rfl⟩
  | x :: l, h => by
    obtain ⟨y, hy⟩ := h x (by simp)
    obtain ⟨ys, hys⟩ := mapM_ex l (fun z hz => h z (by simp [hz]))
    exact ⟨y :: ys, by simp [List.mapM_cons, hy, hys]⟩
theorem map_ex {α : Type} {f : α → Option (List Lit)} {l : List α} (h : ∃ ys, l.mapM f = some ys) : ∃ y, Option.map List.flatten (l.mapM f) = some y := by
  obtain ⟨ys, hys⟩ := h; exact ⟨ys.flatten, by rw [hys]; rfl⟩
theorem take_one {l : List Value} {i : Nat} (h : i < l.length) : (l.drop i).take 1 = [l[i]] := by
  rw [List.drop_eq_getElem_cons h]; rfl
/-- A row of ints that are ints. -/
def IntRow (cs : List Value) : Prop := ∀ v ∈ cs, ∃ x : Int, v = .int .i64 x ∧ (Lit.int .i64 x).wf = true
theorem keyInt (d : Nat) {v : Value} (h : ∃ x : Int, v = .int .i64 x ∧ (Lit.int .i64 x).wf = true) : ∃ y, Tryz.prog.keyLits (d + 1) 3 [v] = some y := by
  obtain ⟨x, rfl, hw⟩ := h
  exact ⟨[.int .i64 x], by simp [Program.keyLits, Tryz.underlying3, hw]⟩
theorem cellsInt : Tryz.prog.cellsOf 3 = 1 := by kernel_rfl
theorem cellsArr : Tryz.prog.cellsOf 158 = 16 := by kernel_rfl
theorem cellsContent : Tryz.prog.cellsOf 160 = 22 := by kernel_rfl
theorem keyArr (d : Nat) {cs : List Value} (hl : cs.length = 16) (h : IntRow cs) : ∃ y, Tryz.prog.keyLits (d + 2) 158 cs = some y := by
  have hm : ∃ ys, (List.range 16).mapM (fun i => Tryz.prog.keyLits (d + 1) 3 ((cs.drop (i * Tryz.prog.cellsOf 3)).take (Tryz.prog.cellsOf 3))) = some ys := by
    refine mapM_ex _ (fun i hi => ?_)
    rw [cellsInt, Nat.mul_one, take_one (by simp at hi; omega)]
    exact keyInt d (h _ (List.getElem_mem _))
  obtain ⟨ys, hys⟩ := hm
  refine ⟨ys.flatten, ?_⟩
  unfold Program.keyLits
  simp only [Tryz.underlying158, cellsArr, hl, if_true, hys, Option.map_some]
theorem keyContent (d : Nat) {cs : List Value} (hl : cs.length = 22) (h : IntRow cs) : ∃ y, Tryz.prog.keyLits (d + 3) 160 cs = some y := by
  unfold Program.keyLits
  simp only [Tryz.underlying160, cellsContent, hl]
  rw [if_pos ⟨trivial, by kernel_rfl⟩]
  have q : ∀ i, i < 6 → ∃ y, Tryz.prog.keyLits (d + 2) 3 (List.take (Tryz.prog.cellsOf 3) (List.drop i cs)) = some y := fun i hi => by
    rw [cellsInt, take_one (by omega)]; exact keyInt (d + 1) (h _ (List.getElem_mem _))
  have qa : ∃ y, Tryz.prog.keyLits (d + 2) 158 (List.take (Tryz.prog.cellsOf 158) (List.drop 6 cs)) = some y := by
    rw [cellsArr]; exact keyArr d (by simp; omega) (fun v hv => h v (List.mem_of_mem_drop (List.mem_of_mem_take hv)))
  refine map_ex (mapM_ex _ (fun f hf => ?_))
  simp only [List.mem_cons, List.not_mem_nil, or_false] at hf
  rcases hf with rfl | rfl | rfl | rfl | rfl | rfl | rfl
  · exact q 0 (by omega)
  · exact q 1 (by omega)
  · exact q 2 (by omega)
  · exact q 3 (by omega)
  · exact q 4 (by omega)
  · exact q 5 (by omega)
  · exact qa
theorem typesMany : 3 ≤ Tryz.prog.types.size + 1 := of_decide_eq_true (by kernel_rfl)
theorem key_ex {cs : List Value} (hl : cs.length = 22) (h : IntRow cs) : ∃ kl, keyOf Tryz.prog 160 (.agg cs.toArray) = some kl := by
  obtain ⟨d, hd⟩ : ∃ d, Tryz.prog.types.size + 1 = d + 3 := ⟨Tryz.prog.types.size + 1 - 3, by have := typesMany; omega⟩
  obtain ⟨y, hy⟩ := keyContent d hl h
  have hf : (Value.agg cs.toArray).formed Tryz.prog 160 = true := by simp [Value.formed, Tryz.underlying160, cellsContent, hl]
  have hk : Tryz.prog.keyType 160 = true := by kernel_rfl
  refine ⟨.string (keyBytes y), ?_⟩
  unfold keyOf
  rw [Tryz.underlying160]
  simp only [hf, hk, Bool.and_self, if_true, Value.cells, hd, hy, Option.map_some]

namespace Fl
/-- A node of numbers that a proof may have, its list not too long. -/
def fits (nd : Node) : Prop := inR nd.kind = true ∧ inR nd.level = true ∧ inR nd.a = true ∧ inR nd.b = true ∧ inR nd.c = true ∧ nd.list.length ≤ 16 ∧ nd.list.all inR = true
end Fl
theorem inR_wf {x : Int} (h : Fl.inR x = true) : (Lit.int .i64 x).wf = true := by
  simp only [Fl.inR, Bool.and_eq_true, decide_eq_true_eq] at h
  exact WalkArith.wf_i64 (by omega)
theorem content_row {nd : Fl.Node} (h : Fl.fits nd) : IntRow (contentL nd) := by
  obtain ⟨h0, h1, h2, h3, h4, h5, h6⟩ := h
  intro v hv
  simp only [contentL, contentHead, List.mem_append, List.mem_cons, List.mem_map, List.mem_replicate, List.not_mem_nil, or_false] at hv
  rcases hv with (rfl | rfl | rfl | rfl | rfl | rfl) | ⟨y, hy, rfl⟩ | ⟨_, rfl⟩
  · exact ⟨_, rfl, inR_wf h0⟩
  · exact ⟨_, rfl, inR_wf h1⟩
  · exact ⟨_, rfl, inR_wf h2⟩
  · exact ⟨_, rfl, inR_wf h3⟩
  · exact ⟨_, rfl, inR_wf h4⟩
  · exact ⟨_, rfl, WalkArith.wf_i64 (by omega)⟩
  · exact ⟨_, rfl, inR_wf (List.all_eq_true.1 h6 y hy)⟩
  · exact ⟨_, rfl, WalkArith.wf_i64 (by omega)⟩
/-- A node's key. -/
def keyNd (P : Program) (nd : Fl.Node) : Lit := (keyOf P 160 (.agg (contentL nd).toArray)).getD .nil
theorem keyNd_is {nd : Fl.Node} (h : Fl.fits nd) : keyOf Tryz.prog 160 (.agg (contentL nd).toArray) = some (keyNd Tryz.prog nd) := by
  obtain ⟨kl, hk⟩ := key_ex (contentL_len nd h.2.2.2.2.2.1) (content_row h)
  unfold keyNd; rw [hk]; rfl
theorem contentL_inj {x y : Fl.Node} (h : contentL x = contentL y) : x = y := by
  unfold contentL at h
  have h1 := List.append_inj_left h rfl
  have h2 := List.append_inj_right h rfl
  obtain ⟨xk, xl, xa, xb, xc, xs⟩ := x
  obtain ⟨yk, yl, ya, yb, yc, ys⟩ := y
  simp only [contentHead, List.cons.injEq, Value.int.injEq, true_and, and_true] at h1
  obtain ⟨rfl, rfl, rfl, rfl, rfl, hn⟩ := h1
  have hn' : xs.length = ys.length := by omega
  have h3 := List.append_inj_left h2 (by simpa using hn')
  have h4 : xs = ys := by
    simp only at h3
    exact (List.map_inj_right (fun a b hab => by injection hab)).1 h3
  rw [h4]
theorem keyNd_inj {x y : Fl.Node} (hx : Fl.fits x) (hy : Fl.fits y) (h : keyNd Tryz.prog x = keyNd Tryz.prog y) : x = y := by
  have h1 := keyNd_is hx
  rw [h] at h1
  have := lawContent.inj h1 (keyNd_is hy)
  simp only [Value.agg.injEq] at this
  exact contentL_inj (by have := congrArg Array.toList this; simpa using this)
end Go.Proofs.YtbihjgfbocpobaaGreatDoor

/- The program: things each once. -/
set_option linter.unusedSimpArgs false
set_option linter.unusedVariables false
namespace Go.Proofs.YtbihjgfbocpobaaGreatDoor
open Go.RowKit Go.Maps Go.WideMaps

/-- Nodes that were seen, by what is in them. -/
def Seen (w : World) (T B : Nat) (seen : List Fl.Node) : Prop :=
  w.cell? ⟨T, 0, none⟩ = some (.map (some B)) ∧ ∃ n D, n ≤ seen.length ∧ w.ownsMap (H := Unit) Tryz.prog 160 (plainElem Tryz.prog 3) B n D ∧ ∀ nd, Fl.fits nd → (Maps.has D (keyNd Tryz.prog nd) = true ↔ nd ∈ seen)
theorem Seen.kept {w w' : World} {T B : Nat} {seen : List Fl.Node} (h : Seen w T B seen) {row : Option Nat} (g : w.grownBy w' row) (hT : some T ≠ row) (hB : some B ≠ row) : Seen w' T B seen := by
  obtain ⟨h1, n, D, h2, h3, h4⟩ := h
  exact ⟨g.cell h1 hT, n, D, h2, h3.kept g hB, h4⟩
theorem zeroInt (w : World) : (zeroValue 3).run Tryz.prog w = .ok (.int .i64 0) w := by kernel_rfl

set_option maxRecDepth 100000 in
set_option maxHeartbeats 2000000 in
theorem none_any (w : World) : Calls Tryz.prog 83 #[] w fun e w' => e = .returned (.pointer (some ⟨w.heap.size + 1, 0, none⟩)) ∧ Seen w' (w.heap.size + 1) w.heap.size [] ∧ Below w.heap.size w w' ∧ w'.heap.size = w.heap.size + 2 := by
  have hmm := @run_makeMap Tryz.prog
  go_enter Tryz.func83, Tryz.ntmps83
  go_wp2
  go_ret
  refine ⟨rfl, ⟨?_, 0, .map [], Nat.le_refl _, (World.ownsMap_made w _ _ _).alloc _, fun nd _ => ?_⟩, ?_, ?_⟩
  · simp
  · simp [Maps.has]
  · exact (((Below.refl _ _).alloc (Nat.le_refl _) _).alloc (by simp) _)
  · simp

set_option maxRecDepth 100000 in
set_option maxHeartbeats 4000000 in
theorem once_any {w : World} {T B : Nat} {seen : List Fl.Node} {nd : Fl.Node} (h : Seen w T B seen) (hf : Fl.fits nd) (hn : seen.length ≤ 1000000) :
    Calls Tryz.prog 86 #[.pointer (some ⟨T, 0, none⟩), .agg (contentL nd).toArray] w fun e w' => ∃ (c : Int) (t : Bool), e = .returned (.tuple #[.int .i64 c, .bool (!t)]) ∧ (t = true ↔ nd ∈ seen) ∧ Seen w' T B (nd :: seen) ∧ w.grownBy w' (some B) := by
  obtain ⟨hT, n, D, hnl, hown, hD⟩ := h
  have hkey := keyNd_is hf
  have HI : Hid ((Tryz.prog.info? 160).map (·.size) = some (contentL nd).toArray.size) := by
    show _ = _
    rw [Tryz.infoContent]; simp only [List.size_toArray, contentL_len nd hf.2.2.2.2.2.1]
  generalize hcl : (contentL nd).toArray = cl at *
  have hTlt : T < w.heap.size := World.block_lt_of_cell? w _ hT
  have hBlt := hown.lt
  have HK : Hid (keyOf Tryz.prog 160 (.agg cl) = some (keyNd Tryz.prog nd)) := hkey
  have HO : Hid (w.ownsMap (H := Unit) Tryz.prog 160 (plainElem Tryz.prog 3) B n D) := hown
  have HDD : Hid (∀ nd, Fl.fits nd → (Maps.has D (keyNd Tryz.prog nd) = true ↔ nd ∈ seen)) := hD
  have HT : Hid (w.cell? ⟨T, 0, none⟩ = some (.map (some B))) := hT
  clear hkey hown hD hcl hT
  go_enter Tryz.func86, Tryz.ntmps86
  go_wp2_with fail
  obtain ⟨W0, hW0⟩ : ∃ W0, W0 = w.alloc (.cells cl 160) := ⟨_, rfl⟩
  rw [← hW0]
  have g0 : w.grownBy W0 none := by rw [hW0]; exact World.grownBy_alloc _ _ _
  have hT0 : W0.cell? ⟨T, 0, none⟩ = some (.map (some B)) := g0.cell HT.out (by simp)
  have hown0 : W0.ownsMap (H := Unit) Tryz.prog 160 (plainElem Tryz.prog 3) B n D := HO.out.kept g0 (by simp)
  have HX : Hid (W0.heap[w.heap.size]? = some (.cells cl 160 (0, 0))) := by show _ = _; rw [hW0]; exact heap_alloc_last _ _
  have HO0 : Hid (W0.ownsMap (H := Unit) Tryz.prog 160 (plainElem Tryz.prog 3) B n D) := hown0
  have HG0 : Hid (w.grownBy W0 none) := g0
  obtain ⟨v, ps, hlk, hv⟩ := hown0.drew.look_ok lawContent Tryz.underlying173 (zeroInt _) (zd := .lit (.int .i64 0)) (zp := []) (plainElem_int Tryz.underlying3 (by decide)) HK.out
  obtain ⟨c, rfl, hc, hwc⟩ := plainElem_int_inv Tryz.underlying3 hv
  obtain ⟨t, ht⟩ : ∃ t, t = Maps.has D (keyNd Tryz.prog nd) := ⟨_, rfl⟩
  rw [← ht] at hlk
  have HLK : Hid ((Instr.lookup 173 (.map (some B)) (.agg cl) true).run Tryz.prog W0.drew = .ok (.tuple #[.int .i64 c, .bool t]) W0.drew) := hlk
  have HTT : Hid (t = Maps.has D (keyNd Tryz.prog nd)) := ht
  clear hW0 g0 hown0 hlk hv hc hwc HO ht
  refine wp_region_still_lit (by kernel_rfl) (by kernel_rfl) ?_
  iterate 4 still_step
  refine still_value rfl (.agg cl) (exec_load_row _ 160 rfl w.heap.size rfl cl _ _ HX.out _ Tryz.underlying160 rfl HI.out) ?_
  refine still_value rfl (.tuple #[.int .i64 c, .bool t]) (exec_lookup _ _ 173 rfl (.map (some B)) (.agg cl) _ rfl rfl HLK.out) ?_
  repeat still_step
  refine wpStill_nil ?_
  have hTd : W0.drew.cell? ⟨T, 0, none⟩ = some (.map (some B)) := hT0
  have HGd : Hid (w.grownBy W0.drew none) := ⟨HG0.out.os, HG0.out.tape, HG0.out.output, HG0.out.size, HG0.out.block⟩
  have HOd : Hid (W0.drew.ownsMap (H := Unit) Tryz.prog 160 (plainElem Tryz.prog 3) B n D) := HO0.out
  have HXd : Hid (W0.drew.heap[w.heap.size]? = some (.cells cl 160 (0, 0))) := HX.out
  change Exit.then _ _ _ _ W0.drew
  generalize W0.drew = W1 at *
  clear hT0 HG0 HO0 HX HLK
  cases t with
  | true =>
    have hmem : nd ∈ seen := (HDD.out nd hf).1 HTT.out.symm
    have HMEM : Hid (nd ∈ seen) := hmem
    clear hmem
    go_wp2
    go_ret2
    refine ⟨c, true, rfl, ⟨fun _ => HMEM.out, fun _ => rfl⟩, ⟨hTd, n, D, by simp; omega, HOd.out, fun nd' hf' => ?_⟩, ⟨HGd.out.os, HGd.out.tape, HGd.out.output, HGd.out.size, fun k hk _ => HGd.out.block k hk (by simp)⟩⟩
    rw [HDD.out nd' hf', List.mem_cons]
    exact ⟨fun h => .inr h, fun h => h.elim (fun e => by rw [e]; exact HMEM.out) id⟩
  | false =>
    have hno : nd ∉ seen := fun h => by have := (HDD.out nd hf).2 h; rw [← HTT.out] at this; cases this
    have HNO : Hid (nd ∉ seen) := hno
    have hsl := HOd.out.size_le
    clear hno
    go_wp2_with (at_len; refine wpList_len_own _ rfl _ 173 rfl 160 3 Tryz.underlying173 _ B n D rfl HOd.out ?_)
    refine wp_region_still_tail 6 (by kernel_rfl) (by kernel_rfl) ?_
    simp only [List.take_succ_cons, List.take_zero, List.drop_succ_cons, List.drop_zero]
    iterate 4 still_step
    refine still_value rfl (.agg cl) (exec_load_row _ 160 rfl w.heap.size rfl cl _ _ HXd.out _ Tryz.underlying160 rfl HI.out) ?_
    still_step
    refine wpStill_nil ?_
    have HOe : Hid (W1.drew.ownsMap (H := Unit) Tryz.prog 160 (plainElem Tryz.prog 3) B n D) := HOd.out
    refine wpList_mapUpdate_own W1.drew rfl _ _ _ 173 rfl 160 3 lawContent Tryz.underlying173 _ B n D rfl HOe.out (by unfold maxLen; omega) _ _ _ rfl rfl HK.out _ [] (plainElem_int Tryz.underlying3 (WalkArith.wf_i64 (by omega))) ?_
    intro w2 hown2 hg2
    have HS2 : Hid (Seen w2 T B (nd :: seen)) := by
      refine ⟨?_, n + 1, _, by simp; omega, hown2, fun nd' hf' => ?_⟩
      · have hTB : T ≠ B := by
          intro e
          obtain ⟨es, clock, hb, _⟩ := HOd.out
          subst e
          simp [World.cell?, hb] at hTd
        exact hg2.cell hTd (by simpa using hTB)
      · by_cases he : nd' = nd
        · subst he
          rw [Maps.has_put_same HOd.out.isMap (lawContent.key HK.out)]; simp
        · rw [Maps.has_put_other (fun h => he (keyNd_inj hf' hf h)), HDD.out nd' hf', List.mem_cons]
          exact ⟨fun h => .inr h, fun h => h.elim (fun e => absurd e he) id⟩
    have HG2 : Hid (w.grownBy w2 (some B)) := ⟨hg2.os.trans HGd.out.os, hg2.tape.trans HGd.out.tape, hg2.output.trans HGd.out.output, Nat.le_trans HGd.out.size hg2.size, fun k hk hne => (hg2.block k (Nat.lt_of_lt_of_le hk HGd.out.size) hne).trans (HGd.out.block k hk (by simp))⟩
    clear hown2 hg2 HOe hTd HXd
    go_wp2
    go_ret2
    exact ⟨_, false, rfl, ⟨fun h => (by cases h), fun h => absurd h HNO.out⟩, HS2.out, HG2.out⟩
end Go.Proofs.YtbihjgfbocpobaaGreatDoor
