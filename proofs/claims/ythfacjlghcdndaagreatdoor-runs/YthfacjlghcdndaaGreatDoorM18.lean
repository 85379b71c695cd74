/- Texts Lnf0 Lng2 Psj Psk. -/
import Derived.Test.YthfacjlghcdndaaGreatDoorM17
import Derived.Test.YthfacjlghcdndaaGreatDoorShelf
import Derived.WalkSmall
import Derived.Lib.SplitLaws
set_option linter.unusedSimpArgs false
set_option linter.unusedVariables false
namespace Go.Proofs.YthfacjlghcdndaaGreatDoor
open Go.RowKit

def MaxLenIs (w : World) : Prop := ∃ m, w.cell? ⟨1, 0, none⟩ = some (.int .i64 m)
theorem MaxLenIs.below {B : Nat} {w w' : World} (h : MaxLenIs w) (hB : w.heap.size ≤ B) (hb : Below B w w') : MaxLenIs w' := by
  obtain ⟨m, h⟩ := h
  have hl := World.block_lt_of_cell? w _ h
  exact ⟨m, (hb.cell (p := ⟨1, 0, none⟩) (by omega)).trans h⟩
theorem lcut_any (l : List UInt8) (w : World) (hl : l.length ≤ 100000) (h : MaxLenIs w) : Calls Tryz.prog 70 #[.string ⟨l.toArray⟩, .string ⟨#[10]⟩] w fun e w' => e = .returned (.tuple #[.string ⟨(Lib.cut l [10]).1.toArray⟩, .string ⟨(Lib.cut l [10]).2.1.toArray⟩, .bool (Lib.cut l [10]).2.2]) ∧ Below w.heap.size w w' := by
  obtain ⟨m, h⟩ := h
  refine (Tryz.strings_Cut ⟨l.toArray⟩ ⟨#[10]⟩ m w (by show l.toArray.size < _; simp; omega) h).mono ?_
  rintro e w' ⟨rfl, n, rfl⟩
  exact ⟨rfl, below_drewN (Below.refl _ _) n⟩
theorem map_strV (l : List ByteArray) : l.map Value.string = (l.map (·.data.toList)).map strV := by
  rw [List.map_map]; refine List.map_congr_left (fun b _ => ?_)
  show Value.string b = Value.string ⟨b.data.toList.toArray⟩
  simp
theorem lsplit_any (l : List UInt8) (w : World) (hl : l.length ≤ 40000) (h : MaxLenIs w) : Calls Tryz.prog 71 #[.string ⟨l.toArray⟩, .string ⟨#[32]⟩] w fun e w' => e = .returned (.slice (some ⟨w.heap.size, 0, none⟩) (Fl.cutR 32 l).length (Fl.cutR 32 l).length) ∧ WordsAt w'.heap.size w' (.slice (some ⟨w.heap.size, 0, none⟩) (Fl.cutR 32 l).length (Fl.cutR 32 l).length) (Fl.cutR 32 l) ∧ Below w.heap.size w w' := by
  obtain ⟨m, h⟩ := h
  refine (Tryz.strings_Split ⟨l.toArray⟩ ⟨#[32]⟩ m w (by show l.toArray.size < _; simp; omega) h (by decide)).mono ?_
  have hd : (Lib.splitB ⟨#[32]⟩ 0 (Lib.countB ⟨l.toArray⟩ ⟨#[32]⟩) ⟨l.toArray⟩).map (·.data.toList) = Fl.cutR 32 l := by
    rw [Lib.splitB_data, ← Fl.split_cutR]; rfl
  have hn : Lib.countB ⟨l.toArray⟩ ⟨#[32]⟩ + 1 = (Fl.cutR 32 l).length := by
    rw [← hd, List.length_map, Lib.splitB_all ⟨#[32]⟩ (by decide) 0 _ _ rfl]
  obtain ⟨hc1, hc2⟩ := cutR_len 32 l
  rintro e w' ⟨rfl, rfl⟩
  rw [map_strV, hd, hn]
  refine ⟨rfl, ⟨_, _, rfl, Nat.le_refl _, by unfold maxLen; omega, by omega, fun x hx => by have := hc2 x hx; omega, fun _ => ⟨_, 0, rfl, by simp, fun i hi => ?_⟩⟩, (Below.refl _ _).alloc (Nat.le_refl _) _⟩
  rw [Nat.zero_add, World.cell?_alloc_new]; simp [List.getD_eq_getElem?_getD, hi]
end Go.Proofs.YthfacjlghcdndaaGreatDoor

namespace Go.Proofs.YthfacjlghcdndaaGreatDoor
open Go.RowKit
def EachEnds (St : Nat → List UInt8 → World → Prop) (Rp : Int → Int → World → Prop) (e : Ending) (w' : World) : Prop :=
  (∃ i : Nat, e = .returned (.int .i64 i) ∧ 0 < i ∧ St i [] w') ∨ ∃ n p, e = .panicked (stopAt n p) ∧ Rp n p w'

set_option maxRecDepth 100000 in
set_option maxHeartbeats 4000000 in
theorem each2_any (f : FuncId) (cap : Array Value) (l : List UInt8) (w : World) (St : Nat → List UInt8 → World → Prop) (Rp : Int → Int → World → Prop)
    (hin : ∀ args W, (callFunc f args).run Tryz.prog W = .ok (.enter f args) W)
    (hb : ∀ i s W W', St i s W → Below W.heap.size W W' → St i s W')
    (hm : ∀ i s W, St i s W → MaxLenIs W)
    (hs : ∀ i s W, St i s W → s.length + i ≤ 40000)
    (hr : ∀ i s W, St i s W → (i = 0 ∨ s ≠ []) → (Lib.cut s [10]).2.2 = false → Rp 2 ((i : Int) + 1) W)
    (hd : ∀ i s W0 W b n, St i s W0 → Below W0.heap.size W0 W → W0.heap.size ≤ b → b < W.heap.size → (i = 0 ∨ s ≠ []) → (Lib.cut s [10]).2.2 = true → n = (Fl.cutR 32 (Lib.cut s [10]).1).length → WordsAt W.heap.size W (.slice (some ⟨b, 0, none⟩) n n) (Fl.cutR 32 (Lib.cut s [10]).1) →
      Calls Tryz.prog f (#[.int .i64 ((i : Int) + 1), .slice (some ⟨b, 0, none⟩) n n] ++ cap) W fun e W' => (e = .returned (.tuple #[]) ∧ St (i + 1) (Lib.cut s [10]).2.1 W') ∨ ∃ n p, e = .panicked (stopAt n p) ∧ Rp n p W')
    (h0 : St 0 l w) :
    Calls Tryz.prog 43 #[.string ⟨l.toArray⟩, .func (.func f) #[] cap] w (EachEnds St Rp) := by
  have HB : Hid _ := hb
  have HM : Hid _ := hm
  have HS : Hid _ := hs
  have HRR : Hid _ := hr
  have HD : Hid _ := hd
  have H0 : Hid _ := h0
  clear hb hm hs hr hd h0
  go_enter Tryz.func43, Tryz.ntmps43
  go_wp2
  go_loopw [0, 5] (fun s i wr => ∃ (k : Nat) (t : List UInt8), s = .string ⟨t.toArray⟩ ∧ i = .int .i64 k ∧ St k t wr) (fun s i _ => match s with | .string b => b.size | _ => 0)
  case atStart => exact ⟨0, l, rfl, rfl, H0.out⟩
  case round =>
    obtain ⟨k, t, rfl, rfl, hst⟩ := hrel
    have HST : Hid (St k t wr) := hst
    have hsz := HS.out k t wr hst
    clear hst
    by_cases hgo : k = 0 ∨ t ≠ []
    · have b0 : ((k : Int) == 0) = true ∨ ((k : Int) == 0) = false ∧ t.isEmpty = false := by
        rcases hgo with h | h
        · left; simp [h]
        · by_cases hk : k = 0
          · left; simp [hk]
          · right; exact ⟨by simp; omega, by simpa using h⟩
      have HGO : Hid (k = 0 ∨ t ≠ []) := hgo
      clear hgo
      have hcut := lcut_any t wr (by omega) (HM.out _ _ _ HST.out)
      obtain ⟨a, r, en, hcr⟩ : ∃ a r en, Lib.cut t [10] = (a, r, en) := ⟨_, _, _, rfl⟩
      rw [hcr] at hcut
      have HCUT : Hid (Calls Tryz.prog 70 #[.string ⟨t.toArray⟩, .string ⟨#[10]⟩] wr fun e w' => e = .returned (.tuple #[.string ⟨a.toArray⟩, .string ⟨r.toArray⟩, .bool en]) ∧ Below wr.heap.size wr w') := hcut
      have HCR : Hid (Lib.cut t [10] = (a, r, en)) := hcr
      clear hcut hcr
      rcases b0 with b0 | ⟨b0, b1⟩
      all_goals
        go_wp2_with fail
        refine HCUT.out.mono ?_
        rintro e w1 ⟨rfl, hb1⟩
        have HST1 : Hid (St k t w1) := HB.out _ _ _ _ HST.out hb1
        clear hb1
        cases en with
        | false =>
          go_wp2_with fail
          refine (raise_any 2 ((k : Int) + 1) w1).mono ?_
          rintro e w2 ⟨rfl, hb2⟩
          exact ⟨rfl, .inr ⟨_, _, rfl, HRR.out k t w2 (HB.out _ _ _ _ HST1.out hb2) HGO.out (by rw [HCR.out])⟩⟩
        | true =>
          have hfd := Fl.cut_found 10 t (by rw [HCR.out])
          rw [HCR.out] at hfd
          have hrl : r.length < t.length := hfd.2
          have hal : a.length ≤ 40000 := by
            have := (cutR_len 10 t).2 a (by rw [hfd.1]; exact List.mem_cons_self); omega
          clear hfd
          obtain ⟨nw, hnw⟩ : ∃ nw, nw = (Fl.cutR 32 a).length := ⟨_, rfl⟩
          have HSP : Hid (Calls Tryz.prog 71 #[.string ⟨a.toArray⟩, .string ⟨#[32]⟩] w1 fun e w' => e = .returned (.slice (some ⟨w1.heap.size, 0, none⟩) nw nw) ∧ WordsAt w'.heap.size w' (.slice (some ⟨w1.heap.size, 0, none⟩) nw nw) (Fl.cutR 32 a) ∧ Below w1.heap.size w1 w') := by
            show Calls _ _ _ _ _
            rw [hnw]; exact lsplit_any a w1 hal (HM.out _ _ _ HST1.out)
          have HNW : Hid (nw = (Fl.cutR 32 a).length) := hnw
          clear hnw
          go_wp2_with fail
          refine HSP.out.mono ?_
          rintro e w2 ⟨rfl, hwa, hb2⟩
          have HST2 : Hid (St k t w2) := HB.out _ _ _ _ HST1.out hb2
          have hlt : w1.heap.size < w2.heap.size := by
            obtain ⟨ao, c, h1, h2, h3, h4, h5, h6⟩ := id hwa
            obtain ⟨b, off, e, hb, hc⟩ := h6 (Fl.cutR_ne 32 a)
            rw [e] at h1
            simp only [Value.slice.injEq, Option.some.injEq, Addr.mk.injEq] at h1
            rw [h1.1.1]; exact hb
          have hdo := HD.out k t w1 w2 w1.heap.size nw HST1.out hb2 (Nat.le_refl _) hlt HGO.out (by rw [HCR.out]) (by rw [HCR.out]; exact HNW.out) (by rw [HCR.out]; exact hwa)
          rw [HCR.out] at hdo
          have HDO : Hid (Calls Tryz.prog f (#[.int .i64 ((k : Int) + 1), .slice (some ⟨w1.heap.size, 0, none⟩) nw nw] ++ cap) w2 fun e W' => (e = .returned (.tuple #[]) ∧ St (k + 1) r W') ∨ ∃ n p, e = .panicked (stopAt n p) ∧ Rp n p W') := hdo
          clear hwa hb2 hdo hlt
          go_wp2_with fail
          refine HDO.out.mono ?_
          rintro e w3 (⟨rfl, hs3⟩ | ⟨n, p, rfl, hp⟩)
          · have HS3 : Hid (St (k + 1) r w3) := hs3
            clear hs3
            go_wp2
            go_roundw
            case rel => exact ⟨k + 1, r, rfl, by go_num, HS3.out⟩
            case measure => exact hrl
          · exact ⟨rfl, .inr ⟨_, _, rfl, hp⟩⟩
    · have hk : k ≠ 0 := fun h => hgo (.inl h)
      have ht : t = [] := Classical.byContradiction fun h => hgo (.inr h)
      subst ht
      have b0 : ((k : Int) == 0) = false := by simp; omega
      have HK : Hid (0 < k) := by show 0 < k; omega
      clear hgo hk
      go_wp2
      go_ret
      exact .inl ⟨k, rfl, HK.out, HST.out⟩
end Go.Proofs.YthfacjlghcdndaaGreatDoor

namespace Go.Proofs.YthfacjlghcdndaaGreatDoor
theorem rows_two (r : Fl.RS) (i : Nat) (l m : List UInt8) (ls : List (List UInt8)) : Fl.rows r i (l :: m :: ls) = if (rowOut r (Fl.cutR 32 l) (i + 1)).1 ≠ 0 then ((rowOut r (Fl.cutR 32 l) (i + 1)).1, i + 1, r) else Fl.rows (rowOut r (Fl.cutR 32 l) (i + 1)).2 (i + 1) (m :: ls) := by
  rw [Fl.rows]
  unfold rowOut
  by_cases h : Fl.line (Fl.cutR 32 l) = true
  · rw [if_neg (by rw [h]; decide), if_pos h]
  · rw [if_pos (by simpa using h), if_neg h]; rfl
theorem rows_found (r : Fl.RS) (i : Nat) (s : List UInt8) (h : (Lib.cut s [10]).2.2 = true) : Fl.rows r i (Fl.cutR 10 s) = if (rowOut r (Fl.cutR 32 (Lib.cut s [10]).1) (i + 1)).1 ≠ 0 then ((rowOut r (Fl.cutR 32 (Lib.cut s [10]).1) (i + 1)).1, i + 1, r) else Fl.rows (rowOut r (Fl.cutR 32 (Lib.cut s [10]).1) (i + 1)).2 (i + 1) (Fl.cutR 10 (Lib.cut s [10]).2.1) := by
  rw [(Fl.cut_found 10 s h).1]
  cases hc : Fl.cutR 10 (Lib.cut s [10]).2.1 with
  | nil => exact absurd hc (Fl.cutR_ne _ _)
  | cons m ls => exact rows_two r i _ m ls
theorem rows_missed (r : Fl.RS) (i : Nat) (s : List UInt8) (h : (Lib.cut s [10]).2.2 = false) (hs : i = 0 ∨ s ≠ []) : Fl.rows r i (Fl.cutR 10 s) = (2, i + 1, r) := by
  rw [(Fl.cut_missed 10 s h).1, Fl.rows]
  exact if_neg (fun hh => by rcases hs with hs | hs
                             · omega
                             · exact hs hh.1)
theorem rows_end (r : Fl.RS) (i : Nat) (h : 0 < i) : Fl.rows r i (Fl.cutR 10 []) = if r.begun = true ∧ r.fr = [] then (0, 0, r) else (3, i + 1, r) := by
  show Fl.rows r i [[]] = _
  rw [Fl.rows]
  exact if_pos ⟨rfl, h⟩
end Go.Proofs.YthfacjlghcdndaaGreatDoor

namespace Go.Proofs.YthfacjlghcdndaaGreatDoor
open Go.RowKit
def noSl : Value := .slice none 0 0
def mem0 : PMem := ⟨fun _ => 5, .pointer none, .slice none 0 0, .slice none 0 0, .slice none 0 0, .slice none 0 0, [], fun _ _ => false⟩
theorem rsOk0 : RsOk Fl.RS.zero :=
  { cn := ⟨by decide, trivial⟩, lv := by decide, ce := by decide, ch := by decide, lo := by decide, st := by decide, fr := by decide, cl := rfl, hl := rfl, pairs := rfl, below := fun p hp => (by cases hp), clv := fun x hx => (by cases hx), chv := fun x hx => (by cases hx), kinds := fun f hf => (by cases hf), head := fun _ => ⟨rfl, rfl, rfl, rfl⟩, lat := fun h => (by cases h) }
theorem PrAt.zero {lo R Pb lm vm cm : Nat} {W : World} (hlo : lo ≤ R ∧ lo ≤ Pb ∧ lo ≤ lm ∧ lo ≤ vm ∧ lo ≤ cm) (hz : R < W.heap.size ∧ Pb < W.heap.size ∧ lm < W.heap.size ∧ vm < W.heap.size ∧ cm < W.heap.size)
    (nd : R ≠ Pb ∧ R ≠ lm ∧ R ≠ vm ∧ R ≠ cm ∧ Pb ≠ lm ∧ Pb ≠ vm ∧ Pb ≠ cm ∧ lm ≠ vm ∧ lm ≠ cm ∧ vm ≠ cm) (line : Int) (hR : Cells W R 45 (rdCell Pb lm vm cm line Fl.RS.zero mem0)) (hP : Cells W Pb 5 (rw_ [.pointer none, .slice none 0 0, .slice none 0 0, .int .i64 0, .slice none 0 0]))
    (nl : NameMap W lm []) (nv : NameMap W vm []) (nc : NameMap W cm []) : PrAt lo W.heap.size R Pb lm vm cm W W Fl.RS.zero line mem0 :=
  { ok := rsOk0, bel := Below.refl _ _, fx := fun _ _ _ _ _ _ _ => rfl, hlo := hlo, hba := ⟨hz.1, hz.2.1, hz.2.2.1, hz.2.2.2.1, hz.2.2.2.2, Nat.le_refl _⟩, nd := nd, cR := hR, cP := hP, nl := nl, nv := nv, nc := nc,
    tab := fun i j hi hj => (by show false = _; simp [Fl.RS.zero]),
    re := { wh := fun b h => absurd rfl h, oc := own_none _ _, tc := fun b h => (by cases h), oh := own_none _ _, th := fun b h => (by cases h), pb := PartAt.none _ _ _, tb := fun b h => (by cases h), fa := trivial, oo := own_none _ _, to := fun b h => (by cases h), la := fun h => (by cases h) } }
end Go.Proofs.YthfacjlghcdndaaGreatDoor
