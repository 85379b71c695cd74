/- Texts RefR RefS RefT Grow. -/
import Derived.Test.YtbihjgfbocpobaaGreatDoorM12
/- The reference's one, of all bytes. -/
set_option linter.unusedSimpArgs false
set_option linter.unusedVariables false
namespace Go.Proofs.YtbihjgfbocpobaaGreatDoor
open Go.RowKit

theorem size_toList (s : ByteArray) : s.toList.length = s.size := by rw [ByteArray.toList_eq]; simp
theorem getD_toList (s : ByteArray) (p : Nat) (h : p < s.size) : s.toList.getD p 0 = s[p] := by
  rw [ByteArray.toList_eq, List.getD_eq_getElem?_getD, List.getElem?_eq_getElem (by simpa using h)]; rfl

theorem one_any (s : ByteArray) (p k : Nat) (w : World) (hs : s.size ≤ 4611686018427387904) (hp : p ≤ s.size) :
    Calls Tryz.prog 17 #[.string s, .int .i64 p, .int .i64 k] w fun e w' => OneEnds (Fl.one s.toList p k) w e w' := by
  have hlen := size_toList s
  by_cases h0 : p = s.size
  · have : Fl.one s.toList p k = (Fl.nd0, -1, (p : Int)) := by unfold Fl.one; rw [if_pos (by omega)]
    rw [this, h0]; exact one_end s k w hs
  have hp' : p < s.size := by omega
  have hg := getD_toList s p hp'
  obtain ⟨F, hF⟩ : ∃ F, Fl.fields (s[p].toNat : Int) = F := ⟨_, rfl⟩
  have H : Hid (∀ w, Calls Tryz.prog 21 #[.int .i64 s[p].toNat] w fun e w' => e = .returned (.int .i64 F) ∧ w' = w) := fun w => by have := fields_any (s[p].toNat : Int) w; rwa [hF] at this
  have hFb := Fl.fields_lt (s[p].toNat : Int)
  rw [hF] at hFb
  by_cases h1 : F = -2
  · have : Fl.one s.toList p k = (Fl.nd0, -1, (p : Int)) := by unfold Fl.one; rw [if_neg (by omega)]; simp only [hg, hF]; rw [if_pos h1]
    rw [this]; subst h1; exact one_kind s p k w hs hp' H
  obtain ⟨v, n, b, hv⟩ : ∃ v n b, Fl.num s.toList (p + 1) = (v, n, b) := ⟨_, _, _, rfl⟩
  have H1 : Hid (∀ w, Calls Tryz.prog 15 #[.string s, .int .i64 ((p : Int) + 1)] w fun e w' => e = .returned (.tuple #[.int .i64 v, .int .i64 n, .int .i64 b]) ∧ w' = w) := fun w => num_i s _ w hs (by omega) (by omega) v n b (by rw [show ((p : Int) + 1).toNat = p + 1 from by omega]; exact hv)
  have hok := Fl.num_ok s.toList (p + 1) (by omega)
  rw [hv, hlen] at hok
  simp only at hok
  by_cases h2 : n < 0
  · have : Fl.one s.toList p k = (Fl.nd0, -1, b) := by unfold Fl.one; rw [if_neg (by omega)]; simp only [hg, hF]; rw [if_neg h1]; simp only [hv]; rw [if_pos h2]
    rw [this]; exact one_lev s p k F v n b w hs hp' h1 h2 H H1
  by_cases h3 : F = -1
  · subst h3
    obtain ⟨v2, n2, b2, hv2⟩ : ∃ v m b, Fl.num s.toList n.toNat = (v, m, b) := ⟨_, _, _, rfl⟩
    have H2 : Hid (∀ w, Calls Tryz.prog 15 #[.string s, .int .i64 n] w fun e w' => e = .returned (.tuple #[.int .i64 v2, .int .i64 n2, .int .i64 b2]) ∧ w' = w) := fun w => num_i s _ w hs (by omega) (by omega) v2 n2 b2 hv2
    have hok2 := Fl.num_ok s.toList n.toNat (by omega)
    rw [hv2, hlen] at hok2
    simp only at hok2
    by_cases h4 : n2 < 0
    · have : Fl.one s.toList p k = (Fl.nd0, -1, b2) := by unfold Fl.one; rw [if_neg (by omega)]; simp only [hg, hF]; rw [if_neg h1]; simp only [hv]; rw [if_neg h2, if_pos trivial]; simp only [hv2]; rw [if_pos h4]
      rw [this]; exact one_cnt s p k v n b v2 n2 b2 b2 w hs hp' h2 (Or.inl ⟨h4, rfl⟩) H H1 H2
    by_cases h5 : 16 < v2
    · have : Fl.one s.toList p k = (Fl.nd0, -1, n) := by unfold Fl.one; rw [if_neg (by omega)]; simp only [hg, hF]; rw [if_neg h1]; simp only [hv]; rw [if_neg h2, if_pos trivial]; simp only [hv2]; rw [if_neg h4, if_pos h5]
      rw [this]; exact one_cnt s p k v n b v2 n2 b2 n w hs hp' h2 (Or.inr ⟨h4, h5, rfl⟩) H H1 H2
    obtain ⟨l, n3, b3, hv3⟩ : ∃ l n b, Fl.nums s.toList n2.toNat v2.toNat = (l, n, b) := ⟨_, _, _, rfl⟩
    have H3 : ∀ w, Calls Tryz.prog 16 #[.string s, .int .i64 n2, .int .i64 v2] w fun e w' => ∃ lv, e = .returned (.tuple #[lv, .int .i64 n3, .int .i64 b3]) ∧ w'.ownsRow w.heap.size 3 1 lv l.length (l.map (Value.int .i64)) ∧ Below w.heap.size w w' := fun w => nums_i s _ _ w hs (by omega) (by omega) (by omega) (by omega) l n3 b3 hv3
    have hok3 := Fl.nums_ok s.toList n2.toNat v2.toNat (by omega)
    rw [hv3, hlen] at hok3
    simp only at hok3
    by_cases h6 : n3 < 0
    · have : Fl.one s.toList p k = (Fl.nd0, -1, b3) := by unfold Fl.one; rw [if_neg (by omega)]; simp only [hg, hF]; rw [if_neg h1]; simp only [hv]; rw [if_neg h2, if_pos trivial]; simp only [hv2]; rw [if_neg h4, if_neg h5]; simp only [hv3]; rw [if_pos h6]
      rw [this]; exact one_lbad s p k v n b v2 n2 b2 n3 b3 w hs hp' h2 h4 h5 h6 H H1 H2 (fun w => (H3 w).mono fun e w' ⟨lv, a, _, c⟩ => ⟨lv, a, c⟩)
    have : Fl.one s.toList p k = Fl.oneFin p k ⟨s[p].toNat, v, 0, 0, 0, l⟩ n3 := by unfold Fl.one; rw [if_neg (by omega)]; simp only [hg, hF]; rw [if_neg h1]; simp only [hv]; rw [if_neg h2, if_pos trivial]; simp only [hv2]; rw [if_neg h4, if_neg h5]; simp only [hv3]; rw [if_neg h6]
    rw [this]
    exact one_list s p k v n b v2 n2 b2 n3 b3 l w h4 h5 h6 (by omega) hs hp' h2 H1 H H2 H3
  · obtain ⟨l, n3, b3, hv3⟩ : ∃ l m b, Fl.nums s.toList n.toNat F.toNat = (l, m, b) := ⟨_, _, _, rfl⟩
    have H3 : ∀ w, Calls Tryz.prog 16 #[.string s, .int .i64 n, .int .i64 F] w fun e w' => ∃ lv, e = .returned (.tuple #[lv, .int .i64 n3, .int .i64 b3]) ∧ w'.ownsRow w.heap.size 3 1 lv l.length (l.map (Value.int .i64)) ∧ Below w.heap.size w w' := fun w => nums_i s _ _ w hs (by omega) (by omega) (by omega) (by omega) l n3 b3 hv3
    have hok3 := Fl.nums_ok s.toList n.toNat F.toNat (by omega)
    rw [hv3, hlen] at hok3
    simp only at hok3
    by_cases h6 : n3 < 0
    · have : Fl.one s.toList p k = (Fl.nd0, -1, b3) := by unfold Fl.one; rw [if_neg (by omega)]; simp only [hg, hF]; rw [if_neg h1]; simp only [hv]; rw [if_neg h2, if_neg h3]; simp only [hv3]; rw [if_pos h6]
      rw [this]; exact one_fbad s p k F v n b n3 b3 w hs hp' h2 (by omega) hFb.2 h6 H H1 (fun w => (H3 w).mono fun e w' ⟨lv, a, _, c⟩ => ⟨lv, a, c⟩)
    have : Fl.one s.toList p k = Fl.oneFin p k ⟨s[p].toNat, v, l.getD 0 0, l.getD 1 0, l.getD 2 0, []⟩ n3 := by unfold Fl.one; rw [if_neg (by omega)]; simp only [hg, hF]; rw [if_neg h1]; simp only [hv]; rw [if_neg h2, if_neg h3]; simp only [hv3]; rw [if_neg h6]
    rw [this]
    have hlF : l.length = F.toNat := by
      rcases hok3 with h | h
      · omega
      · exact h.2.2.1
    have hF1 : 1 ≤ F := by
      have : F ≠ 0 := by intro h; rw [h] at hF; unfold Fl.fields at hF; repeat' split at hF <;> omega
      omega
    rcases (show F = 1 ∨ F = 2 ∨ F = 3 from by omega) with rfl | rfl | rfl
    · match l, hlF with
      | [x], _ => exact one_f1 s p k v n b n3 b3 x w hs hp' h2 h6 H H1 H3
    · match l, hlF with
      | [x, y], _ => exact one_f2 s p k v n b n3 b3 x y w hs hp' h2 h6 H H1 H3
    · match l, hlF with
      | [x, y, z], _ => exact one_f3 s p k v n b n3 b3 x y z w hs hp' h2 h6 H H1 H3
end Go.Proofs.YtbihjgfbocpobaaGreatDoor

/- The reference's Encode. -/
set_option linter.unusedSimpArgs false
set_option linter.unusedVariables false
namespace Go.Proofs.YtbihjgfbocpobaaGreatDoor
open Go.RowKit

theorem IntsAt.at {B : Nat} {w : World} {ao : Option Addr} {n cap : Nat} {xs : List Int} (h : IntsAt B w (.slice ao n cap) xs) {i : Nat} (hi : i < xs.length) : ∃ b off, ao = some ⟨b, off, none⟩ ∧ b < B ∧ w.cell? ⟨b, off + i, none⟩ = some (.int .i64 (xs.getD i 0)) := by
  obtain ⟨ao', cap', hv, _, _, hx⟩ := h
  obtain ⟨b, off, ha, hbB, hcell⟩ := hx (by intro hh; rw [hh] at hi; simp at hi)
  simp only [Value.slice.injEq] at hv
  exact ⟨b, off, hv.1.trans ha, hbB, hcell i hi⟩
theorem ret_sbi {r : List UInt8 × Bool × Int} {a : ByteArray} {b : Bool} {c : Int} (h1 : a = ⟨r.1.toArray⟩) (h2 : b = r.2.1) (h3 : c = r.2.2) : Ending.returned (.tuple #[.string a, .bool b, .int .i64 c]) = .returned (.tuple #[.string ⟨r.1.toArray⟩, .bool r.2.1, .int .i64 r.2.2]) := by
  rw [h1, h2, h3]

set_option maxRecDepth 100000 in
set_option maxHeartbeats 8000000 in
theorem enc_early (n m : Nat) (la na : Option Addr) (lcap ncap : Nat) (w : World) (hn : n ≤ 9223372036854775807) (hm : m ≤ 9223372036854775807) (h : 4 < n ∨ m = 0 ∨ 200 < m) :
    Calls Tryz.prog 12 #[.agg #[.slice la n lcap, .slice na m ncap]] w fun e w' => e = .returned (.tuple #[.string ⟨#[]⟩, .bool false, .int .i64 (-1)]) ∧ Below w.heap.size w w' := by
  by_cases h1 : 4 < n
  · clear h
    go_enter Tryz.func12, Tryz.ntmps12
    go_wp2
    go_ret3
    exact ⟨rfl, (Below.refl _ _).alloc (Nat.le_refl _) _⟩
  · by_cases h2 : m = 0
    · have b2 : ((m : Int) == 0) = true := beq_iff_eq.2 (by omega)
      clear h h2
      go_enter Tryz.func12, Tryz.ntmps12
      go_wp2
      go_ret3
      exact ⟨rfl, (Below.refl _ _).alloc (Nat.le_refl _) _⟩
    · have b2 : ((m : Int) == 0) = false := beq_eq_false_iff_ne.2 (by omega)
      have h3 : 200 < m := by omega
      clear h h2
      go_enter Tryz.func12, Tryz.ntmps12
      go_wp2
      go_ret3
      exact ⟨rfl, (Below.refl _ _).alloc (Nat.le_refl _) _⟩

set_option maxRecDepth 100000 in
set_option maxHeartbeats 8000000 in
theorem enc_late (ls : List Int) (ns : List Fl.Node) (la na : Option Addr) (lcap ncap : Nat) (B : Nat) (w : World) (hB : B ≤ w.heap.size) (hl : IntsAt B w (.slice la ls.length lcap) ls) (hn : NodesAt B w (.slice na ns.length ncap) ns)
    (h1 : ls.length ≤ 4) (h2 : ns.length ≠ 0) (h3 : ns.length ≤ 200) :
    Calls Tryz.prog 12 #[.agg #[.slice la ls.length lcap, .slice na ns.length ncap]] w fun e w' => e = .returned (.tuple #[.string ⟨(Fl.encode ls ns).1.toArray⟩, .bool (Fl.encode ls ns).2.1, .int .i64 (Fl.encode ls ns).2.2]) ∧ Below w.heap.size w w' := by
  have HL : Hid (IntsAt B w (.slice la ls.length lcap) ls) := hl
  have HN : Hid (NodesAt B w (.slice na ns.length ncap) ns) := hn
  have b2 : ((ns.length : Int) == 0) = false := beq_eq_false_iff_ne.2 (by omega)
  have H1 : Hid (¬ (4 < ls.length ∨ ns.length = 0 ∨ 200 < ns.length)) := by intro h; omega
  have h2' : 0 < ns.length := by omega
  clear hl hn h2
  have hB1 : Below B w (w.alloc (.cells #[.slice la ls.length lcap, .slice na ns.length ncap] 32)) := (Below.refl _ _).alloc hB _
  have HBW : Hid (Below w.heap.size w (w.alloc (.cells #[.slice la ls.length lcap, .slice na ns.length ncap] 32))) := (Below.refl _ _).alloc (Nat.le_refl _) _
  clear hB1
  go_enter Tryz.func12, Tryz.ntmps12
  go_wp2
  go_loop [5] (fun i => ∃ j : Nat, j ≤ ls.length ∧ i = .int .i64 j ∧ ∀ t : Nat, t < j → Fl.inR (ls.getD t 0) = true) (fun i => ls.length - (intOf i).toNat)
  case atStart => exact ⟨0, by omega, rfl, fun t ht => by omega⟩
  case round =>
    obtain ⟨j, hj, rfl, hall⟩ := hrel
    have HA : Hid (∀ t : Nat, t < j → Fl.inR (ls.getD t 0) = true) := hall
    clear hall
    by_cases hlt : j < ls.length
    · obtain ⟨b, off, rfl, hbB, hcj⟩ := HL.out.at hlt
      have hbw : b < w.heap.size := by omega
      obtain ⟨x, hx⟩ : ∃ x, x = ls.getD j 0 := ⟨_, rfl⟩
      rw [← hx] at hcj
      have HXJ : Hid (x = ls.getD j 0) := hx
      have hji : (j : Int) < (ls.length : Int) := by omega
      clear hx
      by_cases hx0 : x < 0 ∨ 2147483648 ≤ x
      · have hbad : Fl.encode ls ns = ([], false, -1) := by
          unfold Fl.encode; rw [if_neg H1.out, if_pos (all_bad (j := j) hlt (by rw [← HXJ.out]; exact inR_bad hx0))]
        have HBD : Hid (Fl.encode ls ns = ([], false, -1)) := hbad
        clear hbad
        by_cases hx1 : x < 0
        · clear hx0
          go_wp2
          go_ret3
          exact ⟨by rw [HBD.out]; rfl, HBW.out⟩
        · have hx2 : 2147483648 ≤ x := by omega
          clear hx0
          go_wp2
          go_ret3
          exact ⟨by rw [HBD.out]; rfl, HBW.out⟩
      · have hx1 : ¬ x < 0 := by omega
        have hx2 : ¬ 2147483648 ≤ x := by omega
        clear hx0
        go_wp2
        go_round
        case rel => exact ⟨j + 1, by omega, by go_num, fun t ht => by
          by_cases h : t < j
          · exact HA.out t h
          · have : t = j := by omega
            subst this; rw [← HXJ.out]; exact inR_ok (by omega)⟩
        case measure => simp [intOf]; omega
    · have hallR : ls.all Fl.inR = true := all_good (fun t ht => HA.out t (by omega))
      have HAL : Hid (ls.all Fl.inR = true) := hallR
      clear hallR HA
      have HSH : Hid (Calls Tryz.prog 18 #[.slice na ns.length ncap] (w.alloc (.cells #[.slice la ls.length lcap, .slice na ns.length ncap] 32)) fun e w' => e = .returned (.int .i64 (Fl.shaped ns)) ∧ Below (w.alloc (.cells #[.slice la ls.length lcap, .slice na ns.length ncap] 32)).heap.size (w.alloc (.cells #[.slice la ls.length lcap, .slice na ns.length ncap] 32)) w') := shaped_walk ns _ B _ (by simp; omega) (HN.out.below ((Below.refl _ _).alloc hB _))
      go_wp2_with fail
      refine (HSH.out).mono ?_; rintro e w1 ⟨rfl, hb1⟩
      clear HSH
      obtain ⟨sh, hsh⟩ : ∃ sh, Fl.shaped ns = sh := ⟨_, rfl⟩
      rw [hsh]
      have hbw1 : Below w.heap.size w w1 := HBW.out.trans (hb1.mono (by simp))
      by_cases hs0 : 0 ≤ sh
      · have hres : Fl.encode ls ns = ([], false, sh) := by
          unfold Fl.encode; rw [if_neg H1.out, if_neg (by rw [HAL.out]; simp), hsh, if_pos hs0]
        have HR : Hid (Fl.encode ls ns = ([], false, sh)) := hres
        clear hres hsh
        go_wp2
        go_ret3
        exact ⟨by rw [HR.out]; rfl, hbw1⟩
      · have hres : Fl.encode ls ns = (Fl.headBytes ls ns ++ Fl.allBytes ns, true, -1) := by
          unfold Fl.encode; rw [if_neg H1.out, if_neg (by rw [HAL.out]; simp), hsh, if_neg hs0]
        have HR : Hid (Fl.encode ls ns = (Fl.headBytes ls ns ++ Fl.allBytes ns, true, -1)) := hres
        have HSD : Hid (∀ k, k < ns.length → Fl.sound (Fl.nth ns k) = true) := fun k hk => Fl.sound_of_shaped (by rw [hsh]; omega) k hk
        clear hres hsh
        have hz1 : w.heap.size < w1.heap.size := by have := hb1.size; simp at this; omega
        have k0 : w1.cell? ⟨w.heap.size, 0, none⟩ = some (.slice la ls.length lcap) := by rw [hb1.cell (p := ⟨w.heap.size, 0, none⟩) (by simp)]; simp
        go_wp2_with fail
        refine (coded_int ls.length _ (by omega) (by omega)).mono ?_; rintro e w2 ⟨rfl, hb2⟩
        rw [show ((ls.length : Int)).toNat = ls.length from by omega]
        have hb2' : Below (w.alloc (.cells #[.slice la ls.length lcap, .slice na ns.length ncap] 32)).heap.size (w.alloc (.cells #[.slice la ls.length lcap, .slice na ns.length ncap] 32)) w2 := hb1.trans (hb2.mono hb1.size)
        have hcl := Fl.coded_len ls.length
        generalize hq : Fl.coded ls.length = cl at *
        have HCL : Hid (Fl.coded ls.length = cl) := hq
        clear hq hb1 hb2 hbw1 k0
        go_wp2
        go_loopw [8, 9] (fun t i wr => ∃ j : Nat, j ≤ ls.length ∧ i = .int .i64 j ∧ t = .string ⟨([70, 80, 49] ++ (cl ++ Fl.codedAll (ls.take j))).toArray⟩ ∧ Below (w.alloc (.cells #[.slice la ls.length lcap, .slice na ns.length ncap] 32)).heap.size (w.alloc (.cells #[.slice la ls.length lcap, .slice na ns.length ncap] 32)) wr) (fun _ i _ => ls.length - (intOf i).toNat)
        case atStart => exact ⟨0, by omega, rfl, by rw [show (⟨#[70, 80, 49]⟩ : ByteArray) = ⟨([70, 80, 49] : List UInt8).toArray⟩ from rfl, app_bytes]; simp [Fl.codedAll], hb2'⟩
        case round =>
          clear hb2'
          obtain ⟨j, hj, rfl, rfl, hbr⟩ := hrel
          have hrs := hbr.size
          simp only [World.size_alloc] at hrs
          have hbw : Below w.heap.size w wr := HBW.out.trans (hbr.mono (by simp))
          have k0 : wr.cell? ⟨w.heap.size, 0, none⟩ = some (.slice la ls.length lcap) := by rw [hbr.cell (p := ⟨w.heap.size, 0, none⟩) (by simp)]; simp
          have k1 : wr.cell? ⟨w.heap.size, 1, none⟩ = some (.slice na ns.length ncap) := by rw [hbr.cell (p := ⟨w.heap.size, 1, none⟩) (by simp)]; simp
          have hpl := Fl.codedAll_len (ls.take j)
          have hpl2 : (ls.take j).length ≤ 4 := by simp; omega
          generalize hq : Fl.codedAll (ls.take j) = pre at *
          have HP : Hid (Fl.codedAll (ls.take j) = pre) := hq
          clear hq
          by_cases hjl : j < ls.length
          · obtain ⟨b, off, rfl, hbB, hcj⟩ := (HL.out.below (hbw.mono hB)).at hjl
            have hxr := inR_iff.1 (List.all_eq_true.1 HAL.out _ (getD_mem hjl))
            obtain ⟨x, hx⟩ : ∃ x, x = ls.getD j 0 := ⟨_, rfl⟩
            rw [← hx] at hcj hxr
            have HXJ : Hid (x = ls.getD j 0) := hx
            have HXR : Hid (0 ≤ x ∧ x < 2147483648) := hxr
            have hji : (j : Int) < (ls.length : Int) := by omega
            clear hx hxr
            go_wp2_with fail
            refine (coded_int x _ HXR.out.1 HXR.out.2).mono ?_; rintro e w3 ⟨rfl, hb3⟩
            have HB3 : Hid (Below _ _ w3) := hbr.trans (hb3.mono (by simp; omega))
            have hcx := Fl.coded_len x.toNat
            generalize hq : Fl.coded x.toNat = cx at *
            have HCX : Hid (Fl.coded x.toNat = cx) := hq
            clear hq hbr hb3 hcj k0 k1 hbw
            go_wp2
            go_roundw
            case rel => exact ⟨j + 1, by omega, by go_num, by rw [app_bytes, Fl.take_snocI _ j hjl, Fl.codedAll_snoc, HP.out, ← HXJ.out, HCX.out]; simp, HB3.out⟩
            case measure => simp [intOf]; omega
          · have hall : ls.take j = ls := List.take_of_length_le (by omega)
            have HAL2 : Hid (ls.take j = ls) := hall
            clear hall
            go_wp2_with fail
            refine (coded_int ns.length _ (by omega) (by omega)).mono ?_; rintro e w4 ⟨rfl, hb4⟩
            rw [show ((ns.length : Int)).toNat = ns.length from by omega]
            have hb4' : Below (w.alloc (.cells #[.slice la ls.length lcap, .slice na ns.length ncap] 32)).heap.size (w.alloc (.cells #[.slice la ls.length lcap, .slice na ns.length ncap] 32)) w4 := hbr.trans (hb4.mono (by simp; omega))
            have hcn := Fl.coded_len ns.length
            generalize hq : Fl.coded ns.length = cn at *
            have HCN : Hid (Fl.coded ns.length = cn) := hq
            clear hq hb4 hbr hbw k0 k1
            go_wp2
            go_loopw [8, 10] (fun t i wr => ∃ j : Nat, j ≤ ns.length ∧ i = .int .i64 j ∧ t = .string ⟨([70, 80, 49] ++ (cl ++ (pre ++ (cn ++ Fl.allBytes (ns.take j))))).toArray⟩ ∧ Below (w.alloc (.cells #[.slice la ls.length lcap, .slice na ns.length ncap] 32)).heap.size (w.alloc (.cells #[.slice la ls.length lcap, .slice na ns.length ncap] 32)) wr) (fun _ i _ => ns.length - (intOf i).toNat)
            case atStart => exact ⟨0, by omega, rfl, by rw [app_bytes]; simp [Fl.allBytes], hb4'⟩
            case round =>
              clear hb4'
              obtain ⟨i, hi, rfl, rfl, hbr⟩ := hrel
              have hrs := hbr.size
              simp only [World.size_alloc] at hrs
              have hbw : Below w.heap.size w wr := HBW.out.trans (hbr.mono (by simp))
              have k1 : wr.cell? ⟨w.heap.size, 1, none⟩ = some (.slice na ns.length ncap) := by rw [hbr.cell (p := ⟨w.heap.size, 1, none⟩) (by simp)]; simp
              have hpl3 := Fl.allBytes_len (ns.take i) (fun x hx => by
                obtain ⟨j, hj, rfl⟩ := Fl.mem_nth (List.mem_of_mem_take hx); exact HSD.out j hj)
              have hpl4 : (ns.take i).length ≤ 200 := by simp; omega
              generalize hq : Fl.allBytes (ns.take i) = pre2 at *
              have HP2 : Hid (Fl.allBytes (ns.take i) = pre2) := hq
              clear hq
              by_cases hil : i < ns.length
              · obtain ⟨b, off, rfl⟩ : ∃ b off, na = some ⟨b, off, none⟩ := by
                  obtain ⟨ao', cap', hv', _, _, hx'⟩ := HN.out
                  obtain ⟨b, off, ha, _⟩ := hx' (by intro h; rw [h] at hil; simp at hil)
                  simp only [Value.slice.injEq] at hv'
                  exact ⟨b, off, hv'.1.trans ha⟩
                obtain ⟨hbB, lv, c0, c1, c2, c3, c4, c5, c6⟩ := (HN.out.below (hbw.mono hB)).at hil
                have HND : Hid (Calls Tryz.prog 28 #[nodeV (Fl.nth ns i) lv] wr fun e w' => e = .returned (.string ⟨(Fl.nodeBytes (Fl.nth ns i)).toArray⟩) ∧ Below wr.heap.size wr w') := node_any _ _ B _ (by omega) c0 (HSD.out i hil)
                have hii : (i : Int) < (ns.length : Int) := by omega
                have hnl := Fl.nodeBytes_len (HSD.out i hil)
                clear c0
                go_wp2_with fail
                refine (HND.out).mono ?_; rintro e w5 ⟨rfl, hb5⟩
                have HB5 : Hid (Below _ _ w5) := hbr.trans (hb5.mono (by simp; omega))
                generalize hq : Fl.nodeBytes (Fl.nth ns i) = cx at *
                have HCX : Hid (Fl.nodeBytes (Fl.nth ns i) = cx) := hq
                clear hq hbr hb5 c1 c2 c3 c4 c5 c6 k1 hbw HND
                go_wp2
                go_roundw
                case rel => exact ⟨i + 1, by omega, by go_num, by rw [app_bytes, Fl.take_snocN _ i hil, Fl.allBytes_snoc, HP2.out, HCX.out]; simp, HB5.out⟩
                case measure => simp [intOf]; omega
              · have hall : ns.take i = ns := List.take_of_length_le (by omega)
                have HAL3 : Hid (ns.take i = ns) := hall
                clear hall
                go_wp2
                go_ret3
                refine ⟨?_, hbw⟩
                rw [HR.out, Fl.headBytes, HCL.out, HCN.out]
                have e1 := HP.out
                have e2 := HP2.out
                rw [HAL2.out] at e1
                rw [HAL3.out] at e2
                rw [e1, e2]
                simp

/-- Encode, of every proof. -/
theorem encode_any (ls : List Int) (ns : List Fl.Node) (lv nv : Value) (B : Nat) (w : World) (hB : B ≤ w.heap.size) (hl : IntsAt B w lv ls) (hn : NodesAt B w nv ns) :
    Calls Tryz.prog 12 #[.agg #[lv, nv]] w fun e w' => e = .returned (.tuple #[.string ⟨(Fl.encode ls ns).1.toArray⟩, .bool (Fl.encode ls ns).2.1, .int .i64 (Fl.encode ls ns).2.2]) ∧ Below w.heap.size w w' := by
  obtain ⟨la, lcap, rfl, _, hm, _⟩ := id hl
  obtain ⟨na, ncap, rfl, _, hm', _⟩ := id hn
  unfold maxLen at hm hm'
  by_cases h : 4 < ls.length ∨ ns.length = 0 ∨ 200 < ns.length
  · have he : Fl.encode ls ns = ([], false, -1) := by unfold Fl.encode; rw [if_pos h]
    rw [he]; exact enc_early _ _ la na lcap ncap w (by omega) (by omega) h
  · exact enc_late ls ns la na lcap ncap B w hB hl hn (by omega) (by omega) (by omega)
end Go.Proofs.YtbihjgfbocpobaaGreatDoor

/- The reference's Decode: what it opens with. -/
set_option linter.unusedSimpArgs false
set_option linter.unusedVariables false
namespace Go.Proofs.YtbihjgfbocpobaaGreatDoor
open Go.RowKit

/-- What Decode answers. -/
def DecEnds (r : (List Int × List Fl.Node) × Bool × Int) (w : World) (e : Ending) (w' : World) : Prop :=
  Below w.heap.size w w' ∧ ∃ la n lc na n' nc, e = .returned (.tuple #[.agg #[.slice la n lc, .slice na n' nc], .bool r.2.1, .int .i64 r.2.2]) ∧ (r.2.1 = true → IntsAt w'.heap.size w' (.slice la n lc) r.1.1 ∧ NodesAt w'.heap.size w' (.slice na n' nc) r.1.2)
theorem dec_bad {w w' : World} {la na : Option Addr} {n lc n' nc : Nat} {b : Int} {r : (List Int × List Fl.Node) × Bool × Int} {e : Ending} (hr : r = (([], []), false, b)) (he : e = .returned (.tuple #[.agg #[.slice la n lc, .slice na n' nc], .bool false, .int .i64 b])) (hb : Below w.heap.size w w') : DecEnds r w e w' := by
  subst hr; exact ⟨hb, la, n, lc, na, n', nc, he, fun h => by simp at h⟩

theorem head_fact (s : ByteArray) (i : Nat) (hi : i < 3) (h : ∀ j, j < i → Fl.headOk s.toList j = true) (hb : Fl.headOk s.toList i = false) : Fl.headAt s.toList = i := by
  unfold Fl.headAt
  rcases (show i = 0 ∨ i = 1 ∨ i = 2 from by omega) with rfl | rfl | rfl
  · rw [if_pos hb]
  · rw [if_neg (by rw [h 0 (by omega)]; simp), if_pos hb]
  · rw [if_neg (by rw [h 0 (by omega)]; simp), if_neg (by rw [h 1 (by omega)]; simp), if_pos hb]
theorem head_three (s : ByteArray) (h : ∀ j, j < 3 → Fl.headOk s.toList j = true) : Fl.headAt s.toList = 3 ∧ 3 ≤ s.size := by
  have h2 := h 2 (by omega)
  constructor
  · unfold Fl.headAt; rw [if_neg (by rw [h 0 (by omega)]; simp), if_neg (by rw [h 1 (by omega)]; simp), if_neg (by rw [h2]; simp)]
  · unfold Fl.headOk at h2; rw [Bool.and_eq_true, decide_eq_true_eq] at h2; have := size_toList s; omega
theorem headOk_long (s : ByteArray) (i : Nat) (h : ¬ i < s.size) : Fl.headOk s.toList i = false := by
  unfold Fl.headOk; rw [decide_eq_false (by rw [size_toList]; exact h)]; rfl
theorem headOk_at (s : ByteArray) (i : Nat) (h : i < s.size) : Fl.headOk s.toList i = (s[i] == ([70, 80, 49] : List UInt8).getD i 0) := by
  unfold Fl.headOk; rw [decide_eq_true (by rw [size_toList]; exact h), getD_toList s i h]; rfl

theorem head_ne {x c : UInt8} (h : ((x.toNat : Int) != (c.toNat : Int)) = true) : (x == c) = false := by
  rw [bne_iff_ne] at h; rw [beq_eq_false_iff_ne]; intro hh; exact h (by rw [hh])
theorem head_eq {x c : UInt8} (h : ((x.toNat : Int) != (c.toNat : Int)) = false) : (x == c) = true := by
  rw [beq_iff_eq]; apply UInt8.toNat_inj.1; have : (x.toNat : Int) = (c.toNat : Int) := by simpa using h
  omega

theorem drewN_size (w : World) (m : Nat) : (w.drewN m).heap.size = w.heap.size := by
  induction m with
  | zero => rfl
  | succ m ih => exact ih
theorem drewN_cell (w : World) (m : Nat) (a : Addr) : (w.drewN m).cell? a = w.cell? a := by
  induction m with
  | zero => rfl
  | succ m ih => exact ih
theorem drewN_frozen (w : World) (m : Nat) (a : Addr) : (w.drewN m).frozen? a = w.frozen? a := by
  induction m with
  | zero => rfl
  | succ m ih => exact ih
theorem two_same {w1 : World} {B : Nat} (v0 v1 : Value) {o0 o1 : Value} (h0 : w1.cell? ⟨B, 0, none⟩ = some o0) (h1 : w1.cell? ⟨B, 1, none⟩ = some o1) :
    (w1.setCell ⟨B, 0, none⟩ v0).cell? ⟨B, 0, none⟩ = some v0 ∧ ((w1.setCell ⟨B, 0, none⟩ v0).setCell ⟨B, 1, none⟩ v1).cell? ⟨B, 1, none⟩ = some v1 :=
  ⟨cell_self h0, cell_self (o := o1) ((cell_off (by decide)).trans h1)⟩
theorem two_below {B : Nat} {w w1 : World} {v0 v1 : Value} (h : Below B w w1) : Below B w ((w1.setCell ⟨B, 0, none⟩ v0).setCell ⟨B, 1, none⟩ v1) := (h.setCell (Nat.le_refl _) _).setCell (Nat.le_refl _) _

theorem one_cell_new2 {w : World} {o : Obj} {e : TypeId} {x : Value} : ∀ j u, [x][j]? = some u → ((w.alloc o).alloc (.cells #[x] e)).cell? ((⟨w.heap.size + 1, 0, none⟩ : Addr).add j) = some u := by
  intro j u hj
  have := one_cell_new (w := w.alloc o) (e := e) j u hj
  rwa [World.size_alloc] at this
theorem Tryz.infoNode : (Tryz.prog.info? 53).map (fun i => (i.zero, i.size, i.bytes)) = some (some (.agg #[.int .i64 0, .int .i64 0, .int .i64 0, .int .i64 0, .int .i64 0, .slice none 0 0]), 6, 64) := by kernel_rfl

set_option maxRecDepth 100000 in
set_option maxHeartbeats 16000000 in
theorem decode_walk (s : ByteArray) (w : World) (hs : s.size ≤ 4611686018427387904) :
    Calls Tryz.prog 8 #[.string s] w fun e w' => DecEnds (Fl.decode s.toList) w e w' := by
  obtain ⟨i0, hi, hz0, hzs, hzb⟩ := info_parts Tryz.infoInt
  obtain ⟨i1, hi1, hy0, hy1, hyb⟩ := info_parts Tryz.infoNode
  go_enter Tryz.func8, Tryz.ntmps8
  go_wp2
  go_loopw [7] (fun i wr => ∃ j m : Nat, j ≤ 3 ∧ i = .int .i64 j ∧ (∀ t, t < j → Fl.headOk s.toList t = true) ∧ wr = ((w.alloc (.cells #[.slice none 0 0, .slice none 0 0] 32)).alloc (.cells #[.slice none 0 0, .slice none 0 0] 32)).drewN m) (fun i _ => 3 - (intOf i).toNat)
  case atStart => exact ⟨0, 0, by omega, rfl, fun t ht => by omega, rfl⟩
  case round =>
    obtain ⟨j, m, hj, rfl, hall, rfl⟩ := hrel
    have HA : Hid (∀ t, t < j → Fl.headOk s.toList t = true) := hall
    clear hall
    by_cases hj3 : j < 3
    · by_cases hjs : j < s.size
      · have hg1 : decide ((s.size : Int) ≤ (j : Int)) = false := by simp; omega
        have hjI : (j : Int) < (s.size : Int) := by omega
        rcases (show j = 0 ∨ j = 1 ∨ j = 2 from by omega) with rfl | rfl | rfl
        · have hg2 : decide ((s.size : Int) ≤ 0) = false := decide_eq_false (by omega)
          have hg3 : decide (s.size = 0) = false := decide_eq_false (by omega)
          have hg5 : decide (s.size ≤ 0) = false := decide_eq_false (by omega)
          have hg4 : ¬ s.size = 0 := by omega
          have hg6 : 0 < s.size := by omega
          have hj2 : (0 : Int) < (s.size : Int) := by omega
          have hok := headOk_at s 0 hjs
          have HOK : Hid (Fl.headOk s.toList 0 = (s[0] == ([70, 80, 49] : List UInt8).getD 0 0)) := hok
          clear hok hg1 hjI
          go_wp2_with fail
          go_quiet (fail)
          go_wp2
          · have hne : ((s[0].toNat : Int) != (((⟨#[70, 80, 49]⟩ : ByteArray)[0]'(by decide)).toNat : Int)) = true := by assumption
            have hhd : Fl.decode s.toList = (([], []), false, ((0 : Nat) : Int)) := by
              have := head_fact s 0 hj3 HA.out (HOK.out.trans (head_ne hne))
              unfold Fl.decode; rw [if_pos (by omega), this]
            exact bodyPost_ret (v := .tuple #[.agg #[.slice none 0 0, .slice none 0 0], .bool false, .int .i64 ((0 : Nat) : Int)]) (by simp [results, Tryz.results8, go_sem]) rfl (dec_bad hhd rfl (by repeat (first | exact ((Below.refl _ _).alloc (Nat.le_refl _) _).alloc (by simp) _ | apply Below.drewN_of | (refine Below.setCell ?_ (by simp) _))))
          · have hne : ((s[0].toNat : Int) != (((⟨#[70, 80, 49]⟩ : ByteArray)[0]'(by decide)).toNat : Int)) = false := by assumption
            go_roundw
            case rel => exact ⟨1, _, by omega, rfl, fun t ht => by
              by_cases h : t < 0
              · exact HA.out t h
              · have : t = 0 := by omega
                subst this; exact HOK.out.trans (head_eq hne), rfl⟩
            case measure => simp [intOf]
        · have hg2 : decide ((s.size : Int) ≤ 1) = false := decide_eq_false (by omega)
          have hj2 : (1 : Int) < (s.size : Int) := by omega
          have hok := headOk_at s 1 hjs
          have HOK : Hid (Fl.headOk s.toList 1 = (s[1] == ([70, 80, 49] : List UInt8).getD 1 0)) := hok
          clear hok hg1 hjI
          go_wp2_with fail
          go_quiet (fail)
          go_wp2
          · have hne : ((s[1].toNat : Int) != (((⟨#[70, 80, 49]⟩ : ByteArray)[1]'(by decide)).toNat : Int)) = true := by assumption
            have hhd : Fl.decode s.toList = (([], []), false, ((1 : Nat) : Int)) := by
              have := head_fact s 1 hj3 HA.out (HOK.out.trans (head_ne hne))
              unfold Fl.decode; rw [if_pos (by omega), this]
            exact bodyPost_ret (v := .tuple #[.agg #[.slice none 0 0, .slice none 0 0], .bool false, .int .i64 ((1 : Nat) : Int)]) (by simp [results, Tryz.results8, go_sem]) rfl (dec_bad hhd rfl (by repeat (first | exact ((Below.refl _ _).alloc (Nat.le_refl _) _).alloc (by simp) _ | apply Below.drewN_of | (refine Below.setCell ?_ (by simp) _))))
          · have hne : ((s[1].toNat : Int) != (((⟨#[70, 80, 49]⟩ : ByteArray)[1]'(by decide)).toNat : Int)) = false := by assumption
            go_roundw
            case rel => exact ⟨2, _, by omega, rfl, fun t ht => by
              by_cases h : t < 1
              · exact HA.out t h
              · have : t = 1 := by omega
                subst this; exact HOK.out.trans (head_eq hne), rfl⟩
            case measure => simp [intOf]
        · have hg2 : decide ((s.size : Int) ≤ 2) = false := decide_eq_false (by omega)
          have hj2 : (2 : Int) < (s.size : Int) := by omega
          have hok := headOk_at s 2 hjs
          have HOK : Hid (Fl.headOk s.toList 2 = (s[2] == ([70, 80, 49] : List UInt8).getD 2 0)) := hok
          clear hok hg1 hjI
          go_wp2_with fail
          go_quiet (fail)
          go_wp2
          · have hne : ((s[2].toNat : Int) != (((⟨#[70, 80, 49]⟩ : ByteArray)[2]'(by decide)).toNat : Int)) = true := by assumption
            have hhd : Fl.decode s.toList = (([], []), false, ((2 : Nat) : Int)) := by
              have := head_fact s 2 hj3 HA.out (HOK.out.trans (head_ne hne))
              unfold Fl.decode; rw [if_pos (by omega), this]
            exact bodyPost_ret (v := .tuple #[.agg #[.slice none 0 0, .slice none 0 0], .bool false, .int .i64 ((2 : Nat) : Int)]) (by simp [results, Tryz.results8, go_sem]) rfl (dec_bad hhd rfl (by repeat (first | exact ((Below.refl _ _).alloc (Nat.le_refl _) _).alloc (by simp) _ | apply Below.drewN_of | (refine Below.setCell ?_ (by simp) _))))
          · have hne : ((s[2].toNat : Int) != (((⟨#[70, 80, 49]⟩ : ByteArray)[2]'(by decide)).toNat : Int)) = false := by assumption
            go_roundw
            case rel => exact ⟨3, _, by omega, rfl, fun t ht => by
              by_cases h : t < 2
              · exact HA.out t h
              · have : t = 2 := by omega
                subst this; exact HOK.out.trans (head_eq hne), rfl⟩
            case measure => simp [intOf]
      · have hg1 : decide ((s.size : Int) ≤ (j : Int)) = true := by simp; omega
        have hhd : Fl.decode s.toList = (([], []), false, (j : Int)) := by
          have := head_fact s j hj3 HA.out (headOk_long s j hjs)
          unfold Fl.decode; rw [if_pos (by omega), this]
        have HD : Hid (Fl.decode s.toList = (([], []), false, (j : Int))) := hhd
        clear hhd
        go_wp2_with fail
        go_quiet (fail)
        go_wp2
        exact bodyPost_ret (v := .tuple #[.agg #[.slice none 0 0, .slice none 0 0], .bool false, .int .i64 j]) (by simp [results, Tryz.results8, go_sem]) rfl (dec_bad HD.out rfl (by repeat (first | exact ((Below.refl _ _).alloc (Nat.le_refl _) _).alloc (by simp) _ | apply Below.drewN_of | (refine Below.setCell ?_ (by simp) _))))
    · obtain ⟨hh3, hs3⟩ := head_three s (fun t ht => HA.out t (by omega))
      have hlen := size_toList s
      obtain ⟨n, t3, b, hv⟩ : ∃ v m b, Fl.num s.toList 3 = (v, m, b) := ⟨_, _, _, rfl⟩
      have hok := Fl.num_ok s.toList 3 (by omega)
      rw [hv, hlen] at hok
      simp only at hok
      have HOK : Hid ((t3 = -1 ∧ n = 0 ∧ 0 ≤ b ∧ b ≤ (s.size : Int)) ∨ ((3 : Nat) : Int) < t3 ∧ t3 ≤ (s.size : Int) ∧ 0 ≤ n ∧ n < 2147483648 ∧ b = 0) := hok
      have H1 : Hid (∀ w, Calls Tryz.prog 15 #[.string s, .int .i64 3] w fun e w' => e = .returned (.tuple #[.int .i64 n, .int .i64 t3, .int .i64 b]) ∧ w' = w) := fun w => num_i s 3 w hs (by omega) (by omega) n t3 b (by simpa using hv)
      have HV : Hid (Fl.num s.toList 3 = (n, t3, b)) := hv
      have HH3 : Hid (Fl.headAt s.toList = 3) := hh3
      have HLEN : Hid (s.toList.length = s.size) := hlen
      clear hv hok hh3 hlen HA
      by_cases h1 : t3 < 0
      · have HD : Hid (Fl.decode s.toList = (([], []), false, b)) := by unfold Fl.decode; rw [if_neg (by have := HH3.out; omega)]; simp only [HV.out]; rw [if_pos h1]; rfl
        go_wp2_with (go_at_call 15; refine (H1.out _).mono ?_; rintro e w' ⟨rfl, rfl⟩)
        exact bodyPost_ret (v := .tuple #[.agg #[.slice none 0 0, .slice none 0 0], .bool false, .int .i64 b]) (by simp [results, Tryz.results8, go_sem]) rfl (dec_bad HD.out rfl (by repeat (first | exact ((Below.refl _ _).alloc (Nat.le_refl _) _).alloc (by simp) _ | apply Below.drewN_of | (refine Below.setCell ?_ (by simp) _))))
      have ht3 : ((3 : Nat) : Int) < t3 ∧ t3 ≤ (s.size : Int) ∧ 0 ≤ n := by have := HOK.out; omega
      obtain ⟨ht3a, ht3b, hn0⟩ := ht3
      by_cases h2 : 4 < n
      · have HD : Hid (Fl.decode s.toList = (([], []), false, 3)) := by unfold Fl.decode; rw [if_neg (by have := HH3.out; omega)]; simp only [HV.out]; rw [if_neg h1, if_pos h2]; rfl
        go_wp2_with (go_at_call 15; refine (H1.out _).mono ?_; rintro e w' ⟨rfl, rfl⟩)
        exact bodyPost_ret (v := .tuple #[.agg #[.slice none 0 0, .slice none 0 0], .bool false, .int .i64 3]) (by simp [results, Tryz.results8, go_sem]) rfl (dec_bad HD.out rfl (by repeat (first | exact ((Below.refl _ _).alloc (Nat.le_refl _) _).alloc (by simp) _ | apply Below.drewN_of | (refine Below.setCell ?_ (by simp) _))))
      obtain ⟨l, t4, b4, hv4⟩ : ∃ l m b, Fl.nums s.toList t3.toNat n.toNat = (l, m, b) := ⟨_, _, _, rfl⟩
      have hok4 := Fl.nums_ok s.toList t3.toNat n.toNat (by have := HLEN.out; omega)
      rw [hv4, HLEN.out] at hok4
      simp only at hok4
      have HOK4 : Hid ((t4 = -1 ∧ l = [] ∧ 0 ≤ b4 ∧ b4 ≤ (s.size : Int)) ∨ (t3.toNat : Int) ≤ t4 ∧ t4 ≤ (s.size : Int) ∧ l.length = n.toNat ∧ (∀ x ∈ l, 0 ≤ x ∧ x < 2147483648)) := hok4
      have H2 : Hid (∀ w, Calls Tryz.prog 16 #[.string s, .int .i64 t3, .int .i64 n] w fun e w' => ∃ v, e = .returned (.tuple #[v, .int .i64 t4, .int .i64 b4]) ∧ w'.ownsRow w.heap.size 3 1 v l.length (l.map (Value.int .i64)) ∧ Below w.heap.size w w') := fun w => nums_i s t3 n w hs (by omega) ht3b hn0 (by omega) l t4 b4 hv4
      have HV4 : Hid (Fl.nums s.toList t3.toNat n.toNat = (l, t4, b4)) := hv4
      clear hv4 hok4
      go_wp2_with (go_at_call 15; refine (H1.out _).mono ?_; rintro e w' ⟨rfl, rfl⟩)
      refine (H2.out _).mono ?_; rintro e w1 ⟨lv, rfl, hown, hb1⟩
      have hzz : (((w.alloc (.cells #[.slice none 0 0, .slice none 0 0] 32)).alloc (.cells #[.slice none 0 0, .slice none 0 0] 32)).drewN m).heap.size = w.heap.size + 2 := by rw [drewN_size]; simp
      rw [hzz] at hown hb1
      have hz1 : w.heap.size + 1 < w1.heap.size := by have := hb1.size; rw [hzz] at this; omega
      have hcB : ∀ b o, b < w.heap.size + 2 → w1.cell? ⟨b, o, none⟩ = ((w.alloc (.cells #[.slice none 0 0, .slice none 0 0] 32)).alloc (.cells #[.slice none 0 0, .slice none 0 0] 32)).cell? ⟨b, o, none⟩ := fun b o h => (hb1.cell (p := ⟨b, o, none⟩) h).trans (drewN_cell _ _ _)
      have hfB : ∀ b o, b < w.heap.size + 2 → w1.frozen? ⟨b, o, none⟩ = ((w.alloc (.cells #[.slice none 0 0, .slice none 0 0] 32)).alloc (.cells #[.slice none 0 0, .slice none 0 0] 32)).frozen? ⟨b, o, none⟩ := fun b o h => (hb1.frozen (p := ⟨b, o, none⟩) h).trans (drewN_frozen _ _ _)
      have hbw1 : Below w.heap.size w w1 := (Below.drewN_of (((Below.refl _ _).alloc (Nat.le_refl _) _).alloc (by simp) _) m).trans (hb1.mono (by omega))
      have c0 : w1.cell? ⟨w.heap.size + 1, 0, none⟩ = some (.slice none 0 0) := by rw [hcB _ _ (by omega)]; simp
      have c1 : w1.cell? ⟨w.heap.size + 1, 1, none⟩ = some (.slice none 0 0) := by rw [hcB _ _ (by omega)]; simp
      have d0 : w1.cell? ⟨w.heap.size, 0, none⟩ = some (.slice none 0 0) := by rw [hcB _ _ (by omega)]; simp
      have d1 : w1.cell? ⟨w.heap.size, 1, none⟩ = some (.slice none 0 0) := by rw [hcB _ _ (by omega)]; simp
      have f0 : ∀ j, w1.frozen? ⟨w.heap.size, j, none⟩ = false := fun j => by rw [hfB _ _ (by omega)]; simp
      have f1 : ∀ j, w1.frozen? ⟨w.heap.size + 1, j, none⟩ = false := fun j => by rw [hfB _ _ (by omega)]; simp
      clear hcB hfB hb1 hzz H1 H2
      by_cases h4 : t4 < 0
      · have HD : Hid (Fl.decode s.toList = (([], []), false, b4)) := by unfold Fl.decode; rw [if_neg (by have := HH3.out; omega)]; simp only [HV.out]; rw [if_neg (by omega), if_neg (by omega)]; simp only [HV4.out]; rw [if_pos h4]; rfl
        obtain ⟨q0, q1⟩ := two_same (w1 := w1) (B := w.heap.size) (.slice none 0 0) (.slice none 0 0) d0 d1
        go_wp2
        exact bodyPost_ret (v := .tuple #[.agg #[.slice none 0 0, .slice none 0 0], .bool false, .int .i64 b4]) (by simp [results, Tryz.results8, go_sem, q0, q1]) rfl (dec_bad HD.out rfl (two_below hbw1))
      have ht4 : t3 ≤ t4 ∧ t4 ≤ (s.size : Int) ∧ l.length ≤ 4 := by have := HOK4.out; omega
      obtain ⟨ht4a, ht4b, hl4⟩ := ht4
      obtain ⟨M, t5, b5, hv5⟩ : ∃ v m b, Fl.num s.toList t4.toNat = (v, m, b) := ⟨_, _, _, rfl⟩
      have hok5 := Fl.num_ok s.toList t4.toNat (by have := HLEN.out; omega)
      rw [hv5, HLEN.out] at hok5
      simp only at hok5
      have HOK5 : Hid ((t5 = -1 ∧ M = 0 ∧ 0 ≤ b5 ∧ b5 ≤ (s.size : Int)) ∨ (t4.toNat : Int) < t5 ∧ t5 ≤ (s.size : Int) ∧ 0 ≤ M ∧ M < 2147483648 ∧ b5 = 0) := hok5
      have H3 : Hid (∀ w, Calls Tryz.prog 15 #[.string s, .int .i64 t4] w fun e w' => e = .returned (.tuple #[.int .i64 M, .int .i64 t5, .int .i64 b5]) ∧ w' = w) := fun w => num_i s t4 w hs (by omega) ht4b M t5 b5 hv5
      have HV5 : Hid (Fl.num s.toList t4.toNat = (M, t5, b5)) := hv5
      clear hv5 hok5
      obtain ⟨lao, lcap, rfl⟩ := own_shape hown
      have hF : Fam w (w1.setCell ⟨w.heap.size + 1, 0, none⟩ (.slice lao l.length lcap)) (.slice lao l.length lcap) (.slice none 0 0) [(.slice lao l.length lcap, l)] (.slice none 0 0) (.slice none 0 0) 0 0 [] [] := by
        have hs1 : (w1.setCell ⟨w.heap.size + 1, 0, none⟩ (.slice lao l.length lcap)).heap.size = w1.heap.size := by simp [World.setCell]
        refine ⟨World.ownsRow_nil _ _ _ _, World.ownsRow_nil _ _ _ _, fun p hp => ?_, cell_self c0, (cell_off (by decide)).trans c1, ?_, ?_, fun j => by rw [World.frozen?_setCell]; exact f0 j, fun j => by rw [World.frozen?_setCell]; exact f1 j, hbw1.setCell (by simp) _, by omega⟩
        · simp only [List.mem_singleton] at hp; subst hp
          have hlo : ∀ b, (Value.slice lao l.length lcap).ownBlock = some b → w.heap.size + 2 ≤ b := fun b hb => (hown.lt b hb).1
          refine ⟨⟨ints_set (IntsAt.of_own hown) (fun _ hh => by have h9 : w.heap.size + 2 ≤ w.heap.size + 1 := hlo _ hh; omega), fun hx => ?_⟩, fun _ => hlo⟩
          obtain ⟨b, hb, _⟩ := ints_lt (IntsAt.of_own hown) hx
          rw [hb]; simp [Value.ownBlock]
        · have h9 : (w1.setCell ⟨w.heap.size + 1, 0, none⟩ (.slice lao l.length lcap)).cell? ⟨w.heap.size, 0, none⟩ = w1.cell? ⟨w.heap.size, 0, none⟩ := by apply World.cell?_setCell_other; intro hh; injection hh with h2; omega
          rw [h9]; exact d0
        · have h9 : (w1.setCell ⟨w.heap.size + 1, 0, none⟩ (.slice lao l.length lcap)).cell? ⟨w.heap.size, 1, none⟩ = w1.cell? ⟨w.heap.size, 1, none⟩ := by apply World.cell?_setCell_other; intro hh; injection hh with h2; omega
          rw [h9]; exact d1
      have HF : Hid (Fam w (w1.setCell ⟨w.heap.size + 1, 0, none⟩ (.slice lao l.length lcap)) (.slice lao l.length lcap) (.slice none 0 0) [(.slice lao l.length lcap, l)] (.slice none 0 0) (.slice none 0 0) 0 0 [] []) := hF
      have e0 := hF.c0
      have e1 := hF.c1
      have g0 := hF.f0
      obtain ⟨q0, q1⟩ := two_same (w1 := (w1.setCell ⟨w.heap.size + 1, 0, none⟩ (.slice lao l.length lcap))) (B := w.heap.size) (.slice lao l.length lcap) (.slice none 0 0) hF.d0 hF.d1
      have HBW : Hid (Below w.heap.size w (w1.setCell ⟨w.heap.size + 1, 0, none⟩ (.slice lao l.length lcap))) := hF.hb
      clear hF hown hbw1
      by_cases h5 : t5 < 0
      · have HD : Hid (Fl.decode s.toList = (([], []), false, b5)) := by unfold Fl.decode; rw [if_neg (by have := HH3.out; omega)]; simp only [HV.out]; rw [if_neg (by omega), if_neg (by omega)]; simp only [HV4.out]; rw [if_neg (by omega)]; simp only [HV5.out]; rw [if_pos h5]; rfl
        go_wp2_with (go_at_call 15; refine (H3.out _).mono ?_; rintro e w' ⟨rfl, rfl⟩)
        exact bodyPost_ret (v := .tuple #[.agg #[.slice lao l.length lcap, .slice none 0 0], .bool false, .int .i64 b5]) (by simp [results, Tryz.results8, go_sem, q0, q1]) rfl (dec_bad HD.out rfl (two_below HBW.out))
      have ht5 : t4 < t5 ∧ t5 ≤ (s.size : Int) ∧ 0 ≤ M := by have := HOK5.out; omega
      obtain ⟨ht5a, ht5b, hM0⟩ := ht5
      by_cases h6 : M < 1 ∨ 200 < M
      · have HD : Hid (Fl.decode s.toList = (([], []), false, t4)) := by unfold Fl.decode; rw [if_neg (by have := HH3.out; omega)]; simp only [HV.out]; rw [if_neg (by omega), if_neg (by omega)]; simp only [HV4.out]; rw [if_neg (by omega)]; simp only [HV5.out]; rw [if_neg (by omega), if_pos h6]; rfl
        by_cases h7 : M < 1
        · clear h6
          go_wp2_with (go_at_call 15; refine (H3.out _).mono ?_; rintro e w' ⟨rfl, rfl⟩)
          exact bodyPost_ret (v := .tuple #[.agg #[.slice lao l.length lcap, .slice none 0 0], .bool false, .int .i64 t4]) (by simp [results, Tryz.results8, go_sem, q0, q1]) rfl (dec_bad HD.out rfl (two_below HBW.out))
        · have h8 : 200 < M := by omega
          clear h6
          go_wp2_with (go_at_call 15; refine (H3.out _).mono ?_; rintro e w' ⟨rfl, rfl⟩)
          exact bodyPost_ret (v := .tuple #[.agg #[.slice lao l.length lcap, .slice none 0 0], .bool false, .int .i64 t4]) (by simp [results, Tryz.results8, go_sem, q0, q1]) rfl (dec_bad HD.out rfl (two_below HBW.out))
      have h7 : ¬ M < 1 := by omega
      have h8 : ¬ 200 < M := by omega
      obtain ⟨Mn, rfl⟩ := Int.eq_ofNat_of_zero_le hM0
      obtain ⟨p0, rfl⟩ := Int.eq_ofNat_of_zero_le (show 0 ≤ t5 from by omega)
      have HDX : Hid (Fl.decode s.toList = (if 0 ≤ (Fl.nodesA s.toList Mn 0 p0 [] []).2.2.2 then (([], []), false, (Fl.nodesA s.toList Mn 0 p0 [] []).2.2.2) else
          if (Fl.nodesA s.toList Mn 0 p0 [] []).2.2.1 < s.size then (([], []), false, (Fl.nodesA s.toList Mn 0 p0 [] []).2.2.1) else
          if 0 ≤ Fl.shaped (Fl.nodesA s.toList Mn 0 p0 [] []).1 then (([], []), false, (Fl.nodesA s.toList Mn 0 p0 [] []).2.1.getD (Fl.shaped (Fl.nodesA s.toList Mn 0 p0 [] []).1).toNat 0) else ((l, (Fl.nodesA s.toList Mn 0 p0 [] []).1), true, 0))) := by
        unfold Fl.decode; rw [if_neg (by have := HH3.out; omega)]; simp only [HV.out]; rw [if_neg (by omega), if_neg (by omega)]; simp only [HV4.out]; rw [if_neg (by omega)]; simp only [HV5.out]; rw [if_neg (by omega), if_neg (by omega)]
        rw [HLEN.out]; rfl
      clear h6 HOK HOK4 HOK5
      go_wp2_with (go_at_call 15; refine (H3.out _).mono ?_; rintro e w' ⟨rfl, rfl⟩)
      go_loopw [12, 13, 14] (fun nx sv kk wr => ∃ (k q : Nat) (nv : Value) (st : List Int) (acc : List Fl.Node) (lvs : List Value), DecRel s.toList Mn p0 w (.slice lao l.length lcap) l wr k q sv nv st acc lvs ∧ nx = .int .i64 q ∧ kk = .int .i64 k) (fun _ _ kk _ => Mn - (intOf kk).toNat)
      case atStart => exact ⟨0, p0, .slice none 0 0, [], [], [], ⟨by omega, by have := HLEN.out; omega, rfl, rfl, rfl, by simp, HF.out⟩, rfl, rfl⟩
      case round =>
        clear e0 e1 g0 q0 q1 c0 c1 d0 d1 f0 f1 HF HBW
        obtain ⟨k, q, nv, st, acc, lvs, hR, rfl, rfl⟩ := hrel
        have HR : Hid (DecRel s.toList Mn p0 w (.slice lao l.length lcap) l wr k q u13 nv st acc lvs) := hR
        have hkn := hR.hk
        have hqs : q ≤ s.size := by have := hR.hq; have := HLEN.out; omega
        have hrz := hR.hf.hz
        obtain ⟨nao, ncap, rfl⟩ := own_shape6 hR.hf.hn
        obtain ⟨sao, scap, rfl⟩ := own_shape6 hR.hf.hs
        clear hR
        by_cases hkM : k < Mn
        · obtain ⟨nd, af, fb, ho⟩ : ∃ n a b, Fl.one s.toList q k = (n, a, b) := ⟨_, _, _, rfl⟩
          have HO : Hid (Calls Tryz.prog 17 #[.string s, .int .i64 q, .int .i64 k] wr fun e w' => OneEnds (nd, af, fb) wr e w') := by have := one_any s q k wr hs hqs; rw [ho] at this; exact this
          have hok1 := Fl.one_ok s.toList q k HR.out.hq
          rw [ho, HLEN.out] at hok1
          simp only at hok1
          have HO1 : Hid (Fl.one s.toList q k = (nd, af, fb)) := ho
          have HOK1 : Hid ((af = -1 ∧ 0 ≤ fb ∧ fb ≤ (s.size : Int)) ∨ (q : Int) < af ∧ af ≤ (s.size : Int)) := hok1
          have hkI : (k : Int) < (Mn : Int) := by omega
          clear ho hok1
          go_wp2_with fail
          refine (HO.out).mono ?_; rintro e w2 ⟨hb2, xv, rfl, ⟨nd', xao, xn, xcap, hxv⟩, hgood⟩
          have hz2 : w.heap.size + 1 < w2.heap.size := by have := hb2.size; omega
          have hz2' : w.heap.size < w2.heap.size := by omega
          simp only at hgood ⊢
          by_cases haf : af < 0
          · have HD : Hid (Fl.decode s.toList = (([], []), false, fb)) := by
              have hrr : Fl.nodesA s.toList Mn 0 p0 [] [] = (acc, st, (q : Int), fb) := by
                rw [HR.out.hrun, show Mn - k = (Mn - (k + 1)) + 1 from by omega]; simp only [Fl.nodesA, HO1.out]; rw [if_pos haf]
              rw [HDX.out, hrr]; simp only; rw [if_pos (by have := HOK1.out; omega)]; rfl
            rw [hxv]
            unfold nodeV
            have F2 := HR.out.hf.below hb2
            have e0 := F2.c0
            have e1 := F2.c1
            have g0 := F2.f0
            have d0 := F2.d0
            have d1 := F2.d1
            obtain ⟨q0, q1⟩ := two_same (w1 := w2) (B := w.heap.size) (.slice lao l.length lcap) (.slice nao k ncap) F2.d0 F2.d1
            have HB2 : Hid (Below w.heap.size w w2) := F2.hb
            have r0 : ∀ o, (((w2.setCell ⟨w.heap.size, 0, none⟩ (.slice lao l.length lcap)).setCell ⟨w.heap.size, 1, none⟩ (.slice nao k ncap)).alloc o).cell? ⟨w.heap.size, 0, none⟩ = some (.slice lao l.length lcap) := fun o => by rw [World.cell?_alloc_lt _ _ _ (by simp [World.setCell]; omega), cell_off (by decide)]; exact q0
            have r1 : ∀ o, (((w2.setCell ⟨w.heap.size, 0, none⟩ (.slice lao l.length lcap)).setCell ⟨w.heap.size, 1, none⟩ (.slice nao k ncap)).alloc o).cell? ⟨w.heap.size, 1, none⟩ = some (.slice nao k ncap) := fun o => by rw [World.cell?_alloc_lt _ _ _ (by simp [World.setCell]; omega)]; exact q1
            clear F2 hb2 hgood hxv
            go_wp2
            exact bodyPost_ret (v := .tuple #[.agg #[(.slice lao l.length lcap), .slice nao k ncap], .bool false, .int .i64 fb]) (by simp [results, Tryz.results8, go_sem, q0, q1, r0, r1]) rfl (dec_bad HD.out rfl (by repeat (first | exact two_below HB2.out | refine Below.alloc ?_ (by simp [World.setCell]; omega) _)))
          · obtain ⟨lvn, hxe, hli, hlf⟩ := hgood (by omega)
            have hli2 := hli
            obtain ⟨vao, vcap, hvn, _⟩ := hli2
            subst hvn
            rw [hxe]
            unfold nodeV
            clear hxv hxe hgood
            have F2 := (HR.out.hf.below hb2).add (N := wr.heap.size) hli hlf (fun b hb => (HR.out.hf.hs.lt b hb).2) (fun b hb => (HR.out.hf.hn.lt b hb).2) (by omega)
            have HF2 : Hid _ := F2
            have hs2 := hb2.size
            have hst := HR.out.hst
            have HSNE : Hid (some w2.heap.size ≠ (Value.slice sao k scap).ownBlock) := fun hh => by have := (HR.out.hf.hs.lt _ hh.symm).2; omega
            clear F2
            go_wp2_with (at_builtin; refine wpList_append_at _ rfl (.tmp 103) (.tmp 105) 29 rfl (w.heap.size + 2) 3 i0 (.int .i64 0) 1 8 Tryz.underlying29 hi hz0 hzs hzb rfl (by decide) _ _ _ rfl ((HF2.out.alloc _).alloc _).hs ⟨_, 0, none⟩ 1 1 [.int .i64 q] rfl rfl (by decide) one_cell_new2 ?c2 ?c3 ?c4 ?c5 ?_)
            case c2 => first | rfl | (intro u hu; simp at hu; subst hu; rfl)
            case c3 => unfold maxLen; omega
            case c4 => omega
            case c5 => first | omega | (simp; omega)
            intro sv' w3 hown3 hg3 hw3
            have F3 := ((HF2.out.alloc _).alloc _).first hown3 hg3 (by simp only [World.size_alloc]; exact hw3)
            have x0 : w3.cell? ⟨w2.heap.size, 0, none⟩ = some (.int .i64 nd.kind) := hg3.cell (by rw [World.cell?_alloc_lt _ _ _ (by simp), World.cell?_alloc_new]; rfl) HSNE.out
            have x1 : w3.cell? ⟨w2.heap.size, 1, none⟩ = some (.int .i64 nd.level) := hg3.cell (by rw [World.cell?_alloc_lt _ _ _ (by simp), World.cell?_alloc_new]; rfl) HSNE.out
            have x2 : w3.cell? ⟨w2.heap.size, 2, none⟩ = some (.int .i64 nd.a) := hg3.cell (by rw [World.cell?_alloc_lt _ _ _ (by simp), World.cell?_alloc_new]; rfl) HSNE.out
            have x3 : w3.cell? ⟨w2.heap.size, 3, none⟩ = some (.int .i64 nd.b) := hg3.cell (by rw [World.cell?_alloc_lt _ _ _ (by simp), World.cell?_alloc_new]; rfl) HSNE.out
            have x4 : w3.cell? ⟨w2.heap.size, 4, none⟩ = some (.int .i64 nd.c) := hg3.cell (by rw [World.cell?_alloc_lt _ _ _ (by simp), World.cell?_alloc_new]; rfl) HSNE.out
            have x5 : w3.cell? ⟨w2.heap.size, 5, none⟩ = some (.slice vao nd.list.length vcap) := hg3.cell (by rw [World.cell?_alloc_lt _ _ _ (by simp), World.cell?_alloc_new]; rfl) HSNE.out
            have hz3 : w2.heap.size + 1 < w3.heap.size := by have := hg3.size; simp at this; omega
            have hz3' : w2.heap.size < w3.heap.size := by omega
            have hz3b : w.heap.size + 1 < w3.heap.size := by omega
            have e1 := F3.c1
            obtain ⟨sao', scap', rfl⟩ := own_shape6 F3.hs
            have HF3 : Hid _ := F3
            clear F3 hown3 hg3 hw3 HSNE
            go_wp2_with (at_builtin; refine wpList_append_at _ rfl (.tmp 108) (.tmp 110) 30 rfl (w.heap.size + 2) 53 i1 (.agg #[.int .i64 0, .int .i64 0, .int .i64 0, .int .i64 0, .int .i64 0, .slice none 0 0]) 6 64 Tryz.underlying30 hi1 hy0 hy1 hyb rfl (by decide) _ _ _ rfl (HF3.out.alloc _).hn ⟨_, 0, none⟩ 1 1 (nodeCells nd (.slice vao nd.list.length vcap)) rfl rfl (by decide) (row_new (nodeCells nd (.slice vao nd.list.length vcap))) ?n2 ?n3 ?n4 ?n5 ?_)
            case n2 => intro u hu; simp [nodeCells] at hu; rcases hu with rfl | rfl | rfl | rfl | rfl | rfl <;> rfl
            case n3 => unfold maxLen; omega
            case n4 => omega
            case n5 => first | omega | (simp; omega)
            intro nv' w4 hown4 hg4 hw4
            have F4 := (HF3.out.alloc _).second hown4 hg4 (by simp only [World.size_alloc]; exact hw4)
            obtain ⟨nao', ncap', rfl⟩ := own_shape6 F4.hn
            have e2 := F4.c1
            have g2 := F4.f1
            have HF4 : Hid _ := F4
            clear F4 hown4 hg4 hw4 x0 x1 x2 x3 x4 x5 e1
            have hafq : (q : Int) < af ∧ af ≤ (s.size : Int) := by have := HOK1.out; omega
            obtain ⟨hafa, hafb⟩ := hafq
            go_wp2
            go_roundw
            case rel => exact ⟨k + 1, af.toNat, _, _, _, _, HR.out.step hkM HO1.out (by omega) (by rw [HLEN.out]; exact hafb) (HF4.out.store _), by rw [Int.toNat_of_nonneg (by omega)], by go_num⟩
            case measure => simp [intOf]; omega
        · have hrr : Fl.nodesA s.toList Mn 0 p0 [] [] = (acc, st, (q : Int), -1) := by
            rw [HR.out.hrun, show Mn - k = 0 from by omega]; rfl
          have hdd := HDX.out
          rw [hrr] at hdd
          simp only at hdd
          rw [if_neg (by omega)] at hdd
          have HDD : Hid (Fl.decode s.toList = if (q : Int) < (s.size : Int) then (([], []), false, (q : Int)) else if 0 ≤ Fl.shaped acc then (([], []), false, st.getD (Fl.shaped acc).toNat 0) else ((l, acc), true, 0)) := hdd
          have e0 := HR.out.hf.c0
          have e1 := HR.out.hf.c1
          have g0 := HR.out.hf.f0
          have d0 := HR.out.hf.d0
          have d1 := HR.out.hf.d1
          have hkI : ¬ (k : Int) < (Mn : Int) := by omega
          clear hrr hdd HDX
          by_cases hqe : q < s.size
          · have HD : Hid (Fl.decode s.toList = (([], []), false, (q : Int))) := by rw [HDD.out, if_pos (by omega)]; rfl
            obtain ⟨q0, q1⟩ := two_same (w1 := wr) (B := w.heap.size) (.slice lao l.length lcap) (.slice nao k ncap) d0 d1
            have HB2 : Hid (Below w.heap.size w wr) := HR.out.hf.hb
            have hqI : (q : Int) < (s.size : Int) := by omega
            go_wp2
            exact bodyPost_ret (v := .tuple #[.agg #[(.slice lao l.length lcap), .slice nao k ncap], .bool false, .int .i64 q]) (by simp [results, Tryz.results8, go_sem, q0, q1]) rfl (dec_bad HD.out rfl (two_below HB2.out))
          · have hqI : ¬ (q : Int) < (s.size : Int) := by omega
            have HSH : Hid (Calls Tryz.prog 18 #[.slice nao k ncap] wr fun e w' => e = .returned (.int .i64 (Fl.shaped acc)) ∧ Below wr.heap.size wr w') := shaped_walk acc _ _ _ (Nat.le_refl _) HR.out.nodes
            obtain ⟨sh, hsh⟩ : ∃ sh, Fl.shaped acc = sh := ⟨_, rfl⟩
            rw [hsh] at HSH
            have hshb := Fl.shaped_lt acc
            rw [hsh, HR.out.hacc] at hshb
            have HD1 : Hid (Fl.decode s.toList = if 0 ≤ sh then (([], []), false, st.getD sh.toNat 0) else ((l, acc), true, 0)) := by rw [HDD.out, if_neg hqI, hsh]; rfl
            clear hsh HDD
            go_wp2_with fail
            refine (HSH.out).mono ?_; rintro e w5 ⟨rfl, hb5⟩
            have F5 := HR.out.hf.below hb5
            have e0' := F5.c0
            have e1' := F5.c1
            have g0' := F5.f0
            have d0' := F5.d0
            have d1' := F5.d1
            obtain ⟨q0, q1⟩ := two_same (w1 := w5) (B := w.heap.size) (.slice lao l.length lcap) (.slice nao k ncap) F5.d0 F5.d1
            have HB5 : Hid (Below w.heap.size w w5) := F5.hb
            have HS5 := F5.hs
            have HBB : Hid (Below wr.heap.size wr w5) := hb5
            clear F5 hb5 HSH e0 e1 g0 d0 d1
            by_cases hs0 : 0 ≤ sh
            · obtain ⟨sn, rfl⟩ := Int.eq_ofNat_of_zero_le hs0
              have hsnk : sn < k := by omega
              obtain ⟨g, gcap, hge, hgb, hgl, hgc⟩ := own_some HS5 (by omega)
              simp only [Value.slice.injEq] at hge
              obtain ⟨rfl, _, _⟩ := hge
              have hcs := hgc sn (.int .i64 (st.getD sn 0)) (by simp [List.getD_eq_getElem?_getD, HR.out.hst, hsnk])
              have HD2 : Hid (Fl.decode s.toList = (([], []), false, st.getD sn 0)) := by rw [HD1.out, if_pos (by omega)]; simp [Hid]
              obtain ⟨xs, hxs⟩ : ∃ x, x = st.getD sn 0 := ⟨_, rfl⟩
              rw [← hxs] at hcs HD2
              have hgI : (sn : Int) < (k : Int) := by omega
              clear hgc hxs HS5 HD1
              have hgne : ∀ (W : World) (o : Nat) (u : Value) (j : Nat), (W.setCell ⟨w.heap.size, o, none⟩ u).cell? ⟨g, j, none⟩ = W.cell? ⟨g, j, none⟩ := fun W o u j => by apply World.cell?_setCell_other; intro hh; injection hh with h2; omega
              go_wp2_with fail
              go_region
              all_goals
                go_wp2
                exact bodyPost_ret (v := .tuple #[.agg #[(.slice lao l.length lcap), .slice nao k ncap], .bool false, .int .i64 xs]) (by simp [results, Tryz.results8, go_sem, q0, q1]) rfl (dec_bad HD2.out rfl (by repeat (first | exact two_below HB5.out | apply Below.drew)))
            · have HD2 : Hid (Fl.decode s.toList = ((l, acc), true, 0)) := by rw [HD1.out, if_neg hs0]; rfl
              clear HS5 HD1
              go_wp2
              exact bodyPost_ret (v := .tuple #[.agg #[(.slice lao l.length lcap), .slice nao k ncap], .bool true, .int .i64 0]) (by simp [results, Tryz.results8, go_sem, q0, q1]) rfl ⟨two_below HB5.out, _, _, _, _, _, _, by rw [HD2.out], fun _ => by rw [HD2.out]; exact HR.out.ends HBB.out _ _⟩
end Go.Proofs.YtbihjgfbocpobaaGreatDoor

/- A proof that is being built in memory: its two cells in block Q, its nodes' row behind Q, its lists each in a block of its own. -/
set_option linter.unusedSimpArgs false
set_option linter.unusedVariables false
namespace Go.Proofs.YtbihjgfbocpobaaGreatDoor
open Go.RowKit

structure Grow (ls : List Int) (WQ wr : World) (L Q : Nat) (lv nv : Value) (acc : List Fl.Node) (lvs : List Value) : Prop where
  hl : lvs.length = acc.length
  hn : wr.ownsRow (Q + 1) 53 6 nv acc.length (flat acc lvs)
  hall : ∀ p, p ∈ (lv, ls) :: famOf acc lvs → Kept wr p.1 p.2 (.slice none 0 0) nv ∧ (p.2 ≠ [] → ∀ b, p.1.ownBlock = some b → L ≤ b ∧ b ≠ Q)
  c0 : wr.cell? ⟨Q, 0, none⟩ = some lv
  c1 : wr.cell? ⟨Q, 1, none⟩ = some nv
  fq : ∀ j, wr.frozen? ⟨Q, j, none⟩ = false
  hb : Below Q WQ wr
  hz : Q < wr.heap.size
  hL : L ≤ Q

section
variable {ls : List Int} {WQ wr W1 W2 : World} {L Q : Nat} {lv nv nv' lvn : Value} {acc : List Fl.Node} {lvs : List Value} {nd : Fl.Node}
theorem Grow.below (h : Grow ls WQ wr L Q lv nv acc lvs) (hb : Below wr.heap.size wr W1) : Grow ls WQ W1 L Q lv nv acc lvs := by
  have q : ∀ o, W1.cell? ⟨Q, o, none⟩ = wr.cell? ⟨Q, o, none⟩ := fun o => hb.cell (p := ⟨Q, o, none⟩) h.hz
  have og : wr.grownBy W1 none := ⟨hb.os, hb.tape, hb.output, hb.size, fun k hk _ => hb.block k hk⟩
  exact ⟨h.hl, h.hn.kept og (by cases nv.ownBlock <;> simp), fun p hp => ⟨(h.hall p hp).1.below hb, (h.hall p hp).2⟩, (q _).trans h.c0, (q _).trans h.c1, fun j => (hb.frozen (p := ⟨Q, j, none⟩) h.hz).trans (h.fq j), h.hb.trans (hb.mono (Nat.le_of_lt h.hz)), Nat.lt_of_lt_of_le h.hz hb.size, h.hL⟩
theorem Grow.locals (h : Grow ls WQ wr L Q lv nv acc lvs) : IntsAt wr.heap.size wr lv ls := (h.hall (lv, ls) (by simp)).1.1
theorem Grow.nodes (h : Grow ls WQ wr L Q lv nv acc lvs) : NodesAt wr.heap.size wr nv acc :=
  nodes_of_own h.hn h.hl (fun i hi => (h.hall _ (by simp only [List.mem_cons]; right; exact famOf_mem acc lvs i h.hl hi)).1.1)
/-- One node more. -/
theorem Grow.push (h : Grow ls WQ wr L Q lv nv acc lvs) (hb : Below wr.heap.size wr W1) (hi : IntsAt W1.heap.size W1 lvn nd.list) (hf : ∀ b, lvn.ownBlock = some b → wr.heap.size ≤ b)
    (ho : W2.ownsRow (Q + 1) 53 6 nv' (acc.length + 1) (flat acc lvs ++ nodeCells nd lvn)) (hg : W1.grownBy W2 nv.ownBlock) (hw : nv'.ownBlock = nv.ownBlock ∨ nv'.ownBlock = some W1.heap.size) :
    Grow ls WQ (W2.setCell ⟨Q, 1, none⟩ nv') L Q lv nv' (acc ++ [nd]) (lvs ++ [lvn]) := by
  have h1 := h.below hb
  have hz := h.hz
  have hsz := hb.size
  have hsg := hg.size
  have hs : (W2.setCell ⟨Q, 1, none⟩ nv').heap.size = W2.heap.size := by simp [World.setCell]
  have hne : some Q ≠ nv.ownBlock := fun hh => by have := (h.hn.lt Q hh.symm).1; omega
  have c0 : W2.cell? ⟨Q, 0, none⟩ = some lv := hg.cell h1.c0 hne
  have c1 : W2.cell? ⟨Q, 1, none⟩ = some nv := hg.cell h1.c1 hne
  have fq : ∀ j, W2.frozen? ⟨Q, j, none⟩ = false := fun j => (World.frozen?_of_block (w := W1) (hg.block Q (by omega) hne)).trans (h1.fq j)
  have hk : ∀ p, p ∈ (lv, ls) :: famOf (acc ++ [nd]) (lvs ++ [lvn]) → Kept W2 p.1 p.2 (.slice none 0 0) nv' ∧ (p.2 ≠ [] → ∀ b, p.1.ownBlock = some b → L ≤ b ∧ b ≠ Q) := by
    intro p hp
    rw [famOf_snoc _ _ _ _ h.hl] at hp
    simp only [List.mem_cons, List.mem_append, List.not_mem_nil, or_false] at hp
    have old : p ∈ (lv, ls) :: famOf acc lvs → Kept W2 p.1 p.2 (.slice none 0 0) nv' ∧ (p.2 ≠ [] → ∀ b, p.1.ownBlock = some b → L ≤ b ∧ b ≠ Q) := fun hp => ⟨(h1.hall p hp).1.second hg hw, (h1.hall p hp).2⟩
    rcases hp with hp | hp | hp
    · exact old (by rw [hp]; simp)
    · exact old (by simp [hp])
    · subst hp
      have hkn : Kept W1 lvn nd.list (.slice none 0 0) nv := Kept.new (w := wr) hi hf (fun b hb => by simp [Value.ownBlock] at hb) (fun b hb => (h.hn.lt b hb).2)
      exact ⟨hkn.second hg hw, fun _ b hh => by have := hf b hh; have := h.hL; omega⟩
  refine ⟨by simp [h.hl], ?_, fun p hp => ⟨(hk p hp).1.set (fun hx hh => ((hk p hp).2 hx Q hh).2 rfl), (hk p hp).2⟩, (cell_off (by decide)).trans c0, cell_self c1, fun j => by rw [World.frozen?_setCell]; exact fq j, ?_, by omega, h.hL⟩
  · rw [flat_snoc _ _ _ _ h.hl, List.length_append]; exact ownsRow_setCell_below ho (by simp) nv'
  · exact (h1.hb.grown hg (by omega) (fun k hk => by have := (h.hn.lt k hk).1; omega)).setCell (by simp) _
/-- Where it begins. -/
theorem Grow.new (hb : Below Q WQ wr) (hz : Q < wr.heap.size) (hi : IntsAt wr.heap.size wr lv ls) (hL : L ≤ Q) (hne : ls ≠ [] → ∀ b, lv.ownBlock = some b → L ≤ b ∧ b ≠ Q) (c0 : wr.cell? ⟨Q, 0, none⟩ = some lv) (c1 : wr.cell? ⟨Q, 1, none⟩ = some (.slice none 0 0)) (fq : ∀ j, wr.frozen? ⟨Q, j, none⟩ = false) :
    Grow ls WQ wr L Q lv (.slice none 0 0) [] [] := by
  refine ⟨rfl, World.ownsRow_nil _ _ _ _, fun p hp => ?_, c0, c1, fq, hb, hz, hL⟩
  simp only [famOf, List.mem_singleton] at hp
  subst hp
  refine ⟨⟨hi, fun hx => ?_⟩, hne⟩
  obtain ⟨b, hbb, _⟩ := ints_lt hi hx
  rw [hbb]; simp [Value.ownBlock]
/-- Where it is handed back: the result's two cells lie ahead of all. -/
theorem Grow.ret (h : Grow ls WQ wr L Q lv nv acc lvs) {R : Nat} (hR : R < L) (u u' : Value) :
    IntsAt ((wr.setCell ⟨R, 0, none⟩ u).setCell ⟨R, 1, none⟩ u').heap.size ((wr.setCell ⟨R, 0, none⟩ u).setCell ⟨R, 1, none⟩ u') lv ls ∧ NodesAt ((wr.setCell ⟨R, 0, none⟩ u).setCell ⟨R, 1, none⟩ u').heap.size ((wr.setCell ⟨R, 0, none⟩ u).setCell ⟨R, 1, none⟩ u') nv acc := by
  have hL := h.hL
  have hk : ∀ p, p ∈ (lv, ls) :: famOf acc lvs → IntsAt ((wr.setCell ⟨R, 0, none⟩ u).setCell ⟨R, 1, none⟩ u').heap.size ((wr.setCell ⟨R, 0, none⟩ u).setCell ⟨R, 1, none⟩ u') p.1 p.2 := fun p hp => by
    have hne : p.2 ≠ [] → p.1.ownBlock ≠ some R := fun hx hh => by have := ((h.hall p hp).2 hx R hh).1; omega
    exact ints_set (ints_set (h.hall p hp).1.1 hne) hne
  refine ⟨hk (lv, ls) (by simp), nodes_of_own (ownsRow_setCell_below (ownsRow_setCell_below h.hn (by simp only; omega) u) (by simp only; omega) u') h.hl (fun i hi => hk _ (by simp only [List.mem_cons]; right; exact famOf_mem acc lvs i h.hl hi))⟩
end
end Go.Proofs.YtbihjgfbocpobaaGreatDoor
