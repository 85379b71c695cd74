/- Texts RefV0 Prb Own DecMem. -/
import Derived.Test.YthfacjlghcdndaaGreatDoorM05
set_option linter.unusedSimpArgs false
set_option linter.unusedVariables false
namespace Go.Proofs.YthfacjlghcdndaaGreatDoor
open Go.RowKit

def WordsAt (B : Nat) (w : World) (v : Value) (ws : List (List UInt8)) : Prop :=
  ∃ ao cap, v = .slice ao ws.length cap ∧ ws.length ≤ cap ∧ cap ≤ maxLen ∧ ws.length ≤ 100000 ∧ (∀ x ∈ ws, x.length ≤ 100000) ∧
    (ws ≠ [] → ∃ b off, ao = some ⟨b, off, none⟩ ∧ b < B ∧ ∀ i, i < ws.length → w.cell? ⟨b, off + i, none⟩ = some (strV (ws.getD i [])))
theorem WordsAt.below {B : Nat} {w w' : World} {v : Value} {ws : List (List UInt8)} (h : WordsAt B w v ws) (hb : Below B w w') : WordsAt B w' v ws := by
  obtain ⟨ao, cap, h1, h2, h3, h4, h5, h6⟩ := h
  refine ⟨ao, cap, h1, h2, h3, h4, h5, fun hne => ?_⟩
  obtain ⟨b, off, e, hb', hc⟩ := h6 hne
  exact ⟨b, off, e, hb', fun i hi => (hb.cell (p := ⟨b, off + i, none⟩) hb').trans (hc i hi)⟩
theorem WordsAt.mono {B B' : Nat} {w : World} {v : Value} {ws : List (List UInt8)} (h : WordsAt B w v ws) (hB : B ≤ B') : WordsAt B' w v ws := by
  obtain ⟨ao, cap, h1, h2, h3, h4, h5, h6⟩ := h
  refine ⟨ao, cap, h1, h2, h3, h4, h5, fun hne => ?_⟩
  obtain ⟨b, off, e, hb', hc⟩ := h6 hne
  exact ⟨b, off, e, by omega, hc⟩
theorem WordsAt.drop {B : Nat} {w : World} {b off n cap : Nat} {ws : List (List UInt8)} (h : WordsAt B w (.slice (some ⟨b, off, none⟩) n cap) ws) (k : Nat) (hk : k ≤ n) : WordsAt B w (.slice (some ⟨b, off + k, none⟩) (n - k) (cap - k)) (ws.drop k) := by
  obtain ⟨ao, cap', h1, h2, h3, h4, h5, h6⟩ := h
  simp only [Value.slice.injEq] at h1
  obtain ⟨rfl, rfl, rfl⟩ := h1
  refine ⟨_, _, by rw [List.length_drop], by rw [List.length_drop]; omega, by omega, by rw [List.length_drop]; omega, fun x hx => h5 x (List.mem_of_mem_drop hx), fun hne => ?_⟩
  have hn : ws ≠ [] := by rintro rfl; simp at hne
  obtain ⟨b', off', e, hb', hc⟩ := h6 hn
  simp only [Option.some.injEq, Addr.mk.injEq, and_true] at e
  obtain ⟨rfl, rfl⟩ := e
  refine ⟨_, _, rfl, hb', fun i hi => ?_⟩
  rw [List.length_drop] at hi
  rw [Nat.add_assoc, hc (k + i) (by omega)]; simp [List.getD_eq_getElem?_getD]
theorem WordsAt.of_own {base : Nat} {w : World} {e : TypeId} {v : Value} {n : Nat} {ws : List (List UInt8)} (h : w.ownsRow base e 1 v n (ws.map strV)) (hl : ws.length ≤ 100000) (h5 : ∀ x ∈ ws, x.length ≤ 100000) : WordsAt w.heap.size w v ws := by
  have hl : ws.length = n := by have := h.1; simpa using this
  rcases h.2 with ⟨rfl, h0⟩ | ⟨g, cap, cur, rfl, hb, hg, hnc, hcm, hcs, ht⟩
  · have : ws = [] := List.eq_nil_of_length_eq_zero (by omega)
    subst this; exact ⟨none, 0, rfl, by simp, by simp [maxLen], by simp, by simp, fun h => absurd rfl h⟩
  · refine ⟨_, cap, by rw [hl], by omega, hcm, by omega, h5, fun hne => ⟨g, 0, rfl, (Array.getElem?_eq_some_iff.1 hg).1, fun i hi => ?_⟩⟩
    have h1 := h.cells (g := g) rfl i (strV (ws.getD i [])) (by simp [List.getD_eq_getElem?_getD, hi])
    have h2 : (⟨g, 0, none⟩ : Addr).add i = ⟨g, 0 + i, none⟩ := by unfold Addr.add; split <;> simp_all
    rw [h2] at h1; exact h1
end Go.Proofs.YthfacjlghcdndaaGreatDoor

namespace Go.Proofs.YthfacjlghcdndaaGreatDoor
open Go.RowKit

def stepped (W : World) (k : Nat) (s : ByteArray) (pos : Nat) : World := { W with heap := W.heap.setIfInBounds k (.stringIter s pos) }
theorem next_at (W : World) (k : Nat) (s : ByteArray) (pos : Nat) (ty : TypeId) (hk : W.heap[k]? = some (.stringIter s pos)) (h : pos < s.size) (ha : (s[pos]'h).toNat < 128) :
    (Instr.next (.pointer (some ⟨k, 0, none⟩)) true ty).run Tryz.prog W = .ok (.tuple #[.bool true, .int .i64 pos, .int .i32 (s[pos]'h).toNat]) (stepped W k s (pos + 1)) := by
  simp only [Instr.next, getObj, setObj, Sem.run_bind, Sem.run, hk, Result.andThen, h, if_true, decode_ascii s pos h ha]
  simp [goInt, Sem.run, hk, stepped]
theorem next_at_end (W : World) (k : Nat) (s : ByteArray) (pos : Nat) (ty : TypeId) (hk : W.heap[k]? = some (.stringIter s pos)) (h : ¬ pos < s.size) :
    (Instr.next (.pointer (some ⟨k, 0, none⟩)) true ty).run Tryz.prog W = .ok (.tuple #[.bool false]) W := by
  simp [Instr.next, getObj, Sem.run, hk, h]
theorem stepped_at {W : World} {k : Nat} {s : ByteArray} {pos : Nat} (hk : k < W.heap.size) : (stepped W k s pos).heap[k]? = some (.stringIter s pos) := by
  simp [stepped, hk]
theorem stepped_size (W : World) (k : Nat) (s : ByteArray) (pos : Nat) : (stepped W k s pos).heap.size = W.heap.size := by simp [stepped]
theorem stepped_other (W : World) (k : Nat) (s : ByteArray) (pos j : Nat) (hj : j ≠ k) : (stepped W k s pos).heap[j]? = W.heap[j]? := by
  simp only [stepped]; rw [Array.getElem?_setIfInBounds_ne (by omega)]
theorem below_stepped {B : Nat} {w W : World} (h : Below B w W) {k : Nat} (hk : B ≤ k) (s : ByteArray) (pos : Nat) : Below B w (stepped W k s pos) :=
  ⟨h.os, h.tape, h.output, by rw [stepped_size]; exact h.size, fun j hj => by rw [stepped_other _ _ _ _ _ (by omega)]; exact h.block j hj⟩

set_option maxRecDepth 100000 in
set_option maxHeartbeats 4000000 in
theorem fits_any (B : Nat) (sh : List UInt8) (v : Value) (ws : List (List UInt8)) (w : World) (hv : WordsAt B w v ws) (hB : B ≤ w.heap.size) (hsh : ∀ c ∈ sh, c = 110 ∨ c = 97 ∨ c = 111) (hsl : sh.length ≤ 4) :
    Calls Tryz.prog 72 #[.string ⟨sh.toArray⟩, v] w fun e w' => e = .returned (.bool (Fl.fitAll sh ws)) ∧ Below w.heap.size w w' := by
  obtain ⟨ao, cap, rfl, hl, hcap, hn, hss, hc⟩ := hv
  by_cases hlen : ws.length = sh.length
  · have b0 : ((ws.length : Int) != (sh.length : Int)) = false := by rw [hlen]; simp
    have HGET : Hid (∀ pos (h : pos < sh.length), ((⟨sh.toArray⟩ : ByteArray)[pos]'h) = sh.getD pos 0) := by
      intro pos h
      show sh.toArray[pos] = _
      simp [List.getD_eq_getElem?_getD, h]
    have HFA : Hid (Fl.fitAll sh ws = true ↔ ∀ i, i < sh.length → Fl.fit1 (sh.getD i 0) (ws.getD i []) = true) := Fl.fitAll_iff sh ws hlen
    have HSH : Hid (∀ c ∈ sh, c = 110 ∨ c = 97 ∨ c = 111) := hsh
    have HL : Hid (ws.length = sh.length) := hlen
    have HSS : Hid (∀ x ∈ ws, x.length ≤ 100000) := hss
    have HC : Hid _ := hc
    clear hlen hsh hss hc
    go_enter Tryz.func72, Tryz.ntmps72
    go_wp2_with fail
    go_loopw [] (fun wr => ∃ (pos : Nat), wr.heap[w.heap.size]? = some (.stringIter ⟨sh.toArray⟩ pos) ∧ Below w.heap.size w wr ∧ pos ≤ sh.length ∧ ∀ i, i < pos → Fl.fit1 (sh.getD i 0) (ws.getD i []) = true) (fun wr => sh.length - wr.iterPos w.heap.size)
    case atStart => exact ⟨0, World.iter_heap _ _ _, below_iter _ _ _, by omega, fun i hi => by omega⟩
    case round =>
      obtain ⟨pos, hit, hbel, hpl, hr⟩ := hrel
      have HR : Hid (∀ i, i < pos → Fl.fit1 (sh.getD i 0) (ws.getD i []) = true) := hr
      have hws : w.heap.size < wr.heap.size := (Array.getElem?_eq_some_iff.1 hit).1
      have hpos : wr.iterPos w.heap.size = pos := by unfold World.iterPos; rw [hit]
      have HPOS : Hid (wr.iterPos w.heap.size = pos) := hpos
      clear hr hpos
      by_cases hp : pos < sh.length
      · obtain ⟨c, hcc⟩ : ∃ c, c = sh.getD pos 0 := ⟨_, rfl⟩
        have hgc : (⟨sh.toArray⟩ : ByteArray)[pos]'hp = c := by rw [HGET.out pos hp, hcc]
        have hcm : c = 110 ∨ c = 97 ∨ c = 111 := HSH.out c (by rw [hcc, List.getD_eq_getElem?_getD, List.getElem?_eq_getElem hp]; simp)
        have ha : c.toNat < 128 := by rcases hcm with rfl | rfl | rfl <;> decide
        have hnx : ∀ ty, (Instr.next (.pointer (some ⟨w.heap.size, 0, none⟩)) true ty).run Tryz.prog wr = .ok (.tuple #[.bool true, .int .i64 pos, .int .i32 (c.toNat : Int)]) (stepped wr w.heap.size ⟨sh.toArray⟩ (pos + 1)) := fun ty => by
          have := next_at wr w.heap.size ⟨sh.toArray⟩ pos ty hit hp (by rw [hgc]; exact ha)
          rw [hgc] at this; exact this
        obtain ⟨W1, hW1⟩ : ∃ W1, W1 = stepped wr w.heap.size ⟨sh.toArray⟩ (pos + 1) := ⟨_, rfl⟩
        rw [← hW1] at hnx
        have hb1 : Below w.heap.size w W1 := by rw [hW1]; exact below_stepped hbel (Nat.le_refl _) _ _
        have HI1 : Hid (W1.heap[w.heap.size]? = some (.stringIter ⟨sh.toArray⟩ (pos + 1))) := by show _ = _; rw [hW1]; exact stepped_at hws
        obtain ⟨b, off, rfl, hbB, hcell⟩ := HC.out (by intro h; have := HL.out; rw [h] at this; simp at this; omega)
        obtain ⟨x, hx⟩ : ∃ x, x = ws.getD pos [] := ⟨_, rfl⟩
        have hpw : pos < ws.length := by have := HL.out; omega
        have hxl : x.length ≤ 100000 := HSS.out x (by rw [hx, List.getD_eq_getElem?_getD, List.getElem?_eq_getElem hpw]; simp)
        have hcx : ∀ W, Below w.heap.size w W → W.cell? ⟨b, off + pos, none⟩ = some (.string ⟨x.toArray⟩) := fun W hW => by
          rw [hW.cell (p := ⟨b, off + pos, none⟩) (by show b < _; omega), hcell pos hpw, hx]; rfl
        have HCX : Hid (∀ W, Below w.heap.size w W → W.cell? ⟨b, off + pos, none⟩ = some (.string ⟨x.toArray⟩)) := hcx
        have HB1 : Hid (Below w.heap.size w W1) := hb1
        have HX : Hid (x = ws.getD pos []) := hx
        have HCC : Hid (c = sh.getD pos 0) := hcc
        have hc1 := hcx W1 hb1
        have hz1 : w.heap.size < W1.heap.size := (Array.getElem?_eq_some_iff.1 HI1.out).1
        have hpI : (pos : Int) < (ws.length : Int) := by omega
        clear hcell hgc hW1 hx hcc hcx hb1 hit hbel
        obtain ⟨nb, hnb⟩ : ∃ nb, nb = Fl.named x := ⟨_, rfl⟩
        obtain ⟨kb, hkb⟩ : ∃ kb, kb = (Fl.lnum 999999999 x).isSome := ⟨_, rfl⟩
        obtain ⟨kv, hkv⟩ : ∃ kv : Int, kv = ((Fl.lnum 999999999 x).getD 0 : Nat) := ⟨_, rfl⟩
        obtain ⟨ob, hob⟩ : ∃ ob, ob = decide (0 ≤ Fl.place Fl.signs x) := ⟨_, rfl⟩
        obtain ⟨ov, hov⟩ : ∃ ov : Int, ov = ((Fl.place Fl.signs x).toNat : Int) := ⟨_, rfl⟩
        have HN : Hid (∀ W, Calls Tryz.prog 88 #[.string ⟨x.toArray⟩] W fun e w' => e = .returned (.bool nb) ∧ Below W.heap.size W w') := fun W => by rw [hnb]; exact isName_any x W hxl
        have HK : Hid (∀ W, Calls Tryz.prog 89 #[.string ⟨x.toArray⟩] W fun e w' => e = .returned (.tuple #[.int .i64 kv, .bool kb]) ∧ Below W.heap.size W w') := fun W => by rw [hkv, hkb]; exact pnumber_any x W hxl
        have HO : Hid (∀ W, Calls Tryz.prog 90 #[.string ⟨x.toArray⟩] W fun e w' => e = .returned (.tuple #[.int .i64 ov, .bool ob]) ∧ w' = W) := fun W => by rw [hov, hob]; exact operation_any x W hxl
        have HFIT : Hid (Fl.fit1 c x = if c = 110 then nb else if c = 97 then (nb || kb) else ob) := by
          show _ = _
          rw [hnb, hkb, hob, Fl.lnum_some]
          rcases hcm with rfl | rfl | rfl <;> simp [Fl.fit1, Fl.atom]
        have HNE : Hid (Fl.fit1 c x = false → Fl.fitAll sh ws = false) := fun h => by
          rw [Bool.eq_false_iff]; intro hh
          have := HFA.out.1 hh pos hp
          rw [← HCC.out, ← HX.out, h] at this; cases this
        have HYES : Hid (Fl.fit1 c x = true → ∀ i, i < pos + 1 → Fl.fit1 (sh.getD i 0) (ws.getD i []) = true) := fun h i hi => by
          by_cases hip : i = pos
          · subst hip; rw [← HCC.out, ← HX.out]; exact h
          · exact HR.out i (by omega)
        clear hnb hkb hkv hob hov ha
        go_wp2_with fail
        refine (HN.out _).mono ?_
        rintro e W2 ⟨rfl, hb2⟩
        have HB2 : Hid (Below w.heap.size w W2) := HB1.out.trans (hb2.mono (by omega))
        have HI2 : Hid (W2.heap[w.heap.size]? = some (.stringIter ⟨sh.toArray⟩ (pos + 1))) := (hb2.block _ hz1).trans HI1.out
        have hc2 := HCX.out W2 HB2.out
        have hz2 : w.heap.size < W2.heap.size := (Array.getElem?_eq_some_iff.1 HI2.out).1
        clear hb2 hc1
        go_wp2_with fail
        refine (HK.out _).mono ?_
        rintro e W3 ⟨rfl, hb3⟩
        have HB3 : Hid (Below w.heap.size w W3) := HB2.out.trans (hb3.mono (by omega))
        have HI3 : Hid (W3.heap[w.heap.size]? = some (.stringIter ⟨sh.toArray⟩ (pos + 1))) := (hb3.block _ hz2).trans HI2.out
        have hc3 := HCX.out W3 HB3.out
        clear hb3 hc2
        go_wp2_with fail
        refine (HO.out _).mono ?_
        rintro e W4 ⟨rfl, rfl⟩
        clear HN HK HO HCX
        rcases hcm with rfl | rfl | rfl <;> cases nb <;> cases kb <;> cases ob
        all_goals
          go_wp2
          first
          | (go_ret; exact ⟨by rw [HNE.out (by rw [HFIT.out]; rfl)]; rfl, HB3.out⟩)
          | (go_roundw
             case rel => exact ⟨pos + 1, HI3.out, HB3.out, by omega, HYES.out (by rw [HFIT.out]; rfl)⟩
             case measure => rw [HPOS.out]; simp [World.iterPos, HI3.out]; omega)
      · have HA : Hid (Fl.fitAll sh ws = true) := HFA.out.2 (fun i hi => HR.out i (by omega))
        have hnx : ∀ ty, (Instr.next (.pointer (some ⟨w.heap.size, 0, none⟩)) true ty).run Tryz.prog wr = .ok (.tuple #[.bool false]) wr := fun ty => next_at_end wr w.heap.size ⟨sh.toArray⟩ pos ty hit hp
        have HB : Hid (Below w.heap.size w wr) := hbel
        clear hit hbel
        go_wp2
        go_ret
        exact ⟨by rw [HA.out]; rfl, HB.out⟩
  · have b0 : ((ws.length : Int) != (sh.length : Int)) = true := by rw [bne_iff_ne]; omega
    have HE : Hid (Fl.fitAll sh ws = false) := by
      show _ = _
      rw [Bool.eq_false_iff]; intro h; exact hlen (Fl.fitAll_len sh ws h)
    clear hc hss
    go_enter Tryz.func72, Tryz.ntmps72
    go_wp2
    go_ret
    exact ⟨by rw [HE.out]; rfl, Below.refl _ _⟩
end Go.Proofs.YthfacjlghcdndaaGreatDoor

namespace Go.Proofs.YthfacjlghcdndaaGreatDoor
open Go.RowKit

section
variable {P : Program} (w : World)
theorem append_where (base : Nat) (t ty e : TypeId) (i : TypeInfo) (z : Value) (size bytes : Nat) (ht : P.underlying t = some (.slice e)) (hi : P.info? e = some i) (hz : i.zero = some z)
    (hsize : i.size = size) (hby : i.bytes = bytes) (hzs : z.cells.size = size) (hsz : 0 < size)
    (v : Value) (n : Nat) (xs : List Value) (hown : w.ownsRow base e size v n xs)
    (a : Addr) (m c : Nat) (news : List Value) (hl : news.length = m * size) (hnews : ∀ j u, news[j]? = some u → w.cell? (a.add j) = some u) (h1 : ∀ u ∈ news, u.oneCell' = true)
    (h63 : n + m ≤ maxLen) (hbytes : (n + m) * bytes ≤ 140737488355328) (hbase : base ≤ w.heap.size) (hm : 0 < m) :
    ∃ v' w', (Builtin.append_ #[t, t] ty #[v, .slice (some a) m c]).run P w = .ok v' w' ∧ w'.ownsRow base e size v' (n + m) (xs ++ news) ∧ w.grownBy w' v.ownBlock ∧ (v'.ownBlock = v.ownBlock ∨ v'.ownBlock = some w.heap.size) := by
  obtain ⟨v', w', hr, ho, hg, _⟩ := run_append_own (P := P) w base t ty e i z size bytes ht hi hz hsize hby hzs hsz v n xs hown a m c news hl hnews h1 h63 hbytes hbase
  refine ⟨v', w', hr, ho, hg, ?_⟩
  rcases hown.2 with ⟨rfl, h0⟩ | ⟨g, cap, cur, rfl, hbg, hgg, hnc, hcm, hcs, htake⟩
  · subst h0
    have hr2 := run_append_nil (P := P) w t ty e i z ht hi hz a m c news (by rw [hsize]; exact hl) hnews hm (by unfold maxLen at h63; omega) (by rw [hby]; simp only [Nat.zero_add] at hbytes; omega)
    rw [hr2] at hr
    injection hr with hv _
    right; rw [← hv]; rfl
  · by_cases hroom : n + m ≤ cap
    · have hfit : n * i.size + news.length ≤ cur.size := by
        rw [hcs, hl, hsize, ← Nat.add_mul]; exact Nat.mul_le_mul_right _ hroom
      have hr2 := run_append_room (P := P) w t ty e i ht hi g n cap cur hgg a m c news (by rw [hsize]; exact hl) hnews h1 hroom hfit
      rw [hr2] at hr
      injection hr with hv _
      left; rw [← hv]; rfl
    · have h63' : ((n + m : Nat) : Int) ≤ 9223372036854775807 := by unfold maxLen at h63; omega
      have hr2 := run_append_grow (P := P) w t ty e i z ht hi hz ⟨g, 0, none⟩ n cap xs (by rw [hsize]; exact hown.1) (hown.cells rfl) a m c news (by rw [hsize]; exact hl) hnews (by omega) h63' (growslice_fits (by omega) (by rw [hby]; exact hbytes))
      rw [hr2] at hr
      injection hr with hv _
      right; rw [← hv]; rfl

theorem wpList_append_at {ops : Array Oper} {rest : List Oper} {o : Oper} {a : Act} {Q : Exit → Act → World → Prop} (hgd : o.guard = none) (s x : Operand) (t : TypeId)
    (ho : o.op = .call { callee := .builtin .append, args := #[s, x], argTypes := #[t, t] })
    (base : Nat) (e : TypeId) (i : TypeInfo) (z : Value) (size bytes : Nat) (ht : P.underlying t = some (.slice e)) (hi : P.info? e = some i) (hz : i.zero = some z)
    (hsize : i.size = size) (hby : i.bytes = bytes) (hzs : z.cells.size = size) (hsz : 0 < size)
    (v : Value) (n : Nat) (xs : List Value) (hs : a.eval s = v) (hown : w.ownsRow base e size v n xs)
    (ad : Addr) (m c : Nat) (news : List Value) (hx : a.eval x = .slice (some ad) m c) (hl : news.length = m * size) (hm : 0 < m) (hnews : ∀ j u, news[j]? = some u → w.cell? (ad.add j) = some u) (h1 : ∀ u ∈ news, u.oneCell' = true)
    (h63 : n + m ≤ maxLen) (hbytes : (n + m) * bytes ≤ 140737488355328) (hbase : base ≤ w.heap.size)
    (h : ∀ v' w', w'.ownsRow base e size v' (n + m) (xs ++ news) → w.grownBy w' v.ownBlock → (v'.ownBlock = v.ownBlock ∨ v'.ownBlock = some w.heap.size) → wpList P ops Q rest (a.put o.dst v') w') : wpList P ops Q (o :: rest) a w :=
  wpList_plain hgd fun _ hK => by
    obtain ⟨v', w', hr, h2, h3, h4⟩ := append_where (P := P) w base t o.type e i z size bytes ht hi hz hsize hby hzs hsz v n xs hown ad m c news hl hnews h1 h63 hbytes hbase hm
    have hgo := hK _ _ (h v' w' h2 h3 h4)
    unfold Oper.wp execOp
    simp only [ho, resolve, invoke, builtin, Sem.run_bind, Sem.run_pure, Result.andThen_ok, List.map_toArray, List.map_cons, List.map_nil, hs, hx, hr]
    exact hgo
end

def nodeCells (n : Fl.Node) (lv : Value) : List Value := [.int .i64 n.kind, .int .i64 n.level, .int .i64 n.a, .int .i64 n.b, .int .i64 n.c, lv]
def flat : List Fl.Node → List Value → List Value
  | n :: ns, lv :: lvs => nodeCells n lv ++ flat ns lvs
  | _, _ => []
theorem flat_len : ∀ (ns : List Fl.Node) (lvs : List Value), lvs.length = ns.length → (flat ns lvs).length = ns.length * 6
  | [], [], _ => rfl
  | n :: ns, lv :: lvs, h => by
    have := flat_len ns lvs (by simpa using h)
    simp only [flat, nodeCells, List.length_append, List.length_cons, List.length_nil, this]; omega
theorem flat_snoc : ∀ (ns : List Fl.Node) (lvs : List Value) (n : Fl.Node) (lv : Value), lvs.length = ns.length → flat (ns ++ [n]) (lvs ++ [lv]) = flat ns lvs ++ nodeCells n lv
  | [], [], n, lv, _ => by simp [flat]
  | m :: ns, l :: lvs, n, lv, h => by
    simp only [List.cons_append, flat, flat_snoc ns lvs n lv (by simpa using h), List.append_assoc]
theorem flat_at : ∀ (ns : List Fl.Node) (lvs : List Value) (i j : Nat), lvs.length = ns.length → i < ns.length → j < 6 → (flat ns lvs)[i * 6 + j]? = (nodeCells (Fl.nth ns i) (lvs.getD i (.slice none 0 0)))[j]?
  | n :: ns, lv :: lvs, 0, j, _, _, hj => by
    simp only [flat, Nat.zero_mul, Nat.zero_add]
    rw [List.getElem?_append_left (by simp [nodeCells]; omega)]; rfl
  | n :: ns, lv :: lvs, i + 1, j, h, hi, hj => by
    have := flat_at ns lvs i j (by simpa using h) (by simpa using hi) hj
    simp only [flat]
    rw [List.getElem?_append_right (by simp [nodeCells]; omega)]
    rw [show (i + 1) * 6 + j - (nodeCells n lv).length = i * 6 + j from by simp [nodeCells]; omega, this]
    rfl
theorem nodes_of_own {base : Nat} {w : World} {e : TypeId} {v : Value} {ns : List Fl.Node} {lvs : List Value} (h : w.ownsRow base e 6 v ns.length (flat ns lvs)) (hl : lvs.length = ns.length) (hi : ∀ i, i < ns.length → IntsAt w.heap.size w (lvs.getD i (.slice none 0 0)) (Fl.nth ns i).list) : NodesAt w.heap.size w v ns := by
  rcases h.2 with ⟨rfl, h0⟩ | ⟨g, cap, cur, rfl, hb, hg, hnc, hcm, hcs, ht⟩
  · have : ns = [] := List.eq_nil_of_length_eq_zero h0
    subst this; exact NodesAt.nil _ _
  · refine ⟨_, cap, rfl, hnc, by omega, fun _ => ⟨g, 0, rfl, (Array.getElem?_eq_some_iff.1 hg).1, fun i hil => ⟨lvs.getD i (.slice none 0 0), hi i hil, ?_⟩⟩⟩
    have q : ∀ j u, j < 6 → (nodeCells (Fl.nth ns i) (lvs.getD i (.slice none 0 0)))[j]? = some u → w.cell? ⟨g, i * 6 + j, none⟩ = some u := fun j u hj hu => by
      have h1 := h.cells (g := g) rfl (i * 6 + j) u (by rw [flat_at ns lvs i j hl hil hj]; exact hu)
      have h2 : (⟨g, 0, none⟩ : Addr).add (i * 6 + j) = ⟨g, i * 6 + j, none⟩ := by unfold Addr.add; split <;> simp_all
      rw [h2] at h1; exact h1
    simp only [Nat.zero_add]
    exact ⟨q 0 _ (by omega) rfl, q 1 _ (by omega) rfl, q 2 _ (by omega) rfl, q 3 _ (by omega) rfl, q 4 _ (by omega) rfl, q 5 _ (by omega) rfl⟩
end Go.Proofs.YthfacjlghcdndaaGreatDoor

namespace Go.Proofs.YthfacjlghcdndaaGreatDoor
open Go.RowKit

theorem ints_grown {w w' : World} {lv : Value} {xs : List Int} {row : Option Nat} (h : IntsAt w.heap.size w lv xs) (hne : xs ≠ [] → lv.ownBlock ≠ row) (hg : w.grownBy w' row) : IntsAt w'.heap.size w' lv xs := by
  obtain ⟨ao, cap, rfl, hc, hl, hx⟩ := h
  refine ⟨ao, cap, rfl, hc, hl, fun hxs => ?_⟩
  obtain ⟨b, off, rfl, hb, hcell⟩ := hx hxs
  refine ⟨b, off, rfl, Nat.lt_of_lt_of_le hb hg.size, fun i hi => ?_⟩
  exact hg.cell (hcell i hi) (by simpa [Value.ownBlock] using hne hxs)
theorem ints_below {w w' : World} {lv : Value} {xs : List Int} (h : IntsAt w.heap.size w lv xs) (hb : Below w.heap.size w w') : IntsAt w'.heap.size w' lv xs := (h.below hb).mono hb.size
theorem ints_alloc {w : World} {lv : Value} {xs : List Int} (h : IntsAt w.heap.size w lv xs) (o : Obj) : IntsAt (w.alloc o).heap.size (w.alloc o) lv xs := ints_below h ((Below.refl _ _).alloc (Nat.le_refl _) _)
theorem ints_lt {w : World} {lv : Value} {xs : List Int} (h : IntsAt w.heap.size w lv xs) (hne : xs ≠ []) : ∃ b, lv.ownBlock = some b ∧ b < w.heap.size := by
  obtain ⟨ao, cap, rfl, hc, hl, hx⟩ := h
  obtain ⟨b, off, rfl, hb, _⟩ := hx hne
  exact ⟨b, rfl, hb⟩
theorem ints_set {w : World} {lv : Value} {xs : List Int} {a : Addr} {u : Value} (h : IntsAt w.heap.size w lv xs) (hne : xs ≠ [] → lv.ownBlock ≠ some a.block) : IntsAt (w.setCell a u).heap.size (w.setCell a u) lv xs := by
  have hs : (w.setCell a u).heap.size = w.heap.size := by simp [World.setCell]
  obtain ⟨ao, cap, rfl, hc, hl, hx⟩ := h
  refine ⟨ao, cap, rfl, hc, hl, fun hxs => ?_⟩
  obtain ⟨b, off, rfl, hb, hcell⟩ := hx hxs
  refine ⟨b, off, rfl, by omega, fun i hi => ?_⟩
  rw [World.cell?_of_block (w := w) (Below.heap_setCell w a u b (by have := hne hxs; simpa [Value.ownBlock] using this))]
  exact hcell i hi
theorem own_types {w : World} {base base' : Nat} {e e' : TypeId} {size size' : Nat} {v v' : Value} {n n' : Nat} {xs xs' : List Value} (h : w.ownsRow base e size v n xs) (h' : w.ownsRow base' e' size' v' n' xs') (hne : e ≠ e') : v.ownBlock = none ∨ v.ownBlock ≠ v'.ownBlock := by
  rcases h.2 with ⟨rfl, _⟩ | ⟨g, cap, cur, rfl, hb, hg, _⟩
  · left; rfl
  · right
    rcases h'.2 with ⟨rfl, _⟩ | ⟨g', cap', cur', rfl, hb', hg', _⟩
    · simp [Value.ownBlock]
    · intro hh
      simp only [Value.ownBlock, Option.some.injEq] at hh
      rw [hh] at hg; rw [hg] at hg'
      simp only [Option.some.injEq, Obj.cells.injEq] at hg'
      exact hne hg'.2.1

def Kept (w : World) (lv : Value) (xs : List Int) (sv nv : Value) : Prop := IntsAt w.heap.size w lv xs ∧ (xs ≠ [] → lv.ownBlock ≠ sv.ownBlock ∧ lv.ownBlock ≠ nv.ownBlock)

theorem Kept.first {w w' : World} {lv sv nv sv' : Value} {xs : List Int} (h : Kept w lv xs sv nv) (hg : w.grownBy w' sv.ownBlock) (hw : sv'.ownBlock = sv.ownBlock ∨ sv'.ownBlock = some w.heap.size) : Kept w' lv xs sv' nv := by
  refine ⟨ints_grown h.1 (fun hx => (h.2 hx).1) hg, fun hx => ⟨?_, (h.2 hx).2⟩⟩
  rcases hw with hw | hw
  · rw [hw]; exact (h.2 hx).1
  · obtain ⟨b, hb, hlt⟩ := ints_lt h.1 hx
    rw [hw, hb]; intro hh; simp at hh; omega
theorem Kept.second {w w' : World} {lv sv nv nv' : Value} {xs : List Int} (h : Kept w lv xs sv nv) (hg : w.grownBy w' nv.ownBlock) (hw : nv'.ownBlock = nv.ownBlock ∨ nv'.ownBlock = some w.heap.size) : Kept w' lv xs sv nv' := by
  refine ⟨ints_grown h.1 (fun hx => (h.2 hx).2) hg, fun hx => ⟨(h.2 hx).1, ?_⟩⟩
  rcases hw with hw | hw
  · rw [hw]; exact (h.2 hx).2
  · obtain ⟨b, hb, hlt⟩ := ints_lt h.1 hx
    rw [hw, hb]; intro hh; simp at hh; omega
theorem Kept.alloc {w : World} {lv sv nv : Value} {xs : List Int} (h : Kept w lv xs sv nv) (o : Obj) : Kept (w.alloc o) lv xs sv nv := ⟨ints_alloc h.1 o, h.2⟩
theorem Kept.below {w w' : World} {lv sv nv : Value} {xs : List Int} (h : Kept w lv xs sv nv) (hb : Below w.heap.size w w') : Kept w' lv xs sv nv := ⟨ints_below h.1 hb, h.2⟩
theorem Kept.new {w w' : World} {lv sv nv : Value} {xs : List Int} (h : IntsAt w'.heap.size w' lv xs) (hf : ∀ b, lv.ownBlock = some b → w.heap.size ≤ b) (hs : ∀ b, sv.ownBlock = some b → b < w.heap.size) (hn : ∀ b, nv.ownBlock = some b → b < w.heap.size) : Kept w' lv xs sv nv := by
  refine ⟨h, fun hx => ?_⟩
  obtain ⟨b, hb, hlt⟩ := ints_lt h hx
  have := hf b hb
  refine ⟨fun hh => ?_, fun hh => ?_⟩
  · have := hs b (hh.symm.trans hb); omega
  · have := hn b (hh.symm.trans hb); omega
theorem Kept.set {w : World} {lv sv nv : Value} {xs : List Int} {a : Addr} {u : Value} (h : Kept w lv xs sv nv) (hne : xs ≠ [] → lv.ownBlock ≠ some a.block) : Kept (w.setCell a u) lv xs sv nv := ⟨ints_set h.1 hne, h.2⟩

structure Fam (w wr : World) (lv cv : Value) (fam : List (Value × List Int)) (sv nv : Value) (n1 n2 : Nat) (xs ys : List Value) : Prop where
  hs : wr.ownsRow (w.heap.size + 2) 3 1 sv n1 xs
  hn : wr.ownsRow (w.heap.size + 2) 900750 6 nv n2 ys
  hall : ∀ p, p ∈ fam → Kept wr p.1 p.2 sv nv ∧ (p.2 ≠ [] → ∀ b, p.1.ownBlock = some b → w.heap.size + 2 ≤ b)
  c0 : wr.cell? ⟨w.heap.size + 1, 0, none⟩ = some lv
  c1 : wr.cell? ⟨w.heap.size + 1, 1, none⟩ = some cv
  d0 : wr.cell? ⟨w.heap.size, 0, none⟩ = some (.slice none 0 0)
  d1 : wr.cell? ⟨w.heap.size, 1, none⟩ = some (.slice none 0 0)
  f0 : ∀ j, wr.frozen? ⟨w.heap.size, j, none⟩ = false
  f1 : ∀ j, wr.frozen? ⟨w.heap.size + 1, j, none⟩ = false
  hb : Below w.heap.size w wr
  hz : w.heap.size + 2 ≤ wr.heap.size

section
variable {w wr w' : World} {lv cv : Value} {fam : List (Value × List Int)} {sv nv : Value} {n1 n2 : Nat} {xs ys : List Value}
theorem Fam.below (h : Fam w wr lv cv fam sv nv n1 n2 xs ys) (hb : Below wr.heap.size wr w') : Fam w w' lv cv fam sv nv n1 n2 xs ys := by
  have q : ∀ b o, b < wr.heap.size → w'.cell? ⟨b, o, none⟩ = wr.cell? ⟨b, o, none⟩ := fun b o hlt => hb.cell (p := ⟨b, o, none⟩) hlt
  have f : ∀ b o, b < wr.heap.size → w'.frozen? ⟨b, o, none⟩ = wr.frozen? ⟨b, o, none⟩ := fun b o hlt => hb.frozen (p := ⟨b, o, none⟩) hlt
  have hz := h.hz
  have hsz := hb.size
  have og : wr.grownBy w' none := ⟨hb.os, hb.tape, hb.output, hb.size, fun k hk _ => hb.block k hk⟩
  exact ⟨h.hs.kept og (by cases sv.ownBlock <;> simp), h.hn.kept og (by cases nv.ownBlock <;> simp), fun p hp => ⟨(h.hall p hp).1.below hb, (h.hall p hp).2⟩,
    (q _ _ (by omega)).trans h.c0, (q _ _ (by omega)).trans h.c1, (q _ _ (by omega)).trans h.d0, (q _ _ (by omega)).trans h.d1, fun j => (f _ _ (by omega)).trans (h.f0 j), fun j => (f _ _ (by omega)).trans (h.f1 j), h.hb.trans (hb.mono (by omega)), by omega⟩
theorem Fam.alloc (h : Fam w wr lv cv fam sv nv n1 n2 xs ys) (o : Obj) : Fam w (wr.alloc o) lv cv fam sv nv n1 n2 xs ys := h.below ((Below.refl _ _).alloc (Nat.le_refl _) _)
theorem Fam.drew (h : Fam w wr lv cv fam sv nv n1 n2 xs ys) : Fam w wr.drew lv cv fam sv nv n1 n2 xs ys := h.below ((Below.refl _ _).drew)
theorem Fam.add (h : Fam w wr lv cv fam sv nv n1 n2 xs ys) {lvn : Value} {l : List Int} {N : Nat} (hi : IntsAt wr.heap.size wr lvn l) (hf : ∀ b, lvn.ownBlock = some b → N ≤ b) (hsN : ∀ b, sv.ownBlock = some b → b < N) (hnN : ∀ b, nv.ownBlock = some b → b < N) (hN : w.heap.size + 2 ≤ N) : Fam w wr lv cv (fam ++ [(lvn, l)]) sv nv n1 n2 xs ys := by
  refine ⟨h.hs, h.hn, fun p hp => ?_, h.c0, h.c1, h.d0, h.d1, h.f0, h.f1, h.hb, h.hz⟩
  simp only [List.mem_append, List.mem_singleton] at hp
  rcases hp with hp | rfl
  · exact h.hall p hp
  · refine ⟨⟨hi, fun hx => ?_⟩, fun _ b hb => by have := hf b hb; omega⟩
    obtain ⟨b, hb, hlt⟩ := ints_lt hi hx
    have := hf b hb
    exact ⟨fun hh => by have := hsN b (hh.symm.trans hb); omega, fun hh => by have := hnN b (hh.symm.trans hb); omega⟩
theorem Fam.oldne (h : Fam w wr lv cv fam sv nv n1 n2 xs ys) : (∀ b, b < w.heap.size + 2 → some b ≠ sv.ownBlock) ∧ (∀ b, b < w.heap.size + 2 → some b ≠ nv.ownBlock) :=
  ⟨fun b hb hh => by have := (h.hs.lt b hh.symm).1; omega, fun b hb hh => by have := (h.hn.lt b hh.symm).1; omega⟩
theorem Fam.first (h : Fam w wr lv cv fam sv nv n1 n2 xs ys) {sv' : Value} {n1' : Nat} {xs' : List Value} (ho : w'.ownsRow (w.heap.size + 2) 3 1 sv' n1' xs') (hg : wr.grownBy w' sv.ownBlock) (hw : sv'.ownBlock = sv.ownBlock ∨ sv'.ownBlock = some wr.heap.size) : Fam w w' lv cv fam sv' nv n1' n2 xs' ys := by
  have hz := h.hz
  have hne := h.oldne.1
  have f : ∀ b j, b < w.heap.size + 2 → w'.frozen? ⟨b, j, none⟩ = wr.frozen? ⟨b, j, none⟩ := fun b j hlt => World.frozen?_of_block (w := wr) (hg.block b (by omega) (hne b hlt))
  refine ⟨ho, h.hn.kept hg ?_, fun p hp => ⟨(h.hall p hp).1.first hg hw, (h.hall p hp).2⟩, hg.cell h.c0 (hne _ (by simp)), hg.cell h.c1 (hne _ (by simp)), hg.cell h.d0 (hne _ (by simp)), hg.cell h.d1 (hne _ (by simp)), fun j => (f _ _ (by omega)).trans (h.f0 j), fun j => (f _ _ (by omega)).trans (h.f1 j), h.hb.grown hg (by omega) (fun g hgg => by have := (h.hs.lt g hgg).1; omega), by have := hg.size; omega⟩
  exact own_types h.hn h.hs (by decide)
theorem Fam.second (h : Fam w wr lv cv fam sv nv n1 n2 xs ys) {nv' : Value} {n2' : Nat} {ys' : List Value} (ho : w'.ownsRow (w.heap.size + 2) 900750 6 nv' n2' ys') (hg : wr.grownBy w' nv.ownBlock) (hw : nv'.ownBlock = nv.ownBlock ∨ nv'.ownBlock = some wr.heap.size) : Fam w w' lv cv fam sv nv' n1 n2' xs ys' := by
  have hz := h.hz
  have hne := h.oldne.2
  have f : ∀ b j, b < w.heap.size + 2 → w'.frozen? ⟨b, j, none⟩ = wr.frozen? ⟨b, j, none⟩ := fun b j hlt => World.frozen?_of_block (w := wr) (hg.block b (by omega) (hne b hlt))
  refine ⟨h.hs.kept hg ?_, ho, fun p hp => ⟨(h.hall p hp).1.second hg hw, (h.hall p hp).2⟩, hg.cell h.c0 (hne _ (by simp)), hg.cell h.c1 (hne _ (by simp)), hg.cell h.d0 (hne _ (by simp)), hg.cell h.d1 (hne _ (by simp)), fun j => (f _ _ (by omega)).trans (h.f0 j), fun j => (f _ _ (by omega)).trans (h.f1 j), h.hb.grown hg (by omega) (fun g hgg => by have := (h.hn.lt g hgg).1; omega), by have := hg.size; omega⟩
  exact own_types h.hs h.hn (by decide)
theorem Fam.store (h : Fam w wr lv cv fam sv nv n1 n2 xs ys) (u : Value) : Fam w (wr.setCell ⟨w.heap.size + 1, 1, none⟩ u) lv u fam sv nv n1 n2 xs ys := by
  have hz := h.hz
  have hs : (wr.setCell ⟨w.heap.size + 1, 1, none⟩ u).heap.size = wr.heap.size := by simp [World.setCell]
  have q : ∀ j, (wr.setCell ⟨w.heap.size + 1, 1, none⟩ u).cell? ⟨w.heap.size, j, none⟩ = wr.cell? ⟨w.heap.size, j, none⟩ := fun j => by apply World.cell?_setCell_other; intro hh; injection hh with h2; omega
  refine ⟨ownsRow_setCell_below h.hs (by simp) u, ownsRow_setCell_below h.hn (by simp) u, fun p hp => ⟨(h.hall p hp).1.set (fun hx => ?_), (h.hall p hp).2⟩, ?_, World.cell?_setCell_same' _ _ _ (by simp [h.c1]), (q 0).trans h.d0, (q 1).trans h.d1, fun j => by rw [World.frozen?_setCell]; exact h.f0 j, fun j => by rw [World.frozen?_setCell]; exact h.f1 j, h.hb.setCell (by simp) u, by omega⟩
  · intro hh
    have h3 : w.heap.size + 2 ≤ w.heap.size + 1 := (h.hall p hp).2 hx _ hh
    omega
  · have h4 : (wr.setCell ⟨w.heap.size + 1, 1, none⟩ u).cell? ⟨w.heap.size + 1, 0, none⟩ = wr.cell? ⟨w.heap.size + 1, 0, none⟩ := by
      apply World.cell?_setCell_other; intro hh; injection hh with _ h2; exact absurd h2 (by decide)
    rw [h4]; exact h.c0
end

def famOf : List Fl.Node → List Value → List (Value × List Int)
  | n :: ns, lv :: lvs => (lv, n.list) :: famOf ns lvs
  | _, _ => []
theorem famOf_snoc : ∀ (ns : List Fl.Node) (lvs : List Value) (n : Fl.Node) (lv : Value), lvs.length = ns.length → famOf (ns ++ [n]) (lvs ++ [lv]) = famOf ns lvs ++ [(lv, n.list)]
  | [], [], n, lv, _ => rfl
  | m :: ns, l :: lvs, n, lv, h => by simp only [List.cons_append, famOf, famOf_snoc ns lvs n lv (by simpa using h)]
theorem famOf_mem : ∀ (ns : List Fl.Node) (lvs : List Value) (i : Nat), lvs.length = ns.length → i < ns.length → (lvs.getD i (.slice none 0 0), (Fl.nth ns i).list) ∈ famOf ns lvs
  | n :: ns, lv :: lvs, 0, _, _ => by simp [famOf, Fl.nth]
  | n :: ns, lv :: lvs, i + 1, h, hi => by
    have := famOf_mem ns lvs i (by simpa using h) (by simpa using hi)
    simp only [famOf, List.mem_cons]; right; exact this

structure DecRel (s : List UInt8) (M q0 : Nat) (w : World) (lv : Value) (ls : List Int) (wr : World) (k q : Nat) (sv nv : Value) (st : List Int) (acc : List Fl.Node) (lvs : List Value) : Prop where
  hk : k ≤ M
  hq : q ≤ s.length
  hst : st.length = k
  hacc : acc.length = k
  hlvs : lvs.length = k
  hrun : Fl.nodesA s M 0 q0 [] [] = Fl.nodesA s (M - k) k q st acc
  hf : Fam w wr lv nv ((lv, ls) :: famOf acc lvs) sv nv k k (st.map (Value.int .i64)) (flat acc lvs)
theorem DecRel.nodes {s : List UInt8} {M q0 : Nat} {w wr : World} {lv : Value} {ls : List Int} {k q : Nat} {sv nv : Value} {st : List Int} {acc : List Fl.Node} {lvs : List Value} (h : DecRel s M q0 w lv ls wr k q sv nv st acc lvs) : NodesAt wr.heap.size wr nv acc :=
  nodes_of_own (by rw [h.hacc]; exact h.hf.hn) (by rw [h.hacc, h.hlvs]) (fun i hi => (h.hf.hall _ (by simp only [List.mem_cons]; right; exact famOf_mem acc lvs i (by rw [h.hacc, h.hlvs]) hi)).1.1)
theorem DecRel.locals {s : List UInt8} {M q0 : Nat} {w wr : World} {lv : Value} {ls : List Int} {k q : Nat} {sv nv : Value} {st : List Int} {acc : List Fl.Node} {lvs : List Value} (h : DecRel s M q0 w lv ls wr k q sv nv st acc lvs) : IntsAt wr.heap.size wr lv ls := (h.hf.hall (lv, ls) (by simp)).1.1

theorem Fam.res {w wr : World} {lv cv : Value} {fam : List (Value × List Int)} {sv nv : Value} {n1 n2 : Nat} {xs ys : List Value} (h : Fam w wr lv cv fam sv nv n1 n2 xs ys) (u u' : Value) :
    ((wr.setCell ⟨w.heap.size, 0, none⟩ u).setCell ⟨w.heap.size, 1, none⟩ u').ownsRow (w.heap.size + 2) 900750 6 nv n2 ys ∧
    ∀ p, p ∈ fam → IntsAt ((wr.setCell ⟨w.heap.size, 0, none⟩ u).setCell ⟨w.heap.size, 1, none⟩ u').heap.size ((wr.setCell ⟨w.heap.size, 0, none⟩ u).setCell ⟨w.heap.size, 1, none⟩ u') p.1 p.2 := by
  refine ⟨ownsRow_setCell_below (ownsRow_setCell_below h.hn (by simp) u) (by simp) u', fun p hp => ?_⟩
  have hne : p.2 ≠ [] → p.1.ownBlock ≠ some w.heap.size := fun hx hh => by
    have h3 : w.heap.size + 2 ≤ w.heap.size := (h.hall p hp).2 hx _ hh
    omega
  exact ints_set (ints_set (h.hall p hp).1.1 hne) hne
theorem DecRel.ends {s : List UInt8} {M q0 : Nat} {w wr w' : World} {lv : Value} {ls : List Int} {k q : Nat} {sv nv : Value} {st : List Int} {acc : List Fl.Node} {lvs : List Value} (h : DecRel s M q0 w lv ls wr k q sv nv st acc lvs) (hb : Below wr.heap.size wr w') (u u' : Value) :
    IntsAt ((w'.setCell ⟨w.heap.size, 0, none⟩ u).setCell ⟨w.heap.size, 1, none⟩ u').heap.size ((w'.setCell ⟨w.heap.size, 0, none⟩ u).setCell ⟨w.heap.size, 1, none⟩ u') lv ls ∧
    NodesAt ((w'.setCell ⟨w.heap.size, 0, none⟩ u).setCell ⟨w.heap.size, 1, none⟩ u').heap.size ((w'.setCell ⟨w.heap.size, 0, none⟩ u).setCell ⟨w.heap.size, 1, none⟩ u') nv acc := by
  have hr := (h.hf.below hb).res u u'
  exact ⟨hr.2 (lv, ls) (by simp), nodes_of_own (by rw [h.hacc]; exact hr.1) (by rw [h.hacc, h.hlvs]) (fun i hi => hr.2 _ (by simp only [List.mem_cons]; right; exact famOf_mem acc lvs i (by rw [h.hacc, h.hlvs]) hi))⟩
theorem own_shape6 {w : World} {base : Nat} {e : TypeId} {size : Nat} {v : Value} {n : Nat} {xs : List Value} (h : w.ownsRow base e size v n xs) : ∃ ao cap, v = .slice ao n cap := by
  rcases h.2 with ⟨rfl, rfl⟩ | ⟨g, cap, cur, rfl, _⟩
  · exact ⟨_, _, rfl⟩
  · exact ⟨_, _, rfl⟩
theorem row_new {w : World} {e : TypeId} (vs : List Value) : ∀ j u, vs[j]? = some u → (w.alloc (.cells vs.toArray e)).cell? ((⟨w.heap.size, 0, none⟩ : Addr).add j) = some u := by
  intro j u hj
  have h2 : (⟨w.heap.size, 0, none⟩ : Addr).add j = ⟨w.heap.size, j, none⟩ := by unfold Addr.add; split <;> simp_all
  rw [h2, World.cell?_alloc_new]; simpa using hj
theorem DecRel.step {s : List UInt8} {M q0 : Nat} {w wr w' : World} {lv : Value} {ls : List Int} {k q : Nat} {sv nv sv' nv' : Value} {st : List Int} {acc : List Fl.Node} {lvs : List Value} {nd : Fl.Node} {af fb : Int} {lvn : Value} (h : DecRel s M q0 w lv ls wr k q sv nv st acc lvs) (hkM : k < M) (ho : Fl.one s q k = (nd, af, fb)) (haf : 0 ≤ af) (haf2 : af ≤ s.length)
    (hf : Fam w w' lv nv' (((lv, ls) :: famOf acc lvs) ++ [(lvn, nd.list)]) sv' nv' (k + 1) (k + 1) (st.map (Value.int .i64) ++ [.int .i64 (q : Int)]) (flat acc lvs ++ nodeCells nd lvn)) :
    DecRel s M q0 w lv ls w' (k + 1) af.toNat sv' nv' (st ++ [(q : Int)]) (acc ++ [nd]) (lvs ++ [lvn]) := by
  refine ⟨by omega, by omega, by simp [h.hst], by simp [h.hacc], by simp [h.hlvs], ?_, ?_⟩
  · rw [h.hrun, show M - k = (M - (k + 1)) + 1 from by omega]; simp only [Fl.nodesA, ho]; rw [if_neg (by omega)]
  · have hlen : lvs.length = acc.length := by rw [h.hacc, h.hlvs]
    rw [famOf_snoc _ _ _ _ hlen, flat_snoc _ _ _ _ hlen, List.map_append]
    exact hf
end Go.Proofs.YthfacjlghcdndaaGreatDoor
