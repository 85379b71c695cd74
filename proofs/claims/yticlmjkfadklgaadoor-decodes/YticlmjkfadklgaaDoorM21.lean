/- Texts CeHeld Lwd Lwe DecRow. -/
import Derived.Test.YticlmjkfadklgaaDoorM20
import Derived.Lib.ConvBytes
import Derived.Laws.IdiomStrings
import Derived.Test.YticlmjkfadklgaaDoorTie
import Derived.Test.YticlmjkfadklgaaDoorCards
import Derived.SevenTiedAt
/- A region that draws its order: reads under guards, taken first in whatever world meets S; then two operations that wait. -/
set_option linter.unusedSimpArgs false
set_option linter.unusedVariables false
namespace Go.Proofs.YticlmjkfadklgaaDoor
open Go.RowKit

def wpHeldG (P : Program) (ops : Array Oper) (S : World → Prop) (L : Act → Prop) : List Oper → Act → Prop
  | [], a => L a
  | o :: l, a => ∃ v, YieldsIf P ops S o v a ∧ wpHeldG P ops S L l (a.put o.dst v)
section
variable {P : Program} {Q : Exit → Act → World → Prop} {S : World → Prop}
theorem heldG_plain {ops : Array Oper} {L : Act → Prop} {o : Oper} {l : List Oper} {a : Act} (hg : o.guard = none)
    (h : ∀ K : Act → Prop, (∀ a', wpHeldG P ops S L l a' → K a') → ∃ v, (∀ w, S w → (execOp a.eval o).run P w = .ok (.value v) w) ∧ K (a.put o.dst v)) : wpHeldG P ops S L (o :: l) a := by
  obtain ⟨v, h1, h2⟩ := h (wpHeldG P ops S L l) (fun _ h => h)
  exact ⟨v, .inl ⟨by simp [Region.wanted, hg], h1⟩, h2⟩
theorem heldG_go {ops : Array Oper} {L : Act → Prop} {o : Oper} {l : List Oper} {a : Act} {j : Nat} {b : Bool} (hg : o.guard = some (j, b)) (hy : yielded ops a.tmps j = some b)
    (h : ∀ K : Act → Prop, (∀ a', wpHeldG P ops S L l a' → K a') → ∃ v, (∀ w, S w → (execOp a.eval o).run P w = .ok (.value v) w) ∧ K (a.put o.dst v)) : wpHeldG P ops S L (o :: l) a := by
  obtain ⟨v, h1, h2⟩ := h (wpHeldG P ops S L l) (fun _ h => h)
  exact ⟨v, .inl ⟨by simp [Region.wanted, hg, hy], h1⟩, h2⟩
theorem heldG_skip {ops : Array Oper} {L : Act → Prop} {o : Oper} {l : List Oper} {a : Act} {j : Nat} {b c : Bool} (hg : o.guard = some (j, b)) (hy : yielded ops a.tmps j = some c) (hne : (some c == some b) = false)
    (h : wpHeldG P ops S L l (a.put o.dst undef)) : wpHeldG P ops S L (o :: l) a :=
  ⟨undef, .inr ⟨by simpa [Region.wanted, hg, hy] using hne, rfl⟩, h⟩
theorem heldG_nil {ops : Array Oper} {L : Act → Prop} {a : Act} (h : L a) : wpHeldG P ops S L [] a := h
theorem heldG_mono {ops : Array Oper} {L L' : Act → Prop} (hL : ∀ a, L a → L' a) : ∀ (l : List Oper) (a : Act), wpHeldG P ops S L l a → wpHeldG P ops S L' l a
  | [], a, h => hL a h
  | o :: l, a, ⟨v, h1, h2⟩ => ⟨v, h1, heldG_mono hL l _ h2⟩
theorem heldG_heads {ops : Array Oper} {f : Nat} {w : World} (hs : Region.noSelect ops = true) (hQ : ∀ c a d v w, Q (.panic c) (Act.put a d v) w → Q (.panic c) a w) (hS : S w) :
    ∀ (σ : List Nat) (so : List Oper) (pre : List Nat) (a : Act), σ.map (fun i => ops[i]?) = so.map some → headsB ops pre σ = true →
    wpHeldG P ops S (fun a' => wpAnyH P .any ops Q S f (doneBy ops.size (pre ++ σ)) a' w) so a → wpAnyH P .any ops Q S (f + σ.length) (doneBy ops.size pre) a w
  | [], so, pre, a, hso, _, h => by
    have : so = [] := by cases so with | nil => rfl | cons o so => simp at hso
    subst this; simp only [List.append_nil] at h; exact h
  | i :: σ, so, pre, a, hso, hB, h => by
    cases so with
    | nil => simp at hso
    | cons o so =>
      simp only [List.map_cons, List.cons.injEq] at hso
      simp only [headsB, Bool.and_eq_true] at hB
      obtain ⟨v, h1, h2⟩ := h
      have ih := heldG_heads (f := f) (w := w) hs hQ hS σ so (pre ++ [i]) (a.put o.dst v) hso.2 hB.2.2 (by simpa using h2)
      rw [doneBy_snoc] at ih
      have := wpAnyH_take (fuel := f + σ.length) hso.1 hs hB.1 hB.2.1 (fun c a w h => hQ c a _ _ w h) h1 hS ih
      simpa [Nat.add_assoc] using this
/-- The law. -/
theorem wp_region_heldG {id : Nat} {a : Act} {w : World} {l : List Oper} (S : World → Prop) (σ : List Nat) (t1 t2 : Nat) (G : List (Nat × Nat)) (hm : P.follows .mixedOrders = true)
    (hB : (Region.noSelect l.toArray && (headsB l.toArray [] σ && (decide (Region.ready .any l.toArray (doneBy l.toArray.size σ) = [t1]) && (decide (Region.ready .any l.toArray (doneBy l.toArray.size (σ ++ [t1])) = [t2]) && (decide (Region.ready .any l.toArray (doneBy l.toArray.size (σ ++ [t1] ++ [t2])) = []) && G.all (fun p => decide (((l.toArray[p.1]?).bind fun x => x.dst) = some p.2))))))) = true)
    (hlen : l.length = 2 + σ.length) (so : List Oper) (o1 o2 : Oper) (hso : σ.map (fun i => l.toArray[i]?) = so.map some) (h1 : l.toArray[t1]? = some o1) (h2 : l.toArray[t2]? = some o2)
    (hQ : ∀ c a d v w, Q (.panic c) (Act.put a d v) w → Q (.panic c) a w) (hS : S w.drew)
    (h : ∀ ops : Array Oper, (∀ p ∈ G, ((ops[p.1]?).bind fun x => x.dst) = some p.2) → wpHeldG P ops S (fun a' => wpList P ops (Exit.then (fun a1 w1 => S w1 ∧ wpList P ops (Exit.then (fun a2 w2 => S w2 ∧ Q .normal a2 w2) Q) [o2] a1 w1) Q) [o1] a' w.drew) so a) : (Code.region id l.toArray true).wp P Q a w := by
  simp only [Bool.and_eq_true, decide_eq_true_eq, List.all_eq_true] at hB
  obtain ⟨hs, hh, r1, r2, r3, hG⟩ := hB
  refine wp_region_held (S := S) hm ?_
  have key := heldG_heads (P := P) (Q := Q) (S := S) (ops := l.toArray) (f := 2) (w := w.drew) hs hQ hS σ so [] a hso hh ?_
  · have e : l.toArray.size = 2 + σ.length := by simp [hlen]
    rw [← e] at key; simpa [doneBy] using key
  · refine heldG_mono (fun a' h' => ?_) _ _ (h l.toArray hG)
    refine wpAnyH_all (rs := [t1]) (by simpa using r1) (by simp) (fun x hx => ?_)
    simp only [List.mem_singleton] at hx
    subst hx
    refine wpOp_mono (fun a1 w1 hk => ⟨hk.1, ?_⟩) (op_then h1 h')
    have e : (doneBy l.toArray.size ([] ++ σ)).setIfInBounds x true = doneBy l.toArray.size (σ ++ [x]) := by rw [doneBy_snoc]; rfl
    rw [e]
    refine wpAnyH_all (rs := [t2]) r2 (by simp) (fun y hy => ?_)
    simp only [List.mem_singleton] at hy
    subst hy
    refine wpOp_mono (fun a2 w2 hk2 => ⟨hk2.1, ?_⟩) (op_then h2 hk.2)
    have e2 : (doneBy l.toArray.size (σ ++ [x])).setIfInBounds y true = doneBy l.toArray.size (σ ++ [x] ++ [y]) := (doneBy_snoc _ _ _).symm
    rw [e2]
    exact wpAnyH_done r3 hk2.2 0
end
end Go.Proofs.YticlmjkfadklgaaDoor

/- The statements' own helpers: Decode on both sides. -/
set_option linter.unusedSimpArgs false
set_option linter.unusedVariables false
namespace Go.Proofs.YticlmjkfadklgaaDoor
open Go.RowKit

/-- How decoded ends. -/
def DecodedEnds (r : (List Int × List Fl.Node) × Bool × Int) (w : World) (e : Ending) (w' : World) : Prop :=
  Below w.heap.size w w' ∧ ∃ la n lc na n' nc, e = .returned (.tuple #[.agg #[.slice la n lc, .slice na n' nc], .bool true]) ∧ IntsAt w'.heap.size w' (.slice la n lc) r.1.1 ∧ NodesAt w'.heap.size w' (.slice na n' nc) r.1.2
theorem decode_bad {s : List UInt8} (h : (Fl.decode s).2.1 = false) : (Fl.decode s).1 = ([], []) := by
  unfold Fl.decode at *
  by_cases h0 : Fl.headAt s < 3
  · rw [if_pos h0]
  rw [if_neg h0] at h ⊢
  simp only at h ⊢
  by_cases h1 : (Fl.num s 3).2.1 < 0
  · rw [if_pos h1]
  rw [if_neg h1] at h ⊢
  by_cases h2 : 4 < (Fl.num s 3).1
  · rw [if_pos h2]
  rw [if_neg h2] at h ⊢
  generalize Fl.nums s (Fl.num s 3).2.1.toNat (Fl.num s 3).1.toNat = l at h ⊢
  by_cases h3 : l.2.1 < 0
  · rw [if_pos h3]
  rw [if_neg h3] at h ⊢
  generalize Fl.num s l.2.1.toNat = m at h ⊢
  by_cases h4 : m.2.1 < 0
  · rw [if_pos h4]
  rw [if_neg h4] at h ⊢
  by_cases h5 : m.1 < 1 ∨ 200 < m.1
  · rw [if_pos h5]
  rw [if_neg h5] at h ⊢
  generalize Fl.nodesA s m.1.toNat 0 m.2.1.toNat [] [] = r at h ⊢
  by_cases h6 : 0 ≤ r.2.2.2
  · rw [if_pos h6]
  rw [if_neg h6] at h ⊢
  by_cases h7 : r.2.2.1 < s.length
  · rw [if_pos h7]
  rw [if_neg h7] at h ⊢
  by_cases h8 : 0 ≤ Fl.shaped r.1
  · rw [if_pos h8]
  rw [if_neg h8] at h; simp at h

theorem toList_of (l : List UInt8) : (⟨l.toArray⟩ : ByteArray).toList = l := by rw [ByteArray.toList_eq]

set_option maxRecDepth 100000 in
set_option maxHeartbeats 4000000 in
theorem decoded_any (l : List UInt8) (w : World) (hs : l.length ≤ 1000000) (hE : ErrType w) :
    Calls Tryd.prog 5 #[.string ⟨l.toArray⟩] w (DecodedEnds (Fl.decode l) w) := by
  obtain ⟨s, hsl⟩ : ∃ s : ByteArray, s = ⟨l.toArray⟩ := ⟨_, rfl⟩
  rw [← hsl]
  have hsz : s.size = l.length := by rw [hsl]; rfl
  have hld : s.data.toList = l := by rw [hsl]
  have hcv : ∀ W : World, (convert 9 28 (.string s)).run Tryd.prog W = .ok (.slice (some ⟨W.heap.size, 0, none⟩) l.length (grownCap W l.length 0 5)) (Lib.bytesWorld W 5 s) := fun W => by rw [← hsz]; exact Lib.run_convert_string_bytes W 9 28 5 s Tryd.underlying9 Tryd.underlying28 Tryd.underlying5
  have HE : Hid (∀ o, Below w.heap.size w o → ErrType o) := fun o ho => (ho.cell (p := ⟨0, 0, none⟩) (World.block_lt_of_cell? w _ hE)).trans hE
  have HSZ : Hid (s.size = l.length) := hsz
  have HLD : Hid (s.data.toList = l) := hld
  have HSL : Hid (s = ⟨l.toArray⟩) := hsl
  clear hE hsz hld hsl
  go_enter Tryd.func5, Tryd.ntmps5
  go_wp2_with fail
  clear hcv
  obtain ⟨cap, hcap⟩ : ∃ cap, cap = grownCap (w.alloc (.cells #[.slice none 0 0, .slice none 0 0] 25)) l.length 0 5 := ⟨_, rfl⟩
  obtain ⟨WB, hWB⟩ : ∃ WB, WB = Lib.bytesWorld (w.alloc (.cells #[.slice none 0 0, .slice none 0 0] 25)) 5 s := ⟨_, rfl⟩
  rw [← hcap, ← hWB]
  have hzB : WB.heap.size = w.heap.size + 2 := by rw [hWB, Lib.bytesWorld_size]; simp
  have hbB : Below (w.heap.size + 1) (w.alloc (.cells #[.slice none 0 0, .slice none 0 0] 25)) WB := by
    rw [hWB]
    refine ⟨rfl, rfl, rfl, by rw [Lib.bytesWorld_size]; omega, fun k hk => Lib.bytesWorld_at_old _ _ _ k (by simpa using hk)⟩
  have HBB : Hid (Below w.heap.size w WB) := Below.trans ((Below.refl _ _).alloc (Nat.le_refl _) _) (hbB.mono (by omega))
  have hcell : ∀ j, j < l.length → WB.cell? ⟨w.heap.size + 1, j, none⟩ = some (.int .u8 (l.getD j 0).toNat) := fun j hj => by
    have := Lib.bytesWorld_cell (w.alloc (.cells #[.slice none 0 0, .slice none 0 0] 25)) 5 s j (by rw [HSZ.out]; exact hj)
    rw [World.size_alloc] at this
    rw [hWB, this, HLD.out]
  have hfz : ∀ j, j < l.length → WB.frozen? ⟨w.heap.size + 1, j, none⟩ = false := fun j hj => by
    have := Lib.bytesWorld_at_new (w.alloc (.cells #[.slice none 0 0, .slice none 0 0] 25)) 5 s
    rw [World.size_alloc] at this
    rw [World.frozen?, hWB, this]
    have hsz : s.size ≤ (Lib.bytesCells (w.alloc (.cells #[.slice none 0 0, .slice none 0 0] 25)) 5 s).size := by simp [Lib.bytesCells]
    have := HSZ.out
    simp only [Bool.and_eq_false_iff, decide_eq_false_iff_not]; left; omega
  have HCELL : Hid (∀ j, j < l.length → WB.cell? ⟨w.heap.size + 1, j, none⟩ = some (.int .u8 (l.getD j 0).toNat)) := hcell
  have HFZ : Hid (∀ j, j < l.length → WB.frozen? ⟨w.heap.size + 1, j, none⟩ = false) := hfz
  have HS0 : Hid (∀ i, WB.cell? ⟨w.heap.size, i, none⟩ = #[Value.slice none 0 0, .slice none 0 0][i]?) := fun i => (hbB.cell (p := ⟨w.heap.size, i, none⟩) (by simp)).trans (World.cell?_alloc_new _ _ _ _)
  have HSF : Hid (∀ i, WB.frozen? ⟨w.heap.size, i, none⟩ = false) := fun i => (hbB.frozen (p := ⟨w.heap.size, i, none⟩) (by simp)).trans (by rw [World.frozen?, heap_alloc_new]; simp)
  have HPD : Hid (Calls Tryd.prog 9 #[.slice (some ⟨w.heap.size + 1, 0, none⟩) l.length cap] WB (PlainDec (Fl.decode l) WB)) :=
    plain_decode (HE.out _ HBB.out) (by omega) (fun _ => ⟨w.heap.size + 1, 0, rfl, by omega, fun i hi => by rw [Nat.zero_add]; exact hcell i hi⟩)
  clear hcap hWB hbB hcell hfz
  refine (HPD.out).mono ?_
  rintro e w2 ⟨hb2, hbad, hgood⟩
  have HB2 : Hid (Below WB.heap.size WB w2) := hb2
  have hz2 : w.heap.size + 2 ≤ w2.heap.size := by have := hb2.size; omega
  obtain ⟨la, n, lc, na, n', nc, en, pl, rfl, hcase⟩ : ∃ la n lc na n' nc en pl, e = .returned (.tuple #[.agg #[.slice la n lc, .slice na n' nc], .int .i64 en, .int .i64 pl]) ∧ (((Fl.decode l).2.1 = false ∧ en = 8 ∧ pl = (Fl.decode l).2.2 ∧ la = none ∧ n = 0 ∧ lc = 0 ∧ na = none ∧ n' = 0 ∧ nc = 0) ∨ ((Fl.decode l).2.1 = true ∧ en = 0 ∧ pl = -1 ∧ ∀ w'', Stay WB.heap.size w2 w'' → IntsAt w''.heap.size w'' (.slice la n lc) (Fl.decode l).1.1 ∧ NodesAt w''.heap.size w'' (.slice na n' nc) (Fl.decode l).1.2)) := by
    cases hr : (Fl.decode l).2.1 with
    | false => exact ⟨none, 0, 0, none, 0, 0, 8, _, hbad hr, .inl ⟨rfl, rfl, rfl, rfl, rfl, rfl, rfl, rfl, rfl⟩⟩
    | true =>
      obtain ⟨la, n, lc, na, n', nc, he, hst⟩ := hgood hr
      exact ⟨la, n, lc, na, n', nc, 0, -1, he, .inr ⟨rfl, rfl, rfl, hst⟩⟩
  have HCASE : Hid (((Fl.decode l).2.1 = false ∧ en = 8 ∧ pl = (Fl.decode l).2.2 ∧ la = none ∧ n = 0 ∧ lc = 0 ∧ na = none ∧ n' = 0 ∧ nc = 0) ∨ ((Fl.decode l).2.1 = true ∧ en = 0 ∧ pl = -1 ∧ ∀ w'', Stay WB.heap.size w2 w'' → IntsAt w''.heap.size w'' (.slice la n lc) (Fl.decode l).1.1 ∧ NodesAt w''.heap.size w'' (.slice na n' nc) (Fl.decode l).1.2)) := hcase
  have hcv2 : (convert 28 9 (.slice (some ⟨w.heap.size + 1, 0, none⟩) l.length cap)).run Tryd.prog (w2.alloc (.cells #[.slice la n lc, .slice na n' nc] 25)) = .ok (.string s) (w2.alloc (.cells #[.slice la n lc, .slice na n' nc] 25)) := by
    rw [HSL.out]
    refine run_convert_bytes_back _ 28 9 5 ⟨w.heap.size + 1, 0, none⟩ cap l Tryd.underlying28 Tryd.underlying5 Tryd.underlying9 (fun j hj => ?_)
    have h2 : (⟨w.heap.size + 1, 0, none⟩ : Addr).add j = ⟨w.heap.size + 1, j, none⟩ := by unfold Addr.add; split <;> simp_all
    rw [h2, World.cell?_alloc_lt _ _ _ (by simp only; omega), hb2.cell (p := ⟨w.heap.size + 1, j, none⟩) (by simp only; omega), HCELL.out j hj]
    simp [List.getD_eq_getElem?_getD, hj]
  clear hb2 HPD hbad hgood hcase
  go_wp2_with fail
  clear hcv2
  obtain ⟨W3, hW3⟩ : ∃ W3, W3 = w2.alloc (.cells #[.slice la n lc, .slice na n' nc] 25) := ⟨_, rfl⟩
  obtain ⟨P0, hP0⟩ : ∃ P0, P0 = w2.heap.size := ⟨_, rfl⟩
  rw [← hW3, ← hP0]
  have hb3 : Below w2.heap.size w2 W3 := by rw [hW3]; exact (Below.refl _ _).alloc (Nat.le_refl _) _
  have hz3 : W3.heap.size = P0 + 1 := by rw [hW3, hP0]; simp
  have HP3 : Hid (∀ i, W3.cell? ⟨P0, i, none⟩ = #[Value.slice la n lc, .slice na n' nc][i]?) := fun i => by rw [hW3, hP0]; exact World.cell?_alloc_new _ _ _ _
  have HB3 : Hid (Below w2.heap.size w2 W3) := hb3
  have hzP : w.heap.size + 2 ≤ P0 := by omega
  have HP0 : Hid (P0 = w2.heap.size) := hP0
  have q3 : ∀ k o, k < w.heap.size + 2 → W3.cell? ⟨k, o, none⟩ = WB.cell? ⟨k, o, none⟩ := fun k o hk => (hb3.cell (p := ⟨k, o, none⟩) (by simp only; omega)).trans (HB2.out.cell (p := ⟨k, o, none⟩) (by simp only; omega))
  have f3 : ∀ k o, k < w.heap.size + 2 → W3.frozen? ⟨k, o, none⟩ = WB.frozen? ⟨k, o, none⟩ := fun k o hk => (hb3.frozen (p := ⟨k, o, none⟩) (by simp only; omega)).trans (HB2.out.frozen (p := ⟨k, o, none⟩) (by simp only; omega))
  have HQ3 : Hid (∀ k o, k < w.heap.size + 2 → W3.cell? ⟨k, o, none⟩ = WB.cell? ⟨k, o, none⟩) := q3
  have HF3 : Hid (∀ k o, k < w.heap.size + 2 → W3.frozen? ⟨k, o, none⟩ = WB.frozen? ⟨k, o, none⟩) := f3
  clear hW3 hP0 hb3 q3 f3
  go_loopw [9] (fun i wr => ∃ (j : Nat), j ≤ l.length ∧ i = .int .i64 j ∧ W3.grownBy wr (some (w.heap.size + 1)) ∧ (∀ i, i < l.length → ∃ v, wr.cell? ⟨w.heap.size + 1, i, none⟩ = some v) ∧ (∀ i, i < l.length → wr.frozen? ⟨w.heap.size + 1, i, none⟩ = false)) (fun i _ => l.length - (intOf i).toNat)
  case atStart => exact ⟨0, by omega, rfl, World.grownBy.refl _ _, fun i hi => ⟨_, (HQ3.out _ i (by omega)).trans (HCELL.out i hi)⟩, fun i hi => (HF3.out _ i (by omega)).trans (HFZ.out i hi)⟩
  case round =>
    obtain ⟨j, hj, rfl, hg, hc, hf⟩ := hrel
    have HG : Hid (W3.grownBy wr (some (w.heap.size + 1))) := hg
    have HC : Hid (∀ i, i < l.length → ∃ v, wr.cell? ⟨w.heap.size + 1, i, none⟩ = some v) := hc
    have HF : Hid (∀ i, i < l.length → wr.frozen? ⟨w.heap.size + 1, i, none⟩ = false) := hf
    have hzr : P0 + 1 ≤ wr.heap.size := by have := hg.size; omega
    clear hg hc hf
    by_cases hlt : j < l.length
    · obtain ⟨v, hv⟩ := HC.out j hlt
      have hfj := HF.out j hlt
      have hji : (j : Int) < (l.length : Int) := by omega
      go_wp2
      go_roundw
      case rel =>
        refine ⟨j + 1, by omega, by go_num, ⟨HG.out.os, HG.out.tape, HG.out.output, by have := HG.out.size; simpa [World.setCell] using this, fun k hk hne => ?_⟩, fun i hi => ?_, fun i hi => by rw [World.frozen?_setCell]; exact HF.out i hi⟩
        · refine (Below.heap_setCell wr _ _ k ?_).trans (HG.out.block k hk hne)
          intro hh; exact hne (by simpa using hh)
        · by_cases hij : i = j
          · subst hij; exact ⟨_, cell_self hv⟩
          · obtain ⟨v', hv'⟩ := HC.out i hi
            exact ⟨v', (cell_off hij).trans hv'⟩
      case measure => simp [intOf]; omega
    · have hji : ¬ (j : Int) < (l.length : Int) := by omega
      have hne1 : ∀ k, k ≠ w.heap.size + 1 → some k ≠ some (w.heap.size + 1) := fun k hk h => hk (by simpa using h)
      have HRD : Hid (Calls Tryd.prog 10 #[.string s] wr fun e w' => DecEnds (Fl.decode l) wr e w') := by
        have := decode_walk s wr (by rw [HSZ.out]; omega)
        rw [show s.toList = l from by rw [HSL.out]; exact toList_of l] at this
        exact this
      have b0 : Below w.heap.size w wr := by
        have h1 := HBB.out.trans (HB2.out.mono (by omega))
        have h2 := h1.trans (HB3.out.mono (by omega))
        exact h2.grown HG.out (by omega) (fun k hk => by simp only [Option.some.injEq] at hk; omega)
      have HBR : Hid (Below w.heap.size w wr) := b0
      have HCR : Hid (∀ k o, k ≠ w.heap.size + 1 → k < W3.heap.size → wr.cell? ⟨k, o, none⟩ = W3.cell? ⟨k, o, none⟩) := fun k o hk hlt => World.cell?_of_block (w := W3) (HG.out.block k hlt (hne1 k hk))
      have HFR : Hid (∀ k o, k ≠ w.heap.size + 1 → k < W3.heap.size → wr.frozen? ⟨k, o, none⟩ = W3.frozen? ⟨k, o, none⟩) := fun k o hk hlt => World.frozen?_of_block (w := W3) (HG.out.block k hlt (hne1 k hk))
      have HSR : Hid (Stay WB.heap.size w2 wr) := (Stay.below HB3.out).trans (Stay.grown HG.out (fun k hk => by simp only [Option.some.injEq] at hk; omega))
      clear b0 hne1 HC HF HG
      go_wp2_with fail
      refine (HRD.out).mono ?_
      rintro e w4 ⟨hb4, qa, qn, qc, ra, rn, rc, rfl, hq⟩
      have HB4 : Hid (Below w.heap.size w w4) := HBR.out.trans (hb4.mono HBR.out.size)
      have HST : Hid (Stay WB.heap.size w2 w4) := HSR.out.trans (Stay.below hb4)
      have HQ : Hid ((Fl.decode l).2.1 = true → IntsAt w4.heap.size w4 (.slice qa qn qc) (Fl.decode l).1.1 ∧ NodesAt w4.heap.size w4 (.slice ra rn rc) (Fl.decode l).1.2) := hq
      have c4 : ∀ k o, k ≠ w.heap.size + 1 → k < W3.heap.size → w4.cell? ⟨k, o, none⟩ = W3.cell? ⟨k, o, none⟩ := fun k o hk hlt => (hb4.cell (p := ⟨k, o, none⟩) (by simp only; omega)).trans (HCR.out k o hk hlt)
      have f4 : ∀ k o, k ≠ w.heap.size + 1 → k < W3.heap.size → w4.frozen? ⟨k, o, none⟩ = W3.frozen? ⟨k, o, none⟩ := fun k o hk hlt => (hb4.frozen (p := ⟨k, o, none⟩) (by simp only; omega)).trans (HFR.out k o hk hlt)
      have p0 : w4.cell? ⟨P0, 0, none⟩ = some (.slice la n lc) := (c4 P0 0 (by omega) (by omega)).trans (HP3.out 0)
      have p1 : w4.cell? ⟨P0, 1, none⟩ = some (.slice na n' nc) := (c4 P0 1 (by omega) (by omega)).trans (HP3.out 1)
      have s0 : w4.cell? ⟨w.heap.size, 0, none⟩ = some (.slice none 0 0) := (c4 _ 0 (by omega) (by omega)).trans ((HQ3.out _ 0 (by omega)).trans (HS0.out 0))
      have s1 : w4.cell? ⟨w.heap.size, 1, none⟩ = some (.slice none 0 0) := (c4 _ 1 (by omega) (by omega)).trans ((HQ3.out _ 1 (by omega)).trans (HS0.out 1))
      have sf : ∀ i, w4.frozen? ⟨w.heap.size, i, none⟩ = false := fun i => (f4 _ i (by omega) (by omega)).trans ((HF3.out _ i (by omega)).trans (HSF.out i))
      have hz4 : P0 < w4.heap.size := by have := hb4.size; omega
      have hz5 : w.heap.size < w4.heap.size := by omega
      clear hb4 hq HRD c4 f4 HCR HFR HSR HS0 HSF HQ3 HF3 HP3 HCELL HFZ
      cases hr : (Fl.decode l).2.1 with
      | false =>
        have HRR : Hid ((Fl.decode l).2.1 = false) := hr
        rcases HCASE.out with ⟨_, rfl, rfl, rfl, rfl, rfl, rfl, rfl, rfl⟩ | ⟨h, _⟩
        case inr => rw [hr] at h; cases h
        clear hr
        go_wp2_with fail
        have hs5 : (w4.alloc (.cells #[.slice qa qn qc, .slice ra rn rc] 25)).drew.cell? ⟨P0, 0, none⟩ = some (.slice none 0 0) ∧ (w4.alloc (.cells #[.slice qa qn qc, .slice ra rn rc] 25)).drew.cell? ⟨P0, 1, none⟩ = some (.slice none 0 0) := ⟨(World.cell?_alloc_lt _ _ _ hz4).trans p0, (World.cell?_alloc_lt _ _ _ hz4).trans p1⟩
        refine wp_region_heldG (fun W => W.cell? ⟨P0, 0, none⟩ = some (.slice none 0 0) ∧ W.cell? ⟨P0, 1, none⟩ = some (.slice none 0 0)) [0, 1, 2, 3, 4, 5, 6, 7, 8, 9, 10, 11, 12, 13, 14, 15, 16, 17, 18, 19, 20, 21, 22] 23 24 [(2, 45), (6, 49), (11, 54), (17, 60)] (by kernel_rfl) (by kernel_rfl) rfl [_, _, _, _, _, _, _, _, _, _, _, _, _, _, _, _, _, _, _, _, _, _, _] _ _ rfl rfl rfl (fun c a d v w h => by cases d <;> exact h) hs5 (fun ops hG => ?_)
        have g1 := hG (2, 45) (by simp)
        have g2 := hG (6, 49) (by simp)
        have g3 := hG (11, 54) (by simp)
        have g4 := hG (17, 60) (by simp)
        simp only at g1 g2 g3 g4
        clear hG hs5
        repeat
          first
          | refine heldG_plain rfl (fun K hK => ?_)
          | refine heldG_go rfl (by simp [yielded, g1, g2, g3, g4]) (fun K hK => ?_)
          apply Exists.intro
          refine ⟨fun w' hw' => ?_, ?_⟩
          · obtain ⟨k0, k1⟩ := hw'
            go_simp
            try with_reducible rfl
          go_simp
          refine hK _ ?_
          clear hK K
        refine heldG_nil ?_
        clear g1 g2 g3 g4
        go_wp2_with fail
        obtain ⟨e0, e1, ek, es, eb⟩ := two_set (.slice none 0 0) (.slice none 0 0) s0 s1
        have hc : ∀ i, ((((w4.setCell ⟨w.heap.size, 0, none⟩ (.slice none 0 0)).setCell ⟨w.heap.size, 1, none⟩ (.slice none 0 0)).alloc (.cells #[.slice qa qn qc, .slice ra rn rc] 25)).drew).cell? ⟨P0, i, none⟩ = w4.cell? ⟨P0, i, none⟩ := fun i => (World.cell?_alloc_lt _ _ _ (by rw [es]; exact hz4)).trans (World.cell?_of_block (ek P0 (by omega)))
        have hk0 : ((((w4.setCell ⟨w.heap.size, 0, none⟩ (.slice none 0 0)).setCell ⟨w.heap.size, 1, none⟩ (.slice none 0 0)).alloc (.cells #[.slice qa qn qc, .slice ra rn rc] 25)).drew).cell? ⟨w.heap.size, 0, none⟩ = some (.slice none 0 0) := (World.cell?_alloc_lt _ _ _ (by rw [es]; exact hz5)).trans e0
        have hk1 : ((((w4.setCell ⟨w.heap.size, 0, none⟩ (.slice none 0 0)).setCell ⟨w.heap.size, 1, none⟩ (.slice none 0 0)).alloc (.cells #[.slice qa qn qc, .slice ra rn rc] 25)).drew).cell? ⟨w.heap.size, 1, none⟩ = some (.slice none 0 0) := (World.cell?_alloc_lt _ _ _ (by rw [es]; exact hz5)).trans e1
        have HBE : Hid (Below w.heap.size w ((((w4.setCell ⟨w.heap.size, 0, none⟩ (.slice none 0 0)).setCell ⟨w.heap.size, 1, none⟩ (.slice none 0 0)).alloc (.cells #[.slice qa qn qc, .slice ra rn rc] 25)).drew)) := ((eb _ _ HB4.out (Nat.le_refl _)).alloc (by rw [es]; omega) _).drew
        have hc0 := (hc 0).trans p0
        have hc1 := (hc 1).trans p1
        obtain ⟨W7, hW7⟩ : ∃ W7, W7 = ((((w4.setCell ⟨w.heap.size, 0, none⟩ (.slice none 0 0)).setCell ⟨w.heap.size, 1, none⟩ (.slice none 0 0)).alloc (.cells #[.slice qa qn qc, .slice ra rn rc] 25)).drew) := ⟨_, rfl⟩
        rw [← hW7] at hk0 hk1 HBE hc0 hc1 ⊢
        clear hc e0 e1 ek es eb hW7 p0 p1 s0 s1 sf
        refine ⟨⟨hc0, hc1⟩, ?_⟩
        go_wp2_with fail
        refine ⟨⟨hc0, hc1⟩, ?_⟩
        go_wp2_with fail
        have hb := decode_bad HRR.out
        exact bodyPost_ret (v := .tuple #[.agg #[.slice none 0 0, .slice none 0 0], .bool true]) (by simp [results, Tryd.results5, go_sem, hk0, hk1]) rfl ⟨HBE.out, none, 0, 0, none, 0, 0, rfl, by rw [hb]; exact IntsAt.nil _ _, by rw [hb]; exact NodesAt.nil _ _⟩
      | true =>
        have HRR : Hid ((Fl.decode l).2.1 = true) := hr
        rcases HCASE.out with ⟨h, _⟩ | ⟨_, rfl, rfl, hst⟩
        case inl => rw [hr] at h; cases h
        have HII : Hid (∀ w'', Stay WB.heap.size w2 w'' → IntsAt w''.heap.size w'' (.slice la n lc) (Fl.decode l).1.1 ∧ NodesAt w''.heap.size w'' (.slice na n' nc) (Fl.decode l).1.2) := hst
        clear hr hst
        have HPR : Hid (Calls Tryd.prog 8 #[.agg #[.slice la n lc, .slice na n' nc], .agg #[.slice qa qn qc, .slice ra rn rc]] (w4.alloc (.cells #[.slice qa qn qc, .slice ra rn rc] 25)) fun e w' => e = .returned (.bool true) ∧ Below (w4.alloc (.cells #[.slice qa qn qc, .slice ra rn rc] 25)).heap.size (w4.alloc (.cells #[.slice qa qn qc, .slice ra rn rc] 25)) w') := by
          have h9 := HII.out _ (HST.out.trans (Stay.alloc _ w4 (.cells #[.slice qa qn qc, .slice ra rn rc] 25)))
          have hb9 : Below w4.heap.size w4 (w4.alloc (.cells #[.slice qa qn qc, .slice ra rn rc] 25)) := (Below.refl _ _).alloc (Nat.le_refl _) _
          have h10 := HQ.out HRR.out
          have := proofs_any _ _ _ _ (.slice la n lc) (.slice na n' nc) (.slice qa qn qc) (.slice ra rn rc) _ _ (Nat.le_refl _) h9.1 h9.2 ((h10.1.below hb9).mono hb9.size) ((h10.2.below hb9).mono hb9.size)
          rw [show (((Fl.decode l).1.1 == (Fl.decode l).1.1) && eqNodes (Fl.decode l).1.2 (Fl.decode l).1.2) = true from by rw [(eqNodes_iff _ _).2 rfl]; simp] at this
          exact this
        go_wp2_with fail
        refine (HPR.out).mono ?_
        rintro e w6 ⟨rfl, hb6⟩
        have t0 : w6.cell? ⟨P0, 0, none⟩ = some (.slice la n lc) := (hb6.cell (p := ⟨P0, 0, none⟩) (by simp; omega)).trans ((World.cell?_alloc_lt _ _ _ hz4).trans p0)
        have t1 : w6.cell? ⟨P0, 1, none⟩ = some (.slice na n' nc) := (hb6.cell (p := ⟨P0, 1, none⟩) (by simp; omega)).trans ((World.cell?_alloc_lt _ _ _ hz4).trans p1)
        have v0 : w6.cell? ⟨w.heap.size, 0, none⟩ = some (.slice none 0 0) := (hb6.cell (p := ⟨w.heap.size, 0, none⟩) (by simp; omega)).trans ((World.cell?_alloc_lt _ _ _ hz5).trans s0)
        have v1 : w6.cell? ⟨w.heap.size, 1, none⟩ = some (.slice none 0 0) := (hb6.cell (p := ⟨w.heap.size, 1, none⟩) (by simp; omega)).trans ((World.cell?_alloc_lt _ _ _ hz5).trans s1)
        have vf : ∀ i, w6.frozen? ⟨w.heap.size, i, none⟩ = false := fun i => (hb6.frozen (p := ⟨w.heap.size, i, none⟩) (by simp; omega)).trans ((World.frozen?_alloc_old _ _ _ (by simp only; omega)).trans (sf i))
        have HB6 : Hid (Below w.heap.size w w6) := Below.trans (HB4.out.alloc (by omega) _) (hb6.mono (by simp; omega))
        have HST6 : Hid (Stay WB.heap.size w2 w6) := (HST.out.trans (Stay.alloc _ w4 _)).trans (Stay.below hb6)
        have hz6 : w4.heap.size < w6.heap.size := by have := hb6.size; simp only [World.size_alloc] at this; omega
        clear hb6 HPR p0 p1 s0 s1 sf
        go_wp2_with fail
        obtain ⟨e0, e1, ek, es, eb⟩ := two_set (.slice la n lc) (.slice na n' nc) v0 v1
        have hfin := HII.out _ (HST6.out.trans ⟨by omega, fun k hk hlt => ek k (by omega)⟩)
        exact bodyPost_ret (v := .tuple #[.agg #[.slice la n lc, .slice na n' nc], .bool true]) (by simp [results, Tryd.results5, go_sem, e0, e1]) rfl ⟨eb _ _ HB6.out (Nat.le_refl _), la, n, lc, na, n', nc, rfl, hfin.1, hfin.2⟩
end Go.Proofs.YticlmjkfadklgaaDoor

/- The statement Decodes: the walk. -/
set_option linter.unusedSimpArgs false
set_option linter.unusedVariables false
namespace Go.Proofs.YticlmjkfadklgaaDoor
open Go.RowKit

/-- What a proof that was read is at most. -/
theorem decode_small {l : List UInt8} (h : (Fl.decode l).2.1 = true) : (Fl.decode l).1.1.length ≤ 4 ∧ (Fl.decode l).1.2.length ≤ 200 ∧ ∀ k, k < (Fl.decode l).1.2.length → (Fl.nth (Fl.decode l).1.2 k).list.length ≤ 16 := by
  have he := Fl.decode_encode h
  unfold Fl.encode at he
  by_cases h1 : 4 < (Fl.decode l).1.1.length ∨ (Fl.decode l).1.2.length = 0 ∨ 200 < (Fl.decode l).1.2.length
  · rw [if_pos h1] at he; simp at he
  rw [if_neg h1] at he
  by_cases h2 : (Fl.decode l).1.1.all Fl.inR = false
  · rw [if_pos h2] at he; simp at he
  rw [if_neg h2] at he
  by_cases h3 : 0 ≤ Fl.shaped (Fl.decode l).1.2
  · rw [if_pos h3] at he; simp at he
  refine ⟨by omega, by omega, fun k hk => ?_⟩
  exact (Fl.sound_fits (Fl.sound_of_shaped (by omega) k hk)).1.2.2.2.2.2.1

set_option maxRecDepth 100000 in
set_option maxHeartbeats 1000000 in
theorem decodes_any (l : List UInt8) (w : World) (hs : l.length ≤ 9223372036854775807) (hE : ErrType w) :
    Calls Tryd.prog 3 #[.string ⟨l.toArray⟩] w fun e w' => e = .returned (.bool true) ∧ Below w.heap.size w w' := by
  obtain ⟨s, hsl⟩ : ∃ s : ByteArray, s = ⟨l.toArray⟩ := ⟨_, rfl⟩
  rw [← hsl]
  have hsz : s.size = l.length := by rw [hsl]; rfl
  have HSL : Hid (s = ⟨l.toArray⟩) := hsl
  have HE : Hid (∀ o, Below w.heap.size w o → ErrType o) := fun o ho => (ho.cell (p := ⟨0, 0, none⟩) (World.block_lt_of_cell? w _ hE)).trans hE
  clear hE hsl
  by_cases hbig : 32768 < l.length
  · have hbi : (32768 : Int) < (l.length : Int) := by omega
    go_enter Tryd.func3, Tryd.ntmps3
    go_wp2
    go_ret
    exact ⟨rfl, Below.refl _ _⟩
  · have hbi : ¬ (32768 : Int) < (l.length : Int) := by omega
    have HD : Hid (∀ W, Below w.heap.size w W → Calls Tryd.prog 5 #[.string s] W (DecodedEnds (Fl.decode l) W)) := fun W hW => by rw [HSL.out]; exact decoded_any l W (by omega) (HE.out W hW)
    go_enter Tryd.func3, Tryd.ntmps3
    go_wp2_with fail
    refine (HD.out w (Below.refl _ _)).mono ?_
    rintro e w1 ⟨hb1, la, n, lc, na, n', nc, rfl, hli, hni⟩
    obtain ⟨_, _, hv1, _⟩ := id hli
    obtain ⟨_, _, hv2, _, hm2, _⟩ := id hni
    simp only [Value.slice.injEq] at hv1 hv2
    obtain ⟨-, rfl, -⟩ := hv1
    obtain ⟨-, rfl, -⟩ := hv2
    unfold maxLen at hm2
    have HLI : Hid (IntsAt w1.heap.size w1 (.slice la (Fl.decode l).1.1.length lc) (Fl.decode l).1.1) := hli
    have HNI : Hid (NodesAt w1.heap.size w1 (.slice na (Fl.decode l).1.2.length nc) (Fl.decode l).1.2) := hni
    have HB1 : Hid (Below w.heap.size w w1) := hb1
    clear hli hni hb1 HD
    by_cases h0 : (Fl.decode l).1.2.length = 0
    · have h0' : (((Fl.decode l).1.2.length : Int) == 0) = true := by rw [h0]; rfl
      have hzw : w.heap.size ≤ w1.heap.size := HB1.out.size
      go_wp2
      go_ret
      exact ⟨rfl, HB1.out.alloc hzw _⟩
    · have h0' : (((Fl.decode l).1.2.length : Int) == 0) = false := beq_eq_false_iff_ne.2 (by omega)
      have htrue : (Fl.decode l).2.1 = true := by
        cases hr : (Fl.decode l).2.1 with
        | true => rfl
        | false => exact absurd (by rw [decode_bad hr]; rfl) h0
      obtain ⟨q1, q2, q3⟩ := decode_small htrue
      have HNE : Hid (l ≠ []) := by
        intro h9; rw [h9] at htrue
        have h8 : Fl.decode [] = (([], []), false, 0) := by simp [Fl.decode, Fl.headAt, Fl.headOk]
        rw [h8] at htrue; cases htrue
      have HEN : Hid (Fl.encode (Fl.decode l).1.1 (Fl.decode l).1.2 = (l, true, -1)) := Fl.decode_encode htrue
      obtain ⟨ls, hls⟩ : ∃ ls, ls = (Fl.decode l).1.1 := ⟨_, rfl⟩
      obtain ⟨ns, hns⟩ : ∃ ns, ns = (Fl.decode l).1.2 := ⟨_, rfl⟩
      rw [← hls, ← hns] at HEN
      rw [← hls] at HLI q1 ⊢
      rw [← hns] at HNI q2 q3 hm2 h0 h0' ⊢
      have HQ3 : Hid (∀ k, k < ns.length → (Fl.nth ns k).list.length ≤ 16) := q3
      have HEC : Hid (∀ W, Below w1.heap.size w1 W → Calls Tryd.prog 6 #[.agg #[.slice la ls.length lc, .slice na ns.length nc]] W (EncodedEnds (l, true, -1) W)) := fun W hW => by
        have := encoded_any ls ns la na lc nc W (HE.out W (HB1.out.trans (hW.mono HB1.out.size))) ((HLI.out.below hW).mono hW.size) ((HNI.out.below hW).mono hW.size) (by omega) (by omega) (fun k hk => by have := HQ3.out k hk; omega)
        rw [HEN.out] at this; exact this
      clear htrue hls hns q3
      go_wp2_with fail
      have hbp : Below w1.heap.size w1 (w1.alloc (.cells #[.slice la ls.length lc, .slice na ns.length nc] 25)) := (Below.refl _ _).alloc (Nat.le_refl _) _
      refine (HEC.out _ hbp).mono ?_
      rintro e w2 ⟨hb2, va, n, c, rfl, _, hown⟩
      have ho := hown rfl
      simp only at ho
      have HB2 : Hid (Below w.heap.size w w2) := (HB1.out.alloc HB1.out.size _).trans (hb2.mono (by have := HB1.out.size; simp; omega))
      obtain ⟨g, hva, hn⟩ : ∃ g, va = some ⟨g, 0, none⟩ ∧ n = l.length := by
        rcases ho.2 with ⟨h9, h9'⟩ | ⟨g, cap, cur, hv, _⟩
        · exact absurd (List.eq_nil_of_length_eq_zero h9') HNE.out
        · simp only [Value.slice.injEq] at hv; exact ⟨g, hv.1, hv.2.1⟩
      subst hva hn
      have hcv : (convert 28 9 (.slice (some ⟨g, 0, none⟩) l.length c)).run Tryd.prog w2 = .ok (.string s) w2 := by
        rw [HSL.out]
        exact run_convert_bytes_back w2 28 9 5 ⟨g, 0, none⟩ c l Tryd.underlying28 Tryd.underlying5 Tryd.underlying9 (fun j hj => ho.cells (g := g) rfl j (bval l[j]) (by simp [hj]))
      clear hb2 hown ho
      go_wp2
      go_ret
      exact ⟨rfl, HB2.out⟩
end Go.Proofs.YticlmjkfadklgaaDoor

/- The statement Decodes: the row, the card. -/
set_option linter.unusedSimpArgs false
set_option linter.unusedVariables false
namespace Go.Proofs.YticlmjkfadklgaaDoor
open Go.ChangeShapes Go.WideShapes Go.RowKit Go.ChangeMaps

set_option maxRecDepth 100000 in
theorem decodes_lifted (os : Os) (started : os.Started) (H : Type) (enc : TypeId × Value → H) :
    ReturnsInHanded {} Tryd.checked os 3 .any (fun w args => (Rows.decodesSpec.pre enc Tryd.prog Tryd.f3 [] false w args ∧ laidMetH Tryd.prog [("errors.errorType", Rows.laid_errors_errorType)] w) ∧ sizedMet enc Tryd.prog Tryd.f3 (OpenSpec.ofChange Rows.decodesSpec) false w args)
      (Rows.decodesSpec.post enc Tryd.prog Tryd.f3 false true false false) := by
  refine returnsInHanded_of_change_and (C := Tryd.checked) (X := fun w _ => laidMetH Tryd.prog [("errors.errorType", Rows.laid_errors_errorType)] w) (fun _ _ _ hh h => h.of_heap hh) Tryd.own started (by kernel_rfl) Tryd.func3
    (ChangeSpec.witness_at (enc := enc) (C := Tryd.checked) (os := os) (X := fun w _ => laidMetH Tryd.prog [("errors.errorType", Rows.laid_errors_errorType)] w) false { World.holding Tryd.prog os ⟨#[], #[], []⟩ with heap := (World.holding Tryd.prog os ⟨#[], #[], []⟩).heap.modify 0 fun
      | .cells _ t frozen => .cells #[.iface 111 (.agg #[.pointer (some ⟨1, 51, none⟩)])] t frozen
      | o => o } #[.string ⟨#[]⟩] 8 rfl (by kernel_rfl) (by kernel_rfl) (by kernel_rfl) (by kernel_rfl) (by kernel_rfl) (laidWorld_met os _)) ?_
  intro W base args ds gs before hval0 hW _ _ hL _
  have hval : ∀ (j : Nat) t v, Tryd.f3.params[j]? = some t → args[j]? = some v → Value.okWide Tryd.prog W .any base t v := hval0
  have hW' := hW
  obtain ⟨p, q, hA0, hV0, rfl, hfz, hnd⟩ := hW
  have hA : DataW.TrodAll enc Tryd.prog W 0 (fun _ => true) true Tryd.f3.params.toList args.toList ds p := hA0
  have hV : DataW.TrodVars enc Tryd.prog W (fun _ => true) [] gs q := hV0
  rw [Tryd.params3] at hA hval
  obtain ⟨v0, d0, rfl, rfl, h0⟩ := trodAll_one hA
  obtain ⟨s, rfl, rfl, rfl, hsz⟩ := open_string Tryd.underlying9 (hval 0 9 v0 rfl rfl) h0
  have hg := handle_of_laid hL
  obtain ⟨rfl, rfl⟩ : gs = [] ∧ q = [] := by
    cases gs with
    | nil => exact ⟨rfl, hV⟩
    | cons g r => exact absurd hV (by intro h; cases h)
  have e1 : Rows.decodesSpec.fn H ([.lit (.string s.data.toList)] ++ []) = { results := [.lit (.bool true)], args := [.lit (.string s.data.toList)] } := by simp [Rows.decodesSpec]
  have hs2 : (⟨s.data.toList.toArray⟩ : ByteArray) = s := by simp
  have hwalk := decodes_any s.data.toList W (by unfold maxLen at hsz; have hq : s.data.toList.length = s.size := (by simp); omega) hg
  rw [hs2] at hwalk
  refine hwalk.mono fun e W' ⟨he, hw⟩ => ?_
  subst he
  refine ⟨_, rfl, _, _, _, [], [], [], hW', ?_, ?_, ?_, hw.frame _, fun h => by cases h⟩
  · rw [e1]; exact trodAll_mk1 (shut_bool Tryd.underlying4 true)
  · rw [e1]; exact trodAll_mk1 (shut_string Tryd.underlying9 hsz)
  · rw [e1]; rfl

theorem decodes_said : Rows.DecodesSaid :=
  OpenClaim.holds_of_wide 3 Tryd.f3 rfl rfl rfl rfl rfl rfl rfl ⟨rfl, rfl, rfl, rfl, rfl⟩ rfl rfl rfl rfl rfl (by kernel_rfl) Tryd.func3 (by kernel_rfl)
    (of_decide_eq_true (by kernel_rfl)) (by unfold Func.isWrapper; rw [if_neg (of_decide_eq_false (by kernel_rfl))]; exact ⟨rfl, rfl⟩)
    (fun os started H enc _ => decodes_lifted os started H enc)

theorem decodes_card : Rows.DecodesCardSaid :=
  Claim7.holds_tied_plain_at .later [] [.handle] true (true, "b839f8fa3bbc74dd4ee9541c286e13e53eaca5c0747e20050bc60343fcb2357b") true
    decodes_said (fun _ h => by cases h) (by kernel_rfl) (fun _ h => by cases h) decodes_row_tie rfl ⟨rfl, rfl⟩ (by kernel_rfl) rfl
    (fun f fn hf hfn => by
      obtain rfl : f = 3 := Option.some.inj ((show Tryd.prog.funcNamed Rows.decodesRow.func = some 3 by kernel_rfl).symm.trans hf) |>.symm
      obtain rfl : fn = Tryd.f3 := (Option.some.inj (Tryd.func3.symm.trans hfn)).symm
      exact ⟨by kernel_rfl, fun j t ht => by
        rw [Tryd.params3] at ht
        have h3 : t = 9 := by
          rcases j with _ | j
          · simpa using ht.symm
          · simp at ht
        subst h3
        exact (show Tryd.prog.wantsStandIn 9 = false by kernel_rfl)⟩)
    (by kernel_rfl)
end Go.Proofs.YticlmjkfadklgaaDoor
