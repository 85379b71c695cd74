/- Texts CeHeld Lwd Lwe Lwf. -/
import Derived.Test.YticlmjkfadklgaaDoorM20
import Derived.Lib.ConvBytes
import Derived.Laws.IdiomStrings
/- A region that draws its order: reads under guards, taken first in whatever world meets S; then two operations that wait. -/
set_option linter.unusedSimpArgs false
set_option linter.unusedVariables false
namespace Go.Proofs.YticlmjkfadklgaaDoor
open Go.RowKit

def wpHeldG (P : Program) (ops : Array Oper) (S : World → Prop) (L : Act → Prop) : List Oper → Act → Prop
  | [], a => L a
  | o :: l, a => ∃ v, YieldsIf P ops S o v a ∧ wpHeldG P ops S L l (a.put o.dst v)
section
variable {P : Program} {Q : Exit → Act → World → Prop} {S : World → Prop}
theorem heldG_plain {ops : Array Oper} {L : Act → Prop} {o : Oper} {l : List Oper} {a : Act} (hg : o.guard = none)
    (h : ∀ K : Act → Prop, (∀ a', wpHeldG P ops S L l a' → K a') → ∃ v, (∀ w, S w → (execOp a.eval o).run P w = .ok (.value v) w) ∧ K (a.put o.dst v)) : wpHeldG P ops S L (o :: l) a := by
  obtain ⟨v, h1, h2⟩ := h (wpHeldG P ops S L l) (fun _ h => h)
  exact ⟨v, .inl ⟨by simp [Region.wanted, hg], h1⟩, h2⟩
theorem heldG_go {ops : Array Oper} {L : Act → Prop} {o : Oper} {l : List Oper} {a : Act} {j : Nat} {b : Bool} (hg : o.guard = some (j, b)) (hy : yielded ops a.tmps j = some b)
    (h : ∀ K : Act → Prop, (∀ a', wpHeldG P ops S L l a' → K a') → ∃ v, (∀ w, S w → (execOp a.eval o).run P w = .ok (.value v) w) ∧ K (a.put o.dst v)) : wpHeldG P ops S L (o :: l) a := by
  obtain ⟨v, h1, h2⟩ := h (wpHeldG P ops S L l) (fun _ h => h)
  exact ⟨v, .inl ⟨by simp [Region.wanted, hg, hy], h1⟩, h2⟩
theorem heldG_skip {ops : Array Oper} {L : Act → Prop} {o : Oper} {l : List Oper} {a : Act} {j : Nat} {b c : Bool} (hg : o.guard = some (j, b)) (hy : yielded ops a.tmps j = some c) (hne : (some c == some b) = false)
    (h : wpHeldG P ops S L l (a.put o.dst undef)) : wpHeldG P ops S L (o :: l) a :=
  ⟨undef, .inr ⟨by simpa [Region.wanted, hg, hy] using hne, rfl⟩, h⟩
theorem heldG_nil {ops : Array Oper} {L : Act → Prop} {a : Act} (h : L a) : wpHeldG P ops S L [] a := h
theorem heldG_mono {ops : Array Oper} {L L' : Act → Prop} (hL : ∀ a, L a → L' a) : ∀ (l : List Oper) (a : Act), wpHeldG P ops S L l a → wpHeldG P ops S L' l a
  | [], a, h => hL a h
  | o :: l, a, ⟨v, h1, h2⟩ => ⟨v, h1, heldG_mono hL l _ h2⟩
theorem heldG_heads {ops : Array Oper} {f : Nat} {w : World} (hs : Region.noSelect ops = true) (hQ : ∀ c a d v w, Q (.panic c) (Act.put a d v) w → Q (.panic c) a w) (hS : S w) :
    ∀ (σ : List Nat) (so : List Oper) (pre : List Nat) (a : Act), σ.map (fun i => ops[i]?) = so.map some → headsB ops pre σ = true →
    wpHeldG P ops S (fun a' => wpAnyH P .any ops Q S f (doneBy ops.size (pre ++ σ)) a' w) so a → wpAnyH P .any ops Q S (f + σ.length) (doneBy ops.size pre) a w
  | [], so, pre, a, hso, _, h => by
    have : so = [] := by cases so with | nil => rfl | cons o so => simp at hso
    subst this; simp only [List.append_nil] at h; exact h
  | i :: σ, so, pre, a, hso, hB, h => by
    cases so with
    | nil => simp at hso
    | cons o so =>
      simp only [List.map_cons, List.cons.injEq] at hso
      simp only [headsB, Bool.and_eq_true] at hB
      obtain ⟨v, h1, h2⟩ := h
      have ih := heldG_heads (f := f) (w := w) hs hQ hS σ so (pre ++ [i]) (a.put o.dst v) hso.2 hB.2.2 (by simpa using h2)
      rw [doneBy_snoc] at ih
      have := wpAnyH_take (fuel := f + σ.length) hso.1 hs hB.1 hB.2.1 (fun c a w h => hQ c a _ _ w h) h1 hS ih
      simpa [Nat.add_assoc] using this
/-- The law. -/
theorem wp_region_heldG {id : Nat} {a : Act} {w : World} {l : List Oper} (S : World → Prop) (σ : List Nat) (t1 t2 : Nat) (G : List (Nat × Nat)) (hm : P.follows .mixedOrders = true)
    (hB : (Region.noSelect l.toArray && (headsB l.toArray [] σ && (decide (Region.ready .any l.toArray (doneBy l.toArray.size σ) = [t1]) && (decide (Region.ready .any l.toArray (doneBy l.toArray.size (σ ++ [t1])) = [t2]) && (decide (Region.ready .any l.toArray (doneBy l.toArray.size (σ ++ [t1] ++ [t2])) = []) && G.all (fun p => decide (((l.toArray[p.1]?).bind fun x => x.dst) = some p.2))))))) = true)
    (hlen : l.length = 2 + σ.length) (so : List Oper) (o1 o2 : Oper) (hso : σ.map (fun i => l.toArray[i]?) = so.map some) (h1 : l.toArray[t1]? = some o1) (h2 : l.toArray[t2]? = some o2)
    (hQ : ∀ c a d v w, Q (.panic c) (Act.put a d v) w → Q (.panic c) a w) (hS : S w.drew)
    (h : ∀ ops : Array Oper, (∀ p ∈ G, ((ops[p.1]?).bind fun x => x.dst) = some p.2) → wpHeldG P ops S (fun a' => wpList P ops (Exit.then (fun a1 w1 => S w1 ∧ wpList P ops (Exit.then (fun a2 w2 => S w2 ∧ Q .normal a2 w2) Q) [o2] a1 w1) Q) [o1] a' w.drew) so a) : (Code.region id l.toArray true).wp P Q a w := by
  simp only [Bool.and_eq_true, decide_eq_true_eq, List.all_eq_true] at hB
  obtain ⟨hs, hh, r1, r2, r3, hG⟩ := hB
  refine wp_region_held (S := S) hm ?_
  have key := heldG_heads (P := P) (Q := Q) (S := S) (ops := l.toArray) (f := 2) (w := w.drew) hs hQ hS σ so [] a hso hh ?_
  · have e : l.toArray.size = 2 + σ.length := by simp [hlen]
    rw [← e] at key; simpa [doneBy] using key
  · refine heldG_mono (fun a' h' => ?_) _ _ (h l.toArray hG)
    refine wpAnyH_all (rs := [t1]) (by simpa using r1) (by simp) (fun x hx => ?_)
    simp only [List.mem_singleton] at hx
    subst hx
    refine wpOp_mono (fun a1 w1 hk => ⟨hk.1, ?_⟩) (op_then h1 h')
    have e : (doneBy l.toArray.size ([] ++ σ)).setIfInBounds x true = doneBy l.toArray.size (σ ++ [x]) := by rw [doneBy_snoc]; rfl
    rw [e]
    refine wpAnyH_all (rs := [t2]) r2 (by simp) (fun y hy => ?_)
    simp only [List.mem_singleton] at hy
    subst hy
    refine wpOp_mono (fun a2 w2 hk2 => ⟨hk2.1, ?_⟩) (op_then h2 hk.2)
    have e2 : (doneBy l.toArray.size (σ ++ [x])).setIfInBounds y true = doneBy l.toArray.size (σ ++ [x] ++ [y]) := (doneBy_snoc _ _ _).symm
    rw [e2]
    exact wpAnyH_done r3 hk2.2 0
end
end Go.Proofs.YticlmjkfadklgaaDoor

/- The statements' own helpers: Decode on both sides. -/
set_option linter.unusedSimpArgs false
set_option linter.unusedVariables false
namespace Go.Proofs.YticlmjkfadklgaaDoor
open Go.RowKit

/-- How decoded ends. -/
def DecodedEnds (r : (List Int × List Fl.Node) × Bool × Int) (w : World) (e : Ending) (w' : World) : Prop :=
  Below w.heap.size w w' ∧ ∃ la n lc na n' nc, e = .returned (.tuple #[.agg #[.slice la n lc, .slice na n' nc], .bool true]) ∧ IntsAt w'.heap.size w' (.slice la n lc) r.1.1 ∧ NodesAt w'.heap.size w' (.slice na n' nc) r.1.2
theorem decode_bad {s : List UInt8} (h : (Fl.decode s).2.1 = false) : (Fl.decode s).1 = ([], []) := by
  unfold Fl.decode at *
  by_cases h0 : Fl.headAt s < 3
  · rw [if_pos h0]
  rw [if_neg h0] at h ⊢
  simp only at h ⊢
  by_cases h1 : (Fl.num s 3).2.1 < 0
  · rw [if_pos h1]
  rw [if_neg h1] at h ⊢
  by_cases h2 : 4 < (Fl.num s 3).1
  · rw [if_pos h2]
  rw [if_neg h2] at h ⊢
  generalize Fl.nums s (Fl.num s 3).2.1.toNat (Fl.num s 3).1.toNat = l at h ⊢
  by_cases h3 : l.2.1 < 0
  · rw [if_pos h3]
  rw [if_neg h3] at h ⊢
  generalize Fl.num s l.2.1.toNat = m at h ⊢
  by_cases h4 : m.2.1 < 0
  · rw [if_pos h4]
  rw [if_neg h4] at h ⊢
  by_cases h5 : m.1 < 1 ∨ 200 < m.1
  · rw [if_pos h5]
  rw [if_neg h5] at h ⊢
  generalize Fl.nodesA s m.1.toNat 0 m.2.1.toNat [] [] = r at h ⊢
  by_cases h6 : 0 ≤ r.2.2.2
  · rw [if_pos h6]
  rw [if_neg h6] at h ⊢
  by_cases h7 : r.2.2.1 < s.length
  · rw [if_pos h7]
  rw [if_neg h7] at h ⊢
  by_cases h8 : 0 ≤ Fl.shaped r.1
  · rw [if_pos h8]
  rw [if_neg h8] at h; simp at h

theorem toList_of (l : List UInt8) : (⟨l.toArray⟩ : ByteArray).toList = l := by rw [ByteArray.toList_eq]

set_option maxRecDepth 100000 in
set_option maxHeartbeats 4000000 in
theorem decoded_any (l : List UInt8) (w : World) (hs : l.length ≤ 1000000) (hE : ErrType w) :
    Calls Tryd.prog 5 #[.string ⟨l.toArray⟩] w (DecodedEnds (Fl.decode l) w) := by
  obtain ⟨s, hsl⟩ : ∃ s : ByteArray, s = ⟨l.toArray⟩ := ⟨_, rfl⟩
  rw [← hsl]
  have hsz : s.size = l.length := by rw [hsl]; rfl
  have hld : s.data.toList = l := by rw [hsl]
  have hcv : ∀ W : World, (convert 9 28 (.string s)).run Tryd.prog W = .ok (.slice (some ⟨W.heap.size, 0, none⟩) l.length (grownCap W l.length 0 5)) (Lib.bytesWorld W 5 s) := fun W => by rw [← hsz]; exact Lib.run_convert_string_bytes W 9 28 5 s Tryd.underlying9 Tryd.underlying28 Tryd.underlying5
  have HE : Hid (∀ o, Below w.heap.size w o → ErrType o) := fun o ho => (ho.cell (p := ⟨0, 0, none⟩) (World.block_lt_of_cell? w _ hE)).trans hE
  have HSZ : Hid (s.size = l.length) := hsz
  have HLD : Hid (s.data.toList = l) := hld
  have HSL : Hid (s = ⟨l.toArray⟩) := hsl
  clear hE hsz hld hsl
  go_enter Tryd.func5, Tryd.ntmps5
  go_wp2_with fail
  clear hcv
  obtain ⟨cap, hcap⟩ : ∃ cap, cap = grownCap (w.alloc (.cells #[.slice none 0 0, .slice none 0 0] 25)) l.length 0 5 := ⟨_, rfl⟩
  obtain ⟨WB, hWB⟩ : ∃ WB, WB = Lib.bytesWorld (w.alloc (.cells #[.slice none 0 0, .slice none 0 0] 25)) 5 s := ⟨_, rfl⟩
  rw [← hcap, ← hWB]
  have hzB : WB.heap.size = w.heap.size + 2 := by rw [hWB, Lib.bytesWorld_size]; simp
  have hbB : Below (w.heap.size + 1) (w.alloc (.cells #[.slice none 0 0, .slice none 0 0] 25)) WB := by
    rw [hWB]
    refine ⟨rfl, rfl, rfl, by rw [Lib.bytesWorld_size]; omega, fun k hk => Lib.bytesWorld_at_old _ _ _ k (by simpa using hk)⟩
  have HBB : Hid (Below w.heap.size w WB) := Below.trans ((Below.refl _ _).alloc (Nat.le_refl _) _) (hbB.mono (by omega))
  have hcell : ∀ j, j < l.length → WB.cell? ⟨w.heap.size + 1, j, none⟩ = some (.int .u8 (l.getD j 0).toNat) := fun j hj => by
    have := Lib.bytesWorld_cell (w.alloc (.cells #[.slice none 0 0, .slice none 0 0] 25)) 5 s j (by rw [HSZ.out]; exact hj)
    rw [World.size_alloc] at this
    rw [hWB, this, HLD.out]
  have hfz : ∀ j, j < l.length → WB.frozen? ⟨w.heap.size + 1, j, none⟩ = false := fun j hj => by
    have := Lib.bytesWorld_at_new (w.alloc (.cells #[.slice none 0 0, .slice none 0 0] 25)) 5 s
    rw [World.size_alloc] at this
    rw [World.frozen?, hWB, this]
    have hsz : s.size ≤ (Lib.bytesCells (w.alloc (.cells #[.slice none 0 0, .slice none 0 0] 25)) 5 s).size := by simp [Lib.bytesCells]
    have := HSZ.out
    simp only [Bool.and_eq_false_iff, decide_eq_false_iff_not]; left; omega
  have HCELL : Hid (∀ j, j < l.length → WB.cell? ⟨w.heap.size + 1, j, none⟩ = some (.int .u8 (l.getD j 0).toNat)) := hcell
  have HFZ : Hid (∀ j, j < l.length → WB.frozen? ⟨w.heap.size + 1, j, none⟩ = false) := hfz
  have HS0 : Hid (∀ i, WB.cell? ⟨w.heap.size, i, none⟩ = #[Value.slice none 0 0, .slice none 0 0][i]?) := fun i => (hbB.cell (p := ⟨w.heap.size, i, none⟩) (by simp)).trans (World.cell?_alloc_new _ _ _ _)
  have HSF : Hid (∀ i, WB.frozen? ⟨w.heap.size, i, none⟩ = false) := fun i => (hbB.frozen (p := ⟨w.heap.size, i, none⟩) (by simp)).trans (by rw [World.frozen?, heap_alloc_new]; simp)
  have HPD : Hid (Calls Tryd.prog 9 #[.slice (some ⟨w.heap.size + 1, 0, none⟩) l.length cap] WB (PlainDec (Fl.decode l) WB)) :=
    plain_decode (HE.out _ HBB.out) (by omega) (fun _ => ⟨w.heap.size + 1, 0, rfl, by omega, fun i hi => by rw [Nat.zero_add]; exact hcell i hi⟩)
  clear hcap hWB hbB hcell hfz
  refine (HPD.out).mono ?_
  rintro e w2 ⟨hb2, hbad, hgood⟩
  have HB2 : Hid (Below WB.heap.size WB w2) := hb2
  have hz2 : w.heap.size + 2 ≤ w2.heap.size := by have := hb2.size; omega
  obtain ⟨la, n, lc, na, n', nc, en, pl, rfl, hcase⟩ : ∃ la n lc na n' nc en pl, e = .returned (.tuple #[.agg #[.slice la n lc, .slice na n' nc], .int .i64 en, .int .i64 pl]) ∧ (((Fl.decode l).2.1 = false ∧ en = 8 ∧ pl = (Fl.decode l).2.2 ∧ la = none ∧ n = 0 ∧ lc = 0 ∧ na = none ∧ n' = 0 ∧ nc = 0) ∨ ((Fl.decode l).2.1 = true ∧ en = 0 ∧ pl = -1 ∧ ∀ w'', Stay WB.heap.size w2 w'' → IntsAt w''.heap.size w'' (.slice la n lc) (Fl.decode l).1.1 ∧ NodesAt w''.heap.size w'' (.slice na n' nc) (Fl.decode l).1.2)) := by
    cases hr : (Fl.decode l).2.1 with
    | false => exact ⟨none, 0, 0, none, 0, 0, 8, _, hbad hr, .inl ⟨rfl, rfl, rfl, rfl, rfl, rfl, rfl, rfl, rfl⟩⟩
    | true =>
      obtain ⟨la, n, lc, na, n', nc, he, hst⟩ := hgood hr
      exact ⟨la, n, lc, na, n', nc, 0, -1, he, .inr ⟨rfl, rfl, rfl, hst⟩⟩
  have HCASE : Hid (((Fl.decode l).2.1 = false ∧ en = 8 ∧ pl = (Fl.decode l).2.2 ∧ la = none ∧ n = 0 ∧ lc = 0 ∧ na = none ∧ n' = 0 ∧ nc = 0) ∨ ((Fl.decode l).2.1 = true ∧ en = 0 ∧ pl = -1 ∧ ∀ w'', Stay WB.heap.size w2 w'' → IntsAt w''.heap.size w'' (.slice la n lc) (Fl.decode l).1.1 ∧ NodesAt w''.heap.size w'' (.slice na n' nc) (Fl.decode l).1.2)) := hcase
  have hcv2 : (convert 28 9 (.slice (some ⟨w.heap.size + 1, 0, none⟩) l.length cap)).run Tryd.prog (w2.alloc (.cells #[.slice la n lc, .slice na n' nc] 25)) = .ok (.string s) (w2.alloc (.cells #[.slice la n lc, .slice na n' nc] 25)) := by
    rw [HSL.out]
    refine run_convert_bytes_back _ 28 9 5 ⟨w.heap.size + 1, 0, none⟩ cap l Tryd.underlying28 Tryd.underlying5 Tryd.underlying9 (fun j hj => ?_)
    have h2 : (⟨w.heap.size + 1, 0, none⟩ : Addr).add j = ⟨w.heap.size + 1, j, none⟩ := by unfold Addr.add; split <;> simp_all
    rw [h2, World.cell?_alloc_lt _ _ _ (by simp only; omega), hb2.cell (p := ⟨w.heap.size + 1, j, none⟩) (by simp only; omega), HCELL.out j hj]
    simp [List.getD_eq_getElem?_getD, hj]
  clear hb2 HPD hbad hgood hcase
  go_wp2_with fail
  clear hcv2
  obtain ⟨W3, hW3⟩ : ∃ W3, W3 = w2.alloc (.cells #[.slice la n lc, .slice na n' nc] 25) := ⟨_, rfl⟩
  obtain ⟨P0, hP0⟩ : ∃ P0, P0 = w2.heap.size := ⟨_, rfl⟩
  rw [← hW3, ← hP0]
  have hb3 : Below w2.heap.size w2 W3 := by rw [hW3]; exact (Below.refl _ _).alloc (Nat.le_refl _) _
  have hz3 : W3.heap.size = P0 + 1 := by rw [hW3, hP0]; simp
  have HP3 : Hid (∀ i, W3.cell? ⟨P0, i, none⟩ = #[Value.slice la n lc, .slice na n' nc][i]?) := fun i => by rw [hW3, hP0]; exact World.cell?_alloc_new _ _ _ _
  have HB3 : Hid (Below w2.heap.size w2 W3) := hb3
  have hzP : w.heap.size + 2 ≤ P0 := by omega
  have HP0 : Hid (P0 = w2.heap.size) := hP0
  have q3 : ∀ k o, k < w.heap.size + 2 → W3.cell? ⟨k, o, none⟩ = WB.cell? ⟨k, o, none⟩ := fun k o hk => (hb3.cell (p := ⟨k, o, none⟩) (by simp only; omega)).trans (HB2.out.cell (p := ⟨k, o, none⟩) (by simp only; omega))
  have f3 : ∀ k o, k < w.heap.size + 2 → W3.frozen? ⟨k, o, none⟩ = WB.frozen? ⟨k, o, none⟩ := fun k o hk => (hb3.frozen (p := ⟨k, o, none⟩) (by simp only; omega)).trans (HB2.out.frozen (p := ⟨k, o, none⟩) (by simp only; omega))
  have HQ3 : Hid (∀ k o, k < w.heap.size + 2 → W3.cell? ⟨k, o, none⟩ = WB.cell? ⟨k, o, none⟩) := q3
  have HF3 : Hid (∀ k o, k < w.heap.size + 2 → W3.frozen? ⟨k, o, none⟩ = WB.frozen? ⟨k, o, none⟩) := f3
  clear hW3 hP0 hb3 q3 f3
  go_loopw [9] (fun i wr => ∃ (j : Nat), j ≤ l.length ∧ i = .int .i64 j ∧ W3.grownBy wr (some (w.heap.size + 1)) ∧ (∀ i, i < l.length → ∃ v, wr.cell? ⟨w.heap.size + 1, i, none⟩ = some v) ∧ (∀ i, i < l.length → wr.frozen? ⟨w.heap.size + 1, i, none⟩ = false)) (fun i _ => l.length - (intOf i).toNat)
  case atStart => exact ⟨0, by omega, rfl, World.grownBy.refl _ _, fun i hi => ⟨_, (HQ3.out _ i (by omega)).trans (HCELL.out i hi)⟩, fun i hi => (HF3.out _ i (by omega)).trans (HFZ.out i hi)⟩
  case round =>
    obtain ⟨j, hj, rfl, hg, hc, hf⟩ := hrel
    have HG : Hid (W3.grownBy wr (some (w.heap.size + 1))) := hg
    have HC : Hid (∀ i, i < l.length → ∃ v, wr.cell? ⟨w.heap.size + 1, i, none⟩ = some v) := hc
    have HF : Hid (∀ i, i < l.length → wr.frozen? ⟨w.heap.size + 1, i, none⟩ = false) := hf
    have hzr : P0 + 1 ≤ wr.heap.size := by have := hg.size; omega
    clear hg hc hf
    by_cases hlt : j < l.length
    · obtain ⟨v, hv⟩ := HC.out j hlt
      have hfj := HF.out j hlt
      have hji : (j : Int) < (l.length : Int) := by omega
      go_wp2
      go_roundw
      case rel =>
        refine ⟨j + 1, by omega, by go_num, ⟨HG.out.os, HG.out.tape, HG.out.output, by have := HG.out.size; simpa [World.setCell] using this, fun k hk hne => ?_⟩, fun i hi => ?_, fun i hi => by rw [World.frozen?_setCell]; exact HF.out i hi⟩
        · refine (Below.heap_setCell wr _ _ k ?_).trans (HG.out.block k hk hne)
          intro hh; exact hne (by simpa using hh)
        · by_cases hij : i = j
          · subst hij; exact ⟨_, cell_self hv⟩
          · obtain ⟨v', hv'⟩ := HC.out i hi
            exact ⟨v', (cell_off hij).trans hv'⟩
      case measure => simp [intOf]; omega
    · have hji : ¬ (j : Int) < (l.length : Int) := by omega
      have hne1 : ∀ k, k ≠ w.heap.size + 1 → some k ≠ some (w.heap.size + 1) := fun k hk h => hk (by simpa using h)
      have HRD : Hid (Calls Tryd.prog 10 #[.string s] wr fun e w' => DecEnds (Fl.decode l) wr e w') := by
        have := decode_walk s wr (by rw [HSZ.out]; omega)
        rw [show s.toList = l from by rw [HSL.out]; exact toList_of l] at this
        exact this
      have b0 : Below w.heap.size w wr := by
        have h1 := HBB.out.trans (HB2.out.mono (by omega))
        have h2 := h1.trans (HB3.out.mono (by omega))
        exact h2.grown HG.out (by omega) (fun k hk => by simp only [Option.some.injEq] at hk; omega)
      have HBR : Hid (Below w.heap.size w wr) := b0
      have HCR : Hid (∀ k o, k ≠ w.heap.size + 1 → k < W3.heap.size → wr.cell? ⟨k, o, none⟩ = W3.cell? ⟨k, o, none⟩) := fun k o hk hlt => World.cell?_of_block (w := W3) (HG.out.block k hlt (hne1 k hk))
      have HFR : Hid (∀ k o, k ≠ w.heap.size + 1 → k < W3.heap.size → wr.frozen? ⟨k, o, none⟩ = W3.frozen? ⟨k, o, none⟩) := fun k o hk hlt => World.frozen?_of_block (w := W3) (HG.out.block k hlt (hne1 k hk))
      have HSR : Hid (Stay WB.heap.size w2 wr) := (Stay.below HB3.out).trans (Stay.grown HG.out (fun k hk => by simp only [Option.some.injEq] at hk; omega))
      clear b0 hne1 HC HF HG
      go_wp2_with fail
      refine (HRD.out).mono ?_
      rintro e w4 ⟨hb4, qa, qn, qc, ra, rn, rc, rfl, hq⟩
      have HB4 : Hid (Below w.heap.size w w4) := HBR.out.trans (hb4.mono HBR.out.size)
      have HST : Hid (Stay WB.heap.size w2 w4) := HSR.out.trans (Stay.below hb4)
      have HQ : Hid ((Fl.decode l).2.1 = true → IntsAt w4.heap.size w4 (.slice qa qn qc) (Fl.decode l).1.1 ∧ NodesAt w4.heap.size w4 (.slice ra rn rc) (Fl.decode l).1.2) := hq
      have c4 : ∀ k o, k ≠ w.heap.size + 1 → k < W3.heap.size → w4.cell? ⟨k, o, none⟩ = W3.cell? ⟨k, o, none⟩ := fun k o hk hlt => (hb4.cell (p := ⟨k, o, none⟩) (by simp only; omega)).trans (HCR.out k o hk hlt)
      have f4 : ∀ k o, k ≠ w.heap.size + 1 → k < W3.heap.size → w4.frozen? ⟨k, o, none⟩ = W3.frozen? ⟨k, o, none⟩ := fun k o hk hlt => (hb4.frozen (p := ⟨k, o, none⟩) (by simp only; omega)).trans (HFR.out k o hk hlt)
      have p0 : w4.cell? ⟨P0, 0, none⟩ = some (.slice la n lc) := (c4 P0 0 (by omega) (by omega)).trans (HP3.out 0)
      have p1 : w4.cell? ⟨P0, 1, none⟩ = some (.slice na n' nc) := (c4 P0 1 (by omega) (by omega)).trans (HP3.out 1)
      have s0 : w4.cell? ⟨w.heap.size, 0, none⟩ = some (.slice none 0 0) := (c4 _ 0 (by omega) (by omega)).trans ((HQ3.out _ 0 (by omega)).trans (HS0.out 0))
      have s1 : w4.cell? ⟨w.heap.size, 1, none⟩ = some (.slice none 0 0) := (c4 _ 1 (by omega) (by omega)).trans ((HQ3.out _ 1 (by omega)).trans (HS0.out 1))
      have sf : ∀ i, w4.frozen? ⟨w.heap.size, i, none⟩ = false := fun i => (f4 _ i (by omega) (by omega)).trans ((HF3.out _ i (by omega)).trans (HSF.out i))
      have hz4 : P0 < w4.heap.size := by have := hb4.size; omega
      have hz5 : w.heap.size < w4.heap.size := by omega
      clear hb4 hq HRD c4 f4 HCR HFR HSR HS0 HSF HQ3 HF3 HP3 HCELL HFZ
      cases hr : (Fl.decode l).2.1 with
      | false =>
        have HRR : Hid ((Fl.decode l).2.1 = false) := hr
        rcases HCASE.out with ⟨_, rfl, rfl, rfl, rfl, rfl, rfl, rfl, rfl⟩ | ⟨h, _⟩
        case inr => rw [hr] at h; cases h
        clear hr
        go_wp2_with fail
        have hs5 : (w4.alloc (.cells #[.slice qa qn qc, .slice ra rn rc] 25)).drew.cell? ⟨P0, 0, none⟩ = some (.slice none 0 0) ∧ (w4.alloc (.cells #[.slice qa qn qc, .slice ra rn rc] 25)).drew.cell? ⟨P0, 1, none⟩ = some (.slice none 0 0) := ⟨(World.cell?_alloc_lt _ _ _ hz4).trans p0, (World.cell?_alloc_lt _ _ _ hz4).trans p1⟩
        refine wp_region_heldG (fun W => W.cell? ⟨P0, 0, none⟩ = some (.slice none 0 0) ∧ W.cell? ⟨P0, 1, none⟩ = some (.slice none 0 0)) [0, 1, 2, 3, 4, 5, 6, 7, 8, 9, 10, 11, 12, 13, 14, 15, 16, 17, 18, 19, 20, 21, 22] 23 24 [(2, 45), (6, 49), (11, 54), (17, 60)] (by kernel_rfl) (by kernel_rfl) rfl [_, _, _, _, _, _, _, _, _, _, _, _, _, _, _, _, _, _, _, _, _, _, _] _ _ rfl rfl rfl (fun c a d v w h => by cases d <;> exact h) hs5 (fun ops hG => ?_)
        have g1 := hG (2, 45) (by simp)
        have g2 := hG (6, 49) (by simp)
        have g3 := hG (11, 54) (by simp)
        have g4 := hG (17, 60) (by simp)
        simp only at g1 g2 g3 g4
        clear hG hs5
        repeat
          first
          | refine heldG_plain rfl (fun K hK => ?_)
          | refine heldG_go rfl (by simp [yielded, g1, g2, g3, g4]) (fun K hK => ?_)
          apply Exists.intro
          refine ⟨fun w' hw' => ?_, ?_⟩
          · obtain ⟨k0, k1⟩ := hw'
            go_simp
            try with_reducible rfl
          go_simp
          refine hK _ ?_
          clear hK K
        refine heldG_nil ?_
        clear g1 g2 g3 g4
        go_wp2_with fail
        obtain ⟨e0, e1, ek, es, eb⟩ := two_set (.slice none 0 0) (.slice none 0 0) s0 s1
        have hc : ∀ i, ((((w4.setCell ⟨w.heap.size, 0, none⟩ (.slice none 0 0)).setCell ⟨w.heap.size, 1, none⟩ (.slice none 0 0)).alloc (.cells #[.slice qa qn qc, .slice ra rn rc] 25)).drew).cell? ⟨P0, i, none⟩ = w4.cell? ⟨P0, i, none⟩ := fun i => (World.cell?_alloc_lt _ _ _ (by rw [es]; exact hz4)).trans (World.cell?_of_block (ek P0 (by omega)))
        have hk0 : ((((w4.setCell ⟨w.heap.size, 0, none⟩ (.slice none 0 0)).setCell ⟨w.heap.size, 1, none⟩ (.slice none 0 0)).alloc (.cells #[.slice qa qn qc, .slice ra rn rc] 25)).drew).cell? ⟨w.heap.size, 0, none⟩ = some (.slice none 0 0) := (World.cell?_alloc_lt _ _ _ (by rw [es]; exact hz5)).trans e0
        have hk1 : ((((w4.setCell ⟨w.heap.size, 0, none⟩ (.slice none 0 0)).setCell ⟨w.heap.size, 1, none⟩ (.slice none 0 0)).alloc (.cells #[.slice qa qn qc, .slice ra rn rc] 25)).drew).cell? ⟨w.heap.size, 1, none⟩ = some (.slice none 0 0) := (World.cell?_alloc_lt _ _ _ (by rw [es]; exact hz5)).trans e1
        have HBE : Hid (Below w.heap.size w ((((w4.setCell ⟨w.heap.size, 0, none⟩ (.slice none 0 0)).setCell ⟨w.heap.size, 1, none⟩ (.slice none 0 0)).alloc (.cells #[.slice qa qn qc, .slice ra rn rc] 25)).drew)) := ((eb _ _ HB4.out (Nat.le_refl _)).alloc (by rw [es]; omega) _).drew
        have hc0 := (hc 0).trans p0
        have hc1 := (hc 1).trans p1
        obtain ⟨W7, hW7⟩ : ∃ W7, W7 = ((((w4.setCell ⟨w.heap.size, 0, none⟩ (.slice none 0 0)).setCell ⟨w.heap.size, 1, none⟩ (.slice none 0 0)).alloc (.cells #[.slice qa qn qc, .slice ra rn rc] 25)).drew) := ⟨_, rfl⟩
        rw [← hW7] at hk0 hk1 HBE hc0 hc1 ⊢
        clear hc e0 e1 ek es eb hW7 p0 p1 s0 s1 sf
        refine ⟨⟨hc0, hc1⟩, ?_⟩
        go_wp2_with fail
        refine ⟨⟨hc0, hc1⟩, ?_⟩
        go_wp2_with fail
        have hb := decode_bad HRR.out
        exact bodyPost_ret (v := .tuple #[.agg #[.slice none 0 0, .slice none 0 0], .bool true]) (by simp [results, Tryd.results5, go_sem, hk0, hk1]) rfl ⟨HBE.out, none, 0, 0, none, 0, 0, rfl, by rw [hb]; exact IntsAt.nil _ _, by rw [hb]; exact NodesAt.nil _ _⟩
      | true =>
        have HRR : Hid ((Fl.decode l).2.1 = true) := hr
        rcases HCASE.out with ⟨h, _⟩ | ⟨_, rfl, rfl, hst⟩
        case inl => rw [hr] at h; cases h
        have HII : Hid (∀ w'', Stay WB.heap.size w2 w'' → IntsAt w''.heap.size w'' (.slice la n lc) (Fl.decode l).1.1 ∧ NodesAt w''.heap.size w'' (.slice na n' nc) (Fl.decode l).1.2) := hst
        clear hr hst
        have HPR : Hid (Calls Tryd.prog 8 #[.agg #[.slice la n lc, .slice na n' nc], .agg #[.slice qa qn qc, .slice ra rn rc]] (w4.alloc (.cells #[.slice qa qn qc, .slice ra rn rc] 25)) fun e w' => e = .returned (.bool true) ∧ Below (w4.alloc (.cells #[.slice qa qn qc, .slice ra rn rc] 25)).heap.size (w4.alloc (.cells #[.slice qa qn qc, .slice ra rn rc] 25)) w') := by
          have h9 := HII.out _ (HST.out.trans (Stay.alloc _ w4 (.cells #[.slice qa qn qc, .slice ra rn rc] 25)))
          have hb9 : Below w4.heap.size w4 (w4.alloc (.cells #[.slice qa qn qc, .slice ra rn rc] 25)) := (Below.refl _ _).alloc (Nat.le_refl _) _
          have h10 := HQ.out HRR.out
          have := proofs_any _ _ _ _ (.slice la n lc) (.slice na n' nc) (.slice qa qn qc) (.slice ra rn rc) _ _ (Nat.le_refl _) h9.1 h9.2 ((h10.1.below hb9).mono hb9.size) ((h10.2.below hb9).mono hb9.size)
          rw [show (((Fl.decode l).1.1 == (Fl.decode l).1.1) && eqNodes (Fl.decode l).1.2 (Fl.decode l).1.2) = true from by rw [(eqNodes_iff _ _).2 rfl]; simp] at this
          exact this
        go_wp2_with fail
        refine (HPR.out).mono ?_
        rintro e w6 ⟨rfl, hb6⟩
        have t0 : w6.cell? ⟨P0, 0, none⟩ = some (.slice la n lc) := (hb6.cell (p := ⟨P0, 0, none⟩) (by simp; omega)).trans ((World.cell?_alloc_lt _ _ _ hz4).trans p0)
        have t1 : w6.cell? ⟨P0, 1, none⟩ = some (.slice na n' nc) := (hb6.cell (p := ⟨P0, 1, none⟩) (by simp; omega)).trans ((World.cell?_alloc_lt _ _ _ hz4).trans p1)
        have v0 : w6.cell? ⟨w.heap.size, 0, none⟩ = some (.slice none 0 0) := (hb6.cell (p := ⟨w.heap.size, 0, none⟩) (by simp; omega)).trans ((World.cell?_alloc_lt _ _ _ hz5).trans s0)
        have v1 : w6.cell? ⟨w.heap.size, 1, none⟩ = some (.slice none 0 0) := (hb6.cell (p := ⟨w.heap.size, 1, none⟩) (by simp; omega)).trans ((World.cell?_alloc_lt _ _ _ hz5).trans s1)
        have vf : ∀ i, w6.frozen? ⟨w.heap.size, i, none⟩ = false := fun i => (hb6.frozen (p := ⟨w.heap.size, i, none⟩) (by simp; omega)).trans ((World.frozen?_alloc_old _ _ _ (by simp only; omega)).trans (sf i))
        have HB6 : Hid (Below w.heap.size w w6) := Below.trans (HB4.out.alloc (by omega) _) (hb6.mono (by simp; omega))
        have HST6 : Hid (Stay WB.heap.size w2 w6) := (HST.out.trans (Stay.alloc _ w4 _)).trans (Stay.below hb6)
        have hz6 : w4.heap.size < w6.heap.size := by have := hb6.size; simp only [World.size_alloc] at this; omega
        clear hb6 HPR p0 p1 s0 s1 sf
        go_wp2_with fail
        obtain ⟨e0, e1, ek, es, eb⟩ := two_set (.slice la n lc) (.slice na n' nc) v0 v1
        have hfin := HII.out _ (HST6.out.trans ⟨by omega, fun k hk hlt => ek k (by omega)⟩)
        exact bodyPost_ret (v := .tuple #[.agg #[.slice la n lc, .slice na n' nc], .bool true]) (by simp [results, Tryd.results5, go_sem, e0, e1]) rfl ⟨eb _ _ HB6.out (Nat.le_refl _), la, n, lc, na, n', nc, rfl, hfin.1, hfin.2⟩
end Go.Proofs.YticlmjkfadklgaaDoor

/- The statement Decodes: the walk. -/
set_option linter.unusedSimpArgs false
set_option linter.unusedVariables false
namespace Go.Proofs.YticlmjkfadklgaaDoor
open Go.RowKit

/-- What a proof that was read is at most. -/
theorem decode_small {l : List UInt8} (h : (Fl.decode l).2.1 = true) : (Fl.decode l).1.1.length ≤ 4 ∧ (Fl.decode l).1.2.length ≤ 200 ∧ ∀ k, k < (Fl.decode l).1.2.length → (Fl.nth (Fl.decode l).1.2 k).list.length ≤ 16 := by
  have he := Fl.decode_encode h
  unfold Fl.encode at he
  by_cases h1 : 4 < (Fl.decode l).1.1.length ∨ (Fl.decode l).1.2.length = 0 ∨ 200 < (Fl.decode l).1.2.length
  · rw [if_pos h1] at he; simp at he
  rw [if_neg h1] at he
  by_cases h2 : (Fl.decode l).1.1.all Fl.inR = false
  · rw [if_pos h2] at he; simp at he
  rw [if_neg h2] at he
  by_cases h3 : 0 ≤ Fl.shaped (Fl.decode l).1.2
  · rw [if_pos h3] at he; simp at he
  refine ⟨by omega, by omega, fun k hk => ?_⟩
  exact (Fl.sound_fits (Fl.sound_of_shaped (by omega) k hk)).1.2.2.2.2.2.1

set_option maxRecDepth 100000 in
set_option maxHeartbeats 1000000 in
theorem decodes_any (l : List UInt8) (w : World) (hs : l.length ≤ 9223372036854775807) (hE : ErrType w) :
    Calls Tryd.prog 3 #[.string ⟨l.toArray⟩] w fun e w' => e = .returned (.bool true) ∧ Below w.heap.size w w' := by
  obtain ⟨s, hsl⟩ : ∃ s : ByteArray, s = ⟨l.toArray⟩ := ⟨_, rfl⟩
  rw [← hsl]
  have hsz : s.size = l.length := by rw [hsl]; rfl
  have HSL : Hid (s = ⟨l.toArray⟩) := hsl
  have HE : Hid (∀ o, Below w.heap.size w o → ErrType o) := fun o ho => (ho.cell (p := ⟨0, 0, none⟩) (World.block_lt_of_cell? w _ hE)).trans hE
  clear hE hsl
  by_cases hbig : 32768 < l.length
  · have hbi : (32768 : Int) < (l.length : Int) := by omega
    go_enter Tryd.func3, Tryd.ntmps3
    go_wp2
    go_ret
    exact ⟨rfl, Below.refl _ _⟩
  · have hbi : ¬ (32768 : Int) < (l.length : Int) := by omega
    have HD : Hid (∀ W, Below w.heap.size w W → Calls Tryd.prog 5 #[.string s] W (DecodedEnds (Fl.decode l) W)) := fun W hW => by rw [HSL.out]; exact decoded_any l W (by omega) (HE.out W hW)
    go_enter Tryd.func3, Tryd.ntmps3
    go_wp2_with fail
    refine (HD.out w (Below.refl _ _)).mono ?_
    rintro e w1 ⟨hb1, la, n, lc, na, n', nc, rfl, hli, hni⟩
    obtain ⟨_, _, hv1, _⟩ := id hli
    obtain ⟨_, _, hv2, _, hm2, _⟩ := id hni
    simp only [Value.slice.injEq] at hv1 hv2
    obtain ⟨-, rfl, -⟩ := hv1
    obtain ⟨-, rfl, -⟩ := hv2
    unfold maxLen at hm2
    have HLI : Hid (IntsAt w1.heap.size w1 (.slice la (Fl.decode l).1.1.length lc) (Fl.decode l).1.1) := hli
    have HNI : Hid (NodesAt w1.heap.size w1 (.slice na (Fl.decode l).1.2.length nc) (Fl.decode l).1.2) := hni
    have HB1 : Hid (Below w.heap.size w w1) := hb1
    clear hli hni hb1 HD
    by_cases h0 : (Fl.decode l).1.2.length = 0
    · have h0' : (((Fl.decode l).1.2.length : Int) == 0) = true := by rw [h0]; rfl
      have hzw : w.heap.size ≤ w1.heap.size := HB1.out.size
      go_wp2
      go_ret
      exact ⟨rfl, HB1.out.alloc hzw _⟩
    · have h0' : (((Fl.decode l).1.2.length : Int) == 0) = false := beq_eq_false_iff_ne.2 (by omega)
      have htrue : (Fl.decode l).2.1 = true := by
        cases hr : (Fl.decode l).2.1 with
        | true => rfl
        | false => exact absurd (by rw [decode_bad hr]; rfl) h0
      obtain ⟨q1, q2, q3⟩ := decode_small htrue
      have HNE : Hid (l ≠ []) := by
        intro h9; rw [h9] at htrue
        have h8 : Fl.decode [] = (([], []), false, 0) := by simp [Fl.decode, Fl.headAt, Fl.headOk]
        rw [h8] at htrue; cases htrue
      have HEN : Hid (Fl.encode (Fl.decode l).1.1 (Fl.decode l).1.2 = (l, true, -1)) := Fl.decode_encode htrue
      obtain ⟨ls, hls⟩ : ∃ ls, ls = (Fl.decode l).1.1 := ⟨_, rfl⟩
      obtain ⟨ns, hns⟩ : ∃ ns, ns = (Fl.decode l).1.2 := ⟨_, rfl⟩
      rw [← hls, ← hns] at HEN
      rw [← hls] at HLI q1 ⊢
      rw [← hns] at HNI q2 q3 hm2 h0 h0' ⊢
      have HQ3 : Hid (∀ k, k < ns.length → (Fl.nth ns k).list.length ≤ 16) := q3
      have HEC : Hid (∀ W, Below w1.heap.size w1 W → Calls Tryd.prog 6 #[.agg #[.slice la ls.length lc, .slice na ns.length nc]] W (EncodedEnds (l, true, -1) W)) := fun W hW => by
        have := encoded_any ls ns la na lc nc W (HE.out W (HB1.out.trans (hW.mono HB1.out.size))) ((HLI.out.below hW).mono hW.size) ((HNI.out.below hW).mono hW.size) (by omega) (by omega) (fun k hk => by have := HQ3.out k hk; omega)
        rw [HEN.out] at this; exact this
      clear htrue hls hns q3
      go_wp2_with fail
      have hbp : Below w1.heap.size w1 (w1.alloc (.cells #[.slice la ls.length lc, .slice na ns.length nc] 25)) := (Below.refl _ _).alloc (Nat.le_refl _) _
      refine (HEC.out _ hbp).mono ?_
      rintro e w2 ⟨hb2, va, n, c, rfl, _, hown⟩
      have ho := hown rfl
      simp only at ho
      have HB2 : Hid (Below w.heap.size w w2) := (HB1.out.alloc HB1.out.size _).trans (hb2.mono (by have := HB1.out.size; simp; omega))
      obtain ⟨g, hva, hn⟩ : ∃ g, va = some ⟨g, 0, none⟩ ∧ n = l.length := by
        rcases ho.2 with ⟨h9, h9'⟩ | ⟨g, cap, cur, hv, _⟩
        · exact absurd (List.eq_nil_of_length_eq_zero h9') HNE.out
        · simp only [Value.slice.injEq] at hv; exact ⟨g, hv.1, hv.2.1⟩
      subst hva hn
      have hcv : (convert 28 9 (.slice (some ⟨g, 0, none⟩) l.length c)).run Tryd.prog w2 = .ok (.string s) w2 := by
        rw [HSL.out]
        exact run_convert_bytes_back w2 28 9 5 ⟨g, 0, none⟩ c l Tryd.underlying28 Tryd.underlying5 Tryd.underlying9 (fun j hj => ho.cells (g := g) rfl j (bval l[j]) (by simp [hj]))
      clear hb2 hown ho
      go_wp2
      go_ret
      exact ⟨rfl, HB2.out⟩
end Go.Proofs.YticlmjkfadklgaaDoor

/- The statements' own helpers: a proof of raw numbers. -/
set_option linter.unusedSimpArgs false
set_option linter.unusedVariables false
namespace Go.Proofs.YticlmjkfadklgaaDoor
open Go.RowKit

theorem Tryd.infoNode6 : (Tryd.prog.info? 46).map (·.size) = some 6 := by kernel_rfl

set_option maxRecDepth 100000 in
set_option maxHeartbeats 2000000 in
theorem made_any (ls nums li : List Int) (la na ia : Option Addr) (lc nc ic B : Nat) (w : World) (hB : B ≤ w.heap.size) (hl : IntsAt B w (.slice la ls.length lc) ls) (hn : IntsAt B w (.slice na nums.length nc) nums) (hi : IntsAt B w (.slice ia li.length ic) li) (h1 : ls.length ≤ 1000000) (h2 : nums.length ≤ 1000000) (h3 : li.length ≤ 1000000)
    (hr : ∀ x ∈ nums, -9223372036854775808 ≤ x ∧ x ≤ 9223372036854775807) :
    Calls Tryd.prog 7 #[.slice la ls.length lc, .slice na nums.length nc, .slice ia li.length ic] w fun e w' => ∃ ns lv nv, e = .returned (.agg #[lv, nv]) ∧ IntsAt w'.heap.size w' lv ls ∧ NodesAt w'.heap.size w' nv ns ∧ Below w.heap.size w w' ∧ ns.length ≤ 1000000 ∧ ∀ k, k < ns.length → (Fl.nth ns k).list.length ≤ 1000000 := by
  obtain ⟨i0, hi0, hz0, hzs, hzb⟩ := info_parts Tryd.infoInt
  obtain ⟨i1, hi1, hy0, hy1, hyb⟩ := info_parts Tryd.infoNode
  have HL : Hid (IntsAt B w (.slice la ls.length lc) ls) := hl
  have HN : Hid (IntsAt B w (.slice na nums.length nc) nums) := hn
  have HI : Hid (IntsAt B w (.slice ia li.length ic) li) := hi
  have HR : Hid (∀ x ∈ nums, -9223372036854775808 ≤ x ∧ x ≤ 9223372036854775807) := hr
  clear hl hn hi hr
  go_enter Tryd.func7, Tryd.ntmps7
  go_wp2_with (at_builtin; refine wpList_append_ints rfl _ _ rfl (by exact rfl) _ (by exact rfl) B ls ?a1 h1 (w.heap.size + 1) ?a2 ?_)
  case a1 => exact HL.out.below ((Below.refl _ _).alloc hB _)
  case a2 => simp
  intro v' w1 ho1 hb1
  obtain ⟨vao, vcap, rfl⟩ := own_shape6 ho1
  have hz1 : w.heap.size + 1 ≤ w1.heap.size := by have := hb1.size; simp only [World.size_alloc] at this; omega
  have HROW : Hid (w1.heap[w.heap.size]? = some (.cells #[.slice none 0 0, .slice none 0 0] 25 (0, 0))) := (hb1.block w.heap.size (by omega)).trans (heap_alloc_new _ _)
  have HB1 : Hid (Below w.heap.size w w1) := by
    refine Below.trans ?_ (hb1.mono ?_)
    · exact Below.alloc (Below.refl _ _) (Nat.le_refl _) _
    · omega
  have HI1 : Hid (IntsAt w1.heap.size w1 (.slice vao ls.length vcap) ls ∧ ∀ b, (Value.slice vao ls.length vcap).ownBlock = some b → w.heap.size + 1 ≤ b ∧ b < w1.heap.size) := ⟨IntsAt.of_own ho1, fun b hb => ho1.lt b hb⟩
  clear ho1 hb1
  go_wp2_with fail
  obtain ⟨Q, hQ⟩ : ∃ Q, Q = w1.heap.size := ⟨_, rfl⟩
  have HG0 : Hid (Grow ls w1 (w1.alloc (.cells #[.slice vao ls.length vcap, .slice none 0 0] 25)) (w.heap.size + 1) Q (.slice vao ls.length vcap) (.slice none 0 0) [] []) := by
    subst hQ
    refine Grow.new ((Below.refl _ _).alloc (Nat.le_refl _) _) (by simp) ((HI1.out.1.below ((Below.refl _ _).alloc (Nat.le_refl _) _)).mono (by simp)) hz1 (fun hne b hh => ?_) (by simp) (by simp) (fun j => by rw [World.frozen?, heap_alloc_new]; simp)
    have := HI1.out.2 b hh; omega
  rw [← hQ]
  have hSQ : w.heap.size < Q := by omega
  have HQ : Hid (Q = w1.heap.size) := hQ
  clear hQ hz1
  go_loopw [8, 9] (fun at_ i wr => ∃ (a j : Nat) (nv : Value) (acc : List Fl.Node) (lvs : List Value), at_ = .int .i64 a ∧ i = .int .i64 j ∧ a ≤ li.length ∧ j = 6 * acc.length ∧ j ≤ nums.length + 5 ∧ (∀ k, k < acc.length → (Fl.nth acc k).list.length ≤ 20) ∧ Grow ls w1 wr (w.heap.size + 1) Q (.slice vao ls.length vcap) nv acc lvs) (fun _ i _ => nums.length + 6 - (intOf i).toNat)
  case atStart => exact ⟨0, 0, .slice none 0 0, [], [], rfl, rfl, by omega, rfl, by omega, fun k hk => by simp at hk, HG0.out⟩
  case round =>
    clear HG0
    obtain ⟨wo, hwo⟩ : ∃ wo : World, wo = wr := ⟨_, rfl⟩
    subst hwo
    obtain ⟨a, j, nv, acc, lvs, rfl, rfl, ha, hja, hj, hsm, hg⟩ := hrel
    have HJA : Hid (j = 6 * acc.length) := hja
    have hal : acc.length ≤ 200000 := by omega
    have HSM : Hid (∀ k, k < acc.length → (Fl.nth acc k).list.length ≤ 20) := hsm
    have HG : Hid (Grow ls w1 wo (w.heap.size + 1) Q (.slice vao ls.length vcap) nv acc lvs) := hg
    have hz := hg.hz
    have hQw : w.heap.size ≤ wo.heap.size := by omega
    have HBR : Hid (Below w.heap.size w wo) := HB1.out.trans (hg.hb.mono (by omega))
    clear hg hsm hja
    by_cases hlt : j + 5 < nums.length
    · have hlt' : (j : Int) + 5 < (nums.length : Int) := by omega
      obtain ⟨b, off, rfl⟩ : ∃ b off, na = some ⟨b, off, none⟩ := by
        obtain ⟨b, off, h, _⟩ := HN.out.at (i := j) (by omega)
        exact ⟨b, off, h⟩
      have hcell : ∀ t, t < 6 → b < B ∧ wo.cell? ⟨b, off + (j + t), none⟩ = some (.int .i64 (nums.getD (j + t) 0)) := fun t ht => by
        obtain ⟨b', off', h, hb', hc⟩ := (HN.out.below (HBR.out.mono hB)).at (i := j + t) (by omega)
        simp only [Option.some.injEq, Addr.mk.injEq] at h
        obtain ⟨rfl, rfl, _⟩ := h
        exact ⟨hb', hc⟩
      obtain ⟨x0, hx0⟩ : ∃ x, x = nums.getD j 0 := ⟨_, rfl⟩
      obtain ⟨x1, hx1⟩ : ∃ x, x = nums.getD (j + 1) 0 := ⟨_, rfl⟩
      obtain ⟨x2, hx2⟩ : ∃ x, x = nums.getD (j + 2) 0 := ⟨_, rfl⟩
      obtain ⟨x3, hx3⟩ : ∃ x, x = nums.getD (j + 3) 0 := ⟨_, rfl⟩
      obtain ⟨x4, hx4⟩ : ∃ x, x = nums.getD (j + 4) 0 := ⟨_, rfl⟩
      obtain ⟨x5, hx5⟩ : ∃ x, x = nums.getD (j + 5) 0 := ⟨_, rfl⟩
      have HX5 : Hid (-9223372036854775808 ≤ x5 ∧ x5 ≤ 9223372036854775807) := HR.out x5 (by rw [hx5]; exact getD_mem (by omega))
      have c0 : wo.cell? ⟨b, off + j, none⟩ = some (.int .i64 x0) := by rw [hx0]; exact (hcell 0 (by omega)).2
      have c1 : wo.cell? ⟨b, off + (j + 1), none⟩ = some (.int .i64 x1) := by rw [hx1]; exact (hcell 1 (by omega)).2
      have c2 : wo.cell? ⟨b, off + (j + 2), none⟩ = some (.int .i64 x2) := by rw [hx2]; exact (hcell 2 (by omega)).2
      have c3 : wo.cell? ⟨b, off + (j + 3), none⟩ = some (.int .i64 x3) := by rw [hx3]; exact (hcell 3 (by omega)).2
      have c4 : wo.cell? ⟨b, off + (j + 4), none⟩ = some (.int .i64 x4) := by rw [hx4]; exact (hcell 4 (by omega)).2
      have c5 : wo.cell? ⟨b, off + (j + 5), none⟩ = some (.int .i64 x5) := by rw [hx5]; exact (hcell 5 (by omega)).2
      have hbB : b < wo.heap.size := by have := (hcell 0 (by omega)).1; omega
      obtain ⟨S, hS⟩ : ∃ S : World → Prop, S = fun w' => w'.cell? ⟨b, off + j, none⟩ = some (.int .i64 x0) ∧ w'.cell? ⟨b, off + (j + 1), none⟩ = some (.int .i64 x1) ∧ w'.cell? ⟨b, off + (j + 2), none⟩ = some (.int .i64 x2) ∧ w'.cell? ⟨b, off + (j + 3), none⟩ = some (.int .i64 x3) ∧ w'.cell? ⟨b, off + (j + 4), none⟩ = some (.int .i64 x4) := ⟨_, rfl⟩
      have HS : Hid (∀ w', S w' → w'.cell? ⟨b, off + j, none⟩ = some (.int .i64 x0) ∧ w'.cell? ⟨b, off + (j + 1), none⟩ = some (.int .i64 x1) ∧ w'.cell? ⟨b, off + (j + 2), none⟩ = some (.int .i64 x2) ∧ w'.cell? ⟨b, off + (j + 3), none⟩ = some (.int .i64 x3) ∧ w'.cell? ⟨b, off + (j + 4), none⟩ = some (.int .i64 x4)) := fun w' h => by rw [hS] at h; exact h
      have HS0 : Hid (∀ o, S (wo.drew.alloc o)) := fun o => by
        have hl0 : b < wo.drew.heap.size := hbB
        rw [hS]; exact ⟨(World.cell?_alloc_past _ _ _ hl0).trans c0, (World.cell?_alloc_past _ _ _ hl0).trans c1, (World.cell?_alloc_past _ _ _ hl0).trans c2, (World.cell?_alloc_past _ _ _ hl0).trans c3, (World.cell?_alloc_past _ _ _ hl0).trans c4⟩
      have hSw : S wo.drew := by rw [hS]; exact ⟨c0, c1, c2, c3, c4⟩
      have j0 : (j : Int) < (nums.length : Int) := by omega
      have j1 : (j : Int) + 1 < (nums.length : Int) := by omega
      have j2 : (j : Int) + 2 < (nums.length : Int) := by omega
      have j3 : (j : Int) + 3 < (nums.length : Int) := by omega
      have j4 : (j : Int) + 4 < (nums.length : Int) := by omega
      have m1 : IntKind.i64.wrap ((j : Int) + 1) = (j : Int) + 1 := by simp [IntKind.wrap, IntKind.bits, IntKind.signed]; omega
      have m2 : IntKind.i64.wrap ((j : Int) + 2) = (j : Int) + 2 := by simp [IntKind.wrap, IntKind.bits, IntKind.signed]; omega
      have m3 : IntKind.i64.wrap ((j : Int) + 3) = (j : Int) + 3 := by simp [IntKind.wrap, IntKind.bits, IntKind.signed]; omega
      have m4 : IntKind.i64.wrap ((j : Int) + 4) = (j : Int) + 4 := by simp [IntKind.wrap, IntKind.bits, IntKind.signed]; omega
      have n1 : (0 : Int) ≤ (j : Int) + 1 := by omega
      have t1 : ((j : Int) + 1).toNat = j + 1 := by omega
      have n2 : (0 : Int) ≤ (j : Int) + 2 := by omega
      have t2 : ((j : Int) + 2).toNat = j + 2 := by omega
      have n3 : (0 : Int) ≤ (j : Int) + 3 := by omega
      have t3 : ((j : Int) + 3).toNat = j + 3 := by omega
      have n4 : (0 : Int) ≤ (j : Int) + 4 := by omega
      have t4 : ((j : Int) + 4).toNat = j + 4 := by omega
      clear hcell hx0 hx1 hx2 hx3 hx4 hx5 hS c0 c1 c2 c3 c4
      go_wp2_with fail
      refine wp_region_alloc (S := S) 25 (by kernel_rfl) (by kernel_rfl) rfl (fun c a d v w h => by cases d <;> exact h) _ _ rfl rfl rfl rfl hSw ?_
      clear hSw
      simp only [List.take_succ_cons, List.take_zero]
      refine wpHeld_hide (fun L HL => ?_)
      repeat
        refine wpHeld_step rfl (fun K hK => ?_)
        apply Exists.intro
        refine ⟨fun w' hw => ?_, ?_⟩
        · obtain ⟨s0, s1, s2, s3, s4⟩ := HS.out w' hw
          go_simp
          try with_reducible rfl
        go_simp
        refine hK _ ?_
        clear hK K
      refine HL.out _ ⟨.pointer (some ⟨wo.drew.heap.size, 0, none⟩), wo.drew.alloc (.cells #[.int .i64 0, .int .i64 0, .int .i64 0, .int .i64 0, .int .i64 0, .slice none 0 0] 46), wo.drew.alloc (.cells #[.int .i64 x0, .int .i64 x1, .int .i64 x2, .int .i64 x3, .int .i64 x4, .slice none 0 0] 46), by kernel_rfl, HS0.out _, exec_store_new _ _ 46 rfl _ _ _ rfl rfl Tryd.infoNode6 rfl (by kernel_rfl), HS0.out _, ?_⟩
      clear HL m1 m2 m3 m4 n1 n2 n3 n4 t1 t2 t3 t4 j0 j1 j2 j3 j4
      obtain ⟨N, hN⟩ : ∃ N, N = wo.heap.size := ⟨_, rfl⟩
      obtain ⟨W1, hW1⟩ : ∃ W1, W1 = wo.drew.alloc (.cells #[.int .i64 x0, .int .i64 x1, .int .i64 x2, .int .i64 x3, .int .i64 x4, .slice none 0 0] 46) := ⟨_, rfl⟩
      rw [← hW1]
      have hdz : wo.drew.heap.size = N := hN.symm
      rw [hdz]
      have hz1 : W1.heap.size = N + 1 := by rw [hW1, World.size_alloc, hdz]
      have hbW : Below N wo W1 := by rw [hW1, hN]; exact ((Below.refl _ wo).drew).alloc (Nat.le_refl _) _
      have hrowN : W1.heap[N]? = some (.cells #[.int .i64 x0, .int .i64 x1, .int .i64 x2, .int .i64 x3, .int .i64 x4, .slice none 0 0] 46 (0, 0)) := by
        have := heap_alloc_new wo.drew (.cells #[.int .i64 x0, .int .i64 x1, .int .i64 x2, .int .i64 x3, .int .i64 x4, .slice none 0 0] 46)
        rw [hdz] at this; rw [hW1]; exact this
      have c5' : W1.cell? ⟨b, off + (j + 5), none⟩ = some (.int .i64 x5) := (hbW.cell (p := ⟨b, off + (j + 5), none⟩) (by simp only; omega)).trans c5
      have HBW : Hid (Below N wo W1) := hbW
      have HROWN : Hid (W1.heap[N]? = some (.cells #[.int .i64 x0, .int .i64 x1, .int .i64 x2, .int .i64 x3, .int .i64 x4, .slice none 0 0] 46 (0, 0))) := hrowN
      have HN2 : Hid (N = wo.heap.size) := hN
      have hQN : Q < N := by omega
      have hwN : w.heap.size ≤ N := by omega
      have HPK : Hid (Calls Tryd.prog 14 #[.int .i64 x5, .int .i64 20] W1 fun e w' => ∃ k : Nat, k < 20 ∧ e = .returned (.int .i64 k) ∧ Below W1.heap.size W1 w') := pick_any x5 HX5.out W1
      clear c5 hW1 hbW hrowN hN hdz HS HS0 S
      go_wp2_with fail
      refine (HPK.out).mono ?_
      rintro e w2 ⟨k0, hk0, rfl, hb2⟩
      have hz2 : N < w2.heap.size := by have := hb2.size; omega
      have hrow2 : w2.heap[N]? = some (.cells #[.int .i64 x0, .int .i64 x1, .int .i64 x2, .int .i64 x3, .int .i64 x4, .slice none 0 0] 46 (0, 0)) := (hb2.block N (by omega)).trans HROWN.out
      have HB2 : Hid (Below N wo w2) := HBW.out.trans (hb2.mono (by omega))
      have HC2 : Hid ((∀ i, w2.cell? ⟨N, i, none⟩ = #[Value.int .i64 x0, .int .i64 x1, .int .i64 x2, .int .i64 x3, .int .i64 x4, .slice none 0 0][i]?) ∧ ∀ i, w2.frozen? ⟨N, i, none⟩ = false) := ⟨fun i => cell_of_row _ _ _ _ _ _ hrow2, fun i => by rw [World.frozen?, hrow2]; simp⟩
      clear hb2 HPK c5' hrow2
      go_wp2_with fail
      go_loopw [8, 11] (fun at_ k wz => ∃ (a' k' : Nat) (lvn : Value) (l : List Int), at_ = .int .i64 a' ∧ k = .int .i64 k' ∧ a' ≤ li.length ∧ l.length + k' ≤ 20 ∧ wz.ownsRow (N + 1) 3 1 lvn l.length (l.map (Value.int .i64)) ∧ (wz.cell? ⟨N, 0, none⟩ = some (.int .i64 x0) ∧ wz.cell? ⟨N, 1, none⟩ = some (.int .i64 x1) ∧ wz.cell? ⟨N, 2, none⟩ = some (.int .i64 x2) ∧ wz.cell? ⟨N, 3, none⟩ = some (.int .i64 x3) ∧ wz.cell? ⟨N, 4, none⟩ = some (.int .i64 x4) ∧ wz.cell? ⟨N, 5, none⟩ = some lvn) ∧ (∀ i, wz.frozen? ⟨N, i, none⟩ = false) ∧ Below N wo wz ∧ N < wz.heap.size) (fun _ k _ => (intOf k).toNat)
      case atStart => exact ⟨a, k0, .slice none 0 0, [], rfl, rfl, ha, by simp; omega, World.ownsRow_nil _ _ _ _, ⟨HC2.out.1 0, HC2.out.1 1, HC2.out.1 2, HC2.out.1 3, HC2.out.1 4, HC2.out.1 5⟩, HC2.out.2, HB2.out, hz2⟩
      case round =>
        clear HC2 hz2 hk0 ha
        obtain ⟨a', k', lvn, l, rfl, rfl, ha', hlk, hown, hcs, hfr, hbz, hzz⟩ := hrel
        obtain ⟨d0, d1, d2, d3, d4, d5⟩ := hcs
        obtain ⟨yao, ycap, rfl⟩ := own_shape6 hown
        have HOW : Hid (wr.ownsRow (N + 1) 3 1 (.slice yao l.length ycap) l.length (l.map (Value.int .i64))) := hown
        have HBZ : Hid (Below N wo wr) := hbz
        have HBB : Hid (Below B w wr) := (HBR.out.mono hB).trans (hbz.mono (by omega))
        clear hown hbz
        by_cases hgo : 0 < k' ∧ a' < li.length
        · obtain ⟨hk1, ha1⟩ := hgo
          have hk1' : (0 : Int) < (k' : Int) := by omega
          have ha1' : (a' : Int) < (li.length : Int) := by omega
          obtain ⟨ib, io, rfl, hibB, hic⟩ := (HI.out.below HBB.out).at ha1
          obtain ⟨y, hy⟩ : ∃ y, y = li.getD a' 0 := ⟨_, rfl⟩
          rw [← hy] at hic
          clear hy
          have HOD : Hid (∀ o, ((wr.alloc o).drew).ownsRow (N + 1) 3 1 (.slice yao l.length ycap) l.length (l.map (Value.int .i64))) := fun o => (HOW.out.alloc o).kept (row := none) ⟨rfl, rfl, rfl, Nat.le_refl _, fun _ _ _ => rfl⟩ (by cases (Value.slice yao l.length ycap).ownBlock <;> simp)
          have hneN : some N ≠ (Value.slice yao l.length ycap).ownBlock := fun hh => by have := (HOW.out.lt N hh.symm).1; omega
          have HST : Hid (∀ (o : Obj) (w3 : World), ((wr.alloc o).drew).grownBy w3 (Value.slice yao l.length ycap).ownBlock → (w3.cell? ⟨N, 0, none⟩ = some (.int .i64 x0) ∧ w3.cell? ⟨N, 1, none⟩ = some (.int .i64 x1) ∧ w3.cell? ⟨N, 2, none⟩ = some (.int .i64 x2) ∧ w3.cell? ⟨N, 3, none⟩ = some (.int .i64 x3) ∧ w3.cell? ⟨N, 4, none⟩ = some (.int .i64 x4) ∧ w3.cell? ⟨N, 5, none⟩ = some (.slice yao l.length ycap) ∧ Below N wo w3 ∧ N < w3.heap.size) ∧ ∀ o, w3.frozen? ⟨N, o, none⟩ = false) := fun o w3 hg3 => by
            have hzo : ((wr.alloc o).drew).heap.size = wr.heap.size + 1 := World.size_alloc wr o
            have gc : ∀ q, w3.cell? ⟨N, q, none⟩ = wr.cell? ⟨N, q, none⟩ := fun q => (World.cell?_of_block (w := (wr.alloc o).drew) (hg3.block N (by omega) hneN)).trans (World.cell?_alloc_lt wr _ _ hzz)
            refine ⟨⟨(gc 0).trans d0, (gc 1).trans d1, (gc 2).trans d2, (gc 3).trans d3, (gc 4).trans d4, (gc 5).trans d5, ((HBZ.out.alloc (Nat.le_of_lt hzz) o).drew).grown hg3 (by omega) (fun g hg => by have := (HOW.out.lt g hg).1; omega), ?_⟩, fun q => ?_⟩
            · have := hg3.size; omega
            · exact (World.frozen?_of_block (w := (wr.alloc o).drew) (hg3.block N (by omega) hneN)).trans ((World.frozen?_alloc_old wr _ _ (Nat.ne_of_lt hzz)).trans (hfr q))
          clear hneN hfr d0 d1 d2 d3 d4
          go_wp2_with fail
          refine wp_region_forkc [0, 2, 3, 4] 1 5 1 6 [5, 6, 7, 8, 9] [6, 7, 8, 9] [1, 7, 8, 9] (by kernel_rfl) (by kernel_rfl) rfl rfl rfl [_, _, _, _] _ _ _ _ [_, _, _, _, _] [_, _, _, _] [_, _, _, _] rfl rfl rfl rfl rfl rfl rfl rfl (fun c a d v w h => by cases d <;> exact h) ?_
          refine wpHeld_hide (fun L HL => ?_)
          repeat
            refine wpHeld_step rfl (fun K hK => ?_)
            apply Exists.intro
            refine ⟨fun w' _ => ?_, ?_⟩
            · go_simp
              try with_reducible rfl
            go_simp
            refine hK _ ?_
            clear hK K
          refine HL.out _ ⟨?_, ?_⟩
          · clear HL
            simp only [List.getElem_toArray, List.getElem_cons_succ, List.getElem_cons_zero]
            go_wp2_with (at_builtin; refine wpList_append_own _ rfl _ _ 22 rfl (N + 1) 3 i0 (.int .i64 0) 1 8 Tryd.underlying22 hi0 hz0 hzs hzb rfl (by decide) _ _ _ rfl (HOD.out _) ⟨_, 0, none⟩ 1 1 [.int .i64 y] rfl rfl (fun j u h => one_cell_new (w := wr) j u h) ?c2 ?c3 ?c4 ?c5 ?_)
            case c2 => intro u hu; simp at hu; subst hu; rfl
            case c3 => unfold maxLen; omega
            case c4 => omega
            case c5 => simp; omega
            intro v3 w3 ho3 hg3 _
            obtain ⟨zao, zcap, rfl⟩ := own_shape6 ho3
            obtain ⟨hr3, gf⟩ := HST.out _ w3 hg3
            obtain ⟨e0, e1, e2, e3, e4, e5, hb3, hz3⟩ := hr3
            have HB3 : Hid (Below N wo w3) := hb3
            have HO3 : Hid (w3.ownsRow (N + 1) 3 1 (.slice zao (l.length + 1) zcap) (l ++ [y]).length ((l ++ [y]).map (Value.int .i64))) := by
              show World.ownsRow _ _ _ _ _ _ _
              simpa using ho3
            clear ho3 hg3 hb3
            go_wp2
            refine ⟨⟨a' + 1, k' - 1, .slice zao (l.length + 1) zcap, l ++ [y], by go_num, ?_, by omega, by simp; omega, ownsRow_setCell_below HO3.out (by simp) _, ⟨(cell_off (by decide)).trans e0, (cell_off (by decide)).trans e1, (cell_off (by decide)).trans e2, (cell_off (by decide)).trans e3, (cell_off (by decide)).trans e4, cell_self e5⟩, fun i => by rw [World.frozen?_setCell]; exact gf i, HB3.out.setCell (by simp) _, by simpa [World.setCell] using hz3⟩, by simp [intOf]; omega⟩
            congr 1; omega
          · clear HL
            simp only [List.getElem_toArray, List.getElem_cons_succ, List.getElem_cons_zero]
            go_wp2_with fail
            refine ⟨?_, ?_⟩
            · skip
              go_wp2_with (at_builtin; refine wpList_append_own _ rfl _ _ 22 rfl (N + 1) 3 i0 (.int .i64 0) 1 8 Tryd.underlying22 hi0 hz0 hzs hzb rfl (by decide) _ _ _ rfl (HOD.out _) ⟨_, 0, none⟩ 1 1 [.int .i64 y] rfl rfl (fun j u h => one_cell_new (w := wr) j u h) ?d2 ?d3 ?d4 ?d5 ?_)
              case d2 => intro u hu; simp at hu; subst hu; rfl
              case d3 => unfold maxLen; omega
              case d4 => omega
              case d5 => simp; omega
              intro v3 w3 ho3 hg3 _
              obtain ⟨zao, zcap, rfl⟩ := own_shape6 ho3
              obtain ⟨hr3, gf⟩ := HST.out _ w3 hg3
              obtain ⟨e0, e1, e2, e3, e4, e5, hb3, hz3⟩ := hr3
              have HB3 : Hid (Below N wo w3) := hb3
              have HO3 : Hid (w3.ownsRow (N + 1) 3 1 (.slice zao (l.length + 1) zcap) (l ++ [y]).length ((l ++ [y]).map (Value.int .i64))) := by
                show World.ownsRow _ _ _ _ _ _ _
                simpa using ho3
              clear ho3 hg3 hb3
              go_wp2
              refine ⟨⟨a' + 1, k' - 1, .slice zao (l.length + 1) zcap, l ++ [y], by go_num, ?_, by omega, by simp; omega, ownsRow_setCell_below HO3.out (by simp) _, ⟨(cell_off (by decide)).trans e0, (cell_off (by decide)).trans e1, (cell_off (by decide)).trans e2, (cell_off (by decide)).trans e3, (cell_off (by decide)).trans e4, cell_self e5⟩, fun i => by rw [World.frozen?_setCell]; exact gf i, HB3.out.setCell (by simp) _, by simpa [World.setCell] using hz3⟩, by simp [intOf]; omega⟩
              congr 1; omega
            · skip
              go_wp2_with (at_builtin; refine wpList_append_own _ rfl _ _ 22 rfl (N + 1) 3 i0 (.int .i64 0) 1 8 Tryd.underlying22 hi0 hz0 hzs hzb rfl (by decide) _ _ _ rfl (HOD.out _) ⟨_, 0, none⟩ 1 1 [.int .i64 y] rfl rfl (fun j u h => one_cell_new (w := wr) j u h) ?e2 ?e3 ?e4 ?e5 ?_)
              case e2 => intro u hu; simp at hu; subst hu; rfl
              case e3 => unfold maxLen; omega
              case e4 => omega
              case e5 => simp; omega
              intro v3 w3 ho3 hg3 _
              obtain ⟨zao, zcap, rfl⟩ := own_shape6 ho3
              obtain ⟨hr3, gf⟩ := HST.out _ w3 hg3
              obtain ⟨e0, e1, e2, e3, e4, e5, hb3, hz3⟩ := hr3
              have HB3 : Hid (Below N wo w3) := hb3
              have HO3 : Hid (w3.ownsRow (N + 1) 3 1 (.slice zao (l.length + 1) zcap) (l ++ [y]).length ((l ++ [y]).map (Value.int .i64))) := by
                show World.ownsRow _ _ _ _ _ _ _
                simpa using ho3
              clear ho3 hg3 hb3
              go_wp2
              refine ⟨⟨a' + 1, k' - 1, .slice zao (l.length + 1) zcap, l ++ [y], by go_num, ?_, by omega, by simp; omega, ownsRow_setCell_below HO3.out (by simp) _, ⟨(cell_off (by decide)).trans e0, (cell_off (by decide)).trans e1, (cell_off (by decide)).trans e2, (cell_off (by decide)).trans e3, (cell_off (by decide)).trans e4, cell_self e5⟩, fun i => by rw [World.frozen?_setCell]; exact gf i, HB3.out.setCell (by simp) _, by simpa [World.setCell] using hz3⟩, by simp [intOf]; omega⟩
              congr 1; omega
        · have HG1 : Hid (Grow ls w1 wr (w.heap.size + 1) Q (.slice vao ls.length vcap) nv acc lvs) := HG.out.below (by rw [← HN2.out]; exact HBZ.out)
          obtain ⟨nao, ncap, rfl⟩ := own_shape6 HG1.out.hn
          have q1 := HG1.out.c1
          have qf := HG1.out.fq
          have hQz : Q < wr.heap.size := HG1.out.hz
          have hbA : Below wo.heap.size wo (wr.alloc (.cells #[.int .i64 x0, .int .i64 x1, .int .i64 x2, .int .i64 x3, .int .i64 x4, .slice yao l.length ycap] 46)) := by rw [← HN2.out]; exact HBZ.out.alloc (by omega) _
          have GA : Hid (Grow ls w1 (wr.alloc (.cells #[.int .i64 x0, .int .i64 x1, .int .i64 x2, .int .i64 x3, .int .i64 x4, .slice yao l.length ycap] 46)) (w.heap.size + 1) Q (.slice vao ls.length vcap) (.slice nao acc.length ncap) acc lvs) := HG.out.below hbA
          have HPU : Hid (∀ (v3 : Value) (w3 : World), w3.ownsRow (Q + 1) 46 6 v3 (acc.length + 1) (flat acc lvs ++ nodeCells ⟨x0, x1, x2, x3, x4, l⟩ (.slice yao l.length ycap)) → (wr.alloc (.cells #[.int .i64 x0, .int .i64 x1, .int .i64 x2, .int .i64 x3, .int .i64 x4, .slice yao l.length ycap] 46)).grownBy w3 (Value.slice nao acc.length ncap).ownBlock → (v3.ownBlock = (Value.slice nao acc.length ncap).ownBlock ∨ v3.ownBlock = some (wr.heap.size + 1)) →
              w3.cell? ⟨Q, 1, none⟩ = some (.slice nao acc.length ncap) ∧ (∀ o, w3.frozen? ⟨Q, o, none⟩ = false) ∧ Grow ls w1 (w3.setCell ⟨Q, 1, none⟩ v3) (w.heap.size + 1) Q (.slice vao ls.length vcap) v3 (acc ++ [⟨x0, x1, x2, x3, x4, l⟩]) (lvs ++ [.slice yao l.length ycap])) := fun v3 w3 ho3 hg3 hw3 => by
            have hne : some Q ≠ (Value.slice nao acc.length ncap).ownBlock := fun hh => by have := (HG.out.hn.lt Q hh.symm).1; omega
            refine ⟨hg3.cell GA.out.c1 hne, fun o => (World.frozen?_of_block (hg3.block Q GA.out.hz hne)).trans (GA.out.fq o), ?_⟩
            exact HG.out.push (nd := ⟨x0, x1, x2, x3, x4, l⟩) hbA (ints_alloc (IntsAt.of_own HOW.out) _) (fun b hb => by have := (HOW.out.lt b hb).1; have := HN2.out; omega) ho3 hg3 (by rw [World.size_alloc]; exact hw3)
          have HLS : Hid (∀ k, k < (acc ++ [(⟨x0, x1, x2, x3, x4, l⟩ : Fl.Node)]).length → (Fl.nth (acc ++ [⟨x0, x1, x2, x3, x4, l⟩]) k).list.length ≤ 20) := fun k hk => by
            by_cases hka : k < acc.length
            · have := HSM.out k hka
              rw [show Fl.nth (acc ++ [(⟨x0, x1, x2, x3, x4, l⟩ : Fl.Node)]) k = Fl.nth acc k from by simp [Fl.nth, List.getD_eq_getElem?_getD, List.getElem?_append, hka]]
              exact this
            · have hke : k = acc.length := by simp at hk; omega
              rw [hke, show Fl.nth (acc ++ [(⟨x0, x1, x2, x3, x4, l⟩ : Fl.Node)]) acc.length = ⟨x0, x1, x2, x3, x4, l⟩ from by simp [Fl.nth, List.getD_eq_getElem?_getD]]
              show l.length ≤ 20
              omega
          clear hbA HG1
          by_cases hk1 : 0 < k'
          · have hk1' : (0 : Int) < (k' : Int) := by omega
            have ha1' : ¬ (a' : Int) < (li.length : Int) := by omega
            clear hgo
            go_wp2_with (at_builtin; refine wpList_append_at _ rfl (.tmp 75) (.tmp 77) 23 rfl (Q + 1) 46 i1 (.agg #[.int .i64 0, .int .i64 0, .int .i64 0, .int .i64 0, .int .i64 0, .slice none 0 0]) 6 64 Tryd.underlying23 hi1 hy0 hy1 hyb rfl (by decide) _ _ _ rfl GA.out.hn ⟨_, 0, none⟩ 1 1 (nodeCells ⟨x0, x1, x2, x3, x4, l⟩ (.slice yao l.length ycap)) rfl rfl (by decide) (row_new (w := wr) (nodeCells ⟨x0, x1, x2, x3, x4, l⟩ (.slice yao l.length ycap))) ?f2 ?f3 ?f4 ?f5 ?_)
            case f2 => intro u hu; simp only [nodeCells, List.mem_cons, List.not_mem_nil, or_false] at hu; rcases hu with rfl | rfl | rfl | rfl | rfl | rfl <;> rfl
            case f3 => unfold maxLen; omega
            case f4 => omega
            case f5 => omega
            intro v3 w3 ho3 hg3 hw3
            obtain ⟨zao, zcap, rfl⟩ := own_shape6 ho3
            obtain ⟨z1, zf, hpush⟩ := HPU.out _ w3 ho3 hg3 hw3
            have HPP : Hid (Grow ls w1 (w3.setCell ⟨Q, 1, none⟩ (.slice zao (acc.length + 1) zcap)) (w.heap.size + 1) Q (.slice vao ls.length vcap) (.slice zao (acc.length + 1) zcap) (acc ++ [⟨x0, x1, x2, x3, x4, l⟩]) (lvs ++ [.slice yao l.length ycap])) := hpush
            clear ho3 hg3 hw3 hpush q1 qf d0 d1 d2 d3 d4 d5
            go_wp2
            refine ⟨⟨a', j + 6, _, _, _, by go_num, by go_num, ha', by rw [HJA.out]; simp; omega, by omega, HLS.out, HPP.out⟩, by simp [intOf]; omega⟩
          · have hk1' : ¬ (0 : Int) < (k' : Int) := by omega
            clear hgo
            go_wp2_with (at_builtin; refine wpList_append_at _ rfl (.tmp 75) (.tmp 77) 23 rfl (Q + 1) 46 i1 (.agg #[.int .i64 0, .int .i64 0, .int .i64 0, .int .i64 0, .int .i64 0, .slice none 0 0]) 6 64 Tryd.underlying23 hi1 hy0 hy1 hyb rfl (by decide) _ _ _ rfl GA.out.hn ⟨_, 0, none⟩ 1 1 (nodeCells ⟨x0, x1, x2, x3, x4, l⟩ (.slice yao l.length ycap)) rfl rfl (by decide) (row_new (w := wr) (nodeCells ⟨x0, x1, x2, x3, x4, l⟩ (.slice yao l.length ycap))) ?g2 ?g3 ?g4 ?g5 ?_)
            case g2 => intro u hu; simp only [nodeCells, List.mem_cons, List.not_mem_nil, or_false] at hu; rcases hu with rfl | rfl | rfl | rfl | rfl | rfl <;> rfl
            case g3 => unfold maxLen; omega
            case g4 => omega
            case g5 => omega
            intro v3 w3 ho3 hg3 hw3
            obtain ⟨zao, zcap, rfl⟩ := own_shape6 ho3
            obtain ⟨z1, zf, hpush⟩ := HPU.out _ w3 ho3 hg3 hw3
            have HPP : Hid (Grow ls w1 (w3.setCell ⟨Q, 1, none⟩ (.slice zao (acc.length + 1) zcap)) (w.heap.size + 1) Q (.slice vao ls.length vcap) (.slice zao (acc.length + 1) zcap) (acc ++ [⟨x0, x1, x2, x3, x4, l⟩]) (lvs ++ [.slice yao l.length ycap])) := hpush
            clear ho3 hg3 hw3 hpush q1 qf d0 d1 d2 d3 d4 d5
            go_wp2
            refine ⟨⟨a', j + 6, _, _, _, by go_num, by go_num, ha', by rw [HJA.out]; simp; omega, by omega, HLS.out, HPP.out⟩, by simp [intOf]; omega⟩
    · have hlt' : ¬ (j : Int) + 5 < (nums.length : Int) := by omega
      obtain ⟨nao, ncap, rfl⟩ := own_shape6 HG.out.hn
      have q0 := HG.out.c0
      have q1 := HG.out.c1
      have hres : wo.heap[w.heap.size]? = some (.cells #[.slice none 0 0, .slice none 0 0] 25 (0, 0)) := (HG.out.hb.block _ hSQ).trans HROW.out
      have s0 : wo.cell? ⟨w.heap.size, 0, none⟩ = some (.slice none 0 0) := (cell_of_row _ _ _ _ _ _ hres).trans rfl
      have s1 : wo.cell? ⟨w.heap.size, 1, none⟩ = some (.slice none 0 0) := (cell_of_row _ _ _ _ _ _ hres).trans rfl
      have sf : ∀ i, wo.frozen? ⟨w.heap.size, i, none⟩ = false := fun i => by rw [World.frozen?, hres]; simp
      clear hres
      go_wp2
      obtain ⟨t0, t1⟩ := two_same (w1 := wo) (B := w.heap.size) (.slice vao ls.length vcap) (.slice nao acc.length ncap) s0 s1
      exact bodyPost_ret (v := .agg #[.slice vao ls.length vcap, .slice nao acc.length ncap]) (by simp [results, Tryd.results7, go_sem, t0, t1]) rfl ⟨acc, _, _, rfl, (HG.out.ret (by omega) _ _).1, (HG.out.ret (by omega) _ _).2, (HBR.out.setCell (by simp) _).setCell (by simp) _, by omega, fun k hk => by have := HSM.out k hk; omega⟩
end Go.Proofs.YticlmjkfadklgaaDoor
