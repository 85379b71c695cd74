/- Texts CeHeld3 Lnh Cde CdNd. -/
import Derived.Test.YtbihjgfbocpobaaGreatDoorM15
/- As CeHeld, with three operations that wait. -/
set_option linter.unusedSimpArgs false
set_option linter.unusedVariables false
namespace Go.Proofs.YtbihjgfbocpobaaGreatDoor
open Go.RowKit
section
variable {P : Program} {Q : Exit → Act → World → Prop} {S : World → Prop}
theorem wp_region_heldG3 {id : Nat} {a : Act} {w : World} {l : List Oper} (S : World → Prop) (σ : List Nat) (t1 t2 t3 : Nat) (G : List (Nat × Nat)) (hm : P.follows .mixedOrders = true)
    (hB : (Region.noSelect l.toArray && (headsB l.toArray [] σ && (decide (Region.ready .any l.toArray (doneBy l.toArray.size σ) = [t1]) && (decide (Region.ready .any l.toArray (doneBy l.toArray.size (σ ++ [t1])) = [t2]) && (decide (Region.ready .any l.toArray (doneBy l.toArray.size (σ ++ [t1] ++ [t2])) = [t3]) && (decide (Region.ready .any l.toArray (doneBy l.toArray.size (σ ++ [t1] ++ [t2] ++ [t3])) = []) && G.all (fun p => decide (((l.toArray[p.1]?).bind fun x => x.dst) = some p.2)))))))) = true)
    (hlen : l.length = 3 + σ.length) (so : List Oper) (o1 o2 o3 : Oper) (hso : σ.map (fun i => l.toArray[i]?) = so.map some) (h1 : l.toArray[t1]? = some o1) (h2 : l.toArray[t2]? = some o2) (h3 : l.toArray[t3]? = some o3)
    (hQ : ∀ c a d v w, Q (.panic c) (Act.put a d v) w → Q (.panic c) a w) (hS : S w.drew)
    (h : ∀ ops : Array Oper, (∀ p ∈ G, ((ops[p.1]?).bind fun x => x.dst) = some p.2) → wpHeldG P ops S (fun a' => wpList P ops (Exit.then (fun a1 w1 => S w1 ∧ wpList P ops (Exit.then (fun a2 w2 => S w2 ∧ wpList P ops (Exit.then (fun a3 w3 => S w3 ∧ Q .normal a3 w3) Q) [o3] a2 w2) Q) [o2] a1 w1) Q) [o1] a' w.drew) so a) : (Code.region id l.toArray true).wp P Q a w := by
  simp only [Bool.and_eq_true, decide_eq_true_eq, List.all_eq_true] at hB
  obtain ⟨hs, hh, r1, r2, r3, r4, hG⟩ := hB
  refine wp_region_held (S := S) hm ?_
  have key := heldG_heads (P := P) (Q := Q) (S := S) (ops := l.toArray) (f := 3) (w := w.drew) hs hQ hS σ so [] a hso hh ?_
  · have e : l.toArray.size = 3 + σ.length := by simp [hlen]
    rw [← e] at key; simpa [doneBy] using key
  · refine heldG_mono (fun a' h' => ?_) _ _ (h l.toArray hG)
    refine wpAnyH_all (rs := [t1]) (by simpa using r1) (by simp) (fun x hx => ?_)
    simp only [List.mem_singleton] at hx
    subst hx
    refine wpOp_mono (fun a1 w1 hk => ⟨hk.1, ?_⟩) (op_then h1 h')
    have e : (doneBy l.toArray.size ([] ++ σ)).setIfInBounds x true = doneBy l.toArray.size (σ ++ [x]) := by rw [doneBy_snoc]; rfl
    rw [e]
    refine wpAnyH_all (rs := [t2]) r2 (by simp) (fun y hy => ?_)
    simp only [List.mem_singleton] at hy
    subst hy
    refine wpOp_mono (fun a2 w2 hk2 => ⟨hk2.1, ?_⟩) (op_then h2 hk.2)
    have e2 : (doneBy l.toArray.size (σ ++ [x])).setIfInBounds y true = doneBy l.toArray.size (σ ++ [x] ++ [y]) := (doneBy_snoc _ _ _).symm
    rw [e2]
    refine wpAnyH_all (rs := [t3]) r3 (by simp) (fun z hz => ?_)
    simp only [List.mem_singleton] at hz
    subst hz
    refine wpOp_mono (fun a3 w3 hk3 => ⟨hk3.1, ?_⟩) (op_then h3 hk2.2)
    have e3 : (doneBy l.toArray.size (σ ++ [x] ++ [y])).setIfInBounds z true = doneBy l.toArray.size (σ ++ [x] ++ [y] ++ [z]) := (doneBy_snoc _ _ _).symm
    rw [e3]
    exact wpAnyH_done r4 hk3.2 0
end
end Go.Proofs.YtbihjgfbocpobaaGreatDoor

/- The program's readNode. -/
set_option linter.unusedSimpArgs false
set_option linter.unusedVariables false
namespace Go.Proofs.YtbihjgfbocpobaaGreatDoor
open Go.RowKit

set_option maxRecDepth 100000 in
set_option maxHeartbeats 4000000 in
theorem readNode_short (P T : Nat) (ws : List (List UInt8)) (b cap : Nat) (w : World) (hl : ws.length < 3) :
    Calls Tryz.prog 54 #[.pointer (some ⟨P, 0, none⟩), .pointer (some ⟨T, 0, none⟩), .slice (some ⟨b, 0, none⟩) ws.length cap] w fun e w' => e = .returned (.bool false) ∧ w' = w.drew := by
  have h3I : (ws.length : Int) < 3 := by omega
  go_enter Tryz.func54, Tryz.ntmps54
  go_wp2_with fail
  refine wp_region_heldG3 (fun W => True) [0, 1, 2, 3, 4, 5, 6, 7, 8, 9, 10, 11] 12 13 14 [(3, 17)] (by kernel_rfl) (by kernel_rfl) rfl [_, _, _, _, _, _, _, _, _, _, _, _] _ _ _ rfl rfl rfl rfl (fun c a d v w h => by cases d <;> exact h) trivial (fun ops hG => ?_)
  have g1 := hG (3, 17) (by simp)
  simp only at g1
  clear hG
  repeat
    first
    | (refine heldG_plain rfl (fun K hK => ?_)
       apply Exists.intro
       refine ⟨fun w' hw' => ?_, ?_⟩
       · go_simp
         try with_reducible rfl
       go_simp
       refine hK _ ?_
       clear hK K)
    | (refine heldG_skip rfl (c := true) (by simp [yielded, g1, Act.put]) (by decide) ?_
       simp only [List.getElem_toArray, List.getElem_cons_succ, List.getElem_cons_zero])
  refine heldG_nil ?_
  simp only [Act.put]
  refine wpList_skip (by simp [Region.wanted, yielded, g1]) ?_
  go_wp2_with fail
  refine ⟨trivial, ?_⟩
  refine wpList_skip (by simp [Region.wanted, yielded, g1, Act.put]) ?_
  go_wp2_with fail
  refine ⟨trivial, ?_⟩
  clear g1
  go_wp2_with fail
  refine ⟨trivial, ?_⟩
  go_wp2
  go_ret
  exact ⟨rfl, rfl⟩
end Go.Proofs.YtbihjgfbocpobaaGreatDoor

/- The program: the nodes that a node is by. -/
set_option linter.unusedSimpArgs false
set_option linter.unusedVariables false
namespace Go.Proofs.YtbihjgfbocpobaaGreatDoor
open Go.RowKit

/-- A node in memory. -/
structure NodeAt (w : World) (nb no : Nat) (nd : Fl.Node) (lv : Value) : Prop where
  c0 : w.cell? ⟨nb, no, none⟩ = some (.int .i64 nd.kind)
  c1 : w.cell? ⟨nb, no + 1, none⟩ = some (.int .i64 nd.level)
  c2 : w.cell? ⟨nb, no + 2, none⟩ = some (.int .i64 nd.a)
  c3 : w.cell? ⟨nb, no + 3, none⟩ = some (.int .i64 nd.b)
  c4 : w.cell? ⟨nb, no + 4, none⟩ = some (.int .i64 nd.c)
  c5 : w.cell? ⟨nb, no + 5, none⟩ = some lv
  hl : IntsAt w.heap.size w lv nd.list
theorem NodeAt.below {w w' : World} {nb no : Nat} {nd : Fl.Node} {lv : Value} (h : NodeAt w nb no nd lv) (hb : Below w.heap.size w w') : NodeAt w' nb no nd lv := by
  have hn : nb < w.heap.size := World.block_lt_of_cell? w _ h.c0
  have q : ∀ o, w'.cell? ⟨nb, o, none⟩ = w.cell? ⟨nb, o, none⟩ := fun o => hb.cell (p := ⟨nb, o, none⟩) hn
  exact ⟨(q _).trans h.c0, (q _).trans h.c1, (q _).trans h.c2, (q _).trans h.c3, (q _).trans h.c4, (q _).trans h.c5, (h.hl.below hb).mono hb.size⟩

/-- Which function tells the nodes that a kind is by. -/
def byF (k : Int) : FuncId :=
  if k = 2 then 62 else if k = 3 then 61 else if k = 4 then 61 else if k = 5 then 63 else if k = 6 then 64 else if k = 7 then 65 else 60

def ByEnds (ps : List Int) (w : World) (e : Ending) (w' : World) : Prop := ∃ pv, e = .returned pv ∧ IntsAt w'.heap.size w' pv ps ∧ Below w.heap.size w w'

set_option maxRecDepth 100000 in
set_option maxHeartbeats 2000000 in
theorem by1 (v : Value) (w : World) : Calls Tryz.prog 60 #[v] w (ByEnds [] w) := by
  go_enter Tryz.func60, Tryz.ntmps60
  go_wp2
  go_ret
  exact ⟨_, rfl, IntsAt.nil _ _, Below.refl _ _⟩
theorem ByEnds.fresh (w : World) (xs : List Int) (e : TypeId) (hl : xs.length ≤ maxLen) : ByEnds xs w (.returned (.slice (some ⟨w.heap.size, 0, none⟩) xs.length xs.length)) (w.alloc (.cells (xs.map (Value.int .i64)).toArray e)) :=
  ⟨_, rfl, IntsAt.fresh xs e hl _ (by simp), (Below.refl _ _).alloc (Nat.le_refl _) _⟩
theorem ByEnds.freshD (w : World) (xs : List Int) (e : TypeId) (hl : xs.length ≤ maxLen) : ByEnds xs w (.returned (.slice (some ⟨w.heap.size, 0, none⟩) xs.length xs.length)) (w.alloc (.cells (xs.map (Value.int .i64)).toArray e)).drew := by
  obtain ⟨pv, h1, h2, h3⟩ := ByEnds.fresh w xs e hl
  exact ⟨pv, h1, h2.below ((Below.refl _ _).drew), h3.drew⟩
set_option maxRecDepth 100000 in
set_option maxHeartbeats 2000000 in
theorem by2 {w : World} {nb no : Nat} {nd : Fl.Node} {lv : Value} (h : NodeAt w nb no nd lv) : Calls Tryz.prog 61 #[.pointer (some ⟨nb, no, none⟩)] w (ByEnds [nd.b] w) := by
  have c3 := h.c3
  go_enter Tryz.func61, Tryz.ntmps61
  go_wp2
  go_ret
  exact ByEnds.fresh _ [nd.b] _ (by simp [maxLen])
set_option maxRecDepth 100000 in
set_option maxHeartbeats 2000000 in
theorem by3 {w : World} {nb no : Nat} {nd : Fl.Node} {lv : Value} (h : NodeAt w nb no nd lv) : Calls Tryz.prog 62 #[.pointer (some ⟨nb, no, none⟩)] w (ByEnds [nd.b, nd.c] w) := by
  have c3 := h.c3
  have c4 := h.c4
  go_enter Tryz.func62, Tryz.ntmps62
  go_wp2_with fail
  go_still_tail 8, (by kernel_rfl)
  go_wp2
  go_ret
  exact ByEnds.freshD _ [nd.b, nd.c] _ (by simp [maxLen])
set_option maxRecDepth 100000 in
set_option maxHeartbeats 2000000 in
theorem by4 {w : World} {nb no : Nat} {nd : Fl.Node} {lv : Value} (h : NodeAt w nb no nd lv) : Calls Tryz.prog 63 #[.pointer (some ⟨nb, no, none⟩)] w (ByEnds [nd.a, nd.b, nd.c] w) := by
  have c2 := h.c2
  have c3 := h.c3
  have c4 := h.c4
  go_enter Tryz.func63, Tryz.ntmps63
  go_wp2_with fail
  go_still_tail 12, (by kernel_rfl)
  go_wp2
  go_ret
  exact ByEnds.freshD _ [nd.a, nd.b, nd.c] _ (by simp [maxLen])
set_option maxRecDepth 100000 in
set_option maxHeartbeats 2000000 in
theorem by5 {w : World} {nb no : Nat} {nd : Fl.Node} {lv : Value} (h : NodeAt w nb no nd lv) : Calls Tryz.prog 64 #[.pointer (some ⟨nb, no, none⟩)] w (ByEnds [nd.a, nd.b] w) := by
  have c2 := h.c2
  have c3 := h.c3
  go_enter Tryz.func64, Tryz.ntmps64
  go_wp2_with fail
  go_still_tail 8, (by kernel_rfl)
  go_wp2
  go_ret
  exact ByEnds.freshD _ [nd.a, nd.b] _ (by simp [maxLen])
set_option maxRecDepth 100000 in
set_option maxHeartbeats 2000000 in
theorem by6 {w : World} {nb no : Nat} {nd : Fl.Node} {lv : Value} (h : NodeAt w nb no nd lv) : Calls Tryz.prog 65 #[.pointer (some ⟨nb, no, none⟩)] w (ByEnds nd.list w) := by
  have c5 := h.c5
  have HL : Hid (IntsAt w.heap.size w lv nd.list) := h.hl
  obtain ⟨ao, cap, rfl, _⟩ := h.hl
  clear h
  go_enter Tryz.func65, Tryz.ntmps65
  go_wp2
  go_ret
  exact ⟨_, rfl, HL.out, Below.refl _ _⟩
theorem by_any {w : World} {nb no : Nat} {nd : Fl.Node} {lv : Value} (h : NodeAt w nb no nd lv) : Calls Tryz.prog (byF nd.kind) #[.pointer (some ⟨nb, no, none⟩)] w (ByEnds (prem nd) w) := by
  unfold byF prem
  by_cases h2 : nd.kind = 2
  · rw [if_pos h2, if_pos h2]; exact by3 h
  rw [if_neg h2, if_neg h2]
  by_cases h3 : nd.kind = 3
  · rw [if_pos h3, if_pos (Or.inl h3)]; exact by2 h
  rw [if_neg h3]
  by_cases h4 : nd.kind = 4
  · rw [if_pos h4, if_pos (Or.inr h4)]; exact by2 h
  rw [if_neg h4, if_neg (show ¬ (nd.kind = 3 ∨ nd.kind = 4) from fun h => h.elim h3 h4)]
  by_cases h5 : nd.kind = 5
  · rw [if_pos h5, if_pos h5]; exact by4 h
  rw [if_neg h5, if_neg h5]
  by_cases h6 : nd.kind = 6
  · rw [if_pos h6, if_pos h6]; exact by5 h
  rw [if_neg h6, if_neg h6]
  by_cases h7 : nd.kind = 7
  · rw [if_pos h7, if_pos h7]; exact by6 h
  rw [if_neg h7, if_neg h7]; exact by1 _ _

theorem by_enter (k : Int) (v : Value) (w : World) : (callFunc (byF k) #[v]).run Tryz.prog w = .ok (.enter (byF k) #[v]) w := by
  unfold byF
  repeat' split
  all_goals kernel_rfl

set_option maxRecDepth 100000 in
set_option maxHeartbeats 4000000 in
theorem isBehind_any (rb ro f k : Nat) (np : Value) (ps : List Int) (w : World) (hf : w.cell? ⟨rb, ro + 3, none⟩ = some (.func (.func f) #[] #[])) (hin : (callFunc f #[np]).run Tryz.prog w = .ok (.enter f #[np]) w) (hc : Calls Tryz.prog f #[np] w (ByEnds ps w)) :
    Calls Tryz.prog 85 #[.pointer (some ⟨rb, ro, none⟩), np, .int .i64 k] w fun e w' => e = .returned (.bool (!ps.any (fun x => decide ((k : Int) ≤ x)))) ∧ Below w.heap.size w w' := by
  have HC : Hid (Calls Tryz.prog f #[np] w (ByEnds ps w)) := hc
  clear hc
  go_enter Tryz.func85, Tryz.ntmps85
  go_wp2_with fail
  refine (HC.out).mono ?_
  rintro e w1 ⟨pv, rfl, hp, hb1⟩
  obtain ⟨pao, pcap, rfl, _, hpm, hpc⟩ := hp
  unfold maxLen at hpm
  have HPC : Hid (ps ≠ [] → ∃ b off, pao = some ⟨b, off, none⟩ ∧ b < w1.heap.size ∧ ∀ i, i < ps.length → w1.cell? ⟨b, off + i, none⟩ = some (.int .i64 (ps.getD i 0))) := hpc
  have HB1 : Hid (Below w.heap.size w w1) := hb1
  clear hpc hb1
  go_wp2_with fail
  go_loop [16] (fun i => ∃ j : Nat, j ≤ ps.length ∧ i = .int .i64 j ∧ ∀ t, t < j → ¬ (k : Int) ≤ ps.getD t 0) (fun i => ps.length - (intOf i).toNat)
  case atStart => exact ⟨0, by omega, rfl, fun t ht => by omega⟩
  case round =>
    obtain ⟨j, hj, rfl, hsm⟩ := hrel
    have HSM : Hid (∀ t, t < j → ¬ (k : Int) ≤ ps.getD t 0) := hsm
    clear hsm
    by_cases hjl : j < ps.length
    · obtain ⟨pb, po, rfl, hpb, hpcell⟩ := HPC.out (by intro h; rw [h] at hjl; simp at hjl)
      have hcj := hpcell j hjl
      obtain ⟨x, hx⟩ : ∃ x, x = ps.getD j 0 := ⟨_, rfl⟩
      rw [← hx] at hcj
      have HXJ : Hid (x = ps.getD j 0) := hx
      have hji : (j : Int) < (ps.length : Int) := by omega
      clear hpcell hx
      by_cases hkx : (k : Int) ≤ x
      · have HAN : Hid ((!ps.any (fun x => decide ((k : Int) ≤ x))) = false) := by
          show (!ps.any (fun x => decide ((k : Int) ≤ x))) = false
          rw [Bool.not_eq_false', List.any_eq_true]; exact ⟨x, by rw [HXJ.out]; exact getD_mem hjl, by simpa using hkx⟩
        go_wp2
        go_ret
        exact ⟨ret_bool HAN.out.symm, HB1.out⟩
      · go_wp2
        go_round
        case rel => exact ⟨j + 1, by omega, by go_num, fun t ht => by
          by_cases h : t < j
          · exact HSM.out t h
          · have : t = j := by omega
            subst this; rw [← HXJ.out]; omega⟩
        case measure => simp [intOf]; omega
    · have HAN : Hid ((!ps.any (fun x => decide ((k : Int) ≤ x))) = true) := by
        show (!ps.any (fun x => decide ((k : Int) ≤ x))) = true
        rw [Bool.not_eq_true', List.any_eq_false]; intro x hx
        obtain ⟨i, hi, rfl⟩ := List.getElem_of_mem hx
        have := HSM.out i (by omega)
        rw [List.getD_eq_getElem?_getD, List.getElem?_eq_getElem hi] at this
        simpa using this
      go_wp2
      go_ret
      exact ⟨ret_bool HAN.out.symm, HB1.out⟩
end Go.Proofs.YtbihjgfbocpobaaGreatDoor

/- A node that is being made, in a block of its own. -/
set_option linter.unusedSimpArgs false
set_option linter.unusedVariables false
namespace Go.Proofs.YtbihjgfbocpobaaGreatDoor
open Go.RowKit

structure Nd (w : World) (N : Nat) (kd lev a b c : Int) (l : Value) : Prop where
  c0 : w.cell? ⟨N, 0, none⟩ = some (.int .i64 kd)
  c1 : w.cell? ⟨N, 1, none⟩ = some (.int .i64 lev)
  c2 : w.cell? ⟨N, 2, none⟩ = some (.int .i64 a)
  c3 : w.cell? ⟨N, 3, none⟩ = some (.int .i64 b)
  c4 : w.cell? ⟨N, 4, none⟩ = some (.int .i64 c)
  c5 : w.cell? ⟨N, 5, none⟩ = some l
  f : ∀ j, w.frozen? ⟨N, j, none⟩ = false
section
variable {w w' : World} {N : Nat} {kd lev a b c : Int} {l : Value}
theorem Nd.lt (h : Nd w N kd lev a b c l) : N < w.heap.size := World.block_lt_of_cell? w _ h.c0
theorem Nd.new (w : World) (kd lev a b c : Int) (l : Value) (e : TypeId) : Nd (w.alloc (.cells #[.int .i64 kd, .int .i64 lev, .int .i64 a, .int .i64 b, .int .i64 c, l] e)) w.heap.size kd lev a b c l := by
  refine ⟨?_, ?_, ?_, ?_, ?_, ?_, fun j => by simp⟩ <;> (rw [World.cell?_alloc_new]; rfl)
theorem Nd.grown (h : Nd w N kd lev a b c l) {row : Option Nat} (g : w.grownBy w' row) (hne : some N ≠ row) : Nd w' N kd lev a b c l :=
  ⟨g.cell h.c0 hne, g.cell h.c1 hne, g.cell h.c2 hne, g.cell h.c3 hne, g.cell h.c4 hne, g.cell h.c5 hne, fun j => (World.frozen?_of_block (w := w) (a := ⟨N, j, none⟩) (g.block N h.lt hne)).trans (h.f j)⟩
theorem Nd.drewN (h : Nd w N kd lev a b c l) (n : Nat) : Nd (w.drewN n) N kd lev a b c l := ⟨h.c0, h.c1, h.c2, h.c3, h.c4, h.c5, h.f⟩
theorem Nd.drew (h : Nd w N kd lev a b c l) : Nd w.drew N kd lev a b c l := ⟨h.c0, h.c1, h.c2, h.c3, h.c4, h.c5, h.f⟩
theorem nd_off {w : World} {N i j : Nat} {v : Value} (hne : i ≠ j) : (w.setCell ⟨N, i, none⟩ v).cell? ⟨N, j, none⟩ = w.cell? ⟨N, j, none⟩ := by
  apply World.cell?_setCell_other; intro hh; injection hh with _ h2; exact hne h2
theorem nd_same {w : World} {N i : Nat} {v u : Value} (h : w.cell? ⟨N, i, none⟩ = some u) : (w.setCell ⟨N, i, none⟩ v).cell? ⟨N, i, none⟩ = some v := World.cell?_setCell_same' _ _ _ (by simp [h])
theorem Nd.set1 (h : Nd w N kd lev a b c l) (x : Int) : Nd (w.setCell ⟨N, 1, none⟩ (.int .i64 x)) N kd x a b c l :=
  ⟨(nd_off (by decide)).trans h.c0, nd_same h.c1, (nd_off (by decide)).trans h.c2, (nd_off (by decide)).trans h.c3, (nd_off (by decide)).trans h.c4, (nd_off (by decide)).trans h.c5, fun j => (World.frozen?_setCell _ _ _ _).trans (h.f j)⟩
theorem Nd.set2 (h : Nd w N kd lev a b c l) (x : Int) : Nd (w.setCell ⟨N, 2, none⟩ (.int .i64 x)) N kd lev x b c l :=
  ⟨(nd_off (by decide)).trans h.c0, (nd_off (by decide)).trans h.c1, nd_same h.c2, (nd_off (by decide)).trans h.c3, (nd_off (by decide)).trans h.c4, (nd_off (by decide)).trans h.c5, fun j => (World.frozen?_setCell _ _ _ _).trans (h.f j)⟩
theorem Nd.set3 (h : Nd w N kd lev a b c l) (x : Int) : Nd (w.setCell ⟨N, 3, none⟩ (.int .i64 x)) N kd lev a x c l :=
  ⟨(nd_off (by decide)).trans h.c0, (nd_off (by decide)).trans h.c1, (nd_off (by decide)).trans h.c2, nd_same h.c3, (nd_off (by decide)).trans h.c4, (nd_off (by decide)).trans h.c5, fun j => (World.frozen?_setCell _ _ _ _).trans (h.f j)⟩
theorem Nd.set4 (h : Nd w N kd lev a b c l) (x : Int) : Nd (w.setCell ⟨N, 4, none⟩ (.int .i64 x)) N kd lev a b x l :=
  ⟨(nd_off (by decide)).trans h.c0, (nd_off (by decide)).trans h.c1, (nd_off (by decide)).trans h.c2, (nd_off (by decide)).trans h.c3, nd_same h.c4, (nd_off (by decide)).trans h.c5, fun j => (World.frozen?_setCell _ _ _ _).trans (h.f j)⟩
theorem Nd.set5 (h : Nd w N kd lev a b c l) (x : Value) : Nd (w.setCell ⟨N, 5, none⟩ x) N kd lev a b c x :=
  ⟨(nd_off (by decide)).trans h.c0, (nd_off (by decide)).trans h.c1, (nd_off (by decide)).trans h.c2, (nd_off (by decide)).trans h.c3, (nd_off (by decide)).trans h.c4, nd_same h.c5, fun j => (World.frozen?_setCell _ _ _ _).trans (h.f j)⟩
theorem Nd.nodeAt (h : Nd w N kd lev a b c l) {ls : List Int} (hl : IntsAt w.heap.size w l ls) : NodeAt w N 0 ⟨kd, lev, a, b, c, ls⟩ l := ⟨h.c0, h.c1, h.c2, h.c3, h.c4, h.c5, hl⟩
end
/-- A store into a block of the call's own. -/
theorem grown_set (w : World) (N i : Nat) (v : Value) : w.grownBy (w.setCell ⟨N, i, none⟩ v) (some N) :=
  ⟨rfl, rfl, rfl, by simp [World.setCell], fun k hk hne => Below.heap_setCell _ _ _ _ (by intro h; exact hne (by rw [h]))⟩
theorem Mv.andSet {w w1 : World} {b N : Nat} (h : Mv w w1 b) (hb : b < w.heap.size) (hN : w.heap.size ≤ N) (i : Nat) (v : Value) : Mv w (w1.setCell ⟨N, i, none⟩ v) b :=
  h.andGrown (grown_set w1 N i v) hb (fun k e => by injection e with e; omega)
end Go.Proofs.YtbihjgfbocpobaaGreatDoor
