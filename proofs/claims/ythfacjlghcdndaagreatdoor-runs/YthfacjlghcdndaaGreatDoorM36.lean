/- Texts Mcg Rnc Rnd Mch. -/
import Derived.Test.YthfacjlghcdndaaGreatDoorM35
import Derived.Laws.CopyOwn
import Derived.Laws.MakeOwn
import Derived.Laws.Small
set_option linter.unusedSimpArgs false
set_option linter.unusedVariables false
namespace Go.Proofs.YthfacjlghcdndaaGreatDoor
open Go.RowKit
def U32At (w : World) (v : Value) (l : List Nat) : Prop :=
  ∃ ao cap, v = .slice ao l.length cap ∧ l.length ≤ cap ∧ cap ≤ maxLen ∧ (∀ x ∈ l, x < 4294967296) ∧ (l ≠ [] → ∃ b off, ao = some ⟨b, off, none⟩ ∧ b < w.heap.size ∧ ∀ i, i < l.length → w.cell? ⟨b, off + i, none⟩ = some (.int .u32 (l.getD i 0)))
def u32V (l : List Nat) : List Value := l.map fun (x : Nat) => Value.int .u32 (x : Int)
theorem u32V_get (l : List Nat) (i : Nat) (h : i < l.length) : (u32V l)[i]? = some (.int .u32 (l.getD i 0)) := by unfold u32V; simp [List.getD_eq_getElem?_getD, h]
theorem Tryz.infoU32P : (Tryz.prog.info? 24).map (fun i => (i.zero, i.size, i.bytes)) = some (some (.int .u32 0), 1, 4) := by kernel_rfl
theorem Tryz.infoU32S : (Tryz.prog.info? 24).map (·.size) = some 1 := by kernel_rfl
def zerosV (n : Nat) : Array Value := (List.replicate n (Value.int .u32 0)).toArray
theorem make_u32 (W : World) (c : Int) (n : Nat) (hc : c = (n : Int)) (hn : n ≤ 100000) : (Instr.makeSlice 23 (.int .i64 c) (.int .i64 c)).run Tryz.prog W = .ok (.slice (some ⟨W.heap.size, 0, none⟩) n n) (W.alloc (.cells (zerosV n) 24)) := by
  subst hc
  obtain ⟨i0, hi0, hz0, hzs, hzb⟩ := info_parts Tryz.infoU32P
  have h := run_makeSlice (w := W) 23 24 i0 (.int .u32 0) Tryz.underlying23 hi0 hz0 .i64 .i64 (n : Int) (n : Int) (by omega) (Int.le_refl _) (by rw [hzs]; simp; omega) (by rw [hzb]; omega) (by omega)
  rw [h, hzs]
  have e : madeCells (Value.int .u32 0).cells ((n : Int).toNat * 1) = zerosV n := by
    apply Array.ext
    · simp [madeCells, zerosV]
    · intro i h1 h2
      simp [madeCells, zerosV, Value.cells, Nat.mod_one]
  rw [e, Int.toNat_natCast]
theorem wpList_copy_at {P : Program} {w : World} {ops : Array Oper} {rest : List Oper} {o : Oper} {a : Act} {Q : Exit → Act → World → Prop} (hgd : o.guard = none) (d s : Operand) (dT sT : TypeId)
    (ho : o.op = .call { callee := .builtin .copy, args := #[d, s], argTypes := #[dT, sT] }) (elem : TypeId) (hu : P.underlying dT = some (.slice elem)) (hsz : (P.info? elem).map (·.size) = some 1)
    (dp sp : Option Addr) (dLen dCap sLen sCap : Nat) (hd : a.eval d = .slice dp dLen dCap) (hs : a.eval s = .slice sp sLen sCap)
    (g off : Nat) (cur : List Value) (t : TypeId) (hg : w.heap[g]? = some (.cells cur.toArray t (0, 0))) (cs : List Value) (hn : cs.length = Nat.min sLen dLen)
    (hpos : 0 < cs.length → dp = some ⟨g, off, none⟩ ∧ ∃ ad, sp = some ad ∧ ∀ j v, cs[j]? = some v → w.cell? (ad.add j) = some v)
    (hfit : off + cs.length ≤ cur.length) (h1 : ∀ v ∈ cs, v.oneCell' = true)
    (h : ∀ w', Hid (w'.heap[g]? = some (.cells (splice cur off cs).toArray t (0, 0))) → w.grownBy w' (some g) → w'.heap.size = w.heap.size → wpList P ops Q rest (a.put o.dst (goInt cs.length)) w') :
    wpList P ops Q (o :: rest) a w := by
  by_cases h0 : cs.length = 0
  · obtain rfl : cs = [] := List.eq_nil_of_length_eq_zero h0
    refine wpList_copy_nothing hgd d s dT sT ho elem hu hsz dp sp dLen dCap sLen sCap hd hs (by simpa using hn.symm) ?_
    exact h w (show _ = _ by simpa [splice] using hg) (World.grownBy.refl _ _) rfl
  · obtain ⟨rfl, ad, rfl, hsrc⟩ := hpos (by omega)
    refine wpList_copy_own hgd d s dT sT ho elem hu hsz g off dLen dCap ad sLen sCap hd hs cur.toArray t hg cs hn hsrc (by simpa using hfit) h1 ?_
    refine h _ (show _ = _ by simpa [splice] using setRow_heap w g _ _ t _ hg) ⟨rfl, rfl, rfl, by simp [World.setRow], fun k hk hne => setRow_other w g k _ (by simpa using hne)⟩ (by simp [World.setRow])
structure MSet (w W : World) (Vb Tb Ob nv : Nat) : Prop where
  be : Below w.heap.size w W
  sz : W.heap.size = w.heap.size + 4
  e : W.heap[w.heap.size]? = some (.cells #[.slice none 0 0, .slice none 0 0, .bool false] 29)
  v : W.heap[Vb]? = some (.cells (zerosV nv) 24 (0, 0))
  t : W.heap[Tb]? = some (.cells #[.func (.func 47) #[] #[]] 138 (0, 0))
  o : W.heap[Ob]? = some (.cells (opArr Tb) 139 (0, 0))
  g : w.heap.size < Vb ∧ Vb < w.heap.size + 4 ∧ w.heap.size < Tb ∧ Tb < w.heap.size + 4 ∧ w.heap.size < Ob ∧ Ob < w.heap.size + 4 ∧ Vb ≠ Tb ∧ Vb ≠ Ob ∧ Tb ≠ Ob
theorem heap_before (u : World) (o : Obj) (k : Nat) (hk : k < u.heap.size) : (u.alloc o).heap[k]? = u.heap[k]? := Below.heap_alloc _ _ _ hk
theorem heap_at (u : World) (o : Obj) (k : Nat) (hk : u.heap.size = k) : (u.alloc o).heap[k]? = some o := by subst hk; exact heap_alloc_last u o
theorem mset_one (w : World) (nv : Nat) : MSet w (opW ((w.alloc (.cells #[.slice none 0 0, .slice none 0 0, .bool false] 29)).alloc (.cells (zerosV nv) 24)).drew) (w.heap.size + 1) (w.heap.size + 2) (w.heap.size + 1 + 1 + 1) nv := by
  unfold opW
  refine ⟨((((Below.refl _ w).alloc (Nat.le_refl _) _).alloc (by simp) _).drew.alloc (by simp; omega) _).alloc (by simp; omega) _, by simp, ?_, ?_, ?_, ?_, by omega⟩
  · rw [heap_before _ _ _ (by simp <;> omega), heap_before _ _ _ (by simp <;> omega)]
    show ((w.alloc _).alloc _).heap[w.heap.size]? = _
    rw [heap_before _ _ _ (by simp), heap_at _ _ _ rfl]
  · rw [heap_before _ _ _ (by simp <;> omega), heap_before _ _ _ (by simp <;> omega)]
    show ((w.alloc _).alloc _).heap[w.heap.size + 1]? = _
    rw [heap_at _ _ _ (by simp)]
  · rw [heap_before _ _ _ (by simp <;> omega), heap_at _ _ _ (by simp)]
  · rw [heap_at _ _ _ (by simp)]; simp
theorem mset_two (w : World) (nv : Nat) : let W1 := opW (w.alloc (.cells #[.slice none 0 0, .slice none 0 0, .bool false] 29)).drew
    Below w.heap.size w W1 ∧ W1.heap.size = w.heap.size + 3 ∧ MSet w (W1.alloc (.cells (zerosV nv) 24)) W1.heap.size (w.heap.size + 1) (w.heap.size + 1 + 1) nv := by
  intro W1
  have hb : Below w.heap.size w W1 := (((Below.refl _ w).alloc (Nat.le_refl _) _).drew.alloc (by simp) _).alloc (by simp; omega) _
  have hz : W1.heap.size = w.heap.size + 3 := by simp [W1, opW]
  refine ⟨hb, hz, hb.alloc (by omega) _, by simp [hz], ?_, heap_at _ _ _ rfl, ?_, ?_, by omega⟩
  · rw [heap_before _ _ _ (by omega)]
    show (((w.alloc _).drew.alloc _).alloc _).heap[w.heap.size]? = _
    rw [heap_before _ _ _ (by simp <;> omega), heap_before _ _ _ (by simp <;> omega)]
    show (w.alloc _).heap[w.heap.size]? = _
    rw [heap_at _ _ _ rfl]
  · rw [heap_before _ _ _ (by omega)]
    show (((w.alloc _).drew.alloc _).alloc _).heap[w.heap.size + 1]? = _
    rw [heap_before _ _ _ (by simp <;> omega), heap_at _ _ _ (by simp)]
  · rw [heap_before _ _ _ (by omega)]
    show (((w.alloc _).drew.alloc _).alloc _).heap[w.heap.size + 1 + 1]? = _
    rw [heap_at _ _ _ (by simp)]; simp
theorem splice_zeros (cs : List Nat) (k nv : Nat) (h : nv = cs.length + k) : splice (List.replicate nv (Value.int .u32 0)) 0 (u32V cs) = u32V (cs ++ List.replicate k 0) := by
  subst h
  unfold splice u32V
  simp
theorem splice_full (l : List Nat) (n : Nat) (h : n = l.length) : splice (List.replicate n (Value.int .u32 0)) 0 (u32V l) = u32V l := by
  have := splice_zeros l 0 n (by omega)
  simpa using this
theorem mset_mach {w W W2 W3 : World} {Vb Tb Ob nv F k : Nat} {cs : List Nat} (h : MSet w W Vb Tb Ob nv) (hW2 : W2 = W.alloc (.cells #[.slice (some ⟨Vb, 0, none⟩) nv nv, .slice none 0 0, .int .i64 F, .slice (some ⟨Ob, 0, none⟩) 5 5] 107)) (hnv : nv = cs.length + k) (hn10 : nv ≤ 10) (hF : F ≤ 2000) (hb : ∀ x ∈ cs, x < 4294967296)
    (hrow : W3.heap[Vb]? = some (.cells (splice (List.replicate nv (Value.int .u32 0)) 0 (u32V cs)).toArray 24 (0, 0))) (hg : W2.grownBy W3 (some Vb)) (hz : W3.heap.size = W2.heap.size) :
    MachAt w.heap.size W3.heap.size (w.heap.size + 4) Vb Ob Tb nv W3 W3 ⟨cs ++ List.replicate k 0, [], F⟩ (.slice none 0 0) ∧ W3.heap[w.heap.size]? = some (.cells #[.slice none 0 0, .slice none 0 0, .bool false] 29) ∧ Below w.heap.size w W3 ∧ W3.heap.size = w.heap.size + 5 := by
  obtain ⟨g1, g2, g3, g4, g5, g6, g7, g8, g9⟩ := h.g
  have hsz := h.sz
  have hz2 : W2.heap.size = w.heap.size + 5 := by rw [hW2]; simp [hsz]
  have hb2 : Below w.heap.size w W2 := by rw [hW2]; exact h.be.alloc (by omega) _
  have q2 : ∀ j, j < w.heap.size + 4 → W2.heap[j]? = W.heap[j]? := fun j hj => by rw [hW2]; exact heap_before _ _ _ (by omega)
  have q3 : ∀ j, j < w.heap.size + 5 → j ≠ Vb → W3.heap[j]? = W2.heap[j]? := fun j hj hne => hg.block j (by omega) (by simpa using hne)
  have hm : W3.heap[w.heap.size + 4]? = some (.cells #[.slice (some ⟨Vb, 0, none⟩) nv nv, .slice none 0 0, .int .i64 F, .slice (some ⟨Ob, 0, none⟩) 5 5] 107) := by
    rw [q3 _ (by omega) (by omega), hW2]; exact heap_at _ _ _ (by omega)
  rw [splice_zeros cs k nv hnv] at hrow
  refine ⟨?_, (q3 _ (by omega) (by omega)).trans ((q2 _ (by omega)).trans h.e), ⟨hg.os.trans hb2.os, hg.tape.trans hb2.tape, hg.output.trans hb2.output, by omega, fun j hj => (q3 j (by omega) (by omega)).trans (hb2.block j hj)⟩, by omega⟩
  refine { inn := ⟨⟨by omega, by omega, by omega⟩, ⟨by omega, by omega, by omega, by omega⟩, ⟨by omega, by omega, by omega, by omega, by omega⟩, hn10, (q3 _ (by omega) (by omega)).trans ((q2 _ (by omega)).trans h.o), (q3 _ (by omega) (by omega)).trans ((q2 _ (by omega)).trans h.t)⟩,
           bel := Below.refl _ _, fx := fun _ _ _ _ => rfl, hbz := Nat.le_refl _, cM := ?_, hv := by simp [hnv], cV := ?_, vb := ?_, sl := by simp; exact hF, os := ⟨rfl, .inl ⟨rfl, rfl⟩⟩ }
  · exact ⟨fun j hj => (cell_of_row _ _ j _ _ (0, 0) hm).trans (by rcases (show j = 0 ∨ j = 1 ∨ j = 2 ∨ j = 3 by omega) with rfl | rfl | rfl | rfl <;> rfl), fun j => by simp [World.frozen?, hm]⟩
  · exact ⟨fun j hj => (cell_of_row _ _ j _ _ (0, 0) hrow).trans (by rw [List.getElem?_toArray, u32V_get _ _ (by simp; omega)]), fun j => by simp [World.frozen?, hrow]⟩
  · intro x hx
    rcases List.mem_append.1 hx with h1 | h1
    · exact hb x h1
    · have := List.eq_of_mem_replicate h1; omega
theorem owns_less {w : World} {b b' : Nat} {e : TypeId} {k : Nat} {v : Value} {n : Nat} {xs : List Value} (h : w.ownsRow b e k v n xs) (hb : b' ≤ b) : w.ownsRow b' e k v n xs := by
  refine ⟨h.1, ?_⟩
  rcases h.2 with h1 | ⟨g, cap, cur, h1, h2, h3⟩
  · exact .inl h1
  · exact .inr ⟨g, cap, cur, h1, by omega, h3⟩
theorem three_set {wz : World} {N : Nat} {u0 u1 u2 : Value} (v0 v1 v2 : Value) (c0 : wz.cell? ⟨N, 0, none⟩ = some u0) (c1 : wz.cell? ⟨N, 1, none⟩ = some u1) (c2 : wz.cell? ⟨N, 2, none⟩ = some u2) :
    (((wz.setCell ⟨N, 0, none⟩ v0).setCell ⟨N, 1, none⟩ v1).setCell ⟨N, 2, none⟩ v2).cell? ⟨N, 0, none⟩ = some v0 ∧ (((wz.setCell ⟨N, 0, none⟩ v0).setCell ⟨N, 1, none⟩ v1).setCell ⟨N, 2, none⟩ v2).cell? ⟨N, 1, none⟩ = some v1 ∧ (((wz.setCell ⟨N, 0, none⟩ v0).setCell ⟨N, 1, none⟩ v1).setCell ⟨N, 2, none⟩ v2).cell? ⟨N, 2, none⟩ = some v2 ∧
    (∀ k, k ≠ N → (((wz.setCell ⟨N, 0, none⟩ v0).setCell ⟨N, 1, none⟩ v1).setCell ⟨N, 2, none⟩ v2).heap[k]? = wz.heap[k]?) ∧ (((wz.setCell ⟨N, 0, none⟩ v0).setCell ⟨N, 1, none⟩ v1).setCell ⟨N, 2, none⟩ v2).heap.size = wz.heap.size := by
  refine ⟨?_, ?_, ?_, fun k hk => ?_, by simp⟩
  · exact (World.cell?_setCell_other _ _ _ _ (by simp)).trans ((World.cell?_setCell_other _ _ _ _ (by simp)).trans (World.cell?_setCell_same' _ _ _ (by simp [c0])))
  · refine (World.cell?_setCell_other _ _ _ _ (by simp)).trans (World.cell?_setCell_same' _ _ _ ((congrArg Option.isSome (World.cell?_setCell_other _ _ _ _ (by simp))).trans ?_))
    simp [c1]
  · refine World.cell?_setCell_same' _ _ _ ((congrArg Option.isSome ((World.cell?_setCell_other _ _ _ _ (by simp)).trans (World.cell?_setCell_other _ _ _ _ (by simp)))).trans ?_)
    simp [c2]
  · rw [setCell_block _ _ _ _ _ hk, setCell_block _ _ _ _ _ hk, setCell_block _ _ _ _ _ hk]
def MRunEnds (n : Nat) (q : Bool × Fl.MS) (w : World) (e : Ending) (w' : World) : Prop :=
  ∃ Lb sv, e = .returned (.agg #[.slice (some ⟨Lb, 0, none⟩) n n, sv, .bool q.1]) ∧ Below w.heap.size w w' ∧ w.heap.size ≤ Lb ∧ w'.heap[Lb]? = some (.cells (u32V (q.2.vars.take n)).toArray 24 (0, 0)) ∧
    (q.2.vars.take n).length = n ∧ (∀ x ∈ q.2.vars, x < 4294967296) ∧ w'.ownsRow w.heap.size 63 2 sv q.2.sent.length (sentV q.2.sent) ∧ sv.ownBlock ≠ some Lb ∧ q.2.sent.length ≤ 2000
set_option maxRecDepth 100000 in
set_option maxHeartbeats 4000000 in
theorem mrun_any {w : World} {Pb : Nat} {p : Fl.Prog} {cv : Value} {cs : List Nat} (fuel : Int) (F : Nat) (hF : (F : Int) = min (max fuel 0) 2000) (hp : ProgAt (fun b => b < w.heap.size) w Pb p) (hok : p.Ok) (hcs : U32At w cv cs) (hlen : cs.length = p.cells.length) :
    Calls Tryz.prog 17 #[.pointer (some ⟨Pb, 0, none⟩), cv, .int .i64 fuel] w (MRunEnds cs.length (p.run cs F) w) := by
  obtain ⟨ao, cap, rfl, g1, g2, g3, g4⟩ := hcs
  obtain ⟨Lb0, clv, chv, bv, s1, s2, hP, hL, hC, hH, hB⟩ := hp
  have c3 : w.cell? ⟨Pb, 3, none⟩ = some (.int .i64 p.locals) := hP.c 3 (by omega)
  have c4 : w.cell? ⟨Pb, 4, none⟩ = some bv := hP.c 4 (by omega)
  have hlo := hok.lo
  have hce := hok.ce
  obtain ⟨n, hn⟩ : ∃ n, n = cs.length := ⟨_, rfl⟩
  obtain ⟨k, hk⟩ : ∃ k, k = p.locals := ⟨_, rfl⟩
  rw [← hk] at c3
  have n6 : (n : Int) ≤ 6 := by omega
  have k4 : (k : Int) ≤ 4 := by omega
  obtain ⟨nv, hnv⟩ : ∃ nv, nv = n + k := ⟨_, rfl⟩
  have HMS : Hid (∀ W, (Instr.makeSlice 23 (.int .i64 ((n : Int) + (k : Int))) (.int .i64 ((n : Int) + (k : Int)))).run Tryz.prog W = .ok (.slice (some ⟨W.heap.size, 0, none⟩) nv nv) (W.alloc (.cells (zerosV nv) 24))) := fun W => make_u32 W _ nv (by omega) (by omega)
  have HMS2 : Hid (∀ W, (Instr.makeSlice 23 (.int .i64 (n : Int)) (.int .i64 (n : Int))).run Tryz.prog W = .ok (.slice (some ⟨W.heap.size, 0, none⟩) n n) (W.alloc (.cells (zerosV n) 24))) := fun W => make_u32 W _ n rfl (by omega)
  obtain ⟨M1, hM1⟩ : ∃ M1 : Int, M1 = max fuel 0 := ⟨_, rfl⟩
  have hM2 : (F : Int) = min M1 2000 := by rw [hF, hM1]
  rw [← hn]
  have HP3 : Hid (∀ W, Below w.heap.size w W → W.cell? ⟨Pb, 3, none⟩ = some (.int .i64 k)) := fun W hW => (hW.cell (p := ⟨Pb, 3, none⟩) s1).trans c3
  have HP4 : Hid (∀ W, Below w.heap.size w W → W.cell? ⟨Pb, 4, none⟩ = some bv) := fun W hW => (hW.cell (p := ⟨Pb, 4, none⟩) s1).trans c4
  have HN : Hid (n = cs.length) := hn
  have HKL : Hid (k = p.locals) := hk
  have HNV : Hid (nv = n + k) := hnv
  have HM2 : Hid ((F : Int) = min M1 2000) := hM2
  have HM1 : Hid (M1 = max fuel 0) := hM1
  have HF2 : Hid (F ≤ 2000) := by show F ≤ 2000; omega
  have HG : Hid (cs.length ≤ cap ∧ cap ≤ maxLen ∧ (∀ x ∈ cs, x < 4294967296) ∧ (cs ≠ [] → ∃ b off, ao = some ⟨b, off, none⟩ ∧ b < w.heap.size ∧ ∀ i, i < cs.length → w.cell? ⟨b, off + i, none⟩ = some (.int .u32 (cs.getD i 0)))) := ⟨g1, g2, g3, g4⟩
  have HOK : Hid p.Ok := hok
  have HLEN : Hid (cs.length = p.cells.length) := hlen
  have HB : Hid (PStmts 4 (fun b => b < w.heap.size) w bv p.body) := hB
  obtain ⟨ba, bn, bc, rfl⟩ : ∃ ba bn bc, bv = .slice ba bn bc := by obtain ⟨x, y, h1, -⟩ := hB; exact ⟨_, _, _, h1⟩
  clear hn hk hnv hM2 hM1 hF g1 g2 g3 g4 hok hlen hB hP hL hC hH hlo hce c3 c4 s1 s2
  go_enter Tryz.func17, Tryz.ntmps17
  go_wp2_with fail
  refine wp_region_fork (fun W => Below w.heap.size w W) [0, 1, 2, 3, 4, 5, 6, 8, 9, 10] 7 11 [11, 12, 13, 14] [7, 12, 13, 14] (by kernel_rfl) (by kernel_rfl) rfl rfl [_, _, _, _, _, _, _, _, _, _] _ _ [_, _, _, _] [_, _, _, _] rfl rfl rfl rfl rfl (fun c a d v w h => by cases d <;> exact h) ((Below.refl _ _).alloc (Nat.le_refl _) _).drew (fun ops => ?_)
  simp only [List.getElem_toArray, List.getElem_cons_succ, List.getElem_cons_zero]
  iterate 8
    refine heldG_plain rfl (fun K hK => ?_)
    apply Exists.intro
    refine ⟨fun w' hw' => ?_, ?_⟩
    · have e3 := HP3.out w' hw'
      clear hw'
      go_simp
      try with_reducible rfl
    go_simp
    refine hK _ ?_
    clear hK K
  refine heldG_plain rfl (fun K hK => ?_)
  refine ⟨.int .i64 M1, fun w' hw' => ?_, ?_⟩
  · rw [HM1.out]
    clear hw'
    go_simp
    try with_reducible rfl
  go_simp
  refine hK _ ?_
  clear hK K
  refine heldG_plain rfl (fun K hK => ?_)
  refine ⟨.int .i64 F, fun w' hw' => ?_, ?_⟩
  · rw [HM2.out]
    clear hw'
    go_simp
    try with_reducible rfl
  go_simp
  refine hK _ ?_
  clear hK K
  refine heldG_nil ⟨?_, ?_⟩
  focus
    refine st_step ?_
    go_wp2_with fail
    rw [HMS.out]
    go_wp2_with fail
    refine ⟨((((Below.refl _ _).alloc (Nat.le_refl _) _).alloc (by simp) _)).drew, ?_⟩
    refine st_step ?_
    go_wp2_with fail
    refine (operations_any _).mono ?_
    rintro e w1 ⟨rfl, hw1⟩
    rw [hw1]
    clear hw1 w1
    go_wp2_with fail
    obtain ⟨W, hW⟩ : ∃ W, W = opW ((w.alloc (.cells #[.slice none 0 0, .slice none 0 0, .bool false] 29)).alloc (.cells (zerosV nv) 24)).drew := ⟨_, rfl⟩
    obtain ⟨Vb, hVb⟩ : ∃ Vb, Vb = w.heap.size + 1 := ⟨_, rfl⟩
    obtain ⟨Tb, hTb⟩ : ∃ Tb, Tb = w.heap.size + 2 := ⟨_, rfl⟩
    obtain ⟨Ob, hOb⟩ : ∃ Ob, Ob = w.heap.size + 1 + 1 + 1 := ⟨_, rfl⟩
    have HS : Hid (MSet w W Vb Tb Ob nv) := by
      show MSet _ _ _ _ _ _
      rw [hW, hVb, hTb, hOb]; exact mset_one w nv
    rw [← hW, ← hOb, ← hVb]
    clear hW hVb hTb hOb
  rotate_left
  focus
    refine st_step ?_
    go_wp2_with fail
    refine (operations_any _).mono ?_
    rintro e w1 ⟨rfl, hw1⟩
    rw [hw1]
    clear hw1 w1
    go_wp2_with fail
    obtain ⟨W1, hW1⟩ : ∃ W1, W1 = opW (w.alloc (.cells #[.slice none 0 0, .slice none 0 0, .bool false] 29)).drew := ⟨_, rfl⟩
    have hB1 : Below w.heap.size w W1 := by rw [hW1]; exact (mset_two w nv).1
    have hz1 : w.heap.size + 3 = W1.heap.size := by rw [hW1]; exact (mset_two w nv).2.1.symm
    have HMT : Hid (MSet w (W1.alloc (.cells (zerosV nv) 24)) W1.heap.size (w.heap.size + 1) (w.heap.size + 1 + 1) nv) := by rw [hW1]; exact (mset_two w nv).2.2
    rw [← hW1]
    clear hW1
    refine ⟨hB1, ?_⟩
    refine st_step ?_
    go_wp2_with fail
    rw [HMS.out]
    go_wp2_with fail
    obtain ⟨W, hW⟩ : ∃ W, W = W1.alloc (.cells (zerosV nv) 24) := ⟨_, rfl⟩
    obtain ⟨Vb, hVb⟩ : ∃ Vb, Vb = W1.heap.size := ⟨_, rfl⟩
    obtain ⟨Tb, hTb⟩ : ∃ Tb, Tb = w.heap.size + 1 := ⟨_, rfl⟩
    obtain ⟨Ob, hOb⟩ : ∃ Ob, Ob = w.heap.size + 1 + 1 := ⟨_, rfl⟩
    have HS : Hid (MSet w W Vb Tb Ob nv) := by
      show MSet _ _ _ _ _ _
      rw [hW, hVb, hTb, hOb]; exact HMT.out
    rw [← hW, ← hVb, ← hOb]
    clear hW hVb hTb hOb hB1 hz1 HMT
  all_goals
    have hS := HS.out
    have hBW := hS.be
    have hsW := hS.sz
    refine ⟨hBW, ?_⟩
    refine st_step ?_
    go_wp2_with fail
    refine ⟨hBW, ?_⟩
    refine st_step ?_
    go_wp2_with fail
    obtain ⟨W2, hW2⟩ : ∃ W2, W2 = W.alloc (.cells #[.slice (some ⟨Vb, 0, none⟩) nv nv, .slice none 0 0, .int .i64 (F : Int), .slice (some ⟨Ob, 0, none⟩) 5 5] 107) := ⟨_, rfl⟩
    have hB2 : Below w.heap.size w W2 := by rw [hW2]; exact hBW.alloc (by omega) _
    have hz2 : w.heap.size + 5 = W2.heap.size := by rw [hW2]; simp [hsW]
    have m0 : W2.cell? ⟨w.heap.size + 4, 0, none⟩ = some (.slice (some ⟨Vb, 0, none⟩) nv nv) := by
      rw [hW2]; exact cell_of_row _ _ 0 _ _ (0, 0) (heap_at _ _ _ hsW)
    have kV : W2.heap[Vb]? = some (.cells (List.replicate nv (Value.int .u32 0)).toArray 24 (0, 0)) := by
      rw [hW2, heap_before _ _ _ (by have := hS.g; omega)]; exact hS.v
    have HW2 : Hid (W2 = W.alloc (.cells #[.slice (some ⟨Vb, 0, none⟩) nv nv, .slice none 0 0, .int .i64 (F : Int), .slice (some ⟨Ob, 0, none⟩) 5 5] 107)) := hW2
    rw [← hW2]
    clear hW2 hS hBW hsW
    refine ⟨hB2, ?_⟩
    refine st_step ?_
    go_wp2_with fail
    refine ⟨hB2, ?_⟩
    refine st_end ?_
    have KV : Hid (W2.heap[Vb]? = some (.cells (List.replicate nv (Value.int .u32 0)).toArray 24 (0, 0))) := kV
    have HB2 : Hid (Below w.heap.size w W2) := hB2
    clear kV hB2 hz2
    go_wp2_with (refine wpList_copy_at rfl (.tmp 27) (.tmp 28) 23 23 rfl 24 Tryz.underlying23 Tryz.infoU32S _ _ _ _ _ _ rfl rfl Vb 0 (List.replicate nv (Value.int .u32 0)) 24 KV.out (u32V cs) ?c1 ?c2 ?c3 ?c4 ?_)
    case c1 =>
      have h1 := HN.out
      have h2 := HNV.out
      have h3 : Nat.min n nv = n := Nat.min_eq_left (by omega)
      rw [h3]; simp [u32V]; exact h1.symm
    case c2 =>
      intro hpos
      try refine ⟨rfl, ?_⟩
      obtain ⟨b, off, h1, h2, h3⟩ := HG.out.2.2.2 (fun h => by rw [h] at hpos; simp [u32V] at hpos)
      refine ⟨_, h1, fun j v hj => ?_⟩
      have hjl : j < cs.length := by
        have := (List.getElem?_eq_some_iff.1 hj).1
        simpa [u32V] using this
      rw [u32V_get cs j hjl] at hj
      simp only [Option.some.injEq] at hj
      have h5 : (⟨b, off, none⟩ : Addr).add j = ⟨b, off + j, none⟩ := by unfold Addr.add; split <;> simp_all
      rw [h5, ← hj]
      exact (HB2.out.cell (p := ⟨b, off + j, none⟩) h2).trans (h3 j hjl)
    case c3 => have h1 := HN.out; have h2 := HNV.out; simp [u32V]; omega
    case c4 => intro v hv; simp only [u32V, List.mem_map] at hv; obtain ⟨x, -, rfl⟩ := hv; rfl
    intro W3 hrow hg3 hz3
    obtain ⟨hM, hE, hB3, hs3⟩ := mset_mach (k := k) (cs := cs) HS.out HW2.out (by rw [← HN.out]; exact HNV.out) (by have := HNV.out; omega) HF2.out HG.out.2.2.1 hrow.out hg3 hz3
    have HM : Hid (MachAt w.heap.size W3.heap.size (w.heap.size + 4) Vb Ob Tb nv W3 W3 ⟨cs ++ List.replicate k 0, [], F⟩ (.slice none 0 0)) := hM
    have HE : Hid (W3.heap[w.heap.size]? = some (.cells #[.slice none 0 0, .slice none 0 0, .bool false] 29)) := hE
    have HB3 : Hid (Below w.heap.size w W3) := hB3
    have HS3 : Hid (W3.heap.size = w.heap.size + 5) := hs3
    have p4 := HP4.out W3 hB3
    have HVG : Hid (w.heap.size < Vb ∧ Vb < w.heap.size + 4) := ⟨HS.out.g.1, HS.out.g.2.1⟩
    have HALL : Hid (Calls Tryz.prog 30 #[.pointer (some ⟨w.heap.size + 4, 0, none⟩), .slice ba bn bc] W3 (AllEnds w.heap.size W3.heap.size (w.heap.size + 4) Vb Ob Tb nv W3 (p.run cs F))) := by
      have hgo : p.run cs F = Fl.go p.body ⟨cs ++ List.replicate k 0, [], F⟩ := by rw [HKL.out]; rfl
      show Calls _ _ _ _ _
      rw [hgo]
      refine all_any (nc := p.chans.length) (F + 1) W3 _ _ 4 _ p.body (Nat.lt_succ_self _) HM.out ?_ ?_
      · exact PStmts.kept (fun b hb => ⟨by have := HS3.out; omega, by omega, by have := HVG.out; omega⟩) (fun b hb => HB3.out.block b hb) _ _ _ HB.out
      · have h1 := HOK.out.body
        rw [← HLEN.out, ← HKL.out, ← HN.out, ← HNV.out] at h1
        exact h1
    obtain ⟨q, hq⟩ : ∃ q, q = p.run cs F := ⟨_, rfl⟩
    rw [← hq] at HALL
    have HQ : Hid (q = p.run cs F) := hq
    clear hrow hg3 hz3 hM hE hB3 hs3 hq m0 HW2 KV HB2 HS HP3 HP4
    go_wp2_with fail
    refine Calls.mono HALL.out ?_
    rintro e W4 ⟨rfl, sv4, hM4⟩
    obtain ⟨sa, sn, sc, rfl⟩ : ∃ sa sn sc, sv4 = .slice sa sn sc := by
      rcases hM4.os.2 with ⟨h1, _⟩ | ⟨g, cp, cur, h1, _⟩
      · exact ⟨_, _, _, h1⟩
      · exact ⟨_, _, _, h1⟩
    have HM4 : Hid (MachAt w.heap.size W3.heap.size (w.heap.size + 4) Vb Ob Tb nv W3 W4 q.2 (.slice sa sn sc)) := hM4
    clear hM4 HALL p4
    go_wp2_with fail
    rw [HMS2.out]
    obtain ⟨W5, hW5⟩ : ∃ W5, W5 = W4.alloc (.cells (zerosV n) 24) := ⟨_, rfl⟩
    obtain ⟨Lb, hLb⟩ : ∃ Lb, Lb = W4.heap.size := ⟨_, rfl⟩
    have HM5 : Hid (MachAt w.heap.size W3.heap.size (w.heap.size + 4) Vb Ob Tb nv W3 W5 q.2 (.slice sa sn sc)) := HM4.out.below (by rw [hW5]; exact (Below.refl _ _).alloc (Nat.le_refl _) _)
    have m05 : W5.cell? ⟨w.heap.size + 4, 0, none⟩ = some (.slice (some ⟨Vb, 0, none⟩) nv nv) := HM5.out.cM.c 0 (by omega)
    have m15 : W5.cell? ⟨w.heap.size + 4, 1, none⟩ = some (.slice sa sn sc) := HM5.out.cM.c 1 (by omega)
    have KL : Hid (W5.heap[Lb]? = some (.cells (List.replicate n (Value.int .u32 0)).toArray 24 (0, 0))) := by
      show _ = _
      rw [hW5, hLb]; exact heap_at _ _ _ rfl
    have HL5 : Hid (W3.heap.size ≤ Lb ∧ Lb < W5.heap.size) := by
      refine ⟨?_, ?_⟩
      · rw [hLb]; exact HM4.out.hbz
      · rw [hW5, hLb]; simp
    have HTK : Hid ((q.2.vars.take n).length = n) := by
      show _ = _
      have h1 := HM5.out.hv
      have h2 := HNV.out
      rw [List.length_take]; omega
    have HOS : Hid (∀ b, (Value.slice sa sn sc).ownBlock = some b → W3.heap.size ≤ b ∧ b < Lb) := fun b hb => by rw [hLb]; exact HM4.out.os.lt b hb
    rw [← hW5, ← hLb]
    clear hW5 hLb HM4
    go_wp2_with (refine wpList_copy_at rfl (.tmp 39) (.tmp 43) 23 23 rfl 24 Tryz.underlying23 Tryz.infoU32S _ _ _ _ _ _ rfl rfl Lb 0 (List.replicate n (Value.int .u32 0)) 24 KL.out (u32V (q.2.vars.take n)) ?d1 ?d2 ?d3 ?d4 ?_)
    case d1 =>
      have h2 := HNV.out
      have h3 : Nat.min nv n = n := Nat.min_eq_right (by omega)
      rw [h3, u32V, List.length_map]; exact HTK.out
    case d2 =>
      intro hpos
      try refine ⟨rfl, ?_⟩
      try refine ⟨_, rfl, ?_⟩
      intro j v hj
      have hjl : j < (q.2.vars.take n).length := by
        have := (List.getElem?_eq_some_iff.1 hj).1
        simpa [u32V] using this
      rw [u32V_get _ j hjl] at hj
      simp only [Option.some.injEq] at hj
      have h5 : (⟨Vb, 0, none⟩ : Addr).add j = ⟨Vb, j, none⟩ := by unfold Addr.add; split <;> simp_all
      try rw [h5]
      rw [← hj]
      have hjn : j < n := by have := HTK.out; omega
      have h6 : (q.2.vars.take n).getD j 0 = q.2.vars.getD j 0 := by
        rw [List.getD_eq_getElem?_getD, List.getD_eq_getElem?_getD, List.getElem?_take, if_pos hjn]
      rw [h6]
      exact HM5.out.cV.c j (by have := HNV.out; omega)
    case d3 => have h1 := HTK.out; simp only [u32V, List.length_map, List.length_replicate]; omega
    case d4 => intro v hv; simp only [u32V, List.mem_map] at hv; obtain ⟨x, -, rfl⟩ := hv; rfl
    intro W6 hrow6 hg6 hz6
    have HR6 : Hid (W6.heap[Lb]? = some (.cells (u32V (q.2.vars.take n)).toArray 24 (0, 0))) := by
      show _ = _
      rw [hrow6.out, splice_full _ _ HTK.out.symm]
    have q6 : ∀ j, j < W5.heap.size → j ≠ Lb → W6.heap[j]? = W5.heap[j]? := fun j hj hne => hg6.block j hj (by simpa using hne)
    have m16 : W6.cell? ⟨w.heap.size + 4, 1, none⟩ = some (.slice sa sn sc) := (World.cell?_of_block (a := ⟨w.heap.size + 4, 1, none⟩) (q6 (w.heap.size + 4) (by have := HL5.out; have := HS3.out; omega) (by have := HL5.out; have := HS3.out; omega))).trans m15
    have hE6 : W6.heap[w.heap.size]? = some (.cells #[.slice none 0 0, .slice none 0 0, .bool false] 29 (0, 0)) := by
      have h1 := HL5.out
      have h2 := HS3.out
      have h3 := HVG.out
      exact (q6 _ (by omega) (by omega)).trans ((HM5.out.fx _ (by omega) (by omega) (by omega)).trans HE.out)
    have e0 : W6.cell? ⟨w.heap.size, 0, none⟩ = some (.slice none 0 0) := cell_of_row _ _ 0 _ _ (0, 0) hE6
    have e1 : W6.cell? ⟨w.heap.size, 1, none⟩ = some (.slice none 0 0) := cell_of_row _ _ 1 _ _ (0, 0) hE6
    have e2 : W6.cell? ⟨w.heap.size, 2, none⟩ = some (.bool false) := cell_of_row _ _ 2 _ _ (0, 0) hE6
    have ez : ∀ j, W6.frozen? ⟨w.heap.size, j, none⟩ = false := fun j => by simp [World.frozen?, hE6]
    have HB6 : Hid (Below w.heap.size w W6) := by
      have h1 := HB3.out.trans HM5.out.bel
      refine ⟨hg6.os.trans h1.os, hg6.tape.trans h1.tape, hg6.output.trans h1.output, by have := h1.size; omega, fun j hj => (q6 j (by have := h1.size; omega) (by have := HL5.out; have := HS3.out; omega)).trans (h1.block j hj)⟩
    have HO6 : Hid (W6.ownsRow W3.heap.size 63 2 (.slice sa sn sc) q.2.sent.length (sentV q.2.sent)) := own_same HM5.out.os (fun b hb => q6 b (by have := HOS.out b hb; have := HL5.out; omega) (by have := HOS.out b hb; omega))
    clear hrow6 hg6 hz6 q6 hE6 m05 m15 KL
    go_wp2_with fail
    obtain ⟨f0, f1, f2, fk, fs⟩ := three_set (.slice (some ⟨Lb, 0, none⟩) n n) (.slice sa sn sc) (.bool q.1) e0 e1 e2
    refine bodyPost_ret (v := .agg #[.slice (some ⟨Lb, 0, none⟩) n n, .slice sa sn sc, .bool q.1]) (by simp [results, Tryz.results17, go_sem, f0, f1, f2]) rfl ?_
    rw [← HQ.out]
    have h1 := HL5.out
    have h2 := HS3.out
    refine ⟨Lb, _, rfl, ((HB6.out.setCell (Nat.le_refl _) _).setCell (Nat.le_refl _) _).setCell (Nat.le_refl _) _, by omega, (fk Lb (by omega)).trans HR6.out, HTK.out, HM5.out.vb, ?_, fun h => ?_, ?_⟩
    · exact owns_less (own_same HO6.out (fun b hb => fk b (by have := HOS.out b hb; omega))) (by omega)
    · have := HOS.out Lb h; omega
    · have := HM5.out.sl; omega
end Go.Proofs.YthfacjlghcdndaaGreatDoor

namespace Go.Proofs.YthfacjlghcdndaaGreatDoor
open Go.RowKit
theorem do_any {lo base Kb Vb nv nc : Nat} {va : Option Addr} {vc : Nat} {w0 : World} (f : Nat) : DoOk lo base Kb Vb nv nc va vc w0 f := by
  induction f with
  | zero => exact fun w m sv d v l hm => absurd hm (Nat.not_lt_zero _)
  | succ f ih => exact do_step ih
theorem run_append_u32e (w : World) (ao : Option Addr) (c : Nat) (ty : TypeId) {i : TypeInfo} (hi : Tryz.prog.info? 24 = some i) : (Builtin.append_ #[23, 23] ty #[.slice none 0 0, .slice ao 0 c]).run Tryz.prog w = .ok (.slice none 0 0) w := by
  cases ao with
  | none => simp [Builtin.append_, run_underlying Tryz.underlying23, sizeOf, typeInfo, hi, Builtin.lenOf, Builtin.firstCells]
  | some a => simp [Builtin.append_, run_underlying Tryz.underlying23, sizeOf, typeInfo, hi, Builtin.lenOf, Builtin.firstCells, loadCells, loadCellsFrom]
theorem wpList_append_u32 {w : World} {ops : Array Oper} {rest : List Oper} {o : Oper} {a : Act} {Q : Exit → Act → World → Prop} (hgd : o.guard = none) (s x : Operand)
    (ho : o.op = .call { callee := .builtin .append, args := #[s, x], argTypes := #[23, 23] }) (hs : a.eval s = .slice none 0 0) (xv : Value) (hx : a.eval x = xv) (xs : List Nat) (hin : U32At w xv xs) (hlen : xs.length ≤ 100000) (base : Nat) (hbase : base ≤ w.heap.size)
    (h : ∀ v' w', w'.ownsRow base 24 1 v' xs.length (u32V xs) → Below w.heap.size w w' → (v'.ownBlock = none ∨ v'.ownBlock = some w.heap.size) → wpList Tryz.prog ops Q rest (a.put o.dst v') w') : wpList Tryz.prog ops Q (o :: rest) a w := by
  obtain ⟨i0, hi, hz0, hz1, hz2⟩ := info_parts Tryz.infoU32P
  obtain ⟨ao, cap, rfl, hc, hm, hvb, hcell⟩ := hin
  by_cases hne : xs = []
  · subst hne
    have hrun := run_append_u32e w ao cap o.type hi
    refine wpList_plain hgd fun K hK => ?_
    unfold Oper.wp
    simp only [List.length_nil] at hx
    simp [execOp, ho, resolve, invoke, builtin, hs, hx, hrun, Result.andThen]
    exact hK _ _ (h _ _ (World.ownsRow_nil _ _ _ _) (Below.refl _ _) (.inl rfl))
  · obtain ⟨b, off, rfl, hbB, hcells⟩ := hcell hne
    refine wpList_append_at _ hgd s x 23 ho base 24 i0 (.int .u32 0) 1 4 Tryz.underlying23 hi hz0 hz1 hz2 rfl (by decide) _ 0 [] hs (World.ownsRow_nil _ _ _ _) ⟨b, off, none⟩ xs.length cap (u32V xs) hx (by simp [u32V]) (List.length_pos_iff.2 hne) ?_ ?_ (by unfold maxLen; omega) (by omega) hbase ?_
    · intro j u hj
      have hjl : j < xs.length := by
        have := (List.getElem?_eq_some_iff.1 hj).1
        simpa [u32V] using this
      rw [u32V_get xs j hjl] at hj
      simp only [Option.some.injEq] at hj
      have h2 : (⟨b, off, none⟩ : Addr).add j = ⟨b, off + j, none⟩ := by unfold Addr.add; split <;> simp_all
      rw [h2, ← hj]; exact hcells j hjl
    · intro u hu; simp only [u32V, List.mem_map] at hu; obtain ⟨y, _, rfl⟩ := hu; rfl
    · intro v' w' hown hg hwh
      rw [Nat.zero_add, List.nil_append] at hown
      exact h v' w' hown ((Below.refl _ _).grown hg (Nat.le_refl _) (fun k hk => by simp [Value.ownBlock] at hk)) hwh
structure WantAt (base : Nat) (w : World) (n : Nat) (q : Bool × Fl.MS) (va : Option Addr) (vc : Nat) (sv : Value) : Prop where
  cp : n ≤ vc ∧ vc ≤ maxLen
  ce : n ≠ 0 → ∃ Vb, va = some ⟨Vb, 0, none⟩ ∧ base ≤ Vb ∧ Vb < w.heap.size ∧ ∀ i, i < n → w.cell? ⟨Vb, i, none⟩ = some (.int .u32 (q.2.vars.getD i 0))
  os : w.ownsRow base 63 2 sv q.2.sent.length (sentV q.2.sent)
  sl : q.2.sent.length ≤ 2000
theorem WantAt.kept {base base' : Nat} {w w' : World} {n : Nat} {q : Bool × Fl.MS} {va : Option Addr} {vc : Nat} {sv : Value} (h : WantAt base w n q va vc sv) (hb : base' ≤ base) (hz : w.heap.size ≤ w'.heap.size) (hk : ∀ b, base ≤ b → b < w.heap.size → w'.heap[b]? = w.heap[b]?) : WantAt base' w' n q va vc sv :=
  ⟨h.cp, fun hn => by
    obtain ⟨Vb, h1, h2, h3, h4⟩ := h.ce hn
    exact ⟨Vb, h1, by omega, by omega, fun i hi => (World.cell?_of_block (a := ⟨Vb, i, none⟩) (hk Vb h2 h3)).trans (h4 i hi)⟩,
   owns_less (own_same h.os (fun b hb => hk b (h.os.lt b hb).1 (h.os.lt b hb).2)) hb, h.sl⟩
def RRunEnds (n : Nat) (q : Bool × Fl.MS) (w : World) (e : Ending) (w' : World) : Prop :=
  Below w.heap.size w w' ∧ ∃ va vc sa sn sc, e = .returned (.agg #[.slice va n vc, .slice sa sn sc, .bool q.1]) ∧ WantAt w.heap.size w' n q va vc (.slice sa sn sc)
structure RnSet (w W : World) (Kb n : Nat) (cs : List Nat) (k F : Nat) (vv : Value) : Prop where
  be : Below w.heap.size w W
  e : W.heap[w.heap.size]? = some (.cells #[.slice none 0 0, .slice none 0 0, .bool false] 29 (0, 0))
  kb : w.heap.size < Kb ∧ Kb < W.heap.size
  cK : Cells W Kb 3 (rw_ [vv, .slice none 0 0, .int .i64 F])
  ov : W.ownsRow (w.heap.size + 1) 24 1 vv (n + k) (u32V (cs ++ List.replicate k 0))
  ne : vv.ownBlock ≠ some Kb
theorem RnSet.run {w W : World} {Kb n k F : Nat} {cs : List Nat} {vv : Value} (h : RnSet w W Kb n cs k F vv) (hn : n = cs.length) (hnv : n + k ≤ 10) (hF : F ≤ 2000) (hb : ∀ x ∈ cs, x < 4294967296) :
    ∃ Vb va vc, vv = .slice va (n + k) vc ∧ RunAt w.heap.size W.heap.size Kb Vb (n + k) va vc W W ⟨cs ++ List.replicate k 0, [], F⟩ (.slice none 0 0) ∧ (n + k = 0 ∨ w.heap.size < Vb) := by
  have hkb := h.kb
  have hvb : ∀ x ∈ cs ++ List.replicate k 0, x < 4294967296 := fun x hx => by
    rcases List.mem_append.1 hx with h1 | h1
    · exact hb x h1
    · have := List.eq_of_mem_replicate h1; omega
  have hlen : (cs ++ List.replicate k 0).length = n + k := by simp [hn]
  have hbz := h.be.size
  have hmk : ∀ (Vb : Nat) (va : Option Addr) (vc : Nat), vv = .slice va (n + k) vc → (n + k ≠ 0 → va = some ⟨Vb, 0, none⟩) → n + k ≤ vc ∧ vc ≤ maxLen → w.heap.size ≤ Vb → Vb < W.heap.size → Kb ≠ Vb → Cells W Vb (n + k) (fun i => .int .u32 (((cs ++ List.replicate k 0).getD i 0 : Nat) : Int)) → RunAt w.heap.size W.heap.size Kb Vb (n + k) va vc W W ⟨cs ++ List.replicate k 0, [], F⟩ (.slice none 0 0) := fun Vb va vc h1 h2 h3 h4 h5 h6 h7 =>
    { inn := ⟨⟨by omega, by omega, by omega⟩, ⟨by omega, h5⟩, h6, hnv⟩, bel := Below.refl _ _, fx := fun _ _ _ _ => rfl, hbz := Nat.le_refl _, ha := h2, hc := h3, cK := by rw [← h1]; exact h.cK, hv := hlen, cV := h7, vb := hvb, sl := by simp; exact hF, os := ⟨rfl, .inl ⟨rfl, rfl⟩⟩ }
  rcases h.ov.2 with ⟨h1, h2⟩ | ⟨g, cap, cur, h1, h2, h3, h4, h5, h6, h7⟩
  · refine ⟨w.heap.size, none, 0, by rw [h1, h2], hmk _ _ _ (by rw [h1, h2]) (fun h => absurd h2 h) (by simp [h2, maxLen]) (Nat.le_refl _) (by omega) (by omega) ⟨fun j hj => by omega, fun j => by simp [World.frozen?, h.e]⟩, .inl h2⟩
  · have hgz : g < W.heap.size := Classical.byContradiction fun hn => by rw [Array.getElem?_eq_none (by omega)] at h3; cases h3
    refine ⟨g, _, cap, h1, hmk _ _ _ h1 (fun _ => rfl) ⟨h4, h5⟩ (by omega) hgz (fun hh => h.ne (by rw [h1, ← hh]; rfl)) ⟨fun j hj => ?_, fun j => by simp [World.frozen?, h3]⟩, .inr (by omega)⟩
    have h8 := h.ov.cells (g := g) (by rw [h1]; rfl) j (.int .u32 (((cs ++ List.replicate k 0).getD j 0 : Nat) : Int)) (u32V_get _ j (by rw [hlen]; exact hj))
    have h9 : (⟨g, 0, none⟩ : Addr).add j = ⟨g, j, none⟩ := by unfold Addr.add; split <;> simp_all
    rw [h9] at h8; exact h8
end Go.Proofs.YthfacjlghcdndaaGreatDoor

namespace Go.Proofs.YthfacjlghcdndaaGreatDoor
open Go.RowKit
theorem rnset_start {w W1 : World} {n F : Nat} {cs : List Nat} {v1 : Value} (hn : n = cs.length) (hB1 : Below (w.heap.size + 1) (w.alloc (.cells #[.slice none 0 0, .slice none 0 0, .bool false] 29)) W1) (ho : W1.ownsRow (w.heap.size + 1) 24 1 v1 cs.length (u32V cs)) :
    RnSet w (W1.alloc (.cells #[v1, .slice none 0 0, .int .i64 F] 60)) W1.heap.size n cs 0 F v1 := by
  have hz := hB1.size
  simp at hz
  have hbw : Below w.heap.size w W1 := ((Below.refl _ w).alloc (Nat.le_refl _) _).trans (hB1.mono (by simp))
  refine ⟨hbw.alloc (by omega) _, ?_, ⟨by omega, by simp⟩, Cells.new W1 [v1, .slice none 0 0, .int .i64 F] _, ?_, fun h => ?_⟩
  · rw [heap_before _ _ _ (by omega), hB1.block _ (by simp)]; exact heap_at _ _ _ rfl
  · rw [Nat.add_zero, hn, List.replicate_zero, List.append_nil]
    exact own_same ho (fun b hb => heap_before _ _ _ (ho.lt b hb).2)
  · have := (ho.lt _ h).2; omega
theorem RnSet.step {w W W3 : World} {Kb n k F : Nat} {cs : List Nat} {vv v' : Value} (h : RnSet w W Kb n cs k F vv) (o : Obj) (ho : W3.ownsRow (w.heap.size + 1) 24 1 v' (n + k + 1) (u32V (cs ++ List.replicate k 0) ++ [.int .u32 0])) (hg : (W.alloc o).grownBy W3 vv.ownBlock) (hwh : v'.ownBlock = vv.ownBlock ∨ v'.ownBlock = some (W.heap.size + 1)) :
    RnSet w (W3.setCell ⟨Kb, 0, none⟩ v') Kb n cs (k + 1) F v' := by
  have hkb := h.kb
  have hz := hg.size
  simp at hz
  have hlt := h.ov.lt
  have q : ∀ b, b < W.heap.size → vv.ownBlock ≠ some b → W3.heap[b]? = W.heap[b]? := fun b h1 h2 => (hg.block b (by simp; omega) (Ne.symm h2)).trans (heap_before _ _ _ h1)
  have hE : vv.ownBlock ≠ some w.heap.size := fun hh => by have := (hlt _ hh).1; omega
  have hne' : v'.ownBlock ≠ some Kb := fun hh => by
    rcases hwh with h1 | h1
    · rw [h1] at hh; exact h.ne hh
    · rw [h1] at hh; simp only [Option.some.injEq] at hh; omega
  have hb3 : Below w.heap.size w W3 := (h.be.alloc (by omega) o).grown hg (by simp; omega) (fun b hb => by have := (hlt b hb).1; omega)
  refine ⟨hb3.setCell (by show w.heap.size ≤ Kb; omega) _, ?_, ⟨hkb.1, by rw [setCell_size]; omega⟩, ?_, ?_, hne'⟩
  · rw [setCell_block _ _ _ _ _ (by omega), q _ (by omega) hE]; exact h.e
  · refine ((h.cK.block (q Kb (by omega) h.ne)).set (j := 0) (by omega) v').congr (fun j hj => ?_)
    rcases (show j = 0 ∨ j = 1 ∨ j = 2 by omega) with rfl | rfl | rfl <;> rfl
  · have e1 : u32V (cs ++ List.replicate (k + 1) 0) = u32V (cs ++ List.replicate k 0) ++ [.int .u32 0] := by simp [u32V, List.replicate_succ']
    rw [e1, ← Nat.add_assoc]
    exact own_same ho (fun b hb => setCell_block _ _ _ _ _ (fun hh => hne' (by rw [← hh]; exact hb)))
set_option maxRecDepth 100000 in
set_option maxHeartbeats 4000000 in
theorem rrun_any {w : World} {Pb : Nat} {p : Fl.Prog} {cv : Value} {cs : List Nat} (F : Nat) (hF : F ≤ 2000) (a b clv chv bv : Value) (hPz : Pb < w.heap.size) (hP : Cells w Pb 6 (rw_ [a, b, clv, chv, .int .i64 p.locals, bv])) (hB : RStmts 4 (fun b => b < w.heap.size) w bv p.body) (hok : p.Ok) (hcs : U32At w cv cs) (hlen : cs.length = p.cells.length) :
    Calls Tryz.prog 7 #[.pointer (some ⟨Pb, 0, none⟩), cv, .int .i64 F] w (RRunEnds cs.length (p.run cs F) w) := by
  have hlo := hok.lo
  have hce := hok.ce
  obtain ⟨k, hk⟩ : ∃ k, k = p.locals := ⟨_, rfl⟩
  obtain ⟨n, hn⟩ : ∃ n, n = cs.length := ⟨_, rfl⟩
  have n6 : (n : Int) ≤ 6 := by omega
  have k4 : (k : Int) ≤ 4 := by omega
  have HP4 : Hid (∀ W, Below w.heap.size w W → W.cell? ⟨Pb, 4, none⟩ = some (.int .i64 k)) := fun W hW => by
    rw [hk]; exact (hW.cell (p := ⟨Pb, 4, none⟩) hPz).trans (hP.c 4 (by omega))
  have HP5 : Hid (∀ W, Below w.heap.size w W → W.cell? ⟨Pb, 5, none⟩ = some bv) := fun W hW => (hW.cell (p := ⟨Pb, 5, none⟩) hPz).trans (hP.c 5 (by omega))
  have HCS : Hid (∀ W, Below w.heap.size w W → U32At W cv cs) := fun W hW => by
    obtain ⟨ao, cap, h1, h2, h3, h4, h5⟩ := hcs
    refine ⟨ao, cap, h1, h2, h3, h4, fun hne => ?_⟩
    obtain ⟨b, off, e, hlt, hc⟩ := h5 hne
    exact ⟨b, off, e, Nat.lt_of_lt_of_le hlt hW.size, fun i hi => (hW.cell (p := ⟨b, off + i, none⟩) hlt).trans (hc i hi)⟩
  have HVB : Hid (∀ x ∈ cs, x < 4294967296) := by obtain ⟨ao, cap, h1, h2, h3, h4, h5⟩ := hcs; exact h4
  obtain ⟨ca, cc, rfl⟩ : ∃ ca cc, cv = .slice ca n cc := by obtain ⟨ao, cap, h1, -⟩ := hcs; exact ⟨_, _, by rw [hn]; exact h1⟩
  have HB : Hid (RStmts 4 (fun b => b < w.heap.size) w bv p.body) := hB
  obtain ⟨ba, bn, bc, rfl⟩ := hB.slice
  have HOK : Hid p.Ok := hok
  have HLEN : Hid (cs.length = p.cells.length) := hlen
  have HN : Hid (n = cs.length) := hn
  have HKL : Hid (k = p.locals) := hk
  have HF : Hid (F ≤ 2000) := hF
  have hF2 : (F : Int) ≤ 2000 := by omega
  have HCL : Hid (cs.length ≤ 100000) := by show _ ≤ _; omega
  rw [← hn]
  clear hP hB hok hcs hlen hn hk hlo hce hPz hF
  go_enter Tryz.func7, Tryz.ntmps7
  go_wp2_with (at_builtin; refine wpList_append_u32 rfl (.const (.slice none 0 0)) (.tmp 10) rfl rfl _ rfl cs (HCS.out _ ((Below.refl _ _).alloc (Nat.le_refl _) _)) HCL.out (w.heap.size + 1) (by simp) ?_)
  intro v1 W1 hown1 hB1 hwh1
  obtain ⟨va1, vc1, rfl⟩ : ∃ va vc, v1 = .slice va n vc := by
    rcases hown1.2 with ⟨h1, h2⟩ | ⟨g, cp, cur, h1, _⟩
    · exact ⟨none, 0, by rw [h1, HN.out, h2]⟩
    · exact ⟨_, cp, by rw [HN.out]; exact h1⟩
  have HS : Hid (RnSet w (W1.alloc (.cells #[.slice va1 n vc1, .slice none 0 0, .int .i64 F] 60)) W1.heap.size n cs 0 F (.slice va1 n vc1)) := rnset_start HN.out hB1 hown1
  obtain ⟨Kb, hKb⟩ : ∃ Kb, Kb = W1.heap.size := ⟨_, rfl⟩
  rw [← hKb] at HS
  clear hown1 hB1 hwh1
  go_wp2_with fail
  rw [← hKb]
  clear hKb
  go_loopw [8] (fun i wr => ∃ (j : Nat) (vv : Value), i = .int .i64 j ∧ j ≤ k ∧ RnSet w wr Kb n cs j F vv) (fun i _ => k - (intOf i).toNat)
  case atStart => exact ⟨0, _, rfl, Nat.zero_le _, HS.out⟩
  case round =>
    obtain ⟨j, vv, rfl, hj, hS⟩ := hrel
    have HS1 : Hid (RnSet w wr Kb n cs j F vv) := hS
    obtain ⟨va, vc, rfl⟩ : ∃ va vc, vv = .slice va (n + j) vc := by
      rcases hS.ov.2 with ⟨h1, h2⟩ | ⟨g, cp, cur, h1, _⟩
      · exact ⟨none, 0, by rw [h1, h2]⟩
      · exact ⟨_, cp, h1⟩
    have p4 := HP4.out wr hS.be
    have k0 : wr.cell? ⟨Kb, 0, none⟩ = some (.slice va (n + j) vc) := hS.cK.c 0 (by omega)
    have zK := hS.cK.z
    have hkz := hS.kb
    clear hS HS
    by_cases hjk : j < k
    · have hjI : (j : Int) < (k : Int) := by omega
      obtain ⟨i0, hi0, hz0, hzs, hzb⟩ := info_parts Tryz.infoU32P
      have HOV : Hid (∀ o, (wr.alloc o).ownsRow (w.heap.size + 1) 24 1 (.slice va (n + j) vc) (n + j) (u32V (cs ++ List.replicate j 0))) := fun o => own_same HS1.out.ov (fun b hb => heap_before _ _ _ (HS1.out.ov.lt b hb).2)
      go_wp2_with (at_builtin; refine wpList_append_at _ rfl (.tmp 27) (.tmp 28) 23 rfl (w.heap.size + 1) 24 i0 (.int .u32 0) 1 4 Tryz.underlying23 hi0 hz0 hzs hzb rfl (by decide) _ _ _ rfl (HOV.out _) ⟨wr.heap.size, 0, none⟩ 1 1 [.int .u32 0] rfl rfl (by decide) str_cell_new ?c2 ?c3 ?c4 ?c5 ?_)
      case c2 => intro u hu; simp at hu; subst hu; rfl
      case c3 => unfold maxLen; omega
      case c4 => omega
      case c5 => simp; omega
      intro v' W3 hown3 hg3 hwh3
      have HS2 : Hid (RnSet w (W3.setCell ⟨Kb, 0, none⟩ v') Kb n cs (j + 1) F v') := HS1.out.step _ hown3 hg3 hwh3
      obtain ⟨va', vcap, rfl⟩ : ∃ va vcap, v' = .slice va (n + j + 1) vcap := by
        rcases hown3.2 with ⟨h1, h2⟩ | ⟨g, cp, cur, h1, _⟩
        · omega
        · exact ⟨_, cp, h1⟩
      have hqK : W3.heap[Kb]? = wr.heap[Kb]? := (hg3.block Kb (by simp; omega) (Ne.symm HS1.out.ne)).trans (heap_before _ _ _ hkz.2)
      have g0 : W3.cell? ⟨Kb, 0, none⟩ = some (.slice va (n + j) vc) := (World.cell?_of_block (a := ⟨Kb, 0, none⟩) hqK).trans k0
      have gz : ∀ i, W3.frozen? ⟨Kb, i, none⟩ = false := fun i => (World.frozen?_of_block (a := ⟨Kb, i, none⟩) hqK).trans (zK i)
      clear hown3 hg3 hwh3 hqK HOV k0 zK p4
      go_wp2
      go_roundw
      case rel => exact ⟨j + 1, _, by go_num, by omega, HS2.out⟩
      case measure => simp [intOf]; omega
    · have hjI : ¬ (j : Int) < (k : Int) := by omega
      obtain rfl : j = k := by omega
      obtain ⟨Vb, va2, vc2, hvv, hR, hVb⟩ := HS1.out.run HN.out (by omega) HF.out HVB.out
      simp only [Value.slice.injEq] at hvv
      obtain ⟨rfl, -, rfl⟩ := hvv
      have HRA : Hid (RunAt w.heap.size wr.heap.size Kb Vb (n + j) va vc wr wr ⟨cs ++ List.replicate j 0, [], F⟩ (.slice none 0 0)) := hR
      have HDO : Hid (Calls Tryz.prog 15 #[.pointer (some ⟨Kb, 0, none⟩), .slice ba bn bc] wr (DoEnds w.heap.size wr.heap.size Kb Vb (n + j) va vc wr wr (.slice none 0 0) (p.run cs F))) := by
        have hgo : p.run cs F = Fl.go p.body ⟨cs ++ List.replicate j 0, [], F⟩ := by rw [HKL.out]; rfl
        show Calls _ _ _ _ _
        rw [hgo]
        refine do_any (nc := p.chans.length) (F + 1) wr _ _ 4 _ p.body (Nat.lt_succ_self _) hR ?_ ?_
        · refine RStmts.kept (fun b hb => ⟨?_, ?_, ?_⟩) (fun b hb => HS1.out.be.block b hb) _ _ _ HB.out
          · have := HS1.out.be.size; omega
          · omega
          · have := hR.inn.hlo; omega
        · have h1 := HOK.out.body
          rw [← HLEN.out, ← HKL.out, ← HN.out] at h1
          exact h1
      have p5 := HP5.out wr HS1.out.be
      obtain ⟨q, hq⟩ : ∃ q, q = p.run cs F := ⟨_, rfl⟩
      rw [← hq] at HDO
      have HQ : Hid (q = p.run cs F) := hq
      have HVB2 : Hid (n + j = 0 ∨ w.heap.size < Vb) := hVb
      clear hR hq hVb
      go_wp2_with fail
      refine Calls.mono HDO.out ?_
      rintro e W4 ⟨rfl, sv4, hM4, -⟩
      obtain ⟨sa, sn, sc, rfl⟩ : ∃ sa sn sc, sv4 = .slice sa sn sc := by
        rcases hM4.os.2 with ⟨h1, _⟩ | ⟨g, cp, cur, h1, _⟩
        · exact ⟨_, _, _, h1⟩
        · exact ⟨_, _, _, h1⟩
      have k0' : W4.cell? ⟨Kb, 0, none⟩ = some (.slice va (n + j) vc) := hM4.cK.c 0 (by omega)
      have k1' : W4.cell? ⟨Kb, 1, none⟩ = some (.slice sa sn sc) := hM4.cK.c 1 (by omega)
      have hE4 : W4.heap[w.heap.size]? = some (.cells #[.slice none 0 0, .slice none 0 0, .bool false] 29 (0, 0)) := (hM4.fx _ (by have := HS1.out.be.size; omega) (by omega) (by rcases HVB2.out with h | h; exact .inl h; exact .inr (by omega))).trans HS1.out.e
      have e0 : W4.drew.cell? ⟨w.heap.size, 0, none⟩ = some (.slice none 0 0) := cell_of_row W4 _ 0 _ _ (0, 0) hE4
      have e1 : W4.drew.cell? ⟨w.heap.size, 1, none⟩ = some (.slice none 0 0) := cell_of_row W4 _ 1 _ _ (0, 0) hE4
      have e2 : W4.drew.cell? ⟨w.heap.size, 2, none⟩ = some (.bool false) := cell_of_row W4 _ 2 _ _ (0, 0) hE4
      have ez : ∀ i, W4.drew.frozen? ⟨w.heap.size, i, none⟩ = false := fun i => by show W4.frozen? _ = _; simp [World.frozen?, hE4]
      have i0' : W4.cell? ⟨w.heap.size, 0, none⟩ = some (.slice none 0 0) := e0
      have i1' : W4.cell? ⟨w.heap.size, 1, none⟩ = some (.slice none 0 0) := e1
      have i2' : W4.cell? ⟨w.heap.size, 2, none⟩ = some (.bool false) := e2
      have iz' : ∀ i, W4.frozen? ⟨w.heap.size, i, none⟩ = false := ez
      have hc := hM4.hc
      have hcI : (n : Int) ≤ (vc : Int) := by omega
      have HEND : Hid (∀ W6, (∀ b, b ≠ w.heap.size → W6.heap[b]? = W4.heap[b]?) → W6.heap.size = W4.heap.size → Below w.heap.size w W6 → RRunEnds n q w (.returned (.agg #[.slice va n vc, .slice sa sn sc, .bool q.1])) W6) := fun W6 h1 h2 h3 => by
        refine ⟨h3, va, vc, sa, sn, sc, rfl, ⟨⟨by omega, hc.2⟩, fun hn0 => ?_, ?_, by have := hM4.sl; omega⟩⟩
        · have h4 : w.heap.size < Vb := by rcases HVB2.out with h | h; exact absurd h (by omega); exact h
          refine ⟨Vb, hM4.ha (by omega), by omega, by rw [h2]; have := hM4.inn.hba; have := hM4.hbz; omega, fun i hi => (World.cell?_of_block (a := ⟨Vb, i, none⟩) (h1 Vb (by omega))).trans (hM4.cV.c i (by omega))⟩
        · refine owns_less (own_same hM4.os (fun b hb => h1 b ?_)) (Nat.le_trans HS1.out.be.size (Nat.le_refl _))
          have := (hM4.os.lt b hb).1
          have := HS1.out.be.size
          omega
      have HB4 : Hid (Below w.heap.size w W4) := HS1.out.be.trans hM4.bel
      clear HDO HS1 HRA p5 k0 zK p4 hE4 hM4
      by_cases hvc : vc = 0
      · subst hvc
        obtain rfl : n = 0 := by omega
        obtain rfl : j = 0 := by omega
        go_wp2_with fail
        refine wp_region_late (fun W => W.cell? ⟨Kb, 0, none⟩ = some (.slice va 0 0) ∧ W.cell? ⟨Kb, 1, none⟩ = some (.slice sa sn sc)) [13] [(0, 0), (0, 1), (0, 2), (0, 3), (0, 4), (0, 5), (0, 6), (0, 7), (0, 8), (0, 9), (0, 10), (0, 11), (0, 12), (2, 13)] [] (by kernel_rfl) (by kernel_rfl) rfl [(_, _), (_, _), (_, _), (_, _), (_, _), (_, _), (_, _), (_, _), (_, _), (_, _), (_, _), (_, _), (_, _), (_, _)] rfl (fun c a d v w h => by cases d <;> exact h) ⟨k0', k1'⟩ (fun ops hG => ?_)
        clear hG
        simp only [List.getElem_toArray, List.getElem_cons_succ, List.getElem_cons_zero]
        iterate 13
          refine late_read rfl (fun K hK => ?_)
          apply Exists.intro
          refine ⟨fun w' hw' => ?_, ?_⟩
          · obtain ⟨x0, x1⟩ := hw'
            go_simp
            try with_reducible rfl
          go_simp
          refine hK _ ?_
          clear hK K
        refine late_late ?_
        go_wp2_with fail
        refine late_end ?_
        go_wp2_with fail
        obtain ⟨f0, f1, f2, fk, fs⟩ := three_set (.slice va 0 0) (.slice sa sn sc) (.bool q.1) i0' i1' i2'
        have HBX : Below w.heap.size w (((W4.setCell ⟨w.heap.size, 0, none⟩ (.slice va 0 0)).setCell ⟨w.heap.size, 1, none⟩ (.slice sa sn sc)).setCell ⟨w.heap.size, 2, none⟩ (.bool q.1)) := ((HB4.out.setCell (Nat.le_refl _) _).setCell (Nat.le_refl _) _).setCell (Nat.le_refl _) _
        generalize ((W4.setCell ⟨w.heap.size, 0, none⟩ (.slice va 0 0)).setCell ⟨w.heap.size, 1, none⟩ (.slice sa sn sc)).setCell ⟨w.heap.size, 2, none⟩ (.bool q.1) = X at *
        refine bodyPost_ret (v := .agg #[.slice va 0 0, .slice sa sn sc, .bool q.1]) (by simp [results, Tryz.results7, go_sem, f0, f1, f2]) rfl ?_
        rw [← HQ.out]
        exact HEND.out X.drew (fun b hb => fk b hb) fs HBX.drew
      · go_wp2_with fail
        refine wp_region_late (fun W => W.cell? ⟨Kb, 0, none⟩ = some (.slice va (n + j) vc) ∧ W.cell? ⟨Kb, 1, none⟩ = some (.slice sa sn sc)) [13] [(0, 0), (0, 1), (0, 2), (0, 3), (0, 4), (0, 5), (0, 6), (0, 7), (0, 8), (0, 9), (0, 10), (0, 11), (0, 12), (2, 13)] [] (by kernel_rfl) (by kernel_rfl) rfl [(_, _), (_, _), (_, _), (_, _), (_, _), (_, _), (_, _), (_, _), (_, _), (_, _), (_, _), (_, _), (_, _), (_, _)] rfl (fun c a d v w h => by cases d <;> exact h) ⟨k0', k1'⟩ (fun ops hG => ?_)
        clear hG
        simp only [List.getElem_toArray, List.getElem_cons_succ, List.getElem_cons_zero]
        iterate 13
          refine late_read rfl (fun K hK => ?_)
          apply Exists.intro
          refine ⟨fun w' hw' => ?_, ?_⟩
          · obtain ⟨x0, x1⟩ := hw'
            go_simp
            try with_reducible rfl
          go_simp
          refine hK _ ?_
          clear hK K
        refine late_late ?_
        go_wp2_with fail
        refine late_end ?_
        go_wp2_with fail
        obtain ⟨f0, f1, f2, fk, fs⟩ := three_set (.slice va n vc) (.slice sa sn sc) (.bool q.1) i0' i1' i2'
        have HBX : Below w.heap.size w (((W4.setCell ⟨w.heap.size, 0, none⟩ (.slice va n vc)).setCell ⟨w.heap.size, 1, none⟩ (.slice sa sn sc)).setCell ⟨w.heap.size, 2, none⟩ (.bool q.1)) := ((HB4.out.setCell (Nat.le_refl _) _).setCell (Nat.le_refl _) _).setCell (Nat.le_refl _) _
        generalize ((W4.setCell ⟨w.heap.size, 0, none⟩ (.slice va n vc)).setCell ⟨w.heap.size, 1, none⟩ (.slice sa sn sc)).setCell ⟨w.heap.size, 2, none⟩ (.bool q.1) = X at *
        refine bodyPost_ret (v := .agg #[.slice va n vc, .slice sa sn sc, .bool q.1]) (by simp [results, Tryz.results7, go_sem, f0, f1, f2]) rfl ?_
        rw [← HQ.out]
        exact HEND.out X.drew (fun b hb => fk b hb) fs HBX.drew
end Go.Proofs.YthfacjlghcdndaaGreatDoor

namespace Go.Proofs.YthfacjlghcdndaaGreatDoor
open Go.RowKit
structure EndAt (base : Nat) (w : World) (n : Nat) (q : Bool × Fl.MS) (Lb : Nat) (sv : Value) : Prop where
  lb : base ≤ Lb
  row : w.heap[Lb]? = some (.cells (u32V (q.2.vars.take n)).toArray 24 (0, 0))
  len : (q.2.vars.take n).length = n
  vb : ∀ x ∈ q.2.vars, x < 4294967296
  os : w.ownsRow base 63 2 sv q.2.sent.length (sentV q.2.sent)
  ne : sv.ownBlock ≠ some Lb
  sl : q.2.sent.length ≤ 2000
theorem EndAt.lt {base : Nat} {w : World} {n : Nat} {q : Bool × Fl.MS} {Lb : Nat} {sv : Value} (h : EndAt base w n q Lb sv) : Lb < w.heap.size := by
  refine Classical.byContradiction fun hn => ?_
  have := h.row
  rw [Array.getElem?_eq_none (by omega)] at this; cases this
theorem EndAt.kept {base base' : Nat} {w w' : World} {n : Nat} {q : Bool × Fl.MS} {Lb : Nat} {sv : Value} (h : EndAt base w n q Lb sv) (hb : base' ≤ base) (hk : ∀ b, base ≤ b → b < w.heap.size → w'.heap[b]? = w.heap[b]?) : EndAt base' w' n q Lb sv :=
  ⟨by have := h.lb; omega, (hk _ h.lb h.lt).trans h.row, h.len, h.vb, owns_less (own_same h.os (fun b hb => hk b (h.os.lt b hb).1 (h.os.lt b hb).2)) hb, h.ne, h.sl⟩
def FRunEnds (q : Nat × Nat × Fl.Prog) (cs : List Nat) (F : Nat) (w : World) (e : Ending) (w' : World) : Prop :=
  Below w.heap.size w w' ∧
  ((q.1 ≠ 0 ∧ ∃ a, e = .returned (.tuple #[.agg #[.slice none 0 0, .slice none 0 0, .bool false], .iface 72 (.pointer (some ⟨a, 0, none⟩))]) ∧ w'.cell? ⟨a, 0, none⟩ = some (.int .i64 q.1) ∧ w'.cell? ⟨a, 1, none⟩ = some (.int .i64 q.2.1)) ∨
   (q.1 = 0 ∧ cs.length ≠ q.2.2.cells.length ∧ e = .returned (.tuple #[.agg #[.slice none 0 0, .slice none 0 0, .bool false], .iface 30 (.int .i64 11)])) ∨
   (q.1 = 0 ∧ cs.length = q.2.2.cells.length ∧ ∃ Lb sa sn sc, e = .returned (.tuple #[.agg #[.slice (some ⟨Lb, 0, none⟩) cs.length cs.length, .slice sa sn sc, .bool (q.2.2.run cs F).1], .nilIface]) ∧ EndAt w.heap.size w' cs.length (q.2.2.run cs F) Lb (.slice sa sn sc)))
theorem U32At.below {w w' : World} {v : Value} {l : List Nat} (h : U32At w v l) (hb : Below w.heap.size w w') : U32At w' v l := by
  obtain ⟨ao, cap, h1, h2, h3, h4, h5⟩ := h
  refine ⟨ao, cap, h1, h2, h3, h4, fun hne => ?_⟩
  obtain ⟨b, off, e, hlt, hc⟩ := h5 hne
  exact ⟨b, off, e, Nat.lt_of_lt_of_le hlt hb.size, fun i hi => (hb.cell (p := ⟨b, off + i, none⟩) hlt).trans (hc i hi)⟩
set_option maxRecDepth 100000 in
set_option maxHeartbeats 2000000 in
theorem flows_run {w : World} {l : List UInt8} {cv : Value} {cs : List Nat} (fuel : Int) (F : Nat) (hF : (F : Int) = min (max fuel 0) 2000) (hl : l.length ≤ 100000) (hg : 1 < w.heap.size) (hm : MaxLenIs w) (hcs : U32At w cv cs) (hcl : cs.length ≤ 100000) :
    Calls Tryz.prog 9 #[.string ⟨l.toArray⟩, cv, .int .i64 fuel] w (FRunEnds (Fl.readProg l) cs F w) := by
  have HRD : Hid (∀ W, Below w.heap.size w W → Calls Tryz.prog 16 #[.string ⟨l.toArray⟩] W (ReadEnds (Fl.readProg l) W)) := fun W hW => read_prog hl (by have := hW.size; omega) (by
    obtain ⟨x, hx⟩ := hm
    exact ⟨x, (hW.cell (p := ⟨1, 0, none⟩) hg).trans hx⟩)
  have HRUN : Hid (∀ W Pb p, Below w.heap.size w W → ProgAt (fun b => b < W.heap.size) W Pb p → p.Ok → cs.length = p.cells.length → Calls Tryz.prog 17 #[.pointer (some ⟨Pb, 0, none⟩), cv, .int .i64 fuel] W (MRunEnds cs.length (p.run cs F) W)) := fun W Pb p hW hp ho hlen => mrun_any fuel F hF hp ho (hcs.below hW) hlen
  have HOK : Hid ((Fl.readProg l).1 = 0 → (Fl.readProg l).2.2.Ok) := fun h => (Fl.readProg_ok l h).1
  obtain ⟨ao, cap, rfl, g1, g2, g3, g4⟩ := hcs
  obtain ⟨res, hres⟩ : ∃ res, res = Fl.readProg l := ⟨_, rfl⟩
  rw [← hres] at HRD HOK ⊢
  obtain ⟨n, hn⟩ : ∃ n, n = cs.length := ⟨_, rfl⟩
  have HN : Hid (n = cs.length) := hn
  rw [← hn] at HRUN
  rw [← hn] at hcl
  rw [← hn]
  have hnI : (n : Int) ≤ 100000 := by omega
  clear hF hl hg hm g1 g2 g3 g4 hres hn
  go_enter Tryz.func9, Tryz.ntmps9
  go_wp2_with fail
  have hB1 : Below w.heap.size w (w.alloc (.cells #[.slice none 0 0, .slice none 0 0, .bool false] 29)) := (Below.refl _ w).alloc (Nat.le_refl _) _
  refine (HRD.out _ hB1).mono ?_
  rintro e wz ⟨hB, hcase⟩
  have c0 : wz.cell? ⟨w.heap.size, 0, none⟩ = some (.slice none 0 0) := (hB.cell (p := ⟨w.heap.size, 0, none⟩) (by simp)).trans (by simp)
  have c1 : wz.cell? ⟨w.heap.size, 1, none⟩ = some (.slice none 0 0) := (hB.cell (p := ⟨w.heap.size, 1, none⟩) (by simp)).trans (by simp)
  have c2 : wz.cell? ⟨w.heap.size, 2, none⟩ = some (.bool false) := (hB.cell (p := ⟨w.heap.size, 2, none⟩) (by simp)).trans (by simp)
  have fz : ∀ j, wz.frozen? ⟨w.heap.size, j, none⟩ = false := fun j => (hB.frozen (p := ⟨w.heap.size, j, none⟩) (by simp)).trans (by simp)
  have HB : Hid (Below w.heap.size w wz) := hB1.trans (hB.mono (by simp))
  have hsz : w.heap.size + 1 ≤ wz.heap.size := by have := hB.size; simpa using this
  clear hB hB1 HRD
  rcases hcase with ⟨h0, Pb, rfl, hp⟩ | ⟨h0, a, rfl, a0, a1⟩
  · have HP : Hid (ProgAt (fun b => b < wz.heap.size) wz Pb res.2.2) := hp.kept (fun b hb => hb.2) (fun _ _ => rfl)
    have H0 : Hid (res.1 = 0) := h0
    obtain ⟨p, hpp⟩ : ∃ p, p = res.2.2 := ⟨_, rfl⟩
    have HO : Hid p.Ok := by rw [hpp]; exact HOK.out h0
    rw [← hpp] at HP
    have HPP : Hid (p = res.2.2) := hpp
    clear hp h0 hpp
    obtain ⟨Lb0, clv, chv, bv, s1, s2, hP, hL, hC, hH, hBd⟩ := id HP.out
    obtain ⟨ca, cc, rfl, k1, k2, -⟩ := hC
    have p1 : wz.cell? ⟨Pb, 1, none⟩ = some (.slice ca p.cells.length cc) := hP.c 1 (by omega)
    have hce : p.cells.length ≤ 6 := HO.out.ce
    obtain ⟨k, hk⟩ : ∃ k, k = p.cells.length := ⟨_, rfl⟩
    have HK : Hid (k = p.cells.length) := hk
    rw [← hk] at p1 hce
    have hkI : (k : Int) ≤ 6 := by omega
    clear hP hL hH hBd k1 k2 hk s1 s2
    by_cases hnk : n = k
    · have b0 : ((n : Int) == (k : Int)) = true := by simp [hnk]
      have HCALL : Hid (Calls Tryz.prog 17 #[.pointer (some ⟨Pb, 0, none⟩), .slice ao n cap, .int .i64 fuel] wz (MRunEnds n (p.run cs F) wz)) := HRUN.out wz Pb p HB.out HP.out HO.out (by rw [hnk]; exact HK.out)
      have HNK : Hid (n = k) := hnk
      obtain ⟨q, hq⟩ : ∃ q, q = p.run cs F := ⟨_, rfl⟩
      have HQ : Hid (q = p.run cs F) := hq
      rw [← hq] at HCALL
      clear hnk HRUN hq
      go_wp2_with fail
      refine Calls.mono HCALL.out ?_
      rintro e W2 ⟨Lb, sv, rfl, hB2, r1, r2, r3, r4, r5, r6, r7⟩
      obtain ⟨sa, sn, sc, rfl⟩ : ∃ sa sn sc, sv = .slice sa sn sc := by
        rcases r5.2 with ⟨h1, _⟩ | ⟨g, cp, cur, h1, _⟩
        · exact ⟨_, _, _, h1⟩
        · exact ⟨_, _, _, h1⟩
      have HEA : Hid (EndAt wz.heap.size W2 n q Lb (.slice sa sn sc)) := ⟨r1, r2, r3, r4, r5, r6, r7⟩
      have d0 : W2.cell? ⟨w.heap.size, 0, none⟩ = some (.slice none 0 0) := (hB2.cell (p := ⟨w.heap.size, 0, none⟩) (by show w.heap.size < _; omega)).trans c0
      have d1 : W2.cell? ⟨w.heap.size, 1, none⟩ = some (.slice none 0 0) := (hB2.cell (p := ⟨w.heap.size, 1, none⟩) (by show w.heap.size < _; omega)).trans c1
      have d2 : W2.cell? ⟨w.heap.size, 2, none⟩ = some (.bool false) := (hB2.cell (p := ⟨w.heap.size, 2, none⟩) (by show w.heap.size < _; omega)).trans c2
      have dz : ∀ j, W2.frozen? ⟨w.heap.size, j, none⟩ = false := fun j => (hB2.frozen (p := ⟨w.heap.size, j, none⟩) (by show w.heap.size < _; omega)).trans (fz j)
      have HB2 : Hid (Below w.heap.size w W2) := HB.out.trans (hB2.mono (by omega))
      have HSZ : Hid (w.heap.size + 1 ≤ wz.heap.size) := hsz
      clear hB2 r1 r2 r3 r4 r5 r6 r7 c0 c1 c2 fz p1 HCALL hsz
      go_wp2_with fail
      obtain ⟨f0, f1, f2, fk, fs⟩ := three_set (.slice (some ⟨Lb, 0, none⟩) n n) (.slice sa sn sc) (.bool q.1) d0 d1 d2
      refine bodyPost_ret (v := .tuple #[.agg #[.slice (some ⟨Lb, 0, none⟩) n n, .slice sa sn sc, .bool q.1], .nilIface]) (by simp [results, Tryz.results9, go_sem, f0, f1, f2]) rfl ?_
      refine ⟨((HB2.out.setCell (Nat.le_refl _) _).setCell (Nat.le_refl _) _).setCell (Nat.le_refl _) _, .inr (.inr ⟨H0.out, ?_, Lb, sa, sn, sc, ?_, ?_⟩)⟩
      · rw [← HN.out, HNK.out, HK.out, HPP.out]
      · rw [← HPP.out, ← HQ.out, ← HN.out]
      · rw [← HPP.out, ← HQ.out, ← HN.out]
        exact HEA.out.kept (by have := HSZ.out; omega) (fun b hb hb2 => fk b (by have := HSZ.out; omega))
    · have b0 : ((n : Int) == (k : Int)) = false := by simp; omega
      have HNK : Hid (n ≠ k) := hnk
      clear hnk HRUN
      go_wp2_with fail
      obtain ⟨f0, f1, f2, fk, fs⟩ := three_set (.slice none 0 0) (.slice none 0 0) (.bool false) c0 c1 c2
      refine bodyPost_ret (v := .tuple #[.agg #[.slice none 0 0, .slice none 0 0, .bool false], .iface 30 (.int .i64 11)]) (by simp [results, Tryz.results9, go_sem, f0, f1, f2]) rfl ?_
      refine ⟨((HB.out.setCell (Nat.le_refl _) _).setCell (Nat.le_refl _) _).setCell (Nat.le_refl _) _, .inr (.inl ⟨H0.out, ?_, rfl⟩)⟩
      rw [← HN.out, ← HPP.out, ← HK.out]; exact HNK.out
  · have H0 : Hid (res.1 ≠ 0) := h0
    have hqn : a ≠ w.heap.size := by intro h; rw [h, c0] at a0; cases a0
    clear h0 HRUN
    go_wp2_with fail
    obtain ⟨f0, f1, f2, fk, fs⟩ := three_set (.slice none 0 0) (.slice none 0 0) (.bool false) c0 c1 c2
    refine bodyPost_ret (v := .tuple #[.agg #[.slice none 0 0, .slice none 0 0, .bool false], .iface 72 (.pointer (some ⟨a, 0, none⟩))]) (by simp [results, Tryz.results9, go_sem, f0, f1, f2]) rfl ?_
    exact ⟨((HB.out.setCell (Nat.le_refl _) _).setCell (Nat.le_refl _) _).setCell (Nat.le_refl _) _, .inl ⟨H0.out, a, rfl, (World.cell?_of_block (a := ⟨a, 0, none⟩) (fk a hqn)).trans a0, (World.cell?_of_block (a := ⟨a, 1, none⟩) (fk a hqn)).trans a1⟩⟩
end Go.Proofs.YthfacjlghcdndaaGreatDoor
