import Derived.Test.YtminjljgedopkaaGreatDoorM23
import Derived.Test.YtminjljgedopkaaGreatDoorM26
set_option linter.all false
set_option maxRecDepth 100000
set_option maxHeartbeats 40000000
namespace Go.Proofs.YtminjljgedopkaaGreatDoor
open Go.RowKit Go.Proofs.Tryz
def yxx(ls:List Int)(ns:List Fl.Node)(la na:Option Addr)(lc nc:Nat)(w:World)(hl:Zy w.heap.size w (.slice la ls.length lc) ls)(hn:Zm w.heap.size w (.slice na ns.length nc) ns):
  Calls prog 24 #[.agg #[.slice la ls.length lc,.slice na ns.length nc]] w (Ue (Fl.encode ls ns) w):=by
 have HC:Hid (∀w1:World,Below w.heap.size w w1->Calls prog 32 #[.agg #[.slice la ls.length lc,.slice na ns.length nc]] w1 (Ue (Fl.encode ls ns) w1)):=λw1 hw=>zr1 ls ns la na lc nc w1 ((hl.below hw).mono hw.size) ((hn.below hw).mono hw.size);clear hl hn
 go_enter func24,ntmps24
 go_wp2_with fail
 have hB1:Below w.heap.size w (w.alloc (.cells #[.slice la ls.length lc,.slice na ns.length nc] 26)):=(Below.refl _ w).alloc (Nat.le_refl _) _;refine(HC.out _ hB1).mono ?_;rintro e wz ⟨hB,hgood,hbad⟩;have HB:Hid (Below w.heap.size w wz):=hB1.trans (hB.mono (by simp));clear hB hB1 HC
 cases hr:(Fl.encode ls ns).2.1 with
 |true=>
  obtain⟨va,n,c,rfl,ho⟩:=hgood hr;have HO:Hid (wz.ownsRow w.heap.size 5 1 (.slice va n c) (Fl.encode ls ns).1.length ((Fl.encode ls ns).1.map Za)):=zwy (base':=w.heap.size) ho (by simp);have HRR:Hid ((Fl.encode ls ns).2.1=true):=hr;clear hgood hbad hr ho;go_wp2
  go_ret2
  exact⟨HB.out,λ_=>⟨va,n,c,rfl,HO.out⟩,λh=>by rw[HRR.out]at h;cases h⟩
 |false=>
  have HRR:Hid ((Fl.encode ls ns).2.1=false):=hr
  by_cases h0:(Fl.encode ls ns).2.2<0
  ·obtain rfl:=(hbad hr).1 h0
   have H0:Hid ((Fl.encode ls ns).2.2<0):=h0;clear hgood hbad hr h0;go_wp2
   go_ret2
   exact⟨HB.out,λh=>(by rw[HRR.out]at h;cases h),λ_=>⟨λ_=>rfl,λh=>by have:=H0.out;omega⟩⟩
  ·obtain⟨q,rfl,q0,q1⟩:=(hbad hr).2 (by omega)
   have HQ:Hid (wz.cell? ⟨q,0,none⟩=some (.int .i64 8)/\wz.cell? ⟨q,1,none⟩=some (.int .i64 (Fl.encode ls ns).2.2)):=⟨q0,q1⟩;have H0:Hid (0<=(Fl.encode ls ns).2.2):=(by show 0<=_;omega);clear hgood hbad hr h0 q0 q1;go_wp2
   go_ret2
   exact⟨HB.out,λh=>(by rw[HRR.out]at h;cases h),λ_=>⟨λh=>(by have:=H0.out;omega),λ_=>⟨q,rfl,HQ.out.1,HQ.out.2⟩⟩⟩
def yxw(ls:List Int)(ns:List Fl.Node)(la na:Option Addr)(lc nc:Nat)(w:World)(hE:Yj w)(hl:Zy w.heap.size w (.slice la ls.length lc) ls)(hn:Zm w.heap.size w (.slice na ns.length nc) ns):
  Calls prog 12 #[.agg #[.slice la ls.length lc,.slice na ns.length nc]] w (zp9 (Fl.encode ls ns) w):=by
 have HC:Hid (∀w1:World,Below w.heap.size w w1->Calls prog 24 #[.agg #[.slice la ls.length lc,.slice na ns.length nc]] w1 (Ue (Fl.encode ls ns) w1)):=λw1 hw=>yxx ls ns la na lc nc w1 ((hl.below hw).mono hw.size) ((hn.below hw).mono hw.size);have HEB:Hid (∀o,Below w.heap.size w o->Yj o):=λo ho=>(ho.cell (p:=⟨0,0,none⟩) (World.block_lt_of_cell? w _ hE)).trans hE;clear hl hn hE
 go_enter func12,ntmps12
 go_wp2_with fail
 have hB1:Below w.heap.size w (w.alloc (.cells #[.slice la ls.length lc,.slice na ns.length nc] 26)):=(Below.refl _ w).alloc (Nat.le_refl _) _;refine(HC.out _ hB1).mono ?_;rintro e wz ⟨hB,hgood,hbad⟩;have HB:Hid (Below w.heap.size w wz):=hB1.trans (hB.mono (by simp))
 have hsz:w.heap.size+1<=wz.heap.size:=by have:=hB.size;simpa using this
 clear hB hB1 HC
 cases hr:(Fl.encode ls ns).2.1 with
 |true=>
  obtain⟨va,n,c,rfl,ho⟩:=hgood hr;have HO:Hid (wz.ownsRow w.heap.size 5 1 (.slice va n c) (Fl.encode ls ns).1.length ((Fl.encode ls ns).1.map Za)):=zwy (base':=w.heap.size) ho (by simp);have HRR:Hid ((Fl.encode ls ns).2.1=true):=hr;clear hgood hbad hr ho
  go_wp2_with fail
  refine(zy8 _).mono ?_;rintro e w2 ⟨rfl,hB2⟩;have HB2:Hid (Below w.heap.size w w2):=HB.out.trans (hB2.mono (by omega));have HO2:Hid (w2.ownsRow w.heap.size 5 1 (.slice va n c) (Fl.encode ls ns).1.length ((Fl.encode ls ns).1.map Za)):=HO.out.kept (row:=none) ⟨hB2.os,hB2.tape,hB2.output,hB2.size,λk hk _=>hB2.block k hk⟩ (by cases (Value.slice va n c).ownBlock<;>simp);clear hB2;go_wp2
  go_ret3
  exact⟨HB2.out,λh=>(by rw[HRR.out]at h;cases h),λ_=>⟨va,n,c,rfl,HO2.out⟩⟩
 |false=>
  have HRR:Hid ((Fl.encode ls ns).2.1=false):=hr
  by_cases h0:(Fl.encode ls ns).2.2<0
  ·obtain rfl:=(hbad hr).1 h0
   have H0:Hid ((Fl.encode ls ns).2.2= -1):=zpz ls ns h0;clear hgood hbad hr h0
   go_wp2_with fail
   refine(zx8 8 _ (HEB.out _ HB.out)).mono ?_;rintro e w2 ⟨rfl,hB2⟩;have HB2:Hid (Below w.heap.size w w2):=HB.out.trans (hB2.mono (by omega));clear hB2;go_wp2
   go_ret3
   exact⟨HB2.out,λ_=>by rw[H0.out];rfl,λh=>by rw[HRR.out]at h;cases h⟩
  ·obtain⟨q,rfl,q0,q1⟩:=(hbad hr).2 (by omega)
   clear hgood hbad hr h0
   go_wp2_with fail
   refine(zx2 q 0 8 (Fl.encode ls ns).2.2 _ (HEB.out _ HB.out) q0 q1).mono ?_;rintro e w2 ⟨rfl,hB2⟩;have HB2:Hid (Below w.heap.size w w2):=HB.out.trans (hB2.mono (by omega));clear hB2 q0 q1;go_wp2
   go_ret3
   exact⟨HB2.out,λ_=>rfl,λh=>by rw[HRR.out]at h;cases h⟩
end Go.Proofs.YtminjljgedopkaaGreatDoor
