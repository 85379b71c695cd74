import Derived.Test.YtminjljgedopkaaGreatDoorM21
set_option linter.all false
set_option maxRecDepth 100000
set_option maxHeartbeats 40000000
namespace Go.Proofs.YtminjljgedopkaaGreatDoor
open Go.RowKit Go.Proofs.Tryz
def yx6{ao:Option Addr}{cap:Nat}{s:List UInt8}{w:World}(hs:s.length<=1099511627776)(hb:s≠[]->∃bb bo,ao=some ⟨bb,bo,none⟩/\bb<w.heap.size/\∀i,i<s.length->w.cell? ⟨bb,bo+i,none⟩=some (.int .u8 (s.getD i 0).toNat)):
  Calls prog 21 #[.slice ao s.length cap] w (zx7 (Fl.decode s) w):=by
 have HC:Hid (∀w1:World,Below w.heap.size w w1->Calls prog 29 #[.slice ao s.length cap] w1 (zx7 (Fl.decode s) w1)):=λw1 hw=>zsw hs (λhne=>by
  obtain⟨bb,bo,ha,hlt,hc⟩:=hb hne
  exact⟨bb,bo,ha,Nat.lt_of_lt_of_le hlt hw.size,λi hi=>(hw.cell (p:=⟨bb,bo+i,none⟩) hlt).trans (hc i hi)⟩)
 clear hs hb
 go_enter func21,ntmps21
 go_wp2_with fail
 have hB1:Below w.heap.size w (w.alloc (.cells #[.slice none 0 0,.slice none 0 0] 26)):=(Below.refl _ w).alloc (Nat.le_refl _) _;refine(HC.out _ hB1).mono ?_;rintro e wz ⟨hB,hbad,hgood⟩;have c0:wz.cell? ⟨w.heap.size,0,none⟩=some (.slice none 0 0):=(hB.cell (p:=⟨w.heap.size,0,none⟩) (by simp)).trans (by simp);have c1:wz.cell? ⟨w.heap.size,1,none⟩=some (.slice none 0 0):=(hB.cell (p:=⟨w.heap.size,1,none⟩) (by simp)).trans (by simp);have fz:∀j,wz.frozen? ⟨w.heap.size,j,none⟩=false:=λj=>(hB.frozen (p:=⟨w.heap.size,j,none⟩) (by simp)).trans (by simp);have HB:Hid (Below w.heap.size w wz):=hB1.trans (hB.mono (by simp))
 have hsz:w.heap.size+1<=wz.heap.size:=by have:=hB.size;simpa using this
 clear hB hB1 HC
 cases hr:(Fl.decode s).2.1 with
 |false=>
  obtain⟨q,rfl,q0,q1⟩:=hbad hr;have HRR:Hid ((Fl.decode s).2.1=false):=hr
  have hqn:q≠w.heap.size:=by intro h;rw[h,c0]at q0;cases q0
  clear hbad hgood hr
  go_wp2_with fail
  obtain⟨e0,e1,ek,es,eb⟩:=Jq (.slice none 0 0) (.slice none 0 0) c0 c1;exact bodyPost_ret (v:=.tuple #[.agg #[.slice none 0 0,.slice none 0 0],.iface 76 (.pointer (some ⟨q,0,none⟩))]) (by simp[results,results21,go_sem,e0,e1]) rfl
   ⟨eb _ _ HB.out (Nat.le_refl _),λ_=>⟨q,rfl,(World.cell?_of_block (w:=wz) (a:=⟨q,0,none⟩) (ek q hqn)).trans q0,(World.cell?_of_block (w:=wz) (a:=⟨q,1,none⟩) (ek q hqn)).trans q1⟩,λh=>by rw[HRR.out]at h;cases h⟩
 |true=>
  obtain⟨la,n,lc,na,n',nc,rfl,hst⟩:=hgood hr;have HRR:Hid ((Fl.decode s).2.1=true):=hr;have HST:Hid (∀w'',Ys (w.heap.size+1) wz w''->Zy w''.heap.size w'' (.slice la n lc) (Fl.decode s).1.1/\Zm w''.heap.size w'' (.slice na n' nc) (Fl.decode s).1.2):=λw'' h=>hst w'' (by simpa using h);clear hbad hgood hr hst
  go_wp2_with fail
  obtain⟨e0,e1,ek,es,eb⟩:=Jq (.slice la n lc) (.slice na n' nc) c0 c1;exact bodyPost_ret (v:=.tuple #[.agg #[.slice la n lc,.slice na n' nc],.nilIface]) (by simp[results,results21,go_sem,e0,e1]) rfl
   ⟨eb _ _ HB.out (Nat.le_refl _),λh=>(by rw[HRR.out]at h;cases h),λ_=>⟨la,n,lc,na,n',nc,rfl,λw'' hs''=>HST.out w'' ⟨by have:=hs''.size;omega,λk hk hlt=>(hs''.block k (by omega) (by omega)).trans (ek k (by omega))⟩⟩⟩
def yx7(r:(List Int×List Fl.Node)×Bool×Int)(w:World)(e:Ending)(w':World):Prop:=
 Below w.heap.size w w'/\
 (r.2.1=false->e=.returned (.tuple #[.agg #[.slice none 0 0,.slice none 0 0],.int .i64 8,.int .i64 r.2.2]))/\
 (r.2.1=true->∃la n lc na n' nc,e=.returned (.tuple #[.agg #[.slice la n lc,.slice na n' nc],.int .i64 0,.int .i64 (-1)])/\∀w'',Ys w.heap.size w' w''->Zy w''.heap.size w'' (.slice la n lc) r.1.1/\Zm w''.heap.size w'' (.slice na n' nc) r.1.2)
def yx8{ao:Option Addr}{cap:Nat}{s:List UInt8}{w:World}(hE:Yj w)(hs:s.length<=1099511627776)(hb:s≠[]->∃bb bo,ao=some ⟨bb,bo,none⟩/\bb<w.heap.size/\∀i,i<s.length->w.cell? ⟨bb,bo+i,none⟩=some (.int .u8 (s.getD i 0).toNat)):
  Calls prog 10 #[.slice ao s.length cap] w (yx7 (Fl.decode s) w):=by
 have HC:Hid (∀w1:World,Below w.heap.size w w1->Calls prog 21 #[.slice ao s.length cap] w1 (zx7 (Fl.decode s) w1)):=λw1 hw=>yx6 hs (λhne=>by
  obtain⟨bb,bo,ha,hlt,hc⟩:=hb hne
  exact⟨bb,bo,ha,Nat.lt_of_lt_of_le hlt hw.size,λi hi=>(hw.cell (p:=⟨bb,bo+i,none⟩) hlt).trans (hc i hi)⟩)
 have hEB:∀o,Below w.heap.size w o->Yj o:=λo ho=>(ho.cell (p:=⟨0,0,none⟩) (World.block_lt_of_cell? w _ hE)).trans hE;have HEB:Hid (∀o,Below w.heap.size w o->Yj o):=hEB;clear hs hb hE
 go_enter func10,ntmps10
 go_wp2_with fail
 have hB1:Below w.heap.size w (w.alloc (.cells #[.slice none 0 0,.slice none 0 0] 26)):=(Below.refl _ w).alloc (Nat.le_refl _) _;refine(HC.out _ hB1).mono ?_;rintro e wz ⟨hB,hbad,hgood⟩;have c0:wz.cell? ⟨w.heap.size,0,none⟩=some (.slice none 0 0):=(hB.cell (p:=⟨w.heap.size,0,none⟩) (by simp)).trans (by simp);have c1:wz.cell? ⟨w.heap.size,1,none⟩=some (.slice none 0 0):=(hB.cell (p:=⟨w.heap.size,1,none⟩) (by simp)).trans (by simp);have fz:∀j,wz.frozen? ⟨w.heap.size,j,none⟩=false:=λj=>(hB.frozen (p:=⟨w.heap.size,j,none⟩) (by simp)).trans (by simp);have HB:Hid (Below w.heap.size w wz):=hB1.trans (hB.mono (by simp))
 have hsz:w.heap.size+1<=wz.heap.size:=by have:=hB.size;simpa using this
 clear hB hB1 HC hEB
 cases hr:(Fl.decode s).2.1 with
 |false=>
  obtain⟨q,rfl,q0,q1⟩:=hbad hr;have HRR:Hid ((Fl.decode s).2.1=false):=hr;clear hbad hgood hr
  go_wp2_with fail
  have hBq:Below w.heap.size w (wz.alloc (.cells #[.slice none 0 0,.slice none 0 0] 26)):=HB.out.alloc (by omega) _;refine(zx2 q 0 8 (Fl.decode s).2.2 _ (HEB.out _ hBq) ((World.cell?_alloc_lt _ _ _ (World.block_lt_of_cell? wz _ q0)).trans q0) ((World.cell?_alloc_lt _ _ _ (World.block_lt_of_cell? wz _ q1)).trans q1)).mono ?_;rintro e w2 ⟨rfl,hB2⟩;have hs2:wz.heap.size+1<=w2.heap.size:=(by have:=hB2.size;simpa using this);have g0:w2.cell? ⟨w.heap.size,0,none⟩=some (.slice none 0 0):=(hB2.cell (p:=⟨w.heap.size,0,none⟩) (by simp;omega)).trans ((World.cell?_alloc_lt _ _ _ (by simp;omega)).trans c0);have g1:w2.cell? ⟨w.heap.size,1,none⟩=some (.slice none 0 0):=(hB2.cell (p:=⟨w.heap.size,1,none⟩) (by simp;omega)).trans ((World.cell?_alloc_lt _ _ _ (by simp;omega)).trans c1);have gf:∀j,w2.frozen? ⟨w.heap.size,j,none⟩=false:=λj=>(hB2.frozen (p:=⟨w.heap.size,j,none⟩) (by simp;omega)).trans ((World.frozen?_alloc_old _ _ _ (by simp;omega)).trans (fz j));have p0:w2.cell? ⟨wz.heap.size,0,none⟩=some (.slice none 0 0):=(hB2.cell (p:=⟨wz.heap.size,0,none⟩) (by simp)).trans (by simp);have p1:w2.cell? ⟨wz.heap.size,1,none⟩=some (.slice none 0 0):=(hB2.cell (p:=⟨wz.heap.size,1,none⟩) (by simp)).trans (by simp);have HB2:Hid (Below w.heap.size w w2):=hBq.trans (hB2.mono (by simp;omega));have HST2:Hid (Ys w.heap.size wz w2):=(Ys.alloc _ _ _).trans (Ys.below hB2);clear hB2 hBq c0 c1 fz
  go_wp2_with fail
  obtain⟨e0,e1,ek,es,eb⟩:=Jq (.slice none 0 0) (.slice none 0 0) g0 g1;exact bodyPost_ret (v:=.tuple #[.agg #[.slice none 0 0,.slice none 0 0],.int .i64 8,.int .i64 (Fl.decode s).2.2]) (by simp[results,results10,go_sem,e0,e1]) rfl
   ⟨eb _ _ HB2.out (Nat.le_refl _),λ_=>rfl,λh=>by rw[HRR.out]at h;cases h⟩
 |true=>
  obtain⟨la,n,lc,na,n',nc,rfl,hst⟩:=hgood hr;have HRR:Hid ((Fl.decode s).2.1=true):=hr;have HST:Hid (∀w'',Ys (w.heap.size+1) wz w''->Zy w''.heap.size w'' (.slice la n lc) (Fl.decode s).1.1/\Zm w''.heap.size w'' (.slice na n' nc) (Fl.decode s).1.2):=λw'' h=>hst w'' (by simpa using h);clear hbad hgood hr hst
  go_wp2_with fail
  have hBq:Below w.heap.size w (wz.alloc (.cells #[.slice la n lc,.slice na n' nc] 26)):=HB.out.alloc (by omega) _;refine(zy8 _).mono ?_;rintro e w2 ⟨rfl,hB2⟩;have hs2:wz.heap.size+1<=w2.heap.size:=(by have:=hB2.size;simpa using this);have g0:w2.cell? ⟨w.heap.size,0,none⟩=some (.slice none 0 0):=(hB2.cell (p:=⟨w.heap.size,0,none⟩) (by simp;omega)).trans ((World.cell?_alloc_lt _ _ _ (by simp;omega)).trans c0);have g1:w2.cell? ⟨w.heap.size,1,none⟩=some (.slice none 0 0):=(hB2.cell (p:=⟨w.heap.size,1,none⟩) (by simp;omega)).trans ((World.cell?_alloc_lt _ _ _ (by simp;omega)).trans c1);have gf:∀j,w2.frozen? ⟨w.heap.size,j,none⟩=false:=λj=>(hB2.frozen (p:=⟨w.heap.size,j,none⟩) (by simp;omega)).trans ((World.frozen?_alloc_old _ _ _ (by simp;omega)).trans (fz j));have p0:w2.cell? ⟨wz.heap.size,0,none⟩=some (.slice la n lc):=(hB2.cell (p:=⟨wz.heap.size,0,none⟩) (by simp)).trans (by simp);have p1:w2.cell? ⟨wz.heap.size,1,none⟩=some (.slice na n' nc):=(hB2.cell (p:=⟨wz.heap.size,1,none⟩) (by simp)).trans (by simp);have HB2:Hid (Below w.heap.size w w2):=hBq.trans (hB2.mono (by simp;omega));have HST2:Hid (Ys w.heap.size wz w2):=(Ys.alloc _ _ _).trans (Ys.below hB2);clear hB2 hBq c0 c1 fz
  go_wp2_with fail
  obtain⟨e0,e1,ek,es,eb⟩:=Jq (.slice la n lc) (.slice na n' nc) g0 g1;exact bodyPost_ret (v:=.tuple #[.agg #[.slice la n lc,.slice na n' nc],.int .i64 0,.int .i64 (-1)]) (by simp[results,results10,go_sem,e0,e1]) rfl
   ⟨eb _ _ HB2.out (Nat.le_refl _),λh=>(by rw[HRR.out]at h;cases h),λ_=>⟨la,n,lc,na,n',nc,rfl,λw'' hs''=>HST.out w'' ((HST2.out.mono (by omega)).trans ⟨by have:=hs''.size;omega,λk hk hlt=>(hs''.block k (by omega) (by omega)).trans (ek k (by omega))⟩)⟩⟩
end Go.Proofs.YtminjljgedopkaaGreatDoor
