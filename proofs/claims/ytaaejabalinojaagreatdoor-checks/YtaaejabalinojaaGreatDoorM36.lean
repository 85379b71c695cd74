import Derived.Test.YtaaejabalinojaaGreatDoorM35
set_option linter.all false
set_option maxRecDepth 100000
set_option maxHeartbeats 40000000
namespace Go.Proofs.YtaaejabalinojaaGreatDoor
open Go.RowKit Go.Proofs.Tryz
def ynv(s:List UInt8)(w:World)(hs:s.length<=40000):Calls prog 6 #[.string ⟨s.toArray⟩] w (Vt (Fl.readProg s) w):=by
 have I1:(s.length:Int)<=40000:=by omega
 by_cases i0:1200<s.length
 ·have p1:(1200:Int)<(s.length:Int):=by omega
  have HE:Hid (Vt (Fl.readProg s) w (.returned (.tuple #[.pointer none,.int .i64 1,.int .i64 0])) w):=by
   have e:Fl.readProg s=(1,0,Fl.RS.zero.prog):=(by unfold Fl.readProg;rw[if_pos i0]);show Vt _ _ _ _;rw[e];exact⟨Below.refl _ _,λ_=>rfl,λh=>(by cases h)⟩
  go_enter func6,ntmps6
  go_wp2;refine bodyPost_ret (v:=.tuple #[.pointer none,.int .i64 1,.int .i64 0]) (by simp[results,results6,go_sem]) rfl ?_;exact HE.out
 have p1:¬(1200:Int)<(s.length:Int):=by omega
 have q1:(s.length:Int)<=1200:=by omega
 obtain⟨L,hL⟩:=nmE (Fl.cutR 10 s);have F0:Hid (Calls prog 11 #[.string ⟨s.toArray⟩,.int .u8 10] w λe w'=>∃g cap,e=.returned (.slice (some ⟨g,0,none⟩) L.length cap)/\w.heap.size<=g/\Zg w'.heap.size w' (.slice (some ⟨g,0,none⟩) L.length cap) L/\Below w.heap.size w w'):=by
  have h:=yu4 10 s w (by omega);rw[<-hL]at h;exact h
 have G0:Hid (∀(x:List UInt8) (W:World),x.length<=1200->Calls prog 11 #[.string ⟨x.toArray⟩,.int .u8 32] W λe w'=>∃g cap,e=.returned (.slice (some ⟨g,0,none⟩) (Fl.cutR 32 x).length cap)/\W.heap.size<=g/\Zg w'.heap.size w' (.slice (some ⟨g,0,none⟩) (Fl.cutR 32 x).length cap) (Fl.cutR 32 x)/\Below W.heap.size W w'):=λx W hx=>yu4 32 x W (by omega)
 have d0:Hid (Fl.readProg s=((Fl.rows Fl.RS.zero 0 L).1,(Fl.rows Fl.RS.zero 0 L).2.1,(Fl.rows Fl.RS.zero 0 L).2.2.prog)):=by show _=_;rw[hL];unfold Fl.readProg;rw[if_neg i0]
 have l0:Hid (L.length<=1201/\∀x∈L,x.length<=1200):=by rw[hL];have:=zq7 10 s;exact⟨by omega,λx hx=>by have:=this.2 x hx;omega⟩
 have r1:0<L.length:=by rw[hL];exact List.length_pos_iff.2 (Fl.cutR_ne 10 s)
 have J1:(L.length:Int)<=1201:=by have:=l0.out.1;omega
 obtain⟨res,H0⟩:=nmE (Fl.readProg s);rw[<-H0]at d0⊢;clear H0 hL i0
 go_enter func6,ntmps6
 go_wp2_with fail
 refine F0.out.mono ?_;rintro e W1 ⟨g,cap,rfl,s1,g0,Z0⟩;have m0:=Zz Z0;have K1:=Zz g0
 have a1:Hid (∀W,Below W1.heap.size W1 W->∀i,(hi:i<L.length)->W.cell? ⟨g,i,none⟩=some (.string ⟨(L[i]).toArray⟩)):=λW hW i hi=>by
  obtain⟨ao,c,h1,h2,h3,h4,h5,h6⟩:=g0;simp only[Value.slice.injEq]at h1;obtain⟨b,off,e,hb,hc⟩:=h6 (by intro h;rw[h]at hi;simp at hi);rw[<-h1.1]at e;simp only[Option.some.injEq,Addr.mk.injEq]at e;obtain⟨rfl,rfl,-⟩:=e;have h7:=hc i hi;rw[Nat.zero_add]at h7;rw[hW.cell (p:=⟨g,i,none⟩) hb,h7,Qa,Qb hi];rfl
 clear s1 g0 Z0 F0
 go_wp2_with (first|(refine Vd rfl 47 _ rfl znx (by kernel_rfl) ?_)|(refine Vd rfl 49 _ rfl (rdZ W1.heap.size) (by kernel_rfl) ?_))
 have R0:Hid (zz0 W1 L 0 (zq9 W1) (m00 W1) [] Fl.RS.zero):=zz0.start W1 L r1;have b1:(W1.alloc (.cells znx 47)).alloc (.cells (rdZ W1.heap.size) 49)=zq9 W1:=rfl;rw[b1];clear b1;obtain⟨W2,c1⟩:=nmE (zq9 W1);rw[<-c1]at R0⊢;clear c1
 go_loopw [8,9] (λn i wr=>∃(k:Nat) (m:Yn) (fl:List FlS) (r:Fl.RS),n=.int .i64 k/\i=.int .i64 k/\zz0 W1 L k wr m fl r) (λ_ i _=>L.length - (intOf i).toNat)
 case atStart=>exact⟨0,_,_,_,rfl,rfl,R0.out⟩
 case round=>
  obtain⟨k,m,fl,r,rfl,rfl,hI⟩:=hrel;clear R0;have HI:=Zz hI;have hk:=hI.lt_;have L1:(k:Int)<(L.length:Int):=(by omega);have d1:=Zz hI.at_.bel;have M1:W1.heap.size+2<=wr.heap.size:=hI.at_.hba.2.2.2.2.2.1;have cx:wr.cell? ⟨g,k,none⟩=some (.string ⟨(L[k]).toArray⟩):=a1.out wr hI.at_.bel k hk;obtain⟨x,hx⟩:=nmE (L[k]);rw[<-hx]at cx;have t1:Hid (x.length<=1200):=(by show _<=_;rw[hx];exact l0.out.2 _ (List.getElem_mem hk));have HX:=Zz hx;have I0:Hid (∀W,Below wr.heap.size wr W->Below w.heap.size w W):=λW hW=>m0.out.trans ((d1.out.trans (hW.mono (by omega))).mono m0.out.size);obtain⟨xb,J0⟩:=nmE (α:=ByteArray) (⟨x.toArray⟩)
  have K0:Hid (∀W,Calls prog 11 #[.string xb,.int .u8 32] W λe w'=>∃g cap,e=.returned (.slice (some ⟨g,0,none⟩) (Fl.cutR 32 x).length cap)/\W.heap.size<=g/\Zg w'.heap.size w' (.slice (some ⟨g,0,none⟩) (Fl.cutR 32 x).length cap) (Fl.cutR 32 x)/\Below W.heap.size W w'):=λW=>by rw[J0];exact G0.out x W t1.out
  have f1:xb.toList=x:=(by rw[J0];exact Yt x);rw[<-J0]at cx;have g1:=Zz f1;have n0:=Zz J0;clear hI hx J0 f1 G0 a1
  by_cases j0:k+1=L.length
  ·have bl:((k:Int)==(L.length:Int) - 1)=true:=by simp;omega
   by_cases C0:x=[]/\0<k
   ·have cx2:wr.cell? ⟨g,k,none⟩=some (.string ⟨#[]⟩):=by rw[cx,n0.out,C0.1]
    have i1:(0:Int)<(k:Int):=(by omega);have S0:Hid (L[k]=[]/\0<k):=(by rw[<-HX.out];exact C0);have y7:wr.cell? ⟨W1.heap.size+1,7,none⟩=some (.bool r.begun):=(by rw[<-HI.out.of_.bg];exact HI.out.at_.cR.c 7 (by omega));obtain⟨d8,k8,T0⟩:=HI.out.at_.shape 8 (by unfold Zt;omega);rw[HI.out.of_.r8.1]at T0;have y8:wr.cell? ⟨W1.heap.size+1,8,none⟩=some (.slice d8 r.fr.length k8):=(by rw[<-T0];exact HI.out.at_.cR.c 8 (by omega));have u1:(r.fr.length:Int)<=3:=(by have:=HI.out.of_.fr;omega);clear cx C0 T0 K0 g1 n0 HX
    by_cases a0:r.begun=true/\r.fr=[]
    ·rw[a0.1]at y7
     rw[a0.2]at y8;have HD:=Zz a0;have c0:Hid (Fl.rows Fl.RS.zero 0 L=(0,0,r)):=HI.out.done j0 S0.out a0;obtain⟨d4,k4,U0⟩:=HI.out.at_.shape 4 (by unfold Zt;omega);rw[HI.out.of_.r4.1]at U0;obtain⟨d10,k10,o0⟩:=HI.out.at_.shape 10 (by unfold Zt;omega);rw[HI.out.of_.r10.1]at o0;obtain⟨dc,kc,V0⟩:=HI.out.at_.shape 12 (by unfold Zt;omega);rw[HI.out.of_.r12.1]at V0;have v1:(r.locals.length:Int)<=4:=(by have:=HI.out.of_.lo;omega);have e0:wr.drew.cell? ⟨W1.heap.size+1,0,none⟩=some (.pointer (some ⟨W1.heap.size,0,none⟩)):=HI.out.at_.cR.c 0 (by omega);have e4:wr.drew.cell? ⟨W1.heap.size+1,4,none⟩=some (.slice d4 r.locals.length k4):=(by rw[<-U0];exact HI.out.at_.cR.c 4 (by omega));have e10:wr.drew.cell? ⟨W1.heap.size+1,10,none⟩=some (.slice d10 fl.length k10):=(by rw[<-o0];exact HI.out.at_.cR.c 10 (by omega));obtain⟨vp4,q4⟩:∃v,wr.drew.cell? ⟨W1.heap.size,4,none⟩=some v:=⟨_,HI.out.at_.cP.c 4 (by omega)⟩;have f4:wr.drew.frozen? ⟨W1.heap.size,4,none⟩=false:=HI.out.at_.cP.z 4;obtain⟨W4,p0⟩:=nmE ((wr.setCell ⟨W1.heap.size,4,none⟩ (.int .i64 (r.locals.length:Int))).drew);have j1:W4.heap.size=wr.heap.size:=(by rw[p0];exact Zy _ _ _);have L0:Hid (Zd W4 W1.heap.size 6 (λi=>if i=4 then .int .i64 (r.locals.length:Int) else rpC m i)):=by
      show Zd _ _ _ _;rw[p0];exact Zd.set (w:=wr.drew) (HI.out.at_.drew.cP) (by omega) _
     have y1:Hid (W4.cell? ⟨W1.heap.size+1,0,none⟩=some (.pointer (some ⟨W1.heap.size,0,none⟩))):=by
      show _=_;rw[p0];exact(Qc (a:=⟨W1.heap.size+1,0,none⟩) (Zx wr.drew _ _ _ _ (by show W1.heap.size+1≠W1.heap.size;omega))).trans e0
     have g10:W4.cell? ⟨W1.heap.size+1,10,none⟩=some (.slice d10 fl.length k10):=by
      rw[p0];exact(Qc (a:=⟨W1.heap.size+1,10,none⟩) (Zx wr.drew _ _ _ _ (by show W1.heap.size+1≠W1.heap.size;omega))).trans e10
     have k1:Hid (zsw W4 (.slice d10 fl.length k10) fl):=by
      have ho:=HI.out.at_.drew.own 10 (by unfold Zt;omega);rw[o0,HI.out.of_.r10.1,HI.out.of_.r10.2]at ho;refine zsw.of_own (base:=W1.heap.size+2) ?_ (by have:=HI.out.of_.ft;have:=l0.out.1;omega);rw[p0];exact Yy ho (λb hb=>Zx wr.drew _ _ _ _ (by have:=(ho.lt b hb).1;omega))
     have s0:Hid (Calls prog 14 #[.slice d10 fl.length k10,.int .i64 0] W4 (zw7 4 W4 (0+fl.length) r.top)):=by
      obtain⟨a,b,h1,h2,h3⟩:=HI.out.fl_;rw[a0.2]at h3;have h4:b=[]:=h3;rw[h4,List.append_nil]at h1;rw[<-h1]at h2;exact yj2 4 fl (.slice d10 fl.length k10) (by rw[HI.out.cn_];exact HI.out.of_.sm) W4 0 fl r.top [] k1.out (by omega) (by simp) h2 (.inl rfl)
     have P0:=Zz p0.symm
     have z1:Hid (∀b,W1.heap.size+2<=b->W4.heap[b]?=wr.heap[b]?):=λb hb=>by rw[p0];exact Zx wr _ _ _ _ (by omega)
     have l1:=Zz j1;have y0:Hid (Below w.heap.size w W4):=by
      show Below _ _ _;rw[p0];exact((I0.out _ (Below.refl _ _)).setCell m0.out.size _).drew
     have W0:=Zz V0;have A1:W1.heap.size+2<=W4.heap.size:=(by omega);clear U0 o0 V0 a0 p0 k1 j1;simp only[List.length_nil]at y8
     go_wp2_with fail
     refine Zi (λW=>W.cell? ⟨W1.heap.size+1,0,none⟩=some (.pointer (some ⟨W1.heap.size,0,none⟩))/\W.cell? ⟨W1.heap.size+1,4,none⟩=some (.slice d4 r.locals.length k4)) [9] [11] [] ⟨e0,e4⟩ (by kernel_rfl) (λc a d v w h=>by cases d<;>exact h) (λops hG=>?_);clear hG
     iterate 9 refine Zw rfl (by rintro _ ⟨_,_⟩;go_simp<;>rfl) (by go_simp<;>rfl) ?_
     refine Zk ?_
     go_wp2_with fail
     refine⟨⟨e0,e4⟩,?_⟩;refine Zw rfl (by rintro _ -;go_simp<;>rfl) (by go_simp<;>rfl) ?_;refine Xm ?_
     go_wp2_with fail
     refine Zs ?_;rw[P0.out];clear P0 e0 e4 e10 q4 f4 y7 y8 cx2
     go_wp2_with fail
     refine s0.out.mono ?_;rintro e W5 ⟨D0,oa,on,oc,rfl,M0⟩;have N1:W4.heap.size<=W5.heap.size:=D0.size;have u0:W5.cell? ⟨W1.heap.size+1,0,none⟩=some (.pointer (some ⟨W1.heap.size,0,none⟩)):=(D0.cell (p:=⟨W1.heap.size+1,0,none⟩) (by show W1.heap.size+1<_;omega)).trans y1.out;have q0:Zd W5 W1.heap.size 6 (λi=>if i=4 then .int .i64 (r.locals.length:Int) else rpC m i):=L0.out.block (D0.block _ (by omega));obtain⟨v5,u5⟩:∃v,W5.cell? ⟨W1.heap.size,5,none⟩=some v:=⟨_,q0.c 5 (by omega)⟩;have uz:W5.frozen? ⟨W1.heap.size,5,none⟩=false:=q0.z 5;have HE:Hid (Vt res w (.returned (.tuple #[.pointer (some ⟨W1.heap.size,0,none⟩),.int .i64 0,.int .i64 0])) (W5.setCell ⟨W1.heap.size,5,none⟩ (.slice oa on oc))):=by
      have e9:=d0.out;rw[c0.out]at e9;show Vt _ _ _ _;rw[e9];refine⟨(y0.out.trans (D0.mono y0.out.size)).setCell m0.out.size _,λh=>absurd rfl h,λ_=>⟨W1.heap.size,.int .i64 m.N,m.leq,m.v 13,.slice oa on oc,dc,kc,rfl,m0.out.size,by rw[Zy];omega,?_,?_,?_⟩⟩
      ·refine(q0.set (j:=5) (by omega) (.slice oa on oc)).congr (λj hj=>?_)
       rcases(show j=0\/j=1\/j=2\/j=3\/j=4\/j=5 by omega) with rfl|rfl|rfl|rfl|rfl|rfl
       ·rfl
       ·rfl
       ·exact W0.out
       ·rfl
       ·rfl
       rfl
      ·exact Yx.kept (λb hb=>⟨by have:=m0.out.size;omega,by rw[Zy];exact hb.2⟩) (λb hb=>Zx _ _ _ _ _ (by omega)) 4 _ _ M0
      have h9:=HI.out.at_.table HI.out.of_ HD.out.1 (w':=W5.setCell ⟨W1.heap.size,5,none⟩ (.slice oa on oc)) (λb h1 h2=>(Zx _ _ _ _ _ (by omega)).trans ((D0.block b (by have:=l1.out;omega)).trans (z1.out b h1))) (by rw[Zy];have:=l1.out;omega);rw[W0.out]at h9;exact h9
     clear D0 M0 q0 s0 c0 d0 HI L0 y0 W0;go_wp2;refine bodyPost_ret (v:=.tuple #[.pointer (some ⟨W1.heap.size,0,none⟩),.int .i64 0,.int .i64 0]) (by simp[results,results6,go_sem]) rfl ?_;exact HE.out
    have c0:Hid (Fl.rows Fl.RS.zero 0 L=(3,k+1,r)):=HI.out.open_ j0 S0.out a0;have HE:Hid (Vt res w (.returned (.tuple #[.pointer none,.int .i64 3,.int .i64 ((k:Int)+1)])) wr):=by
     have e9:=d0.out;rw[c0.out]at e9;show Vt _ _ _ _;rw[e9];exact⟨I0.out _ (Below.refl _ _),λ_=>rfl,λh=>(by cases h)⟩
    clear c0 d0 HI I0 S0 d1 m0
    cases N0:r.begun with
    |false=>
     rw[N0]at y7;clear a0 N0;go_wp2;refine bodyPost_ret (v:=.tuple #[.pointer none,.int .i64 3,.int .i64 ((k:Int)+1)]) (by simp[results,results6,go_sem]) rfl ?_;exact HE.out
    |true=>
     rw[N0]at y7;have O1:0<r.fr.length:=List.length_pos_iff.2 (λh=>a0 ⟨N0,h⟩);have B1:(0:Int)<(r.fr.length:Int):=(by omega);clear a0 N0;go_wp2;refine bodyPost_ret (v:=.tuple #[.pointer none,.int .i64 3,.int .i64 ((k:Int)+1)]) (by simp[results,results6,go_sem]) rfl ?_;exact HE.out
   have c0:Hid (Fl.rows Fl.RS.zero 0 L=(2,k+1,r)):=HI.out.last j0 (by rw[<-HX.out];exact C0)
   have m1:Hid (∀W,Below wr.heap.size wr W->Vt res w (.returned (.tuple #[.pointer none,.int .i64 2,.int .i64 ((k:Int)+1)])) W):=λW hW=>by
    have e9:=d0.out;rw[c0.out]at e9;rw[e9];exact⟨I0.out W hW,λ_=>rfl,λh=>(by cases h)⟩
   have C1:Hid (x=[]->k=0):=λh=>by
    by_cases h0:0<k
    ·exact absurd ⟨h,h0⟩ C0
    omega
   clear C0
   cases E0:x with
   |nil=>
    have i1:=C1.out E0;have cx2:wr.cell? ⟨g,k,none⟩=some (.string ⟨#[]⟩):=(by rw[cx,n0.out,E0])
    have X0:Hid (∀W,Calls prog 11 #[.string ⟨#[]⟩,.int .u8 32] W λe w'=>∃g cap,e=.returned (.slice (some ⟨g,0,none⟩) (Fl.cutR 32 x).length cap)/\W.heap.size<=g/\Zg w'.heap.size w' (.slice (some ⟨g,0,none⟩) (Fl.cutR 32 x).length cap) (Fl.cutR 32 x)/\Below W.heap.size W w'):=λW=>by have h:=K0.out W;rw[n0.out]at h;rw[E0]at h⊢;exact h
    have D1:(k:Int)<=0:=(by omega);have E1:¬(0:Int)<(k:Int):=(by omega);clear cx E0 i1
    go_wp2_with fail
    refine(X0.out _).mono ?_;rintro e W3 ⟨g3,c3,rfl,z0,t0,v0⟩;have A0:=Zz t0;have x0:=Zz v0;clear z0 t0 v0
    go_wp2_with fail
    refine(zlx _ _ W3 A0.out (Fl.cutR_ne _ _)).mono ?_;rintro e W4 ⟨rfl,k0⟩;have HE:Hid _:=m1.out W4 (x0.out.trans (k0.mono x0.out.size));clear k0
    cases Fl.line (Fl.cutR 32 x)
    all_goals
     go_wp2;refine bodyPost_ret (v:=.tuple #[.pointer none,.int .i64 2,.int .i64 ((k:Int)+1)]) (by simp[results,results6,go_sem]) rfl ?_;exact HE.out
   |cons x1 xs1=>
    have kx:(xb.toList==[])=false:=(by rw[g1.out,E0];rfl);clear E0
    go_wp2_with fail
    refine(K0.out _).mono ?_;rintro e W3 ⟨g3,c3,rfl,z0,t0,v0⟩;have A0:=Zz t0;have x0:=Zz v0;clear z0 t0 v0
    go_wp2_with fail
    refine(zlx _ _ W3 A0.out (Fl.cutR_ne _ _)).mono ?_;rintro e W4 ⟨rfl,k0⟩;have HE:Hid _:=m1.out W4 (x0.out.trans (k0.mono x0.out.size));clear k0
    cases Fl.line (Fl.cutR 32 x)
    all_goals
     go_wp2;refine bodyPost_ret (v:=.tuple #[.pointer none,.int .i64 2,.int .i64 ((k:Int)+1)]) (by simp[results,results6,go_sem]) rfl ?_;exact HE.out
  have bl:((k:Int)==(L.length:Int) - 1)=false:=(by simp;omega);have Y0:k+1<L.length:=(by omega)
  go_wp2_with fail
  refine(K0.out _).mono ?_;rintro e W3 ⟨g3,c3,rfl,z0,t0,v0⟩;have A0:=Zz t0;have x0:=Zz v0;have F1:=Zz z0;clear z0 t0 v0;obtain⟨ws,Q0⟩:=nmE (Fl.cutR 32 x);rw[<-Q0]at A0⊢;have O0:Hid (ws=Fl.cutR 32 L[k]):=(by show _=_;rw[Q0,HX.out]);have G1:Hid (ws≠[]):=(by rw[Q0];exact Fl.cutR_ne _ _);clear Q0 K0
  go_wp2_with fail
  refine(zlx _ _ W3 A0.out G1.out).mono ?_;rintro e W4 ⟨rfl,k0⟩;have n1:Hid (Below wr.heap.size wr W4):=x0.out.trans (k0.mono x0.out.size);have P0:Hid (Zg W4.heap.size W4 (.slice (some ⟨g3,0,none⟩) ws.length c3) ws):=(A0.out.below k0).mono k0.size;clear k0
  cases f0:Fl.line ws with
  |false=>
   have c0:Hid (Fl.rows Fl.RS.zero 0 L=(2,k+1,r)):=HI.out.badLine Y0 (by rw[<-O0.out];exact f0);have HE:Hid (Vt res w (.returned (.tuple #[.pointer none,.int .i64 2,.int .i64 ((k:Int)+1)])) W4):=by
    have e9:=d0.out;rw[c0.out]at e9;show Vt _ _ _ _;rw[e9];exact⟨I0.out _ n1.out,λ_=>rfl,λh=>(by cases h)⟩
   clear f0;go_wp2;refine bodyPost_ret (v:=.tuple #[.pointer none,.int .i64 2,.int .i64 ((k:Int)+1)]) (by simp[results,results6,go_sem]) rfl ?_;exact HE.out
  |true=>
   have r0:Hid (Calls prog 13 #[.pointer (some ⟨W1.heap.size+1,0,none⟩),.slice (some ⟨g3,0,none⟩) ws.length c3,.int .i64 ((k:Int)+1)] W4 (Xu W1.heap.size (W1.heap.size+2) (W1.heap.size+1) W1.heap.size W1 k (r.row ws (k+1)))):=by
    refine yjy (HI.out.at_.below n1.out) HI.out.of_ HI.out.fl_ HI.out.cn_ HI.out.fi_ (by have:=l0.out.1;omega) _ ws P0.out (λb off n c hv=>?_) f0 (k+1);simp only[Value.slice.injEq,Option.some.injEq,Addr.mk.injEq]at hv;have z0:=F1.out;refine⟨by omega,λj hj hh=>?_⟩;have:=((HI.out.at_.own j hj).lt b hh).2;omega
   obtain⟨q,hq⟩:=nmE (r.row ws (k+1));rw[<-hq]at r0;have HQ:=Zz hq;have o1:=Zz f0;clear hq f0
   go_wp2_with fail
   refine r0.out.mono ?_;rintro e W5 ⟨rfl,hgood,B0⟩
   by_cases h0:q.1=0
   ·obtain⟨m',fl',h1,h2,h3,h4⟩:=hgood h0
    have H1:Hid (zz0 W1 L (k+1) W5 m' fl' q.2):=by
     have e1:r.row (Fl.cutR 32 L[k]) (k+1)=q:=(by rw[<-O0.out,<-HQ.out]);have h5:=HI.out.next Y0 (by rw[<-O0.out];exact o1.out) (by rw[e1];exact h0) h1 (by rw[e1];exact h2) (by rw[e1];exact h3) (by rw[e1];exact h4);rw[e1]at h5;exact h5
    rw[h0];clear hgood B0 h0 h1 h2 h3 h4 r0;go_wp2
    go_roundw
    case rel=>exact⟨k+1,m',fl',q.2,by go_num,by go_num,H1.out⟩
    case measure=>simp[intOf];omega
   have b0:(((q.1:Nat):Int) !=0)=true:=(by rw[bne_iff_ne];omega);have HE:Hid (Vt res w (.returned (.tuple #[.pointer none,.int .i64 (q.1:Nat),.int .i64 ((k:Int)+1)])) W5):=by
    have e1:r.row (Fl.cutR 32 L[k]) (k+1)=q:=(by rw[<-O0.out,<-HQ.out]);have h5:=HI.out.badRow Y0 (by rw[<-O0.out];exact o1.out) (by rw[e1];exact h0);rw[e1]at h5;have e9:=d0.out;rw[h5]at e9;show Vt _ _ _ _;rw[e9];exact⟨m0.out.trans ((B0 h0).mono m0.out.size),λ_=>rfl,λh=>absurd h h0⟩
   clear hgood B0 h0 r0;go_wp2;refine bodyPost_ret (v:=.tuple #[.pointer none,.int .i64 (q.1:Nat),.int .i64 ((k:Int)+1)]) (by simp[results,results6,go_sem]) rfl ?_;exact HE.out
end Go.Proofs.YtaaejabalinojaaGreatDoor
