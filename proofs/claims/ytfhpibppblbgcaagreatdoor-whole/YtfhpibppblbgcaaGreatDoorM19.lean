import Derived.Test.YtfhpibppblbgcaaGreatDoorM18
import Derived.LaidEql
import Derived.RowKitTokens
set_option linter.all false
set_option maxRecDepth 100000
set_option maxHeartbeats 40000000
namespace Go.Proofs.YtfhpibppblbgcaaGreatDoor
open Go.RowKit Go.Proofs.Tryz
variable{B Pb:Nat}{w w0:World}{o1 o2 o3 o4:Obj}{a:Addr}{u:Value}
def yl5(r:Nat×List Int×List Fl.ar)(w:World)(e:Ending)(w':World):Prop:=
  Bq w w'/\
  ((0<r.1/\∃a,e=.returned (.tuple #[.agg #[Zq,Zq],.iface 73 (Pq a)])/\w'.cell? (Aq a 0)=some (Iq 7)/\w'.cell? (Aq a 1)=some (Iq r.1))\/
   (r.1=0/\∃la n lc na n' nc,e=.returned (.tuple #[.agg #[.slice la n lc,.slice na n' nc],.nilIface])/\Zv w'.heap.size w' (.slice la n lc) r.2.1/\Yv w'.heap.size w' (.slice na n' nc) r.2.2))
def yl6{b off n cap:Nat}{xs:List Int}(h:Zv B w (.slice (some (Aq b off)) n cap) xs)(k:Nat)(hk:k<=xs.length):Zv B w (.slice (some (Aq b (off+k))) (n - k) (cap - k)) (xs.drop k):=by
 obtain⟨ao,cp,e,h1,h2,h3⟩:=h;injection e with e1 e2 e3;subst e2;subst e3;refine⟨_,_,by rw[List.length_drop],by rw[List.length_drop];omega,by rw[List.length_drop];omega,λa0=>?_⟩;obtain⟨b',o',ea,hb',hc⟩:=h3 (by rintro rfl;simp at a0);rw[ea]at e1;injection e1 with e1;injection e1 with e4 e5;subst e4;subst e5;refine⟨b,off+k,rfl,hb',λi hi=>?_⟩;rw[List.length_drop]at hi;rw[Nat.add_assoc,hc (k+i) (by omega)]
 congr 2
 rw[Qa,Qa,List.getElem?_drop]
def zo8(V:World)(ao:Option Addr)(n cap k:Nat)(hk:k<=n)(hc:n<=cap):(Instr.slice 36 (.slice ao n cap) (some (Iq k)) none none).run prog V=.ok (.slice (if cap=k then ao else ao.map (·.add k)) (n - k) (cap - k)) V:=by
 have h1:(k:Int)<=(n:Int):=by omega
 have h2:(n:Int)<=(cap:Int):=by omega
 simp[Instr.slice,run_underlying underlying36,Instr.sliceBounds,Instr.sliceBound,asIntOf,go_sem,h1,h2];intro hh;omega
def yix{W:World}{Lb:Nat}{bD bF bv vv:Value}{p:Fl.aS}{vs:List Int}(h1:Pb<w.heap.size)(h2:Lb<w.heap.size)(h3:Zb w Pb 5 (rw_ [ptr Lb,bD,bF,Iq p.am,bv]))(h4:Ur w Lb p.n p.leq)(h5:zx5 (λb=>b<w.heap.size) w bD p.cells)(h6:zx5 (λb=>b<w.heap.size) w bF p.aj)(h7:Zh 4 (λb=>b<w.heap.size) w bv p.aX)(ok:p.Ok)(lv:p.Lv)(hb:Bq w W)(vi:Zv W.heap.size W vv vs)(lo:Fl.dX p vs):
  Vb (W.alloc (.cells #[Pq Pb,vv] 107)) W.heap.size Pb Lb bD bF bv vv (λb=>b<w.heap.size) p vs:=by
 obtain⟨W3,b0⟩:=nmE (W.alloc (.cells #[Pq Pb,vv] 107))
 have hB:Bq W W3:=by rw[b0];exact bA
 have a0:Bq w W3:=hb.trans (hB.mono hb.size)
 have rC:W3.heap[W.heap.size]?=some (.cells #[Pq Pb,vv] 107 (0,0)):=by rw[b0];exact heap_alloc_last _ _
 have d0:W3.heap.size=W.heap.size+1:=by rw[b0];simp
 rw[<-b0];have q:∀j,W3.cell? (Aq Pb j)=w.cell? (Aq Pb j):=λj=>a0.cell (p:=(Aq Pb j)) h1;have hs:=a0.size;exact{hF:=by omega,c0:=cell_of_row _ _ 0 _ _ (0,0) rC,c1:=cell_of_row _ _ 1 _ _ (0,0) rC,lv:=⟨⟨by omega,by omega⟩,(q _).trans (h3.c 0 (by omega)),h4.block (a0.block _ h2),lv⟩,p1:=(q _).trans (h3.c 1 (by omega)),p2:=(q _).trans (h3.c 2 (by omega)),p4:=(q _).trans (h3.c 4 (by omega)),ce:=(by obtain⟨a,c,e,-⟩:=h5;exact⟨a,c,e⟩),ch:=((h6.ints (λb hb=>hb)).below a0).mono a0.size,vi:=(vi.below hB).mono hB.size,bo:=Zh.kept (λ_ h=>h) (λb hs=>a0.block b hs) _ _ _ h7,hS:=λb hs=>by omega,ok:=lo,pk:=ok}
def yp5{p:Fl.aS}(hp:Jp (λb=>b<w.heap.size) w Pb p)(ok:p.Ok)(lv:p.Lv):Cq 21 #[Pq Pb] w (yl5 (Fl.bH p) w):=by
 obtain⟨Lb,bD,bF,bv,h1,h2,h3,h4,h5,h6,h7⟩:=hp
 obtain⟨ca,cc,rfl⟩:∃a c,bD=.slice a p.cells.length c:=by obtain⟨a,c,e,-⟩:=h5;exact⟨a,c,e⟩
 have q:∀W,Bq w W->∀j,W.cell? (Aq Pb j)=w.cell? (Aq Pb j):=λW hW j=>hW.cell (p:=(Aq Pb j)) h1
 have S0:Hid (∀W,Bq w W->Cq 34 #[Pq Pb] W λe w'=>∃lv,e=.returned lv/\Zv w'.heap.size w' lv (List.replicate p.am (Fl.aM p))/\Bq W w'):=λW hW=>by
  have hz:=hW.size;exact zhw ⟨⟨by omega,by omega⟩,(q W hW 0).trans (h3.c 0 (by omega)),h4.block (hW.block _ h2),lv⟩ ((q W hW 3).trans (h3.c 3 (by omega))) ok.lo
 have T0:Hid (∀W v,Bq w W->Zv W.heap.size W v (List.replicate p.am (Fl.aM p))->Cq 33 #[Pq Pb,v] W λe w'=>Bq W w'/\(∀j,w'.frozen? (Aq W.heap.size j)=false)/\W.heap.size<w'.heap.size/\∃v,e=.returned v/\w'.ownsRow (W.heap.size+1) 3 1 v (Fl.start p).length ((Fl.start p).map (Value.int .i64))):=λW v hW hv=>by
  have hz:=hW.size;exact zfx (by omega) ((q W hW 1).trans (h3.c 1 (by omega))) (((h5.ints (λb hb=>hb)).below hW).mono hW.size) hv ⟨by have:=ok.ce;simp;omega,by have:=ok.lo;simp;omega⟩
 have U0:Hid (∀W v,Bq w W->Zv W.heap.size W v (Fl.start p)->Vb (W.alloc (.cells #[Pq Pb,v] 107)) W.heap.size Pb Lb (.slice ca p.cells.length cc) bF bv v (λb=>b<w.heap.size) p (Fl.start p)):=λW v hW hv=>yix h1 h2 h3 h4 h5 h6 h7 ok lv hW hv (zvx lv)
 have V0:Hid (∀b' o n cap,0<n->bF=.slice (some (Aq b' o)) n cap->b'<w.heap.size):=λb' o n cap hn e=>by
  obtain⟨ao,cp,e2,-,-,h4⟩:=h6;rw[e]at e2;injection e2 with e3 e4 e5;obtain⟨b,e6,hb,-⟩:=h4 (by rintro hh;rw[hh]at e4;simp at e4;omega);rw[e6]at e3;injection e3 with e3;injection e3 with e3;rw[e3];exact hb
 have X0:Hid ((Fl.start p).length=p.cells.length+p.am):=(zvx lv).1;have a0:Hid (Fl.bH p=if 0<Fl.cf p (Fl.bI p) then(Fl.cf p (Fl.bI p),[],[]) else(0,(Fl.bI p).drop p.cells.length,(Fl.aF p (Fl.bI p) 4 [] p.aX (Fl.aM p)).2)):=rfl;have A1:p.cells.length<=6:=ok.ce;have Q1:p.am<=4:=ok.lo;obtain⟨RES,m0⟩:=nmE (Fl.bH p);rw[<-m0]at a0⊢;clear q h3 h4 h5 h6 h7 ok lv m0
 go_enter func21,ntmps21
 go_wp2_with fail
 obtain⟨W0,n0⟩:=nmE (w.alloc (.cells #[Zq,Zq] 69));rw[<-n0]
 have s0:Hid (Bq w W0):=by show Below _ _ _;rw[n0];exact bA
 have Y0:Hid (W0.heap[w.heap.size]?=some (.cells #[Zq,Zq] 69 (0,0))):=by show _=_;rw[n0];exact heap_alloc_last _ _
 have B1:w.heap.size<W0.heap.size:=by rw[n0];simp
 clear n0;refine(S0 _ s0).mono ?_;rintro e W1 ⟨lv1,rfl,B0,t0⟩
 obtain⟨la1,n1,lc1,rfl⟩:∃a n c,lv1=.slice a n c:=by obtain⟨a,c,e⟩:=Vo B0;exact⟨a,_,c,e⟩
 have Z0:=Zz B0;have C0:Hid (Bq w W1):=s0.trans (t0.mono s0.size);have a1:Hid (W1.heap[w.heap.size]?=some (.cells #[Zq,Zq] 69 (0,0))):=(t0.block _ B1).trans Y0.out
 have C1:w.heap.size<W1.heap.size:=by have:=t0.size;omega
 clear B0 t0 S0 Y0
 go_wp2_with fail
 refine(T0 _ _ C0 Z0).mono ?_;rintro e W2 ⟨D0,b1,D1,v,rfl,ho⟩;have E0:Zv W2.heap.size W2 v (Fl.start p):=yy5 ho;obtain⟨b,va,vc,rfl,E1,i1,hbz,F0,j1⟩:∃b va vc,v=.slice va (Fl.start p).length vc/\W1.heap.size<=b/\b<W2.heap.size/\(∀j,W2.frozen? (Aq b j)=false)/\(∀b' o n cap,v=.slice (some (Aq b' o)) n cap->b'=b)/\((va=none/\(Fl.start p).length=0/\vc=0)\/(va=some (Aq b 0)/\(Fl.start p).length<=vc)):=by
  rcases id ho.2 with⟨rfl,h0⟩|⟨g,cap,cur,rfl,hb,hg,h3,h4,h5,h6⟩
  ·exact⟨W1.heap.size,none,0,by rw[h0],Nat.le_refl _,D1,b1,λb' o n cap e=>(by injection e with e;cases e),.inl ⟨rfl,h0,rfl⟩⟩
  exact⟨g,some (Aq g 0),cap,rfl,by omega,(by refine Classical.byContradiction λhn=>?_;rw[Array.getElem?_eq_none (by omega)]at hg;cases hg),λj=>Jf _ _ _ _ _ hg,λb' o n cap e=>(by injection e with e;injection e with e;injection e with e;exact e.symm),.inr ⟨rfl,h3⟩⟩
 have u0:=Zz E0;have G0:Hid (Bq w W2):=C0.trans (D0.mono C0.size);have k1:Hid (W2.heap[w.heap.size]?=some (.cells #[Zq,Zq] 69 (0,0))):=(D0.block _ C1).trans a1.out;have F1:=Zz F0;have i0:=Zz j1;obtain⟨W3,v0⟩:=nmE (W2.alloc (.cells #[Pq Pb,.slice va (Fl.start p).length vc] 107))
 have o0:Bq W2 W3:=by rw[v0];exact bA
 have l1:Hid (Vb W3 W2.heap.size Pb Lb (.slice ca p.cells.length cc) bF bv (.slice va (Fl.start p).length vc) (λb=>b<w.heap.size) p (Fl.start p)):=by show Vb _ _ _ _ _ _ _ _ _ _ _;rw[v0];exact U0 _ _ G0 E0
 have p0:Hid (zs5 W3 b W2.heap.size Pb Lb bF (λb=>b<w.heap.size)):=
  ⟨by omega,by omega,by omega,λc hc=>(by omega),λb' o n cap hn e=>(by have:=V0 b' o n cap hn e;omega),λj=>(o0.frozen (p:=(Aq b j)) i1).trans (hbz j),by have:=o0.size;omega⟩
 have m1:Hid (Cq 35 #[Pq W2.heap.size] W3 (znw W3 b b W2.heap.size Pb Lb (.slice ca p.cells.length cc) bF bv (.slice va (Fl.start p).length vc) (λb=>b<w.heap.size) p (Fl.start p))):=zh5 l1 p0 F0 (Nat.le_refl _);have G1:Hid (Bq w W3):=G0.trans (o0.mono G0.size);have o1:Hid (W3.heap[w.heap.size]?=some (.cells #[Zq,Zq] 69 (0,0))):=(o0.block _ (by omega)).trans k1.out;clear E0 F0 j1 ho D0 o0 b1 hbz T0 U0 u0 Z0 p0 l1 V0
 go_wp2_with fail
 rw[<-v0];clear v0;refine m1.mono ?_;rintro e W4 ⟨rfl,H0,-,I0⟩;have J0:=Zz H0;have r1:Hid (Bq w W4):=G1.trans (I0.mono (by omega));have s1:Hid (W4.heap[w.heap.size]?=some (.cells #[Zq,Zq] 69 (0,0))):=(I0.block _ (by omega)).trans o1.out;have K0:Hid (Cq 36 #[Pq W2.heap.size] W4 λe w'=>e=.returned (Iq (Fl.cf p (Fl.bI p)))/\Bq W4 w'):=zbz J0.out;have H1:W2.heap.size<W4.heap.size:=H0.hF;obtain⟨FD,t1⟩:=nmE (Fl.cf p (Fl.bI p));rw[<-t1]at K0 a0;clear H0 I0 m1 t1
 go_wp2_with fail
 refine K0.mono ?_;rintro e W5 ⟨rfl,x0⟩;have L0:Hid (Bq w W5):=r1.trans (x0.mono r1.size);have y0:Hid (W5.heap[w.heap.size]?=some (.cells #[Zq,Zq] 69 (0,0))):=(x0.block _ (by omega)).trans s1.out;have j0:Hid (Vb W5 W2.heap.size Pb Lb (.slice ca p.cells.length cc) bF bv (.slice va (Fl.start p).length vc) (λb=>b<w.heap.size) p (Fl.bI p)):=J0.below x0;have R1:W2.heap.size<W5.heap.size:=j0.hF;have c0:Cl W5 w.heap.size 0 Zq:=cell_of_row _ _ 0 _ _ (0,0) y0.out;have c1:Cl W5 w.heap.size 1 Zq:=cell_of_row _ _ 1 _ _ (0,0) y0.out;have fz:∀j,W5.frozen? (Aq w.heap.size j)=false:=λj=>Jf _ _ _ _ _ y0.out
 have q0:w.heap.size<W5.heap.size:=by omega
 clear x0 K0
 by_cases z0:0<FD
 ·have HE:Hid (RES=(FD,[],[])):=by show _=_;rw[a0.out,if_pos z0]
  have S1:(0:Int)<(FD:Int):=(by omega)
  go_wp2_with fail
  obtain⟨e0,e1,ek,es,eb⟩:=zlz (wz:=W5) Zq Zq c0 c1;obtain⟨W6,I1⟩:=nmE ((W5.setCell (Aq w.heap.size 0) Zq).setCell (Aq w.heap.size 1) Zq);have l0:=eb _ _ L0 (Nat.le_refl _);rw[<-I1]at e0 e1 es l0⊢;have f0:∀o,Cl (W6.alloc o) w.heap.size 0 Zq:=λo=>(Qf _ _ _ (by rw[es];exact q0)).trans e0;have f1:∀o,Cl (W6.alloc o) w.heap.size 1 Zq:=λo=>(Qf _ _ _ (by rw[es];exact q0)).trans e1;refine bodyPost_ret (v:=.tuple #[.agg #[Zq,Zq],.iface 73 (Pq W5.heap.size)]) (by simp[results,results21,go_sem,f0,f1]) rfl
   ⟨l0.alloc l0.size _,.inl ⟨by rw[HE.out];exact z0,_,rfl,?_,?_⟩⟩
  ·rw[<-es]
   simp
  rw[<-es,HE.out];simp
 have HE:Hid (RES=(0,(Fl.bI p).drop p.cells.length,(Fl.aF p (Fl.bI p) 4 [] p.aX (Fl.aM p)).2)):=by show _=_;rw[a0.out,if_neg z0]
 have J1:FD=0:=by omega
 subst J1;have u1:Hid (∀V,Bq W5 V->Cq 37 #[Pq W2.heap.size] V λe w'=>∃nv,e=.returned nv/\(∀w'',Xa V.heap.size w' w''->Yv w''.heap.size w'' nv (Fl.aF p (Fl.bI p) 4 [] p.aX (Fl.aM p)).2)/\Bq V w'):=λV hV=>yrv (j0.below hV);have HS:Hid (∀V,Bq W5 V->Cl V W2.heap.size 1 (.slice va (Fl.start p).length vc)/\Cl V Pb 1 (.slice ca p.cells.length cc)):=λV hV=>⟨(j0.below hV).c1,(j0.below hV).p1⟩;have u0:Hid (∀V,Bq W5 V->Zv V.heap.size V (.slice va (Fl.start p).length vc) (Fl.bI p)):=λV hV=>(j0.below hV).vi;have M0:=Zz j0.ok.1;have A0:=X0.out;have p0:=Zz A0
 have v1:Hid (∀(V:World) (sv:Value),Zv V.heap.size V sv ((Fl.bI p).drop p.cells.length)->(sv.ownBlock=none\/sv.ownBlock=some b)->∀nv,(∀w'',Xa W5.heap.size V w''->Yv w''.heap.size w'' nv (Fl.aF p (Fl.bI p) 4 [] p.aX (Fl.aM p)).2)->∀w'':World,W5.heap.size<=V.heap.size->w''.heap.size=V.heap.size->(∀k,k≠w.heap.size->w''.heap[k]?=V.heap[k]?)->Zv w''.heap.size w'' sv ((Fl.bI p).drop p.cells.length)/\Yv w''.heap.size w'' nv (Fl.aF p (Fl.bI p) 4 [] p.aX (Fl.aM p)).2):=λV sv h1 h2 nv h3 w'' hz cF hk=>by
  refine⟨?_,h3 w'' ⟨by omega,λk hb _=>hk k (by omega)⟩⟩;obtain⟨ao,cap,e,g1,g2,g3⟩:=h1;refine⟨ao,cap,e,g1,g2,λr0=>?_⟩;obtain⟨b',off,ea,hb',hc⟩:=g3 r0;refine⟨b',off,ea,by omega,λi hi=>(Qc (a:=(Aq b' (off+i))) (hk b' ?_)).trans (hc i hi)⟩;rw[e,ea]at h2;rcases h2 with h2|h2
  ·cases h2
  injection h2 with h2;simp only at h2;omega
 obtain⟨sl,k0⟩:=nmE ((Fl.start p).length);obtain⟨nc,b0⟩:=nmE (p.cells.length);have K1:Hid (sl=(Fl.bI p).length/\nc<=(Fl.bI p).length/\nc=p.cells.length):=⟨by rw[k0,M0.out,p0.out],by rw[M0.out,b0];omega,b0⟩;rw[<-k0]at HS u0 i0 A0;rw[<-b0]at HS A1 A0 HE v1
 have L1:(nc:Int)<=(sl:Int):=by omega
 have N0:(nc:Int)<=6:=by omega
 have O0:(sl:Int)<=10:=by omega
 clear a0 z0 X0 p0 M0 F1 J0 j0 a1 k1 o1 s1 k0 b0 A0;obtain⟨sa,sn,sc,eP,x1,y1⟩:∃sa sn sc,(∀V:World,(Instr.slice 36 (.slice va sl vc) (some (Iq nc)) none none).run prog V=.ok (.slice sa sn sc) V)/\(∀V,Zv V.heap.size V (.slice va sl vc) (Fl.bI p)->Zv V.heap.size V (.slice sa sn sc) ((Fl.bI p).drop nc))/\((Value.slice sa sn sc).ownBlock=none\/(Value.slice sa sn sc).ownBlock=some b):=by
  obtain⟨f1,f2,f3⟩:=K1.out;rcases i0.out with⟨rfl,h0,rfl⟩|⟨rfl,M1⟩
  ·refine⟨none,sl - nc,0 - nc,λV=>?_,λV hV=>?_,.inl rfl⟩
   ·rw[zo8 V none sl 0 nc (by omega) (by omega)]
    simp
   refine⟨none,0 - nc,by rw[List.length_drop];congr 1;omega,by rw[List.length_drop];omega,by rw[List.length_drop];unfold maxLen;omega,λr0=>absurd (List.drop_eq_nil_of_le (by omega)) r0⟩
  by_cases hc:vc=nc
  ·refine⟨some (Aq b 0),sl - nc,vc - nc,λV=>?_,λV hV=>?_,.inr rfl⟩
   ·rw[zo8 V _ sl vc nc (by omega) (by omega),if_pos hc]
   refine⟨_,_,by rw[List.length_drop];congr 1;omega,by rw[List.length_drop];omega,by rw[List.length_drop];unfold maxLen;omega,λr0=>absurd (List.drop_eq_nil_of_le (by omega)) r0⟩
  refine⟨some (Aq b (0+nc)),sl - nc,vc - nc,λV=>?_,λV hV=>?_,.inr rfl⟩
  ·have h9:((Aq b 0):Addr).add nc=(Aq b (0+nc)):=by unfold Addr.add;split<;>simp_all
   rw[zo8 V _ sl vc nc (by omega) (by omega),if_neg hc,Option.map_some,h9]
  exact yl6 hV nc f2
 have z1:Hid ((∀V,Zv V.heap.size V (.slice va sl vc) (Fl.bI p)->Zv V.heap.size V (.slice sa sn sc) ((Fl.bI p).drop nc))/\((Value.slice sa sn sc).ownBlock=none\/(Value.slice sa sn sc).ownBlock=some b)):=⟨x1,y1⟩;have P0:=Zz eP;have Q0:Hid (Cl W5 w.heap.size 0 Zq/\Cl W5 w.heap.size 1 Zq/\∀j,W5.frozen? (Aq w.heap.size j)=false):=⟨c0,c1,fz⟩
 have s0:Hid (w.heap.size<b):=by show _<_;omega
 clear x1 y1 eP i0 c0 c1 fz L1 O0 N0 E1 i1 H1 y0
 go_wp2_with fail
 refine Zp HS dA [11,13] [] [] (by kernel_rfl) (λc a d v w h=>by cases d<;>exact h) (λops _=>?_)
 iterate 9 refine Zw rfl (by rintro _ ⟨_,_⟩;go_simp<;>rfl) (by go_simp<;>rfl) ?_
 refine Zw rfl (by rintro V ⟨_,_⟩;have T1:=P0 V;go_simp<;>rfl) (by go_simp<;>rfl) ?_;refine Zw rfl (by rintro _ ⟨_,_⟩;go_simp<;>rfl) (by go_simp<;>rfl) ?_;refine Zt ?_
 go_wp2_with fail
 refine(u1 _ dA).mono ?_;rintro e6 W6 ⟨nv,rfl,R0,l0⟩;have g0:Hid (Bq W5 W6):=dA.trans l0;have N1:=Zz R0;obtain⟨na,nn,ncp,rfl⟩:∃a n c,nv=.slice a n c:=by
  obtain⟨a,c,e,-⟩:=R0 W6 ⟨Nat.le_refl _,λ_ _ _=>rfl⟩;exact⟨a,_,c,e⟩
 have O1:W5.heap.size<=W6.heap.size:=g0.size;have d0:Cl W6 w.heap.size 0 Zq:=(g0.cell (p:=(Aq w.heap.size 0)) q0).trans Q0.1;have d1:Cl W6 w.heap.size 1 Zq:=(g0.cell (p:=(Aq w.heap.size 1)) q0).trans Q0.2.1;have df:∀j,W6.frozen? (Aq w.heap.size j)=false:=λj=>(g0.frozen (p:=(Aq w.heap.size j)) q0).trans (Q0.2.2 j);clear R0 l0 u1
 go_wp2_with fail
 refine⟨HS _ g0,?_⟩;refine Zw rfl (by rintro _ ⟨_,_⟩;go_simp<;>rfl) (by go_simp<;>rfl) ?_;obtain⟨e0,e1,ek,es,eb⟩:=zlz (wz:=W6) (.slice sa sn sc) (.slice na nn ncp) d0 d1;have HK:=Zz ek;have HT:Hid (((W6.setCell (Aq w.heap.size 0) (.slice sa sn sc)).setCell (Aq w.heap.size 1) (.slice na nn ncp)).cell? (Aq w.heap.size 0)=some (.slice sa sn sc)/\((W6.setCell (Aq w.heap.size 0) (.slice sa sn sc)).setCell (Aq w.heap.size 1) (.slice na nn ncp)).cell? (Aq w.heap.size 1)=some (.slice na nn ncp)/\((W6.setCell (Aq w.heap.size 0) (.slice sa sn sc)).setCell (Aq w.heap.size 1) (.slice na nn ncp)).heap.size=W6.heap.size/\∀B w',Below B w' W6->B<=w.heap.size->Below B w' ((W6.setCell (Aq w.heap.size 0) (.slice sa sn sc)).setCell (Aq w.heap.size 1) (.slice na nn ncp))):=⟨e0,e1,es,eb⟩;clear e0 e1 ek es eb;refine Zt ?_
 go_wp2_with fail
 refine⟨⟨(Qc (a:=(Aq W2.heap.size 1)) (HK W2.heap.size (by omega))).trans (HS _ g0).1,(Qc (a:=(Aq Pb 1)) (HK Pb (by omega))).trans (HS _ g0).2⟩,?_⟩;refine Zw rfl (by rintro _ ⟨_,_⟩;go_simp<;>rfl) (by go_simp<;>rfl) ?_;refine Zu ?_
 go_wp2_with fail
 obtain⟨e0,e1,es,eb⟩:=HT.out;have ek:=HK.out;have P1:=L0.trans (g0.mono L0.size);obtain⟨q1,q2⟩:=v1 W6 (.slice sa sn sc) (z1.1 W6 (u0 W6 g0)) z1.2 (.slice na nn ncp) N1 _ O1 es ek;exact bodyPost_ret (v:=.tuple #[.agg #[.slice sa sn sc,.slice na nn ncp],.nilIface]) (by simp[results,results21,go_sem,e0,e1]) rfl
  ⟨eb _ _ P1 (Nat.le_refl _),.inr ⟨by rw[HE.out],sa,sn,sc,na,nn,ncp,rfl,by rw[HE.out];exact q1,by rw[HE.out];exact q2⟩⟩
end Go.Proofs.YtfhpibppblbgcaaGreatDoor
namespace Go.Proofs.YtfhpibppblbgcaaGreatDoor
open Go.Proofs.Tryz
variable{B Pb:Nat}{w w0:World}{o1 o2 o3 o4:Obj}{a:Addr}{u:Value}
def Fl.bf(q:Nat×Nat×Fl.aS):Nat×Int×List UInt8:=
 if q.1≠0 then(q.1,(q.2.1:Int),[]) else if 0<(Fl.bH q.2.2).1 then(7,((Fl.bH q.2.2).1:Int),[])
 else if(Fl.bx (Fl.bH q.2.2).2.1 (Fl.bH q.2.2).2.2).2.1=false then(8,(Fl.bx (Fl.bH q.2.2).2.1 (Fl.bH q.2.2).2.2).2.2,[])
 else(0,-1,(Fl.bx (Fl.bH q.2.2).2.1 (Fl.bH q.2.2).2.2).1)
open Go.RowKit
def Zv.at{B:Nat}{w:World}{ao:Option Addr}{n cap:Nat}{xs:List Int}(h:Zv B w (.slice ao n cap) xs){i:Nat}(hi:i<xs.length):∃b off,ao=some (Aq b off)/\b<B/\w.cell? (Aq b (off+i))=some (Iq (xs.getD i 0)):=by
 obtain⟨ao',cap',hv,_,_,hx⟩:=h;obtain⟨b,off,ha,b0,a0⟩:=hx (by intro hh;rw[hh]at hi;simp at hi);simp only[Value.slice.injEq]at hv;exact⟨b,off,hv.1.trans ha,b0,a0 i hi⟩
open Go.Extern.Stop Go.Stop Go.Extern
def zmy(t:Addr)(w:World):(ReflectliteValue.unpack (.iface 75 (.pointer (some t)))).run prog w=.ok (.agg #[.pointer (some ⟨4,75,none⟩),Pq w.heap.size,.int .u64 150]) (w.alloc (.cells #[.pointer (some t)] 75)):=by kernel_rfl
def zc6(a:Addr)(w:World):(ReflectliteValue.methodAny (ReflectliteValue.valueError "reflectlite.Value.Type" 0) (λt _ _ _=>ReflectliteType.toType t) #[.agg #[.pointer (some ⟨4,75,none⟩),.pointer (some a),.int .u64 150]]).run prog w=.ok (.iface 189 (.agg #[.pointer (some ⟨4,75,none⟩)])) w:=by kernel_rfl
def zuw(h:Value)(w:World):(Go.method 407 189 (.agg #[h]) "Kind").run prog w=.ok (190,h) w:=by kernel_rfl
def zc7(w:World):((ReflectliteType.abiMethod λt=>Functor.map (λa:Nat=>Value.int IntKind.u8 (a:Int)) (Rtype.kind t)) #[.pointer (some ⟨4,75,none⟩)]).run prog w=.ok (.int .u8 22) w:=by kernel_rfl
def yxy(w:World):((ReflectliteType.abiMethod λt=>Functor.map (λa:Nat=>Value.int IntKind.u8 (a:Int)) (Rtype.kind t)) #[.pointer (some ⟨4,73,none⟩)]).run prog w=.ok (.int .u8 22) w:=by kernel_rfl
def zr8(z:Sem Value)(f:TypeId->Addr->Nat->Nat->Sem Value)(v:Value)(t:TypeId)(a:Addr)(fl:Nat)(w w':World)(h:(ReflectliteValue.parts v).run prog w=.ok (some (t,a,fl)) w'):
  (ReflectliteValue.method z f #[v]).run prog w=(f t a fl (fl % 32)).run prog w':=by
 show (Sem.run prog (ReflectliteValue.parts v>>=_) w)=_;rw[Sem.run_bind,h];rfl
def zg9(a:Addr)(w:World):(ReflectliteValue.parts (.agg #[.pointer (some ⟨4,75,none⟩),.pointer (some a),.int .u64 150])).run prog w=.ok (some (75,a,150)) w:=by kernel_rfl
def zgz(a p:Addr)(W:World)(ha:W.cell? a=some (.pointer (some p))):(ReflectliteValue.method (ReflectliteValue.valueError "reflectlite.Value.IsNil" 0) ReflectliteValue.isNil #[.agg #[.pointer (some ⟨4,75,none⟩),.pointer (some a),.int .u64 150]]).run prog W=.ok (.bool false) W:=by
 rw[zr8 _ _ _ _ _ _ _ _ (zg9 a W)];simp[ReflectliteValue.isNil,loadVar,isAgg,underlying,underlying75,ha,Result.andThen]
def zuv(h:Value)(w:World):(Go.method 407 189 (.agg #[h]) "Elem").run prog w=.ok (203,.agg #[h]) w:=by kernel_rfl
def zzz(h:Value)(w:World):(Go.method 407 189 (.agg #[h]) "Implements").run prog w=.ok (204,.agg #[h]) w:=by kernel_rfl
def Jo(h:Value)(w:World):(Go.method 407 189 (.agg #[h]) "AssignableTo").run prog w=.ok (201,.agg #[h]) w:=by kernel_rfl
def zc8(w:World):(ReflectliteType.method ReflectliteType.elem #[.agg #[.pointer (some ⟨4,75,none⟩)]]).run prog w=.ok (.iface 189 (.agg #[.pointer (some ⟨4,73,none⟩)])) w:=by kernel_rfl
def zp0(w:World):(ReflectliteType.relation "Implements" ReflectliteType.implements_ #[.agg #[.pointer (some ⟨4,73,none⟩)],.iface 189 (.agg #[.pointer (some ⟨4,47,none⟩)])]).run prog w=.ok (.bool true) w:=by kernel_rfl
def yp6(v:Value)(w:World):(ReflectliteType.typeOf #[.iface 73 v]).run prog w=.ok (.iface 189 (.agg #[.pointer (some ⟨4,73,none⟩)])) w:=by kernel_rfl
def ze1(w:World):(ReflectliteType.relation "AssignableTo" ReflectliteType.assignableTo #[.agg #[.pointer (some ⟨4,73,none⟩)],.iface 189 (.agg #[.pointer (some ⟨4,73,none⟩)])]).run prog w=.ok (.bool true) w:=by kernel_rfl
def yu4(e:Addr)(w:World):(ReflectliteValue.unpack (.iface 73 (.pointer (some e)))).run prog w=.ok (.agg #[.pointer (some ⟨4,73,none⟩),Pq w.heap.size,.int .u64 150]) (w.alloc (.cells #[.pointer (some e)] 73)):=by kernel_rfl
def yu5(w:World):(Rtype.elem? 75).run prog w=.ok (some 73) w:=by kernel_rfl
def rl_mkP(p:Addr)(w:World):(ReflectliteValue.mk 73 p ReflectliteValue.flagAddr).run prog w=.ok (.agg #[.pointer (some ⟨4,73,none⟩),.pointer (some p),.int .u64 406]) w:=by kernel_rfl
def yp7(a p:Addr)(W:World)(ha:W.cell? a=some (.pointer (some p))):(ReflectliteValue.method (ReflectliteValue.valueError "reflectlite.Value.Elem" 0) ReflectliteValue.elem #[.agg #[.pointer (some ⟨4,75,none⟩),.pointer (some a),.int .u64 150]]).run prog W=.ok (.agg #[.pointer (some ⟨4,73,none⟩),.pointer (some p),.int .u64 406]) W:=by
 rw[zr8 _ _ _ _ _ _ _ _ (zg9 a W)];simp[ReflectliteValue.elem,loadVar,isAgg,underlying,underlying75,ha,Result.andThen,yu5,rl_mkP]
def yp8(a:Addr)(w:World):(ReflectliteValue.parts (.agg #[.pointer (some ⟨4,73,none⟩),.pointer (some a),.int .u64 406])).run prog w=.ok (some (73,a,406)) w:=by kernel_rfl
def yl7(a:Addr)(w:World):(ReflectliteValue.parts (.agg #[.pointer (some ⟨4,73,none⟩),.pointer (some a),.int .u64 150])).run prog w=.ok (some (73,a,150)) w:=by kernel_rfl
def yp9(w:World):(Rtype.directlyAssignable 73 73).run prog w=.ok true w:=by kernel_rfl
def rl_setP(ta b e:Addr)(gX:Value)(W:World)(hb:W.cell? b=some (.pointer (some e)))(ht:W.cell? ta=some gX)(hf:W.frozen? ta=false):
  (ReflectliteValue.set #[.agg #[.pointer (some ⟨4,73,none⟩),.pointer (some ta),.int .u64 406],.agg #[.pointer (some ⟨4,73,none⟩),.pointer (some b),.int .u64 150]]).run prog W=.ok (.tuple #[]) (W.setCell ta (.pointer (some e))):=by
 have h1:=yp8 ta W;have h2:=yl7 b W;have h3:=yp9 W;show Sem.run prog (ReflectliteValue.parts (.agg #[.pointer (some ⟨4,73,none⟩),.pointer (some ta),.int .u64 406])>>=λo1=>ReflectliteValue.parts (.agg #[.pointer (some ⟨4,73,none⟩),.pointer (some b),.int .u64 150])>>=λo2=>_) W=_;simp only[Sem.run_bind,h1,h2,Result.andThen];simp[ReflectliteValue.flagAddr,loadVar,isAgg,underlying,underlying73,hb,Result.andThen,h3,storeVar,Value.cells,storeCells,Addr.add];rw[run_store prog W ta _ _ (by rfl)];simp[ht,hf]
def xh6:= @run_callFunc_extern prog 42 _ (λargs=>ReflectliteValue.unpack (args.getD 0 (.tuple #[]))) func42 (by kernel_rfl) (by kernel_rfl) (by kernel_rfl) (by kernel_rfl)
def xh7:= @run_callFunc_extern prog 43 _ (ReflectliteValue.methodAny (ReflectliteValue.valueError "reflectlite.Value.Type" 0) (λt _ _ _=>ReflectliteType.toType t)) func43 (by kernel_rfl) (by kernel_rfl) (by kernel_rfl) (by kernel_rfl)
def xh8:= @run_callFunc_extern prog 44 _ (ReflectliteValue.method (ReflectliteValue.valueError "reflectlite.Value.IsNil" 0) ReflectliteValue.isNil) func44 (by kernel_rfl) (by kernel_rfl) (by kernel_rfl) (by kernel_rfl)
def xh27:= @run_callFunc_extern prog 190 _ (ReflectliteType.abiMethod λt=>do pure (.int .u8 (<-Rtype.kind t))) func190 (by kernel_rfl) (by kernel_rfl) (by kernel_rfl) (by kernel_rfl)
def xh37:= @run_callFunc_extern prog 203 _ (ReflectliteType.method ReflectliteType.elem) func203 (by kernel_rfl) (by kernel_rfl) (by kernel_rfl) (by kernel_rfl)
def xh38:= @run_callFunc_extern prog 204 _ (ReflectliteType.relation "Implements" ReflectliteType.implements_) func204 (by kernel_rfl) (by kernel_rfl) (by kernel_rfl) (by kernel_rfl)
def xh10:= @run_callFunc_extern prog 78 _ ReflectliteType.typeOf func78 (by kernel_rfl) (by kernel_rfl) (by kernel_rfl) (by kernel_rfl)
def xh35:= @run_callFunc_extern prog 201 _ (ReflectliteType.relation "AssignableTo" ReflectliteType.assignableTo) func201 (by kernel_rfl) (by kernel_rfl) (by kernel_rfl) (by kernel_rfl)
def xh11:= @run_callFunc_extern prog 79 _ (ReflectliteValue.method (ReflectliteValue.valueError "reflectlite.Value.Elem" 0) ReflectliteValue.elem) func79 (by kernel_rfl) (by kernel_rfl) (by kernel_rfl) (by kernel_rfl)
def xh12:= @run_callFunc_extern prog 80 _ ReflectliteValue.set func80 (by kernel_rfl) (by kernel_rfl) (by kernel_rfl) (by kernel_rfl)
def as_at(e t:Addr)(gX:Value)(w:World)(hg:w.cell? ⟨0,0,none⟩=some (.iface 189 (.agg #[.pointer (some ⟨4,47,none⟩)])))(a0:w.cell? t=some gX)(c0:w.frozen? t=false):
  Cq 23 #[.iface 73 (.pointer (some e)),.iface 75 (.pointer (some t))] w λev w'=>ev=.returned (.bool true)/\w'=((((w.alloc (.cells #[.pointer (some t)] 75)).alloc (.cells #[.pointer (some ⟨4,75,none⟩),Pq w.heap.size,.int .u64 150] 116)).alloc (.cells #[.pointer (some ⟨4,75,none⟩),Pq w.heap.size,.int .u64 150] 116)).alloc (.cells #[.pointer (some e)] 73)).setCell t (.pointer (some e)):=by
 have h6:=xh6;have h7:=xh7;have h8:=xh8;have e0:=xh27;have f0:=xh37;have g0:=xh38;have h0:=xh10;have i0:=xh35;have j0:=xh11;have k0:=xh12;have tO:=yp6;have mA:=Jo;have a25:=ze1;have v25:=yu4;have f6:=zmy;have f7:=zc6;have mK:=zuw;have mE:=zuv;have mI:=zzz;have k27:=zc7;have k25:=yxy;have e27:=zc8;have i25:=zp0;have d0:0<w.heap.size:=Qe w _ hg;have b0:t.block<w.heap.size:=Qe w _ a0;have n8:=zgz (Aq w.heap.size 0) t ((w.alloc (.cells #[.pointer (some t)] 75)).alloc (.cells #[.pointer (some ⟨4,75,none⟩),Pq w.heap.size,.int .u64 150] 116)) (by simp);have l0:((w.alloc (.cells #[.pointer (some t)] 75)).alloc (.cells #[.pointer (some ⟨4,75,none⟩),Pq w.heap.size,.int .u64 150] 116)).cell? ⟨0,0,none⟩=some (.iface 189 (.agg #[.pointer (some ⟨4,47,none⟩)])):=by
  rw[Qf _ _ _ (by simp<;>omega),Qf _ _ _ d0];exact hg
 have el:=yp7 (Aq w.heap.size 0) t (((w.alloc (.cells #[.pointer (some t)] 75)).alloc (.cells #[.pointer (some ⟨4,75,none⟩),Pq w.heap.size,.int .u64 150] 116)).alloc (.cells #[.pointer (some ⟨4,75,none⟩),Pq w.heap.size,.int .u64 150] 116)) (by rw[Qf _ _ (Aq w.heap.size 0) (by simp;omega)];simp);have st:=rl_setP t (Aq (w.heap.size+1+1+1) 0) e gX ((((w.alloc (.cells #[.pointer (some t)] 75)).alloc (.cells #[.pointer (some ⟨4,75,none⟩),Pq w.heap.size,.int .u64 150] 116)).alloc (.cells #[.pointer (some ⟨4,75,none⟩),Pq w.heap.size,.int .u64 150] 116)).alloc (.cells #[.pointer (some e)] 73))
  (by rw[World.cell?_alloc_at _ _ _ _ (by simp)];rfl)
  (by rw[Qf _ _ t (by simp;omega),Qf _ _ t (by simp;omega),Qf _ _ t (by simp;omega),Qf _ _ t b0];exact a0)
  (by rw[World.frozen?_alloc_old _ _ t (by simp;omega),World.frozen?_alloc_old _ _ t (by simp;omega),World.frozen?_alloc_old _ _ t (by simp;omega),World.frozen?_alloc_old _ _ t (Nat.ne_of_lt b0)];exact c0)
 go_enter func23,ntmps23
 go_wp2;refine wp_loop_rounds 1 ?_;rw[rounds_succ];go_wp2;go_ret;exact⟨rfl,rfl⟩
def Jn(w:World):Prop:=w.cell? ⟨0,0,none⟩=some (.iface 189 (.agg #[.pointer (some ⟨4,47,none⟩)]))
def yxx(w:World):Cq 12 #[.nilIface] w λe w'=>e=.returned (.tuple #[Iq 0,Iq (-1)])/\Bq w w':=by
 go_enter func12,ntmps12
 go_wp2
 go_ret2
 exact⟨rfl,(bA).alloc (by simp) _⟩
def below_drewN{w':World}(h:Below B w w')(m:Nat):Below B w (w'.drewN m):=by
 induction m with
 |zero=>exact h
 |succ m ih=>exact ih.drew
def zgy(h:Below B w0 w)(hB:B<=w.heap.size):Below B w0 ((((w.alloc o1).alloc o2).alloc o3).alloc o4):=
 (((h.alloc hB _).alloc (by simp;omega) _).alloc (by simp;omega) _).alloc (by simp;omega) _
def ys4(eb eo:Nat)(n p:Int)(w:World)(hg:Jn w)(h0:w.cell? (Aq eb eo)=some (Iq n))(h1:w.cell? (Aq eb (eo+1))=some (Iq p)):
  Cq 12 #[.iface 73 (.pointer (some (Aq eb eo)))] w λe w'=>e=.returned (.tuple #[Iq n,Iq p])/\Bq w w':=by
 have d0:0<w.heap.size:=Qe w _ hg;have e0:eb<w.heap.size:=Qe w _ h0;have hg':((w.alloc (.cells #[.pointer none] 73)).alloc (.cells #[Iq 0] 23)).cell? ⟨0,0,none⟩=some (.iface 189 (.agg #[.pointer (some ⟨4,47,none⟩)])):=by
  rw[Qf _ _ _ (by simp<;>omega),Qf _ _ _ d0];exact hg
 have b0:Hid (Cq 23 #[.iface 73 (.pointer (some (Aq eb eo))),.iface 75 (Pq w.heap.size)] ((w.alloc (.cells #[.pointer none] 73)).alloc (.cells #[Iq 0] 23)) λev w'=>ev=.returned (.bool true)/\(Cl w' w.heap.size 0 (.pointer (some (Aq eb eo)))/\Cl w' eb eo (Iq n)/\Cl w' eb (eo+1) (Iq p)/\Bq w w')):=by
  refine(as_at (Aq eb eo) (Aq w.heap.size 0) (.pointer none) ((w.alloc (.cells #[.pointer none] 73)).alloc (.cells #[Iq 0] 23)) hg' (by simp) (by simp)).mono ?_;rintro ev w' ⟨rfl,rfl⟩;have hb:Bq w ((w.alloc (.cells #[.pointer none] 73)).alloc (.cells #[Iq 0] 23)):=(bA).alloc (by simp) _;have f0:=zgy (o1:=.cells #[Pq w.heap.size] 75) (o2:=.cells #[.pointer (some ⟨4,75,none⟩),.pointer (some ⟨((w.alloc (.cells #[.pointer none] 73)).alloc (.cells #[Iq 0] 23)).heap.size,0,none⟩),.int .u64 150] 116) (o3:=.cells #[.pointer (some ⟨4,75,none⟩),.pointer (some ⟨((w.alloc (.cells #[.pointer none] 73)).alloc (.cells #[Iq 0] 23)).heap.size,0,none⟩),.int .u64 150] 116) (o4:=.cells #[.pointer (some (Aq eb eo))] 73) hb (by simp;omega);have q:∀o,(Bq w o->∀j v,Cl w eb j v->Cl o eb j v):=λo ho j v hv=>(ho.cell (p:=(Aq eb j)) e0).trans hv;have a0:=f0.setCell (p:=(Aq w.heap.size 0)) (Nat.le_refl _) (.pointer (some (Aq eb eo)));refine⟨rfl,World.cell?_setCell_same' _ _ _ ?_,q _ a0 _ _ h0,q _ a0 _ _ h1,a0⟩;rw[Qf _ _ _ (by simp;omega),Qf _ _ _ (by simp;omega),Qf _ _ _ (by simp;omega),Qf _ _ _ (by simp;omega),Qf _ _ _ (by simp)];simp
 clear hg' hg
 go_enter func12,ntmps12
 go_wp2_with fail
 refine(b0.out).mono ?_;rintro e w1 ⟨rfl,ca,c0,c1,hb⟩;have hz:w.heap.size<w1.heap.size:=Qe w1 _ ca;have HB:=Zz hb;clear hb b0 h0 h1
 go_wp2_with fail
 go_quiet (fail)
 go_wp2
 go_ret2
 exact⟨rfl,below_drewN HB _⟩
def zgx(v:Value)(w:World):(ReflectliteType.typeOf #[.iface 23 v]).run prog w=.ok (.iface 189 (.agg #[.pointer (some ⟨4,23,none⟩)])) w:=by kernel_rfl
def zjy(w:World):(ReflectliteType.relation "AssignableTo" ReflectliteType.assignableTo #[.agg #[.pointer (some ⟨4,23,none⟩)],.iface 189 (.agg #[.pointer (some ⟨4,73,none⟩)])]).run prog w=.ok (.bool false) w:=by kernel_rfl
def yu6(t:Addr)(w:World):(ReflectliteValue.unpack (.iface 78 (.pointer (some t)))).run prog w=.ok (.agg #[.pointer (some ⟨4,78,none⟩),Pq w.heap.size,.int .u64 150]) (w.alloc (.cells #[.pointer (some t)] 78)):=by kernel_rfl
def yiw(a:Addr)(w:World):(ReflectliteValue.methodAny (ReflectliteValue.valueError "reflectlite.Value.Type" 0) (λt _ _ _=>ReflectliteType.toType t) #[.agg #[.pointer (some ⟨4,78,none⟩),.pointer (some a),.int .u64 150]]).run prog w=.ok (.iface 189 (.agg #[.pointer (some ⟨4,78,none⟩)])) w:=by kernel_rfl
def yiv(w:World):((ReflectliteType.abiMethod λt=>Functor.map (λa:Nat=>Value.int IntKind.u8 (a:Int)) (Rtype.kind t)) #[.pointer (some ⟨4,78,none⟩)]).run prog w=.ok (.int .u8 22) w:=by kernel_rfl
def yh0(w:World):((ReflectliteType.abiMethod λt=>Functor.map (λa:Nat=>Value.int IntKind.u8 (a:Int)) (Rtype.kind t)) #[.pointer (some ⟨4,23,none⟩)]).run prog w=.ok (.int .u8 2) w:=by kernel_rfl
def zc9(a:Addr)(w:World):(ReflectliteValue.parts (.agg #[.pointer (some ⟨4,78,none⟩),.pointer (some a),.int .u64 150])).run prog w=.ok (some (78,a,150)) w:=by kernel_rfl
def yl8(a p:Addr)(W:World)(ha:W.cell? a=some (.pointer (some p))):(ReflectliteValue.method (ReflectliteValue.valueError "reflectlite.Value.IsNil" 0) ReflectliteValue.isNil #[.agg #[.pointer (some ⟨4,78,none⟩),.pointer (some a),.int .u64 150]]).run prog W=.ok (.bool false) W:=by
 rw[zr8 _ _ _ _ _ _ _ _ (zc9 a W)];simp[ReflectliteValue.isNil,loadVar,isAgg,underlying,underlying78,ha,Result.andThen]
def yh1(w:World):(ReflectliteType.method ReflectliteType.elem #[.agg #[.pointer (some ⟨4,78,none⟩)]]).run prog w=.ok (.iface 189 (.agg #[.pointer (some ⟨4,23,none⟩)])) w:=by kernel_rfl
def ze2(w:World):(ReflectliteType.relation "Implements" ReflectliteType.implements_ #[.agg #[.pointer (some ⟨4,23,none⟩)],.iface 189 (.agg #[.pointer (some ⟨4,47,none⟩)])]).run prog w=.ok (.bool true) w:=by kernel_rfl
def ze3(w:World):(ReflectliteType.relation "AssignableTo" ReflectliteType.assignableTo #[.agg #[.pointer (some ⟨4,23,none⟩)],.iface 189 (.agg #[.pointer (some ⟨4,23,none⟩)])]).run prog w=.ok (.bool true) w:=by kernel_rfl
def yu7(n:Int)(w:World):(ReflectliteValue.unpack (.iface 23 (Iq n))).run prog w=.ok (.agg #[.pointer (some ⟨4,23,none⟩),Pq w.heap.size,.int .u64 130]) (w.alloc (.cells #[Iq n] 23)):=by kernel_rfl
def ypz(w:World):(Rtype.elem? 78).run prog w=.ok (some 23) w:=by kernel_rfl
def rl_mkE(p:Addr)(w:World):(ReflectliteValue.mk 23 p ReflectliteValue.flagAddr).run prog w=.ok (.agg #[.pointer (some ⟨4,23,none⟩),.pointer (some p),.int .u64 386]) w:=by kernel_rfl
def yl9(a p:Addr)(W:World)(ha:W.cell? a=some (.pointer (some p))):(ReflectliteValue.method (ReflectliteValue.valueError "reflectlite.Value.Elem" 0) ReflectliteValue.elem #[.agg #[.pointer (some ⟨4,78,none⟩),.pointer (some a),.int .u64 150]]).run prog W=.ok (.agg #[.pointer (some ⟨4,23,none⟩),.pointer (some p),.int .u64 386]) W:=by
 rw[zr8 _ _ _ _ _ _ _ _ (zc9 a W)];simp[ReflectliteValue.elem,loadVar,isAgg,underlying,underlying78,ha,Result.andThen,ypz,rl_mkE]
def ypy(a:Addr)(w:World):(ReflectliteValue.parts (.agg #[.pointer (some ⟨4,23,none⟩),.pointer (some a),.int .u64 386])).run prog w=.ok (some (23,a,386)) w:=by kernel_rfl
def ylz(a:Addr)(w:World):(ReflectliteValue.parts (.agg #[.pointer (some ⟨4,23,none⟩),.pointer (some a),.int .u64 130])).run prog w=.ok (some (23,a,130)) w:=by kernel_rfl
def ypx(w:World):(Rtype.directlyAssignable 23 23).run prog w=.ok true w:=by kernel_rfl
def rl_setE(ta b:Addr)(n:Int)(gX:Value)(W:World)(hb:W.cell? b=some (Iq n))(ht:W.cell? ta=some gX)(hf:W.frozen? ta=false):
  (ReflectliteValue.set #[.agg #[.pointer (some ⟨4,23,none⟩),.pointer (some ta),.int .u64 386],.agg #[.pointer (some ⟨4,23,none⟩),.pointer (some b),.int .u64 130]]).run prog W=.ok (.tuple #[]) (W.setCell ta (Iq n)):=by
 have h1:=ypy ta W;have h2:=ylz b W;have h3:=ypx W;show Sem.run prog (ReflectliteValue.parts (.agg #[.pointer (some ⟨4,23,none⟩),.pointer (some ta),.int .u64 386])>>=λo1=>ReflectliteValue.parts (.agg #[.pointer (some ⟨4,23,none⟩),.pointer (some b),.int .u64 130])>>=λo2=>_) W=_;simp only[Sem.run_bind,h1,h2,Result.andThen];simp[ReflectliteValue.flagAddr,loadVar,isAgg,underlying,underlying23,hb,Result.andThen,h3,storeVar,Value.cells,storeCells,Addr.add];rw[run_store prog W ta _ _ (by rfl)];simp[ht,hf]
def ypw(v:Value)(xT:TypeId)(w:World):(Instr.typeAssert (.iface 23 v) xT 194 true).run prog w=.ok (.tuple #[.nilIface,.bool false]) w:=run_typeAssert_lacksB underlying194 (by kernel_rfl) (by kernel_rfl) v xT w
def ypv(v:Value)(xT:TypeId)(w:World):(Instr.typeAssert (.iface 23 v) xT 197 true).run prog w=.ok (.tuple #[.nilIface,.bool false]) w:=run_typeAssert_lacksB underlying197 (by kernel_rfl) (by kernel_rfl) v xT w
def yo0(v:Value)(xT:TypeId)(w:World):(Instr.typeAssert (.iface 23 v) xT 199 true).run prog w=.ok (.tuple #[.nilIface,.bool false]) w:=run_typeAssert_lacksB underlying199 (by kernel_rfl) (by kernel_rfl) v xT w
def as_miss(n:Int)(t:Addr)(gX:Value)(w:World)(hg:w.cell? ⟨0,0,none⟩=some (.iface 189 (.agg #[.pointer (some ⟨4,47,none⟩)])))(b0:w.cell? t=some gX):
  Cq 23 #[.iface 23 (Iq n),.iface 75 (.pointer (some t))] w λev w'=>ev=.returned (.bool false)/\Bq w w':=by
 have h6:=xh6;have h7:=xh7;have h8:=xh8;have c0:=xh27;have d0:=xh37;have e0:=xh38;have f0:=xh10;have g0:=xh35;have h0:=xh11;have i0:=xh12;have tO:=zgx;have mA:=Jo;have aN:=zjy;have l1:=ypw;have l2:=ypv;have l3:=yo0;have f6:=zmy;have f7:=zc6;have mK:=zuw;have mE:=zuv;have mI:=zzz;have k27:=zc7;have k25:=yxy;have e27:=zc8;have i25:=zp0;have a0:0<w.heap.size:=Qe w _ hg;have n8:=zgz (Aq w.heap.size 0) t ((w.alloc (.cells #[.pointer (some t)] 75)).alloc (.cells #[.pointer (some ⟨4,75,none⟩),Pq w.heap.size,.int .u64 150] 116)) (by simp);have j0:((w.alloc (.cells #[.pointer (some t)] 75)).alloc (.cells #[.pointer (some ⟨4,75,none⟩),Pq w.heap.size,.int .u64 150] 116)).cell? ⟨0,0,none⟩=some (.iface 189 (.agg #[.pointer (some ⟨4,47,none⟩)])):=by
  rw[Qf _ _ _ (by simp<;>omega),Qf _ _ _ a0];exact hg
 go_enter func23,ntmps23
 go_wp2;refine wp_loop_rounds 1 ?_;rw[rounds_succ];go_wp2;go_ret;exact⟨rfl,((bA).alloc (by simp) _).alloc (by simp;omega) _⟩
def yh2(n:Int)(t:Addr)(gX:Value)(w:World)(hg:w.cell? ⟨0,0,none⟩=some (.iface 189 (.agg #[.pointer (some ⟨4,47,none⟩)])))(a0:w.cell? t=some gX)(c0:w.frozen? t=false):
  Cq 23 #[.iface 23 (Iq n),.iface 78 (.pointer (some t))] w λev w'=>ev=.returned (.bool true)/\w'=((((w.alloc (.cells #[.pointer (some t)] 78)).alloc (.cells #[.pointer (some ⟨4,78,none⟩),Pq w.heap.size,.int .u64 150] 116)).alloc (.cells #[.pointer (some ⟨4,78,none⟩),Pq w.heap.size,.int .u64 150] 116)).alloc (.cells #[Iq n] 23)).setCell t (Iq n):=by
 have h6:=xh6;have h7:=xh7;have h8:=xh8;have e0:=xh27;have f0:=xh37;have g0:=xh38;have h0:=xh10;have i0:=xh35;have j0:=xh11;have k0:=xh12;have tO:=zgx;have mA:=Jo;have a25:=ze3;have v25:=yu7;have f6:=yu6;have f7:=yiw;have mK:=zuw;have mE:=zuv;have mI:=zzz;have k27:=yiv;have k25:=yh0;have e27:=yh1;have i25:=ze2;have d0:0<w.heap.size:=Qe w _ hg;have b0:t.block<w.heap.size:=Qe w _ a0;have n8:=yl8 (Aq w.heap.size 0) t ((w.alloc (.cells #[.pointer (some t)] 78)).alloc (.cells #[.pointer (some ⟨4,78,none⟩),Pq w.heap.size,.int .u64 150] 116)) (by simp);have l0:((w.alloc (.cells #[.pointer (some t)] 78)).alloc (.cells #[.pointer (some ⟨4,78,none⟩),Pq w.heap.size,.int .u64 150] 116)).cell? ⟨0,0,none⟩=some (.iface 189 (.agg #[.pointer (some ⟨4,47,none⟩)])):=by
  rw[Qf _ _ _ (by simp<;>omega),Qf _ _ _ d0];exact hg
 have el:=yl9 (Aq w.heap.size 0) t (((w.alloc (.cells #[.pointer (some t)] 78)).alloc (.cells #[.pointer (some ⟨4,78,none⟩),Pq w.heap.size,.int .u64 150] 116)).alloc (.cells #[.pointer (some ⟨4,78,none⟩),Pq w.heap.size,.int .u64 150] 116)) (by rw[Qf _ _ (Aq w.heap.size 0) (by simp;omega)];simp);have st:=rl_setE t (Aq (w.heap.size+1+1+1) 0) n gX ((((w.alloc (.cells #[.pointer (some t)] 78)).alloc (.cells #[.pointer (some ⟨4,78,none⟩),Pq w.heap.size,.int .u64 150] 116)).alloc (.cells #[.pointer (some ⟨4,78,none⟩),Pq w.heap.size,.int .u64 150] 116)).alloc (.cells #[Iq n] 23))
  (by rw[World.cell?_alloc_at _ _ _ _ (by simp)];rfl)
  (by rw[Qf _ _ t (by simp;omega),Qf _ _ t (by simp;omega),Qf _ _ t (by simp;omega),Qf _ _ t b0];exact a0)
  (by rw[World.frozen?_alloc_old _ _ t (by simp;omega),World.frozen?_alloc_old _ _ t (by simp;omega),World.frozen?_alloc_old _ _ t (by simp;omega),World.frozen?_alloc_old _ _ t (Nat.ne_of_lt b0)];exact c0)
 go_enter func23,ntmps23
 go_wp2;refine wp_loop_rounds 1 ?_;rw[rounds_succ];go_wp2;go_ret;exact⟨rfl,rfl⟩
def za2(h:Below B w0 w)(hB:B<=w.heap.size)(ha:B<=a.block):Below B w0 (((((w.alloc o1).alloc o2).alloc o3).alloc o4).setCell a u):=(zgy h hB).setCell ha u
def yxw{gX:Value}(h:w.cell? a=some gX):(((((w.alloc o1).alloc o2).alloc o3).alloc o4).setCell a u).cell? a=some u:=by
 have hl:=Qe w a h;apply World.cell?_setCell_same'
 rw[Qf _ _ _ (by simp;omega),Qf _ _ _ (by simp;omega),Qf _ _ _ (by simp;omega),Qf _ _ _ hl,h];rfl
def zgw(n:Int)(w:World)(hg:Jn w):
  Cq 12 #[.iface 23 (Iq n)] w λe w'=>e=.returned (.tuple #[Iq n,Iq (-1)])/\Bq w w':=by
 have g0:0<w.heap.size:=Qe w _ hg;have a0:Bq w ((w.alloc (.cells #[.pointer none] 73)).alloc (.cells #[Iq 0] 23)):=(bA).alloc (by simp) _;have b0:∀o,Bq w o->Jn o:=λo ho=>(ho.cell (p:=⟨0,0,none⟩) g0).trans hg;have HM:Hid (Cq 23 #[.iface 23 (Iq n),.iface 75 (Pq w.heap.size)] ((w.alloc (.cells #[.pointer none] 73)).alloc (.cells #[Iq 0] 23)) λev w'=>ev=.returned (.bool false)/\(Bq w w'/\w'.cell? (Aq (w.heap.size+1) 0)=some (Iq 0)/\w'.frozen? (Aq (w.heap.size+1) 0)=false)):=by
  refine(as_miss n (Aq w.heap.size 0) (.pointer none) ((w.alloc (.cells #[.pointer none] 73)).alloc (.cells #[Iq 0] 23)) (b0 _ a0) (by simp)).mono ?_;rintro ev w' ⟨rfl,hb⟩;exact⟨rfl,a0.trans (hb.mono (by simp;omega)),by rw[hb.cell (p:=(Aq (w.heap.size+1) 0)) (by simp)];simp,by rw[hb.frozen (p:=(Aq (w.heap.size+1) 0)) (by simp)];simp⟩
 have HE:Hid (∀wz,Bq w wz->wz.cell? (Aq (w.heap.size+1) 0)=some (Iq 0)->wz.frozen? (Aq (w.heap.size+1) 0)=false->Cq 23 #[.iface 23 (Iq n),.iface 78 (.pointer (some (Aq (w.heap.size+1) 0)))] wz λev w'=>ev=.returned (.bool true)/\(Bq w w'/\w'.cell? (Aq (w.heap.size+1) 0)=some (Iq n))):=by
  intro wz hb hc hf;refine(yh2 n (Aq (w.heap.size+1) 0) (Iq 0) wz (b0 _ hb) hc hf).mono ?_;rintro ev w' ⟨rfl,rfl⟩;exact⟨rfl,za2 hb hb.size (by simp),yxw hc⟩
 clear hg b0 a0
 go_enter func12,ntmps12
 go_wp2_with fail
 refine(HM.out).mono ?_;rintro e w1 ⟨rfl,c0,d0,e0⟩;have h0:=Zz c0;clear c0 HM
 go_wp2_with fail
 refine(HE _ h0 d0 e0).mono ?_;rintro e w2 ⟨rfl,f0,j0⟩;have i0:=Zz f0;clear f0 HE d0 e0;go_wp2
 go_ret2
 exact⟨rfl,i0⟩
end Go.Proofs.YtfhpibppblbgcaaGreatDoor
namespace Go.Proofs.YtfhpibppblbgcaaGreatDoor
open Go.RowKit Go.Proofs.Tryz
variable{B Pb:Nat}{w w0:World}{o1 o2 o3 o4:Obj}{a:Addr}{u:Value}
def yxv(n:Int)(w:World):Cq 125 #[Iq n] w λe w'=>e=.returned (.bool (Fl.cq n))/\w'=w:=by
 by_cases h0:0<=n
 ·have b0:decide ((0:Int)<=n)=true:=by simpa using h0
  by_cases h1:n<=2147483647
  ·go_enter func125,ntmps125
   go_wp2;go_ret;exact⟨Zc (by simp[Fl.cq];omega),rfl⟩
  go_enter func125,ntmps125
  go_wp2;go_ret;exact⟨Zc (by simp[Fl.cq];omega),rfl⟩
 go_enter func125,ntmps125
 go_wp2;go_ret;exact⟨Zc (by simp[Fl.cq];omega),rfl⟩
def yh3(n:Int)(w:World):Cq 124 #[Iq n] w λe w'=>e=.returned (.bool (!Fl.cq n))/\w'=w:=by
 go_enter func124,ntmps124
 go_wp2_with (go_at_call 125;refine(yxv _ _).mono ?_;rintro e w1 ⟨rfl,rfl⟩)
 go_ret;exact⟨rfl,rfl⟩
def za3(xs:List Int)(v:Value)(B:Nat)(w:World)(hx:Zv B w v xs):
  Cq 152 #[v,.func (.func 124) #[] #[]] w λe w'=>(xs.all Fl.cq=true->e=.returned (Iq (-1)))/\(xs.all Fl.cq=false->∃j:Nat,e=.returned (Iq j))/\Bq w w':=by
 obtain⟨ao,cap,rfl,_,hm,_⟩:=id hx;unfold maxLen at hm;have HX:=Zz hx;clear hx
 go_enter func152,ntmps152
 go_wp2_with fail
 go_loopw [8] (λi wr=>∃j m:Nat,j<=xs.length/\i=Iq j/\wr=w.drewN m/\∀t,t<j->Fl.cq (xs.getD t 0)=true) (λi _=>xs.length - (intOf i).toNat)
 case atStart=>exact⟨0,0,by omega,rfl,rfl,λt ht=>by omega⟩
 case round=>
  obtain⟨j,m,hj,rfl,rfl,aK⟩:=hrel;have HA:=Zz aK;clear aK
  by_cases d0:j<xs.length
  ·obtain⟨b,off,rfl,h0,f0⟩:=HX.at d0
   have g0:(j:Int)<(xs.length:Int):=(by omega);obtain⟨x,hx⟩:=nmE (xs.getD j 0);rw[<-hx]at f0;have e0:=Zz hx;have HP:Hid (∀(c:Bool) (W:World),Fl.cq x= !c->Cq 124 #[Iq x] W λe w'=>e=.returned (.bool c)/\w'=W):=λc W hc=>(yh3 _ W).mono (by rintro e w' ⟨rfl,rfl⟩;exact⟨by rw[hc];simp,rfl⟩);clear hx
   cases c0:Fl.cq x with
   |true=>
    have a0:=Zz c0;clear c0
    go_wp2_with (go_at_call 124;refine(HP false _ a0).mono ?_;rintro e w1 ⟨rfl,rfl⟩)
    go_roundw
    case rel=>exact⟨j+1,m,by omega,by go_num,rfl,λt ht=>by
     by_cases h:t<j
     ·exact HA t h
     have:t=j:=by omega
     subst this;rw[<-e0.out];exact a0.out⟩
    case measure=>simp[intOf];omega
   |false=>
    have a0:=Zz c0;clear c0
    go_wp2_with (go_at_call 124;refine(HP true _ a0).mono ?_;rintro e w1 ⟨rfl,rfl⟩)
    go_ret;refine⟨λh=>?_,λ_=>⟨j,rfl⟩,by repeat (first|exact Below.refl _ _|apply Below.jW)⟩;rw[List.all_eq_true]at h;have:=h (xs.getD j 0) (by rw[Qa,Qb d0];exact List.getElem_mem d0)
    rw[<-e0.out,a0.out]at this;cases this
  have g0:(xs.length:Int)<=(j:Int):=(by omega)
  go_wp2_with fail
  go_ret;have b0:xs.all Fl.cq=true:=by
   rw[List.all_eq_true];intro y hy;obtain⟨t,ht,rfl⟩:=List.getElem_of_mem hy;have:=HA t (by omega)
   rwa [Qa,Qb ht]at this
  refine⟨λ_=>rfl,λh=>(by rw[b0]at h;cases h),by repeat (first|exact Below.refl _ _|apply Below.jW)⟩
def zjx(xs:List Int)(v:Value)(B:Nat)(w:World)(hx:Zv B w v xs):
  Cq 123 #[v,.func (.func 124) #[] #[]] w λe w'=>e=.returned (.bool (!xs.all Fl.cq))/\Bq w w':=by
 have HI:Hid (Cq 152 #[v,.func (.func 124) #[] #[]] w λe w'=>(xs.all Fl.cq=true->e=.returned (Iq (-1)))/\(xs.all Fl.cq=false->∃j:Nat,e=.returned (Iq j))/\Bq w w'):=za3 xs v B w hx;obtain⟨ao,cap,rfl,_,hm,_⟩:=id hx;clear hx hm
 go_enter func123,ntmps123
 go_wp2_with fail
 refine(HI.out).mono ?_;rintro e w1 ⟨h1,h2,hb⟩;have HB:=Zz hb;clear hb
 cases ha:xs.all Fl.cq with
 |true=>
  obtain rfl:=h1 ha;have a0:=Zz ha;clear h1 h2 ha;go_wp2;go_ret;exact⟨Zc (by rw[a0.out];rfl),HB⟩
 |false=>
  obtain⟨j,rfl⟩:=h2 ha;have b0:(0:Int)<=(j:Int):=(by omega);have a0:=Zz ha;clear h1 h2 ha;go_wp2;go_ret;exact⟨Zc (by rw[a0.out];rfl),HB⟩
def zvw(xs:List Int)(v:Value)(B:Nat)(w:World)(hx:Zv B w v xs):
  Cq 70 #[v] w λe w'=>e=.returned (.bool (xs.all Fl.cq))/\Bq w w':=by
 have b0:∀(fn:Fn) (first cap:Array Value) (w:World),(Instr.makeFunc fn first cap).run prog w=.ok (.func fn first cap) w:=λ_ _ _ _=>rfl;have HI:Hid (Cq 123 #[v,.func (.func 124) #[] #[]] w λe w'=>e=.returned (.bool (!xs.all Fl.cq))/\Bq w w'):=zjx xs v B w hx;obtain⟨ao,cap,rfl,_,hm,_⟩:=id hx;clear hx hm
 go_enter func70,ntmps70
 go_wp2_with fail
 refine(HI.out).mono ?_;rintro e w1 ⟨rfl,hb⟩;have HB:=Zz hb;clear hb
 cases ha:xs.all Fl.cq with
 |true=>
  have a0:=Zz ha;clear ha;go_wp2;go_ret;exact⟨Zc (by rw[a0.out]),HB⟩
 |false=>
  have a0:=Zz ha;clear ha;go_wp2;go_ret;exact⟨Zc (by rw[a0.out]),HB⟩
def ztz(a b:Nat)(ha:a<2147483648)(hb:b<2147483648):bits .or .i64 (a:Int) (b:Int)=((a|||b:Nat):Int):=by
 have hx:a|||b<2 ^ 31:=Nat.or_lt_two_pow (by omega) (by omega)
 have o:∀x:Nat,x<2147483648->(BitVec.ofInt 64 (x:Int)).toNat=x:=λx hx=>by rw[BitVec.ofInt_natCast,BitVec.toNat_ofNat];exact Nat.mod_eq_of_lt (by omega)
 show IntKind.i64.wrap ((BitVec.ofInt 64 (a:Int)|||BitVec.ofInt 64 (b:Int)).toNat:Int)=_;rw[BitVec.toNat_or,o a ha,o b hb];generalize a|||b=x at*;simp[IntKind.wrap,IntKind.bits,IntKind.signed];omega
def zx6(n:Nat)(a b c:Int):Int:=if n=0 then bits .or .i64 (bits .or .i64 (bits .or .i64 0 a) b) c else if n=1 then bits .or .i64 (bits .or .i64 0 b) c else if n=2 then bits .or .i64 0 c else 0
def zq5(a b:Nat):a|||b=0 ↔ a=0/\b=0:=by
 constructor
 ·intro h
  have h1:a<=a|||b:=Nat.left_le_or;have h2:b<=a|||b:=Nat.right_le_or;omega
 rintro⟨rfl,rfl⟩;rfl
def yo1(n:Nat)(a b c:Int)(ha:Fl.cq a=true)(hb:Fl.cq b=true)(hc:Fl.cq c=true):zx6 n a b c=0 ↔ (n=0->a=0)/\(n<=1->b=0)/\(n<=2->c=0):=by
 simp only[Fl.cq,Bool.and_eq_true,decide_eq_true_eq]at ha hb hc;obtain⟨A,rfl⟩:=Int.eq_ofNat_of_zero_le ha.1;obtain⟨B,rfl⟩:=Int.eq_ofNat_of_zero_le hb.1;obtain⟨C,rfl⟩:=Int.eq_ofNat_of_zero_le hc.1
 have e0:∀x:Nat,x<2147483648->bits .or .i64 0 (x:Int)=(x:Int):=λx hx=>by have:=ztz 0 x (by omega) hx;simpa using this
 have a0:A|||B<2 ^ 31:=Nat.or_lt_two_pow (by omega) (by omega);unfold zx6;rw[e0 A (by omega),e0 B (by omega),e0 C (by omega),ztz A B (by omega) (by omega),ztz (A|||B) C (by omega) (by omega),ztz B C (by omega) (by omega)];have h1:=zq5 A B;have h2:=zq5 (A|||B) C;have h3:=zq5 B C;generalize (A|||B)|||C=X at*;generalize A|||B=Y at*;generalize B|||C=Z at*
 split
 ·omega
 split
 ·omega
 split<;>omega
def yh4(rb ro nb no n:Nat)(hn:n<=3)(l:Bool)(nd:Fl.ar)(lv:Value)(w:World)(h:Vg w nb no nd lv)(h1:w.cell? (Aq rb (ro+1))=some (Iq n))(h2:w.cell? (Aq rb (ro+2))=some (.bool l)):
  Cq 126 #[.pointer (some (Aq rb ro)),.pointer (some (Aq nb no))] w λe w'=>e=.returned (.bool (decide (zx6 n nd.a nd.b nd.c=0) && (l||decide (nd.aU=[]))))/\Bq w w':=by
 have c2:=h.c2;have c3:=h.c3;have c4:=h.c4;have c5:=h.c5;obtain⟨ao,cap,rfl,_,hm,_⟩:=h.hl;have c0:decide (nd.aU=[])=((nd.aU.length:Int)==0):=by
  cases nd.aU with
  |nil=>rfl
  |cons x y=>simp;omega
 unfold maxLen at hm;have b0:=Zz c0
 have a0:n=0\/n=1\/n=2\/n=3:=by omega
 clear h hn c0;generalize nd.aU.length=len at*;rcases a0 with rfl|rfl|rfl|rfl
 ·have HR:Hid (decide (zx6 0 nd.a nd.b nd.c=0)=(bits .or .i64 (bits .or .i64 (bits .or .i64 0 nd.a) nd.b) nd.c==0)):=rfl
  cases hz:(bits .or .i64 (bits .or .i64 (bits .or .i64 0 nd.a) nd.b) nd.c==0) with
  |true=>
   have HZ:=Zz hz
   cases l with
   |true=>
    go_enter func126,ntmps126
    go_wp2_with fail
    go_ret;exact⟨Zc (by rw[HR.out,HZ.out];rfl),Below.refl _ _⟩
   |false=>
    go_enter func126,ntmps126
    go_wp2_with fail
    go_ret;exact⟨Zc (by rw[HR.out,HZ.out,b0.out];simp),Below.refl _ _⟩
  |false=>
   have HZ:=Zz hz
   go_enter func126,ntmps126
   go_wp2_with fail
   go_ret;exact⟨Zc (by rw[HR.out,HZ.out];simp),Below.refl _ _⟩
 ·have HR:Hid (decide (zx6 1 nd.a nd.b nd.c=0)=(bits .or .i64 (bits .or .i64 0 nd.b) nd.c==0)):=rfl
  cases hz:(bits .or .i64 (bits .or .i64 0 nd.b) nd.c==0) with
  |true=>
   have HZ:=Zz hz
   cases l with
   |true=>
    go_enter func126,ntmps126
    go_wp2_with fail
    go_ret;exact⟨Zc (by rw[HR.out,HZ.out];rfl),Below.refl _ _⟩
   |false=>
    go_enter func126,ntmps126
    go_wp2_with fail
    go_ret;exact⟨Zc (by rw[HR.out,HZ.out,b0.out];simp),Below.refl _ _⟩
  |false=>
   have HZ:=Zz hz
   go_enter func126,ntmps126
   go_wp2_with fail
   go_ret;exact⟨Zc (by rw[HR.out,HZ.out];simp),Below.refl _ _⟩
 ·have HR:Hid (decide (zx6 2 nd.a nd.b nd.c=0)=(bits .or .i64 0 nd.c==0)):=rfl
  cases hz:(bits .or .i64 0 nd.c==0) with
  |true=>
   have HZ:=Zz hz
   cases l with
   |true=>
    go_enter func126,ntmps126
    go_wp2_with fail
    go_ret;exact⟨Zc (by rw[HR.out,HZ.out];rfl),Below.refl _ _⟩
   |false=>
    go_enter func126,ntmps126
    go_wp2_with fail
    go_ret;exact⟨Zc (by rw[HR.out,HZ.out,b0.out];simp),Below.refl _ _⟩
  |false=>
   have HZ:=Zz hz
   go_enter func126,ntmps126
   go_wp2_with fail
   go_ret;exact⟨Zc (by rw[HR.out,HZ.out];simp),Below.refl _ _⟩
 have HR:Hid (decide (zx6 3 nd.a nd.b nd.c=0)=true):=rfl
 cases l with
 |true=>
  go_enter func126,ntmps126
  go_wp2_with fail
  go_ret;exact⟨Zc (by rw[HR.out];rfl),Below.refl _ _⟩
 |false=>
  go_enter func126,ntmps126
  go_wp2_with fail
  go_ret;exact⟨Zc (by rw[HR.out,b0.out];simp),Below.refl _ _⟩
def yo2{nd:Fl.ar}{k:Nat}(hk:nd.kind=(k:Int))(h8:k<8):
  Fl.bG nd=((Fl.cq nd.ag && (Fl.cq nd.a && (Fl.cq nd.b && Fl.cq nd.c))) && ((decide (zx6 (Xw k) nd.a nd.b nd.c=0) && ((k==7)||decide (nd.aU=[]))) && (decide (nd.aU.length<=16) && nd.aU.all Fl.cq))):=by
 have a0:k=0\/k=1\/k=2\/k=3\/k=4\/k=5\/k=6\/k=7:=by omega
 cases ha:Fl.cq nd.a with
 |false=>simp[Fl.bG,Fl.jd,ha]
 |true=>
  cases hb:Fl.cq nd.b with
  |false=>simp[Fl.bG,Fl.jd,hb]
  |true=>
   cases hc:Fl.cq nd.c with
   |false=>simp[Fl.bG,Fl.jd,hc]
   |true=>
    have hr:=yo1 (Xw k) nd.a nd.b nd.c ha hb hc;have hr':decide (zx6 (Xw k) nd.a nd.b nd.c=0)=decide ((Xw k=0->nd.a=0)/\(Xw k<=1->nd.b=0)/\(Xw k<=2->nd.c=0)):=decide_eq_decide.2 hr;rw[hr',Bool.eq_iff_iff];rcases a0 with rfl|rfl|rfl|rfl|rfl|rfl|rfl|rfl<;>simp[Fl.bG,Fl.jd,hk,ha,hb,hc,Xw,Fl.aO]<;>grind
def yly{nd:Fl.ar}(h:nd.kind<0\/8<=nd.kind):Fl.bG nd=false:=by
 have:Fl.aO nd.kind= -2:=by unfold Fl.aO;(repeat' split)<;>omega
 simp[Fl.bG,this]
end Go.Proofs.YtfhpibppblbgcaaGreatDoor
