import Derived.Test.YtfhpibppblbgcaaGreatDoorM20
import Derived.Lib.SlBytesConst
import Derived.Lib.ConvBytes
set_option linter.all false
set_option maxRecDepth 100000
set_option maxHeartbeats 40000000
namespace Go.Proofs.YtfhpibppblbgcaaGreatDoor
open Go.RowKit Go.Proofs.Tryz
variable{w w':World}{v:Value}{base n lev:Nat}{ls:List Int}{ns:List Fl.ar}{l s:List UInt8}{ao:Option Addr}
def ylx{B:Nat}{xs:List Int}(h:Zv B w v xs)(hc:∀b o,b<B->w'.cell? (Aq b o)=w.cell? (Aq b o)):Zv B w' v xs:=by
 obtain⟨ao,cap,hv,c0,hl,hx⟩:=h;refine⟨ao,cap,hv,c0,hl,λd0=>?_⟩;obtain⟨b,off,ha,b0,a0⟩:=hx d0;exact⟨b,off,ha,b0,λi hi=>(hc b _ b0).trans (a0 i hi)⟩
def zjw{base':Nat}{e:TypeId}{size:Nat}{xs:List Value}(h:w.ownsRow base e size v n xs)(hb:base'<=base):w.ownsRow base' e size v n xs:=
 ⟨h.1,h.2.imp id (λ⟨g,cap,cur,hv,hg,rest⟩=>⟨g,cap,cur,hv,Nat.le_trans hb hg,rest⟩)⟩
def za4{nd:Fl.ar}{k:Nat}(hk:nd.kind=(k:Int))(h8:k<8)(h7:k≠7)(a0:nd.ag=(lev:Int)):Fl.aD nd=[UInt8.ofNat k]++(Fl.aP lev++Fl.aW ([nd.a,nd.b,nd.c].take (Xw k))):=by
 unfold Fl.aD Fl.ct;rw[hk,a0,zk3 k h8 h7,if_neg (by omega),if_neg (by omega)];simp
def ze5{nd:Fl.ar}(hk:nd.kind=((7:Nat):Int))(a0:nd.ag=(lev:Int)):Fl.aD nd=[UInt8.ofNat 7]++(Fl.aP lev++(Fl.aP nd.aU.length++Fl.aW nd.aU)):=by
 unfold Fl.aD Fl.ct
 have:Fl.aO (((7:Nat):Int))= -1:=by decide
 rw[hk,a0,this];simp
def ylw(ls:List Int)(ns:List Fl.ar)(la na:Option Addr)(lc nc B:Nat)(w:World)(hB:B<=w.heap.size)(hl:Zv B w (.slice la ls.length lc) ls)(hn:Yv B w (.slice na ns.length nc) ns)(h1:ls.length<=4)(aK:ls.all Fl.cq=true)(h2:ns.length<=200)(m0:∀k,k<ns.length->Fl.bG (Fl.nth ns k)=true):
  Cq 41 #[.agg #[.slice la ls.length lc,.slice na ns.length nc]] w λe w'=>∃v',e=.returned v'/\w'.ownsRow w.heap.size 5 1 v' (Fl.bO ls ns++Fl.aH ns).length ((Fl.bO ls ns++Fl.aH ns).map Xm)/\Bq w w':=by
 obtain⟨i0,hi,P1,Q1,R1⟩:=info_parts Tryz.infoByte;have HL:=Zz hl;have HN:=Zz hn;have HA:=Zz aK;have HS:=Zz m0;have kc:=Lib.run_convert_bytes_const (P:=prog) (((w.alloc (.cells #[.slice la ls.length lc,.slice na ns.length nc] 69)).alloc (.cells Za 129)).alloc (.cells Za 129)) 26 5 #[.int .u8 70,.int .u8 80,.int .u8 49] 3 3 underlying26 underlying5;simp only[World.size_alloc,List.size_toArray,List.length_cons,List.length_nil,Nat.reduceAdd]at kc;clear hl hn aK m0
 go_enter func41,ntmps41
 go_wp2_with (first|(go_at_call 46;refine(zr6 _).mono ?_;rintro e w1 ⟨rfl,rfl⟩)|(refine zx9 rfl _ _ 129 rfl _ _ _ Za rfl (by simp) rfl Tryz.infoRules zr5 zp9 ?_))
 clear kc;obtain⟨W4,n0⟩:=nmE (((((w.alloc (.cells #[.slice la ls.length lc,.slice na ns.length nc] 69)).alloc (.cells Za 129)).alloc (.cells Za 129)).alloc (.cells #[.int .u8 70,.int .u8 80,.int .u8 49] 5 (3,4))));rw[<-n0]
 have S1:W4.heap.size=w.heap.size+4:=by rw[n0];simp
 have W0:Bq w W4:=by
  rw[n0];exact(((bA).alloc (by simp) _).alloc (by simp;omega) _).alloc (by simp;omega) _
 have x0:W4.heap[w.heap.size+2]?=some (.cells Za 129 (0,0)):=by
  rw[n0,Below.heap_alloc _ _ _ (by simp)];have:=heap_alloc_last ((w.alloc (.cells #[.slice la ls.length lc,.slice na ns.length nc] 69)).alloc (.cells Za 129)) (.cells Za 129);simpa only [World.size_alloc] using this
 have v1:W4.heap[w.heap.size]?=some (.cells #[.slice la ls.length lc,.slice na ns.length nc] 69 (0,0)):=by
  rw[n0,Below.heap_alloc _ _ _ (by simp;omega),Below.heap_alloc _ _ _ (by simp;omega),Below.heap_alloc _ _ _ (by simp)];exact heap_alloc_last _ _
 have y0:W4.heap[w.heap.size+3]?=some (.cells #[.int .u8 70,.int .u8 80,.int .u8 49] 5 (3,4)):=by
  have:=heap_alloc_last (((w.alloc (.cells #[.slice la ls.length lc,.slice na ns.length nc] 69)).alloc (.cells Za 129)).alloc (.cells Za 129)) (.cells #[.int .u8 70,.int .u8 80,.int .u8 49] 5 (3,4));rw[n0];simpa only [World.size_alloc] using this
 have x1:Hid (Yb W4 (w.heap.size+2) 0):=zj4 x0;have HH:Hid (Jz W4 (w.heap.size+3) (.slice (some (Aq (w.heap.size+3) 0)) 3 3) ([70,80,49]:List UInt8).length (([70,80,49]:List UInt8).map Xm)):=by
  refine .inr ⟨w.heap.size+3,Nat.le_refl _,by omega,rfl,rfl,λj u hj=>?_⟩
  have h2:((Aq (w.heap.size+3) 0):Addr).add j=(Aq (w.heap.size+3) j):=by unfold Addr.add;split<;>simp_all
  rw[h2,cell_of_row W4 _ j _ _ _ y0];simpa [Xm] using hj
 have T1:=Zz v1;have X0:=Zz W0
 have y1:Hid (Cq 75 #[.slice (some (Aq (w.heap.size+3) 0)) 3 3,.slice la ls.length lc] W4 λe w'=>∃v',e=.returned v'/\w'.ownsRow (w.heap.size+3) 5 1 v' (([70,80,49]:List UInt8)++(Fl.aP ls.length++Fl.aW ls)).length ((([70,80,49]:List UInt8)++(Fl.aP ls.length++Fl.aW ls)).map Xm)/\Below (w.heap.size+3) W4 w'/\Xq W4 (.slice (some (Aq (w.heap.size+3) 0)) 3 3) w' v'):=
  zp1 ls HA (by omega) B (w.heap.size+3) (by omega) (.slice la ls.length lc) [70,80,49] _ W4 (HL.below (W0.mono hB)) HH (by simp) (by omega)
 clear x0 v1 y0 W0 n0;refine(y1.out).mono ?_;rintro e w5 ⟨v5,rfl,M0,N0,_⟩;have U1:=Fl.dx ls.length;have V1:=Fl.dY ls
 have W1:(([70,80,49]:List UInt8)++(Fl.aP ls.length++Fl.aW ls)).length<=60:=by simp only[List.length_append,List.length_cons,List.length_nil];omega
 obtain⟨xs5,Y0⟩:=nmE ((([70,80,49]:List UInt8)++(Fl.aP ls.length++Fl.aW ls)));rw[<-Y0]at M0 W1;have X1:=Zz Y0;have Y1:=Zz M0;have Z1:=Zz N0;have q1:Cl w5 w.heap.size 1 (.slice na ns.length nc):=(N0.cell (p:=(Aq w.heap.size 1)) (by simp)).trans ((cell_of_row _ _ _ _ _ _ T1).trans rfl)
 have z0:Hid (Cq 76 #[v5,Iq (ns.length:Nat)] w5 λe w'=>∃v',e=.returned v'/\w'.ownsRow (w.heap.size+3) 5 1 v' (xs5++Fl.aP ns.length).length ((xs5++Fl.aP ns.length).map Xm)/\Below (w.heap.size+3) w5 w'/\Xq w5 v5 w' v'):=
  Je ns.length (by omega) (w.heap.size+3) xs5 v5 w5 (.inl M0) (by omega) (by have:=N0.size;omega)
 clear y1 HH M0 N0 Y0 U1 V1
 go_wp2_with fail
 refine(z0.out).mono ?_;rintro e w6 ⟨v6,rfl,z1,Z0,_⟩;have A1:=Zz z1;have B1:Hid (Below (w.heap.size+3) W4 w6):=Z1.trans Z0;have q6:Cl w6 w.heap.size 1 (.slice na ns.length nc):=(Z0.cell (p:=(Aq w.heap.size 1)) (by simp)).trans q1
 have a2:(xs5++Fl.aP ns.length).length<=70:=by have:=Fl.dx ns.length;simp only[List.length_append];omega
 have C1:Hid (xs5++Fl.aP ns.length=Fl.bO ls ns):=by
  show _=_;rw[X1.out];unfold Fl.bO;simp[List.append_assoc]
 clear z0 z1 Z0 q1 Y1
 go_wp2_with fail
 obtain⟨TB,iJ⟩:=nmE (w.heap.size+1+1);rw[<-iJ]
 have b2:Hid (Yb W4 TB 0):=by subst iJ;exact x1
 have z2:=Zz iJ
 have u0:Hid (w6.ownsRow (TB+1) 5 1 v6 (xs5++Fl.aP ns.length).length ((xs5++Fl.aP ns.length).map Xm)):=by subst iJ;exact A1
 have D1:Hid (Below (TB+1) W4 w6):=by subst iJ;exact B1
 have hz4':W4.heap.size=TB+2:=by omega
 have A2:w.heap.size<TB:=by omega
 clear iJ A1 B1 x1 q6 S1
 go_loopw [4,24] (λv i wr=>∃(j:Nat) (xs:List UInt8),j<=ns.length/\i=Iq j/\xs=Fl.bO ls ns++Fl.aH (ns.take j)/\wr.ownsRow (TB+1) 5 1 v xs.length (xs.map Xm)/\Below (TB+1) W4 wr) (λ_ i _=>ns.length - (intOf i).toNat)
 case atStart=>exact⟨0,xs5++Fl.aP ns.length,by omega,rfl,by rw[C1.out];simp[Fl.aH],u0,D1⟩
 case round=>
  clear u0 D1 C1 a2;obtain⟨j,xs,hj,rfl,a1,d0,o0⟩:=hrel;have b1:=Zz a1;have A0:=Zz d0;have p0:=Zz o0;have B2:xs.length<=41000:=by
   have h1:=Fl.gl (ns.take j) (λx hx=>by
    obtain⟨i,hi,rfl⟩:=Fl.mT (List.mem_of_mem_take hx);exact HS i hi)
   have h2:=Fl.dx ls.length;have h3:=Fl.dY ls;have h4:=Fl.dx ns.length;have h5:(ns.take j).length<=200:=(by simp;omega);rw[a1];simp only[Fl.bO,List.length_append,List.length_cons,List.length_nil];omega
  have C2:TB+2<=wr.heap.size:=(by have:=o0.size;omega);clear a1 d0 o0
  by_cases v0:j<ns.length
  ·obtain⟨b,off,rfl⟩:∃b off,na=some (Aq b off):=by
    obtain⟨ao',cap',hv',_,_,hx'⟩:=HN.out;obtain⟨b,off,ha,_⟩:=hx' (by intro h;rw[h]at v0;simp at v0);simp only[Value.slice.injEq]at hv';exact⟨b,off,hv'.1.trans ha⟩
   have E1:Bq w wr:=X0.trans (p0.mono (by omega));obtain⟨D2,lv,c0,c1,c2,c3,c4,c5,c6⟩:=(HN.below (E1.mono hB)).at v0;have m0:=HS j v0;obtain⟨nd,f1⟩:=nmE (Fl.nth ns j);rw[<-f1]at c0 c1 c2 c3 c4 c5 m0;have F1:=Zz f1;obtain⟨B0,d2,f2⟩:=Fl.ey m0;obtain⟨k,hk⟩:∃k:Nat,nd.kind=(k:Int):=⟨nd.kind.toNat,by omega⟩;have h8:k<8:=(by omega);rw[hk]at c1;obtain⟨lao,lcap,rfl,_⟩:=id c0;have i2:Hid (∀W,Below (TB+1) W4 W->Zv B W (.slice lao nd.aU.length lcap) nd.aU):=λW hW=>ylx c0 (λb o hb=>(hW.cell (p:=(Aq b o)) (by simp only;omega)).trans (p0.cell (p:=(Aq b o)) (by simp only;omega)).symm);have O0:=Zz B0;have E2:=Zz m0;have HK:=Zz hk
   have j2:Hid (Yb wr TB 0):=λk hk=>by
    obtain⟨g1,g2,g3⟩:=b2 k hk;exact⟨(p0.cell (p:=(Aq TB _)) (by simp)).trans g1,(p0.cell (p:=(Aq TB _)) (by simp)).trans g2,(p0.cell (p:=(Aq TB _)) (by simp)).trans g3⟩
   have F2:(j:Int)<(ns.length:Int):=(by omega);have h8':(k:Int)<8:=(by omega);clear f1 B0 d2 f2 hk c0 m0 E1;have k2:Hid (∀o o',Jz ((wr.alloc o).alloc o') (TB+1) u4 xs.length (xs.map Xm)):=λo o'=>(Jz.alloc (Or.inl A0) o).alloc o'
   go_wp2_with (at_builtin;(refine zzy _ rfl _ _ 26 rfl (TB+1) i0 (.int .u8 0) underlying26 hi P1 Q1 R1 rfl _ _ _ rfl (k2 _ _) (Aq _ 0) 1 1 [.int .u8 (k:Int)] rfl rfl (by decide) za1 ?c2 ?c3 ?c4 ?c5 ?_))
   case c2=>intro u hu;simp at hu;subst hu;rfl
   case c3=>unfold maxLen;omega
   case c4=>omega
   case c5=>simp;omega
   intro v7 w7 i1 j1 k1;obtain⟨N,hN⟩:=nmE (wr.heap.size);obtain⟨WA,C0⟩:=nmE (wr.alloc (.cells #[Iq (k:Int),Iq nd.ag,Iq nd.a,Iq nd.b,Iq nd.c,.slice lao nd.aU.length lcap] 176));have l2:WA.heap.size=N+1:=(by rw[C0,hN];simp);have h0:WA.heap[N]?=some (.cells #[Iq (k:Int),Iq nd.ag,Iq nd.a,Iq nd.b,Iq nd.c,.slice lao nd.aU.length lcap] 176 (0,0)):=(by rw[C0,hN];exact heap_alloc_last _ _);have P0:Below N wr WA:=(by rw[C0,hN];exact bA);rw[<-C0]at j1;have Q0:Hid (Xq WA u4 w7 v7):=((Xq.refl WA u4).alloc _).append j1 (by simp only[World.size_alloc,l2,hN]at k1⊢;exact k1);have u0:Hid (w7.ownsRow (TB+1) 5 1 v7 (xs++[UInt8.ofNat k]).length ((xs++[UInt8.ofNat k]).map Xm)):=by
    have m2:(.int .u8 (k:Int):Value)=Xm (UInt8.ofNat k):=by
     have h2:(UInt8.ofNat k).toNat=k:=(by simp;omega);unfold Xm;rw[h2]
    rw[m2]at i1;show World.ownsRow _ _ _ _ _ _ _;simpa using i1
   have D0:some N≠u4.ownBlock:=λhh=>by have:=(A0.lt N hh.symm).2;omega
   have E0:some TB≠u4.ownBlock:=λhh=>by have:=(A0.lt TB hh.symm).1;omega
   have F0:Hid (∀W V,Xq WA u4 W V->(∀o,W.cell? (Aq N o)=#[Value.int .i64 (k:Int),Iq nd.ag,Iq nd.a,Iq nd.b,Iq nd.c,.slice lao nd.aU.length lcap][o]?)/\Yb W TB 0/\Below (TB+1) W4 W/\N<W.heap.size/\Below N wr WA):=λW V cG=>by
    refine⟨λo=>(cG.cell (by omega) D0).trans (cell_of_row _ _ _ _ _ _ h0),λk hk=>?_,?_,by have:=cG.1.size;omega,P0⟩
    ·obtain⟨g1,g2,g3⟩:=j2 k hk
     have q:∀o,W.cell? (Aq TB o)=wr.cell? (Aq TB o):=λo=>(cG.cell (by omega) E0).trans (P0.cell (p:=(Aq TB o)) (by simp only;omega));exact⟨(q _).trans g1,(q _).trans g2,(q _).trans g3⟩
    exact(p0.trans (P0.mono (by omega))).grown cG.1 (by omega) (λg hg=>(A0.lt g hg).1)
   rw[<-hN];have d1:Cl w7 N 1 (Iq nd.ag):=(F0 _ _ Q0).1 1;have G2:TB<N:=(by omega);clear i1 j1 k1 h0 P0 D0 E0 c1 c2 c3 c4 c5 c6 C0 hN;obtain⟨lev,q0⟩:∃lev:Nat,nd.ag=(lev:Int):=⟨nd.ag.toNat,by have:=Fl.ix O0.2.1;omega⟩;have r0:lev<2147483648:=(by have:=Fl.ix O0.2.1;omega);have G1:=Zz q0;rw[q0]at d1;obtain⟨ys7,f0⟩:=nmE (xs++[UInt8.ofNat k]);rw[<-f0]at u0;have n2:ys7.length<=41001:=(by rw[f0];simp;omega);have H1:=Zz f0;have o2:N<w7.heap.size:=(F0 _ _ Q0).2.2.2.1;clear f0 q0
   have z0:Hid (Cq 76 #[v7,Iq lev] w7 λe w'=>∃v',e=.returned v'/\w'.ownsRow (TB+1) 5 1 v' (ys7++Fl.aP lev).length ((ys7++Fl.aP lev).map Xm)/\Below (TB+1) w7 w'/\Xq w7 v7 w' v'):=
    Je lev r0 (TB+1) ys7 v7 w7 (.inl u0) (by omega) (by omega)
   go_wp2_with fail
   refine(z0.out).mono ?_;rintro e w8 ⟨v8,rfl,I1,_,J1⟩;have R0:Hid (Xq WA u4 w8 v8):=Q0.trans J1;have l1:=Zz I1;clear z0 I1 J1 d1 u0 Q0 o2;have K1:=(F0 _ _ R0).2.1 k h8;have q2:N<w8.heap.size:=(F0 _ _ R0).2.2.2.1;have e1:w8.cell? (Aq TB (k*4+1))=some (Iq (Xw k:Nat)):=(by have:=K1.1;simpa using this);have r2:Xw k<=3:=(by unfold Xw;(repeat' split)<;>omega);have L1:Hid (Cq 77 #[.pointer (some (Aq TB (k*4))),Pq N] w8 λe w'=>e=.returned (.slice (some (Aq w8.heap.size 0)) (Xw k) 3)/\w'=(w8.alloc (.cells #[.pointer (some (Aq N 2)),.pointer (some (Aq N 3)),.pointer (some (Aq N 4))] 187)).drew):=zh6 TB (k*4) N (Xw k) w8 r2 (by omega) e1;clear K1 e1
   go_wp2_with fail
   refine(L1.out).mono ?_;rintro e w9 ⟨rfl,S0⟩;obtain⟨PB,T0⟩:=nmE (w8.heap.size);have H2:w9.heap.size=PB+1:=(by rw[S0,T0];simp);have j0:w9.heap[PB]?=some (.cells #[.pointer (some (Aq N 2)),.pointer (some (Aq N 3)),.pointer (some (Aq N 4))] 187 (0,0)):=(by rw[S0,T0];exact heap_alloc_last _ _);have a0:Bq w8 w9:=(by rw[S0];exact(bA).drew);have s2:Hid (Xq WA u4 w9 v8):=R0.below a0;have M1:Hid (w9.ownsRow (TB+1) 5 1 v8 (ys7++Fl.aP lev).length ((ys7++Fl.aP lev).map Xm)):=l1.kept (row:=none) ⟨a0.os,a0.tape,a0.output,a0.size,λk hk _=>a0.block k hk⟩ (by cases v8.ownBlock<;>simp)
   have G0:some PB≠v8.ownBlock:=λhh=>by have:=(l1.lt PB hh.symm).2;omega
   have t2:Hid (∀W V,Xq w9 v8 W V->∀o,W.cell? (Aq PB o)=#[Value.pointer (some (Aq N 2)),.pointer (some (Aq N 3)),.pointer (some (Aq N 4))][o]?):=λW V cG o=>(cG.cell (by omega) G0).trans (cell_of_row _ _ _ _ _ _ j0);rw[<-T0];clear S0 j0 a0 G0 l1 R0 L1 T0 q2
   go_wp2_with fail
   go_loopw [4,44] (λv i wz=>∃(m:Nat) (zs:List UInt8),m<=Xw k/\i=Iq m/\zs=ys7++(Fl.aP lev++Fl.aW ([nd.a,nd.b,nd.c].take m))/\wz.ownsRow (TB+1) 5 1 v zs.length (zs.map Xm)/\Xq w9 v8 wz v) (λ_ i _=>Xw k - (intOf i).toNat)
   case atStart=>exact⟨0,ys7++Fl.aP lev,by omega,rfl,by simp[Fl.aW],M1,Xq.refl _ _⟩
   case round=>
    clear M1;obtain⟨m,zs,hm,rfl,m1,d0,b0⟩:=hrel;have n1:=Zz m1;have o1:=Zz d0;have u2:=Zz b0;have I2:zs.length<=41060:=by
     have h1:=Fl.dx lev;have h2:=Fl.dY ([nd.a,nd.b,nd.c].take m);have h3:([nd.a,nd.b,nd.c].take m).length<=3:=(by simp;omega);rw[m1];simp only[List.length_append];omega
    have U0:=s2.trans b0;have k0:=F0 _ _ U0;have J2:N<wr.heap.size:=k0.2.2.2.1;have l0:TB+1<=wr.heap.size:=(by omega);clear m1 d0
    by_cases v2:m<Xw k
    ·have K2:m<3:=by omega
     have p1:wr.cell? (Aq PB m)=some (.pointer (some (Aq N (2+m)))):=by
      rw[t2 _ _ b0 m]
      have:m=0\/m=1\/m=2:=by omega
      rcases this with rfl|rfl|rfl<;>rfl
     have p2:wr.cell? (Aq N (2+m))=some (Iq ([nd.a,nd.b,nd.c].getD m 0)):=by
      rw[k0.1 (2+m)]
      have:m=0\/m=1\/m=2:=by omega
      rcases this with rfl|rfl|rfl<;>rfl
     have H0:Fl.cq ([nd.a,nd.b,nd.c].getD m 0)=true:=by
      obtain⟨_,_,ha,hb,hc,_⟩:=O0.out
      have:m=0\/m=1\/m=2:=by omega
      rcases this with rfl|rfl|rfl<;>assumption
     have I0:=Fl.ix H0;obtain⟨x,hx⟩:∃x:Nat,(x:Int)=[nd.a,nd.b,nd.c].getD m 0:=⟨([nd.a,nd.b,nd.c].getD m 0).toNat,by omega⟩;rw[<-hx]at p2;have r1:x<2147483648:=(by omega);have HX:=Zz hx;have x2:(m:Int)<(Xw k:Int):=(by omega)
     have N1:Hid (Cq 76 #[u4,Iq x] wr λe w'=>∃v',e=.returned v'/\w'.ownsRow (TB+1) 5 1 v' (zs++Fl.aP x).length ((zs++Fl.aP x).map Xm)/\Below (TB+1) wr w'/\Xq wr u4 w' v'):=
      Je x r1 (TB+1) zs u4 wr (.inl o1) (by omega) l0
     clear H0 I0 hx k0 U0 b0
     go_wp2_with fail
     refine(N1.out).mono ?_;rintro e w10 ⟨v10,rfl,e0,_,g0⟩;have s0:=Zz e0;have s1:Hid (Xq w9 v8 w10 v10):=u2.trans g0;clear e0 g0 p1 p2 N1;go_wp2;refine⟨⟨m+1,zs++Fl.aP x,by omega,by go_num,?_,s0,s1⟩,by simp[intOf];omega⟩;rw[Fl.iw _ m (by simp;omega),<-HX.out,Fl.iN,n1.out];simp[List.append_assoc]
    have O1:m=Xw k:=(by omega);have hR:=k0.2.1 k h8;have e2:wr.cell? (Aq TB (k*4+2))=some (.bool (k==7)):=(by have:=hR.2.1;simpa using this);have e5:Cl wr N 5 (.slice lao nd.aU.length lcap):=k0.1 5;have V0:=Zz k0.2.2.1;have x2:¬(m:Int)<(Xw k:Int):=(by omega)
    by_cases h7:k=7
    ·subst h7
     have L2:Bq w wr:=X0.trans (V0.mono (by omega));have J0:Hid (Cq 75 #[u4,.slice lao nd.aU.length lcap] wr λe w'=>∃v',e=.returned v'/\w'.ownsRow (TB+1) 5 1 v' (zs++(Fl.aP nd.aU.length++Fl.aW nd.aU)).length ((zs++(Fl.aP nd.aU.length++Fl.aW nd.aU)).map Xm)/\Below (TB+1) wr w'/\Xq wr u4 w' v'):=by
      obtain⟨_,_,_,_,_,y2,K0⟩:=O0.out;refine zp1 nd.aU K0 (by omega) B (TB+1) (by omega) _ zs u4 wr (i2 wr V0) (.inl o1) (by omega) l0
     have t1:((7:Nat)==7)=true:=rfl;rw[t1]at e2;clear k0 U0 b0 hR
     go_wp2_with fail
     refine(J0.out).mono ?_;rintro e w10 ⟨v10,rfl,e0,L0,g0⟩;have s0:=Zz e0;have u1:Hid (Below (TB+1) W4 w10):=V0.trans L0;clear e0 L0 g0 e2 e5 J0;go_wp2;refine⟨⟨j+1,zs++(Fl.aP nd.aU.length++Fl.aW nd.aU),by omega,by go_num,?_,s0,u1⟩,by simp[intOf];omega⟩;rw[Fl.fg ns j v0,Fl.fC,<-F1.out,ze5 HK G1.out,n1.out,H1.out,b1.out,O1];simp[Fl.aW,Xw,List.append_assoc]
    have t1:(k==7)=false:=(by simpa using h7);rw[t1]at e2;have t0:Hid (zs=Fl.bO ls ns++Fl.aH (ns.take (j+1))):=by
     show zs=_;rw[Fl.fg ns j v0,Fl.fC,<-F1.out,za4 HK h8 h7 G1.out,n1.out,H1.out,b1.out,O1];simp[List.append_assoc]
    clear k0 U0 b0 hR;go_wp2;exact⟨⟨j+1,zs,by omega,by go_num,t0,o1,V0⟩,by simp[intOf];omega⟩
  have M2:j=ns.length:=(by omega);have t0:Hid (xs=Fl.bO ls ns++Fl.aH ns):=by
   show xs=_;rw[b1.out,List.take_of_length_le (by omega)]
  go_wp2;go_ret;refine⟨u4,rfl,?_,X0.trans (p0.mono (by omega))⟩;rw[<-t0.out];exact zjw A0 (by omega)
def ys5(r:List UInt8×Bool×Int)(w:World)(e:Ending)(w':World):Prop:=
 Bq w w'/\
 (r.2.1=true->∃va n c,e=.returned (.tuple #[.slice va n c,.nilIface])/\w'.ownsRow w.heap.size 5 1 (.slice va n c) r.1.length (r.1.map Xm))/\
 (r.2.1=false->(r.2.2<0->e=.returned (.tuple #[Zq,.iface 23 (Iq 8)]))/\(0<=r.2.2->∃q,e=.returned (.tuple #[Zq,.iface 73 (Pq q)])/\w'.cell? (Aq q 0)=some (Iq 8)/\w'.cell? (Aq q 1)=some (Iq r.2.2)))
def yw2(h:(decide (ls.length<=4) && (ls.all Fl.cq && (decide (1<=ns.length) && decide (ns.length<=200))))=false):Fl.bx ls ns=([],false,-1):=by
 unfold Fl.bx
 by_cases h1:4<ls.length\/ns.length=0\/200<ns.length
 ·rw[if_pos h1]
 rw[if_neg h1];have ha:ls.all Fl.cq=false:=by
  have e1:decide (ls.length<=4)=true:=(by simp;omega);have e2:decide (1<=ns.length)=true:=(by simp;omega);have e3:decide (ns.length<=200)=true:=(by simp;omega);rw[e1,e2,e3]at h;simpa using h
 rw[if_pos ha]
def yo4(h:(decide (ls.length<=4) && (ls.all Fl.cq && (decide (1<=ns.length) && decide (ns.length<=200))))=true):ls.length<=4/\ls.all Fl.cq=true/\1<=ns.length/\ns.length<=200/\Fl.bx ls ns=if 0<=Fl.bh ns then([],false,Fl.bh ns) else(Fl.bO ls ns++Fl.aH ns,true,-1):=by
 simp only[Bool.and_eq_true,decide_eq_true_eq]at h;refine⟨h.1,h.2.1,h.2.2.1,h.2.2.2,?_⟩;unfold Fl.bx;rw[if_neg (by omega),if_neg (by rw[h.2.1];simp)]
def yu8(ls:List Int)(ns:List Fl.ar)(la na:Option Addr)(lc nc:Nat)(w:World)(hl:Zv w.heap.size w (.slice la ls.length lc) ls)(hn:Yv w.heap.size w (.slice na ns.length nc) ns):
  Cq 22 #[.agg #[.slice la ls.length lc,.slice na ns.length nc]] w (ys5 (Fl.bx ls ns) w):=by
 have HL:=Zz hl;have HN:=Zz hn;clear hl hn
 go_enter func22,ntmps22
 go_wp2_with fail
 obtain⟨W1,e0⟩:=nmE (w.alloc (.cells #[.slice la ls.length lc,.slice na ns.length nc] 69));rw[<-e0]
 have l0:Bq w W1:=by rw[e0];exact bA
 have J0:W1.heap.size=w.heap.size+1:=by rw[e0];simp
 have hp:∀i,W1.cell? (Aq w.heap.size i)=#[Value.slice la ls.length lc,.slice na ns.length nc][i]?:=λi=>by rw[e0];exact World.cell?_alloc_new _ _ _ _
 have HP:=Zz hp;have F0:=Zz l0
 have x0:Hid (Cq 38 #[.agg #[.slice la ls.length lc,.slice na ns.length nc]] W1 λe w'=>e=.returned (.bool (decide (ls.length<=4) && (ls.all Fl.cq && (decide (1<=ns.length) && decide (ns.length<=200)))))/\Bq W1 w'):=
  yw1 ls ns la na lc nc w.heap.size W1 (HL.below l0) (HN.below l0) (by omega)
 clear e0 l0 hp;refine(x0.out).mono ?_;rintro e w2 ⟨rfl,f0⟩;have y0:=Zz f0;have a0:Hid (Bq w w2):=F0.trans (f0.mono (by omega));have p0:Cl w2 w.heap.size 0 (.slice la ls.length lc):=(f0.cell (p:=(Aq w.heap.size 0)) (by simp only;omega)).trans (HP 0);have p1:Cl w2 w.heap.size 1 (.slice na ns.length nc):=(f0.cell (p:=(Aq w.heap.size 1)) (by simp only;omega)).trans (HP 1);clear f0 x0
 cases c0:(decide (ls.length<=4) && (ls.all Fl.cq && (decide (1<=ns.length) && decide (ns.length<=200)))) with
 |false=>
  have HE:Hid (Fl.bx ls ns=([],false,-1)):=yw2 c0;clear c0;go_wp2
  go_ret2
  refine⟨a0,λh=>?_,λ_=>⟨λ_=>rfl,λh=>?_⟩⟩
  ·rw[HE.out]at h;cases h
  rw[HE.out]at h;simp at h
 |true=>
  obtain⟨h4,aK,h1,m0,g0⟩:=yo4 c0;have HE:=Zz g0;have HA:=Zz aK;have z0:Hid (Cq 39 #[.slice na ns.length nc] w2 λe w'=>e=.returned (Iq (Fl.bk ns))/\Bq w2 w'):=ze4 ns _ w2 ((HN.below a0).mono a0.size) (by omega);have A0:=Fl.jO ns;clear c0 g0 aK
  go_wp2_with fail
  refine(z0.out).mono ?_;rintro e w3 ⟨rfl,h0⟩;have i0:Hid (Bq w w3):=a0.trans (h0.mono a0.size);have n0:w.heap.size<w2.heap.size:=(by have:=y0.size;omega);have r0:Cl w3 w.heap.size 0 (.slice la ls.length lc):=(h0.cell (p:=(Aq w.heap.size 0)) n0).trans p0;have r1:Cl w3 w.heap.size 1 (.slice na ns.length nc):=(h0.cell (p:=(Aq w.heap.size 1)) n0).trans p1;have o0:w.heap.size<w3.heap.size:=Qj n0 h0.size;clear h0 z0 p0 p1 y0 a0
  by_cases d0:0<=Fl.bk ns
  ·have b0:Hid (Fl.bx ls ns=([],false,Fl.bk ns)):=by
    show Fl.bx ls ns=_;rw[HE.out,Fl.kt ns d0,if_pos d0]
   obtain⟨x,hx⟩:=nmE (Fl.bk ns);rw[<-hx]at d0 A0 b0⊢;clear hx;have hb':¬x<0:=(by omega);go_wp2
   go_ret2
   refine⟨i0.alloc (by omega) _,λh=>?_,λ_=>⟨λh=>?_,λ_=>⟨w3.heap.size,rfl,by simp,?_⟩⟩⟩
   ·rw[b0.out]at h;cases h
   ·rw[b0.out]at h;simp only at h;omega
   rw[b0.out];simp
  have q0:Fl.bk ns<0:=(by omega);have aQ:=Fl.gD ns q0;have t0:Hid (Fl.bh ns=Fl.bB ns):=Fl.lu ns q0
  have B0:Hid (Cq 40 #[.slice na ns.length nc] w3 λe w'=>e=.returned (Iq (Fl.bB ns))/\Bq w3 w'):=
   zr7 ns _ w3 ((HN.below i0).mono i0.size) (by omega) (λi hi=>(Fl.ey (aQ i hi).1).2) (λi hi p hp=>by have:=Fl.jk (aQ i hi) hp;omega)
  have G0:Hid (∀k,k<ns.length->Fl.bG (Fl.nth ns k)=true):=λk hk=>(aQ k hk).1;obtain⟨x,hx⟩:=nmE (Fl.bk ns);rw[<-hx]at q0 A0⊢;clear aQ d0 hx
  go_wp2_with fail
  refine(B0.out).mono ?_;rintro e w4 ⟨rfl,j0⟩;have k0:Hid (Bq w w4):=i0.trans (j0.mono i0.size);have s0:Cl w4 w.heap.size 0 (.slice la ls.length lc):=(j0.cell (p:=(Aq w.heap.size 0)) o0).trans r0;have s1:Cl w4 w.heap.size 1 (.slice na ns.length nc):=(j0.cell (p:=(Aq w.heap.size 1)) o0).trans r1;have K0:w.heap.size<w4.heap.size:=Qj o0 j0.size;clear j0 B0 r0 r1;obtain⟨y,hy⟩:=nmE (Fl.bB ns);rw[<-hy]at t0⊢;clear hy
  by_cases C0:0<=y
  ·have b0:Hid (Fl.bx ls ns=([],false,y)):=by
    show Fl.bx ls ns=_;rw[HE.out,t0.out,if_pos C0]
   go_wp2
   go_ret2
   refine⟨k0.alloc (by omega) _,λh=>?_,λ_=>⟨λh=>?_,λ_=>⟨w4.heap.size,rfl,by simp,?_⟩⟩⟩
   ·rw[b0.out]at h;cases h
   ·rw[b0.out]at h;simp only at h;omega
   rw[b0.out];simp
  have b0:Hid (Fl.bx ls ns=(Fl.bO ls ns++Fl.aH ns,true,-1)):=by
   show Fl.bx ls ns=_;rw[HE.out,t0.out,if_neg C0]
  have u0:Hid (Cq 41 #[.agg #[.slice la ls.length lc,.slice na ns.length nc]] w4 λe w'=>∃v',e=.returned v'/\w'.ownsRow w4.heap.size 5 1 v' (Fl.bO ls ns++Fl.aH ns).length ((Fl.bO ls ns++Fl.aH ns).map Xm)/\Bq w4 w'):=
   ylw ls ns la na lc nc w.heap.size w4 (by omega) (HL.below k0) (HN.below k0) h4 HA m0 G0.out
  obtain⟨bl,D0⟩:=nmE (Fl.bO ls ns++Fl.aH ns);rw[<-D0]at b0 u0;clear D0
  go_wp2_with fail
  refine(u0.out).mono ?_;rintro e w5 ⟨v',rfl,v0,E0⟩;obtain⟨va,vc,rfl⟩:=Uo v0;have H0:=Zz v0;have I0:Hid (Bq w w5):=k0.trans (E0.mono k0.size);clear v0 E0 u0 s0 s1;go_wp2
  go_ret2
  refine⟨I0,λ_=>⟨_,_,_,rfl,?_⟩,λh=>?_⟩
  ·rw[b0.out];exact zjw (base:=w4.heap.size) H0 (by omega)
  rw[b0.out]at h;cases h
def yo5(ls:List Int)(ns:List Fl.ar)(h:(Fl.bx ls ns).2.2<0):(Fl.bx ls ns).2.2= -1:=by
 unfold Fl.bx at*
 split at h
 ·rename_i hc;rw[if_pos hc]
 rename_i hc;rw[if_neg hc]
 split at h
 ·rename_i hd;rw[if_pos hd]
 rename_i hd;rw[if_neg hd]
 split at h
 ·rename_i he;simp only at h;omega
 rename_i he;rw[if_neg he]
def ylv(aV:Nat×Int×List UInt8)(w:World)(e:Ending)(w':World):Prop:=
  Bq w w'/\
  ((aV.1=0/\aV.2.1= -1/\∃va n c,e=.returned (.tuple #[.slice va n c,.nilIface])/\w'.ownsRow w.heap.size 5 1 (.slice va n c) aV.2.2.length (aV.2.2.map Xm))\/
   (aV=(8,-1,[])/\e=.returned (.tuple #[Zq,.iface 23 (Iq 8)]))\/
   (aV.1≠0/\aV.2.2=[]/\∃a,e=.returned (.tuple #[Zq,.iface 73 (Pq a)])/\w'.cell? (Aq a 0)=some (Iq aV.1)/\w'.cell? (Aq a 1)=some (Iq aV.2.1)))
def yu9(hl:l.length<=100000)(hg:1<w.heap.size)(hm:Xs w):
  Cq 11 #[.string ⟨l.toArray⟩] w (ylv (Fl.bf (Fl.ak l)) w):=by
 have g0:Hid (Cq 20 #[.string ⟨l.toArray⟩] w (zs8 (Fl.ak l) w)):=zc4 hl hg hm;have e0:Hid ((Fl.ak l).1=0->(Fl.ak l).2.2.Ok):=λh=>(Fl.ee l h).1;have f0:Hid ((Fl.ak l).1=0->(Fl.ak l).2.2.Lv):=Fl.eJ l;obtain⟨q,hq⟩:=nmE (Fl.ak l);rw[<-hq]at g0 e0 f0⊢;clear hq hl hg hm
 go_enter func11,ntmps11
 go_wp2_with fail
 refine g0.mono ?_;rintro e w1 ⟨m0,b0⟩;have i0:=Zz m0;clear m0 g0;rcases b0 with⟨h0,Pb,rfl,hp⟩|⟨h0,a,rfl,a0,a1⟩
 ·have HP:Hid (Jp (λb=>b<w1.heap.size) w1 Pb q.2.2):=hp.kept (λb hb=>hb.2) (λ_ _=>rfl)
  have H0:=Zz h0;have n0:Hid (Cq 21 #[Pq Pb] w1 (yl5 (Fl.bH q.2.2) w1)):=yp5 HP (e0 h0) (f0 h0);clear hp h0 e0 f0 HP
  go_wp2_with fail
  refine n0.mono ?_;rintro e w2 ⟨o0,b0⟩;have d0:Hid (Bq w w2):=i0.trans (o0.mono i0.size);clear o0 n0;rcases b0 with⟨h7,a,rfl,a0,a1⟩|⟨h7,la,n,lc,na,n',nc,rfl,hi,hn⟩
  ·have HE:Hid (Fl.bf q=(7,((Fl.bH q.2.2).1:Int),[])):=by show _=_;unfold Fl.bf;rw[if_neg (by rw[H0.out];simp),if_pos h7]
   have ha:a<w2.heap.size:=Qe w2 _ a0;have A0:=Zz a0;have A1:=Zz a1;clear h7 a0 a1;go_wp2
   go_ret2
   refine⟨d0.alloc d0.size _,.inr (.inr ⟨by rw[HE.out];simp,by rw[HE.out],a,rfl,?_,?_⟩)⟩
   ·rw[HE.out];exact(Qf _ _ _ ha).trans A0.out
   rw[HE.out];exact(Qf _ _ _ ha).trans A1.out
  obtain⟨ls,j0⟩:=nmE ((Fl.bH q.2.2).2.1);obtain⟨ns,k0⟩:=nmE ((Fl.bH q.2.2).2.2);have HE:Hid (Fl.bf q=if(Fl.bx ls ns).2.1=false then(8,(Fl.bx ls ns).2.2,[]) else(0,-1,(Fl.bx ls ns).1)):=(by show _=_;unfold Fl.bf;rw[if_neg (by rw[H0.out];simp),if_neg (by omega),<-j0,<-k0]);rw[<-j0]at hi;rw[<-k0]at hn
  obtain rfl:n=ls.length:=by obtain⟨a,c,e⟩:=Vo hi;injection e with e1 e2 e3
  obtain rfl:n'=ns.length:=by obtain⟨a,c,e,-⟩:=hn;injection e with e1 e2 e3
  have p0:Hid (∀W,Bq w2 W->Cq 22 #[.agg #[.slice la ls.length lc,.slice na ns.length nc]] W (ys5 (Fl.bx ls ns) W)):=λW hW=>yu8 ls ns la na lc nc W ((hi.below hW).mono hW.size) ((hn.below hW).mono hW.size);clear h7 hi hn j0 k0
  go_wp2_with fail
  refine(p0 _ (bA)).mono ?_;rintro e w3 ⟨r0,aQ,c0⟩;have l0:Hid (Bq w w3):=(d0.alloc d0.size _).trans (r0.mono (by have:=d0.size;simp;omega));have cF:w.heap.size<=w2.heap.size:=d0.size;clear r0 p0
  cases hr:(Fl.bx ls ns).2.1 with
  |true=>
   obtain⟨va,n,c,rfl,ho⟩:=aQ hr;have HO:Hid (w3.ownsRow w.heap.size 5 1 (.slice va n c) (Fl.bx ls ns).1.length ((Fl.bx ls ns).1.map Xm)):=zjw (base':=w.heap.size) ho (by simp;omega);have HZ:Hid (Fl.bf q=(0,-1,(Fl.bx ls ns).1)):=(by show _=_;rw[HE.out,if_neg (by rw[hr];simp)]);clear aQ c0 hr ho HE;go_wp2
   go_ret2
   refine⟨l0,.inl ⟨by rw[HZ.out],by rw[HZ.out],va,n,c,rfl,?_⟩⟩;rw[HZ.out];exact HO
  |false=>
   have HZ:Hid (Fl.bf q=(8,(Fl.bx ls ns).2.2,[])):=(by show _=_;rw[HE.out,if_pos hr])
   by_cases h0:(Fl.bx ls ns).2.2<0
   ·obtain rfl:=(c0 hr).1 h0
    have H1:Hid ((Fl.bx ls ns).2.2= -1):=yo5 ls ns h0;clear aQ c0 hr h0 HE;go_wp2
    go_ret2
    exact⟨l0,.inr (.inl ⟨by rw[HZ.out,H1.out],rfl⟩)⟩
   obtain⟨a,rfl,q0,q1⟩:=(c0 hr).2 (by omega);have HQ:Hid (Cl w3 a 0 (Iq 8)/\Cl w3 a 1 (Iq (Fl.bx ls ns).2.2)):=⟨q0,q1⟩;clear aQ c0 hr h0 q0 q1 HE;go_wp2
   go_ret2
   exact⟨l0,.inr (.inr ⟨by rw[HZ.out];simp,by rw[HZ.out],a,rfl,by rw[HZ.out];exact HQ.1,by rw[HZ.out];exact HQ.2⟩)⟩
 have HE:Hid (Fl.bf q=(q.1,(q.2.1:Int),[])):=by show _=_;unfold Fl.bf;rw[if_pos h0]
 have H0:=Zz h0;clear h0 e0 f0;go_wp2
 go_ret2
 refine⟨i0,.inr (.inr ⟨by rw[HE.out];exact H0.out,by rw[HE.out],a,rfl,?_,?_⟩)⟩
 ·rw[HE.out];exact a0
 rw[HE.out];exact a1
def yw3(aV:Nat×Int×List UInt8)(w:World)(e:Ending)(w':World):Prop:=
 Bq w w'/\∃va n c,e=.returned (.tuple #[.slice va n c,Iq aV.1,Iq aV.2.1])/\w'.ownsRow w.heap.size 5 1 (.slice va n c) aV.2.2.length (aV.2.2.map Xm)
def yuz(hE:Jn w)(hl:l.length<=100000)(hg:1<w.heap.size)(hm:Xs w):
  Cq 5 #[.string ⟨l.toArray⟩] w (yw3 (Fl.bf (Fl.ak l)) w):=by
 have HC:Hid (Cq 11 #[.string ⟨l.toArray⟩] w (ylv (Fl.bf (Fl.ak l)) w)):=yu9 hl hg hm;have e0:Hid (∀o,Bq w o->Jn o):=λo ho=>(ho.cell (p:=⟨0,0,none⟩) (Qe w _ hE)).trans hE;obtain⟨aV,c0⟩:=nmE (Fl.bf (Fl.ak l));rw[<-c0]at HC⊢;clear hl hg hm hE c0
 go_enter func5,ntmps5
 go_wp2_with fail
 refine HC.mono ?_;rintro e w1 ⟨hB,hc⟩;have HB:=Zz hB;clear hB HC;rcases hc with⟨h0,h1,va,n,c,rfl,ho⟩|⟨rfl,rfl⟩|⟨h0,h1,a,rfl,a0,a1⟩
 ·obtain⟨r0,r1,r2⟩:=aV
  simp only at h0 h1;subst h0;subst h1;have HO:=Zz ho;clear ho
  go_wp2_with fail
  refine(yxx _).mono ?_;rintro e w2 ⟨rfl,b0⟩;have d0:Hid (Bq w w2):=HB.trans (b0.mono HB.size);have f0:Hid (w2.ownsRow w.heap.size 5 1 (.slice va n c) r2.length (r2.map Xm)):=HO.kept (row:=none) ⟨b0.os,b0.tape,b0.output,b0.size,λk hk _=>b0.block k hk⟩ (by cases (Value.slice va n c).ownBlock<;>simp);clear b0;go_wp2
  go_ret3
  exact⟨d0,va,n,c,rfl,f0⟩
 ·go_wp2_with fail
  refine(zgw 8 _ (e0 _ HB)).mono ?_;rintro e w2 ⟨rfl,b0⟩;have d0:Hid (Bq w w2):=HB.trans (b0.mono HB.size);clear b0;go_wp2
  go_ret3
  exact⟨d0,none,0,0,rfl,World.ownsRow_nil _ _ _ _⟩
 obtain⟨n,p,r2⟩:=aV;simp only at h1;subst h1;have A0:=Zz a0;have A1:=Zz a1;clear a0 a1 h0
 go_wp2_with fail
 refine(ys4 a 0 (n:Int) p _ (e0 _ HB) A0 A1).mono ?_;rintro e w2 ⟨rfl,b0⟩;have d0:Hid (Bq w w2):=HB.trans (b0.mono HB.size);clear b0;go_wp2
 go_ret3
 exact⟨d0,none,0,0,rfl,World.ownsRow_nil _ _ _ _⟩
def zz0(w:World)(ao:Option Addr)(s:List UInt8):Prop:=s≠[]->∃bb bo,ao=some (Aq bb bo)/\bb<w.heap.size/\∀i,i<s.length->w.cell? (Aq bb (bo+i))=some (.int .u8 (s.getD i 0).toNat)
def zz0.below(h:zz0 w ao s)(hb:Bq w w'):zz0 w' ao s:=λa0=>by
 obtain⟨bb,bo,e,h1,h2⟩:=h a0;exact⟨bb,bo,e,Qj h1 hb.size,λi hi=>(hb.cell (p:=(Aq bb (bo+i))) h1).trans (h2 i hi)⟩
def zz0.dE{c:Nat}(h:w.ownsRow base 5 1 (.slice ao n c) s.length (s.map Xm)):n=s.length/\zz0 w ao s:=by
 rcases h.2 with⟨e,h0⟩|⟨g,cap,cur,e,hb,hg,h3,h4,h5,h6⟩
 ·injection e with e1 e2
  exact⟨by omega,λa0=>absurd (Qi h0) a0⟩
 injection e with e1 e2;refine⟨e2,λ_=>⟨g,0,e1,?_,λi hi=>?_⟩⟩
 ·refine Classical.byContradiction λhn=>?_
  rw[Array.getElem?_eq_none (by omega)]at hg;cases hg
 rw[Nat.zero_add,cell_of_row _ _ i _ _ (0,0) hg];rw[Nat.mul_one]at h6
 have h7:(cur.toList.take s.length)[i]?=(s.map Xm)[i]?:=by rw[h6]
 rw[List.getElem?_take_of_lt hi,List.getElem?_map,Qb hi]at h7;rw[<-Array.getElem?_toList,h7];simp[Xm,Qa,hi]
structure zmx(w:World):Prop where
 er:Jn w
 mg:1<w.heap.size
 ml:Xs w
def zmx.below{w w':World}(h:zmx w)(hb:Bq w w'):zmx w':=⟨(hb.cell (p:=⟨0,0,none⟩) (Qe w _ h.er)).trans h.er,by have:=hb.size;have:=h.mg;omega,h.ml.below (Nat.le_refl _) hb⟩
def yw4(W:World)(l:List UInt8):zz0 (Lib.bytesWorld W 5 ⟨l.toArray⟩) (some (Aq W.heap.size 0)) l/\Bq W (Lib.bytesWorld W 5 ⟨l.toArray⟩)/\W.heap.size<(Lib.bytesWorld W 5 ⟨l.toArray⟩).heap.size:=by
 have hz:(Lib.bytesWorld W 5 ⟨l.toArray⟩).heap.size=W.heap.size+1:=Lib.bytesWorld_size _ _ _;refine⟨λ_=>⟨W.heap.size,0,rfl,by omega,λi hi=>?_⟩,⟨rfl,rfl,rfl,by omega,λk hk=>Lib.bytesWorld_at_old _ _ _ k hk⟩,by omega⟩;have:=Lib.bytesWorld_cell W 5 ⟨l.toArray⟩ i (by show i<l.toArray.size;simpa using hi);rw[Nat.zero_add,this]
def bytes_back{W:World}(h:zz0 W ao l)(a0:l≠[])(cap:Nat):(convert 26 9 (.slice ao l.length cap)).run prog W=.ok (.string ⟨l.toArray⟩) W:=by
 obtain⟨b,o,rfl,-,hc⟩:=h a0;refine run_convert_bytes_back _ 26 9 5 (Aq b o) cap l underlying26 underlying5 underlying9 (λj hj=>?_)
 have h2:((Aq b o):Addr).add j=(Aq b (o+j)):=by unfold Addr.add;split<;>simp_all
 rw[h2,hc j hj];simp[Qa,hj]
end Go.Proofs.YtfhpibppblbgcaaGreatDoor
