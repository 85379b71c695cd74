import Derived.Test.YtfhpibppblbgcaaGreatDoorM07
import Derived.Laws.CopyOwn
import Derived.DeepKeys4
set_option linter.all false
set_option maxRecDepth 100000
set_option maxHeartbeats 40000000
namespace Go.Proofs.YtfhpibppblbgcaaGreatDoor
open Go.RowKit Go.Proofs.Tryz
variable{b i T B Xb Fb:Nat}{w w' w0:World}{cs lvs:List Value}{x y:Fl.ar}{ws acc:List Fl.ar}{wv:Value}
def yny{ao:Option Addr}{cap:Nat}{s:List UInt8}{p:Nat}(h:Dr w b ao cap s p)(hr:Yb w b 2)(k:Nat)(hk:k<=200):
  Cq 91 #[Pq b,Iq k] w λe w'=>zpx (Fl.one s p k) b w e w':=by
 have hlb:=h.lt;have hp:=h.hp;have hs:=h.hs
 have E1:∀o,(w.alloc o).cell? (Aq b 1)=some (Iq p):=λo=>by rw[World.cell?_alloc_past _ _ _ hlb];exact h.c1
 have HD:=Zz h;have HR:=Zz hr;clear h hr
 go_enter func91,ntmps91
 go_wp2_with fail
 obtain⟨W0,C0⟩:=nmE (w.alloc (.cells #[Iq 0,Iq 0,Iq 0,Iq 0,Iq 0,Zq] 176));rw[<-C0]
 have l1:Mv w W0 b:=by rw[C0];exact(Mv.refl w b).alloc hlb _
 have F1:W0.cell? (Aq b 1)=some (Iq p):=by rw[C0];exact E1 _
 have m1:=Zz l1;have X0:Hid (Dr W0 b ao cap s p):=HD.move l1 F1 hp
 have G1:Hid (Nd W0 w.heap.size 0 0 0 0 0 Zq):=by rw[C0];exact Nd.new _ _ _ _ _ _ _ _
 have H1:W0.heap.size=w.heap.size+1:=by rw[C0];simp
 have I1:=Zz H1;clear l1 E1 C0 H1
 by_cases x0:p<s.length
 ·refine(zf8 X0 x0).mono ?_
  rintro e w1 ⟨rfl,y0,J1⟩;obtain⟨x,hx⟩:=nmE ((s.getD p 0).toNat);rw[<-hx];have K1:x<256:=(by rw[hx];exact(s.getD p 0).toNat_lt);have HX:=Zz hx;have n1:Hid (Mv w w1 b):=m1.trans y0;have A2:w.heap.size+1<=w1.heap.size:=(by have:=y0.g.size;have:=I1.out;omega);have L1:Hid (Nd w1 w.heap.size 0 0 0 0 0 Zq):=G1.grown y0.g (by simp;omega);have J0:Hid (Dr w1 b ao cap s (p+1)):=X0.move y0 J1 (by omega);clear hx y0 J1 F1
  by_cases z0:x<8
  ·have i2:decide ((x:Int)<8)=true:=decide_eq_true (by omega)
   have o1:decide (x<8)=true:=decide_eq_true z0
   go_wp2_with fail
   obtain⟨W1,D0⟩:=nmE (w1.alloc (.cells #[Iq x,Iq 0,Iq 0,Iq 0,Iq 0,Zq] 176));rw[<-D0];obtain⟨N,hN⟩:=nmE (w1.heap.size);have p1:Nd W1 N x 0 0 0 0 Zq:=(by rw[D0,hN];exact Nd.new _ _ _ _ _ _ _ _);have j2:w.heap.size<N:=(by omega);have M1:Hid (Nd W1 w.heap.size 0 0 0 0 0 Zq):=(by rw[D0];exact L1.grown (World.grownBy_alloc _ _ none) (by simp));rw[<-hN];have N1:Hid (Mv w W1 b):=(by rw[D0];exact n1.alloc hlb _);have r1:Hid (Dr W1 b ao cap s (p+1)):=(by rw[D0];exact J0.move ((Mv.refl w1 b).alloc J0.lt _) (by rw[World.cell?_alloc_past _ _ _ J0.lt];exact J0.c1) (by omega));have O1:=Zz p1;have n0:=p1.c0;clear D0 hN p1 J0;refine(Jr _ _ _).mono ?_;rintro e w' ⟨rfl,rfl⟩
   go_wp2_with fail
   go_quiet (fail)
   go_wp2_with fail
   obtain⟨W2,E0⟩:=nmE (w'.drewN nq);rw[<-E0];have s1:Hid (Mv w W2 b):=(by rw[E0];exact N1.drewN _);have P1:Hid (Dr W2 b ao cap s (p+1)):=(by rw[E0];exact r1.move ((Mv.refl w' b).drewN _) r1.c1 (by omega));have Q1:Hid (Nd W2 N x 0 0 0 0 Zq):=(by rw[E0];exact O1.drewN _);have R1:Hid (Nd W2 w.heap.size 0 0 0 0 0 Zq):=(by rw[E0];exact M1.drewN _);clear n0 E0 N1 r1 O1 M1 L1 n1 G1 m1 X0 I1;refine(zt8 P1).mono ?_;rintro e w2 ⟨K0,f0,aQ⟩
   by_cases hv:(Fl.num s (p+1)).2.1<0
   ·obtain rfl:=f0 hv
    exact⟨rfl,Us (zby x0 HX z0 hv) (s1.trans K0)⟩
   obtain⟨rfl,Y0⟩:=aQ hv;obtain⟨v,q,g0,B2,t1,k2⟩:=zuz s (p+1) (by omega) hv;rw[g0]at Y0⊢;simp only at Y0⊢;have l0:=Zz g0;have L0:Hid (Mv w w2 b):=s1.trans K0;have p0:b≠N:=(by omega);have Z0:=Q1.grown K0.g (by simpa using λh=>p0 h.symm);have a1:Hid (Nd w2 w.heap.size 0 0 0 0 0 Zq):=R1.grown K0.g (by simp;omega);have k1:=Z0.c1;have kf:=Z0.f;have M0:=Zz Z0;have b1:=Zz Y0;clear hv f0 aQ g0 Y0 Z0 K0
   go_wp2_with fail
   obtain⟨W3,N0⟩:=nmE (w2.setCell (Aq N 1) (Iq (v:Int)));rw[<-N0];have g3:w2.grownBy W3 (some N):=(by rw[N0];exact Xo _ _ _ _);have A0:Hid (Mv w W3 b):=(by rw[N0];exact L0.eE hlb (by omega) _ _);have F0:Hid (Nd W3 N x v 0 0 0 Zq):=(by rw[N0];exact M0.od _);have O0:Hid (Nd W3 w.heap.size 0 0 0 0 0 Zq):=a1.grown g3 (by simp;omega);have S1:Hid (W3.cell? (Aq b 1)=some (Iq (q:Int))):=g3.cell b1 (by simpa using p0);have l2:=F0.lt;clear N0 g3 L0 M0 a1 b1 k1 kf P1 Q1 R1 s1;have r0:=(HR.move A0 (by omega)) x z0;refine(zh6 b (2+x*4) N (Xw x) W3 (ytw x) (A0.lt hlb) r0.1).mono ?_;rintro e w3 ⟨rfl,u1⟩;have HL:Hid (Ji s q (Xw x) w w3 b N W3.heap.size x v 0 q []):=by
    have g4:W3.grownBy w3 none:=(by rw[u1];exact⟨rfl,rfl,rfl,by simp,λk hk _=>Below.heap_alloc _ _ _ hk⟩);refine⟨⟨by omega,t1,rfl,rfl⟩,A0.dT g4 hlb (λk e=>by cases e),g4.cell S1 (by simp),F0.grown g4 (by simp),O0.grown g4 (by simp),?_,?_,?_,j2,l2⟩
    all_goals (rw[u1];simp)
   obtain⟨PB,T1⟩:=nmE (W3.heap.size);rw[<-T1]at HL⊢;have m2:=ytw x;obtain⟨f,hf⟩:=nmE (Xw x);rw[<-hf]at HL m2⊢;have HF:=Zz hf;clear T1 u1 A0 F0 O0 S1 r0 hf
   go_wp2_with fail
   go_loopw [36] (λi wr=>∃(j q':Nat) (xs:List Int),i=Iq j/\Ji s q f w wr b N PB x v j q' xs) (λi _=>f - (intOf i).toNat)
   case atStart=>exact⟨0,q,[],rfl,HL⟩
   case round=>
    clear HL;obtain⟨j,q',xs,rfl,hl⟩:=hrel;have HL:=Zz hl;have C2:=hl.hn.1;clear hl;have f1:Hid (Dr wr b ao cap s q'):=HD.move HL.hm HL.hc HL.hn.2.1
    by_cases P0:j<f
    ·have s0:x≠7:=λh=>by have:=HF.out;rw[h]at this;have h0:Xw 7=0:=rfl;omega
     have D2:=HL.ptr (show j<3 by omega)
     by_cases hv:(Fl.num s q').2.1<0
     ·go_wp2_with (go_at_call 90;refine(zt8 f1).mono ?_;rintro e w4 ⟨i0,f0,_⟩;obtain rfl:=f0 hv)
      refine⟨rfl,Us ?_ (HL.hm.trans i0)⟩;rw[zd8 x0 HX z0 s0 l0.out,<-HF.out];have:=HL.hn.eh P0 (v:=(Fl.num s q').1) (m:=(Fl.num s q').2.1) (b:=(Fl.num s q').2.2) rfl hv;rw[this];rfl
     obtain⟨y,m,g0,_,_,_⟩:=zuz s q' HL.hn.2.1 hv;have v1:=Zz g0;have n2:Hid (Cq 90 #[Pq b,Iq 0,Iq 2147483647] wr λe w'=>zw8 ((y:Int),(m:Int),0) b wr e w'):=(by rw[<-g0];exact zt8 f1);clear hv g0
     go_wp2_with (go_at_call 90;refine(n2.out).mono ?_;rintro e w4 ⟨i0,_,aQ⟩;obtain⟨rfl,G0⟩:=aQ (by simp only;omega);have kj:=i0.g.cell (HL.cell (show j<3 by omega)) (by simpa using λh=>p0 h.symm);have kf:∀o,w4.frozen? (Aq N o)=false:=(HL.nd.grown i0.g (by simpa using λh=>p0 h.symm)).f)
     go_roundw
     case rel=>exact⟨j+1,m,xs++[(y:Int)],by go_num,HL.next hlb P0 (by omega) v1 i0 G0⟩
     case measure=>simp[intOf];omega
    have hjf':j=f:=(by omega);have t0:Fl.cZ s q f=(xs,(q':Int),0):=by
     have:=HL.hn.2.2.2;rw[this,hjf',Nat.sub_self];rfl
    have U1:=Zz t0;have r0:=(HR.move HL.hm (by omega)) x z0;have g1:=r0.2.1;clear t0 hjf'
    by_cases s0:x=7
    ·have b7:(x==7)=true:=beq_iff_eq.2 s0
     rw[b7]at g1;have x1:=Zz s0;have h3:=r0.2.2;have i1:=Zz h3;have V1:f=0:=(by have:=HF.out;rw[s0]at this;exact this);have o2:q'=q/\xs=[]:=by
      have h1:=U1.out;rw[V1]at h1;have h2:Fl.cZ s q 0=([],(q:Int),0):=rfl;rw[h2]at h1;simp only[Prod.mk.injEq]at h1;exact⟨by omega,h1.1.symm⟩
     obtain⟨rfl,rfl⟩:=o2;have X1:Hid (Cq 90 #[Pq b,Iq 0,Iq 16] wr λe w'=>zw8 (Fl.dF s q' 0 16) b wr e w'):=zu2 f1 0 16 (by omega) (by omega);have Q0:Hid (Nd wr N x v 0 0 0 Zq):=HL.nd;clear r0 h3 s0 V1
     go_wp2_with fail
     refine(X1.out).mono ?_;rintro e w4 ⟨i0,f0,aQ⟩
     by_cases R0:(Fl.dF s q' 0 16).2.1<0
     ·obtain rfl:=f0 R0
      exact⟨rfl,Us (yzz x0 (by rw[<-HX.out,x1.out]) l0 R0 t1) (HL.hm.trans i0)⟩
     obtain⟨rfl,G0⟩:=aQ R0;obtain⟨m,q2,hnb,Y1,E2,S0,_,p2⟩:=zpy s q' 0 16 t1 R0;rw[hnb]at G0⊢;simp only at G0⊢;have v1:=Zz Y1;have L0:Hid (Mv w w4 b):=HL.hm.trans i0;have b1:Hid (Dr w4 b ao cap s q2):=f1.move i0 G0 S0;have M0:Hid (Nd w4 N x v 0 0 0 Zq):=Q0.grown i0.g (by simpa using λh=>p0 h.symm);have a1:Hid (Nd w4 w.heap.size 0 0 0 0 0 Zq):=HL.rs.grown i0.g (by simp;omega);have hm16':m<=16:=(by omega);have y1:Hid (w4.cell? (Aq b (2+x*4+3))=some (.func (.func (byF x)) #[] #[])):=(i0.o _ (by omega)).trans i1.out;clear f0 aQ R0 hnb Y1 G0 i0 g1 i1 Q0 X1
     go_wp2_with fail
     refine(zm0 b1 m (by omega)).mono ?_;rintro e w5 ⟨H0,f0,aQ⟩;have a0:=ynz (k:=k) x0 (by rw[<-HX.out,x1.out]) l0 v1 hm16'
     by_cases T0:(Fl.cZ s q2 m).2.1<0
     ·obtain rfl:=f0 T0
      rw[if_pos T0]at a0;exact⟨rfl,Us a0 (L0.trans H0)⟩
     obtain⟨lv,rfl,j0,j1⟩:=aQ T0;rw[if_neg T0]at a0;have z1:=Fl.fj s q2 m S0;obtain⟨ls,q3,Z1⟩:∃(ls:List Int) (q3:Nat),Fl.cZ s q2 m=(ls,(q3:Int),(Fl.cZ s q2 m).2.2):=⟨(Fl.cZ s q2 m).1,(Fl.cZ s q2 m).2.1.toNat,by rw[Int.toNat_of_nonneg (by omega)]⟩;rw[Z1]at a0 j0 j1;simp only at a0 j0 j1;obtain⟨lao,lcap,rfl⟩:=Uo j0;have k0:Hid (Fl.one s p k=Fl.cg p k ⟨x,v,0,0,0,ls⟩ (q3:Int)):=(by show _=_;rw[a0,x1.out];rfl);have r2:=M0.lt
     have u0:∀bb,(Value.slice lao ls.length lcap).ownBlock=some bb->N<bb:=λbb h=>by have:=(j0.lt bb h).1;omega
     have m0:=M0.grown H0.g (by simpa using λh=>p0 h.symm);have k5:=m0.c5;have kf:=m0.f;have F0:=Zz m0;have O0:Hid (Nd w5 w.heap.size 0 0 0 0 0 Zq):=a1.grown H0.g (by simp;omega);have HM5':Hid (Mv w w5 b):=L0.trans H0;have a2:Hid (Zv w5.heap.size w5 (.slice lao ls.length lcap) ls):=Zv.dE j0;have HD5':Hid (w5.cell? (Aq b 1)=some (Iq (q3:Int))):=j1;have U0:Hid (w5.cell? (Aq b (2+x*4+3))=some (.func (.func (byF x)) #[] #[])):=(H0.o _ (by omega)).trans y1.out;have b2:=Zz u0;clear a0 z1 Z1 j0 j1 m0 H0 f0 aQ T0 u0
     go_wp2_with fail
     obtain⟨W6,I0⟩:=nmE (w5.setCell (Aq N 5) (.slice lao ls.length lcap));rw[<-I0];have g6:w5.grownBy W6 (some N):=(by rw[I0];exact Xo _ _ _ _);have A1:Hid (Mv w W6 b):=(by rw[I0];exact HM5'.eE hlb (by omega) _ _);have B1:Hid (Nd W6 N x v 0 0 0 (.slice lao ls.length lcap)):=(by rw[I0];exact F0.nW _);have c2:Hid (Nd W6 w.heap.size 0 0 0 0 0 Zq):=O0.grown g6 (by simp;omega);have f2:Hid (W6.cell? (Aq b 1)=some (Iq (q3:Int))):=g6.cell HD5' (by simpa using p0);have C1:Hid (Zv W6.heap.size W6 (.slice lao ls.length lcap) ls):=(by rw[I0];exact Uh a2 (λ_ h=>by have h9:N<N:=b2 N h;omega));have V0:Hid (W6.cell? (Aq b (2+x*4+3))=some (.func (.func (byF x)) #[] #[])):=g6.cell U0 (by simpa using p0);clear I0 g6 k5 kf HM5' F0 O0 HD5' a2 U0;refine(zs6 b (2+x*4) (byF x) k (Pq N) (prem ⟨x,v,0,0,0,ls⟩) W6 V0 (zpz x _ _) (zh7 (B1.gt C1))).mono ?_;rintro e w7 ⟨rfl,o0⟩;have g2:Hid (Mv w w7 b):=A1.ef o0 hlb;have s2:Hid (w7.cell? (Aq b 1)=some (Iq (q3:Int))):=(o0.cell (p:=(Aq b 1)) (A1.lt hlb)).trans f2.out;have g7:W6.grownBy w7 none:=⟨o0.os,o0.tape,o0.output,o0.size,λk hk _=>o0.block k hk⟩;have t2:Hid (Zv w7.heap.size w7 (.slice lao ls.length lcap) ls):=zx0 C1 o0;have u2:=B1.grown g7 (by simp);have v2:=c2.grown g7 (by simp);obtain⟨e0,e1,e2,e3,e4,e5,_⟩:=u2;obtain⟨d0,d1,d2,d3,d4,d5,df⟩:=v2;obtain⟨q0,q1,q2',q3',q4,q5⟩:=yzy (w1:=w7) (B:=w.heap.size) (Iq x) (Iq v) (Iq 0) (Iq 0) (Iq 0) (.slice lao ls.length lcap) d0 d1 d2 d3 d4 d5;clear o0 g7 A1 B1 c2 f2 C1 V0
     by_cases b0:(prem ⟨x,v,0,0,0,ls⟩).any (λy=>decide ((k:Int)<=y))=true
     ·rw[b0]
      have B0:Hid (Fl.one s p k=(Fl.jc,-1,(p:Int))):=k0.trans (zh8 b0);clear b0 q0 q1 q2' q3' q4 q5
      go_wp2_with fail
      refine(Vv _ _ _).mono ?_;rintro e w6 ⟨rfl,D1⟩;exact⟨rfl,Us B0 (g2.ef D1 hlb)⟩
     have hany':(prem ⟨x,v,0,0,0,ls⟩).any (λy=>decide ((k:Int)<=y))=false:=(by simpa using b0);rw[hany'];have B0:Hid (Fl.one s p k=(⟨x,v,0,0,0,ls⟩,(q3:Int),0)):=k0.trans (zk4 hany');clear b0 hany'
     go_wp2_with fail
     refine(Jr _ _ _).mono ?_;rintro e w6 ⟨rfl,rfl⟩;go_wp2;exact bodyPost_ret (v:=.agg #[Iq x,Iq v,Iq 0,Iq 0,Iq 0,.slice lao ls.length lcap]) (by simp[results,results91,go_sem,q0,q1,q2',q3',q4,q5]) rfl (zm1 B0 g2 hlb rfl s2 t2 (λbb h=>by have:=b2 bb h;omega))
    have b7:(x==7)=false:=beq_eq_false_iff_ne.2 s0;rw[b7]at g1;have h3:=r0.2.2;have i1:=Zz h3;clear r0 h3
    go_wp2_with fail
    have HI:Hid (Zv wr.heap.size wr Zq ([]:List Int)):=Zv.nil _ _;refine(zs6 b (2+x*4) (byF x) k (Pq N) (prem ⟨x,v,xs.getD 0 0,xs.getD 1 0,xs.getD 2 0,[]⟩) wr i1 (zpz x _ _) (zh7 (HL.nd.gt HI))).mono ?_;rintro e w5 ⟨rfl,v0⟩;have A0:Hid (Mv w w5 b):=HL.hm.ef v0 hlb;have k0:Hid (Fl.one s p k=Fl.cg p k ⟨x,v,xs.getD 0 0,xs.getD 1 0,xs.getD 2 0,[]⟩ (q':Int)):=by
     show _=_;rw[zd8 x0 HX z0 s0 l0.out,<-HF.out,U1.out,if_neg (by simp only;omega)]
    have x2:Hid (w5.cell? (Aq b 1)=some (Iq (q':Int))):=(v0.cell (p:=(Aq b 1)) (HL.hm.lt hlb)).trans HL.hc;have g5:wr.grownBy w5 none:=⟨v0.os,v0.tape,v0.output,v0.size,λk hk _=>v0.block k hk⟩;have y2:=HL.nd.grown g5 (by simp);have z2:=HL.rs.grown g5 (by simp);obtain⟨e0,e1,e2,e3,e4,e5,_⟩:=y2;obtain⟨d0,d1,d2,d3,d4,d5,df⟩:=z2;obtain⟨q0,q1,q2,q3,q4,q5⟩:=yzy (w1:=w5) (B:=w.heap.size) (Iq x) (Iq v) (Iq (xs.getD 0 0)) (Iq (xs.getD 1 0)) (Iq (xs.getD 2 0)) Zq d0 d1 d2 d3 d4 d5;clear v0 g5 g1 HI
    by_cases b0:(prem ⟨x,v,xs.getD 0 0,xs.getD 1 0,xs.getD 2 0,[]⟩).any (λy=>decide ((k:Int)<=y))=true
    ·rw[b0]
     have B0:Hid (Fl.one s p k=(Fl.jc,-1,(p:Int))):=k0.trans (zh8 b0);clear b0 q0 q1 q2 q3 q4 q5
     go_wp2_with fail
     refine(Vv _ _ _).mono ?_;rintro e w6 ⟨rfl,D1⟩;exact⟨rfl,Us B0 (A0.ef D1 hlb)⟩
    have hany':(prem ⟨x,v,xs.getD 0 0,xs.getD 1 0,xs.getD 2 0,[]⟩).any (λy=>decide ((k:Int)<=y))=false:=(by simpa using b0);rw[hany'];have B0:Hid (Fl.one s p k=(⟨x,v,xs.getD 0 0,xs.getD 1 0,xs.getD 2 0,[]⟩,(q':Int),0)):=k0.trans (zk4 hany');clear b0 hany'
    go_wp2_with fail
    refine(Jr _ _ _).mono ?_;rintro e w6 ⟨rfl,rfl⟩;generalize xs.getD 0 0=xa at*;generalize xs.getD 1 0=xb at*;generalize xs.getD 2 0=xc at*;go_wp2;exact bodyPost_ret (v:=.agg #[Iq x,Iq v,Iq xa,Iq xb,Iq xc,Zq]) (by simp[results,results91,go_sem,q0,q1,q2,q3,q4,q5]) rfl (zm1 B0 A0 hlb rfl x2 (Zv.nil _ _) (λbb h=>by simp[Value.ownBlock]at h))
  have i2:decide ((x:Int)<8)=false:=decide_eq_false (by omega);have o1:decide (x<8)=false:=decide_eq_false z0
  go_wp2_with fail
  refine(Vv _ _ _).mono ?_;rintro e w' ⟨rfl,hb⟩;refine⟨rfl,Us ?_ ((n1.alloc hlb _).ef hb hlb)⟩;unfold Fl.one;rw[if_neg (by omega)];simp only[<-HX.out];rw[if_pos (by unfold Fl.aO;repeat' split<;>omega)]
 refine(zj0 X0 x0).mono ?_;rintro e w1 ⟨rfl,y0⟩;refine⟨rfl,Us ?_ (m1.trans y0)⟩
 have:p=s.length:=by omega
 unfold Fl.one;rw[if_pos this,this]
def Ul(nd:Fl.ar):List Value:=[.int .i64 nd.kind,.int .i64 nd.ag,.int .i64 nd.a,.int .i64 nd.b,.int .i64 nd.c,.int .i64 nd.aU.length]
def zv3(nd:Fl.ar):List Value:=Ul nd++List.replicate 16 (Value.int .i64 0)
def Ym(nd:Fl.ar):List Value:=Ul nd++(nd.aU.map (Value.int .i64)++List.replicate (16 - nd.aU.length) (Value.int .i64 0))
def zy8(nd:Fl.ar)(h:nd.aU.length<=16):(Ym nd).length=22:=by simp[Ym,Ul];omega
def yzx(nd:Fl.ar):(Ym nd).toArray.all (·.oneCell')=true:=by
 rw[List.all_toArray,List.all_eq_true];intro x hx;simp only[Ym,Ul,List.mem_append,List.mem_cons,List.mem_map,List.mem_replicate,List.not_mem_nil,or_false]at hx;rcases hx with(rfl|rfl|rfl|rfl|rfl|rfl)|⟨y,_,rfl⟩|⟨_,rfl⟩<;>rfl
def zf9(nd:Fl.ar):splice (zv3 nd) 6 (nd.aU.map (Value.int .i64))=Ym nd:=by
 unfold splice zv3 Ym;have h6:(Ul nd).length=6:=rfl;rw[List.take_left' h6,List.drop_append,List.drop_of_length_le (by rw[h6];simp),List.nil_append,List.drop_replicate,h6];simp
def Tryz.infoInt1:(Tryz.prog.info? 3).map (·.size)=some 1:=by kernel_rfl
def Tryz.infoContent:(Tryz.prog.info? 169).map (·.size)=some 22:=by kernel_rfl
def zux{nb no:Nat}{nd:Fl.ar}{lv:Value}(h:Vg w nb no nd lv)(u0:nd.aU.length<=16):
  Calls prog 74 #[.pointer (some ⟨nb,no,none⟩)] w λe w'=>e=.returned (.agg (Ym nd).toArray)/\Below w.heap.size w w':=by
 obtain⟨ao,cap,rfl,z0,hm,hx⟩:=id h.hl;have HX:=Zz hx;clear hx;unfold maxLen at hm;have i0:nb<w.heap.size:=Qe w _ h.c0;have H5:=Zz h.c5
 have a0:∀o,(w.alloc o).cell? ⟨nb,no,none⟩=some (.int .i64 nd.kind):=λo=>by rw[World.cell?_alloc_past _ _ _ i0];exact h.c0
 have a1:∀o,(w.alloc o).cell? ⟨nb,no+1,none⟩=some (.int .i64 nd.ag):=λo=>by rw[World.cell?_alloc_past _ _ _ i0];exact h.c1
 have a2:∀o,(w.alloc o).cell? ⟨nb,no+2,none⟩=some (.int .i64 nd.a):=λo=>by rw[World.cell?_alloc_past _ _ _ i0];exact h.c2
 have a3:∀o,(w.alloc o).cell? ⟨nb,no+3,none⟩=some (.int .i64 nd.b):=λo=>by rw[World.cell?_alloc_past _ _ _ i0];exact h.c3
 have a4:∀o,(w.alloc o).cell? ⟨nb,no+4,none⟩=some (.int .i64 nd.c):=λo=>by rw[World.cell?_alloc_past _ _ _ i0];exact h.c4
 have a5:∀o,(w.alloc o).cell? ⟨nb,no+5,none⟩=some (.slice ao nd.aU.length cap):=λo=>by rw[World.cell?_alloc_past _ _ _ i0];exact h.c5
 clear h
 go_enter func74,ntmps74
 go_wp2_with fail
 obtain⟨W0,e0⟩:=nmE (w.alloc (.cells #[.int .i64 0,.int .i64 0,.int .i64 0,.int .i64 0,.int .i64 0,.int .i64 0,.int .i64 0,.int .i64 0,.int .i64 0,.int .i64 0,.int .i64 0,.int .i64 0,.int .i64 0,.int .i64 0,.int .i64 0,.int .i64 0,.int .i64 0,.int .i64 0,.int .i64 0,.int .i64 0,.int .i64 0,.int .i64 0] 169));rw[<-e0]
 have d0:nb<W0.heap.size:=by rw[e0];simp;omega
 have b0:W0.cell? ⟨nb,no,none⟩=some (.int .i64 nd.kind):=by rw[e0];exact a0 _
 have b1:W0.cell? ⟨nb,no+1,none⟩=some (.int .i64 nd.ag):=by rw[e0];exact a1 _
 have b2:W0.cell? ⟨nb,no+2,none⟩=some (.int .i64 nd.a):=by rw[e0];exact a2 _
 have b3:W0.cell? ⟨nb,no+3,none⟩=some (.int .i64 nd.b):=by rw[e0];exact a3 _
 have b4:W0.cell? ⟨nb,no+4,none⟩=some (.int .i64 nd.c):=by rw[e0];exact a4 _
 have b5:W0.cell? ⟨nb,no+5,none⟩=some (.slice ao nd.aU.length cap):=by rw[e0];exact a5 _
 have p0:=Zz e0;clear e0 a0 a1 a2 a3 a4 a5;obtain⟨S,hS⟩:=nmE (α:=World->Prop) (λw'=>w'.cell? ⟨nb,no,none⟩=some (.int .i64 nd.kind)/\w'.cell? ⟨nb,no+1,none⟩=some (.int .i64 nd.ag)/\w'.cell? ⟨nb,no+2,none⟩=some (.int .i64 nd.a)/\w'.cell? ⟨nb,no+3,none⟩=some (.int .i64 nd.b)/\w'.cell? ⟨nb,no+4,none⟩=some (.int .i64 nd.c)/\w'.cell? ⟨nb,no+5,none⟩=some (.slice ao nd.aU.length cap))
 have HS:Hid (∀w',S w'->w'.cell? ⟨nb,no,none⟩=some (.int .i64 nd.kind)/\w'.cell? ⟨nb,no+1,none⟩=some (.int .i64 nd.ag)/\w'.cell? ⟨nb,no+2,none⟩=some (.int .i64 nd.a)/\w'.cell? ⟨nb,no+3,none⟩=some (.int .i64 nd.b)/\w'.cell? ⟨nb,no+4,none⟩=some (.int .i64 nd.c)/\w'.cell? ⟨nb,no+5,none⟩=some (.slice ao nd.aU.length cap)):=λw' h=>by rw[hS]at h;exact h
 have q0:Hid (∀o,S (W0.drew.alloc o)):=λo=>by
  have d0:nb<W0.drew.heap.size:=d0;rw[hS];exact⟨(World.cell?_alloc_past _ _ _ d0).trans b0,(World.cell?_alloc_past _ _ _ d0).trans b1,(World.cell?_alloc_past _ _ _ d0).trans b2,(World.cell?_alloc_past _ _ _ d0).trans b3,(World.cell?_alloc_past _ _ _ d0).trans b4,(World.cell?_alloc_past _ _ _ d0).trans b5⟩
 refine zi9 (S:=S) 26 (by kernel_rfl) (by kernel_rfl) rfl (λc a d v w h=>by cases d<;>exact h) _ _ rfl rfl rfl rfl (by rw[hS];exact⟨b0,b1,b2,b3,b4,b5⟩) ?_;clear hS;simp only[List.take_succ_cons,List.take_zero];refine Vr (λL HL=>?_)
 repeat refine Vs rfl (kE (by intro w' hw;obtain⟨s0,s1,s2,s3,s4,s5⟩:=HS w' hw;go_simp<;>rfl) (by go_simp<;>rfl) ?_)
 refine HL _ ⟨.pointer (some ⟨W0.drew.heap.size,0,none⟩),W0.drew.alloc (.cells #[.int .i64 0,.int .i64 0,.int .i64 0,.int .i64 0,.int .i64 0,.int .i64 0,.int .i64 0,.int .i64 0,.int .i64 0,.int .i64 0,.int .i64 0,.int .i64 0,.int .i64 0,.int .i64 0,.int .i64 0,.int .i64 0,.int .i64 0,.int .i64 0,.int .i64 0,.int .i64 0,.int .i64 0,.int .i64 0] 169),W0.drew.alloc (.cells #[.int .i64 nd.kind,.int .i64 nd.ag,.int .i64 nd.a,.int .i64 nd.b,.int .i64 nd.c,.int .i64 nd.aU.length,.int .i64 0,.int .i64 0,.int .i64 0,.int .i64 0,.int .i64 0,.int .i64 0,.int .i64 0,.int .i64 0,.int .i64 0,.int .i64 0,.int .i64 0,.int .i64 0,.int .i64 0,.int .i64 0,.int .i64 0,.int .i64 0] 169),by kernel_rfl,q0 _,zf7 _ _ 169 rfl _ _ _ rfl rfl Tryz.infoContent rfl (by kernel_rfl),q0 _,?_⟩;clear HL;obtain⟨W1,l0⟩:=nmE (W0.drew.alloc (.cells #[.int .i64 nd.kind,.int .i64 nd.ag,.int .i64 nd.a,.int .i64 nd.b,.int .i64 nd.c,.int .i64 nd.aU.length,.int .i64 0,.int .i64 0,.int .i64 0,.int .i64 0,.int .i64 0,.int .i64 0,.int .i64 0,.int .i64 0,.int .i64 0,.int .i64 0,.int .i64 0,.int .i64 0,.int .i64 0,.int .i64 0,.int .i64 0,.int .i64 0] 169));rw[<-l0]
 have hC:W0.drew.heap.size=w.heap.size+1:=by rw[p0.out];simp
 rw[hC]
 have m0:W1.heap[w.heap.size+1]?=some (.cells (zv3 nd).toArray 169 (0,0)):=by rw[l0,<-hC];exact heap_alloc_last _ _
 have f0:W1.heap[w.heap.size]?=some (.cells (List.replicate 22 (Value.int .i64 0)).toArray 169 (0,0)):=by
  rw[l0,Below.heap_alloc _ _ _ (by rw[hC];omega)];show W0.heap[w.heap.size]?=_;rw[p0.out];exact heap_alloc_last _ _
 have j0:Below w.heap.size w W1:=by
  rw[l0];refine Below.alloc ?_ (by rw[hC];omega) _;rw[p0.out];exact(bA).drew
 have k5:W1.cell? ⟨nb,no+5,none⟩=some (.slice ao nd.aU.length cap):=(j0.cell (p:=⟨nb,no+5,none⟩) i0).trans H5.out;have n0:=Zz m0;have g0:=Zz f0;have k0:=Zz j0;clear l0 m0 f0 j0 hC b0 b1 b2 b3 b4 b5 HS q0 p0 d0
 go_wp2_with fail
 go_still_tail 6,(by kernel_rfl)
 refine wpList_copy_splice rfl (.tmp 31) (.tmp 35) 36 36 rfl 3 underlying36 Tryz.infoInt1 _ _ _ _ _ _ rfl rfl (w.heap.size+1) 6 (zv3 nd) 169 n0 (nd.aU.map (Value.int .i64)) ?hn ?hpos ?hfit ?h1 (w.heap.size+1) W1 ?hb ?hBg ?_
 case hn=>simp only[List.length_map];show nd.aU.length=min nd.aU.length 16;omega
 case hpos=>
  intro hpos;refine⟨rfl,?_⟩;obtain⟨bb,off,A0,B0,o0⟩:=HX (by intro h0;rw[h0]at hpos;simp at hpos);refine⟨_,A0,λj u hj=>?_⟩;have hj':j<nd.aU.length:=(by have:=(List.getElem?_eq_some_iff.1 hj).1;simpa using this)
  have h2:(⟨bb,off,none⟩:Addr).add j=⟨bb,off+j,none⟩:=by unfold Addr.add;split<;>simp_all
  rw[h2];have h3:W1.cell? ⟨bb,off+j,none⟩=some u:=by
   rw[k0.cell (p:=⟨bb,off+j,none⟩) B0,o0 j hj'];rw[List.getElem?_map,Qb hj']at hj;simp only[Option.map_some,Option.some.injEq]at hj;rw[<-hj,Qa,Qb hj'];rfl
  exact h3
 case hfit=>simp only[zv3,Ul,List.length_append,List.length_map,List.length_replicate,List.length_cons,List.length_nil];omega
 case h1=>intro u hu;obtain⟨y,_,rfl⟩:=List.mem_map.1 hu;rfl
 case hb=>exact(Below.refl _ _).drew
 case hBg=>omega
 intro w2 v0 r0
 have hg2':w2.heap[w.heap.size+1]?=some (.cells (Ym nd).toArray 169 (0,0)):=by rw[v0.out,zf9]
 have x0:w2.heap[w.heap.size]?=some (.cells (List.replicate 22 (Value.int .i64 0)).toArray 169 (0,0)):=(r0.block _ (by omega)).trans g0.out;have HG:=Zz hg2';have y0:=Zz x0;have C0:Hid (Below w.heap.size w w2):=k0.trans (r0.mono (by omega));have HI:Hid ((prog.info? 169).map (·.size)=some (Ym nd).toArray.size):=by
  show _=_;rw[Tryz.infoContent];simp only[List.size_toArray,zy8 nd u0]
 clear v0 hg2' x0 r0 n0 g0 k0 HX H5 k5;generalize hcl:(Ym nd).toArray=cl at*
 have t0:Hid (cl.all (·.oneCell')=true):=by show _=_;rw[<-hcl];exact yzx nd
 have D0:Hid ((List.replicate 22 (Value.int .i64 0)).toArray.size=cl.size):=by show _=_;rw[<-hcl];simp only[List.size_toArray,List.length_replicate,zy8 nd u0]
 have E0:=Zz hcl;clear hcl
 go_wp2_with (first|(refine zr2 rfl _ 169 rfl _ rfl cl _ _ HG _ underlying169 rfl HI ?_)|(refine Xn rfl _ _ 169 rfl _ rfl _ cl rfl _ y0 HI D0 t0 ?_))
 refine bodyPost_ret (v:=.agg cl) ?_ rfl ⟨by rw[E0.out],below_setRow C0 (Nat.le_refl _) _⟩;exact zow (p:=2) (ty:=169) results74 _ _ ⟨w.heap.size,0,none⟩ _ rfl (run_loadVar_row _ _ _ _ cl _ _ (setRow_heap _ _ _ _ _ _ y0) underlying169 rfl HI)
open Go.Maps Go.WideMaps
def Tryz.laidOut:laidOutB Tryz.prog=true:=by kernel_rfl
def yr8:(169:TypeId)<prog.types.size:=of_decide_eq_true (by kernel_rfl)
def yv9:(match prog.underlying 169 with|some (.array _ _)|some (.struct _)=>true|_=>false)=true:=by rw[underlying169]
def Un:Keyed prog 169:=Keyed.of_law (deep_law_laid Tryz.laidOut (m:=4) (by omega) yr8 (by kernel_rfl) yv9)
def zfz{α β:Type}{f:α->Option β}:∀(l:List α),(∀x∈l,∃y,f x=some y)->∃ys,l.mapM f=some ys
 |[],_=>⟨[],rfl⟩
 |x::l,h=>by
  obtain⟨y,hy⟩:=h x (by simp);obtain⟨ys,a0⟩:=zfz l (λz hz=>h z (by simp[hz]));exact⟨y::ys,by simp[List.mapM_cons,hy,a0]⟩
def map_ex{α:Type}{f:α->Option (List Lit)}{l:List α}(h:∃ys,l.mapM f=some ys):∃y,Option.map List.flatten (l.mapM f)=some y:=by
 obtain⟨ys,a0⟩:=h;exact⟨ys.flatten,by rw[a0];rfl⟩
def yzw{l:List Value}(h:i<l.length):(l.drop i).take 1=[l[i]]:=by
 rw[List.drop_eq_getElem_cons h];rfl
def zh9(cs:List Value):Prop:=∀v∈cs,∃x:Int,v=.int .i64 x/\(Lit.int .i64 x).wf=true
def ynx(d:Nat){v:Value}(h:∃x:Int,v=.int .i64 x/\(Lit.int .i64 x).wf=true):∃y,prog.keyLits (d+1) 3 [v]=some y:=by
 obtain⟨x,rfl,hw⟩:=h;exact⟨[.int .i64 x],by simp[Program.keyLits,underlying3,hw]⟩
def yzv:prog.cellsOf 3=1:=by kernel_rfl
def yy0:prog.cellsOf 167=16:=by kernel_rfl
def zm2:prog.cellsOf 169=22:=by kernel_rfl
def keyArr(d:Nat)(hl:cs.length=16)(h:zh9 cs):∃y,prog.keyLits (d+2) 167 cs=some y:=by
 have hm:∃ys,(List.range 16).mapM (λi=>prog.keyLits (d+1) 3 ((cs.drop (i*prog.cellsOf 3)).take (prog.cellsOf 3)))=some ys:=by
  refine zfz _ (λi hi=>?_);rw[yzv,Nat.mul_one,yzw (by simp at hi;omega)];exact ynx d (h _ (List.getElem_mem _))
 obtain⟨ys,a0⟩:=hm;refine⟨ys.flatten,?_⟩;unfold Program.keyLits;simp only[underlying167,yy0,hl,if_true,a0,Option.map_some]
def yr9(d:Nat)(hl:cs.length=22)(h:zh9 cs):∃y,prog.keyLits (d+3) 169 cs=some y:=by
 unfold Program.keyLits;simp only[underlying169,zm2,hl];rw[if_pos ⟨trivial,by kernel_rfl⟩]
 have q:∀i,i<6->∃y,prog.keyLits (d+2) 3 (List.take (prog.cellsOf 3) (List.drop i cs))=some y:=λi hi=>by
  rw[yzv,yzw (by omega)];exact ynx (d+1) (h _ (List.getElem_mem _))
 have qa:∃y,prog.keyLits (d+2) 167 (List.take (prog.cellsOf 167) (List.drop 6 cs))=some y:=by
  rw[yy0];exact keyArr d (by simp;omega) (λv hv=>h v (List.mem_of_mem_drop (List.mem_of_mem_take hv)))
 refine map_ex (zfz _ (λf hf=>?_));simp only[List.mem_cons,List.not_mem_nil,or_false]at hf;rcases hf with rfl|rfl|rfl|rfl|rfl|rfl|rfl
 ·exact q 0 (by omega)
 ·exact q 1 (by omega)
 ·exact q 2 (by omega)
 ·exact q 3 (by omega)
 ·exact q 4 (by omega)
 ·exact q 5 (by omega)
 exact qa
def ynw:3<=prog.types.size+1:=of_decide_eq_true (by kernel_rfl)
def key_ex(hl:cs.length=22)(h:zh9 cs):∃kl,keyOf prog 169 (.agg cs.toArray)=some kl:=by
 obtain⟨d,hd⟩:∃d,prog.types.size+1=d+3:=⟨prog.types.size+1 - 3,by have:=ynw;omega⟩;obtain⟨y,hy⟩:=yr9 d hl h
 have hf:(Value.agg cs.toArray).formed prog 169=true:=by simp[Value.formed,underlying169,zm2,hl]
 have hk:prog.keyType 169=true:=by kernel_rfl
 refine⟨.string (keyBytes y),?_⟩;unfold keyOf;rw[underlying169];simp only[hf,hk,Bool.and_self,if_true,Value.cells,hd,hy,Option.map_some]
namespace Fl
def fits(nd:ar):Prop:=cq nd.kind=true/\cq nd.ag=true/\cq nd.a=true/\cq nd.b=true/\cq nd.c=true/\nd.aU.length<=16/\nd.aU.all cq=true
end Fl
def zqz{x:Int}(h:Fl.cq x=true):(Lit.int .i64 x).wf=true:=by
 simp only[Fl.cq,Bool.and_eq_true,decide_eq_true_eq]at h;exact WalkArith.wf_i64 (by omega)
def yvz{nd:Fl.ar}(h:Fl.fits nd):zh9 (Ym nd):=by
 obtain⟨h0,h1,h2,h3,h4,h5,h6⟩:=h;intro v hv;simp only[Ym,Ul,List.mem_append,List.mem_cons,List.mem_map,List.mem_replicate,List.not_mem_nil,or_false]at hv;rcases hv with(rfl|rfl|rfl|rfl|rfl|rfl)|⟨y,hy,rfl⟩|⟨_,rfl⟩
 ·exact⟨_,rfl,zqz h0⟩
 ·exact⟨_,rfl,zqz h1⟩
 ·exact⟨_,rfl,zqz h2⟩
 ·exact⟨_,rfl,zqz h3⟩
 ·exact⟨_,rfl,zqz h4⟩
 ·exact⟨_,rfl,WalkArith.wf_i64 (by omega)⟩
 ·exact⟨_,rfl,zqz (List.all_eq_true.1 h6 y hy)⟩
 exact⟨_,rfl,WalkArith.wf_i64 (by omega)⟩
def Ua(P:Program)(nd:Fl.ar):Lit:=(keyOf P 169 (.agg (Ym nd).toArray)).getD .nil
def zpw{nd:Fl.ar}(h:Fl.fits nd):keyOf prog 169 (.agg (Ym nd).toArray)=some (Ua prog nd):=by
 obtain⟨kl,hk⟩:=key_ex (zy8 nd h.2.2.2.2.2.1) (yvz h);unfold Ua;rw[hk];rfl
def yy1(h:Ym x=Ym y):x=y:=by
 unfold Ym at h;have h1:=List.append_inj_left h rfl;have h2:=List.append_inj_right h rfl;obtain⟨xk,xl,xa,xb,xc,xs⟩:=x;obtain⟨yk,yl,ya,yb,yc,ys⟩:=y;simp only[Ul,List.cons.injEq,Value.int.injEq,true_and,and_true]at h1;obtain⟨rfl,rfl,rfl,rfl,rfl,hn⟩:=h1
 have hn':xs.length=ys.length:=by omega
 have h3:=List.append_inj_left h2 (by simpa using hn');have h4:xs=ys:=by
  simp only at h3;exact(List.map_inj_right (λa b a0=>by injection a0)).1 h3
 rw[h4]
def zm3(hx:Fl.fits x)(hy:Fl.fits y)(h:Ua prog x=Ua prog y):x=y:=by
 have h1:=zpw hx;rw[h]at h1;have:=Un.inj h1 (zpw hy);simp only[Value.agg.injEq]at this;exact yy1 (by have:=congrArg Array.toList this;simpa using this)
def zrw(w:World)(T B:Nat)(cA:List Fl.ar):Prop:=
 w.cell? ⟨T,0,none⟩=some (.map (some B))/\∃n D,n<=cA.length/\w.ownsMap (H:=Unit) prog 169 (plainElem prog 3) B n D/\∀nd,Fl.fits nd->(Maps.has D (Ua prog nd)=true ↔ nd∈cA)
def zrw.kept{w w':World}{T B:Nat}{cA:List Fl.ar}(h:zrw w T B cA){row:Option Nat}(g:w.grownBy w' row)(hT:some T≠row)(hB:some B≠row):zrw w' T B cA:=by
 obtain⟨h1,n,D,h2,h3,h4⟩:=h;exact⟨g.cell h1 hT,n,D,h2,h3.kept g hB,h4⟩
def ytv(w:World):(zeroValue 3).run prog w=.ok (.int .i64 0) w:=by kernel_rfl
def yy2(w:World):Calls prog 68 #[] w λe w'=>e=.returned (.pointer (some ⟨w.heap.size+1,0,none⟩))/\zrw w' (w.heap.size+1) w.heap.size []/\Below w.heap.size w w'/\w'.heap.size=w.heap.size+2:=by
 have a0:= @run_makeMap prog
 go_enter func68,ntmps68
 go_wp2;go_ret;refine⟨rfl,⟨?_,0,.map [],Nat.le_refl _,(World.ownsMap_made w _ _ _).alloc _,λnd _=>?_⟩,?_,?_⟩
 ·simp
 ·simp[Maps.has]
 ·exact((bA).alloc (by simp) _)
 simp
def yy3{cA:List Fl.ar}{nd:Fl.ar}(h:zrw w T B cA)(hf:Fl.fits nd)(hn:cA.length<=1000000):
  Calls prog 73 #[.pointer (some ⟨T,0,none⟩),.agg (Ym nd).toArray] w λe w'=>∃(c:Int) (t:Bool),e=.returned (.tuple #[.int .i64 c,.bool (!t)])/\(t=true ↔ nd∈cA)/\zrw w' T B (nd::cA)/\w.grownBy w' (some B):=by
 obtain⟨hT,n,D,C0,d0,hD⟩:=h;have i0:=zpw hf;have HI:Hid ((prog.info? 169).map (·.size)=some (Ym nd).toArray.size):=by
  show _=_;rw[Tryz.infoContent];simp only[List.size_toArray,zy8 nd hf.2.2.2.2.2.1]
 generalize hcl:(Ym nd).toArray=cl at*;have u0:T<w.heap.size:=Qe w _ hT;have v0:=d0.lt;have HK:Hid (keyOf prog 169 (.agg cl)=some (Ua prog nd)):=i0;have HO:Hid (w.ownsMap (H:=Unit) prog 169 (plainElem prog 3) B n D):=d0;have k0:Hid (∀nd,Fl.fits nd->(Maps.has D (Ua prog nd)=true ↔ nd∈cA)):=hD;have HT:Hid (w.cell? ⟨T,0,none⟩=some (.map (some B))):=hT;clear i0 d0 hD hcl hT
 go_enter func73,ntmps73
 go_wp2_with fail
 obtain⟨W0,l0⟩:=nmE (w.alloc (.cells cl 169));rw[<-l0]
 have g0:w.grownBy W0 none:=by rw[l0];exact World.grownBy_alloc _ _ _
 have o0:W0.cell? ⟨T,0,none⟩=some (.map (some B)):=g0.cell HT (by simp);have a0:W0.ownsMap (H:=Unit) prog 169 (plainElem prog 3) B n D:=HO.kept g0 (by simp)
 have HX:Hid (W0.heap[w.heap.size]?=some (.cells cl 169 (0,0))):=by show _=_;rw[l0];exact heap_alloc_last _ _
 have p0:Hid (W0.ownsMap (H:=Unit) prog 169 (plainElem prog 3) B n D):=a0;have f0:Hid (w.grownBy W0 none):=g0;obtain⟨v,ps,n0,hv⟩:=a0.drew.look_ok Un underlying230 (ytv _) (zd:=.lit (.int .i64 0)) (zp:=[]) (plainElem_int underlying3 (by decide)) HK.out;obtain⟨c,rfl,hc,x0⟩:=plainElem_int_inv underlying3 hv;obtain⟨t,ht⟩:=nmE (Maps.has D (Ua prog nd));rw[<-ht]at n0;have q0:Hid ((Instr.lookup 230 (.map (some B)) (.agg cl) true).run prog W0.drew=.ok (.tuple #[.int .i64 c,.bool t]) W0.drew):=n0;have r0:Hid (t=Maps.has D (Ua prog nd)):=ht;clear l0 g0 a0 n0 hv hc x0 HO ht;refine wp_region_still_lit (by kernel_rfl) (by kernel_rfl) ?_
 iterate 4 still_step
 refine Xh rfl (.agg cl) (zz5 _ 169 rfl w.heap.size rfl cl _ _ HX _ underlying169 rfl HI) ?_;refine Xh rfl (.tuple #[.int .i64 c,.bool t]) (Jx _ _ 230 rfl (.map (some B)) (.agg cl) _ rfl rfl q0) ?_
 repeat still_step
 refine wpStill_nil ?_;have m0:W0.drew.cell? ⟨T,0,none⟩=some (.map (some B)):=o0;have b0:Hid (w.grownBy W0.drew none):=⟨f0.os,f0.tape,f0.out.output,f0.size,f0.block⟩;have h0:Hid (W0.drew.ownsMap (H:=Unit) prog 169 (plainElem prog 3) B n D):=p0.out;have s0:Hid (W0.drew.heap[w.heap.size]?=some (.cells cl 169 (0,0))):=HX.out
 change Exit.then _ _ _ _ W0.drew
 generalize W0.drew=W1 at*;clear o0 f0 p0 HX q0
 cases t with
 |true=>
  have dW:nd∈cA:=(k0 nd hf).1 r0.symm;have j0:Hid (nd∈cA):=dW;clear dW;go_wp2
  go_ret2
  refine⟨c,true,rfl,⟨λ_=>j0.out,λ_=>rfl⟩,⟨m0,n,D,by simp;omega,h0,λnd' hf'=>?_⟩,⟨b0.os,b0.tape,b0.out.output,b0.size,λk hk _=>b0.block k hk (by simp)⟩⟩;rw[k0 nd' hf',List.mem_cons];exact⟨λh=> .inr h,λh=>h.elim (λe=>by rw[e];exact j0) id⟩
 |false=>
  have du:nd ∉ cA:=λh=>by have:=(k0 nd hf).2 h;rw[<-r0.out]at this;cases this
  have y0:Hid (nd ∉ cA):=du;have D0:=h0.size_le;clear du
  go_wp2_with (at_len;refine wpList_len_own _ rfl _ 230 rfl 169 3 underlying230 _ B n D rfl h0 ?_)
  refine wp_region_still_tail 6 (by kernel_rfl) (by kernel_rfl) ?_;simp only[List.take_succ_cons,List.take_zero,List.drop_succ_cons,List.drop_zero]
  iterate 4 still_step
  refine Xh rfl (.agg cl) (zz5 _ 169 rfl w.heap.size rfl cl _ _ s0 _ underlying169 rfl HI) ?_
  still_step
  refine wpStill_nil ?_;have t0:Hid (W1.drew.ownsMap (H:=Unit) prog 169 (plainElem prog 3) B n D):=h0.out;refine wpList_mapUpdate_own W1.drew rfl _ _ _ 230 rfl 169 3 Un underlying230 _ B n D rfl t0 (by unfold maxLen;omega) _ _ _ rfl rfl HK _ [] (plainElem_int underlying3 (WalkArith.wf_i64 (by omega))) ?_;intro w2 c0 e0;have z0:Hid (zrw w2 T B (nd::cA)):=by
   refine⟨?_,n+1,_,by simp;omega,c0,λnd' hf'=>?_⟩
   ·have iJ:T≠B:=by
     intro e;obtain⟨es,clock,hb,_⟩:=h0.out;subst e;simp[World.cell?,hb]at m0
    exact e0.cell m0 (by simpa using iJ)
   by_cases he:nd'=nd
   ·subst he
    rw[Maps.has_put_same h0.isMap (Un.key HK)];simp
   rw[Maps.has_put_other (λh=>he (zm3 hf' hf h)),k0 nd' hf',List.mem_cons];exact⟨λh=> .inr h,λh=>h.elim (λe=>absurd e he) id⟩
  have A0:Hid (w.grownBy w2 (some B)):=⟨e0.os.trans b0.os,e0.tape.trans b0.tape,e0.output.trans b0.out.output,Nat.le_trans b0.size e0.size,λk hk B0=>(e0.block k (Nat.lt_of_lt_of_le hk b0.size) B0).trans (b0.block k hk (by simp))⟩;clear c0 e0 t0 m0 s0;go_wp2
  go_ret2
  exact⟨_,false,rfl,⟨λh=>(by cases h),λh=>absurd h y0.out⟩,z0.out,A0.out⟩
def Ju(w:World)(T B:Nat)(ws:List Fl.ar):Prop:=
 w.cell? ⟨T,0,none⟩=some (.map (some B))/\∃n D,n<=ws.length/\w.ownsMap (H:=Unit) prog 169 (plainElem prog 3) B n D/\Maps.size D=ws.length/\(∀nd,Fl.fits nd->(Maps.has D (Ua prog nd)=true ↔ nd∈ws))/\∀(i:Nat) (hi:i<ws.length),Fl.fits ws[i]/\∀z,D.atKey (Ua prog ws[i]) z=.lit (.int .i64 (i:Int))
def Ju.kept{w w':World}{T B:Nat}{ws:List Fl.ar}(h:Ju w T B ws){row:Option Nat}(g:w.grownBy w' row)(hT:some T≠row)(hB:some B≠row):Ju w' T B ws:=by
 obtain⟨h1,n,D,h2,h3,h4⟩:=h;exact⟨g.cell h1 hT,n,D,h2,h3.kept g hB,h4⟩
def ynv{nd:Fl.ar}(h:Ju w T B ws)(hf:Fl.fits nd)(hn:ws.length<=100000000):
  Calls prog 73 #[.pointer (some ⟨T,0,none⟩),.agg (Ym nd).toArray] w λe w'=>((∃(i:Nat) (hi:i<ws.length),ws[i]=nd/\e=.returned (.tuple #[.int .i64 (i:Int),.bool false])/\Ju w' T B ws)\/(nd ∉ ws/\e=.returned (.tuple #[.int .i64 (ws.length:Int),.bool true])/\Ju w' T B (ws++[nd])))/\w.grownBy w' (some B):=by
 obtain⟨hT,n,D,B0,e0,cF,hD,t0⟩:=h;have o0:Hid (∀(i:Nat) (hi:i<ws.length),Fl.fits ws[i]/\∀z,D.atKey (Ua prog ws[i]) z=.lit (.int .i64 (i:Int))):=t0;have j0:Hid (Maps.size D=ws.length):=cF;clear t0 cF;have i0:=zpw hf;have HI:Hid ((prog.info? 169).map (·.size)=some (Ym nd).toArray.size):=by
  show _=_;rw[Tryz.infoContent];simp only[List.size_toArray,zy8 nd hf.2.2.2.2.2.1]
 generalize hcl:(Ym nd).toArray=cl at*;have C0:T<w.heap.size:=Qe w _ hT;have D0:=e0.lt;have HK:Hid (keyOf prog 169 (.agg cl)=some (Ua prog nd)):=i0;have HO:Hid (w.ownsMap (H:=Unit) prog 169 (plainElem prog 3) B n D):=e0;have k0:Hid (∀nd,Fl.fits nd->(Maps.has D (Ua prog nd)=true ↔ nd∈ws)):=hD;have HT:Hid (w.cell? ⟨T,0,none⟩=some (.map (some B))):=hT;clear i0 e0 hD hcl hT
 go_enter func73,ntmps73
 go_wp2_with fail
 obtain⟨W0,l0⟩:=nmE (w.alloc (.cells cl 169));rw[<-l0]
 have g0:w.grownBy W0 none:=by rw[l0];exact World.grownBy_alloc _ _ _
 have u0:W0.cell? ⟨T,0,none⟩=some (.map (some B)):=g0.cell HT (by simp);have a0:W0.ownsMap (H:=Unit) prog 169 (plainElem prog 3) B n D:=HO.kept g0 (by simp)
 have HX:Hid (W0.heap[w.heap.size]?=some (.cells cl 169 (0,0))):=by show _=_;rw[l0];exact heap_alloc_last _ _
 have v0:Hid (W0.ownsMap (H:=Unit) prog 169 (plainElem prog 3) B n D):=a0;have h0:Hid (w.grownBy W0 none):=g0;obtain⟨v,ps,p0,hv⟩:=a0.drew.look_ok Un underlying230 (ytv _) (zd:=.lit (.int .i64 0)) (zp:=[]) (plainElem_int underlying3 (by decide)) HK.out;obtain⟨c,rfl,hc,E0⟩:=plainElem_int_inv underlying3 hv;have F0:Hid (D.atKey (Ua prog nd) (.lit (.int .i64 0))=.lit (.int .i64 c)):=congrArg Prod.fst hc;obtain⟨t,ht⟩:=nmE (Maps.has D (Ua prog nd));rw[<-ht]at p0;have x0:Hid ((Instr.lookup 230 (.map (some B)) (.agg cl) true).run prog W0.drew=.ok (.tuple #[.int .i64 c,.bool t]) W0.drew):=p0;have q0:Hid (t=Maps.has D (Ua prog nd)):=ht;clear l0 g0 a0 p0 hv hc E0 HO ht;refine wp_region_still_lit (by kernel_rfl) (by kernel_rfl) ?_
 iterate 4 still_step
 refine Xh rfl (.agg cl) (zz5 _ 169 rfl w.heap.size rfl cl _ _ HX _ underlying169 rfl HI) ?_;refine Xh rfl (.tuple #[.int .i64 c,.bool t]) (Jx _ _ 230 rfl (.map (some B)) (.agg cl) _ rfl rfl x0) ?_
 repeat still_step
 refine wpStill_nil ?_;have m0:W0.drew.cell? ⟨T,0,none⟩=some (.map (some B)):=u0;have b0:Hid (w.grownBy W0.drew none):=⟨h0.os,h0.tape,h0.out.output,h0.size,h0.block⟩;have c0:Hid (W0.drew.ownsMap (H:=Unit) prog 169 (plainElem prog 3) B n D):=v0.out;have y0:Hid (W0.drew.heap[w.heap.size]?=some (.cells cl 169 (0,0))):=HX.out
 change Exit.then _ _ _ _ W0.drew
 generalize W0.drew=W1 at*;clear u0 h0 v0 HX x0
 cases t with
 |true=>
  have dW:nd∈ws:=(k0 nd hf).1 q0.symm;have r0:Hid (nd∈ws):=dW;clear dW;go_wp2
  go_ret2
  obtain⟨i,hi,n0⟩:=List.getElem_of_mem r0.out;have G0:c=(i:Int):=by
   have h5:=(o0 i hi).2 (.lit (.int .i64 0));rw[n0,F0.out]at h5;injection h5 with h5;injection h5
  exact⟨.inl ⟨i,hi,n0,by rw[G0];rfl,⟨m0,n,D,B0,c0,j0,k0,o0⟩⟩,⟨b0.os,b0.tape,b0.out.output,b0.size,λk hk _=>b0.block k hk (by simp)⟩⟩
 |false=>
  have du:nd ∉ ws:=λh=>by have:=(k0 nd hf).2 h;rw[<-q0.out]at this;cases this
  have z0:Hid (nd ∉ ws):=du;have K0:=c0.size_le;clear du
  go_wp2_with (at_len;refine wpList_len_own _ rfl _ 230 rfl 169 3 underlying230 _ B n D rfl c0 ?_)
  refine wp_region_still_tail 6 (by kernel_rfl) (by kernel_rfl) ?_;simp only[List.take_succ_cons,List.take_zero,List.drop_succ_cons,List.drop_zero]
  iterate 4 still_step
  refine Xh rfl (.agg cl) (zz5 _ 169 rfl w.heap.size rfl cl _ _ y0 _ underlying169 rfl HI) ?_
  still_step
  refine wpStill_nil ?_;have A0:Hid (W1.drew.ownsMap (H:=Unit) prog 169 (plainElem prog 3) B n D):=c0.out;refine wpList_mapUpdate_own W1.drew rfl _ _ _ 230 rfl 169 3 Un underlying230 _ B n D rfl A0 (by unfold maxLen;omega) _ _ _ rfl rfl HK _ [] (plainElem_int underlying3 (WalkArith.wf_i64 (by omega))) ?_;intro w2 d0 f0;have H0:Hid (Ju w2 T B (ws++[nd])):=by
   refine⟨?_,n+1,_,by simp;omega,d0,?_,λnd' hf'=>?_,λi hi=>?_⟩
   ·have iJ:T≠B:=by
     intro e;obtain⟨es,clock,hb,_⟩:=c0.out;subst e;simp[World.cell?,hb]at m0
    exact f0.cell m0 (by simpa using iJ)
   ·rw[Maps.size_put (c0.tidy Un),<-q0.out,j0.out];simp
   ·by_cases he:nd'=nd
    ·subst he
     rw[Maps.has_put_same c0.isMap (Un.key HK)];simp
    rw[Maps.has_put_other (λh=>he (zm3 hf' hf h)),k0 nd' hf',List.mem_append,List.mem_singleton];exact⟨λh=> .inl h,λh=>h.elim id (λe=>absurd e he)⟩
   by_cases s0:i<ws.length
   ·rw[List.getElem_append_left s0]
    have h6:=o0 i s0;refine⟨h6.1,λz=>?_⟩;rw[Maps.atKey_put_other (λh=>z0 (by rw[<-zm3 h6.1 hf h];exact List.getElem_mem s0))];exact h6.2 z
   have n0:i=ws.length:=(by rw[List.length_append,List.length_singleton]at hi;omega);subst n0;rw[List.getElem_append_right (Nat.le_refl _)];simp only[Nat.sub_self,List.getElem_cons_zero];refine⟨hf,λz=>?_⟩;rw[Maps.atKey_put_same c0.isMap (Un.key HK)];rw[j0.out]
  have I0:Hid (w.grownBy w2 (some B)):=⟨f0.os.trans b0.os,f0.tape.trans b0.tape,f0.output.trans b0.out.output,Nat.le_trans b0.size f0.size,λk hk J0=>(f0.block k (Nat.lt_of_lt_of_le hk b0.size) J0).trans (b0.block k hk (by simp))⟩;clear d0 f0 A0 m0 y0;go_wp2
  go_ret2
  exact⟨.inr ⟨z0,by rw[j0.out];rfl,H0⟩,I0⟩
end Go.Proofs.YtfhpibppblbgcaaGreatDoor
namespace Go.Proofs.YtfhpibppblbgcaaGreatDoor
open Go.RowKit Go.Proofs.Tryz
variable{b i T B Xb Fb:Nat}{w w' w0:World}{cs lvs:List Value}{x y:Fl.ar}{ws acc:List Fl.ar}{wv:Value}
def Tryz.infoNodeW:(Tryz.prog.info? 176).map (λi=>(i.zero,i.size,i.bytes))=some (some (.agg #[.int .i64 0,.int .i64 0,.int .i64 0,.int .i64 0,.int .i64 0,.slice none 0 0]),6,64):=by kernel_rfl
def zw0(w:World)(b:Nat):Prop:=∃cs fr,w.heap[b]?=some (.cells cs 3 fr)
def zw0.of(h:zw0 w b)(e:w'.heap[b]?=w.heap[b]?):zw0 w' b:=by
 obtain⟨cs,fr,h1⟩:=h;exact⟨cs,fr,e.trans h1⟩
def zw0.lt(h:zw0 w b):b<w.heap.size:=by
 obtain⟨cs,fr,h1⟩:=h;rcases Nat.lt_or_ge b w.heap.size with h|h
 ·exact h
 rw[Array.getElem?_eq_none h]at h1;cases h1
structure Ya(w0 w:World)(Xb T B Fb:Nat)(wv:Value)(acc:List Fl.ar)(lvs:List Value):Prop where
 x0:w0.heap.size<=B/\B<T/\T<Xb
 hz:Xb<w.heap.size
 c0:w.cell? ⟨Xb,0,none⟩=some (.pointer (some ⟨Fb,0,none⟩))
 c1:w.cell? ⟨Xb,1,none⟩=some wv
 c2:w.cell? ⟨Xb,2,none⟩=some (.pointer (some ⟨T,0,none⟩))
 fz:∀j,w.frozen? ⟨Xb,j,none⟩=false
 se:Ju w T B acc
 hl:lvs.length=acc.length
 ow:w.ownsRow (Xb+1) 176 6 wv acc.length (flat acc lvs)
 li:∀p,p∈Vu acc lvs->Ug w p.1 p.2 (.slice none 0 0) wv/\(p.2≠[]->∀b,p.1.ownBlock=some b->Xb<b/\zw0 w b)
 be:Below w0.heap.size w0 w
structure zhz(w0 w:World)(Xb T B Fb:Nat)(wv:Value)(acc:List Fl.ar)(lvs:List Value):Prop where
 x0:w0.heap.size<=B/\B<T/\T<Xb
 hz:Xb<w.heap.size
 c0:w.cell? ⟨Xb,0,none⟩=some (.pointer (some ⟨Fb,0,none⟩))
 c1:w.cell? ⟨Xb,1,none⟩=some wv
 c2:w.cell? ⟨Xb,2,none⟩=some (.pointer (some ⟨T,0,none⟩))
 fz:∀j,w.frozen? ⟨Xb,j,none⟩=false
 hl:lvs.length=acc.length
 ow:w.ownsRow (Xb+1) 176 6 wv acc.length (flat acc lvs)
 li:∀p,p∈Vu acc lvs->Ug w p.1 p.2 (.slice none 0 0) wv/\(p.2≠[]->∀b,p.1.ownBlock=some b->Xb<b/\zw0 w b)
 be:Below w0.heap.size w0 w
structure Xz(w w':World)(Xb B:Nat)(wv wv':Value):Prop where
 os:w'.os=w.os
 tp:w'.tape=w.tape
 ou:w'.output=w.output
 sz:w.heap.size<=w'.heap.size
 bl:∀c,c<w.heap.size->c≠Xb->c≠B->some c≠wv.ownBlock->w'.heap[c]?=w.heap[c]?
 ow:wv'.ownBlock=wv.ownBlock\/∃g,wv'.ownBlock=some g/\w.heap.size<=g
def Xz.cW(h:Below w.heap.size w w'):Xz w w' Xb B wv wv:=⟨h.os,h.tape,h.output,h.size,λc hc _ _ _=>h.block c hc,.inl rfl⟩
def Xz.trans{w w' w'':World}{Xb B:Nat}{wv wv' wv'':Value}(h:Xz w w' Xb B wv wv')(h':Xz w' w'' Xb B wv' wv''):Xz w w'' Xb B wv wv'':=by
 refine⟨h'.os.trans h.os,h'.tp.trans h.tp,h'.ou.trans h.ou,Nat.le_trans h.sz h'.sz,λc h1 h2 h3 h4=>?_,?_⟩
 ·refine(h'.bl c (Nat.lt_of_lt_of_le h1 h.sz) h2 h3 (λhh=>?_)).trans (h.bl c h1 h2 h3 h4)
  rcases h.ow with e|⟨g,e,hg⟩
  ·exact h4 (hh.trans e)
  rw[e]at hh;injection hh with hh;omega
 rcases h'.ow with e|⟨g,e,hg⟩
 ·rw[e];exact h.ow
 exact .inr ⟨g,e,Nat.le_trans h.sz hg⟩
def Ya.below{w0 w w':World}{Xb T B Fb:Nat}{wv:Value}{acc:List Fl.ar}{lvs:List Value}(h:Ya w0 w Xb T B Fb wv acc lvs)(hb:Below w.heap.size w w'):Ya w0 w' Xb T B Fb wv acc lvs:=by
 have og:w.grownBy w' none:=⟨hb.os,hb.tape,hb.output,hb.size,λk hk _=>hb.block k hk⟩;have hx:=h.hz;exact⟨h.x0,Nat.lt_of_lt_of_le hx hb.size,(hb.cell (p:=⟨Xb,0,none⟩) hx).trans h.c0,(hb.cell (p:=⟨Xb,1,none⟩) hx).trans h.c1,(hb.cell (p:=⟨Xb,2,none⟩) hx).trans h.c2,λj=>(hb.frozen (p:=⟨Xb,j,none⟩) hx).trans (h.fz j),h.se.kept og (by simp) (by simp),h.hl,zl7 h.ow hb,λp hp=>⟨(h.li p hp).1.below hb,λhn b hbb=>⟨((h.li p hp).2 hn b hbb).1,((h.li p hp).2 hn b hbb).2.of (hb.block b ((h.li p hp).2 hn b hbb).2.lt)⟩⟩,h.be.trans (hb.mono h.be.size)⟩
def yrz{nd:Fl.ar}(hi:i<ws.length)(he:ws[i]=nd)(hu:∀j,(hj:j<ws.length)->ws[j]=nd->j=i):Fl.cO ws nd=((i:Int),ws):=by
 have nth_at:∀j,(hj:j<ws.length)->Fl.nth ws j=ws[j]:=λj hj=>by unfold Fl.nth;rw[Qa,Qb hj];rfl
 have hf:(List.range ws.length).find? (λj=>Fl.dI (Fl.nth ws j) nd)=some i:=by
  have h1:=zl8 (f:=λj=>Fl.dI (Fl.nth ws j) nd) (l:=List.range ws.length) (k:=i) (by simpa using hi) (λt ht=>?_) ?_
  ·simpa using h1
  ·simp only[List.getElem_range]
   cases hc:Fl.dI (Fl.nth ws t) nd
   ·rfl
   have h2:=(Fl.dr _ _).1 hc;rw[nth_at t (by omega)]at h2;have:=hu t (by omega) h2;omega
  simp only[List.getElem_range];exact(Fl.dr _ _).2 (by rw[nth_at i hi];exact he)
 unfold Fl.cO;rw[hf]
def yi0{nd:Fl.ar}(h:nd ∉ ws):Fl.cO ws nd=((ws.length:Int),ws++[nd]):=by
 have hf:(List.range ws.length).find? (λj=>Fl.dI (Fl.nth ws j) nd)=none:=by
  rw[List.find?_eq_none];intro j hj hc;rw[List.mem_range]at hj;have h2:=(Fl.dr _ _).1 hc;unfold Fl.nth at h2;rw[Qa,Qb hj]at h2;exact h (by rw[<-h2];exact List.getElem_mem hj)
 unfold Fl.cO;rw[hf]
def Ju.oX(h:Ju w T B ws){j:Nat}(hi:i<ws.length)(hj:j<ws.length)(he:ws[j]=ws[i]):j=i:=by
 obtain⟨-,n,D,-,-,-,-,h4⟩:=h;have h5:=(h4 i hi).2 (.lit (.int .i64 0));have h6:=(h4 j hj).2 (.lit (.int .i64 0));rw[he,h5]at h6;injection h6 with h6;injection h6 with _ h6;omega
def zj2{row:Option Nat}{lv:Value}{xs:List Int}(h:Zv w.heap.size w lv xs)(hg:w.grownBy w' row)(a0:xs≠[]->∀b,lv.ownBlock=some b->some b≠row):Zv w'.heap.size w' lv xs:=by
 obtain⟨ao,cap,rfl,h1,h2,h3⟩:=h;refine⟨ao,cap,rfl,h1,h2,λhn=>?_⟩;obtain⟨b,off,rfl,hb,hc⟩:=h3 hn;refine⟨b,off,rfl,Qj hb hg.size,λi hi=>?_⟩;exact(Qc (a:=(Aq b (off+i))) (hg.block b hb (a0 hn b rfl))).trans (hc i hi)
def Ya.pre(h:Ya w0 w Xb T B Fb wv acc lvs)(hg:w.grownBy w' (some B)):zhz w0 w' Xb T B Fb wv acc lvs:=by
 obtain⟨x1,x2,x3⟩:=h.x0
 have a0:some Xb≠some B:=by simp;omega
 have b0:wv.ownBlock≠some B:=λhh=>by have:=(h.ow.lt B hh).1;omega
 refine⟨h.x0,Qj h.hz hg.size,hg.cell h.c0 a0,hg.cell h.c1 a0,hg.cell h.c2 a0,λj=>(Qd (w:=w) (hg.block Xb h.hz a0)).trans (h.fz j),h.hl,h.ow.kept hg (.inr b0),λp hp=>?_,h.be.grown hg (Nat.le_trans x1 (by have:=h.hz;omega)) (λk hk=>by injection hk with hk;omega)⟩;obtain⟨hk,hx⟩:=h.li p hp;exact⟨⟨zj2 hk.1 hg (λhn b hb=>by have:=(hx hn b hb).1;simp;omega),hk.2⟩,λhn b hb=>⟨(hx hn b hb).1,(hx hn b hb).2.of (hg.block b (hx hn b hb).2.lt (by have:=(hx hn b hb).1;simp;omega))⟩⟩
def Ya.cA(h:Ya w0 w Xb T B Fb wv acc lvs)(hg:w.grownBy w' (some B))(hs:Ju w' T B acc):Ya w0 w' Xb T B Fb wv acc lvs:=
 ⟨(h.pre hg).x0,(h.pre hg).hz,(h.pre hg).c0,(h.pre hg).c1,(h.pre hg).c2,(h.pre hg).fz,hs,(h.pre hg).hl,(h.pre hg).ow,(h.pre hg).li,(h.pre hg).be⟩
def zhz.push{W1 W2:World}{wv' lvn:Value}{nd:Fl.ar}(h:zhz w0 w Xb T B Fb wv acc lvs)(hs:Ju w T B (acc++[nd]))(hb:Bq w W1)(hi:Zv w.heap.size w lvn nd.aU)(hf:nd.aU≠[]->∀b,lvn.ownBlock=some b->Xb<b/\some b≠wv.ownBlock/\zw0 w b)
  (ho:W2.ownsRow (Xb+1) 176 6 wv' (acc.length+1) (flat acc lvs++Yh nd lvn)) (hg:W1.grownBy W2 wv.ownBlock) (hw:wv'.ownBlock=wv.ownBlock\/wv'.ownBlock=some W1.heap.size):
  Ya w0 (W2.setCell (Aq Xb 1) wv') Xb T B Fb wv' (acc++[nd]) (lvs++[lvn]):=by
 obtain⟨x1,x2,x3⟩:=h.x0;have hz:=h.hz;have cF:=hb.size;have d0:=hg.size
 have b0:∀c,wv.ownBlock=some c->Xb<c/\c<w.heap.size:=λc hc=>by have:=h.ow.lt c hc;omega
 have ne:∀c,c<=Xb->some c≠wv.ownBlock:=λc hc hh=>by have:=b0 c hh.symm;omega
 have c0:Cl W2 Xb 0 (Pq Fb):=hg.cell ((hb.cell (p:=(Aq Xb 0)) hz).trans h.c0) (ne Xb (Nat.le_refl _));have c1:Cl W2 Xb 1 wv:=hg.cell ((hb.cell (p:=(Aq Xb 1)) hz).trans h.c1) (ne Xb (Nat.le_refl _));have c2:Cl W2 Xb 2 (Pq T):=hg.cell ((hb.cell (p:=(Aq Xb 2)) hz).trans h.c2) (ne Xb (Nat.le_refl _));have og:w.grownBy W1 none:=⟨hb.os,hb.tape,hb.output,hb.size,λk hk _=>hb.block k hk⟩;have gs:W2.grownBy (W2.setCell (Aq Xb 1) wv') (some Xb):=⟨rfl,rfl,rfl,by rw[Zy];exact Nat.le_refl _,λk hk hn=>Zx _ _ _ _ _ (λe=>hn (by rw[e]))⟩;have se:Ju (W2.setCell (Aq Xb 1) wv') T B (acc++[nd]):=((hs.kept og (by simp) (by simp)).kept hg (ne T (by omega)) (ne B (by omega))).kept gs (by simp;omega) (by simp;omega);have hk:∀p,p∈Vu (acc++[nd]) (lvs++[lvn])->Ug W2 p.1 p.2 Zq wv'/\(p.2≠[]->∀b,p.1.ownBlock=some b->Xb<b/\zw0 W2 b):=by
  intro p hp;rw[zv1 _ _ _ _ h.hl,List.mem_append,List.mem_singleton]at hp;rcases hp with hp|hp
  ·obtain⟨k1,k2⟩:=h.li p hp
   exact⟨(k1.below hb).second hg hw,λhn b a0=>⟨(k2 hn b a0).1,(k2 hn b a0).2.of ((hg.block b (Qj (k2 hn b a0).2.lt cF) (by rw[<-a0];exact(k1.2 hn).2)).trans (hb.block b (k2 hn b a0).2.lt))⟩⟩
  subst hp;refine⟨Ug.second (nv:=wv) ⟨zx0 hi hb,λhn=>?_⟩ hg hw,λhn b a0=>⟨(hf hn b a0).1,(hf hn b a0).2.2.of ((hg.block b (Qj (hf hn b a0).2.2.lt cF) (hf hn b a0).2.1).trans (hb.block b (hf hn b a0).2.2.lt))⟩⟩;obtain⟨ao,cap,e,-,-,h3⟩:=hi;obtain⟨b,off,e2,-,-⟩:=h3 hn;have h5:lvn.ownBlock=some b:=(by rw[e,e2];rfl);refine⟨by rw[h5];simp[Value.ownBlock],by rw[h5];exact(hf hn b h5).2.1⟩
 refine⟨h.x0,by rw[Zy];omega,(Qg _ _ _ _ (by intro hh;injection hh with _ h5;omega)).trans c0,World.cell?_setCell_same' _ _ _ (by rw[c1];rfl),(Qg _ _ _ _ (by intro hh;injection hh with _ h5;omega)).trans c2,λj=>by rw[World.frozen?_setCell];exact(Qd (w:=W1) (hg.block Xb (by omega) (ne Xb (Nat.le_refl _)))).trans ((hb.frozen (p:=(Aq Xb j)) hz).trans (h.fz j)),se,by simp[h.hl],?_,λp hp=>⟨(hk p hp).1.set (λhx hh=>by have:=((hk p hp).2 hx Xb hh).1;omega),λhn b a0=>⟨((hk p hp).2 hn b a0).1,((hk p hp).2 hn b a0).2.of (Zx _ _ _ _ _ (by have:=((hk p hp).2 hn b a0).1;omega))⟩⟩,?_⟩
 ·rw[zr0 _ _ _ _ h.hl,List.length_append,List.length_singleton];exact ownsRow_setCell_below ho (by simp) wv'
 exact((h.be.trans (hb.mono (by omega))).grown hg (by omega) (λk hk=>by have:=b0 k hk;omega)).setCell (by show w0.heap.size<=Xb;omega) _
end Go.Proofs.YtfhpibppblbgcaaGreatDoor
