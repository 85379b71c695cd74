import Derived.Test.YtgmbnnpnefniiaaGreatDoorM19
set_option linter.all false
set_option maxRecDepth 100000
set_option maxHeartbeats 40000000
namespace Go.Proofs.YtgmbnnpnefniiaaGreatDoor
open Go.RowKit Go.Proofs.Tryz List World Region Value Act Fl
variable{lo base Rb Pb t n:Nat}{w0 w w' wr:World}{ops:Array Oper}{o:Oper}{a:Act}{Q:Exit->Act->World->Prop}{r:RS}{e:TypeId}{v:Value}
def Tryz.infoByteR:(Tryz.prog.info? 5).map (λi=>(i.zero,i.size,i.bytes))=some (some (.int .u8 0),1,1):=by kernel_rfl
def ya4(h1:Below lo w0 w)(hz:lo<=w.heap.size)(h2:Below lo w0 w'):lo<=w'.heap.size:=by
 rcases Nat.lt_or_ge w'.heap.size lo with h|h
 ·have e1:=h2.block w'.heap.size h
  have e2:=h1.block w'.heap.size h;rw[Array.getElem?_eq_none lE]at e1;rw[<-e1,Array.getElem?_eq_getElem (by omega)]at e2
  cases e2
 exact h
def zs8{rest:List Oper}(a0:o.guard=none)(x y:Operand)(ho:o.op=.store 91 x y)(w:World)(N:Nat)(c':Array Value)(hx:a.eval x=F w.heap.size)(hN:w.heap.size=N)(hy:a.eval y=.agg c')
  (h1:c'.all (·.oneCell')=true) (cD:c'.size=10) (h:wpList prog ops Q rest (a.put o.dst undef) (w.alloc (.cells c' 91))):wpList prog ops Q (o::rest) a (w.alloc (.cells Yp 91)):=
 zz0 a0 x y 91 ho w Yp c' hx hy (by rw[cD];exact Tryz.infoStmt10) (by rw[cD];rfl) h1 h
def lnS(s:aa)(at_:Nat):aa:=⟨s.kind,s.x,at_,s.e,[],[]⟩
def lnF(s:aa)(at_:Nat):FlS:=⟨0,lnS s at_⟩
def sArr(s:aa):Array Value:=Zg s.kind s.x s.e.op s.e.a.var s.e.a.v s.e.b.var s.e.b.v
def ya5(s:aa)(at_:Nat):(sArr s).setIfInBounds 2 (I (at_:Int))=(Zp (lnF s at_)).toArray:=rfl
def RowWay(x0:ByteArray)(s:aa)(r':RS)(out:Nat×RS)(at_:Nat):Prop:=
 ((x0.toList==[105,102])=false/\(x0.toList==[119,104,105,108,101])=false/\(16<=r'.am->out.1=5)/\(r'.am<16->out=(0,r'.put (lnS s at_)))/\(s.kind=3\/s.kind=4))\/
 ∃(kd:Nat) (ch:Int),(((x0.toList==[105,102])=true/\(x0.toList==[119,104,105,108,101])=false/\kd=5/\ch=105)\/((x0.toList==[105,102])=false/\(x0.toList==[119,104,105,108,101])=true/\kd=6/\ch=119))/\(16<=r'.am\/3<=r'.fr.length->out.1=5)/\(r'.am<16->r'.fr.length<3->out=(0,r'.opens kd at_ s.e))/\s.kind=kd/\s.x=0
section
variable{m:Yn}{fl:List FlS}
def zg2(h:Zu lo base Rb Pb w0 w m)(hr:Zj r fl t m)(ht:t<=100000)(b off n cap:Nat)(hn:1<=n/\n<=maxLen)(hb:b<w.heap.size)(B1:b≠Rb/\∀j,Zt j->(m.v j).ownBlock≠some b)(at_:Nat)(x0:ByteArray)(k1:(x0.toList==[108,101,118,101,108])=false)(k2:(x0.toList==[98,101,108,111,119])=false)(k3:(x0.toList==[99,101,108,108])=false)(k4:(x0.toList==[99,104,97,110,110,101,108])=false)(k5:(x0.toList==[98,101,103,105,110])=false)(k6:(x0.toList==[101,108,115,101])=false)(k7:(x0.toList==[101,110,100])=false)(c0:w.cell? (O b off)=some (.string x0))(a2:r.ag=true)(aX:Nat×aa×RS)(out:Nat×RS)
  (cZ:E 32 #[F Rb,Sq b off n cap] w (zw1 lo base Rb Pb w0 w m fl t aX))
  (V0:aX.1≠0->out.1=aX.1) (d2:aX.1=0->Xi fl aX.2.2/\bE fl=aX.2.2.am) (j0:aX.1=0->RowWay x0 aX.2.1 aX.2.2 out at_):
  E 13 #[F Rb,Sq b off n cap,I (at_:Int)] w (Xy lo base Rb Pb w0 t out):=by
 obtain⟨b1,b2,b3,b4,b5,b6,b7⟩:=h.bU
 have S2:Rb<w.heap.size:=by omega
 have x7:w.cell? (O Rb 7)=some (.bool true):=by rw[<-a2,<-hr.bg];exact h.cR.c 7 (by omega)
 obtain⟨d8,k8',C1⟩:=h.shape 8 (by unfold Zt;omega);rw[hr.r8.1]at C1
 have x8:w.cell? (O Rb 8)=some (A d8 r.fr.length k8'):=by rw[<-C1];exact h.cR.c 8 (by omega)
 have B2:=hr.fr
 have C2:(r.fr.length:Int)<=3:=by omega
 have T2:=hr.ft
 have D2:fl.length<=100000:=by omega
 have g2:(fl.length:Int)<=100000:=by omega
 have U2:(0:Int)<(n:Int):=by omega
 have HH:=Z h;have i2:=Z cZ;have B0:=Z V0;have C0:=Z j0;have D1:=Z d2;have E1:=Z B1.2;have s0:=B1.1;clear h hr cZ V0 j0 d2 B1 C1 B2 a2
 go_enter func13,ntmps13
 go_wp2_with fail
 refine i2.out.mono ?_;rintro e W1 ⟨F1,G1⟩;clear i2 x7 x8
 by_cases h0:aX.1=0
 ·obtain⟨rfl,m1,W0,I0,X0⟩:=F1 h0
  obtain⟨H1,I1⟩:=D1.out h0;have j0:=C0.out h0;obtain⟨s,hs⟩:=J (aX.2.1);obtain⟨r',hr'⟩:∃r',r'=aX.2.2:=⟨_,rfl⟩;rw[<-hs]at j0;rw[<-hr']at I0 H1 I1 j0;have hk:=X0 b hb s0 E1.out;have c1:=cQ hk.1 c0;have hbz:b<W1.heap.size:=Qe W1 _ c1;have J0:=Z hk.2;obtain⟨sb,r0⟩:=J (W1.heap.size);obtain⟨q1,q2,q3,q4,q5,q6,q7⟩:=W0.bU;have V2:base<=sb:=(by omega);have J1:b<sb:=(by omega);have E2:Rb<sb:=(by omega);obtain⟨d10,k10,m0⟩:=W0.shape 10 (by unfold Zt;omega);rw[I0.fX.1]at m0;obtain⟨Wp,Y0⟩:=J (W1.alloc (.cells ((sArr s).setIfInBounds 2 (I (at_:Int))) 91));have K1:Y (Below sb W1 Wp):=(by show Below _ _ _;rw[Y0,r0];exact bA);have K0:Y (Zu lo base Rb Pb w0 Wp m1):=(by have h9:=K1.out;rw[r0]at h9;exact W0.below h9);have n0:=Z m0;have u0:=Z I0.fX.1;have D0:=Z I0.fX.2;have y10:Wp.cell? (O Rb 10)=some (A d10 fl.length k10):=(by rw[<-n0.out];exact K0.out.cR.c 10 (by omega));have F2:sb<Wp.heap.size:=(by rw[Y0,r0];simp);have L1:base<=Wp.heap.size:=(by omega);have M1:Rb<Wp.heap.size:=(by omega);have ysb:Wp.heap[sb]?=some (.cells (Zp (lnF s at_)).toArray 91 (0,0)):=(by rw[Y0,ya5,r0];exact zyx _ _ _ rfl)
  have j2:Y (∀k,(A d10 fl.length k10).ownBlock=some k->k<sb):=λk u1=>by rw[r0];exact((W0.own 10 (by unfold Zt;omega)).lt k (by rw[m0];exact u1)).2
  have o0:Y ((A d10 fl.length k10).ownBlock≠some b):=(by rw[<-m0];exact hk.2 10 (by unfold Zt;omega));have cp:=cT K1.out J1 c1;have k0:=Z I0;have HF:Y (Xi fl r'/\bE fl=r'.am):=⟨H1,I1⟩;have HG:=Z j0;have eA:Zg aX.2.1.kind aX.2.1.x aX.2.1.e.op aX.2.1.e.a.var aX.2.1.e.a.v aX.2.1.e.b.var aX.2.1.e.b.v=sArr s:=(by rw[hs];rfl);rw[eA];have l2:=Z Y0;have Z0:=Z r0;clear F1 G1 W0 I0 X0 H1 I1 j0 hk c1 m0 Y0 r0 eA hs hr' HH E1 B0 C0 D1 c0 q1 q2 q3 q4 q5 q6 q7
  go_wp2_with (refine Yd 9 ?_;refine zs8 rfl (.tmp 9) (.tmp 117) rfl W1 sb (sArr s) rfl Z0.out.symm rfl (Xv _ _ _ _ _ _ _) rfl ?_)
  rw[<-l2.out,<-Z0.out];clear l2 K1 Z0
  go_cut [] (λwc=>∃(g gc:Nat),Zu lo base Rb Pb w0 wc (m1.app 10 (Sq g 0 (fl.length+1) gc) (Zp (lnF s at_)))/\wc.cell? (O b off)=some (.string x0))
  case first=>
   refine zy2 (λW=>W.cell? (O Rb 10)=some (A d10 fl.length k10)/\W.heap[sb]?=some (.cells (Zp (lnF s at_)).toArray 91 (0,0))) [8,9,10,11,12] [(0,0),(0,1),(0,2),(0,3),(0,4),(0,5),(1,6),(1,7)] [(0,8),(0,10),(0,11)] 9 12 (by kernel_rfl) (by kernel_rfl) rfl [(_,_),(_,_),(_,_),(_,_),(_,_),(_,_),(_,_),(_,_)] [(_,_),(_,_),(_,_)] _ _ rfl rfl rfl rfl (λc a d v w h=>by cases d<;>exact h) ⟨y10,ysb⟩ (λops=>?_);simp only[getElem_toArray,getElem_cons_succ,getElem_cons_zero]
   iterate 4 refine Xs rfl (kE (by intros;go_simp<;>rfl) (by go_simp<;>rfl) ?_)
   refine Xs rfl (λWx hK=>?_);refine⟨.agg (Zp (lnF s at_)).toArray,λw' hw'=>zs2 (.tmp 9) 91 rfl sb rfl _ 91 (0,0) hw'.2 _ underlying91 rfl Tryz.infoStmt10,hK _ ?_⟩;clear hK Wx
   iterate 1 refine Xs rfl (kE (by intros;go_simp<;>rfl) (by go_simp<;>rfl) ?_)
   refine zu8 ?_
   go_wp2_with fail
   obtain⟨W3,a1⟩:=J ((Wp.alloc (.cells Yp 91)).drew);obtain⟨tb,E0⟩:=J (Wp.heap.size);have N1:D Wp W3:=(by rw[a1];exact(bA).drew);have W2:Wp.heap.size+1=W3.heap.size:=(by rw[a1];simp);have t0:∀i u,(Yp.toList)[i]?=some u->W3.cell? (((O tb 0):Addr).add i)=some u:=(by rw[a1,E0];exact zv9 rfl);have L0:=Z N1;have O1:Y (W3.ownsRow base 91 10 (A d10 fl.length k10) fl.length (Jn fl)):=by
    have h1:=(K0.out.below N1).own 10 (by unfold Zt;omega);rw[n0.out,u0.out,D0.out]at h1;exact h1
   have x1:(λW=>W.cell? (O Rb 10)=some (A d10 fl.length k10)/\W.heap[sb]?=some (.cells (Zp (lnF s at_)).toArray 91 (0,0))) W3:=⟨cT L0.out (by show Rb<_;omega) y10,(L0.out.block sb (by omega)).trans ysb⟩
   try rw[show ∀o,(Wp.drew.alloc o)=(Wp.alloc o).drew from λ_=>rfl]
   have eW3:(Wp.alloc (.cells #[I 0,I 0,I 0,I 0,.bool false,I 0,.bool false,I 0,K,K] 91)).drew=W3:=a1.symm;rw[eW3,<-E0];clear a1 E0 eW3 N1;refine⟨x1,?_⟩;refine zu8 ?_;obtain⟨i0,M0,N0,O0,P0⟩:=info_parts Tryz.infoStmtP
   go_wp2_with (at_builtin;refine Ap underlying52 M0 N0 O0 P0 rfl O1.out rfl Yp.toList rfl rfl t0 ?c2 ?c3 ?c4 ?c5 ?_)
   case c2=>exact zkz
   case c3=>unfold maxLen;omega
   case c4=>omega
   case c5=>omega
   intro v' W4 e0 d1 F0;obtain⟨g,gc,rfl⟩:∃g gc,v'=Sq g 0 (fl.length+1) gc:=by
    rcases e0.2 with⟨h1,h2⟩|⟨g,cp,cur,h1,_⟩
    ·omega
    exact⟨g,cp,h1⟩
   have g1:∀k,(A d10 fl.length k10).ownBlock=some k->base<=k/\k<Wp.heap.size+1:=λk hk=>by have:=O1.out.lt k hk;omega
   have X2:=(e0.lt g rfl).1;have z0:=d1.block Rb (by omega) (λhh=>by have:=(g1 Rb hh.symm).1;omega);have y1:(λW=>W.cell? (O Rb 10)=some (A d10 fl.length k10)/\W.heap[sb]?=some (.cells (Zp (lnF s at_)).toArray 91 (0,0))) W4:=⟨cQ z0 x1.1,(d1.block sb (by omega) (λhh=>by have:=j2.out sb hh.symm;omega)).trans x1.2⟩;have gz:∀j,W4.frozen? (O Rb j)=false:=λj=>fQ z0 ((L0.out.frozen (by show Rb<_;omega)).trans (K0.out.cR.z j));have g0:=y1.1;have P1:=Z (zk8 e0);have H5:Y (Zu lo base Rb Pb w0 ((W4.setCells g (fl.length*10) (Zp (lnF s at_))).setCell (O Rb 10) (Sq g 0 (fl.length+1) gc)) (m1.app 10 (Sq g 0 (fl.length+1) gc) (Zp (lnF s at_)))):=by
    have h1:=K0.out.flat (W3:=W3) (W4:=W4) (g:=g) (cap:=gc) (z:=Yp.toList) (cs:=(Zp (lnF s at_))) L0.out (by rw[u0.out,D0.out];exact e0) rfl rfl (by rw[n0.out];exact d1) (by rw[n0.out];exact F0);rw[u0.out]at h1;exact h1
   have n2:Y ((W4.setCell (O Rb 10) (Sq g 0 (fl.length+1) gc)).setCells g (fl.length*10) (Zp (lnF s at_))=(W4.setCells g (fl.length*10) (Zp (lnF s at_))).setCell (O Rb 10) (Sq g 0 (fl.length+1) gc)):=zw7 g Rb 10 _ (by omega) _ _ _;obtain⟨W5,i1⟩:=J (W4.setCells g (fl.length*10) (Zp (lnF s at_)));have o2:=Z i1.symm;obtain⟨W6,Q1⟩:=J (W5.setCell (O Rb 10) (Sq g 0 (fl.length+1) gc));have G2:Y ((W4.setCell (O Rb 10) (Sq g 0 (fl.length+1) gc)).setCells g (fl.length*10) ((Zp (lnF s at_))).toArray.toList=W6):=(by show _=_;rw[Q1,i1];exact n2.out);have p2:=Z Q1;rw[<-i1]at H5;have g0':(W4.setCells g (fl.length*10) (Zp (lnF s at_))).cell? (O Rb 10)=some (A d10 fl.length k10):=cQ (Uh g _ W4 _ Rb (by omega)) g0;have gz':(W4.setCells g (fl.length*10) (Zp (lnF s at_))).frozen? (O Rb 10)=false:=(frozen?_setCells g _ _ _ _).trans (gz 10);have R1:Y (∀v,(W4.setCell (O Rb 10) v).there g (fl.length*10) 10):=λv j hj=>⟨by rw[Qc (Zx _ _ _ _ _ (by show g≠Rb;omega))];exact(P1.out j hj).1,by rw[frozen?_setCell];exact(P1.out j hj).2⟩;rw[<-i1]at g0' gz';clear i1 Q1 n2;have S1:g≠b:=by
    rintro rfl;rcases F0 with h1|h1
    ·exact o0.out h1.symm
    simp only[ownBlock,Ql]at h1;omega
   have cw:W5.cell? (O b off)=some (.string x0):=by
    refine(Qc ?_).trans cp;show W5.heap[b]?=Wp.heap[b]?;rw[<-o2.out];exact(Uh g _ W4 _ b (Ne.symm S1)).trans ((d1.block b (by omega) (λhh=>o0.out hh.symm)).trans (L0.out.block b (by omega)))
   have r2:Y (Zu lo base Rb Pb w0 (W5.setCell (O Rb 10) (Sq g 0 (fl.length+1) gc)) (m1.app 10 (Sq g 0 (fl.length+1) gc) (Zp (lnF s at_)))/\(W5.setCell (O Rb 10) (Sq g 0 (fl.length+1) gc)).cell? (O b off)=some (.string x0)):=⟨H5.out,cQ (Zx _ _ _ _ _ s0) cw⟩;have H2:Y (∃(g gc:Nat),Zu lo base Rb Pb w0 W6 (m1.app 10 (Sq g 0 (fl.length+1) gc) (Zp (lnF s at_)))/\W6.cell? (O b off)=some (.string x0)):=(by show ∃g gc,_;rw[p2.out];exact⟨g,gc,r2.out⟩);clear H5 p2 cp cw;clear e0 d1 F0 z0 t0 O1 L0 g1 K0 n0 u0 D0 x1 M0 N0 O0 P0 i0
   go_wp2_with fail
   refine⟨y1,?_⟩
   try (refine Jq ?_;refine⟨y1,?_⟩)
   clear y1;have I2:(fl.length:Int)<(fl.length:Int)+1:=(by omega)
   try simp only[getElem_toArray,getElem_cons_succ,getElem_cons_zero]
   iterate 3 refine Xs rfl (kE (by rintro _ -;go_simp<;>rfl) (by go_simp<;>rfl) ?_)
   refine Jq ?_;refine⟨trivial,?_,?_⟩
   ·go_wp2_with (refine Yd 132 ?_;refine Vl rfl 91 (.tmp 132) (.tmp 128) rfl g (fl.length*10) ((Zp (lnF s at_))).toArray rfl rfl P1.out Tryz.infoStmt10 (by kernel_rfl) o2.out ?_)
    go_meet
    case rel=>exact⟨g,gc,r2.out⟩
   go_wp2_with (refine Yd 132 ?_;refine Vl rfl 91 (.tmp 132) (.tmp 128) rfl g (fl.length*10) ((Zp (lnF s at_))).toArray rfl rfl (R1.out _) Tryz.infoStmt10 (by kernel_rfl) G2.out ?_)
   go_meet
   case rel=>exact H2.out
  case rest=>
  obtain⟨g,gc,l0,cw⟩:=hcut;obtain⟨W7,s2⟩:=J (wc);rw[<-s2]at l0 cw⊢;clear s2 y10 ysb cp K0 j2 o0 F2 L1 M1;obtain⟨m2,a0⟩:=J (m1.app 10 (Sq g 0 (fl.length+1) gc) (Zp (lnF s at_)));rw[<-a0]at l0;obtain⟨st,cZ⟩:=J (r'.am);have t2:st<=16:=(by rw[cZ];exact k0.out.sm);have v0:m2.am=st:=(by rw[a0,cZ];exact k0.out.st);have e8:m2.v 8=m1.v 8:=(by rw[a0];rfl);obtain⟨d8b,k8b,d0⟩:=l0.shape 8 (by unfold Zt;omega);have Q0:m2.n 8=r'.fr.length:=(by rw[a0];exact k0.out.r8.1);have j1:m2.xs 8=Vy r'.fr:=(by rw[a0];exact k0.out.r8.2);rw[Q0]at d0;have p9:W7.cell? (O Rb 9)=some (I (st:Int)):=(by rw[<-v0];exact l0.cR.c 9 (by omega));have z9:=l0.cR.z 9;have p8:W7.cell? (O Rb 8)=some (A d8b r'.fr.length k8b):=(by rw[<-d0];exact l0.cR.c 8 (by omega));have z8:=l0.cR.z 8;obtain⟨nf,A0⟩:=J (r'.fr.length);have J2:nf<=3:=(by rw[A0];exact k0.out.fr);rw[<-A0]at p8 d0;have K2:(nf:Int)<=3:=(by omega);have L2:(st:Int)<=16:=(by omega);have H8:Y (Zu lo base Rb Pb w0 (W7.setCell (O Rb 9) (I ((st:Int)+1))) {m2 with am:=st+1}):=l0.lJ (st+1);have Y2:Y (lo<=W7.heap.size):=Nat.le_trans b7 l0.bU.2.2.2.2.2.1;have M2:Rb<W7.heap.size:=(by have:=l0.bU;omega);have N2:b<W7.heap.size:=Qe W7 _ cw;rcases HG.out with⟨k8,k9,l1,n1,o1⟩|⟨kd,ch,hk,l1,n1,o1,u2⟩
  ·have p0:Y ((16<=r'.am->out.1=5)/\(r'.am<16->out=(0,r'.put (lnS s at_)))):=⟨l1,n1⟩
   have R0:=Z o1;clear l1 n1 o1 HG;have cw2:(W7.setCell (O Rb 9) (I ((st:Int)+1))).cell? (O b off)=some (.string x0):=cQ (Zx _ _ _ _ _ s0) cw
   by_cases f0:16<=st
   ·have T1:(16:Int)<(st:Int)+1:=by omega
    have HE:Y (Xy lo base Rb Pb w0 t out (.returned (I 5)) (W7.setCell (O Rb 9) (I ((st:Int)+1)))):=by
     have h5:=p0.out.1 (by rw[<-cZ];exact f0);exact⟨by rw[h5];rfl,λh=>(by rw[h5]at h;cases h),λ_=>H8.out.bel⟩
    clear l0 a0 cZ v0 e8 d0 Q0 j1 A0 k0 HF p0 H8 J0 f0;go_wp2;go_ret;exact HE.out
   have T1:¬(16:Int)<(st:Int)+1:=(by omega);have U1:(st:Int)+1<=16:=(by omega);have HE:Y (Xy lo base Rb Pb w0 t out (.returned (I 0)) (W7.setCell (O Rb 9) (I ((st:Int)+1)))):=by
    have h5:=p0.out.2 (by rw[<-cZ];omega);refine⟨by rw[h5];rfl,λ_=>⟨_,fl++[lnF s at_],H8.out,?_,?_,?_⟩,λh=>absurd (by rw[h5]) h⟩
    ·rw[h5,a0,cZ]
     exact k0.out.put (lnS s at_) (lnF s at_) (by rw[<-cZ];omega) _
    ·rw[h5]
     exact yf4 (s:=lnS s at_) HF.out.1 R0.out rfl rfl k0.out.fr
    rw[h5,Up,HF.out.2];exact(ys6 (r:=r') (lnS s at_)).2.2.2.2.2.2.2.2.2.1.symm
   clear l0 a0 cZ v0 e8 d0 Q0 j1 A0 k0 HF p0 H8 J0 f0;go_wp2;go_ret;exact HE.out
  have p0:Y ((16<=r'.am\/3<=r'.fr.length->out.1=5)/\(r'.am<16->r'.fr.length<3->out=(0,r'.opens kd at_ s.e))):=⟨l1,n1⟩;have R0:Y (s.kind=kd/\s.x=0):=⟨o1,u2⟩;obtain⟨c9,x2⟩:=J (ch);obtain⟨kd9,u1⟩:=J (kd);have y2:=Z x2;have z1:=Z u1;have O2:=Z hk;clear l1 n1 o1 u2 HG x2 u1 hk;obtain⟨W8,S0⟩:=J (W7.setCell (O Rb 9) (I ((st:Int)+1)));rw[<-S0]at H8;obtain⟨W9,p1⟩:=J (W8.alloc (.cells #[.int .u8 ch] 5));have V1:W8.heap.size=W7.heap.size:=(by rw[S0,Zy]);have T0:D W8 W9:=(by rw[p1];exact bA);have Z2:W7.heap.size+1=W9.heap.size:=(by rw[p1];simp[V1]);have a3:base<=W9.heap.size:=(by have:=l0.bU;omega);have X1:=Z T0;have A1:Y (W9.ownsRow base 5 1 (A d8b nf k8b) nf (Vy r'.fr)):=by
   have h1:=(H8.out.below T0).own 8 (by unfold Zt;omega);have e1:=d0;have e2:({m2 with am:=st+1}:Yn).n 8=nf:=(by rw[A0];exact Q0);have e3:=j1;rw[e1,e2,e3]at h1;exact h1
  obtain⟨tb,E0⟩:=J (W7.heap.size);have t0:∀i u,([.int .u8 ch]:Vs)[i]?=some u->W9.cell? (((O tb 0):Addr).add i)=some u:=(by rw[p1,E0,<-V1];exact Xo);have u9:W9.cell? (O Rb 9)=some (I ((st:Int)+1)):=by
   have h1:W8.cell? (O Rb 9)=some (I ((st:Int)+1)):=(by rw[S0];exact cell?_setCell_same' _ _ _ (by rw[p9];rfl));exact(cT T0 (by show Rb<_;omega) h1)
  have u8:W9.cell? (O Rb 8)=some (A d8b nf k8b):=by
   have h1:W8.cell? (O Rb 8)=some (A d8b nf k8b):=(by rw[<-d0];exact H8.out.cR.c 8 (by omega));exact(cT T0 (by show Rb<_;omega) h1)
  have cw8:W8.cell? (O b off)=some (.string x0):=(by rw[S0];exact(cQ (Zx _ _ _ _ _ s0) cw));have cw9:=cT T0 (by show b<_;omega) cw8;have r1:Y ((A d8b nf k8b).ownBlock≠some b):=(by rw[<-d0,e8];exact J0.out 8 (by unfold Zt;omega));have y0:Y (m2.v 8=A d8b nf k8b/\m2.n 8=nf/\m2.xs 8=Vy r'.fr/\nf=r'.fr.length/\st=r'.am/\m2=m1.app 10 (Sq g 0 (fl.length+1) gc) (Zp (lnF s at_))):=⟨d0,by rw[A0];exact Q0,j1,A0,cZ,a0⟩;have Y1:Y ((W7.setCell (O Rb 9) (I ((st:Int)+1))).alloc (.cells #[.int .u8 ch] 5)=W9):=(by show _=_;rw[p1,S0]);have Z1:=Z E0;have P2:W8.heap.size+1=W9.heap.size:=(by omega);clear l0 a0 cZ v0 e8 d0 Q0 j1 A0 S0 p1 T0 E0 cw8 V1;rcases O2.out with⟨k8,k9,rfl,rfl⟩|⟨k8,k9,rfl,rfl⟩
  all_goals
   obtain⟨i0,M0,N0,O0,P0⟩:=info_parts Tryz.infoByteR
   go_wp2_with (first|(at_builtin;rw[Y1.out];refine Jd _ rfl (.tmp 150) (.tmp 151) 44 rfl base 5 i0 (.int .u8 0) 1 1 underlying44 M0 N0 O0 P0 rfl (by decide) _ _ _ rfl A1.out (O tb 0) 1 1 [.int .u8 105] (by rw[Z1.out];rfl) rfl (by decide) t0 (by intro u hu;simp at hu;subst hu;rfl) (by unfold maxLen;omega) (by omega) (by omega) ?_)|(at_builtin;rw[Y1.out];refine Jd _ rfl (.tmp 163) (.tmp 164) 44 rfl base 5 i0 (.int .u8 0) 1 1 underlying44 M0 N0 O0 P0 rfl (by decide) _ _ _ rfl A1.out (O tb 0) 1 1 [.int .u8 119] (by rw[Z1.out];rfl) rfl (by decide) t0 (by intro u hu;simp at hu;subst hu;rfl) (by unfold maxLen;omega) (by omega) (by omega) ?_))
   intro v8 W10 G0 hg z2;obtain⟨va,vc,rfl⟩:∃va vc,v8=A va (nf+1) vc:=by
    rcases G0.2 with⟨h1,h2⟩|⟨g,cp,cur,h1,_⟩
    ·omega
    exact⟨_,cp,h1⟩
   have s1:∀k,(A d8b nf k8b).ownBlock=some k->base<=k:=λk hk=>(A1.out.lt k hk).1;have z0:=hg.block Rb (by omega) (λhh=>by have:=s1 Rb hh.symm;omega);have A2:=hg.block b (by omega) (λhh=>r1.out hh.symm);have a9:=cQ z0 u9;have a8:=cQ z0 u8;have aw:=cQ A2 cw9;have az:=fQ z0 ((X1.out.frozen (p:=(O Rb 8)) (by show Rb<_;omega)).trans (H8.out.cR.z 8));have U0:Y (Zu lo base Rb Pb w0 (W10.setCell (O Rb 8) (A va (nf+1) vc)) (({m2 with am:=st+1}:Yn).app 8 (A va (nf+1) vc) [.int .u8 c9])):=by
    show Zu _ _ _ _ _ _ _;rw[y2.out];have e1:=y0.out.1;have e2:=y0.out.2.1;have e3:=y0.out.2.2.1;refine H8.out.jN 8 (by unfold Zt;omega) (by omega) X1.out ?_ ?_ ?_
    ·rw[e2,e3];exact G0
    ·rw[e1];exact hg
    rw[e1];exact z2
   clear G0 hg z2 z0 A2 u9 u8 cw9 t0 A1 X1 s1 M0 N0 O0 P0 i0 r1 Y1 Z1 H8 p9 z9 p8 z8 cw
   by_cases f0:16<=st
   ·have T1:(16:Int)<(st:Int)+1:=by omega
    have HE:Y (Xy lo base Rb Pb w0 t out (.returned (I 5)) (W10.setCell (O Rb 8) (A va (nf+1) vc))):=by
     have h5:=p0.out.1 (.inl (by rw[<-y0.out.2.2.2.2.1];exact f0));exact⟨by rw[h5];rfl,λh=>(by rw[h5]at h;cases h),λ_=>U0.out.bel⟩
    clear k0 HF p0 R0 U0 J0 y0 f0;go_wp2;go_ret;exact HE.out
   have T1:¬(16:Int)<(st:Int)+1:=(by omega);have U1:(st:Int)+1<=16:=(by omega)
   by_cases q0:3<=nf
   ·have Q2:(3:Int)<(nf:Int)+1:=by omega
    have HE:Y (Xy lo base Rb Pb w0 t out (.returned (I 5)) (W10.setCell (O Rb 8) (A va (nf+1) vc))):=by
     have h5:=p0.out.1 (.inr (by rw[<-y0.out.2.2.2.1];exact q0));exact⟨by rw[h5];rfl,λh=>(by rw[h5]at h;cases h),λ_=>U0.out.bel⟩
    clear k0 HF p0 R0 U0 J0 y0 f0 q0;go_wp2;go_ret;exact HE.out
   have Q2:¬(3:Int)<(nf:Int)+1:=(by omega);have R2:(nf:Int)+1<=3:=(by omega);have HE:Y (Xy lo base Rb Pb w0 t out (.returned (I 0)) (W10.setCell (O Rb 8) (A va (nf+1) vc))):=by
    obtain⟨v1,v2,v3,v4,v5,v6⟩:=y0.out;have h5:=p0.out.2 (by rw[<-v5];omega) (by rw[<-v4];omega);obtain⟨f1,f2⟩:=HF.out;obtain⟨f3,f4⟩:=R0.out;have eF:lnF s at_=⟨0,⟨kd9,0,at_,s.e,[],[]⟩⟩:=(by unfold lnF lnS;rw[f3,f4,z1.out]);refine⟨by rw[h5];rfl,λ_=>⟨_,fl++[⟨0,⟨kd9,0,at_,s.e,[],[]⟩⟩],U0.out,?_,?_,?_⟩,λh=>absurd (by rw[h5]) h⟩
    ·rw[h5,v6,v5,eF,z1.out,y2.out]
     first|exact k0.out.opens _ at_ s.e (by rw[<-v5];omega) (by rw[<-v4];omega) _ _ 105 rfl|exact k0.out.opens _ at_ s.e (by rw[<-v5];omega) (by rw[<-v4];omega) _ _ 119 rfl
    ·rw[h5,z1.out]
     exact yqz f1 _ at_ s.e (by rw[<-v4];omega)
    rw[h5,z1.out,Up,f2];rfl
   clear k0 HF p0 R0 U0 J0 y0 f0 q0;go_wp2;go_ret;exact HE.out
 obtain⟨⟨k,x,op,av,an,bv,bn,rfl⟩,H0⟩:=G1 h0
 have b0:(((aX.1:Nat):Int) !=0)=true:=by rw[bne_iff_ne];omega
 have t1:=ya4 HH.out.bel (Nat.le_trans b7 b6) H0;obtain⟨sb,r0⟩:=J (W1.heap.size);have Z0:=Z r0;have HE:Y (Xy lo base Rb Pb w0 t out (.returned (I (aX.1:Nat))) (W1.alloc (.cells (Zg k x op av an bv bn) 91))):=by
  have h5:=B0.out h0;exact⟨by rw[h5],λh=>absurd (h5.symm.trans h) h0,λ_=>H0.alloc t1 _⟩
 clear F1 G1 H0 t1 h0 HH E1 B0 C0 D1 c0 r0
 go_wp2_with (refine Yd 9 ?_;refine zs8 rfl (.tmp 9) (.tmp 117) rfl W1 sb (Zg k x op av an bv bn) rfl Z0.out.symm rfl (Xv _ _ _ _ _ _ _) rfl ?_)
 go_ret;exact HE.out
def zky(h:Zu lo base Rb Pb w0 w m)(hr:Zj r fl t m)(ht:t<=100000)(b off n cap:Nat)(hn:1<=n/\n<=maxLen)(hb:b<w.heap.size)(d0:b≠Rb/\∀j,Zt j->(m.v j).ownBlock≠some b)(at_:Nat)(x0:ByteArray)(k1:(x0.toList==[108,101,118,101,108])=false)(k2:(x0.toList==[98,101,108,111,119])=false)(k3:(x0.toList==[99,101,108,108])=false)(k4:(x0.toList==[99,104,97,110,110,101,108])=false)(k5:(x0.toList==[98,101,103,105,110])=false)(k6:(x0.toList==[101,108,115,101])=false)(k7:(x0.toList==[101,110,100])=false)(k8:(x0.toList==[105,102])=false)(k9:(x0.toList==[119,104,105,108,101])=false)(c0:w.cell? (O b off)=some (.string x0))(e0:r.ag=true)(aX:Nat×aa×RS)(out:Nat×RS)
  (cZ:E 32 #[F Rb,Sq b off n cap] w (zw1 lo base Rb Pb w0 w m fl t aX))
  (a0:aX.1≠0->out.1=aX.1) (aS:aX.1=0->(16<=aX.2.2.am->out.1=5)/\(aX.2.2.am<16->out=(0,aX.2.2.put (lnS aX.2.1 at_)))) (b0:aX.1=0->Xi fl aX.2.2/\bE fl=aX.2.2.am/\(aX.2.1.kind=3\/aX.2.1.kind=4)):
  E 13 #[F Rb,Sq b off n cap,I (at_:Int)] w (Xy lo base Rb Pb w0 t out):=
 zg2 h hr ht b off n cap hn hb d0 at_ x0 k1 k2 k3 k4 k5 k6 k7 c0 e0 aX out cZ a0 (λh0=>⟨(b0 h0).1,(b0 h0).2.1⟩) (λh0=> .inl ⟨k8,k9,(aS h0).1,(aS h0).2,(b0 h0).2.2⟩)
def row_if(h:Zu lo base Rb Pb w0 w m)(hr:Zj r fl t m)(ht:t<=100000)(b off n cap:Nat)(hn:1<=n/\n<=maxLen)(hb:b<w.heap.size)(d0:b≠Rb/\∀j,Zt j->(m.v j).ownBlock≠some b)(at_:Nat)(c0:w.cell? (O b off)=some (.string ⟨#[105,102]⟩))(e0:r.ag=true)(aX:Nat×aa×RS)(out:Nat×RS)
  (cZ:E 32 #[F Rb,Sq b off n cap] w (zw1 lo base Rb Pb w0 w m fl t aX))
  (a0:aX.1≠0->out.1=aX.1) (aS:aX.1=0->(16<=aX.2.2.am\/3<=aX.2.2.fr.length->out.1=5)/\(aX.2.2.am<16->aX.2.2.fr.length<3->out=(0,aX.2.2.opens 5 at_ aX.2.1.e))) (b0:aX.1=0->Xi fl aX.2.2/\bE fl=aX.2.2.am/\(aX.2.1.kind=5/\aX.2.1.x=0)):
  E 13 #[F Rb,Sq b off n cap,I (at_:Int)] w (Xy lo base Rb Pb w0 t out):=
 zg2 h hr ht b off n cap hn hb d0 at_ _ (by rw[Yw];rfl) (by rw[Yw];rfl) (by rw[Yw];rfl) (by rw[Yw];rfl) (by rw[Yw];rfl) (by rw[Yw];rfl) (by rw[Yw];rfl) c0 e0 aX out cZ a0 (λh0=>⟨(b0 h0).1,(b0 h0).2.1⟩) (λh0=> .inr ⟨5,105,.inl ⟨by rw[Yw];rfl,by rw[Yw];rfl,rfl,rfl⟩,(aS h0).1,(aS h0).2,(b0 h0).2.2⟩)
def yfy(h:Zu lo base Rb Pb w0 w m)(hr:Zj r fl t m)(ht:t<=100000)(b off n cap:Nat)(hn:1<=n/\n<=maxLen)(hb:b<w.heap.size)(d0:b≠Rb/\∀j,Zt j->(m.v j).ownBlock≠some b)(at_:Nat)(c0:w.cell? (O b off)=some (.string ⟨#[119,104,105,108,101]⟩))(e0:r.ag=true)(aX:Nat×aa×RS)(out:Nat×RS)
  (cZ:E 32 #[F Rb,Sq b off n cap] w (zw1 lo base Rb Pb w0 w m fl t aX))
  (a0:aX.1≠0->out.1=aX.1) (aS:aX.1=0->(16<=aX.2.2.am\/3<=aX.2.2.fr.length->out.1=5)/\(aX.2.2.am<16->aX.2.2.fr.length<3->out=(0,aX.2.2.opens 6 at_ aX.2.1.e))) (b0:aX.1=0->Xi fl aX.2.2/\bE fl=aX.2.2.am/\(aX.2.1.kind=6/\aX.2.1.x=0)):
  E 13 #[F Rb,Sq b off n cap,I (at_:Int)] w (Xy lo base Rb Pb w0 t out):=
 zg2 h hr ht b off n cap hn hb d0 at_ _ (by rw[Yw];rfl) (by rw[Yw];rfl) (by rw[Yw];rfl) (by rw[Yw];rfl) (by rw[Yw];rfl) (by rw[Yw];rfl) (by rw[Yw];rfl) c0 e0 aX out cZ a0 (λh0=>⟨(b0 h0).1,(b0 h0).2.1⟩) (λh0=> .inr ⟨6,119,.inr ⟨by rw[Yw];rfl,by rw[Yw];rfl,rfl,rfl⟩,(aS h0).1,(aS h0).2,(b0 h0).2.2⟩)
end
def yfx{Lq:Nat}{rb:Nat->Nat}{t:cY}(h:Yj base w Lq rb n t)(Pb a b:Nat)(hn:n<=6)(ha:a<n)(hb:b<n)(p0:w.cell? (O Pb 0)=some (I n))(p1:w.cell? (O Pb 1)=some (Sq Lq 0 n n)):
  E 64 #[F Pb,I a,I b] w (Rq (I (fW n t a b)) w):=by
 have HL:=Z h
 have s0:(n:Int)<=6:=by omega
 have t0:(a:Int)<(n:Int):=by omega
 have u0:(b:Int)<(n:Int):=by omega
 have ca:=h.c a ha;have cb:=h.c b hb;have a0:Y (fW n t a b=cG (cO n (λi j=>t j i) a b) n):=rfl;generalize fW n t a b=aX at*;clear h
 go_enter func64,ntmps64
 go_wp2_with fail
 go_loopw [7] (λi wr=>wr=w/\∃k:Nat,k<=n/\i=I k/\∀x,x<k->cO n (λi j=>t j i) a b x=false) (λi _=>n - (intOf i).toNat)
 case atStart=>exact⟨rfl,0,Nat.zero_le _,rfl,λx hx=>by omega⟩
 case round=>
  obtain⟨b0,k,hk,rfl,dt⟩:=hrel;have g0:=Z dt;rw[b0];clear dt b0 wr
  by_cases d0:k<n
  ·have k0:(k:Int)<(n:Int):=by omega
   have ck:=HL.c k d0;have x1:=HL.r k a d0 ha;have x2:=HL.r k b d0 hb;obtain⟨y1,h0⟩:∃y,y=t k a:=⟨_,rfl⟩;obtain⟨y2,i0⟩:∃y,y=t k b:=⟨_,rfl⟩;rw[<-h0]at x1;rw[<-i0]at x2;have l0:Y (Uf n (λi j=>t j i) a b k 0=(y1 && y2)):=(by show _=_;unfold Uf;simp[h0,i0]);have j0:=Z d0
   have c0:Y (∀ls:Bool,ls=(y1 && y2)->ls=Uf n (λi j=>t j i) a b k 0):=λls h=>by rw[h];exact l0.symm
   clear h0 i0;have m0:Y (∃y0,y0=(y1 && y2)):=⟨_,rfl⟩
   cases y1<;>cases y2
   all_goals
    have n0:Y _:=c0 _ rfl
    go_wp2_with fail
    go_loopw [8,9] (λls i wr=>wr=w/\∃j:Nat,j<=n/\i=I j/\ls=.bool (Uf n (λi j=>t j i) a b k j)) (λ_ i _=>n - (intOf i).toNat)
    case atStart=>exact⟨rfl,0,Nat.zero_le _,rfl,by rw[<-n0.out];rfl⟩
    case round=>
     obtain⟨b0,j,hj,rfl,rfl⟩:=hrel;rw[b0];clear b0 wr
     by_cases e0:j<n
     ·have o0:(j:Int)<(n:Int):=by omega
      have cj:=HL.c j e0;have z1:=HL.r j a e0 ha;have z2:=HL.r j b e0 hb;have z3:=HL.r j k e0 j0.out;have HS:=Z (zi3 n (λi j=>t j i) a b k j);generalize Uf n (λi j=>t j i) a b k j=lj at*;generalize t j a=u1 at*;generalize t j b=u2 at*;generalize t j k=u3 at*
      cases lj<;>cases u1<;>cases u2<;>cases u3
      all_goals
       go_wp2
       go_roundw
       case rel=>exact⟨by first|rfl|trivial,j+1,by omega,by go_num,by rw[HS.out];rfl⟩
       case measure=>simp[intOf];omega
     have o0:¬(j:Int)<(n:Int):=(by omega)
     obtain rfl:j=n:=by omega
     cases f0:Uf j (λi j=>t j i) a b k j with
     |true=>
      have HE:Y (aX=(k:Int)):=(by show _=_;rw[a0.out];exact zk6 _ _ _ j0 f0 g0);clear f0;go_wp2;go_ret;exact⟨by rw[HE.out];rfl,rfl⟩
     |false=>
      have q0:Y (∀x,x<k+1->cO j (λi j=>t j i) a b x=false):=λx hx=>by
       by_cases r0:x=k
       ·subst r0;exact f0
       exact g0 x (by omega)
      clear f0;go_wp2
      go_roundw
      case rel=>exact⟨by first|rfl|trivial,k+1,by omega,by go_num,q0⟩
      case measure=>simp[intOf];omega
  have k0:¬(k:Int)<(n:Int):=(by omega);have HE:Y (aX= -1):=(by show _=_;rw[a0.out];exact zp5 _ _ (λx hx=>g0 x (by omega)));go_wp2;go_ret;exact⟨by rw[HE.out];rfl,rfl⟩
section
variable{P:Program}{S:World->Prop}
def yfw{l:List (Nat×Oper)}{j:Nat}{b:Bool}(hg:o.guard=some (j,b))(hy:yielded ops a.tmps j=none)
  (h:Yo P ops S Q l (a.put o.dst undef) w):Yo P ops S Q ((0,o)::l) a w:=⟨undef,.inr ⟨by simp[wanted,hg,hy],rfl⟩,h⟩
end
def Yj.drew{base:Nat}{w:World}{Lq:Nat}{rb:Nat->Nat}{n:Nat}{t:cY}(h:Yj base w Lq rb n t):Yj base w.drew Lq rb n t:=⟨h.c,h.r,h.z,h.inj,h.ge⟩
section
variable{m:Yn}{fl:List FlS}
def yzw{xs:Vs}(h:w.ownsRow base e 1 v n xs)(hn:0<n):∃g cap,v=Sq g 0 n cap/\base<=g/\g<w.heap.size/\∀j u,xs[j]?=some u->w.cell? (O g j)=some u:=by
 rcases h.2 with⟨rfl,h0⟩|⟨g,cap,cur,rfl,hb,hg,_⟩
 ·omega
 refine⟨g,cap,rfl,hb,(Array.getElem?_eq_some_iff.1 hg).1,λj u hu=>?_⟩;have h1:=h.cells rfl j u hu
 have h2:((O g 0):Addr).add j=(O g j):=by unfold Addr.add;split<;>simp_all
 rw[h2]at h1;exact h1
def Zu.ints(h:Zu lo base Rb Pb w0 w m)(j:Nat)(hj:Zt j)(xs:List Nat)(hr:m.n j=xs.length/\m.xs j=Ym xs)(hz:rSz j=1)(h0:0<xs.length):∃g c,m.v j=Sq g 0 xs.length c/\g<w.heap.size/\∀i (hi:i<xs.length),w.cell? (O g i)=some (I (xs[i]:Nat)):=by
 have ho:=h.own j hj;rw[hr.1,hr.2,hz]at ho;obtain⟨g,c,h1,h2,h3,h4⟩:=yzw ho h0;exact⟨g,c,h1,h3,λi hi=>h4 i _ (by simp[Ym,hi])⟩
def ys7(h:Zu lo base Rb Pb w0 w m)(hr:yxw r t m)(ht:t<=1000000):
  E 52 #[F Rb] w (zo4 lo base Rb Pb w0 m r.au.length r.tab (bp r.au.length r.tab)):=by
 obtain⟨b1,b2,b3,b4,b5,b6,b7⟩:=h.bU;obtain⟨d1,k1,L0⟩:=h.shape 1 (by unfold Zt;omega);obtain⟨d5,k5,u0⟩:=h.shape 5 (by unfold Zt;omega);obtain⟨d6,k6,A0⟩:=h.shape 6 (by unfold Zt;omega);rw[hr.r1.1]at L0;rw[hr.r5.1]at u0;rw[hr.r6.1,<-hr.pr]at A0;have g0:Y (r.tab=fw r.au.length (eL r.aE r.aI)):=rfl;obtain⟨n,hn⟩:=J (r.au.length)
 have M0:n<=6:=by rw[hn];exact hr.lv
 obtain⟨W2,N0⟩:=J (w.setCell (O Pb 0) (I (n:Int)))
 have H2:Y (Zu lo base Rb Pb w0 W2 {m with N:=n}):=by show Zu _ _ _ _ _ _ _;rw[N0];exact h.nI n
 obtain⟨z,hz⟩:=J (W2.heap.size)
 have W1:base<=z:=by rw[hz];exact H2.bU.2.2.2.2.2.1
 obtain⟨aE,c0⟩:=J (r.aE);obtain⟨aI,a0⟩:=J (r.aI);rw[<-c0]at u0 A0
 have X1:aE.length<=1000000:=by rw[c0];have:=hr.lw;omega
 have F0:Y (aE.length=aI.length):=by show _=_;rw[c0,a0];exact hr.pr
 have Z0:Y (∀i (hi:i<aE.length),aE[i]<n):=by rw[c0,hn];exact λi hi=>hr.bw.1 _ (getElem_mem hi)
 have a1:Y (∀i (hi:i<aI.length),aI[i]<n):=by rw[a0,hn];exact λi hi=>hr.bw.2 _ (getElem_mem hi)
 have HA:Y (∀W,Below z W2 W->M W Rb 0 (F Pb)/\M W Rb 5 (A d5 aE.length k5)/\M W Rb 6 (A d6 aE.length k6)):=λW hW=>by
  rw[hz]at hW;have h1:=(H2.below hW).cR.c;exact⟨h1 0 (by omega),by rw[<-u0];exact h1 5 (by omega),by rw[<-A0];exact h1 6 (by omega)⟩
 have e1:Y (0<aE.length->∃g5 g6,d5=some (O g5 0)/\d6=some (O g6 0)/\∀W,Below z W2 W->∀i (hi:i<aE.length) (hi':i<aI.length),M W g5 i (I (aE[i]:Nat))/\M W g6 i (I (aI[i]:Nat))):=λh0=>by
  obtain⟨g5,c5,e5,l5,q5⟩:=H2.ints 5 (by unfold Zt;omega) aE (by rw[c0];exact hr.r5) rfl h0;obtain⟨g6,c6,e6,l6,q6⟩:=H2.ints 6 (by unfold Zt;omega) aI (by rw[a0];exact hr.r6) rfl (by rw[<-F0.out];exact h0);have e5':=e5;have e6':=e6;rw[u0]at e5';rw[A0]at e6';injection e5' with e5a;injection e6' with e6a;refine⟨g5,g6,e5a,e6a,λW hW i hi hi'=>⟨?_,?_⟩⟩
  ·exact(cT hW (by rw[hz];exact l5) (q5 i hi))
  exact(cT hW (by rw[hz];exact l6) (q6 i hi'))
 have x0:M w Rb 0 (F Pb):=h.cR.c 0 (by omega)
 have x1:w.cell? (O Rb 1)=some (A d1 n k1):=by rw[hn,<-L0];exact h.cR.c 1 (by omega)
 obtain⟨v0,p0⟩:∃v,M w Pb 0 v:=⟨_,h.cP.c 0 (by omega)⟩;have z0:w.frozen? (O Pb 0)=false:=h.cP.z 0;have q1:Y (∀W,(Instr.makeSlice 51 (I n) (I n)).run prog W=.ok (Sq W.heap.size 0 n n) (W.alloc (.cells (Vx n K).toArray 106))):=λW=>yf9 W n M0;have s1:Y (∀W,(Instr.makeSlice 106 (I n) (I n)).run prog W=.ok (Sq W.heap.size 0 n n) (W.alloc (.cells (Vx n (.bool false)).toArray 4))):=λW=>yf8 W n M0;rw[<-hn]at g0⊢;rw[<-c0,<-a0]at g0;obtain⟨T,hT⟩:=J (r.tab);rw[<-hT]at g0⊢
 have t1:(n:Int)<=6:=by omega
 have Y1:(aE.length:Int)<=1000000:=by omega
 have f1:=Z M0;have HZ:=Z hz;have u1:=Z N0;clear h hr hn N0 hz c0 a0 hT L0 u0 A0
 go_enter func52,ntmps52
 go_wp2_with fail
 rw[q1.out,<-u1.out,<-HZ.out];clear x0 x1 p0 z0;obtain⟨W3,G0⟩:=J (W2.alloc (.cells (Vx n K).toArray 106))
 have y1:Y (Below z W2 W3):=by show Below _ _ _;rw[G0];exact(Below.refl _ _).alloc (by rw[HZ.out];exact Nat.le_refl _) _
 have z1:Y (zt2 z W3 z (λ_=>0) n 0):=by show zt2 _ _ _ _ _ _;have h1:=zt2.ag W2 n z (by rw[HZ.out];exact Nat.le_refl _) (λ_=>0);rw[G0];rw[<-HZ.out]at h1;exact h1
 rw[<-G0];clear G0
 go_wp2_with fail
 go_loopw [5] (λi wr=>∃(k:Nat) (rb:Nat->Nat),k<=n/\i=I k/\Below z W2 wr/\zt2 z wr z rb n k) (λi _=>n - (intOf i).toNat)
 case atStart=>exact⟨0,_,Nat.zero_le _,rfl,y1,z1⟩
 case round=>
  obtain⟨k,rb,hk,rfl,hB,hQ⟩:=hrel;have HB:=Z hB;have HQ:=Z hQ;have H0:=hQ.ge.2.1;clear hB hQ
  by_cases b0:k<n
  ·have A1:(k:Int)<(n:Int):=by omega
   have q0:=HQ.o k lE b0;have f0:=HQ.zL k;obtain⟨Wa,o0⟩:=J (wr.alloc (.cells (Vx n (.bool false)).toArray 4));obtain⟨nb,hnb⟩:=J (wr.heap.size);have O0:Y (D wr Wa):=(by show Below _ _ _;rw[o0];exact bA);have qa:=cT O0 H0 q0;have fa:=(O0.frozen (p:=(O z k)) H0).trans f0;have qb:Wa.cell? (O nb k)=some (.bool false):=by
    have hc:=(Ze.new wr (Vx n (.bool false)) 4).c k (by simp[Vx];exact b0);rw[o0,hnb,hc];simp[rw_,Vx,b0]
   have fb:Wa.frozen? (O nb k)=false:=(by rw[o0,hnb];exact(Ze.new wr (Vx n (.bool false)) 4).z k);have Z1:z<nb:=(by rw[hnb];exact H0);have d0:Y (zt2 z ((Wa.setCell (O z k) (Sq nb 0 n n)).setCell (O nb k) (.bool true)) z (λa=>if a=k then nb else rb a) n (k+1)):=(by show zt2 _ _ _ _ _ _;rw[o0,hnb];exact HQ.next b0);have k0:Y (Below z W2 ((Wa.setCell (O z k) (Sq nb 0 n n)).setCell (O nb k) (.bool true))):=((HB.trans (O0.mono (by omega))).setCell lE _).setCell (by show z<=nb;omega) _;have B1:=Z o0;have P0:=Z hnb;clear q0 f0 o0 hnb
   go_wp2_with fail
   rw[s1.out,<-B1.out,<-P0.out];go_wp2
   go_roundw
   case rel=>exact⟨k+1,_,by omega,by go_num,k0,d0⟩
   case measure=>simp[intOf];omega
  have A1:¬(k:Int)<(n:Int):=(by omega)
  obtain rfl:k=n:=by omega
  have r0:=Z HQ.all;clear HQ H0
  go_wp2_with fail
  obtain⟨wo,C1⟩:=J (wr);subst C1;have D1:=t1
  go_loopw [6] (λi wr=>∃p:Nat,p<=aE.length/\i=I p/\Below z W2 wr/\Yj z wr z rb k (eL (aE.take p) (aI.take p))) (λi _=>aE.length - (intOf i).toNat)
  case atStart=>exact⟨0,Nat.zero_le _,rfl,HB,r0⟩
  case round=>
   obtain⟨p,hp,rfl,hB,hQ⟩:=hrel;clear HB r0;have HB:=Z hB;have HQ:=Z hQ;clear hB hQ;obtain⟨y0,y5,y6⟩:=HA wr HB.out
   by_cases b0:p<aE.length
   ·have E1:(p:Int)<(aE.length:Int):=by omega
    have I0:p<aI.length:=(by rw[<-F0.out];exact b0);obtain⟨g5,g6,e5,e6,hg⟩:=e1 (by omega);have c56:=hg wr.drew HB.drew p b0 I0;rw[e5]at y5;rw[e6]at y6;have s0:=Z0 p b0;have Q0:=a1 p I0;have d0:=Z (HQ.drew.pair F0 b0 I0 s0 Q0);have k0:Y (Below z W2 (wr.drew.setCell ⟨rb aE[p],aI[p],none⟩ (.bool true))):=HB.drew.setCell (HQ.ge.2 _ s0).1 _;have cL:=HQ.drew.c _ s0;obtain⟨vr,cR⟩:∃v,wr.drew.cell? ⟨rb aE[p],aI[p],none⟩=some v:=⟨_,HQ.drew.r _ _ s0 Q0⟩;have fR:wr.drew.frozen? ⟨rb aE[p],aI[p],none⟩=false:=HQ.drew.z _ _ s0;have y5':=y5;have y6':=y6;have cl1:=c56.1;have ch1:=c56.2;obtain⟨la,j0⟩:=J (aE[p]);obtain⟨hb,i1⟩:=J (aI[p]);rw[<-j0]at cl1 cL cR fR d0 k0 s0;rw[<-i1]at ch1 cR fR d0 k0 Q0;have F1:(la:Int)<(k:Int):=(by omega);have G1:(hb:Int)<(k:Int):=(by omega);clear c56 hg j0 i1 e5 e6 y0 I0
    go_wp2_with fail
    refine Zd (λW=>M W Rb 5 (Sq g5 0 aE.length k5)/\M W Rb 6 (Sq g6 0 aE.length k6)/\M W g5 p (I (la:Nat))/\M W g6 p (I (hb:Nat))/\M W z la (Sq (rb la) 0 k k)) [] [18] [] ⟨y5',y6',cl1,ch1,cL⟩ (by kernel_rfl) (λ_ _ _ _ h=>h) (λops hG=>?_);clear hG y5 y6 y5' y6' cl1 ch1 cL
    iterate 18 refine Zv rfl (by intros;go_simp<;>rfl) (by go_simp<;>rfl) ?_
    refine Xx ?_
    go_wp2_with fail
    refine Zs ?_;go_wp2
    go_roundw
    case rel=>exact⟨p+1,by omega,by go_num,k0,d0⟩
    case measure=>simp[intOf];omega
   have E1:¬(p:Int)<(aE.length:Int):=(by omega)
   obtain rfl:p=aE.length:=by omega
   have r0:Y (Yj z wr z rb k (fw 0 (eL aE aI))):=(by show Yj _ _ _ _ _ _;have h1:=HQ.out;rw[take_length,F0.out,take_length]at h1;exact h1);clear HQ
   go_wp2_with fail
   clear y5 y6 y0;obtain⟨T0,j1⟩:=J (eL aE aI);rw[<-j1]at g0 r0;clear j1 e1 Z0 a1;obtain⟨wo2,R0⟩:∃wo,wo=wr:=⟨_,rfl⟩;subst R0
   go_loopw [7] (λi wr=>∃s:Nat,s<=k/\i=I s/\Below z W2 wr/\Yj z wr z rb k (fw s T0)) (λi _=>k - (intOf i).toNat)
   case atStart=>exact⟨0,Nat.zero_le _,rfl,HB,r0⟩
   case round=>
    obtain⟨s,hs,rfl,hB,hQ⟩:=hrel;clear HB r0;have HB:=Z hB;have HQ:=Z hQ;clear hB hQ
    by_cases b0:s<k
    ·have H1:(s:Int)<(k:Int):=by omega
     have l1:Y (Yj z wr z rb k (mixTab s (fw s T0) 0 0)):=HQ.md;clear HQ
     go_wp2_with fail
     obtain⟨wo3,S0⟩:∃wo,wo=wr:=⟨_,rfl⟩;subst S0
     go_loopw [8] (λi wr=>∃x:Nat,x<=k/\i=I x/\Below z W2 wr/\Yj z wr z rb k (mixTab s (fw s T0) x 0)) (λi _=>k - (intOf i).toNat)
     case atStart=>exact⟨0,Nat.zero_le _,rfl,HB,l1⟩
     case round=>
      obtain⟨x,hx,rfl,hB,hQ⟩:=hrel;clear HB l1;have HB:=Z hB;have HM:=Z hQ;clear hB hQ
      by_cases t0:x<k
      ·have I1:(x:Int)<(k:Int):=by omega
       go_wp2_with fail
       obtain⟨wo4,U0⟩:∃wo,wo=wr:=⟨_,rfl⟩;subst U0
       go_loopw [9] (λi wr=>∃y:Nat,y<=k/\i=I y/\Below z W2 wr/\Yj z wr z rb k (mixTab s (fw s T0) x y)) (λi _=>k - (intOf i).toNat)
       case atStart=>exact⟨0,Nat.zero_le _,rfl,HB,HM⟩
       case round=>
        obtain⟨y,hy,rfl,hB,hQ⟩:=hrel;clear HB HM;have HB:=Z hB;have HM:=Z hQ;clear hB hQ
        by_cases V0:y<k
        ·have J1:(y:Int)<(k:Int):=by omega
         have d0:=Z (HM.drew.mix t0 V0);have k0:Y (∀v,Below z W2 (wr.drew.setCell (O (rb x) y) v)):=λv=>HB.drew.setCell (HM.ge.2 _ t0).1 _;have cx:=HM.drew.c _ t0;have cs:=HM.drew.c _ b0;have r1:=HM.drew.r _ _ t0 V0;have r2:=HM.drew.r _ _ t0 b0;have r3:=HM.drew.r _ _ b0 V0;have fz:wr.drew.frozen? (O (rb x) y)=false:=HM.drew.z _ _ t0;generalize mixTab s (fw s T0) x y x y=c1 at*;generalize mixTab s (fw s T0) x y x s=c2 at*;generalize mixTab s (fw s T0) x y s y=c3 at*;clear HM
         cases c1 with
         |true=>
          have d0:=Z d0.out
          go_wp2_with fail
          refine Zd (λW=>M W z x (Sq (rb x) 0 k k)/\M W z s (Sq (rb s) 0 k k)/\M W (rb x) y (.bool true)/\M W (rb x) s (.bool c2)/\M W (rb s) y (.bool c3)) [] [31] [(12,98),(20,106)] ⟨cx,cs,r1,r2,r3⟩ (by kernel_rfl) (λ_ _ _ _ h=>h) (λops ⟨g1,g2,_⟩=>?_);clear cx cs r2 r3
          iterate 13 refine Zv rfl (by intros;go_simp<;>rfl) (by go_simp<;>rfl) ?_
          iterate 8
           refine Un rfl (c:=true) (by simp[yielded,g1,put]) (by decide) ?_
          iterate 7
           refine yfw rfl (by simp[yielded,g2,put,undef]) ?_
          iterate 1
           refine Un rfl (c:=true) (by simp[yielded,g1,put]) (by decide) ?_
          iterate 2 refine Zv rfl (by intros;go_simp<;>rfl) (by go_simp<;>rfl) ?_
          clear g1 g2;refine Xx ?_
          go_wp2_with fail
          refine Zs ?_;go_wp2
          go_roundw
          case rel=>exact⟨y+1,by omega,by go_num,k0 _,d0⟩
          case measure=>simp[intOf];omega
         |false=>
          cases c2 with
          |false=>
           have d0:=Z d0.out
           go_wp2_with fail
           refine Zd (λW=>M W z x (Sq (rb x) 0 k k)/\M W z s (Sq (rb s) 0 k k)/\M W (rb x) y (.bool false)/\M W (rb x) s (.bool false)/\M W (rb s) y (.bool c3)) [] [31] [(12,98),(20,106)] ⟨cx,cs,r1,r2,r3⟩ (by kernel_rfl) (λ_ _ _ _ h=>h) (λops ⟨g1,g2,_⟩=>?_);clear cx cs r2 r3
           iterate 21 refine Zv (by first|rfl|simp[wanted,yielded,g1,put]) (by intros;go_simp<;>rfl) (by go_simp<;>rfl) ?_
           iterate 7
            refine Un rfl (c:=false) (by simp[yielded,g2,put]) (by decide) ?_
           iterate 3 refine Zv (by first|rfl|simp[wanted,yielded,g1,put]) (by intros;go_simp<;>rfl) (by go_simp<;>rfl) ?_
           clear g1 g2;refine Xx ?_
           go_wp2_with fail
           refine Zs ?_;go_wp2
           go_roundw
           case rel=>exact⟨y+1,by omega,by go_num,k0 _,d0⟩
           case measure=>simp[intOf];omega
          |true=>
           have d0:=Z d0.out
           go_wp2_with fail
           refine Zd (λW=>M W z x (Sq (rb x) 0 k k)/\M W z s (Sq (rb s) 0 k k)/\M W (rb x) y (.bool false)/\M W (rb x) s (.bool true)/\M W (rb s) y (.bool c3)) [] [31] [(12,98),(20,106)] ⟨cx,cs,r1,r2,r3⟩ (by kernel_rfl) (λ_ _ _ _ h=>h) (λops ⟨g1,g2,_⟩=>?_);clear cx cs r2 r3
           iterate 31 refine Zv (by first|rfl|simp[wanted,yielded,g1,g2,put]) (by intros;go_simp<;>rfl) (by go_simp<;>rfl) ?_
           clear g1 g2;refine Xx ?_
           go_wp2_with fail
           refine Zs ?_;go_wp2
           go_roundw
           case rel=>exact⟨y+1,by omega,by go_num,k0 _,d0⟩
           case measure=>simp[intOf];omega
        have J1:¬(y:Int)<(k:Int):=(by omega)
        obtain rfl:y=k:=by omega
        have W0:=Z HM.mF;clear HM;go_wp2
        go_roundw
        case rel=>exact⟨x+1,by omega,by go_num,HB,W0⟩
        case measure=>simp[intOf];omega
      have I1:¬(x:Int)<(k:Int):=(by omega)
      obtain rfl:x=k:=by omega
      have W0:=Z HM.mD;clear HM;go_wp2
      go_roundw
      case rel=>exact⟨s+1,by omega,by go_num,HB,W0⟩
      case measure=>simp[intOf];omega
    have H1:¬(s:Int)<(k:Int):=(by omega)
    obtain rfl:s=k:=by omega
    rw[<-g0.out]at HQ;obtain⟨y0,y5,y6⟩:=HA wr HB.out;have J0:Y (Zu lo base Rb Pb w0 wr {m with N:=s}):=by
     have h1:=HB.out;rw[HZ.out]at h1;exact H2.below h1
    obtain⟨v1,p1⟩:∃v,M wr Pb 1 v:=⟨_,J0.cP.c 1 (by omega)⟩;have pz:=J0.cP.z 1;have i0:Y (Zu lo base Rb Pb w0 (wr.setCell (O Pb 1) (Sq z 0 s s)) {m with N:=s,leq:=Sq z 0 s s}):=J0.mC _;have e0:Y (Yj z (wr.setCell (O Pb 1) (Sq z 0 s s)) z rb s T):=HQ.kept (λb hb _=>Zx _ _ _ _ _ (by omega));clear HQ y5 y6 J0 HB
    go_wp2_with fail
    obtain⟨W5,m1⟩:=J (wr.setCell (O Pb 1) (Sq z 0 s s));rw[<-m1]at i0 e0⊢;clear m1 p1 pz y0;obtain⟨wo5,X0⟩:∃wo,wo=wr:=⟨_,rfl⟩;subst X0;have y0:=i0.cR.c 0 (by omega);have p0:=i0.cP.c 0 (by omega);have p1:=i0.cP.c 1 (by omega)
    have l0:Y (∀v:Bool,v=bp s T->zo4 lo base Rb Pb w0 m s T (bp s T) (.returned (.bool v)) W5):=λv hv=>by
     rw[<-hv];refine⟨rfl,_,_,λb=>0<s/\(b=z\/∃i,i<s/\b=rb i),W5,{i0.out with kp:=λb hb=>?_},rfl,z,rb,rfl,⟨e0.c,e0.r,e0.z,e0.inj,Nat.zero_le _,λi hi=>⟨Nat.zero_le _,(e0.ge.2 i hi).2⟩⟩,λh0=>⟨h0,.inl rfl⟩,λi hi=>⟨by omega,.inr ⟨i,hi,rfl⟩⟩⟩;have b0:=e0.lt hb.1;have K1:z<=b/\b<W5.heap.size:=by
      rcases hb.2 with rfl|⟨i,hi,rfl⟩
      ·exact⟨lE,b0.1⟩
      exact⟨(e0.ge.2 i hi).1,b0.2 i hi⟩
     refine⟨by omega,K1.2,rfl,λj hj hh=>?_⟩;have:=((H2.own j hj).lt b hh).2;have:=HZ.out;omega
    have HJ:Y (∀a b,a<s->b<s->E 41 #[F Pb,I a,I b] W5 (Rq (I (join s T a b)) W5)):=λa b ha hb=>yz9 e0 Pb a b f1 ha hb p0 p1;have L1:Y (∀a b,a<s->b<s->E 64 #[F Pb,I a,I b] W5 (Rq (I (fW s T a b)) W5)):=λa b ha hb=>yfx e0 Pb a b f1 ha hb p0 p1;clear p0 p1
    go_loopw [10] (λi wr=>wr=W5/\∃a:Nat,a<=s/\i=I a/\∀i j,i<a->j<s->bR s T i j=true) (λi _=>s - (intOf i).toNat)
    case atStart=>exact⟨rfl,0,Nat.zero_le _,rfl,λi j hi=>by omega⟩
    case round=>
     obtain⟨B0,a,ha,rfl,C0⟩:=hrel;have n1:=Z C0;rw[B0];clear C0 B0 wr
     by_cases j0:a<s
     ·have M1:(a:Int)<(s:Int):=by omega
      go_wp2_with fail
      go_loopw [11] (λi wr=>wr=W5/\∃b:Nat,b<=s/\i=I b/\∀j,j<b->bR s T a j=true) (λi _=>s - (intOf i).toNat)
      case atStart=>exact⟨rfl,0,Nat.zero_le _,rfl,λj hj=>by omega⟩
      case round=>
       obtain⟨B0,b,hb,rfl,C0⟩:=hrel;have D0:=Z C0;rw[B0];clear C0 B0 wr
       by_cases hlb:b<s
       ·have N1:(b:Int)<(s:Int):=by omega
        have ca:=e0.c a j0;have cb:=e0.c b hlb;have ta:=e0.r a b j0 hlb;have tb:=e0.r b a hlb j0
        by_cases m0:a≠b/\T a b=true/\T b a=true
        ·obtain⟨h1,h2,h3⟩:=m0
         have bne:((a:Int) !=(b:Int))=true:=(by rw[bne_iff_ne];omega);rw[h2]at ta;rw[h3]at tb;have HE:=l0 false (lattice_bad j0 hlb (pair_both h1 h2 h3)).symm;clear h1 h2 h3;go_wp2;go_ret;exact HE
        have Y0:Y (a=b\/T a b=false\/T b a=false):=by
         show _\/_\/_
         by_cases h1:a=b
         ·exact .inl h1
         cases h2:T a b with
         |false=>exact .inr (.inl rfl)
         |true=>cases h3:T b a with
          |false=>exact .inr (.inr rfl)
          |true=>exact absurd ⟨h1,h2,h3⟩ m0
        have O1:=Z (HJ a b j0 hlb);have P1:=Z (L1 a b j0 hlb);have Q1:Y (0<=join s T a b->0<=fW s T a b->bR s T a b=true):=pair_good Y0.out;have o1:Y (join s T a b<0\/fW s T a b<0->false=bp s T):=λh=>(lattice_bad j0 hlb (pair_none h)).symm;generalize join s T a b=ja at*;generalize fW s T a b=mb at*;have HD:Y (a=b\/(a≠b/\T a b=false)\/(a≠b/\T a b=true/\T b a=false)):=by
         show _\/_\/_;rcases Y0.out with h1|h1|h1
         ·exact .inl h1
         ·by_cases h2:a=b
          ·exact .inl h2
          exact .inr (.inl ⟨h2,h1⟩)
         by_cases h2:a=b
         ·exact .inl h2
         cases h3:T a b with
         |false=>exact .inr (.inl ⟨h2,rfl⟩)
         |true=>exact .inr (.inr ⟨h2,rfl,h1⟩)
        clear m0 Y0;rcases HD.out with h1|⟨h1,h2⟩|⟨h1,h2,h3⟩
        all_goals first
         |have bne:((a:Int) !=(b:Int))=true:=by rw[bne_iff_ne];omega
          rw[h2]at ta;rw[h3]at tb;clear h1 h2 h3
         |have bne:((a:Int) !=(b:Int))=true:=by rw[bne_iff_ne];omega
          rw[h2]at ta;clear h1 h2 tb
         |have beq:((a:Int) !=(b:Int))=false:=by simp[h1]
          clear h1 ta tb
        all_goals
         go_wp2_with fail
         refine O1.mono ?_;rintro e w1 ⟨rfl,E0⟩;rw[E0];clear E0 w1
         go_wp2_with fail
         refine P1.mono ?_;rintro e w1 ⟨rfl,E0⟩;rw[E0];clear E0 w1
         by_cases hj:ja<0
         ·have HE:=l0 false (o1 (.inl hj))
          go_wp2;go_ret;exact HE
         have R1:0<=ja:=(by omega);clear hj
         by_cases hj:mb<0
         ·have HE:=l0 false (o1 (.inr hj))
          go_wp2;go_ret;exact HE
         have S1:0<=mb:=(by omega)
         have n0:Y (∀j,j<b+1->bR s T a j=true):=λj hj=>by
          by_cases T1:j=b
          ·rw[T1];exact Q1 R1 S1
          exact D0 j (by omega)
         clear hj;go_wp2
         go_roundw
         case rel=>exact⟨by first|rfl|trivial,b+1,by omega,by go_num,n0⟩
         case measure=>simp[intOf];omega
       have N1:¬(b:Int)<(s:Int):=(by omega)
       have n0:Y (∀i j,i<a+1->j<s->bR s T i j=true):=λi j hi hj=>by
        by_cases U1:i=a
        ·rw[U1];exact D0 j (by omega)
        exact n1 i j (by omega) hj
       go_wp2
       go_roundw
       case rel=>exact⟨by first|rfl|trivial,a+1,by omega,by go_num,n0⟩
       case measure=>simp[intOf];omega
     have M1:¬(a:Int)<(s:Int):=(by omega);have HE:=l0 (decide (0<s)) (lattice_good (λi j hi hj=>n1 i j (by omega) hj)).symm;have K0:=Z HE;clear HE
     by_cases h0:0<s
     ·have V1:(0:Int)<(s:Int):=by omega
      rw[decide_eq_true h0]at K0;go_wp2;go_ret;exact K0
     have V1:¬(0:Int)<(s:Int):=(by omega);rw[decide_eq_false h0]at K0;go_wp2;go_ret;exact K0
end
def yo9{nv nc:Nat}:∀{d:Nat} {fs:List Fl.Frame},iu nv nc d fs->∀f∈fs,(f.kind=5\/(f.kind=6/\f.cU=false))/\(f.cU=false->f.fu=[])
 |_,[],_,f,hf=>(by cases hf)
 |d,g::gs,h,f,hf=>by
  rcases mem_cons.1 hf with rfl|h1
  ·exact⟨h.1.kd,h.1.no⟩
  exact yo9 h.2 f h1
section
variable{m:Yn}{fl:List FlS}
def fS{n:L}{x:Nat}{r':RS}(h:r.bu n=some (x,r')):r'.bK=r.bK/\r'.fr=r.fr/\r'.am=r.am:=by
 unfold RS.bu at h
 split at h
 ·injection h with h;injection h with h1 h2;subst h2;exact⟨rfl,rfl,rfl⟩
 split at h
 ·injection h with h;injection h with h1 h2;subst h2;exact⟨rfl,rfl,rfl⟩
 split at h
 ·cases h
 injection h with h;injection h with h1 h2;subst h2;exact⟨rfl,rfl,rfl⟩
def yoz(kd:Nat)(k a:L)(hk:(if k==ig then 5 else 6)=kd)(at_:Nat):((zxy r kd a).1≠0->(r.bh at_ [k,a]).1=(zxy r kd a).1)/\
  ((zxy r kd a).1=0->(zxy r kd a).2.2=r/\((zxy r kd a).2.1.kind=kd/\(zxy r kd a).2.1.x=0)/\(16<=r.am\/3<=r.fr.length->(r.bh at_ [k,a]).1=5)/\(r.am<16->r.fr.length<3->r.bh at_ [k,a]=(0,r.opens kd at_ (zxy r kd a).2.1.e))):=by
 have e1:r.bh at_ [k,a]=match r.value [a] with|none=>(4,r)|some e=>if 16<=r.am\/3<=r.fr.length then(5,r) else(0,r.opens (if k==ig then 5 else 6) at_ e):=rfl;have e2:zxy r kd a=match r.value [a] with|none=>(4,noS,r)|some e=>(0,⟨kd,0,0,e,[],[]⟩,r):=rfl;rw[e1,e2];generalize r.value [a]=o
 cases o with
 |none=>exact⟨λ_=>rfl,λh=>(by cases h)⟩
 |some e=>
  refine⟨λh=>absurd rfl h,λ_=>⟨rfl,⟨rfl,rfl⟩,λh=>?_,λh1 h2=>?_⟩⟩
  ·show (if 16<=r.am\/3<=r.fr.length then(5,r) else _).1=5
   rw[G h]
  show (if 16<=r.am\/3<=r.fr.length then(5,r) else _)=_;rw[U (show ¬(16<=r.am\/3<=r.fr.length) by omega),hk]
def ya6(n a:L)(at_:Nat):((zx9 r n a).1≠0->(r.bh at_ [eH,n,a]).1=(zx9 r n a).1)/\
  ((zx9 r n a).1=0->(zx9 r n a).2.2=r/\((zx9 r n a).2.1.kind=3\/(zx9 r n a).2.1.kind=4)/\(16<=r.am->(r.bh at_ [eH,n,a]).1=5)/\(r.am<16->r.bh at_ [eH,n,a]=(0,r.put (lnS (zx9 r n a).2.1 at_)))):=by
 have e1:r.bh at_ [eH,n,a]=match r.value [a] with|none=>(4,r)|some e=>if aj r.ai n<0 then(4,r) else if 16<=r.am then(5,r) else(0,r.put ⟨4,(aj r.ai n).toNat,at_,e,[],[]⟩):=rfl;have e2:zx9 r n a=match r.value [a] with|none=>(4,noS,r)|some e=>if aj r.ai n<0 then(4,noS,r) else(0,⟨4,(aj r.ai n).toNat,0,e,[],[]⟩,r):=rfl;rw[e1,e2];generalize r.value [a]=o
 cases o with
 |none=>exact⟨λ_=>rfl,λh=>(by cases h)⟩
 |some e=>
  by_cases hc:aj r.ai n<0
  ·simp only[G hc]
   exact⟨λ_=>trivial,λh=>(by cases h)⟩
  simp only[U hc];refine⟨λh=>absurd rfl h,λ_=>⟨trivial,.inr trivial,λh=>?_,λh=>?_⟩⟩
  ·rw[G h]
  rw[U (show ¬16<=r.am by omega)];rfl
def ys8(n x:L)(v:List L)(at_:Nat):((Va r n (x::v)).1≠0->(r.bh at_ (eP::n::x::v)).1=(Va r n (x::v)).1)/\
  ((Va r n (x::v)).1=0->((Va r n (x::v)).2.2.bK=r.bK/\(Va r n (x::v)).2.2.fr=r.fr/\(Va r n (x::v)).2.2.am=r.am)/\((Va r n (x::v)).2.1.kind=3\/(Va r n (x::v)).2.1.kind=4)/\(16<=r.am->(r.bh at_ (eP::n::x::v)).1=5)/\(r.am<16->r.bh at_ (eP::n::x::v)=(0,(Va r n (x::v)).2.2.put (lnS (Va r n (x::v)).2.1 at_)))):=by
 have e1:r.bh at_ (eP::n::x::v)=match r.value (x::v) with|none=>(4,r)|some e=>if 0<=aj r.ai n then(4,r) else match r.bu n with|none=>(5,r)|some (y,r')=>if 16<=r.am then(5,r) else(0,r'.put ⟨3,y,at_,e,[],[]⟩):=rfl;have e2:Va r n (x::v)=match r.value (x::v) with|none=>(4,noS,r)|some e=>if 0<=aj r.ai n then(4,noS,r) else match r.bu n with|none=>(5,noS,r)|some (y,r')=>(0,⟨3,y,0,e,[],[]⟩,r'):=rfl;rw[e1,e2];generalize r.value (x::v)=o
 cases o with
 |none=>exact⟨λ_=>rfl,λh=>(by cases h)⟩
 |some e=>
  by_cases hc:0<=aj r.ai n
  ·simp only[G hc]
   exact⟨λ_=>trivial,λh=>(by cases h)⟩
  simp only[U hc];have a0:∀p,r.bu n=some p->p.2.bK=r.bK/\p.2.fr=r.fr/\p.2.am=r.am:=λp hp=>fS hp;generalize r.bu n=o at*
  cases o with
  |none=>exact⟨λ_=>rfl,λh=>(by cases h)⟩
  |some p=>
   obtain⟨y,r'⟩:=p;refine⟨λh=>absurd rfl h,λ_=>⟨a0 _ rfl,.inl rfl,λh=>?_,λh=>?_⟩⟩
   ·show (if 16<=r.am then(5,r) else _).1=5
    rw[G h]
   show (if 16<=r.am then(5,r) else _)=_;rw[U (show ¬16<=r.am by omega)];rfl
def ya7(h:Zu lo base Rb Pb w0 w m)(hr:Zj r fl t m)(d0:Xi fl r)(e0:bE fl=r.am)(j0:r.eV)(ht:t<=100000)(v:Value)(ws:List L)(hw:Zi w.heap.size w v ws)(n0:∀b off k c,v=Sq b off k c->b≠Rb/\∀j,Zt j->(m.v j).ownBlock≠some b)(hl:aq ws=true)(at_:Nat):
  E 13 #[F Rb,v,I (at_:Int)] w (Xy lo base Rb Pb w0 t (r.row ws at_)):=by
 have m0:∀(W:World) (m:Yn) (r:RS),Zu lo base Rb Pb w0 W m->yxw r t m->E 52 #[F Rb] W (zo4 lo base Rb Pb w0 m r.au.length r.tab (bp r.au.length r.tab)):=λW m r h hr=>ys7 h hr (by omega);have hW:=hw;obtain⟨ao,cap,hv,k0,l0,t0,hx,f0⟩:=hw
 have o0:ws≠[]:=by intro h0;subst h0;simp[aq]at hl
 obtain⟨b,off,s0,hb,a0⟩:=f0 o0;subst s0;have g0:=n0 b off ws.length cap hv
 have aL:1<=ws.length:=by cases ws with|nil=>exact absurd rfl o0|cons _ _=>simp
 have c0:=a0 0 (by omega);have p0:(⟨(ws.getD 0 []).toArray⟩:ByteArray).toList=ws.getD 0 []:=Yw _;have i0:1<=ws.length/\ws.length<=maxLen:=⟨aL,by omega⟩
 by_cases hh:cH (ws.getD 0 [])=r.ag
 ·have e:r.row ws at_=(3,r):=by unfold RS.row;rw[G hh]
  rw[e,hv];exact row_bad h hr b off _ cap _ _ i0 c0 (by rw[p0];exact hh)
 by_cases hd:cH (ws.getD 0 [])=true
 ·have e:r.row ws at_=r.head ws:=by unfold RS.row;rw[U hh,G hd]
  have b0:r.ag=false:=by cases hg:r.ag with|false=>rfl|true=>rw[hd,hg]at hh;exact absurd rfl hh
  have q0:=ya0 m0 h hr b0 (by omega) v ws hW n0 hl hd;rw[e];rw[hv]at q0⊢;exact ya1 h hr d0 e0 b off _ cap _ _ ws i0 c0 (by rw[p0];exact hd) b0 q0
 have e:r.row ws at_=r.bh at_ ws:=by unfold RS.row;rw[U hh,U hd]
 have b0:r.ag=true:=by
  cases hg:r.ag with
  |true=>rfl
  |false=>
   have:cH (ws.getD 0 [])=false:=by cases h9:cH (ws.getD 0 []) with|false=>rfl|true=>exact absurd h9 hd
   rw[this,hg]at hh;exact absurd rfl hh
 rw[e];clear e hh hW;subst hv;have r0:=yo9 j0.nt
 match ws,hl,hd with
 |[a],hl,hd=>
  have e:a=dO\/a=gv:=by
   simp[aq,cH]at hl hd;rcases hl with(h1|h1)|h1
   ·exact absurd h1 (by intro h2;subst h2;simp[ct,bY,cV,bz,cJ]at hd)
   ·exact .inl h1
   exact .inr h1
  rcases e with e|e
  ·subst e
   exact ya3 h hr d0 e0 r0 ht b off cap _ (a0 0 (by simp)) b0 at_
  subst e;exact row_end h hr d0 e0 r0 ht b off cap _ (a0 0 (by simp)) b0 at_
 |[k,a],hl,hd=>
  have e:k=ig\/k=ei:=by
   simp[aq,cH]at hl hd;rcases hl with h1|⟨h1|h1,_⟩
   ·exact absurd h1.1 (by intro h2;subst h2;simp[ct]at hd)
   ·exact .inl h1
   exact .inr h1
  rcases e with e|e
  ·subst e
   obtain⟨s1,s2⟩:=yoz 5 ig a rfl at_;exact row_if h hr ht b off 2 cap ⟨by omega,i0.2⟩ hb g0 at_ (a0 0 (by simp)) b0 (zxy r 5 a) _ (st_if h hr b off cap a (hx a (by simp)) hb ⟨k0,l0⟩ (a0 0 (by simp)) (a0 1 (by simp))) s1 (λh0=>by rw[(s2 h0).1];exact⟨(s2 h0).2.2.1,(s2 h0).2.2.2⟩) (λh0=>by rw[(s2 h0).1];exact⟨d0,e0,(s2 h0).2.1⟩)
  subst e;obtain⟨s1,s2⟩:=yoz 6 ei a rfl at_;exact yfy h hr ht b off 2 cap ⟨by omega,i0.2⟩ hb g0 at_ (a0 0 (by simp)) b0 (zxy r 6 a) _ (ya2 h hr b off cap a (hx a (by simp)) hb ⟨k0,l0⟩ (a0 0 (by simp)) (a0 1 (by simp))) s1 (λh0=>by rw[(s2 h0).1];exact⟨(s2 h0).2.2.1,(s2 h0).2.2.2⟩) (λh0=>by rw[(s2 h0).1];exact⟨d0,e0,(s2 h0).2.1⟩)
 |[k,n,a],hl,hd=>
  have e:k=eH\/k=eP:=by
   simp[aq,cH]at hl hd;rcases hl with⟨⟨h1,_⟩,_⟩|⟨⟨h1|h1,_⟩,_⟩
   ·rcases h1 with(h1|h1)|h1
    ·exact absurd h1 (by intro h2;subst h2;simp[ct,bY]at hd)
    ·exact absurd h1 (by intro h2;subst h2;simp[ct,bY,cV]at hd)
    exact absurd h1 (by intro h2;subst h2;simp[ct,bY,cV,bz]at hd)
   ·exact .inl h1
   exact .inr h1
  rcases e with e|e
  ·subst e
   obtain⟨s1,s2⟩:=ya6 n a at_;refine zky h hr ht b off 3 cap ⟨by omega,i0.2⟩ hb g0 at_ ⟨eH.toArray⟩ ?_ ?_ ?_ ?_ ?_ ?_ ?_ ?_ ?_ (a0 0 (by simp)) b0 (zx9 r n a) _ (st_out h hr b off cap n a (hx a (by simp)) hb ⟨k0,l0⟩ (a0 0 (by simp)) (a0 1 (by simp)) (a0 2 (by simp))) s1 (λh0=>by rw[(s2 h0).1];exact⟨(s2 h0).2.2.1,(s2 h0).2.2.2⟩) (λh0=>by rw[(s2 h0).1];exact⟨d0,e0,(s2 h0).2.1⟩)
   all_goals (rw[Yw];rfl)
  subst e;obtain⟨s1,s2⟩:=ys8 n a [] at_;refine zky h hr ht b off 3 cap ⟨by omega,i0.2⟩ hb g0 at_ ⟨eP.toArray⟩ ?_ ?_ ?_ ?_ ?_ ?_ ?_ ?_ ?_ (a0 0 (by simp)) b0 (Va r n [a]) _ (st_set3 h hr b off cap n a (hx a (by simp)) (hx n (by simp)) hb g0 ⟨k0,l0⟩ (a0 0 (by simp)) (a0 1 (by simp)) (a0 2 (by simp))) s1 (λh0=>by rw[(s2 h0).1.2.2];exact⟨(s2 h0).2.2.1,(s2 h0).2.2.2⟩) (λh0=>by rw[(s2 h0).1.2.2];exact⟨d0.same (s2 h0).1.1 (s2 h0).1.2.1,e0,(s2 h0).2.1⟩)
  all_goals (rw[Yw];rfl)
 |[_,_,_,_],hl,hd=>simp[aq]at hl
 |[k,n,a,o,b2],hl,hd=>
  have e:k=eP:=by
   simp[aq,cH]at hl hd;exact hl.1.1.1.1
  subst e;obtain⟨s1,s2⟩:=ys8 n a [o,b2] at_;refine zky h hr ht b off 5 cap ⟨by omega,i0.2⟩ hb g0 at_ ⟨eP.toArray⟩ ?_ ?_ ?_ ?_ ?_ ?_ ?_ ?_ ?_ (a0 0 (by simp)) b0 (Va r n [a,o,b2]) _ (st_set5 h hr b off cap n a o b2 (hx a (by simp)) (hx b2 (by simp)) (hx n (by simp)) hb g0 ⟨k0,l0⟩ (a0 0 (by simp)) (a0 1 (by simp)) (a0 2 (by simp)) (a0 3 (by simp)) (a0 4 (by simp))) s1 (λh0=>by rw[(s2 h0).1.2.2];exact⟨(s2 h0).2.2.1,(s2 h0).2.2.2⟩) (λh0=>by rw[(s2 h0).1.2.2];exact⟨d0.same (s2 h0).1.1 (s2 h0).1.2.1,e0,(s2 h0).2.1⟩)
  all_goals (rw[Yw];rfl)
 |_::_::_::_::_::_::_,hl,hd=>simp[aq]at hl
end
def yoy(c:UInt8)(s:L)(W:World)(hs:s.length<=50000):E 11 #[Tq s,.int .u8 c.toNat] W λe w'=>∃g cap,e=.returned (Sq g 0 (aK c s).length cap)/\W.heap.size<=g/\Zi w'.heap.size w' (Sq g 0 (aK c s).length cap) (aK c s)/\D W w':=by
 refine(yd4 ⟨s.toArray⟩ c W (by show s.toArray.size<=100000;simp;omega)).mono ?_;rintro e w' ⟨v,rfl,ho,hb⟩
 have e1:cut c (⟨s.toArray⟩:ByteArray).data.toList=aK c s:=by rw[<-kG]
 rw[e1]at ho;obtain⟨h1,h2⟩:=zn7 c s;have a0:=length_pos_iff.2 (dU c s);obtain⟨g,cap,rfl,hg,hz,-⟩:=yzw ho a0;exact⟨g,cap,rfl,hg,Zi.dp ho (by omega) (λx hx=>by have:=h2 x hx;omega),hb⟩
def zg3(v:Value)(ws:List L)(W:World)(hw:Zi W.heap.size W v ws)(a0:ws≠[]):E 12 #[v] W (Rw (.bool (aq ws)) W):=by
 have h:=ybx v (ws.map λl=>(⟨l.toArray⟩:ByteArray)) W hw.nX (by intro h;exact a0 (map_eq_nil_iff.1 h));rw[bl_mk]at h;exact h
def zw2(f:FlS):(Zp f).length=10:=by unfold Zp;split<;>rfl
def yzv:∀(fl:List FlS) (k j:Nat),k<fl.length->j<10->(Jn fl)[k*10+j]?=some ((Zp (fl.getD k Xq)).getD j undef)
 |[],k,j,hk,hj=>by simp at hk
 |f::fl,0,j,hk,hj=>by
  have e:Jn (f::fl)=Zp f++Jn fl:=rfl;rw[e,getElem?_append_left (by rw[zw2];omega)];have h1:0*10+j<(Zp f).length:=(by rw[zw2];omega);have h2:j<(Zp f).length:=(by rw[zw2];omega);simp[Qa,h2]
 |f::fl,k+1,j,hk,hj=>by
  have e:Jn (f::fl)=Zp f++Jn fl:=rfl;rw[e,getElem?_append_right (by rw[zw2];omega),zw2,show (k+1)*10+j - 10=k*10+j by omega,yzv fl k j (by simp at hk;omega) hj];simp[Qa]
def zp4.dp{fl:List FlS}(h:w.ownsRow base 91 10 v fl.length (Jn fl))(hl:fl.length<=100000):zp4 w v fl:=by
 rcases h.2 with⟨h1,h2⟩|⟨g,cap,cur,h1,hb,hg,hc,hm,hs,ht⟩
 ·exact⟨none,0,by rw[h1,h2],by omega,by decide,hl,λa0=>absurd (Qi h2) a0⟩
 refine⟨_,cap,h1,hc,hm,hl,λa0=>⟨g,rfl,(h.lt g (by rw[h1];rfl)).2,λk hk j hj=>?_⟩⟩;have h5:=h.cells (by rw[h1];rfl) (k*10+j) _ (yzv fl k j hk hj)
 have h6:((O g 0):Addr).add (k*10+j)=(O g (k*10+j)):=by unfold Addr.add;split<;>simp_all
 rw[h6]at h5;exact h5
def zj7:Array Value:=#[I 0,K,K,K,I 0,K]
def rdZ(Pb:Nat):Array Value:=#[F Pb,K,K,K,K,K,K,.bool false,K,I 0,K]
def m00(W:World):Yn:=⟨λ_=>0,λ_=>[],λ_=> K,false,0,0,K,0,K,λ_=>False,W⟩
def zkx(W:World):World:=(W.alloc (.cells zj7 54)).alloc (.cells (rdZ W.heap.size) 56)
def yfv(W:World):(zkx W).heap.size=W.heap.size+2:=by simp[zkx]
def yj8(W:World):D W (zkx W):=(bA).alloc (by simp) _
def Zu.start(W:World):Zu W.heap.size (W.heap.size+2) (W.heap.size+1) W.heap.size W (zkx W) (m00 W):=by
 have e1:(W.alloc (.cells zj7 54)).heap.size=W.heap.size+1:=by simp
 refine{bel:=yj8 W,bU:=⟨by omega,by omega,by omega,by omega,by omega,by rw[yfv];omega,by omega⟩,cR:= ?_,cP:= ?_,own:=λj _=>⟨(Nat.zero_mul (rSz j)).symm,.inl ⟨rfl,rfl⟩⟩,ij:=λi j b _ _ _ h=>(by cases h),kp:=λ_ h=>h.elim}
 ·have h:=Ze.new (W.alloc (.cells zj7 54)) (rdZ W.heap.size).toList 56
  rw[e1]at h;refine h.congr (λj hj=>?_);have hj':j<11:=hj;rcases(show j=0\/j=1\/j=2\/j=3\/j=4\/j=5\/j=6\/j=7\/j=8\/j=9\/j=10 by omega) with rfl|rfl|rfl|rfl|rfl|rfl|rfl|rfl|rfl|rfl|rfl<;>rfl
 have h:=(Ze.new W zj7.toList 54).block (w':=zkx W) (Below.heap_alloc _ _ _ (by simp));refine h.congr (λj hj=>?_);have hj':j<6:=hj;rcases(show j=0\/j=1\/j=2\/j=3\/j=4\/j=5 by omega) with rfl|rfl|rfl|rfl|rfl|rfl<;>rfl
def Zj.start(W:World):Zj RS.zero [] 0 (m00 W):=
 {r1:=⟨rfl,rfl⟩,r2:=⟨rfl,rfl⟩,r3:=⟨rfl,rfl⟩,r4:=⟨rfl,rfl⟩,r5:=⟨rfl,rfl⟩,r6:=⟨rfl,rfl⟩,r8:=⟨rfl,rfl⟩,fX:=⟨rfl,rfl⟩,iS:=⟨rfl,rfl⟩,jx:=⟨rfl,rfl⟩,bg:=rfl,st:=rfl,nm:=λx hx=>(by cases hx),lv:=by decide,ce:=by decide,ch:=by decide,lo:=by decide,sm:=by decide,fr:=by decide,lw:=by decide,ft:=by decide,pr:=rfl,bw:=⟨λx hx=>(by cases hx),λx hx=>(by cases hx)⟩,cl:=rfl,hl:=rfl,lt:=λh=>(by cases h)}
def RTab(w:World)(a b cv hv:Value)(p:aY):Prop:=
 a=I p.n/\∃Lq rb,b=Sq Lq 0 p.n p.n/\Yj 0 w Lq rb p.n p.leq/\Zw w.heap.size w cv (p.cells.map λ(y:Nat)=>(y:Int))/\Zw w.heap.size w hv (p.ai.map λ(y:Nat)=>(y:Int))
def ys9{xs:List Nat}(h:w.ownsRow base e 1 v xs.length (Ym xs))(hk:∀b,base<=b->b<w.heap.size->w'.heap[b]?=w.heap[b]?):Zw w'.heap.size w' v (xs.map λ(y:Nat)=>(y:Int)):=by
 refine Zw.dp (e:=e) (base:=base) (n:=xs.length) ?_;rw[map_map];exact Yy h (λb hb=>hk b (h.lt b hb).1 (h.lt b hb).2)
def Zu.table{m:Yn}{fl:List FlS}(h:Zu lo base Rb Pb w0 wr m)(hr:Zj r fl t m)(hb:r.ag=true)(hk:∀b,base<=b->b<wr.heap.size->w'.heap[b]?=wr.heap[b]?)(hz:wr.heap.size<=w'.heap.size):RTab w' (I (m.N:Nat)) m.leq (m.v 12) (m.v 13) r.prog:=by
 obtain⟨hN,Lq,rb,h1,h2,h3,h4⟩:=hr.lt hb;have hq:∀b,m.fY b->w'.heap[b]?=m.wk.heap[b]?:=λb hb=>have k:=h.kp b hb;(hk b k.1 k.2.1).trans k.2.2.1;have o12:=h.own 12 (by unfold Zt;omega);have o13:=h.own 13 (by unfold Zt;omega);rw[hr.iS.1,hr.iS.2]at o12;rw[hr.jx.1,hr.jx.2]at o13;exact⟨by rw[hN];rfl,Lq,rb,h1,h2.ng (λh0=>hq _ (h3 h0)) (λi hi=>hq _ (h4 i hi)),ys9 o12 hk,ys9 o13 hk⟩
def Xc(aX:Nat×Nat×aY)(w:World)(e:Ending)(w':World):Prop:=
 D w w'/\(aX.1≠0->e=.returned (.tuple #[.pointer none,I (aX.1:Nat),I (aX.2.1:Nat)]))/\
 (aX.1=0->∃(Pb:Nat) (a b cS bv:Value) (ca:Option Addr) (cc:Nat),e=.returned (.tuple #[F Pb,I 0,I 0])/\w.heap.size<=Pb/\Pb<w'.heap.size/\Ze w' Pb 6 (rw_ [a,b,A ca aX.2.2.cells.length cc,cS,I (aX.2.2.ap:Nat),bv])/\Zh 4 (λb=>w.heap.size<=b/\b<w'.heap.size) w' bv aX.2.2.aZ/\RTab w' a b (A ca aX.2.2.cells.length cc) cS aX.2.2)
structure zy3(W1:World)(Wz:List L)(k:Nat)(wr:World)(m:Yn)(fl:List FlS)(r:RS):Prop where
 at_:Zu W1.heap.size (W1.heap.size+2) (W1.heap.size+1) W1.heap.size W1 wr m
 kS:Zj r fl k m
 om:Xi fl r
 ol:bE fl=r.am
 oe:r.eV
 oX:k<Wz.length
 nz:rows RS.zero 0 Wz=rows r k (Wz.drop k)
def zy3.start(W1:World)(Wz:List L)(h:0<Wz.length):zy3 W1 Wz 0 (zkx W1) (m00 W1) [] RS.zero:=⟨Zu.start W1,Zj.start W1,flatR0,rfl,kA,h,rfl⟩
section
variable{W1:World}{Wz:List L}{k:Nat}{m:Yn}{fl:List FlS}
def zg4(hk:k+1<Wz.length):Wz.drop k=Wz[k]::Wz[k+1]::Wz.drop (k+2):=by
 rw[drop_eq_getElem_cons (by omega),drop_eq_getElem_cons hk]
def zy3.mX(h:zy3 W1 Wz k wr m fl r)(hk:k+1<Wz.length)(hl:aq (aK 32 Wz[k])=false):rows RS.zero 0 Wz=(2,k+1,r):=by
 rw[h.nz,zg4 hk,rows,G hl]
def zy3.mB(h:zy3 W1 Wz k wr m fl r)(hk:k+1<Wz.length)(hl:aq (aK 32 Wz[k])=true)(he:(r.row (aK 32 Wz[k]) (k+1)).1≠0):rows RS.zero 0 Wz=((r.row (aK 32 Wz[k]) (k+1)).1,k+1,r):=by
 rw[h.nz,zg4 hk,rows,U (by rw[hl];decide),G he]
def zy3.next(h:zy3 W1 Wz k wr m fl r)(hk:k+1<Wz.length)(hl:aq (aK 32 Wz[k])=true)(he:(r.row (aK 32 Wz[k]) (k+1)).1=0){m':Yn}{fl':List FlS}(h1:Zu W1.heap.size (W1.heap.size+2) (W1.heap.size+1) W1.heap.size W1 w' m')(h2:Zj (r.row (aK 32 Wz[k]) (k+1)).2 fl' (k+1) m')(h3:Xi fl' (r.row (aK 32 Wz[k]) (k+1)).2)(h4:bE fl'=(r.row (aK 32 Wz[k]) (k+1)).2.am):zy3 W1 Wz (k+1) w' m' fl' (r.row (aK 32 Wz[k]) (k+1)).2:=by
 refine⟨h1,h2,h3,h4,h.oe.lx _ _ he,hk,?_⟩;rw[h.nz,zg4 hk,rows,U (by rw[hl];decide),U (by rw[he];decide),drop_eq_getElem_cons hk]
def zg5(hk:k+1=Wz.length):Wz.drop k=[Wz[k]]:=by
 rw[drop_eq_getElem_cons (by omega),drop_of_length_le (by omega)]
def zy3.last(h:zy3 W1 Wz k wr m fl r)(hk:k+1=Wz.length)(hx:¬(Wz[k]=[]/\0<k)):rows RS.zero 0 Wz=(2,k+1,r):=by
 rw[h.nz,zg5 hk,rows,U hx]
def zy3.open_(h:zy3 W1 Wz k wr m fl r)(hk:k+1=Wz.length)(hx:Wz[k]=[]/\0<k)(ho:¬(r.ag=true/\r.fr=[])):rows RS.zero 0 Wz=(3,k+1,r):=by
 rw[h.nz,zg5 hk,rows,G hx,U ho]
def zy3.done(h:zy3 W1 Wz k wr m fl r)(hk:k+1=Wz.length)(hx:Wz[k]=[]/\0<k)(ho:r.ag=true/\r.fr=[]):rows RS.zero 0 Wz=(0,0,r):=by
 rw[h.nz,zg5 hk,rows,G hx,G ho]
end
def yy0(s:L)(w:World)(hs:s.length<=40000):E 4 #[Tq s] w (Xc (ab s) w):=by
 have I1:(s.length:Int)<=40000:=by omega
 by_cases i0:1200<s.length
 ·have p1:(1200:Int)<(s.length:Int):=by omega
  have HE:Y (Xc (ab s) w (.returned (.tuple #[.pointer none,I 1,I 0])) w):=by
   have e:ab s=(1,0,RS.zero.prog):=(by unfold ab;rw[G i0]);show Xc _ _ _ _;rw[e];exact⟨Below.refl _ _,λ_=>rfl,λh=>(by cases h)⟩
  go_enter func4,ntmps4
  go_wp2;refine bodyPost_ret (v:=.tuple #[.pointer none,I 1,I 0]) (by simp[results,results4,go_sem]) rfl ?_;exact HE
 have p1:¬(1200:Int)<(s.length:Int):=by omega
 have q1:(s.length:Int)<=1200:=by omega
 obtain⟨Wz,hL⟩:=J (aK 10 s);have F0:Y (E 11 #[Tq s,.int .u8 10] w λe w'=>∃g cap,e=.returned (Sq g 0 Wz.length cap)/\w.heap.size<=g/\Zi w'.heap.size w' (Sq g 0 Wz.length cap) Wz/\D w w'):=by
  have h:=yoy 10 s w (by omega);rw[<-hL]at h;exact h
 have G0:Y (∀(x:L) (W:World),x.length<=1200->E 11 #[Tq x,.int .u8 32] W λe w'=>∃g cap,e=.returned (Sq g 0 (aK 32 x).length cap)/\W.heap.size<=g/\Zi w'.heap.size w' (Sq g 0 (aK 32 x).length cap) (aK 32 x)/\D W w'):=λx W hx=>yoy 32 x W (by omega)
 have d0:Y (ab s=((rows RS.zero 0 Wz).1,(rows RS.zero 0 Wz).2.1,(rows RS.zero 0 Wz).2.2.prog)):=by show _=_;rw[hL];unfold ab;rw[U i0]
 have l0:Y (Wz.length<=1201/\∀x∈Wz,x.length<=1200):=by rw[hL];have:=zn7 10 s;exact⟨by omega,λx hx=>by have:=this.2 x hx;omega⟩
 have r1:0<Wz.length:=by rw[hL];exact length_pos_iff.2 (dU 10 s)
 have J1:(Wz.length:Int)<=1201:=by have:=l0.1;omega
 obtain⟨aX,H0⟩:=J (ab s);rw[<-H0]at d0⊢;clear H0 hL i0
 go_enter func4,ntmps4
 go_wp2_with fail
 refine F0.mono ?_;rintro e W1 ⟨g,cap,rfl,s1,g0,Z0⟩;have m0:=Z Z0;have K1:=Z g0
 have a1:Y (∀W,D W1 W->∀i,(hi:i<Wz.length)->W.cell? (O g i)=some (.string ⟨(Wz[i]).toArray⟩)):=λW hW i hi=>by
  obtain⟨ao,c,h1,h2,h3,h4,h5,h6⟩:=g0;simp only[slice.injEq]at h1;obtain⟨b,off,e,hb,hc⟩:=h6 (by intro h;rw[h]at hi;simp at hi);rw[<-h1.1]at e;simp only[Ql,Addr.mk.injEq]at e;obtain⟨rfl,rfl,-⟩:=e;have h7:=hc i hi;rw[Nat.zero_add]at h7;rw[hW.cell hb,h7,Qa,Qb hi];rfl
 clear s1 g0 Z0 F0
 go_wp2_with (first|(refine Ux rfl 54 _ rfl zj7 (by kernel_rfl) ?_)|(refine Ux rfl 56 _ rfl (rdZ W1.heap.size) (by kernel_rfl) ?_))
 have R0:=Z (zy3.start W1 Wz r1);have b1:(W1.alloc (.cells zj7 54)).alloc (.cells (rdZ W1.heap.size) 56)=zkx W1:=rfl;rw[b1];clear b1;obtain⟨W2,c1⟩:=J (zkx W1);rw[<-c1]at R0⊢;clear c1
 go_loopw [8,9] (λn i wr=>∃(k:Nat) (m:Yn) (fl:List FlS) (r:RS),n=I k/\i=I k/\zy3 W1 Wz k wr m fl r) (λ_ i _=>Wz.length - (intOf i).toNat)
 case atStart=>exact⟨0,_,_,_,rfl,rfl,R0⟩
 case round=>
  obtain⟨k,m,fl,r,rfl,rfl,hI⟩:=hrel;clear R0;have HI:=Z hI;have hk:=hI.oX;have L1:(k:Int)<(Wz.length:Int):=(by omega);have d1:=Z hI.at_.bel;have M1:=hI.at_.bU.2.2.2.2.2.1;have cx:wr.cell? (O g k)=some (.string ⟨(Wz[k]).toArray⟩):=a1 wr hI.at_.bel k hk;obtain⟨x,hx⟩:=J (Wz[k]);rw[<-hx]at cx;have t1:Y (x.length<=1200):=(by show _<=_;rw[hx];exact l0.2 _ (getElem_mem hk));have HX:=Z hx;have I0:Y (∀W,D wr W->D w W):=λW hW=>m0.trans ((d1.trans (hW.mono (by omega))).mono m0.size);obtain⟨xb,J0⟩:=J (α:=ByteArray) (⟨x.toArray⟩)
  have K0:Y (∀W,E 11 #[.string xb,.int .u8 32] W λe w'=>∃g cap,e=.returned (Sq g 0 (aK 32 x).length cap)/\W.heap.size<=g/\Zi w'.heap.size w' (Sq g 0 (aK 32 x).length cap) (aK 32 x)/\D W w'):=λW=>by rw[J0];exact G0 x W t1.out
  have f1:xb.toList=x:=(by rw[J0];exact Yw x);rw[<-J0]at cx;have g1:=Z f1;have n0:=Z J0;clear hI hx J0 f1 G0 a1
  by_cases j0:k+1=Wz.length
  ·have bl:((k:Int)==(Wz.length:Int) - 1)=true:=by simp;omega
   by_cases C0:x=[]/\0<k
   ·have cx2:wr.cell? (O g k)=some (.string ⟨#[]⟩):=by rw[cx,n0.out,C0.1]
    have i1:(0:Int)<(k:Int):=(by omega);have S0:Y (Wz[k]=[]/\0<k):=(by rw[<-HX.out];exact C0);have y7:wr.cell? (O (W1.heap.size+1) 7)=some (.bool r.ag):=(by rw[<-HI.kS.bg];exact HI.at_.cR.c 7 (by omega));obtain⟨d8,k8,T0⟩:=HI.at_.shape 8 (by unfold Zt;omega);rw[HI.kS.r8.1]at T0;have y8:wr.cell? (O (W1.heap.size+1) 8)=some (A d8 r.fr.length k8):=(by rw[<-T0];exact HI.at_.cR.c 8 (by omega));have u1:(r.fr.length:Int)<=3:=(by have:=HI.kS.fr;omega);clear cx C0 T0 K0 g1 n0 HX
    by_cases a0:r.ag=true/\r.fr=[]
    ·rw[a0.1]at y7
     rw[a0.2]at y8;have HD:=Z a0;have c0:Y (rows RS.zero 0 Wz=(0,0,r)):=HI.done j0 S0 a0;obtain⟨d4,k4,U0⟩:=HI.at_.shape 4 (by unfold Zt;omega);rw[HI.kS.r4.1]at U0;obtain⟨d10,k10,o0⟩:=HI.at_.shape 10 (by unfold Zt;omega);rw[HI.kS.fX.1]at o0;obtain⟨dc,kc,V0⟩:=HI.at_.shape 12 (by unfold Zt;omega);rw[HI.kS.iS.1]at V0;have v1:(r.ap.length:Int)<=4:=(by have:=HI.kS.lo;omega);have e0:wr.drew.cell? (O (W1.heap.size+1) 0)=some (F W1.heap.size):=HI.at_.cR.c 0 (by omega);have e4:wr.drew.cell? (O (W1.heap.size+1) 4)=some (A d4 r.ap.length k4):=(by rw[<-U0];exact HI.at_.cR.c 4 (by omega));have e10:wr.drew.cell? (O (W1.heap.size+1) 10)=some (A d10 fl.length k10):=(by rw[<-o0];exact HI.at_.cR.c 10 (by omega));obtain⟨vp4,q4⟩:∃v,wr.drew.cell? (O W1.heap.size 4)=some v:=⟨_,HI.at_.cP.c 4 (by omega)⟩;have f4:wr.drew.frozen? (O W1.heap.size 4)=false:=HI.at_.cP.z 4;obtain⟨W4,p0⟩:=J ((wr.setCell (O W1.heap.size 4) (I (r.ap.length:Int))).drew);have j1:W4.heap.size=wr.heap.size:=(by rw[p0];exact Zy _ _ _);have L0:Y (Ze W4 W1.heap.size 6 (λi=>if i=4 then I (r.ap.length:Int) else rpC m i)):=by
      show Ze _ _ _ _;rw[p0];exact Ze.set (w:=wr.drew) (HI.at_.drew.cP) (by omega) _
     have y1:Y (W4.cell? (O (W1.heap.size+1) 0)=some (F W1.heap.size)):=by
      show _=_;rw[p0];exact(cQ (Zx wr.drew _ _ _ _ (by show W1.heap.size+1≠W1.heap.size;omega)) e0)
     have g10:W4.cell? (O (W1.heap.size+1) 10)=some (A d10 fl.length k10):=by
      rw[p0];exact(cQ (Zx wr.drew _ _ _ _ (by show W1.heap.size+1≠W1.heap.size;omega)) e10)
     have k1:Y (zp4 W4 (A d10 fl.length k10) fl):=by
      have ho:=HI.at_.drew.own 10 (by unfold Zt;omega);rw[o0,HI.kS.fX.1,HI.kS.fX.2]at ho;refine zp4.dp (base:=W1.heap.size+2) ?_ (by have:=HI.kS.ft;have:=l0.1;omega);rw[p0];exact Yy ho (λb hb=>Zx wr.drew _ _ _ _ (by have:=(ho.lt b hb).1;omega))
     have s0:Y (E 14 #[A d10 fl.length k10,I 0] W4 (zu5 4 W4 (0+fl.length) r.bK)):=by
      obtain⟨a,b,h1,h2,h3⟩:=HI.om;rw[a0.2]at h3;have h4:b=[]:=h3;rw[h4,append_nil]at h1;rw[<-h1]at h2;exact ybw 4 fl (A d10 fl.length k10) (by rw[HI.ol];exact HI.kS.sm) W4 0 fl r.bK [] k1 (by omega) (by simp) h2 (.inl rfl)
     have P0:=Z p0.symm
     have z1:Y (∀b,W1.heap.size+2<=b->W4.heap[b]?=wr.heap[b]?):=λb hb=>by rw[p0];exact Zx wr _ _ _ _ (by omega)
     have l1:=Z j1;have y0:Y (D w W4):=by
      show Below _ _ _;rw[p0];exact((I0 _ (Below.refl _ _)).setCell m0.size _).drew
     have W0:=Z V0;have A1:W1.heap.size+2<=W4.heap.size:=(by omega);clear U0 o0 V0 a0 p0 k1 j1;simp only[length_nil]at y8
     go_wp2_with fail
     refine Zd (λW=>W.cell? (O (W1.heap.size+1) 0)=some (F W1.heap.size)/\W.cell? (O (W1.heap.size+1) 4)=some (A d4 r.ap.length k4)) [9] [11] [] ⟨e0,e4⟩ (by kernel_rfl) (λ_ _ _ _ h=>h) (λops hG=>?_);clear hG
     iterate 9 refine Zv rfl (by intros;go_simp<;>rfl) (by go_simp<;>rfl) ?_
     refine Zm ?_
     go_wp2_with fail
     refine⟨⟨e0,e4⟩,?_⟩;refine Zv rfl (by rintro _ -;go_simp<;>rfl) (by go_simp<;>rfl) ?_;refine Xx ?_
     go_wp2_with fail
     refine Zs ?_;rw[P0.out];clear P0 e0 e4 e10 q4 f4 y7 y8 cx2
     go_wp2_with fail
     refine s0.mono ?_;rintro e W5 ⟨D0,oa,on,oc,rfl,M0⟩;have N1:W4.heap.size<=W5.heap.size:=D0.size;have u0:W5.cell? (O (W1.heap.size+1) 0)=some (F W1.heap.size):=cT D0 (by show W1.heap.size+1<_;omega) y1.out;have q0:Ze W5 W1.heap.size 6 (λi=>if i=4 then I (r.ap.length:Int) else rpC m i):=L0.block (D0.block _ (by omega));obtain⟨v5,u5⟩:∃v,W5.cell? (O W1.heap.size 5)=some v:=⟨_,q0.c 5 (by omega)⟩;have uz:W5.frozen? (O W1.heap.size 5)=false:=q0.z 5;have HE:Y (Xc aX w (.returned (.tuple #[F W1.heap.size,I 0,I 0])) (W5.setCell (O W1.heap.size 5) (A oa on oc))):=by
      have e9:=d0.out;rw[c0.out]at e9;show Xc _ _ _ _;rw[e9];refine⟨(y0.trans (D0.mono y0.size)).setCell m0.size _,λh=>absurd rfl h,λ_=>⟨W1.heap.size,I m.N,m.leq,m.v 13,A oa on oc,dc,kc,rfl,m0.size,by rw[Zy];omega,?_,?_,?_⟩⟩
      ·refine(q0.set (j:=5) (by omega) (A oa on oc)).congr (λj hj=>?_)
       rcases(show j=0\/j=1\/j=2\/j=3\/j=4\/j=5 by omega) with rfl|rfl|rfl|rfl|rfl|rfl
       ·rfl
       ·rfl
       ·exact W0
       ·rfl
       ·rfl
       rfl
      ·exact Zh.kept (λb hb=>⟨by have:=m0.size;omega,by rw[Zy];exact hb.2⟩) (λb hb=>Zx _ _ _ _ _ (by omega)) 4 _ _ M0
      have h9:=HI.at_.table HI.kS HD.1 (w':=W5.setCell (O W1.heap.size 5) (A oa on oc)) (λb h1 h2=>(Zx _ _ _ _ _ (by omega)).trans ((D0.block b (by have:=l1.out;omega)).trans (z1 b h1))) (by rw[Zy];have:=l1.out;omega);rw[W0.out]at h9;exact h9
     clear D0 M0 q0 s0 c0 d0 HI L0 y0 W0;go_wp2;refine bodyPost_ret (v:=.tuple #[F W1.heap.size,I 0,I 0]) (by simp[results,results4,go_sem]) rfl ?_;exact HE
    have c0:Y (rows RS.zero 0 Wz=(3,k+1,r)):=HI.open_ j0 S0 a0;have HE:Y (Xc aX w (.returned (.tuple #[.pointer none,I 3,I ((k:Int)+1)])) wr):=by
     have e9:=d0.out;rw[c0.out]at e9;show Xc _ _ _ _;rw[e9];exact⟨I0 _ (Below.refl _ _),λ_=>rfl,λh=>(by cases h)⟩
    clear c0 d0 HI I0 S0 d1 m0
    cases N0:r.ag with
    |false=>
     rw[N0]at y7;clear a0 N0;go_wp2;refine bodyPost_ret (v:=.tuple #[.pointer none,I 3,I ((k:Int)+1)]) (by simp[results,results4,go_sem]) rfl ?_;exact HE
    |true=>
     rw[N0]at y7;have O1:0<r.fr.length:=length_pos_iff.2 (λh=>a0 ⟨N0,h⟩);have B1:(0:Int)<(r.fr.length:Int):=(by omega);clear a0 N0;go_wp2;refine bodyPost_ret (v:=.tuple #[.pointer none,I 3,I ((k:Int)+1)]) (by simp[results,results4,go_sem]) rfl ?_;exact HE
   have c0:Y (rows RS.zero 0 Wz=(2,k+1,r)):=HI.last j0 (by rw[<-HX.out];exact C0)
   have m1:Y (∀W,D wr W->Xc aX w (.returned (.tuple #[.pointer none,I 2,I ((k:Int)+1)])) W):=λW hW=>by
    have e9:=d0.out;rw[c0.out]at e9;rw[e9];exact⟨I0 W hW,λ_=>rfl,λh=>(by cases h)⟩
   have C1:Y (x=[]->k=0):=λh=>by
    by_cases h0:0<k
    ·exact absurd ⟨h,h0⟩ C0
    omega
   clear C0
   cases E0:x with
   |nil=>
    have i1:=C1 E0;have cx2:wr.cell? (O g k)=some (.string ⟨#[]⟩):=(by rw[cx,n0.out,E0])
    have X0:Y (∀W,E 11 #[.string ⟨#[]⟩,.int .u8 32] W λe w'=>∃g cap,e=.returned (Sq g 0 (aK 32 x).length cap)/\W.heap.size<=g/\Zi w'.heap.size w' (Sq g 0 (aK 32 x).length cap) (aK 32 x)/\D W w'):=λW=>by have h:=K0 W;rw[n0.out]at h;rw[E0]at h⊢;exact h
    have D1:(k:Int)<=0:=(by omega);have E1:¬(0:Int)<(k:Int):=(by omega);clear cx E0 i1
    go_wp2_with fail
    refine(X0 _).mono ?_;rintro e W3 ⟨g3,c3,rfl,z0,t0,v0⟩;have A0:=Z t0;have x0:=Z v0;clear z0 t0 v0
    go_wp2_with fail
    refine(zg3 _ _ W3 A0 (dU _ _)).mono ?_;rintro e W4 ⟨rfl,k0⟩;have HE:Y _:=m1 W4 (x0.trans (k0.mono x0.size));clear k0
    cases aq (aK 32 x)
    all_goals
     go_wp2;refine bodyPost_ret (v:=.tuple #[.pointer none,I 2,I ((k:Int)+1)]) (by simp[results,results4,go_sem]) rfl ?_;exact HE
   |cons x1 xs1=>
    have kx:(xb.toList==[])=false:=(by rw[g1.out,E0];rfl);clear E0
    go_wp2_with fail
    refine(K0 _).mono ?_;rintro e W3 ⟨g3,c3,rfl,z0,t0,v0⟩;have A0:=Z t0;have x0:=Z v0;clear z0 t0 v0
    go_wp2_with fail
    refine(zg3 _ _ W3 A0 (dU _ _)).mono ?_;rintro e W4 ⟨rfl,k0⟩;have HE:Y _:=m1 W4 (x0.trans (k0.mono x0.size));clear k0
    cases aq (aK 32 x)
    all_goals
     go_wp2;refine bodyPost_ret (v:=.tuple #[.pointer none,I 2,I ((k:Int)+1)]) (by simp[results,results4,go_sem]) rfl ?_;exact HE
  have bl:((k:Int)==(Wz.length:Int) - 1)=false:=(by simp;omega);have Y0:k+1<Wz.length:=(by omega)
  go_wp2_with fail
  refine(K0 _).mono ?_;rintro e W3 ⟨g3,c3,rfl,z0,t0,v0⟩;have A0:=Z t0;have x0:=Z v0;have F1:=Z z0;clear z0 t0 v0;obtain⟨ws,Q0⟩:=J (aK 32 x);rw[<-Q0]at A0⊢;have O0:Y (ws=aK 32 Wz[k]):=(by show _=_;rw[Q0,HX.out]);have G1:Y (ws≠[]):=(by rw[Q0];exact dU _ _);clear Q0 K0
  go_wp2_with fail
  refine(zg3 _ _ W3 A0 G1).mono ?_;rintro e W4 ⟨rfl,k0⟩;have n1:Y (D wr W4):=x0.trans (k0.mono x0.size);have P0:Y (Zi W4.heap.size W4 (Sq g3 0 ws.length c3) ws):=(A0.below k0).mono k0.size;clear k0
  cases f0:aq ws with
  |false=>
   have c0:Y (rows RS.zero 0 Wz=(2,k+1,r)):=HI.mX Y0 (by rw[<-O0.out];exact f0);have HE:Y (Xc aX w (.returned (.tuple #[.pointer none,I 2,I ((k:Int)+1)])) W4):=by
    have e9:=d0.out;rw[c0.out]at e9;show Xc _ _ _ _;rw[e9];exact⟨I0 _ n1,λ_=>rfl,λh=>(by cases h)⟩
   clear f0;go_wp2;refine bodyPost_ret (v:=.tuple #[.pointer none,I 2,I ((k:Int)+1)]) (by simp[results,results4,go_sem]) rfl ?_;exact HE
  |true=>
   have r0:Y (E 13 #[Pp (W1.heap.size+1) 0,Sq g3 0 ws.length c3,I ((k:Int)+1)] W4 (Xy W1.heap.size (W1.heap.size+2) (W1.heap.size+1) W1.heap.size W1 k (r.row ws (k+1)))):=by
    refine ya7 (HI.at_.below n1) HI.kS HI.om HI.ol HI.oe (by have:=l0.1;omega) _ ws P0 (λb off n c hv=>?_) f0 (k+1);simp only[slice.injEq,Ql,Addr.mk.injEq]at hv;have z0:=F1.out;refine⟨by omega,λj hj hh=>?_⟩;have:=((HI.at_.own j hj).lt b hh).2;omega
   obtain⟨q,hq⟩:=J (r.row ws (k+1));rw[<-hq]at r0;have HQ:=Z hq;have o1:=Z f0;clear hq f0
   go_wp2_with fail
   refine r0.mono ?_;rintro e W5 ⟨rfl,aS,B0⟩
   by_cases h0:q.1=0
   ·obtain⟨m',fl',h1,h2,h3,h4⟩:=aS h0
    have H1:Y (zy3 W1 Wz (k+1) W5 m' fl' q.2):=by
     have e1:r.row (aK 32 Wz[k]) (k+1)=q:=(by rw[<-O0.out,<-HQ.out]);have h5:=HI.next Y0 (by rw[<-O0.out];exact o1) (by rw[e1];exact h0) h1 (by rw[e1];exact h2) (by rw[e1];exact h3) (by rw[e1];exact h4);rw[e1]at h5;exact h5
    rw[h0];clear aS B0 h0 h1 h2 h3 h4 r0;go_wp2
    go_roundw
    case rel=>exact⟨k+1,m',fl',q.2,by go_num,by go_num,H1⟩
    case measure=>simp[intOf];omega
   have b0:(((q.1:Nat):Int) !=0)=true:=(by rw[bne_iff_ne];omega);have HE:Y (Xc aX w (.returned (.tuple #[.pointer none,I (q.1:Nat),I ((k:Int)+1)])) W5):=by
    have e1:r.row (aK 32 Wz[k]) (k+1)=q:=(by rw[<-O0.out,<-HQ.out]);have h5:=HI.mB Y0 (by rw[<-O0.out];exact o1) (by rw[e1];exact h0);rw[e1]at h5;have e9:=d0.out;rw[h5]at e9;show Xc _ _ _ _;rw[e9];exact⟨m0.trans ((B0 h0).mono m0.size),λ_=>rfl,λh=>absurd h h0⟩
   clear aS B0 h0 r0;go_wp2;refine bodyPost_ret (v:=.tuple #[.pointer none,I (q.1:Nat),I ((k:Int)+1)]) (by simp[results,results4,go_sem]) rfl ?_;exact HE
end Go.Proofs.YtgmbnnpnefniiaaGreatDoor
