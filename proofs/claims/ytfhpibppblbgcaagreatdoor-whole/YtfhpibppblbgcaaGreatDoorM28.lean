import Derived.Test.YtfhpibppblbgcaaGreatDoorM27
set_option linter.all false
set_option maxRecDepth 100000
set_option maxHeartbeats 40000000
namespace Go.Proofs.YtfhpibppblbgcaaGreatDoor
open Go.RowKit Go.Proofs.Tryz
variable{lo base Rb Pb t n:Nat}{w0 w w':World}{ops:Array Oper}{o:Oper}{a:Act}{Q:Exit->Act->World->Prop}{r:Fl.RS}
def Tryz.infoByteR:(Tryz.prog.info? 5).map (λi=>(i.zero,i.size,i.bytes))=some (some (.int .u8 0),1,1):=by kernel_rfl
def yhx(h1:Below lo w0 w)(hz:lo<=w.heap.size)(h2:Below lo w0 w'):lo<=w'.heap.size:=by
 rcases Nat.lt_or_ge w'.heap.size lo with h|h
 ·have e1:=h2.block w'.heap.size h
  have e2:=h1.block w'.heap.size h;rw[Array.getElem?_eq_none (Nat.le_refl _)]at e1;rw[<-e1,Array.getElem?_eq_getElem (by omega)]at e2
  cases e2
 exact h
def zt2{rest:List Oper}(a0:o.guard=none)(x y:Operand)(ho:o.op=.store 61 x y)(w:World)(N:Nat)(c':Array Value)(hx:a.eval x=.pointer (some ⟨w.heap.size,0,none⟩))(hN:w.heap.size=N)(hy:a.eval y=.agg c')
  (h1:c'.all (·.oneCell')=true) (cF:c'.size=10) (h:wpList prog ops Q rest (a.put o.dst undef) (w.alloc (.cells c' 61))):wpList prog ops Q (o::rest) a (w.alloc (.cells Yy 61)):=
 Jk a0 x y 61 ho w Yy c' hx hy (by rw[cF];exact Tryz.infoStmt10) (by rw[cF];rfl) h1 h
def lnS(s:Fl.aa)(at_:Nat):Fl.aa:=⟨s.kind,s.x,at_,s.e,[],[]⟩
def lnF(s:Fl.aa)(at_:Nat):FlS:=⟨0,lnS s at_⟩
def sArr(s:Fl.aa):Array Value:=Zm s.kind s.x s.e.op s.e.a.var s.e.a.v s.e.b.var s.e.b.v
def yhw(s:Fl.aa)(at_:Nat):(sArr s).setIfInBounds 2 (.int .i64 (at_:Int))=(Zk (lnF s at_)).toArray:=rfl
def RowWay(x0:ByteArray)(s:Fl.aa)(r':Fl.RS)(out:Nat×Fl.RS)(at_:Nat):Prop:=
 ((x0.toList==[105,102])=false/\(x0.toList==[119,104,105,108,101])=false/\(16<=r'.ap->out.1=5)/\(r'.ap<16->out=(0,r'.put (lnS s at_)))/\(s.kind=3\/s.kind=4))\/
 ∃(kd:Nat) (ch:Int),(((x0.toList==[105,102])=true/\(x0.toList==[119,104,105,108,101])=false/\kd=5/\ch=105)\/((x0.toList==[105,102])=false/\(x0.toList==[119,104,105,108,101])=true/\kd=6/\ch=119))/\(16<=r'.ap\/3<=r'.fr.length->out.1=5)/\(r'.ap<16->r'.fr.length<3->out=(0,r'.opens kd at_ s.e))/\s.kind=kd/\s.x=0
section
variable{m:Yl}{fl:List FlS}
def zjv(h:Zs lo base Rb Pb w0 w m)(hr:Zg r fl t m)(ht:t<=100000)(b off n cap:Nat)(hn:1<=n/\n<=maxLen)(hb:b<w.heap.size)(B1:b≠Rb/\∀j,Zr j->(m.v j).ownBlock≠some b)(at_:Nat)(x0:ByteArray)(k1:(x0.toList==[108,101,118,101,108])=false)(k2:(x0.toList==[98,101,108,111,119])=false)(k3:(x0.toList==[99,101,108,108])=false)(k4:(x0.toList==[99,104,97,110,110,101,108])=false)(k5:(x0.toList==[98,101,103,105,110])=false)(k6:(x0.toList==[101,108,115,101])=false)(k7:(x0.toList==[101,110,100])=false)(c0:w.cell? ⟨b,off,none⟩=some (.string x0))(a2:r.ae=true)(aV:Nat×Fl.aa×Fl.RS)(out:Nat×Fl.RS)
  (cG:Calls prog 19 #[.pointer (some ⟨Rb,0,none⟩),.slice (some ⟨b,off,none⟩) n cap] w (zv5 lo base Rb Pb w0 w m fl t aV))
  (V0:aV.1≠0->out.1=aV.1) (d2:aV.1=0->Vw fl aV.2.2/\cE fl=aV.2.2.ap) (j0:aV.1=0->RowWay x0 aV.2.1 aV.2.2 out at_):
  Calls prog 9 #[.pointer (some ⟨Rb,0,none⟩),.slice (some ⟨b,off,none⟩) n cap,.int .i64 (at_:Int)] w (Xr lo base Rb Pb w0 t out):=by
 obtain⟨b1,b2,b3,b4,b5,b6,b7⟩:=h.bL
 have S2:Rb<w.heap.size:=by omega
 have x7:w.cell? ⟨Rb,7,none⟩=some (.bool true):=by rw[<-a2,<-hr.bg];exact h.cR.c 7 (by omega)
 obtain⟨d8,k8',C1⟩:=h.shape 8 (by unfold Zr;omega);rw[hr.r8.1]at C1
 have x8:w.cell? ⟨Rb,8,none⟩=some (.slice d8 r.fr.length k8'):=by rw[<-C1];exact h.cR.c 8 (by omega)
 have B2:=hr.fr
 have C2:(r.fr.length:Int)<=3:=by omega
 have T2:=hr.ft
 have D2:fl.length<=100000:=by omega
 have g2:(fl.length:Int)<=100000:=by omega
 have U2:(0:Int)<(n:Int):=by omega
 have HH:=Zz h;have i2:=Zz cG;have B0:=Zz V0;have C0:=Zz j0;have D1:=Zz d2;have E1:=Zz B1.2;have s0:b≠Rb:=B1.1;clear h hr cG V0 j0 d2 B1 C1 B2 a2
 go_enter func9,ntmps9
 go_wp2_with fail
 refine i2.out.mono ?_;rintro e W1 ⟨F1,G1⟩;clear i2 x7 x8
 by_cases h0:aV.1=0
 ·obtain⟨rfl,m1,W0,I0,X0⟩:=F1 h0
  obtain⟨H1,I1⟩:=D1.out h0;have j0:=C0.out h0;obtain⟨s,hs⟩:=nmE (aV.2.1);obtain⟨r',hr'⟩:∃r',r'=aV.2.2:=⟨_,rfl⟩;rw[<-hs]at j0;rw[<-hr']at I0 H1 I1 j0;have hk:=X0 b hb s0 E1.out;have c1:W1.cell? ⟨b,off,none⟩=some (.string x0):=(Qc (a:=⟨b,off,none⟩) hk.1).trans c0;have hbz:b<W1.heap.size:=Qe W1 _ c1;have J0:=Zz hk.2;obtain⟨sb,r0⟩:=nmE (W1.heap.size);obtain⟨q1,q2,q3,q4,q5,q6,q7⟩:=W0.bL;have V2:base<=sb:=(by omega);have J1:b<sb:=(by omega);have E2:Rb<sb:=(by omega);obtain⟨d10,k10,m0⟩:=W0.shape 10 (by unfold Zr;omega);rw[I0.fO.1]at m0;obtain⟨Wp,Y0⟩:=nmE (W1.alloc (.cells ((sArr s).setIfInBounds 2 (.int .i64 (at_:Int))) 61));have K1:Hid (Below sb W1 Wp):=(by show Below _ _ _;rw[Y0,r0];exact bA);have K0:Hid (Zs lo base Rb Pb w0 Wp m1):=(by have h9:=K1.out;rw[r0]at h9;exact W0.below h9);have n0:=Zz m0;have u0:=Zz I0.fO.1;have D0:=Zz I0.fO.2;have y10:Wp.cell? ⟨Rb,10,none⟩=some (.slice d10 fl.length k10):=(by rw[<-n0.out];exact K0.out.cR.c 10 (by omega));have F2:sb<Wp.heap.size:=(by rw[Y0,r0];simp);have L1:base<=Wp.heap.size:=(by omega);have M1:Rb<Wp.heap.size:=(by omega);have ysb:Wp.heap[sb]?=some (.cells (Zk (lnF s at_)).toArray 61 (0,0)):=(by rw[Y0,yhw,r0];exact Jm _ _ _ rfl)
  have j2:Hid (∀k,(Value.slice d10 fl.length k10).ownBlock=some k->k<sb):=λk u1=>by rw[r0];exact((W0.own 10 (by unfold Zr;omega)).lt k (by rw[m0];exact u1)).2
  have o0:Hid ((Value.slice d10 fl.length k10).ownBlock≠some b):=(by rw[<-m0];exact hk.2 10 (by unfold Zr;omega));have cp:Wp.cell? ⟨b,off,none⟩=some (.string x0):=(K1.out.cell (p:=⟨b,off,none⟩) J1).trans c1;have k0:=Zz I0;have HF:Hid (Vw fl r'/\cE fl=r'.ap):=⟨H1,I1⟩;have HG:=Zz j0;have eA:Zm aV.2.1.kind aV.2.1.x aV.2.1.e.op aV.2.1.e.a.var aV.2.1.e.a.v aV.2.1.e.b.var aV.2.1.e.b.v=sArr s:=(by rw[hs];rfl);rw[eA];have l2:=Zz Y0;have Z0:=Zz r0;clear F1 G1 W0 I0 X0 H1 I1 j0 hk c1 m0 Y0 r0 eA hs hr' HH E1 B0 C0 D1 c0 q1 q2 q3 q4 q5 q6 q7
  go_wp2_with (refine Xx 9 ?_;refine zt2 rfl (.tmp 9) (.tmp 117) rfl W1 sb (sArr s) rfl Z0.out.symm rfl (Xk _ _ _ _ _ _ _) rfl ?_)
  rw[<-l2.out,<-Z0.out];clear l2 K1 Z0
  go_cut [] (λwc=>∃(g gc:Nat),Zs lo base Rb Pb w0 wc (m1.app 10 (.slice (some ⟨g,0,none⟩) (fl.length+1) gc) (Zk (lnF s at_)))/\wc.cell? ⟨b,off,none⟩=some (.string x0))
  case first=>
   refine zzx (λW=>W.cell? ⟨Rb,10,none⟩=some (.slice d10 fl.length k10)/\W.heap[sb]?=some (.cells (Zk (lnF s at_)).toArray 61 (0,0))) [8,9,10,11,12] [(0,0),(0,1),(0,2),(0,3),(0,4),(0,5),(1,6),(1,7)] [(0,8),(0,10),(0,11)] 9 12 (by kernel_rfl) (by kernel_rfl) rfl [(_,_),(_,_),(_,_),(_,_),(_,_),(_,_),(_,_),(_,_)] [(_,_),(_,_),(_,_)] _ _ rfl rfl rfl rfl (λc a d v w h=>by cases d<;>exact h) ⟨y10,ysb⟩ (λops=>?_);simp only[List.getElem_toArray,List.getElem_cons_succ,List.getElem_cons_zero]
   iterate 4 refine Yq rfl (kE (by rintro _ ⟨_,_⟩;go_simp<;>rfl) (by go_simp<;>rfl) ?_)
   refine Yq rfl (λK hK=>?_);refine⟨.agg (Zk (lnF s at_)).toArray,λw' hw'=>zz5 (.tmp 9) 61 rfl sb rfl _ 61 (0,0) hw'.2 _ underlying61 rfl Tryz.infoStmt10,hK _ ?_⟩;clear hK K
   iterate 1 refine Yq rfl (kE (by rintro _ ⟨_,_⟩;go_simp<;>rfl) (by go_simp<;>rfl) ?_)
   refine Ve ?_
   go_wp2_with fail
   obtain⟨W3,a1⟩:=nmE ((Wp.alloc (.cells Yy 61)).drew);obtain⟨tb,E0⟩:=nmE (Wp.heap.size);have N1:Below Wp.heap.size Wp W3:=(by rw[a1];exact(bA).drew);have W2:Wp.heap.size+1=W3.heap.size:=(by rw[a1];simp);have t0:∀i u,(Yy.toList)[i]?=some u->W3.cell? ((⟨tb,0,none⟩:Addr).add i)=some u:=(by rw[a1,E0];exact zwx (l:=Yy.toList) rfl);have L0:=Zz N1;have O1:Hid (W3.ownsRow base 61 10 (.slice d10 fl.length k10) fl.length (Jt fl)):=by
    have h1:=(K0.out.below N1).own 10 (by unfold Zr;omega);rw[n0.out,u0.out,D0.out]at h1;exact h1
   have x1:(λW=>W.cell? ⟨Rb,10,none⟩=some (.slice d10 fl.length k10)/\W.heap[sb]?=some (.cells (Zk (lnF s at_)).toArray 61 (0,0))) W3:=⟨(L0.out.cell (p:=⟨Rb,10,none⟩) (by show Rb<_;omega)).trans y10,(L0.out.block sb (by omega)).trans ysb⟩
   try rw[show ∀o,(Wp.drew.alloc o)=(Wp.alloc o).drew from λ_=>rfl]
   have eW3:(Wp.alloc (.cells #[.int .i64 0,.int .i64 0,.int .i64 0,.int .i64 0,.bool false,.int .i64 0,.bool false,.int .i64 0,.slice none 0 0,.slice none 0 0] 61)).drew=W3:=a1.symm;rw[eW3,<-E0];clear a1 E0 eW3 N1;refine⟨x1,?_⟩;refine Ve ?_;obtain⟨i0,M0,N0,O0,P0⟩:=info_parts Tryz.infoStmtP
   go_wp2_with (at_builtin;refine Zj _ rfl (.tmp 127) (.tmp 130) 37 rfl base 61 i0 (.agg Yy) 10 112 underlying37 M0 N0 O0 P0 rfl (by decide) _ _ _ rfl O1.out ⟨tb,0,none⟩ 1 1 Yy.toList rfl rfl (by decide) t0 ?c2 ?c3 ?c4 ?c5 ?_)
   case c2=>exact zl1
   case c3=>unfold maxLen;omega
   case c4=>omega
   case c5=>omega
   intro v' W4 e0 d1 F0;obtain⟨g,gc,rfl⟩:∃g gc,v'=.slice (some ⟨g,0,none⟩) (fl.length+1) gc:=by
    rcases e0.2 with⟨h1,h2⟩|⟨g,cp,cur,h1,_⟩
    ·omega
    exact⟨g,cp,h1⟩
   have g1:∀k,(Value.slice d10 fl.length k10).ownBlock=some k->base<=k/\k<Wp.heap.size+1:=λk hk=>by have:=O1.out.lt k hk;omega
   have X2:base<=g:=(e0.lt g rfl).1;have z0:W4.heap[Rb]?=W3.heap[Rb]?:=d1.block Rb (by omega) (λhh=>by have:=(g1 Rb hh.symm).1;omega);have y1:(λW=>W.cell? ⟨Rb,10,none⟩=some (.slice d10 fl.length k10)/\W.heap[sb]?=some (.cells (Zk (lnF s at_)).toArray 61 (0,0))) W4:=⟨(Qc (a:=⟨Rb,10,none⟩) z0).trans x1.1,(d1.block sb (by omega) (λhh=>by have:=j2.out sb hh.symm;omega)).trans x1.2⟩;have gz:∀j,W4.frozen? ⟨Rb,j,none⟩=false:=λj=>(Qd (a:=⟨Rb,j,none⟩) z0).trans ((L0.out.frozen (p:=⟨Rb,j,none⟩) (by show Rb<_;omega)).trans (K0.out.cR.z j));have g0:W4.cell? ⟨Rb,10,none⟩=some (.slice d10 fl.length k10):=y1.1;have P1:Hid (W4.there g (fl.length*10) 10):=zmv e0;have H5:Hid (Zs lo base Rb Pb w0 ((W4.setCells g (fl.length*10) (Zk (lnF s at_))).setCell ⟨Rb,10,none⟩ (.slice (some ⟨g,0,none⟩) (fl.length+1) gc)) (m1.app 10 (.slice (some ⟨g,0,none⟩) (fl.length+1) gc) (Zk (lnF s at_)))):=by
    have h1:=K0.out.flat (W3:=W3) (W4:=W4) (g:=g) (cap:=gc) (z:=Yy.toList) (cs:=(Zk (lnF s at_))) L0.out (by rw[u0.out,D0.out];exact e0) rfl rfl (by rw[n0.out];exact d1) (by rw[n0.out];exact F0);rw[u0.out]at h1;exact h1
   have n2:Hid ((W4.setCell ⟨Rb,10,none⟩ (.slice (some ⟨g,0,none⟩) (fl.length+1) gc)).setCells g (fl.length*10) (Zk (lnF s at_))=(W4.setCells g (fl.length*10) (Zk (lnF s at_))).setCell ⟨Rb,10,none⟩ (.slice (some ⟨g,0,none⟩) (fl.length+1) gc)):=zw1 g Rb 10 _ (by omega) _ _ _;obtain⟨W5,i1⟩:=nmE (W4.setCells g (fl.length*10) (Zk (lnF s at_)));have o2:=Zz i1.symm;obtain⟨W6,Q1⟩:=nmE (W5.setCell ⟨Rb,10,none⟩ (.slice (some ⟨g,0,none⟩) (fl.length+1) gc));have G2:Hid ((W4.setCell ⟨Rb,10,none⟩ (.slice (some ⟨g,0,none⟩) (fl.length+1) gc)).setCells g (fl.length*10) ((Zk (lnF s at_))).toArray.toList=W6):=(by show _=_;rw[Q1,i1];exact n2.out);have p2:=Zz Q1;rw[<-i1]at H5;have g0':(W4.setCells g (fl.length*10) (Zk (lnF s at_))).cell? ⟨Rb,10,none⟩=some (.slice d10 fl.length k10):=(Qc (a:=⟨Rb,10,none⟩) (Ui g _ W4 _ Rb (by omega))).trans g0;have gz':(W4.setCells g (fl.length*10) (Zk (lnF s at_))).frozen? ⟨Rb,10,none⟩=false:=(World.frozen?_setCells g _ _ _ _).trans (gz 10);have R1:Hid (∀v,(W4.setCell ⟨Rb,10,none⟩ v).there g (fl.length*10) 10):=λv j hj=>⟨by rw[Qc (a:=⟨g,fl.length*10+j,none⟩) (Zx _ _ _ _ _ (by show g≠Rb;omega))];exact(P1.out j hj).1,by rw[World.frozen?_setCell];exact(P1.out j hj).2⟩;rw[<-i1]at g0' gz';clear i1 Q1 n2;have S1:g≠b:=by
    rintro rfl;rcases F0 with h1|h1
    ·exact o0.out h1.symm
    simp only[Value.ownBlock,Option.some.injEq]at h1;omega
   have cw:W5.cell? ⟨b,off,none⟩=some (.string x0):=by
    refine(Qc (a:=⟨b,off,none⟩) ?_).trans cp;show W5.heap[b]?=Wp.heap[b]?;rw[<-o2.out];exact(Ui g _ W4 _ b (Ne.symm S1)).trans ((d1.block b (by omega) (λhh=>o0.out hh.symm)).trans (L0.out.block b (by omega)))
   have r2:Hid (Zs lo base Rb Pb w0 (W5.setCell ⟨Rb,10,none⟩ (.slice (some ⟨g,0,none⟩) (fl.length+1) gc)) (m1.app 10 (.slice (some ⟨g,0,none⟩) (fl.length+1) gc) (Zk (lnF s at_)))/\(W5.setCell ⟨Rb,10,none⟩ (.slice (some ⟨g,0,none⟩) (fl.length+1) gc)).cell? ⟨b,off,none⟩=some (.string x0)):=⟨H5.out,(Qc (a:=⟨b,off,none⟩) (Zx _ _ _ _ _ s0)).trans cw⟩;have H2:Hid (∃(g gc:Nat),Zs lo base Rb Pb w0 W6 (m1.app 10 (.slice (some ⟨g,0,none⟩) (fl.length+1) gc) (Zk (lnF s at_)))/\W6.cell? ⟨b,off,none⟩=some (.string x0)):=(by show ∃g gc,_;rw[p2.out];exact⟨g,gc,r2.out⟩);clear H5 p2 cp cw;clear e0 d1 F0 z0 t0 O1 L0 g1 K0 n0 u0 D0 x1 M0 N0 O0 P0 i0
   go_wp2_with fail
   refine⟨y1,?_⟩
   try (refine Xe ?_;refine⟨y1,?_⟩)
   clear y1;have I2:(fl.length:Int)<(fl.length:Int)+1:=(by omega)
   try simp only[List.getElem_toArray,List.getElem_cons_succ,List.getElem_cons_zero]
   iterate 3 refine Yq rfl (kE (by rintro _ -;go_simp<;>rfl) (by go_simp<;>rfl) ?_)
   refine Xe ?_;refine⟨trivial,?_,?_⟩
   ·go_wp2_with (refine Xx 132 ?_;refine Vc rfl 61 (.tmp 132) (.tmp 128) rfl g (fl.length*10) ((Zk (lnF s at_))).toArray rfl rfl P1.out Tryz.infoStmt10 (by kernel_rfl) o2.out ?_)
    go_meet
    case rel=>exact⟨g,gc,r2.out⟩
   go_wp2_with (refine Xx 132 ?_;refine Vc rfl 61 (.tmp 132) (.tmp 128) rfl g (fl.length*10) ((Zk (lnF s at_))).toArray rfl rfl (R1.out _) Tryz.infoStmt10 (by kernel_rfl) G2.out ?_)
   go_meet
   case rel=>exact H2.out
  case rest=>
  obtain⟨g,gc,l0,cw⟩:=hcut;obtain⟨W7,s2⟩:=nmE (wc);rw[<-s2]at l0 cw⊢;clear s2 y10 ysb cp K0 j2 o0 F2 L1 M1;obtain⟨m2,a0⟩:=nmE (m1.app 10 (.slice (some ⟨g,0,none⟩) (fl.length+1) gc) (Zk (lnF s at_)));rw[<-a0]at l0;obtain⟨st,cG⟩:=nmE (r'.ap);have t2:st<=16:=(by rw[cG];exact k0.out.sm);have v0:m2.ap=st:=(by rw[a0,cG];exact k0.out.st);have e8:m2.v 8=m1.v 8:=(by rw[a0];rfl);obtain⟨d8b,k8b,d0⟩:=l0.shape 8 (by unfold Zr;omega);have Q0:m2.n 8=r'.fr.length:=(by rw[a0];exact k0.out.r8.1);have j1:m2.xs 8=Vx r'.fr:=(by rw[a0];exact k0.out.r8.2);rw[Q0]at d0;have p9:W7.cell? ⟨Rb,9,none⟩=some (.int .i64 (st:Int)):=(by rw[<-v0];exact l0.cR.c 9 (by omega));have z9:W7.frozen? ⟨Rb,9,none⟩=false:=l0.cR.z 9;have p8:W7.cell? ⟨Rb,8,none⟩=some (.slice d8b r'.fr.length k8b):=(by rw[<-d0];exact l0.cR.c 8 (by omega));have z8:W7.frozen? ⟨Rb,8,none⟩=false:=l0.cR.z 8;obtain⟨nf,A0⟩:=nmE (r'.fr.length);have J2:nf<=3:=(by rw[A0];exact k0.out.fr);rw[<-A0]at p8 d0;have K2:(nf:Int)<=3:=(by omega);have L2:(st:Int)<=16:=(by omega);have H8:Hid (Zs lo base Rb Pb w0 (W7.setCell ⟨Rb,9,none⟩ (.int .i64 ((st:Int)+1))) {m2 with ap:=st+1}):=l0.ma (st+1);have Y2:Hid (lo<=W7.heap.size):=Nat.le_trans b7 l0.bL.2.2.2.2.2.1;have M2:Rb<W7.heap.size:=(by have:=l0.bL;omega);have N2:b<W7.heap.size:=Qe W7 _ cw;rcases HG.out with⟨k8,k9,l1,n1,o1⟩|⟨kd,ch,hk,l1,n1,o1,u2⟩
  ·have p0:Hid ((16<=r'.ap->out.1=5)/\(r'.ap<16->out=(0,r'.put (lnS s at_)))):=⟨l1,n1⟩
   have R0:=Zz o1;clear l1 n1 o1 HG;have cw2:(W7.setCell ⟨Rb,9,none⟩ (.int .i64 ((st:Int)+1))).cell? ⟨b,off,none⟩=some (.string x0):=(Qc (a:=⟨b,off,none⟩) (Zx _ _ _ _ _ s0)).trans cw
   by_cases f0:16<=st
   ·have T1:(16:Int)<(st:Int)+1:=by omega
    have HE:Hid (Xr lo base Rb Pb w0 t out (.returned (.int .i64 5)) (W7.setCell ⟨Rb,9,none⟩ (.int .i64 ((st:Int)+1)))):=by
     have h5:=p0.out.1 (by rw[<-cG];exact f0);exact⟨by rw[h5];rfl,λh=>(by rw[h5]at h;cases h),λ_=>H8.out.bel⟩
    clear l0 a0 cG v0 e8 d0 Q0 j1 A0 k0 HF p0 H8 J0 f0;go_wp2;go_ret;exact HE.out
   have T1:¬(16:Int)<(st:Int)+1:=(by omega);have U1:(st:Int)+1<=16:=(by omega);have HE:Hid (Xr lo base Rb Pb w0 t out (.returned (.int .i64 0)) (W7.setCell ⟨Rb,9,none⟩ (.int .i64 ((st:Int)+1)))):=by
    have h5:=p0.out.2 (by rw[<-cG];omega);refine⟨by rw[h5];rfl,λ_=>⟨_,fl++[lnF s at_],H8.out,?_,?_,?_⟩,λh=>absurd (by rw[h5]) h⟩
    ·rw[h5,a0,cG]
     exact k0.out.put (lnS s at_) (lnF s at_) (by rw[<-cG];omega) _
    ·rw[h5]
     exact yk2 (s:=lnS s at_) HF.out.1 R0.out rfl rfl k0.out.fr
    rw[h5,Um,HF.out.2];exact(ywx (r:=r') (lnS s at_)).2.2.2.2.2.2.2.2.2.1.symm
   clear l0 a0 cG v0 e8 d0 Q0 j1 A0 k0 HF p0 H8 J0 f0;go_wp2;go_ret;exact HE.out
  have p0:Hid ((16<=r'.ap\/3<=r'.fr.length->out.1=5)/\(r'.ap<16->r'.fr.length<3->out=(0,r'.opens kd at_ s.e))):=⟨l1,n1⟩;have R0:Hid (s.kind=kd/\s.x=0):=⟨o1,u2⟩;obtain⟨c9,x2⟩:=nmE (ch);obtain⟨kd9,u1⟩:=nmE (kd);have y2:=Zz x2;have z1:=Zz u1;have O2:=Zz hk;clear l1 n1 o1 u2 HG x2 u1 hk;obtain⟨W8,S0⟩:=nmE (W7.setCell ⟨Rb,9,none⟩ (.int .i64 ((st:Int)+1)));rw[<-S0]at H8;obtain⟨W9,p1⟩:=nmE (W8.alloc (.cells #[.int .u8 ch] 5));have V1:W8.heap.size=W7.heap.size:=(by rw[S0,Zy]);have T0:Below W8.heap.size W8 W9:=(by rw[p1];exact bA);have Z2:W7.heap.size+1=W9.heap.size:=(by rw[p1];simp[V1]);have a3:base<=W9.heap.size:=(by have:=l0.bL;omega);have X1:=Zz T0;have A1:Hid (W9.ownsRow base 5 1 (.slice d8b nf k8b) nf (Vx r'.fr)):=by
   have h1:=(H8.out.below T0).own 8 (by unfold Zr;omega);have e1:({m2 with ap:=st+1}:Yl).v 8=.slice d8b nf k8b:=d0;have e2:({m2 with ap:=st+1}:Yl).n 8=nf:=(by rw[A0];exact Q0);have e3:({m2 with ap:=st+1}:Yl).xs 8=Vx r'.fr:=j1;rw[e1,e2,e3]at h1;exact h1
  obtain⟨tb,E0⟩:=nmE (W7.heap.size);have t0:∀i u,([.int .u8 ch]:List Value)[i]?=some u->W9.cell? ((⟨tb,0,none⟩:Addr).add i)=some u:=(by rw[p1,E0,<-V1];exact Xv);have u9:W9.cell? ⟨Rb,9,none⟩=some (.int .i64 ((st:Int)+1)):=by
   have h1:W8.cell? ⟨Rb,9,none⟩=some (.int .i64 ((st:Int)+1)):=(by rw[S0];exact World.cell?_setCell_same' _ _ _ (by rw[p9];rfl));exact(T0.cell (p:=⟨Rb,9,none⟩) (by show Rb<_;omega)).trans h1
  have u8:W9.cell? ⟨Rb,8,none⟩=some (.slice d8b nf k8b):=by
   have h1:W8.cell? ⟨Rb,8,none⟩=some (.slice d8b nf k8b):=(by rw[<-d0];exact H8.out.cR.c 8 (by omega));exact(T0.cell (p:=⟨Rb,8,none⟩) (by show Rb<_;omega)).trans h1
  have cw8:W8.cell? ⟨b,off,none⟩=some (.string x0):=(by rw[S0];exact(Qc (a:=⟨b,off,none⟩) (Zx _ _ _ _ _ s0)).trans cw);have cw9:W9.cell? ⟨b,off,none⟩=some (.string x0):=(T0.cell (p:=⟨b,off,none⟩) (by show b<_;omega)).trans cw8;have r1:Hid ((Value.slice d8b nf k8b).ownBlock≠some b):=(by rw[<-d0,e8];exact J0.out 8 (by unfold Zr;omega));have y0:Hid (m2.v 8=.slice d8b nf k8b/\m2.n 8=nf/\m2.xs 8=Vx r'.fr/\nf=r'.fr.length/\st=r'.ap/\m2=m1.app 10 (.slice (some ⟨g,0,none⟩) (fl.length+1) gc) (Zk (lnF s at_))):=⟨d0,by rw[A0];exact Q0,j1,A0,cG,a0⟩;have Y1:Hid ((W7.setCell ⟨Rb,9,none⟩ (.int .i64 ((st:Int)+1))).alloc (.cells #[.int .u8 ch] 5)=W9):=(by show _=_;rw[p1,S0]);have Z1:=Zz E0;have P2:W8.heap.size+1=W9.heap.size:=(by omega);clear l0 a0 cG v0 e8 d0 Q0 j1 A0 S0 p1 T0 E0 cw8 V1;rcases O2.out with⟨k8,k9,rfl,rfl⟩|⟨k8,k9,rfl,rfl⟩
  all_goals
   obtain⟨i0,M0,N0,O0,P0⟩:=info_parts Tryz.infoByteR
   go_wp2_with (first|(at_builtin;rw[Y1.out];refine Zj _ rfl (.tmp 150) (.tmp 151) 26 rfl base 5 i0 (.int .u8 0) 1 1 underlying26 M0 N0 O0 P0 rfl (by decide) _ _ _ rfl A1.out ⟨tb,0,none⟩ 1 1 [.int .u8 105] (by rw[Z1.out];rfl) rfl (by decide) t0 (by intro u hu;simp at hu;subst hu;rfl) (by unfold maxLen;omega) (by omega) (by omega) ?_)|(at_builtin;rw[Y1.out];refine Zj _ rfl (.tmp 163) (.tmp 164) 26 rfl base 5 i0 (.int .u8 0) 1 1 underlying26 M0 N0 O0 P0 rfl (by decide) _ _ _ rfl A1.out ⟨tb,0,none⟩ 1 1 [.int .u8 119] (by rw[Z1.out];rfl) rfl (by decide) t0 (by intro u hu;simp at hu;subst hu;rfl) (by unfold maxLen;omega) (by omega) (by omega) ?_))
   intro v8 W10 G0 hg z2;obtain⟨va,vc,rfl⟩:∃va vc,v8=.slice va (nf+1) vc:=by
    rcases G0.2 with⟨h1,h2⟩|⟨g,cp,cur,h1,_⟩
    ·omega
    exact⟨_,cp,h1⟩
   have s1:∀k,(Value.slice d8b nf k8b).ownBlock=some k->base<=k:=λk hk=>(A1.out.lt k hk).1;have z0:W10.heap[Rb]?=W9.heap[Rb]?:=hg.block Rb (by omega) (λhh=>by have:=s1 Rb hh.symm;omega);have A2:W10.heap[b]?=W9.heap[b]?:=hg.block b (by omega) (λhh=>r1.out hh.symm);have a9:W10.cell? ⟨Rb,9,none⟩=some (.int .i64 ((st:Int)+1)):=(Qc (a:=⟨Rb,9,none⟩) z0).trans u9;have a8:W10.cell? ⟨Rb,8,none⟩=some (.slice d8b nf k8b):=(Qc (a:=⟨Rb,8,none⟩) z0).trans u8;have aw:W10.cell? ⟨b,off,none⟩=some (.string x0):=(Qc (a:=⟨b,off,none⟩) A2).trans cw9;have az:W10.frozen? ⟨Rb,8,none⟩=false:=(Qd (a:=⟨Rb,8,none⟩) z0).trans ((X1.out.frozen (p:=⟨Rb,8,none⟩) (by show Rb<_;omega)).trans (H8.out.cR.z 8));have U0:Hid (Zs lo base Rb Pb w0 (W10.setCell ⟨Rb,8,none⟩ (.slice va (nf+1) vc)) (({m2 with ap:=st+1}:Yl).app 8 (.slice va (nf+1) vc) [.int .u8 c9])):=by
    show Zs _ _ _ _ _ _ _;rw[y2.out];have e1:({m2 with ap:=st+1}:Yl).v 8=.slice d8b nf k8b:=y0.out.1;have e2:({m2 with ap:=st+1}:Yl).n 8=nf:=y0.out.2.1;have e3:({m2 with ap:=st+1}:Yl).xs 8=Vx r'.fr:=y0.out.2.2.1;refine H8.out.jL 8 (by unfold Zr;omega) (by omega) X1.out (v':=.slice va (nf+1) vc) ?_ ?_ ?_
    ·rw[e2,e3];exact G0
    ·rw[e1];exact hg
    rw[e1];exact z2
   clear G0 hg z2 z0 A2 u9 u8 cw9 t0 A1 X1 s1 M0 N0 O0 P0 i0 r1 Y1 Z1 H8 p9 z9 p8 z8 cw
   by_cases f0:16<=st
   ·have T1:(16:Int)<(st:Int)+1:=by omega
    have HE:Hid (Xr lo base Rb Pb w0 t out (.returned (.int .i64 5)) (W10.setCell ⟨Rb,8,none⟩ (.slice va (nf+1) vc))):=by
     have h5:=p0.out.1 (.inl (by rw[<-y0.out.2.2.2.2.1];exact f0));exact⟨by rw[h5];rfl,λh=>(by rw[h5]at h;cases h),λ_=>U0.out.bel⟩
    clear k0 HF p0 R0 U0 J0 y0 f0;go_wp2;go_ret;exact HE.out
   have T1:¬(16:Int)<(st:Int)+1:=(by omega);have U1:(st:Int)+1<=16:=(by omega)
   by_cases q0:3<=nf
   ·have Q2:(3:Int)<(nf:Int)+1:=by omega
    have HE:Hid (Xr lo base Rb Pb w0 t out (.returned (.int .i64 5)) (W10.setCell ⟨Rb,8,none⟩ (.slice va (nf+1) vc))):=by
     have h5:=p0.out.1 (.inr (by rw[<-y0.out.2.2.2.1];exact q0));exact⟨by rw[h5];rfl,λh=>(by rw[h5]at h;cases h),λ_=>U0.out.bel⟩
    clear k0 HF p0 R0 U0 J0 y0 f0 q0;go_wp2;go_ret;exact HE.out
   have Q2:¬(3:Int)<(nf:Int)+1:=(by omega);have R2:(nf:Int)+1<=3:=(by omega);have HE:Hid (Xr lo base Rb Pb w0 t out (.returned (.int .i64 0)) (W10.setCell ⟨Rb,8,none⟩ (.slice va (nf+1) vc))):=by
    obtain⟨v1,v2,v3,v4,v5,v6⟩:=y0.out;have h5:=p0.out.2 (by rw[<-v5];omega) (by rw[<-v4];omega);obtain⟨f1,f2⟩:=HF.out;obtain⟨f3,f4⟩:=R0.out;have eF:lnF s at_=⟨0,⟨kd9,0,at_,s.e,[],[]⟩⟩:=(by unfold lnF lnS;rw[f3,f4,z1.out]);refine⟨by rw[h5];rfl,λ_=>⟨_,fl++[⟨0,⟨kd9,0,at_,s.e,[],[]⟩⟩],U0.out,?_,?_,?_⟩,λh=>absurd (by rw[h5]) h⟩
    ·rw[h5,v6,v5,eF,z1.out,y2.out]
     first|exact k0.out.opens _ at_ s.e (by rw[<-v5];omega) (by rw[<-v4];omega) _ _ 105 rfl|exact k0.out.opens _ at_ s.e (by rw[<-v5];omega) (by rw[<-v4];omega) _ _ 119 rfl
    ·rw[h5,z1.out]
     exact yuy f1 _ at_ s.e (by rw[<-v4];omega)
    rw[h5,z1.out,Um,f2];rfl
   clear k0 HF p0 R0 U0 J0 y0 f0 q0;go_wp2;go_ret;exact HE.out
 obtain⟨⟨k,x,op,av,an,bv,bn,rfl⟩,H0⟩:=G1 h0
 have b0:(((aV.1:Nat):Int) !=0)=true:=by rw[bne_iff_ne];omega
 have t1:=yhx HH.out.bel (Nat.le_trans b7 b6) H0;obtain⟨sb,r0⟩:=nmE (W1.heap.size);have Z0:=Zz r0;have HE:Hid (Xr lo base Rb Pb w0 t out (.returned (.int .i64 (aV.1:Nat))) (W1.alloc (.cells (Zm k x op av an bv bn) 61))):=by
  have h5:=B0.out h0;exact⟨by rw[h5],λh=>absurd (h5.symm.trans h) h0,λ_=>H0.alloc t1 _⟩
 clear F1 G1 H0 t1 h0 HH E1 B0 C0 D1 c0 r0
 go_wp2_with (refine Xx 9 ?_;refine zt2 rfl (.tmp 9) (.tmp 117) rfl W1 sb (Zm k x op av an bv bn) rfl Z0.out.symm rfl (Xk _ _ _ _ _ _ _) rfl ?_)
 go_ret;exact HE.out
def zl2(h:Zs lo base Rb Pb w0 w m)(hr:Zg r fl t m)(ht:t<=100000)(b off n cap:Nat)(hn:1<=n/\n<=maxLen)(hb:b<w.heap.size)(d0:b≠Rb/\∀j,Zr j->(m.v j).ownBlock≠some b)(at_:Nat)(x0:ByteArray)(k1:(x0.toList==[108,101,118,101,108])=false)(k2:(x0.toList==[98,101,108,111,119])=false)(k3:(x0.toList==[99,101,108,108])=false)(k4:(x0.toList==[99,104,97,110,110,101,108])=false)(k5:(x0.toList==[98,101,103,105,110])=false)(k6:(x0.toList==[101,108,115,101])=false)(k7:(x0.toList==[101,110,100])=false)(k8:(x0.toList==[105,102])=false)(k9:(x0.toList==[119,104,105,108,101])=false)(c0:w.cell? ⟨b,off,none⟩=some (.string x0))(e0:r.ae=true)(aV:Nat×Fl.aa×Fl.RS)(out:Nat×Fl.RS)
  (cG:Calls prog 19 #[.pointer (some ⟨Rb,0,none⟩),.slice (some ⟨b,off,none⟩) n cap] w (zv5 lo base Rb Pb w0 w m fl t aV))
  (a0:aV.1≠0->out.1=aV.1) (aQ:aV.1=0->(16<=aV.2.2.ap->out.1=5)/\(aV.2.2.ap<16->out=(0,aV.2.2.put (lnS aV.2.1 at_)))) (b0:aV.1=0->Vw fl aV.2.2/\cE fl=aV.2.2.ap/\(aV.2.1.kind=3\/aV.2.1.kind=4)):
  Calls prog 9 #[.pointer (some ⟨Rb,0,none⟩),.slice (some ⟨b,off,none⟩) n cap,.int .i64 (at_:Int)] w (Xr lo base Rb Pb w0 t out):=
 zjv h hr ht b off n cap hn hb d0 at_ x0 k1 k2 k3 k4 k5 k6 k7 c0 e0 aV out cG a0 (λh0=>⟨(b0 h0).1,(b0 h0).2.1⟩) (λh0=> .inl ⟨k8,k9,(aQ h0).1,(aQ h0).2,(b0 h0).2.2⟩)
def row_if(h:Zs lo base Rb Pb w0 w m)(hr:Zg r fl t m)(ht:t<=100000)(b off n cap:Nat)(hn:1<=n/\n<=maxLen)(hb:b<w.heap.size)(d0:b≠Rb/\∀j,Zr j->(m.v j).ownBlock≠some b)(at_:Nat)(c0:w.cell? ⟨b,off,none⟩=some (.string ⟨#[105,102]⟩))(e0:r.ae=true)(aV:Nat×Fl.aa×Fl.RS)(out:Nat×Fl.RS)
  (cG:Calls prog 19 #[.pointer (some ⟨Rb,0,none⟩),.slice (some ⟨b,off,none⟩) n cap] w (zv5 lo base Rb Pb w0 w m fl t aV))
  (a0:aV.1≠0->out.1=aV.1) (aQ:aV.1=0->(16<=aV.2.2.ap\/3<=aV.2.2.fr.length->out.1=5)/\(aV.2.2.ap<16->aV.2.2.fr.length<3->out=(0,aV.2.2.opens 5 at_ aV.2.1.e))) (b0:aV.1=0->Vw fl aV.2.2/\cE fl=aV.2.2.ap/\(aV.2.1.kind=5/\aV.2.1.x=0)):
  Calls prog 9 #[.pointer (some ⟨Rb,0,none⟩),.slice (some ⟨b,off,none⟩) n cap,.int .i64 (at_:Int)] w (Xr lo base Rb Pb w0 t out):=
 zjv h hr ht b off n cap hn hb d0 at_ _ (by rw[Yr];rfl) (by rw[Yr];rfl) (by rw[Yr];rfl) (by rw[Yr];rfl) (by rw[Yr];rfl) (by rw[Yr];rfl) (by rw[Yr];rfl) c0 e0 aV out cG a0 (λh0=>⟨(b0 h0).1,(b0 h0).2.1⟩) (λh0=> .inr ⟨5,105,.inl ⟨by rw[Yr];rfl,by rw[Yr];rfl,rfl,rfl⟩,(aQ h0).1,(aQ h0).2,(b0 h0).2.2⟩)
def ykz(h:Zs lo base Rb Pb w0 w m)(hr:Zg r fl t m)(ht:t<=100000)(b off n cap:Nat)(hn:1<=n/\n<=maxLen)(hb:b<w.heap.size)(d0:b≠Rb/\∀j,Zr j->(m.v j).ownBlock≠some b)(at_:Nat)(c0:w.cell? ⟨b,off,none⟩=some (.string ⟨#[119,104,105,108,101]⟩))(e0:r.ae=true)(aV:Nat×Fl.aa×Fl.RS)(out:Nat×Fl.RS)
  (cG:Calls prog 19 #[.pointer (some ⟨Rb,0,none⟩),.slice (some ⟨b,off,none⟩) n cap] w (zv5 lo base Rb Pb w0 w m fl t aV))
  (a0:aV.1≠0->out.1=aV.1) (aQ:aV.1=0->(16<=aV.2.2.ap\/3<=aV.2.2.fr.length->out.1=5)/\(aV.2.2.ap<16->aV.2.2.fr.length<3->out=(0,aV.2.2.opens 6 at_ aV.2.1.e))) (b0:aV.1=0->Vw fl aV.2.2/\cE fl=aV.2.2.ap/\(aV.2.1.kind=6/\aV.2.1.x=0)):
  Calls prog 9 #[.pointer (some ⟨Rb,0,none⟩),.slice (some ⟨b,off,none⟩) n cap,.int .i64 (at_:Int)] w (Xr lo base Rb Pb w0 t out):=
 zjv h hr ht b off n cap hn hb d0 at_ _ (by rw[Yr];rfl) (by rw[Yr];rfl) (by rw[Yr];rfl) (by rw[Yr];rfl) (by rw[Yr];rfl) (by rw[Yr];rfl) (by rw[Yr];rfl) c0 e0 aV out cG a0 (λh0=>⟨(b0 h0).1,(b0 h0).2.1⟩) (λh0=> .inr ⟨6,119,.inr ⟨by rw[Yr];rfl,by rw[Yr];rfl,rfl,rfl⟩,(aQ h0).1,(aQ h0).2,(b0 h0).2.2⟩)
end
def yky{Lq:Nat}{rb:Nat->Nat}{t:Fl.cM}(h:Ye base w Lq rb n t)(Pb a b:Nat)(hn:n<=6)(ha:a<n)(hb:b<n)(p0:w.cell? (Aq Pb 0)=some (Iq n))(p1:w.cell? (Aq Pb 1)=some (.slice (some (Aq Lq 0)) n n)):
  Cq 54 #[Pq Pb,Iq a,Iq b] w λe w'=>e=.returned (Iq (Fl.fU n t a b))/\w'=w:=by
 have HL:=Zz h
 have s0:(n:Int)<=6:=by omega
 have t0:(a:Int)<(n:Int):=by omega
 have u0:(b:Int)<(n:Int):=by omega
 have ca:=h.c a ha;have cb:=h.c b hb;have a0:Hid (Fl.fU n t a b=Fl.dp (Fl.cQ n (λi j=>t j i) a b) n):=rfl;generalize Fl.fU n t a b=aV at*;clear h
 go_enter func54,ntmps54
 go_wp2_with fail
 go_loopw [7] (λi wr=>wr=w/\∃k:Nat,k<=n/\i=Iq k/\∀x,x<k->Fl.cQ n (λi j=>t j i) a b x=false) (λi _=>n - (intOf i).toNat)
 case atStart=>exact⟨rfl,0,Nat.zero_le _,rfl,λx hx=>by omega⟩
 case round=>
  obtain⟨b0,k,hk,rfl,du⟩:=hrel;have g0:=Zz du;rw[b0];clear du b0 wr
  by_cases d0:k<n
  ·have k0:(k:Int)<(n:Int):=by omega
   have ck:=HL.c k d0;have x1:Cl w (rb k) a (.bool (t k a)):=HL.r k a d0 ha;have x2:Cl w (rb k) b (.bool (t k b)):=HL.r k b d0 hb;obtain⟨y1,h0⟩:∃y,y=t k a:=⟨_,rfl⟩;obtain⟨y2,i0⟩:∃y,y=t k b:=⟨_,rfl⟩;rw[<-h0]at x1;rw[<-i0]at x2;have l0:Hid (Vf n (λi j=>t j i) a b k 0=(y1 && y2)):=(by show _=_;unfold Vf;simp[h0,i0]);have j0:=Zz d0
   have c0:Hid (∀ls:Bool,ls=(y1 && y2)->ls=Vf n (λi j=>t j i) a b k 0):=λls h=>by rw[h];exact l0.symm
   clear h0 i0;have m0:Hid (∃y0,y0=(y1 && y2)):=⟨_,rfl⟩
   cases y1<;>cases y2
   all_goals
    have n0:Hid _:=c0 _ rfl
    go_wp2_with fail
    go_loopw [8,9] (λls i wr=>wr=w/\∃j:Nat,j<=n/\i=Iq j/\ls=.bool (Vf n (λi j=>t j i) a b k j)) (λ_ i _=>n - (intOf i).toNat)
    case atStart=>exact⟨rfl,0,Nat.zero_le _,rfl,by rw[<-n0.out];rfl⟩
    case round=>
     obtain⟨b0,j,hj,rfl,rfl⟩:=hrel;rw[b0];clear b0 wr
     by_cases e0:j<n
     ·have o0:(j:Int)<(n:Int):=by omega
      have cj:=HL.c j e0;have z1:Cl w (rb j) a (.bool (t j a)):=HL.r j a e0 ha;have z2:Cl w (rb j) b (.bool (t j b)):=HL.r j b e0 hb;have z3:Cl w (rb j) k (.bool (t j k)):=HL.r j k e0 j0.out;have HS:Hid (Vf n (λi j=>t j i) a b k (j+1)=(Vf n (λi j=>t j i) a b k j && (!(t j a)||!(t j b)||t j k))):=zk8 n (λi j=>t j i) a b k j;generalize Vf n (λi j=>t j i) a b k j=lj at*;generalize t j a=u1 at*;generalize t j b=u2 at*;generalize t j k=u3 at*
      cases lj<;>cases u1<;>cases u2<;>cases u3
      all_goals
       go_wp2
       go_roundw
       case rel=>exact⟨by first|rfl|trivial,j+1,by omega,by go_num,by rw[HS.out];rfl⟩
       case measure=>simp[intOf];omega
     have o0:¬(j:Int)<(n:Int):=(by omega)
     obtain rfl:j=n:=by omega
     cases f0:Vf j (λi j=>t j i) a b k j with
     |true=>
      have HE:Hid (aV=(k:Int)):=(by show _=_;rw[a0.out];exact zcw _ _ _ j0 f0 g0);clear f0;go_wp2;go_ret;exact⟨by rw[HE.out];rfl,rfl⟩
     |false=>
      have q0:Hid (∀x,x<k+1->Fl.cQ j (λi j=>t j i) a b x=false):=λx hx=>by
       by_cases r0:x=k
       ·subst r0;exact f0
       exact g0 x (by omega)
      clear f0;go_wp2
      go_roundw
      case rel=>exact⟨by first|rfl|trivial,k+1,by omega,by go_num,q0⟩
      case measure=>simp[intOf];omega
  have k0:¬(k:Int)<(n:Int):=(by omega);have HE:Hid (aV= -1):=(by show _=_;rw[a0.out];exact zk9 _ _ (λx hx=>g0 x (by omega)));go_wp2;go_ret;exact⟨by rw[HE.out];rfl,rfl⟩
section
variable{P:Program}{S:World->Prop}
def ykx{l:List (Nat×Oper)}{j:Nat}{b:Bool}(hg:o.guard=some (j,b))(hy:yielded ops a.tmps j=none)
  (h:Yg P ops S Q l (a.put o.dst undef) w):Yg P ops S Q ((0,o)::l) a w:=⟨undef,.inr ⟨by simp[Region.wanted,hg,hy],rfl⟩,h⟩
end
def Ye.drew{base:Nat}{w:World}{Lq:Nat}{rb:Nat->Nat}{n:Nat}{t:Fl.cM}(h:Ye base w Lq rb n t):Ye base w.drew Lq rb n t:=⟨h.c,h.r,h.z,h.inj,h.ge⟩
section
variable{m:Yl}{fl:List FlS}
def zb2{e:TypeId}{v:Value}{xs:List Value}(h:w.ownsRow base e 1 v n xs)(hn:0<n):∃g cap,v=.slice (some (Aq g 0)) n cap/\base<=g/\g<w.heap.size/\∀j u,xs[j]?=some u->w.cell? (Aq g j)=some u:=by
 rcases h.2 with⟨rfl,h0⟩|⟨g,cap,cur,rfl,hb,hg,_⟩
 ·omega
 refine⟨g,cap,rfl,hb,(Array.getElem?_eq_some_iff.1 hg).1,λj u hu=>?_⟩;have h1:=h.cells (g:=g) rfl j u hu
 have h2:((Aq g 0):Addr).add j=(Aq g j):=by unfold Addr.add;split<;>simp_all
 rw[h2]at h1;exact h1
def Zs.ints(h:Zs lo base Rb Pb w0 w m)(j:Nat)(hj:Zr j)(xs:List Nat)(hr:m.n j=xs.length/\m.xs j=Yi xs)(hz:rSz j=1)(h0:0<xs.length):∃g c,m.v j=.slice (some (Aq g 0)) xs.length c/\g<w.heap.size/\∀i (hi:i<xs.length),w.cell? (Aq g i)=some (Iq (xs[i]:Nat)):=by
 have ho:=h.own j hj;rw[hr.1,hr.2,hz]at ho;obtain⟨g,c,h1,h2,h3,h4⟩:=zb2 ho h0;exact⟨g,c,h1,h3,λi hi=>h4 i _ (by simp[Yi,hi])⟩
def yww(h:Zs lo base Rb Pb w0 w m)(hr:zaw r t m)(ht:t<=1000000):
  Cq 27 #[Pq Rb] w (zs0 lo base Rb Pb w0 m r.au.length r.tab (Fl.bt r.au.length r.tab)):=by
 obtain⟨b1,b2,b3,b4,b5,b6,b7⟩:=h.bL;obtain⟨d1,k1,P0⟩:=h.shape 1 (by unfold Zr;omega);obtain⟨d5,k5,C0⟩:=h.shape 5 (by unfold Zr;omega);obtain⟨d6,k6,D0⟩:=h.shape 6 (by unfold Zr;omega);rw[hr.r1.1]at P0;rw[hr.r5.1]at C0;rw[hr.r6.1,<-hr.pr]at D0;have k0:Hid (r.tab=Fl.fw r.au.length (Fl.eQ r.aM r.aG)):=rfl;obtain⟨n,hn⟩:=nmE (r.au.length)
 have Q0:n<=6:=by rw[hn];exact hr.lv
 obtain⟨W2,R0⟩:=nmE (w.setCell (Aq Pb 0) (Iq (n:Int)))
 have H2:Hid (Zs lo base Rb Pb w0 W2 {m with N:=n}):=by show Zs _ _ _ _ _ _ _;rw[R0];exact h.oR n
 obtain⟨z,hz⟩:=nmE (W2.heap.size)
 have W1:base<=z:=by rw[hz];exact H2.bL.2.2.2.2.2.1
 obtain⟨aM,e0⟩:=nmE (r.aM);obtain⟨aG,a0⟩:=nmE (r.aG);rw[<-e0]at C0 D0
 have X1:aM.length<=1000000:=by rw[e0];have:=hr.lw;omega
 have J0:Hid (aM.length=aG.length):=by show _=_;rw[e0,a0];exact hr.pr
 have m1:Hid (∀i (hi:i<aM.length),aM[i]<n):=by rw[e0,hn];exact λi hi=>hr.bw.1 _ (List.getElem_mem hi)
 have n1:Hid (∀i (hi:i<aG.length),aG[i]<n):=by rw[a0,hn];exact λi hi=>hr.bw.2 _ (List.getElem_mem hi)
 have HA:Hid (∀W,Below z W2 W->Cl W Rb 0 (Pq Pb)/\Cl W Rb 5 (.slice d5 aM.length k5)/\Cl W Rb 6 (.slice d6 aM.length k6)):=λW hW=>by
  rw[hz]at hW;have h1:=(H2.below hW).cR.c;exact⟨h1 0 (by omega),by rw[<-C0];exact h1 5 (by omega),by rw[<-D0];exact h1 6 (by omega)⟩
 have o1:Hid (0<aM.length->∃g5 g6,d5=some (Aq g5 0)/\d6=some (Aq g6 0)/\∀W,Below z W2 W->∀i (hi:i<aM.length) (hi':i<aG.length),Cl W g5 i (Iq (aM[i]:Nat))/\Cl W g6 i (Iq (aG[i]:Nat))):=λh0=>by
  obtain⟨g5,c5,e5,l5,q5⟩:=H2.ints 5 (by unfold Zr;omega) aM (by rw[e0];exact hr.r5) rfl h0;obtain⟨g6,c6,e6,l6,q6⟩:=H2.ints 6 (by unfold Zr;omega) aG (by rw[a0];exact hr.r6) rfl (by rw[<-J0.out];exact h0);have e5':m.v 5=.slice (some (Aq g5 0)) aM.length c5:=e5;have e6':m.v 6=.slice (some (Aq g6 0)) aG.length c6:=e6;rw[C0]at e5';rw[D0]at e6';injection e5' with e5a;injection e6' with e6a;refine⟨g5,g6,e5a,e6a,λW hW i hi hi'=>⟨?_,?_⟩⟩
  ·exact(hW.cell (p:=(Aq g5 i)) (by rw[hz];exact l5)).trans (q5 i hi)
  exact(hW.cell (p:=(Aq g6 i)) (by rw[hz];exact l6)).trans (q6 i hi')
 have x0:Cl w Rb 0 (Pq Pb):=h.cR.c 0 (by omega)
 have x1:w.cell? (Aq Rb 1)=some (.slice d1 n k1):=by rw[hn,<-P0];exact h.cR.c 1 (by omega)
 obtain⟨v0,p0⟩:∃v,Cl w Pb 0 v:=⟨_,h.cP.c 0 (by omega)⟩;have z0:w.frozen? (Aq Pb 0)=false:=h.cP.z 0;have A1:Hid (∀W,(Instr.makeSlice 35 (Iq n) (Iq n)).run prog W=.ok (.slice (some (Aq W.heap.size 0)) n n) (W.alloc (.cells (Vn n Zq).toArray 141))):=λW=>yk8 W n Q0;have B1:Hid (∀W,(Instr.makeSlice 141 (Iq n) (Iq n)).run prog W=.ok (.slice (some (Aq W.heap.size 0)) n n) (W.alloc (.cells (Vn n (.bool false)).toArray 4))):=λW=>yk7 W n Q0;rw[<-hn]at k0⊢;rw[<-e0,<-a0]at k0;obtain⟨T,hT⟩:=nmE (r.tab);rw[<-hT]at k0⊢
 have C1:(n:Int)<=6:=by omega
 have Y1:(aM.length:Int)<=1000000:=by omega
 have q1:=Zz Q0;have HZ:=Zz hz;have D1:=Zz R0;clear h hr hn R0 hz e0 a0 hT P0 C0 D0
 go_enter func27,ntmps27
 go_wp2_with fail
 rw[A1.out,<-D1.out,<-HZ.out];clear x0 x1 p0 z0;obtain⟨W3,K0⟩:=nmE (W2.alloc (.cells (Vn n Zq).toArray 141))
 have E1:Hid (Below z W2 W3):=by show Below _ _ _;rw[K0];exact(Below.refl _ _).alloc (by rw[HZ.out];exact Nat.le_refl _) _
 have F1:Hid (zvv z W3 z (λ_=>0) n 0):=by show zvv _ _ _ _ _ _;have h1:=zvv.ae W2 n z (by rw[HZ.out];exact Nat.le_refl _) (λ_=>0);rw[K0];rw[<-HZ.out]at h1;exact h1
 rw[<-K0];clear K0
 go_wp2_with fail
 go_loopw [5] (λi wr=>∃(k:Nat) (rb:Nat->Nat),k<=n/\i=Iq k/\Below z W2 wr/\zvv z wr z rb n k) (λi _=>n - (intOf i).toNat)
 case atStart=>exact⟨0,_,Nat.zero_le _,rfl,E1,F1⟩
 case round=>
  obtain⟨k,rb,hk,rfl,hB,hQ⟩:=hrel;have HB:=Zz hB;have HQ:=Zz hQ;have L0:z<wr.heap.size:=hQ.ge.2.1;clear hB hQ
  by_cases d0:k<n
  ·have G1:(k:Int)<(n:Int):=by omega
   have q0:Cl wr z k Zq:=HQ.o k (Nat.le_refl _) d0;have f0:wr.frozen? (Aq z k)=false:=HQ.zL k;obtain⟨Wa,s0⟩:=nmE (wr.alloc (.cells (Vn n (.bool false)).toArray 4));obtain⟨nb,hnb⟩:=nmE (wr.heap.size);have S0:Hid (Bq wr Wa):=(by show Below _ _ _;rw[s0];exact bA);have qa:Cl Wa z k Zq:=(S0.cell (p:=(Aq z k)) L0).trans q0;have fa:Wa.frozen? (Aq z k)=false:=(S0.frozen (p:=(Aq z k)) L0).trans f0;have qb:Wa.cell? (Aq nb k)=some (.bool false):=by
    have hc:=(Zb.new wr (Vn n (.bool false)) 4).c k (by simp[Vn];exact d0);rw[s0,hnb,hc];simp[rw_,Vn,d0]
   have fb:Wa.frozen? (Aq nb k)=false:=(by rw[s0,hnb];exact(Zb.new wr (Vn n (.bool false)) 4).z k);have Z1:z<nb:=(by rw[hnb];exact L0);have g0:Hid (zvv z ((Wa.setCell (Aq z k) (.slice (some (Aq nb 0)) n n)).setCell (Aq nb k) (.bool true)) z (λa=>if a=k then nb else rb a) n (k+1)):=(by show zvv _ _ _ _ _ _;rw[s0,hnb];exact HQ.next d0);have n0:Hid (Below z W2 ((Wa.setCell (Aq z k) (.slice (some (Aq nb 0)) n n)).setCell (Aq nb k) (.bool true))):=((HB.trans (S0.mono (by omega))).setCell (Nat.le_refl _) _).setCell (by show z<=nb;omega) _;have H1:=Zz s0;have U0:=Zz hnb;clear q0 f0 s0 hnb
   go_wp2_with fail
   rw[B1.out,<-H1.out,<-U0.out];go_wp2
   go_roundw
   case rel=>exact⟨k+1,_,by omega,by go_num,n0,g0⟩
   case measure=>simp[intOf];omega
  have G1:¬(k:Int)<(n:Int):=(by omega)
  obtain rfl:k=n:=by omega
  have t0:Hid (Ye z wr z rb k (Fl.eQ (aM.take 0) (aG.take 0))):=HQ.all;clear HQ L0
  go_wp2_with fail
  obtain⟨wo,I1⟩:=nmE (wr);subst I1;have J1:(k:Int)<=6:=C1
  go_loopw [6] (λi wr=>∃p:Nat,p<=aM.length/\i=Iq p/\Below z W2 wr/\Ye z wr z rb k (Fl.eQ (aM.take p) (aG.take p))) (λi _=>aM.length - (intOf i).toNat)
  case atStart=>exact⟨0,Nat.zero_le _,rfl,HB,t0⟩
  case round=>
   obtain⟨p,hp,rfl,hB,hQ⟩:=hrel;clear HB t0;have HB:=Zz hB;have HQ:=Zz hQ;clear hB hQ;obtain⟨y0,y5,y6⟩:=HA wr HB.out
   by_cases d0:p<aM.length
   ·have K1:(p:Int)<(aM.length:Int):=by omega
    have M0:p<aG.length:=(by rw[<-J0.out];exact d0);obtain⟨g5,g6,e5,e6,hg⟩:=o1 (by omega);have c56:=hg wr.drew HB.drew p d0 M0;rw[e5]at y5;rw[e6]at y6;have u0:=m1 p d0;have V0:=n1 p M0;have g0:Hid (Ye z (wr.drew.setCell ⟨rb aM[p],aG[p],none⟩ (.bool true)) z rb k (Fl.eQ (aM.take (p+1)) (aG.take (p+1)))):=HQ.drew.pair J0 d0 M0 u0 V0;have n0:Hid (Below z W2 (wr.drew.setCell ⟨rb aM[p],aG[p],none⟩ (.bool true))):=HB.drew.setCell (HQ.ge.2 _ u0).1 _;have cL:wr.drew.cell? ⟨z,aM[p],none⟩=some (.slice (some ⟨rb aM[p],0,none⟩) k k):=HQ.drew.c _ u0;obtain⟨vr,cR⟩:∃v,wr.drew.cell? ⟨rb aM[p],aG[p],none⟩=some v:=⟨_,HQ.drew.r _ _ u0 V0⟩;have fR:wr.drew.frozen? ⟨rb aM[p],aG[p],none⟩=false:=HQ.drew.z _ _ u0;have y5':Cl wr.drew Rb 5 (.slice (some (Aq g5 0)) aM.length k5):=y5;have y6':Cl wr.drew Rb 6 (.slice (some (Aq g6 0)) aM.length k6):=y6;have cl1:Cl (wr.drew) g5 p (Iq (aM[p]:Nat)):=c56.1;have ch1:Cl (wr.drew) g6 p (Iq (aG[p]:Nat)):=c56.2;obtain⟨la,m0⟩:=nmE (aM[p]);obtain⟨hb,s1⟩:=nmE (aG[p]);rw[<-m0]at cl1 cL cR fR g0 n0 u0;rw[<-s1]at ch1 cR fR g0 n0 V0;have L1:(la:Int)<(k:Int):=(by omega);have M1:(hb:Int)<(k:Int):=(by omega);clear c56 hg m0 s1 e5 e6 y0 M0
    go_wp2_with fail
    refine Zi (λW=>Cl W Rb 5 (.slice (some (Aq g5 0)) aM.length k5)/\Cl W Rb 6 (.slice (some (Aq g6 0)) aM.length k6)/\Cl W g5 p (Iq (la:Nat))/\Cl W g6 p (Iq (hb:Nat))/\W.cell? (Aq z la)=some (.slice (some (Aq (rb la) 0)) k k)) [] [18] [] ⟨y5',y6',cl1,ch1,cL⟩ (by kernel_rfl) (λc a d v w h=>by cases d<;>exact h) (λops hG=>?_);clear hG y5 y6 y5' y6' cl1 ch1 cL
    iterate 18 refine Zw rfl (by rintro _ ⟨_,_,_,_,_⟩;go_simp<;>rfl) (by go_simp<;>rfl) ?_
    refine Xp ?_
    go_wp2_with fail
    refine Zu ?_;go_wp2
    go_roundw
    case rel=>exact⟨p+1,by omega,by go_num,n0,g0⟩
    case measure=>simp[intOf];omega
   have K1:¬(p:Int)<(aM.length:Int):=(by omega)
   obtain rfl:p=aM.length:=by omega
   have t0:Hid (Ye z wr z rb k (Fl.fw 0 (Fl.eQ aM aG))):=(by show Ye _ _ _ _ _ _;have h1:=HQ.out;rw[List.take_length,J0.out,List.take_length]at h1;exact h1);clear HQ
   go_wp2_with fail
   clear y5 y6 y0;obtain⟨T0,t1⟩:=nmE (Fl.eQ aM aG);rw[<-t1]at k0 t0;clear t1 o1 m1 n1;obtain⟨wo2,W0⟩:∃wo,wo=wr:=⟨_,rfl⟩;subst W0
   go_loopw [7] (λi wr=>∃s:Nat,s<=k/\i=Iq s/\Below z W2 wr/\Ye z wr z rb k (Fl.fw s T0)) (λi _=>k - (intOf i).toNat)
   case atStart=>exact⟨0,Nat.zero_le _,rfl,HB,t0⟩
   case round=>
    obtain⟨s,hs,rfl,hB,hQ⟩:=hrel;clear HB t0;have HB:=Zz hB;have HQ:=Zz hQ;clear hB hQ
    by_cases d0:s<k
    ·have N1:(s:Int)<(k:Int):=by omega
     have u1:Hid (Ye z wr z rb k (Fl.mixTab s (Fl.fw s T0) 0 0)):=HQ.mD;clear HQ
     go_wp2_with fail
     obtain⟨wo3,X0⟩:∃wo,wo=wr:=⟨_,rfl⟩;subst X0
     go_loopw [8] (λi wr=>∃x:Nat,x<=k/\i=Iq x/\Below z W2 wr/\Ye z wr z rb k (Fl.mixTab s (Fl.fw s T0) x 0)) (λi _=>k - (intOf i).toNat)
     case atStart=>exact⟨0,Nat.zero_le _,rfl,HB,u1⟩
     case round=>
      obtain⟨x,hx,rfl,hB,hQ⟩:=hrel;clear HB u1;have HB:=Zz hB;have HM:=Zz hQ;clear hB hQ
      by_cases A0:x<k
      ·have O1:(x:Int)<(k:Int):=by omega
       go_wp2_with fail
       obtain⟨wo4,Y0⟩:∃wo,wo=wr:=⟨_,rfl⟩;subst Y0
       go_loopw [9] (λi wr=>∃y:Nat,y<=k/\i=Iq y/\Below z W2 wr/\Ye z wr z rb k (Fl.mixTab s (Fl.fw s T0) x y)) (λi _=>k - (intOf i).toNat)
       case atStart=>exact⟨0,Nat.zero_le _,rfl,HB,HM⟩
       case round=>
        obtain⟨y,hy,rfl,hB,hQ⟩:=hrel;clear HB HM;have HB:=Zz hB;have HM:=Zz hQ;clear hB hQ
        by_cases Z0:y<k
        ·have P1:(y:Int)<(k:Int):=by omega
         have g0:Hid (Ye z (wr.drew.setCell (Aq (rb x) y) (.bool (Fl.mixTab s (Fl.fw s T0) x y x y||(Fl.mixTab s (Fl.fw s T0) x y x s && Fl.mixTab s (Fl.fw s T0) x y s y)))) z rb k (Fl.mixTab s (Fl.fw s T0) x (y+1))):=HM.drew.mix A0 Z0;have n0:Hid (∀v,Below z W2 (wr.drew.setCell (Aq (rb x) y) v)):=λv=>HB.drew.setCell (HM.ge.2 _ A0).1 _;have cx:wr.drew.cell? (Aq z x)=some (.slice (some (Aq (rb x) 0)) k k):=HM.drew.c _ A0;have cs:wr.drew.cell? (Aq z s)=some (.slice (some (Aq (rb s) 0)) k k):=HM.drew.c _ d0;have r1:Cl wr.drew (rb x) y (.bool (Fl.mixTab s (Fl.fw s T0) x y x y)):=HM.drew.r _ _ A0 Z0;have r2:Cl wr.drew (rb x) s (.bool (Fl.mixTab s (Fl.fw s T0) x y x s)):=HM.drew.r _ _ A0 d0;have r3:Cl wr.drew (rb s) y (.bool (Fl.mixTab s (Fl.fw s T0) x y s y)):=HM.drew.r _ _ d0 Z0;have fz:wr.drew.frozen? (Aq (rb x) y)=false:=HM.drew.z _ _ A0;generalize Fl.mixTab s (Fl.fw s T0) x y x y=c1 at*;generalize Fl.mixTab s (Fl.fw s T0) x y x s=c2 at*;generalize Fl.mixTab s (Fl.fw s T0) x y s y=c3 at*;clear HM
         cases c1 with
         |true=>
          have g0:=Zz g0.out
          go_wp2_with fail
          refine Zi (λW=>W.cell? (Aq z x)=some (.slice (some (Aq (rb x) 0)) k k)/\W.cell? (Aq z s)=some (.slice (some (Aq (rb s) 0)) k k)/\Cl W (rb x) y (.bool true)/\Cl W (rb x) s (.bool c2)/\Cl W (rb s) y (.bool c3)) [] [31] [(12,98),(20,106)] ⟨cx,cs,r1,r2,r3⟩ (by kernel_rfl) (λc a d v w h=>by cases d<;>exact h) (λops ⟨g1,g2,_⟩=>?_);clear cx cs r2 r3
          iterate 13 refine Zw rfl (by rintro _ ⟨_,_,_,_,_⟩;go_simp<;>rfl) (by go_simp<;>rfl) ?_
          iterate 8
           refine Ys rfl (c:=true) (by simp[yielded,g1,Act.put]) (by decide) ?_
          iterate 7
           refine ykx rfl (by simp[yielded,g2,Act.put,undef]) ?_
          iterate 1
           refine Ys rfl (c:=true) (by simp[yielded,g1,Act.put]) (by decide) ?_
          iterate 2 refine Zw rfl (by rintro _ ⟨_,_,_,_,_⟩;go_simp<;>rfl) (by go_simp<;>rfl) ?_
          clear g1 g2;refine Xp ?_
          go_wp2_with fail
          refine Zu ?_;go_wp2
          go_roundw
          case rel=>exact⟨y+1,by omega,by go_num,n0 _,g0⟩
          case measure=>simp[intOf];omega
         |false=>
          cases c2 with
          |false=>
           have g0:=Zz g0.out
           go_wp2_with fail
           refine Zi (λW=>W.cell? (Aq z x)=some (.slice (some (Aq (rb x) 0)) k k)/\W.cell? (Aq z s)=some (.slice (some (Aq (rb s) 0)) k k)/\Cl W (rb x) y (.bool false)/\Cl W (rb x) s (.bool false)/\Cl W (rb s) y (.bool c3)) [] [31] [(12,98),(20,106)] ⟨cx,cs,r1,r2,r3⟩ (by kernel_rfl) (λc a d v w h=>by cases d<;>exact h) (λops ⟨g1,g2,_⟩=>?_);clear cx cs r2 r3
           iterate 21 refine Zw (by first|rfl|simp[Region.wanted,yielded,g1,Act.put]) (by rintro _ ⟨_,_,_,_,_⟩;go_simp<;>rfl) (by go_simp<;>rfl) ?_
           iterate 7
            refine Ys rfl (c:=false) (by simp[yielded,g2,Act.put]) (by decide) ?_
           iterate 3 refine Zw (by first|rfl|simp[Region.wanted,yielded,g1,Act.put]) (by rintro _ ⟨_,_,_,_,_⟩;go_simp<;>rfl) (by go_simp<;>rfl) ?_
           clear g1 g2;refine Xp ?_
           go_wp2_with fail
           refine Zu ?_;go_wp2
           go_roundw
           case rel=>exact⟨y+1,by omega,by go_num,n0 _,g0⟩
           case measure=>simp[intOf];omega
          |true=>
           have g0:=Zz g0.out
           go_wp2_with fail
           refine Zi (λW=>W.cell? (Aq z x)=some (.slice (some (Aq (rb x) 0)) k k)/\W.cell? (Aq z s)=some (.slice (some (Aq (rb s) 0)) k k)/\Cl W (rb x) y (.bool false)/\Cl W (rb x) s (.bool true)/\Cl W (rb s) y (.bool c3)) [] [31] [(12,98),(20,106)] ⟨cx,cs,r1,r2,r3⟩ (by kernel_rfl) (λc a d v w h=>by cases d<;>exact h) (λops ⟨g1,g2,_⟩=>?_);clear cx cs r2 r3
           iterate 31 refine Zw (by first|rfl|simp[Region.wanted,yielded,g1,g2,Act.put]) (by rintro _ ⟨_,_,_,_,_⟩;go_simp<;>rfl) (by go_simp<;>rfl) ?_
           clear g1 g2;refine Xp ?_
           go_wp2_with fail
           refine Zu ?_;go_wp2
           go_roundw
           case rel=>exact⟨y+1,by omega,by go_num,n0 _,g0⟩
           case measure=>simp[intOf];omega
        have P1:¬(y:Int)<(k:Int):=(by omega)
        obtain rfl:y=k:=by omega
        have a1:Hid (Ye z wr z rb y (Fl.mixTab s (Fl.fw s T0) (x+1) 0)):=HM.nS;clear HM;go_wp2
        go_roundw
        case rel=>exact⟨x+1,by omega,by go_num,HB,a1⟩
        case measure=>simp[intOf];omega
      have O1:¬(x:Int)<(k:Int):=(by omega)
      obtain rfl:x=k:=by omega
      have a1:Hid (Ye z wr z rb x (Fl.fw (s+1) T0)):=HM.nR;clear HM;go_wp2
      go_roundw
      case rel=>exact⟨s+1,by omega,by go_num,HB,a1⟩
      case measure=>simp[intOf];omega
    have N1:¬(s:Int)<(k:Int):=(by omega)
    obtain rfl:s=k:=by omega
    rw[<-k0.out]at HQ;obtain⟨y0,y5,y6⟩:=HA wr HB.out;have N0:Hid (Zs lo base Rb Pb w0 wr {m with N:=s}):=by
     have h1:=HB.out;rw[HZ.out]at h1;exact H2.below h1
    obtain⟨v1,p1⟩:∃v,Cl wr Pb 1 v:=⟨_,N0.cP.c 1 (by omega)⟩;have pz:wr.frozen? (Aq Pb 1)=false:=N0.cP.z 1;have l0:Hid (Zs lo base Rb Pb w0 (wr.setCell (Aq Pb 1) (.slice (some (Aq z 0)) s s)) {m with N:=s,leq:=.slice (some (Aq z 0)) s s}):=N0.nQ _;have j0:Hid (Ye z (wr.setCell (Aq Pb 1) (.slice (some (Aq z 0)) s s)) z rb s T):=HQ.kept (λb hb _=>Zx _ _ _ _ _ (by omega));clear HQ y5 y6 N0 HB
    go_wp2_with fail
    obtain⟨W5,y1⟩:=nmE (wr.setCell (Aq Pb 1) (.slice (some (Aq z 0)) s s));rw[<-y1]at l0 j0⊢;clear y1 p1 pz y0;obtain⟨wo5,e1⟩:∃wo,wo=wr:=⟨_,rfl⟩;subst e1;have y0:Cl W5 Rb 0 (Pq Pb):=l0.cR.c 0 (by omega);have p0:Cl W5 Pb 0 (Iq s):=l0.cP.c 0 (by omega);have p1:Cl W5 Pb 1 (.slice (some (Aq z 0)) s s):=l0.cP.c 1 (by omega)
    have b0:Hid (∀v:Bool,v=Fl.bt s T->zs0 lo base Rb Pb w0 m s T (Fl.bt s T) (.returned (.bool v)) W5):=λv hv=>by
     rw[<-hv];refine⟨rfl,_,_,λb=>0<s/\(b=z\/∃i,i<s/\b=rb i),W5,{l0.out with kp:=λb hb=>?_},rfl,z,rb,rfl,⟨j0.c,j0.r,j0.z,j0.inj,Nat.zero_le _,λi hi=>⟨Nat.zero_le _,(j0.ge.2 i hi).2⟩⟩,λh0=>⟨h0,.inl rfl⟩,λi hi=>⟨by omega,.inr ⟨i,hi,rfl⟩⟩⟩;have d0:=j0.lt hb.1;have Q1:z<=b/\b<W5.heap.size:=by
      rcases hb.2 with rfl|⟨i,hi,rfl⟩
      ·exact⟨Nat.le_refl _,d0.1⟩
      exact⟨(j0.ge.2 i hi).1,d0.2 i hi⟩
     refine⟨by omega,Q1.2,rfl,λj hj hh=>?_⟩;have:=((H2.own j hj).lt b hh).2;have:=HZ.out;omega
    have HJ:Hid (∀a b,a<s->b<s->Cq 53 #[Pq Pb,Iq a,Iq b] W5 λe w'=>e=.returned (Iq (Fl.join s T a b))/\w'=W5):=λa b ha hb=>yk5 j0 Pb a b q1 ha hb p0 p1;have R1:Hid (∀a b,a<s->b<s->Cq 54 #[Pq Pb,Iq a,Iq b] W5 λe w'=>e=.returned (Iq (Fl.fU s T a b))/\w'=W5):=λa b ha hb=>yky j0 Pb a b q1 ha hb p0 p1;clear p0 p1
    go_loopw [10] (λi wr=>wr=W5/\∃a:Nat,a<=s/\i=Iq a/\∀i j,i<a->j<s->Fl.bW s T i j=true) (λi _=>s - (intOf i).toNat)
    case atStart=>exact⟨rfl,0,Nat.zero_le _,rfl,λi j hi=>by omega⟩
    case round=>
     obtain⟨E0,a,ha,rfl,F0⟩:=hrel;have z1:=Zz F0;rw[E0];clear F0 E0 wr
     by_cases m0:a<s
     ·have S1:(a:Int)<(s:Int):=by omega
      go_wp2_with fail
      go_loopw [11] (λi wr=>wr=W5/\∃b:Nat,b<=s/\i=Iq b/\∀j,j<b->Fl.bW s T a j=true) (λi _=>s - (intOf i).toNat)
      case atStart=>exact⟨rfl,0,Nat.zero_le _,rfl,λj hj=>by omega⟩
      case round=>
       obtain⟨E0,b,hb,rfl,F0⟩:=hrel;have o0:=Zz F0;rw[E0];clear F0 E0 wr
       by_cases hlb:b<s
       ·have T1:(b:Int)<(s:Int):=by omega
        have ca:=j0.c a m0;have cb:=j0.c b hlb;have ta:Cl W5 (rb a) b (.bool (T a b)):=j0.r a b m0 hlb;have tb:Cl W5 (rb b) a (.bool (T b a)):=j0.r b a hlb m0
        by_cases r0:a≠b/\T a b=true/\T b a=true
        ·obtain⟨h1,h2,h3⟩:=r0
         have bne:((a:Int) !=(b:Int))=true:=(by rw[bne_iff_ne];omega);rw[h2]at ta;rw[h3]at tb;have HE:Hid _:=b0 false (Fl.lattice_bad m0 hlb (Fl.pair_both h1 h2 h3)).symm;clear h1 h2 h3;go_wp2;go_ret;exact HE
        have f1:Hid (a=b\/T a b=false\/T b a=false):=by
         show _\/_\/_
         by_cases h1:a=b
         ·exact .inl h1
         cases h2:T a b with
         |false=>exact .inr (.inl rfl)
         |true=>cases h3:T b a with
          |false=>exact .inr (.inr rfl)
          |true=>exact absurd ⟨h1,h2,h3⟩ r0
        have i1:Hid (Cq 53 #[Pq Pb,Iq a,Iq b] W5 λe w'=>e=.returned (Iq (Fl.join s T a b))/\w'=W5):=HJ a b m0 hlb;have j1:Hid (Cq 54 #[Pq Pb,Iq a,Iq b] W5 λe w'=>e=.returned (Iq (Fl.fU s T a b))/\w'=W5):=R1 a b m0 hlb;have l1:Hid (0<=Fl.join s T a b->0<=Fl.fU s T a b->Fl.bW s T a b=true):=Fl.pair_good f1.out;have B0:Hid (Fl.join s T a b<0\/Fl.fU s T a b<0->false=Fl.bt s T):=λh=>(Fl.lattice_bad m0 hlb (Fl.pair_none h)).symm;generalize Fl.join s T a b=ja at*;generalize Fl.fU s T a b=mb at*;have HD:Hid (a=b\/(a≠b/\T a b=false)\/(a≠b/\T a b=true/\T b a=false)):=by
         show _\/_\/_;rcases f1.out with h1|h1|h1
         ·exact .inl h1
         ·by_cases h2:a=b
          ·exact .inl h2
          exact .inr (.inl ⟨h2,h1⟩)
         by_cases h2:a=b
         ·exact .inl h2
         cases h3:T a b with
         |false=>exact .inr (.inl ⟨h2,rfl⟩)
         |true=>exact .inr (.inr ⟨h2,rfl,h1⟩)
        clear r0 f1;rcases HD.out with h1|⟨h1,h2⟩|⟨h1,h2,h3⟩
        ·have beq:((a:Int) !=(b:Int))=false:=by simp[h1]
         clear h1 ta tb
         go_wp2_with fail
         refine i1.mono ?_;rintro e w1 ⟨rfl,c0⟩;rw[c0];clear c0 w1
         go_wp2_with fail
         refine j1.mono ?_;rintro e w1 ⟨rfl,c0⟩;rw[c0];clear c0 w1
         by_cases hj:ja<0
         ·have HE:Hid _:=b0 false (B0 (.inl hj))
          go_wp2;go_ret;exact HE
         have G0:0<=ja:=(by omega);clear hj
         by_cases hj:mb<0
         ·have HE:Hid _:=b0 false (B0 (.inr hj))
          go_wp2;go_ret;exact HE
         have H0:0<=mb:=(by omega)
         have i0:Hid (∀j,j<b+1->Fl.bW s T a j=true):=λj hj=>by
          by_cases I0:j=b
          ·rw[I0];exact l1 G0 H0
          exact o0 j (by omega)
         clear hj;go_wp2
         go_roundw
         case rel=>exact⟨by first|rfl|trivial,b+1,by omega,by go_num,i0⟩
         case measure=>simp[intOf];omega
        ·have bne:((a:Int) !=(b:Int))=true:=by rw[bne_iff_ne];omega
         rw[h2]at ta;clear h1 h2 tb
         go_wp2_with fail
         refine i1.mono ?_;rintro e w1 ⟨rfl,c0⟩;rw[c0];clear c0 w1
         go_wp2_with fail
         refine j1.mono ?_;rintro e w1 ⟨rfl,c0⟩;rw[c0];clear c0 w1
         by_cases hj:ja<0
         ·have HE:Hid _:=b0 false (B0 (.inl hj))
          go_wp2;go_ret;exact HE
         have G0:0<=ja:=(by omega);clear hj
         by_cases hj:mb<0
         ·have HE:Hid _:=b0 false (B0 (.inr hj))
          go_wp2;go_ret;exact HE
         have H0:0<=mb:=(by omega)
         have i0:Hid (∀j,j<b+1->Fl.bW s T a j=true):=λj hj=>by
          by_cases I0:j=b
          ·rw[I0];exact l1 G0 H0
          exact o0 j (by omega)
         clear hj;go_wp2
         go_roundw
         case rel=>exact⟨by first|rfl|trivial,b+1,by omega,by go_num,i0⟩
         case measure=>simp[intOf];omega
        have bne:((a:Int) !=(b:Int))=true:=(by rw[bne_iff_ne];omega);rw[h2]at ta;rw[h3]at tb;clear h1 h2 h3
        go_wp2_with fail
        refine i1.mono ?_;rintro e w1 ⟨rfl,c0⟩;rw[c0];clear c0 w1
        go_wp2_with fail
        refine j1.mono ?_;rintro e w1 ⟨rfl,c0⟩;rw[c0];clear c0 w1
        by_cases hj:ja<0
        ·have HE:Hid _:=b0 false (B0 (.inl hj))
         go_wp2;go_ret;exact HE
        have G0:0<=ja:=(by omega);clear hj
        by_cases hj:mb<0
        ·have HE:Hid _:=b0 false (B0 (.inr hj))
         go_wp2;go_ret;exact HE
        have H0:0<=mb:=(by omega)
        have i0:Hid (∀j,j<b+1->Fl.bW s T a j=true):=λj hj=>by
         by_cases I0:j=b
         ·rw[I0];exact l1 G0 H0
         exact o0 j (by omega)
        clear hj;go_wp2
        go_roundw
        case rel=>exact⟨by first|rfl|trivial,b+1,by omega,by go_num,i0⟩
        case measure=>simp[intOf];omega
       have T1:¬(b:Int)<(s:Int):=(by omega)
       have i0:Hid (∀i j,i<a+1->j<s->Fl.bW s T i j=true):=λi j hi hj=>by
        by_cases U1:i=a
        ·rw[U1];exact o0 j (by omega)
        exact z1 i j (by omega) hj
       go_wp2
       go_roundw
       case rel=>exact⟨by first|rfl|trivial,a+1,by omega,by go_num,i0⟩
       case measure=>simp[intOf];omega
     have S1:¬(a:Int)<(s:Int):=(by omega);have HE:=b0 (decide (0<s)) (Fl.lattice_good (λi j hi hj=>z1 i j (by omega) hj)).symm;have O0:=Zz HE;clear HE
     by_cases h0:0<s
     ·have V1:(0:Int)<(s:Int):=by omega
      rw[decide_eq_true h0]at O0;go_wp2;go_ret;exact O0
     have V1:¬(0:Int)<(s:Int):=(by omega);rw[decide_eq_false h0]at O0;go_wp2;go_ret;exact O0
end
end Go.Proofs.YtfhpibppblbgcaaGreatDoor
