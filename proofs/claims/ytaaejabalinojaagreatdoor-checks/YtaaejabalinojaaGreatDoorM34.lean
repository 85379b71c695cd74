import Derived.Test.YtaaejabalinojaaGreatDoorM32
import Derived.Test.YtaaejabalinojaaGreatDoorM33
import Derived.Deep.DeepCutAuto
set_option linter.all false
set_option maxRecDepth 100000
set_option maxHeartbeats 40000000
namespace Go.Proofs.YtaaejabalinojaaGreatDoor
open Go.RowKit Go.Proofs.Tryz
def Tryz.infoByteR:(Tryz.prog.info? 5).map (λi=>(i.zero,i.size,i.bytes))=some (some (.int .u8 0),1,1):=by kernel_rfl
def yj8{lo:Nat}{w0 w w':World}(h1:Below lo w0 w)(hz:lo<=w.heap.size)(h2:Below lo w0 w'):lo<=w'.heap.size:=by
 rcases Nat.lt_or_ge w'.heap.size lo with h|h
 ·have e1:=h2.block w'.heap.size h
  have e2:=h1.block w'.heap.size h;rw[Array.getElem?_eq_none (Nat.le_refl _)]at e1;rw[<-e1,Array.getElem?_eq_getElem (by omega)]at e2
  cases e2
 exact h
def zu9{ops:Array Oper}{rest:List Oper}{o:Oper}{a:Act}{Q:Exit->Act->World->Prop}(a0:o.guard=none)(x y:Operand)(ho:o.op=.store 86 x y)(w:World)(N:Nat)(c':Array Value)(hx:a.eval x=.pointer (some ⟨w.heap.size,0,none⟩))(hN:w.heap.size=N)(hy:a.eval y=.agg c')
  (h1:c'.all (·.oneCell')=true) (hsz:c'.size=10) (h:wpList prog ops Q rest (a.put o.dst undef) (w.alloc (.cells c' 86))):wpList prog ops Q (o::rest) a (w.alloc (.cells Zb 86)):=
 Jm a0 x y 86 ho w Zb c' hx hy (by rw[hsz];exact Tryz.infoStmt10) (by rw[hsz];rfl) h1 h
def lnS(s:Fl.Stmt)(at_:Nat):Fl.Stmt:=⟨s.kind,s.x,at_,s.e,[],[]⟩
def lnF(s:Fl.Stmt)(at_:Nat):FlS:=⟨0,lnS s at_⟩
def sArr(s:Fl.Stmt):Array Value:=Zq s.kind s.x s.e.op s.e.a.var s.e.a.v s.e.b.var s.e.b.v
def yj9(s:Fl.Stmt)(at_:Nat):(sArr s).setIfInBounds 2 (.int .i64 (at_:Int))=(Zo (lnF s at_)).toArray:=rfl
def RowWay(x0:ByteArray)(s:Fl.Stmt)(r':Fl.RS)(out:Nat×Fl.RS)(at_:Nat):Prop:=
 ((x0.toList==[105,102])=false/\(x0.toList==[119,104,105,108,101])=false/\(16<=r'.stmts->out.1=5)/\(r'.stmts<16->out=(0,r'.put (lnS s at_)))/\(s.kind=3\/s.kind=4))\/
 ∃(kd:Nat) (ch:Int),(((x0.toList==[105,102])=true/\(x0.toList==[119,104,105,108,101])=false/\kd=5/\ch=105)\/((x0.toList==[105,102])=false/\(x0.toList==[119,104,105,108,101])=true/\kd=6/\ch=119))/\(16<=r'.stmts\/3<=r'.fr.length->out.1=5)/\(r'.stmts<16->r'.fr.length<3->out=(0,r'.opens kd at_ s.e))/\s.kind=kd/\s.x=0
section
variable{lo base Rb Pb:Nat}{w0 w w':World}{m:Yn}{r:Fl.RS}{fl:List FlS}{t:Nat}
def zly(h:Zu lo base Rb Pb w0 w m)(hr:Zh r fl t m)(ht:t<=100000)(b off n cap:Nat)(hn:1<=n/\n<=maxLen)(hb:b<w.heap.size)(B1:b≠Rb/\∀j,Zt j->(m.v j).ownBlock≠some b)(at_:Nat)(x0:ByteArray)(k1:(x0.toList==[108,101,118,101,108])=false)(k2:(x0.toList==[98,101,108,111,119])=false)(k3:(x0.toList==[99,101,108,108])=false)(k4:(x0.toList==[99,104,97,110,110,101,108])=false)(k5:(x0.toList==[98,101,103,105,110])=false)(k6:(x0.toList==[101,108,115,101])=false)(k7:(x0.toList==[101,110,100])=false)(c0:w.cell? ⟨b,off,none⟩=some (.string x0))(a2:r.begun=true)(res:Nat×Fl.Stmt×Fl.RS)(out:Nat×Fl.RS)
  (hst:Calls prog 30 #[.pointer (some ⟨Rb,0,none⟩),.slice (some ⟨b,off,none⟩) n cap] w (zw8 lo base Rb Pb w0 w m fl t res))
  (V0:res.1≠0->out.1=res.1) (d2:res.1=0->Xf fl res.2.2/\cnt fl=res.2.2.stmts) (j0:res.1=0->RowWay x0 res.2.1 res.2.2 out at_):
  Calls prog 13 #[.pointer (some ⟨Rb,0,none⟩),.slice (some ⟨b,off,none⟩) n cap,.int .i64 (at_:Int)] w (Xu lo base Rb Pb w0 t out):=by
 obtain⟨b1,b2,b3,b4,b5,b6,b7⟩:=h.hba
 have S2:Rb<w.heap.size:=by omega
 have x7:w.cell? ⟨Rb,7,none⟩=some (.bool true):=by rw[<-a2,<-hr.bg];exact h.cR.c 7 (by omega)
 obtain⟨d8,k8',C1⟩:=h.shape 8 (by unfold Zt;omega);rw[hr.r8.1]at C1
 have x8:w.cell? ⟨Rb,8,none⟩=some (.slice d8 r.fr.length k8'):=by rw[<-C1];exact h.cR.c 8 (by omega)
 have B2:=hr.fr
 have C2:(r.fr.length:Int)<=3:=by omega
 have T2:=hr.ft
 have D2:fl.length<=100000:=by omega
 have g2:(fl.length:Int)<=100000:=by omega
 have U2:(0:Int)<(n:Int):=by omega
 have HH:=Zz h;have i2:=Zz hst;have B0:=Zz V0;have C0:=Zz j0;have D1:=Zz d2;have E1:=Zz B1.2;have s0:b≠Rb:=B1.1;clear h hr hst V0 j0 d2 B1 C1 B2 a2
 go_enter func13,ntmps13
 go_wp2_with fail
 refine i2.out.mono ?_;rintro e W1 ⟨F1,G1⟩;clear i2 x7 x8
 by_cases h0:res.1=0
 ·obtain⟨rfl,m1,W0,I0,X0⟩:=F1 h0
  obtain⟨H1,I1⟩:=D1.out h0;have j0:=C0.out h0;obtain⟨s,hs⟩:=nmE (res.2.1);obtain⟨r',hr'⟩:∃r',r'=res.2.2:=⟨_,rfl⟩;rw[<-hs]at j0;rw[<-hr']at I0 H1 I1 j0;have hk:=X0 b hb s0 E1.out;have c1:W1.cell? ⟨b,off,none⟩=some (.string x0):=(Qc (a:=⟨b,off,none⟩) hk.1).trans c0;have hbz:b<W1.heap.size:=Qe W1 _ c1;have J0:=Zz hk.2;obtain⟨sb,r0⟩:=nmE (W1.heap.size);obtain⟨q1,q2,q3,q4,q5,q6,q7⟩:=W0.hba;have V2:base<=sb:=(by omega);have J1:b<sb:=(by omega);have E2:Rb<sb:=(by omega);obtain⟨d10,k10,m0⟩:=W0.shape 10 (by unfold Zt;omega);rw[I0.r10.1]at m0;obtain⟨Wp,Y0⟩:=nmE (W1.alloc (.cells ((sArr s).setIfInBounds 2 (.int .i64 (at_:Int))) 86));have K1:Hid (Below sb W1 Wp):=(by show Below _ _ _;rw[Y0,r0];exact bA);have K0:Hid (Zu lo base Rb Pb w0 Wp m1):=(by have h9:=K1.out;rw[r0]at h9;exact W0.below h9);have n0:=Zz m0;have u0:=Zz I0.r10.1;have D0:=Zz I0.r10.2;have y10:Wp.cell? ⟨Rb,10,none⟩=some (.slice d10 fl.length k10):=(by rw[<-n0.out];exact K0.out.cR.c 10 (by omega));have F2:sb<Wp.heap.size:=(by rw[Y0,r0];simp);have L1:base<=Wp.heap.size:=(by omega);have M1:Rb<Wp.heap.size:=(by omega);have ysb:Wp.heap[sb]?=some (.cells (Zo (lnF s at_)).toArray 86 (0,0)):=(by rw[Y0,yj9,r0];exact Jt _ _ _ rfl)
  have j2:Hid (∀k,(Value.slice d10 fl.length k10).ownBlock=some k->k<sb):=λk u1=>by rw[r0];exact((W0.own 10 (by unfold Zt;omega)).lt k (by rw[m0];exact u1)).2
  have o0:Hid ((Value.slice d10 fl.length k10).ownBlock≠some b):=(by rw[<-m0];exact hk.2 10 (by unfold Zt;omega));have cp:Wp.cell? ⟨b,off,none⟩=some (.string x0):=(K1.out.cell (p:=⟨b,off,none⟩) J1).trans c1;have k0:=Zz I0;have HF:Hid (Xf fl r'/\cnt fl=r'.stmts):=⟨H1,I1⟩;have HG:=Zz j0;have eA:Zq res.2.1.kind res.2.1.x res.2.1.e.op res.2.1.e.a.var res.2.1.e.a.v res.2.1.e.b.var res.2.1.e.b.v=sArr s:=(by rw[hs];rfl);rw[eA];have l2:=Zz Y0;have Z0:=Zz r0;clear F1 G1 W0 I0 X0 H1 I1 j0 hk c1 m0 Y0 r0 eA hs hr' HH E1 B0 C0 D1 c0 q1 q2 q3 q4 q5 q6 q7
  go_wp2_with (refine Xz 9 ?_;refine zu9 rfl (.tmp 9) (.tmp 117) rfl W1 sb (sArr s) rfl Z0.out.symm rfl (Xq _ _ _ _ _ _ _) rfl ?_)
  rw[<-l2.out,<-Z0.out];clear l2 K1 Z0
  go_cut [] (λwc=>∃(g gc:Nat),Zu lo base Rb Pb w0 wc (m1.app 10 (.slice (some ⟨g,0,none⟩) (fl.length+1) gc) (Zo (lnF s at_)))/\wc.cell? ⟨b,off,none⟩=some (.string x0))
  case first=>
   refine zz8 (λW=>W.cell? ⟨Rb,10,none⟩=some (.slice d10 fl.length k10)/\W.heap[sb]?=some (.cells (Zo (lnF s at_)).toArray 86 (0,0))) [8,9,10,11,12] [(0,0),(0,1),(0,2),(0,3),(0,4),(0,5),(1,6),(1,7)] [(0,8),(0,10),(0,11)] 9 12 (by kernel_rfl) (by kernel_rfl) rfl [(_,_),(_,_),(_,_),(_,_),(_,_),(_,_),(_,_),(_,_)] [(_,_),(_,_),(_,_)] _ _ rfl rfl rfl rfl (λc a d v w h=>by cases d<;>exact h) ⟨y10,ysb⟩ (λops=>?_);simp only[List.getElem_toArray,List.getElem_cons_succ,List.getElem_cons_zero]
   iterate 4 refine Yf rfl (kE (by rintro _ ⟨_,_⟩;go_simp<;>rfl) (by go_simp<;>rfl) ?_)
   refine Yf rfl (λK hK=>?_);refine⟨.agg (Zo (lnF s at_)).toArray,λw' hw'=>zu5 (.tmp 9) 86 rfl sb rfl _ 86 (0,0) hw'.2 _ underlying86 rfl Tryz.infoStmt10,hK _ ?_⟩;clear hK K
   iterate 1 refine Yf rfl (kE (by rintro _ ⟨_,_⟩;go_simp<;>rfl) (by go_simp<;>rfl) ?_)
   refine zxy ?_
   go_wp2_with fail
   obtain⟨W3,a1⟩:=nmE ((Wp.alloc (.cells Zb 86)).drew);obtain⟨tb,E0⟩:=nmE (Wp.heap.size);have N1:Below Wp.heap.size Wp W3:=(by rw[a1];exact(bA).drew);have W2:Wp.heap.size+1=W3.heap.size:=(by rw[a1];simp);have t0:∀i u,(Zb.toList)[i]?=some u->W3.cell? ((⟨tb,0,none⟩:Addr).add i)=some u:=(by rw[a1,E0];exact zw1 (l:=Zb.toList) rfl);have L0:=Zz N1;have O1:Hid (W3.ownsRow base 86 10 (.slice d10 fl.length k10) fl.length (Ud fl)):=by
    have h1:=(K0.out.below N1).own 10 (by unfold Zt;omega);rw[n0.out,u0.out,D0.out]at h1;exact h1
   have x1:(λW=>W.cell? ⟨Rb,10,none⟩=some (.slice d10 fl.length k10)/\W.heap[sb]?=some (.cells (Zo (lnF s at_)).toArray 86 (0,0))) W3:=⟨(L0.out.cell (p:=⟨Rb,10,none⟩) (by show Rb<_;omega)).trans y10,(L0.out.block sb (by omega)).trans ysb⟩
   try rw[show ∀o,(Wp.drew.alloc o)=(Wp.alloc o).drew from λ_=>rfl]
   have eW3:(Wp.alloc (.cells #[.int .i64 0,.int .i64 0,.int .i64 0,.int .i64 0,.bool false,.int .i64 0,.bool false,.int .i64 0,.slice none 0 0,.slice none 0 0] 86)).drew=W3:=a1.symm;rw[eW3,<-E0];clear a1 E0 eW3 N1;refine⟨x1,?_⟩;refine zxy ?_;obtain⟨i0,M0,N0,O0,P0⟩:=info_parts Tryz.infoStmtP
   go_wp2_with (at_builtin;refine Zj _ rfl (.tmp 127) (.tmp 130) 45 rfl base 86 i0 (.agg Zb) 10 112 underlying45 M0 N0 O0 P0 rfl (by decide) _ _ _ rfl O1.out ⟨tb,0,none⟩ 1 1 Zb.toList rfl rfl (by decide) t0 ?c2 ?c3 ?c4 ?c5 ?_)
   case c2=>exact zn0
   case c3=>unfold maxLen;omega
   case c4=>omega
   case c5=>omega
   intro v' W4 e0 d1 F0;obtain⟨g,gc,rfl⟩:∃g gc,v'=.slice (some ⟨g,0,none⟩) (fl.length+1) gc:=by
    rcases e0.2 with⟨h1,h2⟩|⟨g,cp,cur,h1,_⟩
    ·omega
    exact⟨g,cp,h1⟩
   have g1:∀k,(Value.slice d10 fl.length k10).ownBlock=some k->base<=k/\k<Wp.heap.size+1:=λk hk=>by have:=O1.out.lt k hk;omega
   have X2:base<=g:=(e0.lt g rfl).1;have z0:W4.heap[Rb]?=W3.heap[Rb]?:=d1.block Rb (by omega) (λhh=>by have:=(g1 Rb hh.symm).1;omega);have y1:(λW=>W.cell? ⟨Rb,10,none⟩=some (.slice d10 fl.length k10)/\W.heap[sb]?=some (.cells (Zo (lnF s at_)).toArray 86 (0,0))) W4:=⟨(Qc (a:=⟨Rb,10,none⟩) z0).trans x1.1,(d1.block sb (by omega) (λhh=>by have:=j2.out sb hh.symm;omega)).trans x1.2⟩;have gz:∀j,W4.frozen? ⟨Rb,j,none⟩=false:=λj=>(Qd (a:=⟨Rb,j,none⟩) z0).trans ((L0.out.frozen (p:=⟨Rb,j,none⟩) (by show Rb<_;omega)).trans (K0.out.cR.z j));have g0:W4.cell? ⟨Rb,10,none⟩=some (.slice d10 fl.length k10):=y1.1;have P1:Hid (W4.there g (fl.length*10) 10):=zow e0;have H5:Hid (Zu lo base Rb Pb w0 ((W4.setCells g (fl.length*10) (Zo (lnF s at_))).setCell ⟨Rb,10,none⟩ (.slice (some ⟨g,0,none⟩) (fl.length+1) gc)) (m1.app 10 (.slice (some ⟨g,0,none⟩) (fl.length+1) gc) (Zo (lnF s at_)))):=by
    have h1:=K0.out.flat (W3:=W3) (W4:=W4) (g:=g) (cap:=gc) (z:=Zb.toList) (cs:=(Zo (lnF s at_))) L0.out (by rw[u0.out,D0.out];exact e0) rfl rfl (by rw[n0.out];exact d1) (by rw[n0.out];exact F0);rw[u0.out]at h1;exact h1
   have n2:Hid ((W4.setCell ⟨Rb,10,none⟩ (.slice (some ⟨g,0,none⟩) (fl.length+1) gc)).setCells g (fl.length*10) (Zo (lnF s at_))=(W4.setCells g (fl.length*10) (Zo (lnF s at_))).setCell ⟨Rb,10,none⟩ (.slice (some ⟨g,0,none⟩) (fl.length+1) gc)):=zx6 g Rb 10 _ (by omega) _ _ _;obtain⟨W5,i1⟩:=nmE (W4.setCells g (fl.length*10) (Zo (lnF s at_)));have o2:=Zz i1.symm;obtain⟨W6,Q1⟩:=nmE (W5.setCell ⟨Rb,10,none⟩ (.slice (some ⟨g,0,none⟩) (fl.length+1) gc));have G2:Hid ((W4.setCell ⟨Rb,10,none⟩ (.slice (some ⟨g,0,none⟩) (fl.length+1) gc)).setCells g (fl.length*10) ((Zo (lnF s at_))).toArray.toList=W6):=(by show _=_;rw[Q1,i1];exact n2.out);have p2:=Zz Q1;rw[<-i1]at H5;have g0':(W4.setCells g (fl.length*10) (Zo (lnF s at_))).cell? ⟨Rb,10,none⟩=some (.slice d10 fl.length k10):=(Qc (a:=⟨Rb,10,none⟩) (Up g _ W4 _ Rb (by omega))).trans g0;have gz':(W4.setCells g (fl.length*10) (Zo (lnF s at_))).frozen? ⟨Rb,10,none⟩=false:=(World.frozen?_setCells g _ _ _ _).trans (gz 10);have R1:Hid (∀v,(W4.setCell ⟨Rb,10,none⟩ v).there g (fl.length*10) 10):=λv j hj=>⟨by rw[Qc (a:=⟨g,fl.length*10+j,none⟩) (Zx _ _ _ _ _ (by show g≠Rb;omega))];exact(P1.out j hj).1,by rw[World.frozen?_setCell];exact(P1.out j hj).2⟩;rw[<-i1]at g0' gz';clear i1 Q1 n2;have S1:g≠b:=by
    rintro rfl;rcases F0 with h1|h1
    ·exact o0.out h1.symm
    simp only[Value.ownBlock,Option.some.injEq]at h1;omega
   have cw:W5.cell? ⟨b,off,none⟩=some (.string x0):=by
    refine(Qc (a:=⟨b,off,none⟩) ?_).trans cp;show W5.heap[b]?=Wp.heap[b]?;rw[<-o2.out];exact(Up g _ W4 _ b (Ne.symm S1)).trans ((d1.block b (by omega) (λhh=>o0.out hh.symm)).trans (L0.out.block b (by omega)))
   have r2:Hid (Zu lo base Rb Pb w0 (W5.setCell ⟨Rb,10,none⟩ (.slice (some ⟨g,0,none⟩) (fl.length+1) gc)) (m1.app 10 (.slice (some ⟨g,0,none⟩) (fl.length+1) gc) (Zo (lnF s at_)))/\(W5.setCell ⟨Rb,10,none⟩ (.slice (some ⟨g,0,none⟩) (fl.length+1) gc)).cell? ⟨b,off,none⟩=some (.string x0)):=⟨H5.out,(Qc (a:=⟨b,off,none⟩) (Zx _ _ _ _ _ s0)).trans cw⟩;have H2:Hid (∃(g gc:Nat),Zu lo base Rb Pb w0 W6 (m1.app 10 (.slice (some ⟨g,0,none⟩) (fl.length+1) gc) (Zo (lnF s at_)))/\W6.cell? ⟨b,off,none⟩=some (.string x0)):=(by show ∃g gc,_;rw[p2.out];exact⟨g,gc,r2.out⟩);clear H5 p2 cp cw;clear e0 d1 F0 z0 t0 O1 L0 g1 K0 n0 u0 D0 x1 M0 N0 O0 P0 i0
   go_wp2_with fail
   refine⟨y1,?_⟩
   try (refine Ux ?_;refine⟨y1,?_⟩)
   clear y1;have I2:(fl.length:Int)<(fl.length:Int)+1:=(by omega)
   try simp only[List.getElem_toArray,List.getElem_cons_succ,List.getElem_cons_zero]
   iterate 3 refine Yf rfl (kE (by rintro _ -;go_simp<;>rfl) (by go_simp<;>rfl) ?_)
   refine Ux ?_;refine⟨trivial,?_,?_⟩
   ·go_wp2_with (refine Xz 132 ?_;refine Vk rfl 86 (.tmp 132) (.tmp 128) rfl g (fl.length*10) ((Zo (lnF s at_))).toArray rfl rfl P1.out Tryz.infoStmt10 (by kernel_rfl) o2.out ?_)
    go_meet
    case rel=>exact⟨g,gc,r2.out⟩
   go_wp2_with (refine Xz 132 ?_;refine Vk rfl 86 (.tmp 132) (.tmp 128) rfl g (fl.length*10) ((Zo (lnF s at_))).toArray rfl rfl (R1.out _) Tryz.infoStmt10 (by kernel_rfl) G2.out ?_)
   go_meet
   case rel=>exact H2.out
  case rest=>
  obtain⟨g,gc,l0,cw⟩:=hcut;obtain⟨W7,s2⟩:=nmE (wc);rw[<-s2]at l0 cw⊢;clear s2 y10 ysb cp K0 j2 o0 F2 L1 M1;obtain⟨m2,a0⟩:=nmE (m1.app 10 (.slice (some ⟨g,0,none⟩) (fl.length+1) gc) (Zo (lnF s at_)));rw[<-a0]at l0;obtain⟨st,hst⟩:=nmE (r'.stmts);have t2:st<=16:=(by rw[hst];exact k0.out.sm);have v0:m2.stmts=st:=(by rw[a0,hst];exact k0.out.st);have e8:m2.v 8=m1.v 8:=(by rw[a0];rfl);obtain⟨d8b,k8b,d0⟩:=l0.shape 8 (by unfold Zt;omega);have Q0:m2.n 8=r'.fr.length:=(by rw[a0];exact k0.out.r8.1);have j1:m2.xs 8=Xg r'.fr:=(by rw[a0];exact k0.out.r8.2);rw[Q0]at d0;have p9:W7.cell? ⟨Rb,9,none⟩=some (.int .i64 (st:Int)):=(by rw[<-v0];exact l0.cR.c 9 (by omega));have z9:W7.frozen? ⟨Rb,9,none⟩=false:=l0.cR.z 9;have p8:W7.cell? ⟨Rb,8,none⟩=some (.slice d8b r'.fr.length k8b):=(by rw[<-d0];exact l0.cR.c 8 (by omega));have z8:W7.frozen? ⟨Rb,8,none⟩=false:=l0.cR.z 8;obtain⟨nf,A0⟩:=nmE (r'.fr.length);have J2:nf<=3:=(by rw[A0];exact k0.out.fr);rw[<-A0]at p8 d0;have K2:(nf:Int)<=3:=(by omega);have L2:(st:Int)<=16:=(by omega);have H8:Hid (Zu lo base Rb Pb w0 (W7.setCell ⟨Rb,9,none⟩ (.int .i64 ((st:Int)+1))) {m2 with stmts:=st+1}):=l0.setStmts (st+1);have Y2:Hid (lo<=W7.heap.size):=Nat.le_trans b7 l0.hba.2.2.2.2.2.1;have M2:Rb<W7.heap.size:=(by have:=l0.hba;omega);have N2:b<W7.heap.size:=Qe W7 _ cw;rcases HG.out with⟨k8,k9,l1,n1,o1⟩|⟨kd,ch,hk,l1,n1,o1,u2⟩
  ·have p0:Hid ((16<=r'.stmts->out.1=5)/\(r'.stmts<16->out=(0,r'.put (lnS s at_)))):=⟨l1,n1⟩
   have R0:=Zz o1;clear l1 n1 o1 HG;have cw2:(W7.setCell ⟨Rb,9,none⟩ (.int .i64 ((st:Int)+1))).cell? ⟨b,off,none⟩=some (.string x0):=(Qc (a:=⟨b,off,none⟩) (Zx _ _ _ _ _ s0)).trans cw
   by_cases f0:16<=st
   ·have T1:(16:Int)<(st:Int)+1:=by omega
    have HE:Hid (Xu lo base Rb Pb w0 t out (.returned (.int .i64 5)) (W7.setCell ⟨Rb,9,none⟩ (.int .i64 ((st:Int)+1)))):=by
     have h5:=p0.out.1 (by rw[<-hst];exact f0);exact⟨by rw[h5];rfl,λh=>(by rw[h5]at h;cases h),λ_=>H8.out.bel⟩
    clear l0 a0 hst v0 e8 d0 Q0 j1 A0 k0 HF p0 H8 J0 f0;go_wp2;go_ret;exact HE.out
   have T1:¬(16:Int)<(st:Int)+1:=(by omega);have U1:(st:Int)+1<=16:=(by omega);have HE:Hid (Xu lo base Rb Pb w0 t out (.returned (.int .i64 0)) (W7.setCell ⟨Rb,9,none⟩ (.int .i64 ((st:Int)+1)))):=by
    have h5:=p0.out.2 (by rw[<-hst];omega);refine⟨by rw[h5];rfl,λ_=>⟨_,fl++[lnF s at_],H8.out,?_,?_,?_⟩,λh=>absurd (by rw[h5]) h⟩
    ·rw[h5,a0,hst]
     exact k0.out.put (lnS s at_) (lnF s at_) (by rw[<-hst];omega) _
    ·rw[h5]
     exact yn1 (s:=lnS s at_) HF.out.1 R0.out rfl rfl k0.out.fr
    rw[h5,Uv,HF.out.2];exact(yz6 (r:=r') (lnS s at_)).2.2.2.2.2.2.2.2.2.1.symm
   clear l0 a0 hst v0 e8 d0 Q0 j1 A0 k0 HF p0 H8 J0 f0;go_wp2;go_ret;exact HE.out
  have p0:Hid ((16<=r'.stmts\/3<=r'.fr.length->out.1=5)/\(r'.stmts<16->r'.fr.length<3->out=(0,r'.opens kd at_ s.e))):=⟨l1,n1⟩;have R0:Hid (s.kind=kd/\s.x=0):=⟨o1,u2⟩;obtain⟨c9,x2⟩:=nmE (ch);obtain⟨kd9,u1⟩:=nmE (kd);have y2:=Zz x2;have z1:=Zz u1;have O2:=Zz hk;clear l1 n1 o1 u2 HG x2 u1 hk;obtain⟨W8,S0⟩:=nmE (W7.setCell ⟨Rb,9,none⟩ (.int .i64 ((st:Int)+1)));rw[<-S0]at H8;obtain⟨W9,p1⟩:=nmE (W8.alloc (.cells #[.int .u8 ch] 5));have V1:W8.heap.size=W7.heap.size:=(by rw[S0,Zy]);have T0:Below W8.heap.size W8 W9:=(by rw[p1];exact bA);have Z2:W7.heap.size+1=W9.heap.size:=(by rw[p1];simp[V1]);have a3:base<=W9.heap.size:=(by have:=l0.hba;omega);have X1:=Zz T0;have A1:Hid (W9.ownsRow base 5 1 (.slice d8b nf k8b) nf (Xg r'.fr)):=by
   have h1:=(H8.out.below T0).own 8 (by unfold Zt;omega);have e1:({m2 with stmts:=st+1}:Yn).v 8=.slice d8b nf k8b:=d0;have e2:({m2 with stmts:=st+1}:Yn).n 8=nf:=(by rw[A0];exact Q0);have e3:({m2 with stmts:=st+1}:Yn).xs 8=Xg r'.fr:=j1;rw[e1,e2,e3]at h1;exact h1
  obtain⟨tb,E0⟩:=nmE (W7.heap.size);have t0:∀i u,([.int .u8 ch]:List Value)[i]?=some u->W9.cell? ((⟨tb,0,none⟩:Addr).add i)=some u:=(by rw[p1,E0,<-V1];exact Xw);have u9:W9.cell? ⟨Rb,9,none⟩=some (.int .i64 ((st:Int)+1)):=by
   have h1:W8.cell? ⟨Rb,9,none⟩=some (.int .i64 ((st:Int)+1)):=(by rw[S0];exact World.cell?_setCell_same' _ _ _ (by rw[p9];rfl));exact(T0.cell (p:=⟨Rb,9,none⟩) (by show Rb<_;omega)).trans h1
  have u8:W9.cell? ⟨Rb,8,none⟩=some (.slice d8b nf k8b):=by
   have h1:W8.cell? ⟨Rb,8,none⟩=some (.slice d8b nf k8b):=(by rw[<-d0];exact H8.out.cR.c 8 (by omega));exact(T0.cell (p:=⟨Rb,8,none⟩) (by show Rb<_;omega)).trans h1
  have cw8:W8.cell? ⟨b,off,none⟩=some (.string x0):=(by rw[S0];exact(Qc (a:=⟨b,off,none⟩) (Zx _ _ _ _ _ s0)).trans cw);have cw9:W9.cell? ⟨b,off,none⟩=some (.string x0):=(T0.cell (p:=⟨b,off,none⟩) (by show b<_;omega)).trans cw8;have r1:Hid ((Value.slice d8b nf k8b).ownBlock≠some b):=(by rw[<-d0,e8];exact J0.out 8 (by unfold Zt;omega));have y0:Hid (m2.v 8=.slice d8b nf k8b/\m2.n 8=nf/\m2.xs 8=Xg r'.fr/\nf=r'.fr.length/\st=r'.stmts/\m2=m1.app 10 (.slice (some ⟨g,0,none⟩) (fl.length+1) gc) (Zo (lnF s at_))):=⟨d0,by rw[A0];exact Q0,j1,A0,hst,a0⟩;have Y1:Hid ((W7.setCell ⟨Rb,9,none⟩ (.int .i64 ((st:Int)+1))).alloc (.cells #[.int .u8 ch] 5)=W9):=(by show _=_;rw[p1,S0]);have Z1:=Zz E0;have P2:W8.heap.size+1=W9.heap.size:=(by omega);clear l0 a0 hst v0 e8 d0 Q0 j1 A0 S0 p1 T0 E0 cw8 V1;rcases O2.out with⟨k8,k9,rfl,rfl⟩|⟨k8,k9,rfl,rfl⟩
  all_goals
   obtain⟨i0,M0,N0,O0,P0⟩:=info_parts Tryz.infoByteR
   go_wp2_with (first|(at_builtin;rw[Y1.out];refine Zj _ rfl (.tmp 150) (.tmp 151) 23 rfl base 5 i0 (.int .u8 0) 1 1 underlying23 M0 N0 O0 P0 rfl (by decide) _ _ _ rfl A1.out ⟨tb,0,none⟩ 1 1 [.int .u8 105] (by rw[Z1.out];rfl) rfl (by decide) t0 (by intro u hu;simp at hu;subst hu;rfl) (by unfold maxLen;omega) (by omega) (by omega) ?_)|(at_builtin;rw[Y1.out];refine Zj _ rfl (.tmp 163) (.tmp 164) 23 rfl base 5 i0 (.int .u8 0) 1 1 underlying23 M0 N0 O0 P0 rfl (by decide) _ _ _ rfl A1.out ⟨tb,0,none⟩ 1 1 [.int .u8 119] (by rw[Z1.out];rfl) rfl (by decide) t0 (by intro u hu;simp at hu;subst hu;rfl) (by unfold maxLen;omega) (by omega) (by omega) ?_))
   intro v8 W10 G0 hg z2;obtain⟨va,vc,rfl⟩:∃va vc,v8=.slice va (nf+1) vc:=by
    rcases G0.2 with⟨h1,h2⟩|⟨g,cp,cur,h1,_⟩
    ·omega
    exact⟨_,cp,h1⟩
   have s1:∀k,(Value.slice d8b nf k8b).ownBlock=some k->base<=k:=λk hk=>(A1.out.lt k hk).1;have z0:W10.heap[Rb]?=W9.heap[Rb]?:=hg.block Rb (by omega) (λhh=>by have:=s1 Rb hh.symm;omega);have A2:W10.heap[b]?=W9.heap[b]?:=hg.block b (by omega) (λhh=>r1.out hh.symm);have a9:W10.cell? ⟨Rb,9,none⟩=some (.int .i64 ((st:Int)+1)):=(Qc (a:=⟨Rb,9,none⟩) z0).trans u9;have a8:W10.cell? ⟨Rb,8,none⟩=some (.slice d8b nf k8b):=(Qc (a:=⟨Rb,8,none⟩) z0).trans u8;have aw:W10.cell? ⟨b,off,none⟩=some (.string x0):=(Qc (a:=⟨b,off,none⟩) A2).trans cw9;have az:W10.frozen? ⟨Rb,8,none⟩=false:=(Qd (a:=⟨Rb,8,none⟩) z0).trans ((X1.out.frozen (p:=⟨Rb,8,none⟩) (by show Rb<_;omega)).trans (H8.out.cR.z 8));have U0:Hid (Zu lo base Rb Pb w0 (W10.setCell ⟨Rb,8,none⟩ (.slice va (nf+1) vc)) (({m2 with stmts:=st+1}:Yn).app 8 (.slice va (nf+1) vc) [.int .u8 c9])):=by
    show Zu _ _ _ _ _ _ _;rw[y2.out];have e1:({m2 with stmts:=st+1}:Yn).v 8=.slice d8b nf k8b:=y0.out.1;have e2:({m2 with stmts:=st+1}:Yn).n 8=nf:=y0.out.2.1;have e3:({m2 with stmts:=st+1}:Yn).xs 8=Xg r'.fr:=y0.out.2.2.1;refine H8.out.appR 8 (by unfold Zt;omega) (by omega) X1.out (v':=.slice va (nf+1) vc) ?_ ?_ ?_
    ·rw[e2,e3];exact G0
    ·rw[e1];exact hg
    rw[e1];exact z2
   clear G0 hg z2 z0 A2 u9 u8 cw9 t0 A1 X1 s1 M0 N0 O0 P0 i0 r1 Y1 Z1 H8 p9 z9 p8 z8 cw
   by_cases f0:16<=st
   ·have T1:(16:Int)<(st:Int)+1:=by omega
    have HE:Hid (Xu lo base Rb Pb w0 t out (.returned (.int .i64 5)) (W10.setCell ⟨Rb,8,none⟩ (.slice va (nf+1) vc))):=by
     have h5:=p0.out.1 (.inl (by rw[<-y0.out.2.2.2.2.1];exact f0));exact⟨by rw[h5];rfl,λh=>(by rw[h5]at h;cases h),λ_=>U0.out.bel⟩
    clear k0 HF p0 R0 U0 J0 y0 f0;go_wp2;go_ret;exact HE.out
   have T1:¬(16:Int)<(st:Int)+1:=(by omega);have U1:(st:Int)+1<=16:=(by omega)
   by_cases q0:3<=nf
   ·have Q2:(3:Int)<(nf:Int)+1:=by omega
    have HE:Hid (Xu lo base Rb Pb w0 t out (.returned (.int .i64 5)) (W10.setCell ⟨Rb,8,none⟩ (.slice va (nf+1) vc))):=by
     have h5:=p0.out.1 (.inr (by rw[<-y0.out.2.2.2.1];exact q0));exact⟨by rw[h5];rfl,λh=>(by rw[h5]at h;cases h),λ_=>U0.out.bel⟩
    clear k0 HF p0 R0 U0 J0 y0 f0 q0;go_wp2;go_ret;exact HE.out
   have Q2:¬(3:Int)<(nf:Int)+1:=(by omega);have R2:(nf:Int)+1<=3:=(by omega);have HE:Hid (Xu lo base Rb Pb w0 t out (.returned (.int .i64 0)) (W10.setCell ⟨Rb,8,none⟩ (.slice va (nf+1) vc))):=by
    obtain⟨v1,v2,v3,v4,v5,v6⟩:=y0.out;have h5:=p0.out.2 (by rw[<-v5];omega) (by rw[<-v4];omega);obtain⟨f1,f2⟩:=HF.out;obtain⟨f3,f4⟩:=R0.out;have eF:lnF s at_=⟨0,⟨kd9,0,at_,s.e,[],[]⟩⟩:=(by unfold lnF lnS;rw[f3,f4,z1.out]);refine⟨by rw[h5];rfl,λ_=>⟨_,fl++[⟨0,⟨kd9,0,at_,s.e,[],[]⟩⟩],U0.out,?_,?_,?_⟩,λh=>absurd (by rw[h5]) h⟩
    ·rw[h5,v6,v5,eF,z1.out,y2.out]
     first|exact k0.out.opens _ at_ s.e (by rw[<-v5];omega) (by rw[<-v4];omega) _ _ 105 rfl|exact k0.out.opens _ at_ s.e (by rw[<-v5];omega) (by rw[<-v4];omega) _ _ 119 rfl
    ·rw[h5,z1.out]
     exact yw1 f1 _ at_ s.e (by rw[<-v4];omega)
    rw[h5,z1.out,Uv,f2];rfl
   clear k0 HF p0 R0 U0 J0 y0 f0 q0;go_wp2;go_ret;exact HE.out
 obtain⟨⟨k,x,op,av,an,bv,bn,rfl⟩,H0⟩:=G1 h0
 have b0:(((res.1:Nat):Int) !=0)=true:=by rw[bne_iff_ne];omega
 have t1:=yj8 HH.out.bel (Nat.le_trans b7 b6) H0;obtain⟨sb,r0⟩:=nmE (W1.heap.size);have Z0:=Zz r0;have HE:Hid (Xu lo base Rb Pb w0 t out (.returned (.int .i64 (res.1:Nat))) (W1.alloc (.cells (Zq k x op av an bv bn) 86))):=by
  have h5:=B0.out h0;exact⟨by rw[h5],λh=>absurd (h5.symm.trans h) h0,λ_=>H0.alloc t1 _⟩
 clear F1 G1 H0 t1 h0 HH E1 B0 C0 D1 c0 r0
 go_wp2_with (refine Xz 9 ?_;refine zu9 rfl (.tmp 9) (.tmp 117) rfl W1 sb (Zq k x op av an bv bn) rfl Z0.out.symm rfl (Xq _ _ _ _ _ _ _) rfl ?_)
 go_ret;exact HE.out
def zn1(h:Zu lo base Rb Pb w0 w m)(hr:Zh r fl t m)(ht:t<=100000)(b off n cap:Nat)(hn:1<=n/\n<=maxLen)(hb:b<w.heap.size)(d0:b≠Rb/\∀j,Zt j->(m.v j).ownBlock≠some b)(at_:Nat)(x0:ByteArray)(k1:(x0.toList==[108,101,118,101,108])=false)(k2:(x0.toList==[98,101,108,111,119])=false)(k3:(x0.toList==[99,101,108,108])=false)(k4:(x0.toList==[99,104,97,110,110,101,108])=false)(k5:(x0.toList==[98,101,103,105,110])=false)(k6:(x0.toList==[101,108,115,101])=false)(k7:(x0.toList==[101,110,100])=false)(k8:(x0.toList==[105,102])=false)(k9:(x0.toList==[119,104,105,108,101])=false)(c0:w.cell? ⟨b,off,none⟩=some (.string x0))(e0:r.begun=true)(res:Nat×Fl.Stmt×Fl.RS)(out:Nat×Fl.RS)
  (hst:Calls prog 30 #[.pointer (some ⟨Rb,0,none⟩),.slice (some ⟨b,off,none⟩) n cap] w (zw8 lo base Rb Pb w0 w m fl t res))
  (a0:res.1≠0->out.1=res.1) (hgood:res.1=0->(16<=res.2.2.stmts->out.1=5)/\(res.2.2.stmts<16->out=(0,res.2.2.put (lnS res.2.1 at_)))) (b0:res.1=0->Xf fl res.2.2/\cnt fl=res.2.2.stmts/\(res.2.1.kind=3\/res.2.1.kind=4)):
  Calls prog 13 #[.pointer (some ⟨Rb,0,none⟩),.slice (some ⟨b,off,none⟩) n cap,.int .i64 (at_:Int)] w (Xu lo base Rb Pb w0 t out):=
 zly h hr ht b off n cap hn hb d0 at_ x0 k1 k2 k3 k4 k5 k6 k7 c0 e0 res out hst a0 (λh0=>⟨(b0 h0).1,(b0 h0).2.1⟩) (λh0=> .inl ⟨k8,k9,(hgood h0).1,(hgood h0).2,(b0 h0).2.2⟩)
def row_if(h:Zu lo base Rb Pb w0 w m)(hr:Zh r fl t m)(ht:t<=100000)(b off n cap:Nat)(hn:1<=n/\n<=maxLen)(hb:b<w.heap.size)(d0:b≠Rb/\∀j,Zt j->(m.v j).ownBlock≠some b)(at_:Nat)(c0:w.cell? ⟨b,off,none⟩=some (.string ⟨#[105,102]⟩))(e0:r.begun=true)(res:Nat×Fl.Stmt×Fl.RS)(out:Nat×Fl.RS)
  (hst:Calls prog 30 #[.pointer (some ⟨Rb,0,none⟩),.slice (some ⟨b,off,none⟩) n cap] w (zw8 lo base Rb Pb w0 w m fl t res))
  (a0:res.1≠0->out.1=res.1) (hgood:res.1=0->(16<=res.2.2.stmts\/3<=res.2.2.fr.length->out.1=5)/\(res.2.2.stmts<16->res.2.2.fr.length<3->out=(0,res.2.2.opens 5 at_ res.2.1.e))) (b0:res.1=0->Xf fl res.2.2/\cnt fl=res.2.2.stmts/\(res.2.1.kind=5/\res.2.1.x=0)):
  Calls prog 13 #[.pointer (some ⟨Rb,0,none⟩),.slice (some ⟨b,off,none⟩) n cap,.int .i64 (at_:Int)] w (Xu lo base Rb Pb w0 t out):=
 zly h hr ht b off n cap hn hb d0 at_ _ (by rw[Yt];rfl) (by rw[Yt];rfl) (by rw[Yt];rfl) (by rw[Yt];rfl) (by rw[Yt];rfl) (by rw[Yt];rfl) (by rw[Yt];rfl) c0 e0 res out hst a0 (λh0=>⟨(b0 h0).1,(b0 h0).2.1⟩) (λh0=> .inr ⟨5,105,.inl ⟨by rw[Yt];rfl,by rw[Yt];rfl,rfl,rfl⟩,(hgood h0).1,(hgood h0).2,(b0 h0).2.2⟩)
def ynz(h:Zu lo base Rb Pb w0 w m)(hr:Zh r fl t m)(ht:t<=100000)(b off n cap:Nat)(hn:1<=n/\n<=maxLen)(hb:b<w.heap.size)(d0:b≠Rb/\∀j,Zt j->(m.v j).ownBlock≠some b)(at_:Nat)(c0:w.cell? ⟨b,off,none⟩=some (.string ⟨#[119,104,105,108,101]⟩))(e0:r.begun=true)(res:Nat×Fl.Stmt×Fl.RS)(out:Nat×Fl.RS)
  (hst:Calls prog 30 #[.pointer (some ⟨Rb,0,none⟩),.slice (some ⟨b,off,none⟩) n cap] w (zw8 lo base Rb Pb w0 w m fl t res))
  (a0:res.1≠0->out.1=res.1) (hgood:res.1=0->(16<=res.2.2.stmts\/3<=res.2.2.fr.length->out.1=5)/\(res.2.2.stmts<16->res.2.2.fr.length<3->out=(0,res.2.2.opens 6 at_ res.2.1.e))) (b0:res.1=0->Xf fl res.2.2/\cnt fl=res.2.2.stmts/\(res.2.1.kind=6/\res.2.1.x=0)):
  Calls prog 13 #[.pointer (some ⟨Rb,0,none⟩),.slice (some ⟨b,off,none⟩) n cap,.int .i64 (at_:Int)] w (Xu lo base Rb Pb w0 t out):=
 zly h hr ht b off n cap hn hb d0 at_ _ (by rw[Yt];rfl) (by rw[Yt];rfl) (by rw[Yt];rfl) (by rw[Yt];rfl) (by rw[Yt];rfl) (by rw[Yt];rfl) (by rw[Yt];rfl) c0 e0 res out hst a0 (λh0=>⟨(b0 h0).1,(b0 h0).2.1⟩) (λh0=> .inr ⟨6,119,.inr ⟨by rw[Yt];rfl,by rw[Yt];rfl,rfl,rfl⟩,(hgood h0).1,(hgood h0).2,(b0 h0).2.2⟩)
end
def yny{base:Nat}{w:World}{Lq:Nat}{rb:Nat->Nat}{n:Nat}{t:Fl.Tab}(h:Yj base w Lq rb n t)(Pb a b:Nat)(hn:n<=6)(ha:a<n)(hb:b<n)(p0:w.cell? ⟨Pb,0,none⟩=some (.int .i64 n))(p1:w.cell? ⟨Pb,1,none⟩=some (.slice (some ⟨Lq,0,none⟩) n n)):
  Calls prog 93 #[.pointer (some ⟨Pb,0,none⟩),.int .i64 a,.int .i64 b] w λe w'=>e=.returned (.int .i64 (Fl.meet n t a b))/\w'=w:=by
 have HL:=Zz h
 have s0:(n:Int)<=6:=by omega
 have t0:(a:Int)<(n:Int):=by omega
 have u0:(b:Int)<(n:Int):=by omega
 have ca:=h.c a ha;have cb:=h.c b hb;have a0:Hid (Fl.meet n t a b=Fl.firstK (Fl.isJoin n (λi j=>t j i) a b) n):=rfl;generalize Fl.meet n t a b=res at*;clear h
 go_enter func93,ntmps93
 go_wp2_with fail
 go_loopw [7] (λi wr=>wr=w/\∃k:Nat,k<=n/\i=.int .i64 k/\∀x,x<k->Fl.isJoin n (λi j=>t j i) a b x=false) (λi _=>n - (intOf i).toNat)
 case atStart=>exact⟨rfl,0,Nat.zero_le _,rfl,λx hx=>by omega⟩
 case round=>
  obtain⟨b0,k,hk,rfl,hno⟩:=hrel;have g0:=Zz hno;rw[b0];clear hno b0 wr
  by_cases d0:k<n
  ·have k0:(k:Int)<(n:Int):=by omega
   have ck:=HL.out.c k d0;have x1:w.cell? ⟨rb k,a,none⟩=some (.bool (t k a)):=HL.out.r k a d0 ha;have x2:w.cell? ⟨rb k,b,none⟩=some (.bool (t k b)):=HL.out.r k b d0 hb;obtain⟨y1,h0⟩:∃y,y=t k a:=⟨_,rfl⟩;obtain⟨y2,i0⟩:∃y,y=t k b:=⟨_,rfl⟩;rw[<-h0]at x1;rw[<-i0]at x2;have l0:Hid (Vm n (λi j=>t j i) a b k 0=(y1 && y2)):=(by show _=_;unfold Vm;simp[h0,i0]);have j0:=Zz d0
   have c0:Hid (∀ls:Bool,ls=(y1 && y2)->ls=Vm n (λi j=>t j i) a b k 0):=λls h=>by rw[h];exact l0.out.symm
   clear h0 i0;have m0:Hid (∃y0,y0=(y1 && y2)):=⟨_,rfl⟩
   cases y1<;>cases y2
   all_goals
    have n0:Hid _:=c0.out _ rfl
    go_wp2_with fail
    go_loopw [8,9] (λls i wr=>wr=w/\∃j:Nat,j<=n/\i=.int .i64 j/\ls=.bool (Vm n (λi j=>t j i) a b k j)) (λ_ i _=>n - (intOf i).toNat)
    case atStart=>exact⟨rfl,0,Nat.zero_le _,rfl,by rw[<-n0.out];rfl⟩
    case round=>
     obtain⟨b0,j,hj,rfl,rfl⟩:=hrel;rw[b0];clear b0 wr
     by_cases e0:j<n
     ·have o0:(j:Int)<(n:Int):=by omega
      have cj:=HL.out.c j e0;have z1:w.cell? ⟨rb j,a,none⟩=some (.bool (t j a)):=HL.out.r j a e0 ha;have z2:w.cell? ⟨rb j,b,none⟩=some (.bool (t j b)):=HL.out.r j b e0 hb;have z3:w.cell? ⟨rb j,k,none⟩=some (.bool (t j k)):=HL.out.r j k e0 j0.out;have HS:Hid (Vm n (λi j=>t j i) a b k (j+1)=(Vm n (λi j=>t j i) a b k j && (!(t j a)||!(t j b)||t j k))):=zm5 n (λi j=>t j i) a b k j;generalize Vm n (λi j=>t j i) a b k j=lj at*;generalize t j a=u1 at*;generalize t j b=u2 at*;generalize t j k=u3 at*
      cases lj<;>cases u1<;>cases u2<;>cases u3
      all_goals
       go_wp2
       go_roundw
       case rel=>exact⟨by first|rfl|trivial,j+1,by omega,by go_num,by rw[HS.out];rfl⟩
       case measure=>simp[intOf];omega
     have o0:¬(j:Int)<(n:Int):=(by omega)
     obtain rfl:j=n:=by omega
     cases f0:Vm j (λi j=>t j i) a b k j with
     |true=>
      have HE:Hid (res=(k:Int)):=(by show _=_;rw[a0.out];exact ze9 _ _ _ j0.out f0 g0.out);clear f0;go_wp2;go_ret;exact⟨by rw[HE.out];rfl,rfl⟩
     |false=>
      have q0:Hid (∀x,x<k+1->Fl.isJoin j (λi j=>t j i) a b x=false):=λx hx=>by
       by_cases r0:x=k
       ·subst r0;exact f0
       exact g0.out x (by omega)
      clear f0;go_wp2
      go_roundw
      case rel=>exact⟨by first|rfl|trivial,k+1,by omega,by go_num,q0.out⟩
      case measure=>simp[intOf];omega
  have k0:¬(k:Int)<(n:Int):=(by omega);have HE:Hid (res= -1):=(by show _=_;rw[a0.out];exact zm6 _ _ (λx hx=>g0.out x (by omega)));go_wp2;go_ret;exact⟨by rw[HE.out];rfl,rfl⟩
end Go.Proofs.YtaaejabalinojaaGreatDoor
