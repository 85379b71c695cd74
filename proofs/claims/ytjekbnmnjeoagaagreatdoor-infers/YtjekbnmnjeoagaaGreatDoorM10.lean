import Derived.Test.YtjekbnmnjeoagaaGreatDoorM09
import Derived.Maps.RangeWalk
set_option linter.all false
set_option maxRecDepth 100000
set_option maxHeartbeats 40000000
namespace Go.Proofs.YtjekbnmnjeoagaaGreatDoor
open Go.RowKit Go.Proofs.Tryz
variable{w0 w V w' wr:World}{Xb T B Fb nb k b Pb Lb n i U base M q0 P0 q:Nat}{wv wv' clv chv bv vv v lv sv:Value}{acc ac ns:List Fl.Node}{lvs lvs' xs:List Value}{u a c x:Int}{S:Nat->Prop}{p:Fl.Prog}{vs l ls st:List Int}{s:List UInt8}
structure Ug(w0 w V:World)(Xb T B Fb nb:Nat)(wv wv':Value)(acc:List Fl.Node)(lvs:List Value)(ac:List Fl.Node)(lvs':List Value)(k u a b c:Int):Prop where
 wi:Yh w0 V Xb T B Fb wv' ac lvs'
 st:Yw w V Xb B wv wv'
 ne:some nb≠wv'.ownBlock
 lo:Xc (λ_=>False) w acc lvs ac lvs'
 nd:V.heap[nb]?=some (.cells #[Iq k,Iq u,Iq a,Iq b,Iq c,Zq] 92 (0,0))
def Ug.lt{k b:Int}(h:Ug w0 w V Xb T B Fb nb wv wv' acc lvs ac lvs' k u a b c):nb<V.heap.size:=by
 rcases Nat.lt_or_ge nb V.heap.size with h'|h'
 ·exact h'
 have h5:=h.nd;rw[Array.getElem?_eq_none h']at h5;cases h5
def Ug.cell{w0 w V:World}{Xb T B Fb nb:Nat}{wv wv':Value}{acc ac:List Fl.Node}{lvs lvs':List Value}{k u a b c:Int}(h:Ug w0 w V Xb T B Fb nb wv wv' acc lvs ac lvs' k u a b c)(j:Nat)(v:Value)(hj:(#[Value.int .i64 k,Iq u,Iq a,Iq b,Iq c,Zq]:Array Value)[j]?=some v):V.cell? (Aq nb j)=some v:=by
 simp only[World.cell?,h.nd];exact hj
def Ug.free{k b:Int}(h:Ug w0 w V Xb T B Fb nb wv wv' acc lvs ac lvs' k u a b c)(j:Nat):V.frozen? (Aq nb j)=false:=by simp[World.frozen?,h.nd]
def Ug.below{w0 w V V':World}{Xb T B Fb nb:Nat}{wv wv':Value}{acc ac:List Fl.Node}{lvs lvs':List Value}{k u a b c:Int}(h:Ug w0 w V Xb T B Fb nb wv wv' acc lvs ac lvs' k u a b c)(hb:Bq V V'):Ug w0 w V' Xb T B Fb nb wv wv' acc lvs ac lvs' k u a b c:=
 ⟨h.wi.below hb,h.st.trans (Yw.of_below hb),h.ne,h.lo,(hb.block nb h.lt).trans h.nd⟩
def Ug.call{V':World}{wv2:Value}{ac2:List Fl.Node}{lvs2:List Value}{k b:Int}(h:Ug w0 w V Xb T B Fb nb wv wv' acc lvs ac lvs' k u a b c)(hX:Xb<nb)(hB:nb≠B)(h1:Yh w0 V' Xb T B Fb wv2 ac2 lvs2)(hs:Yw V V' Xb B wv' wv2)(hl:Xc (λ_=>False) V ac lvs' ac2 lvs2):Ug w0 w V' Xb T B Fb nb wv wv2 acc lvs ac2 lvs2 k u a b c:=by
 refine⟨h1,h.st.trans hs,λhh=>?_,h.lo.trans h.st.sz hl,(hs.bl nb h.lt (by omega) hB h.ne).trans h.nd⟩;rcases hs.ow with e|⟨g,e,a0⟩
 ·exact h.ne (hh.trans e)
 rw[e]at hh;injection hh with hh;have:=h.lt;omega
def Ug.set{w0 w V:World}{Xb T B Fb nb:Nat}{wv wv':Value}{acc ac:List Fl.Node}{lvs lvs':List Value}{k u a b c:Int}(h:Ug w0 w V Xb T B Fb nb wv wv' acc lvs ac lvs' k u a b c)(hX:Xb<nb)(hw:w.heap.size<=nb)(j:Nat)(v a' b' c':Int)(he:(#[Value.int .i64 k,Iq u,Iq a,Iq b,Iq c,Zq]:Array Value).setIfInBounds j (Iq v)=#[Iq k,Iq u,Iq a',Iq b',Iq c',Zq]):Ug w0 w (V.setCell (Aq nb j) (Iq v)) Xb T B Fb nb wv wv' acc lvs ac lvs' k u a' b' c':=by
 refine⟨h.wi.priv hX h.nd h.ne j _,h.st.set hw j _,h.ne,h.lo,?_⟩;have h5:=zz0 h.nd j (Iq v);rw[he]at h5;exact h5
def Ug.ends{k b:Int}(h:Ug w0 w V Xb T B Fb nb wv wv' acc lvs ac lvs' k u a b c)(hk:0<=k/\k<=999999999)(hu:0<=u/\u<=999999999)(ha:0<=a/\a<=999999999)(hb:0<=b/\b<=999999999)(hc:0<=c/\c<=999999999)(hn:ac.length<=100000000):
  Cq 203 #[Pq Xb,.agg #[Iq k,Iq u,Iq a,Iq b,Iq c,Zq]] V (λe w'=>Vy (λ_=>False) w0 w Xb T B Fb wv acc lvs (Fl.put1 ac ⟨k,u,a,b,c,[]⟩) e w'):=by
 have hR:∀z:Int,0<=z/\z<=999999999->Fl.inR z=true:=λz h1=>by simp only[Fl.inR,Bool.and_eq_true,decide_eq_true_eq];omega
 have h5:=zv5 (nd:=⟨k,u,a,b,c,[]⟩) (lvn:=Zq) h.wi ⟨hR _ hk,hR _ hu,hR _ ha,hR _ hb,hR _ hc,by simp,by simp⟩ ⟨none,0,rfl,by simp,by simp[maxLen],λhh=>absurd rfl hh⟩ (λhh=>absurd rfl hh) hn;refine h5.mono ?_;rintro e W ⟨h6,wv2,lvs2,h7,h8,h9⟩;refine⟨h6,wv2,lvs2,h7,h.st.trans h8,λp hp=>?_⟩;rcases h9 p hp with h1|h1|h1|h1
 ·rcases h.lo p h1 with h2|h2|h2|h2
  ·exact .inl h2
  ·exact h2.elim
  ·exact .inr (.inr (.inl h2))
  exact .inr (.inr (.inr h2))
 ·exact .inr (.inr (.inl (by rw[h1])))
 ·exact .inr (.inr (.inl h1))
 exact .inr (.inr (.inr λb hb=>Nat.le_trans h.st.sz (h1 b hb)))
section
def yu4(M:Nat)(hM:M<=20000000)(d:Nat)(u:Nat)(hu:u<p.n){pv:Value}{s:Fl.Stmt}(h1:zzz (Zg d) S w0 pv s)(hF:Vo w0 Fb Pb Lb clv chv bv vv S p vs)(hv:vs.length<=100)(hk:Fl.KindOk vs.length p.chans.length s)(he:Fl.ExprOk vs.length s.e)(ho:Fl.StmtsOk vs.length p.chans.length d s.body/\Fl.StmtsOk vs.length p.chans.length d s.other)
  (IH:∀V wv' acc' lvs' v l (u':Nat),Zg d S w0 v l->Fl.StmtsOk vs.length p.chans.length d l->u'<p.n->Yh w0 V Xb T B Fb wv' acc' lvs'->acc'.length<=M->Cq 140 #[Pq Xb,v,Iq u'] V (Vy (λ_=>False) w0 V Xb T B Fb wv' acc' lvs' (Fl.wBlock p vs d acc' l u')))
  (hn:acc.length<=M) (b1 b2:Int×List Fl.Node) (lv:Nat) (elv:Fl.jn p u (Fl.valLv p vs s.e)=(lv:Int)) (I0:b1=Fl.wBlock p vs d (Fl.wVal p vs acc s.e).2 s.body lv) (O0:b2=Fl.wBlock p vs d b1.2 s.other lv) (t0:((Fl.wVal p vs acc s.e).2.length<=M/\0<=(Fl.wVal p vs acc s.e).1/\(Fl.wVal p vs acc s.e).1<=20000000)/\(b1.2.length<=M/\0<=b1.1/\b1.1<=20000000)/\b2.2.length<=M/\0<=b2.1/\b2.1<=20000000) (h:Yh w0 w Xb T B Fb wv acc lvs):
  Cq 202 #[Pq Xb,pv,Iq u] w (Vy (λ_=>False) w0 w Xb T B Fb wv acc lvs (Fl.wStmt (Fl.wBlock p vs d) p vs u acc s)):=by
 obtain⟨sb,vp,fv,ev,rfl,i1,r0,n0,V0,X0⟩:=h1;have hsz:sb<w0.heap.size:=hF.hS sb i1;have h6:=hF.lv.lv.n6
 have u0:Hid (∀V,Bq w0 V->V.cell? (Aq sb 0)=some (Iq s.kind)/\V.cell? (Aq sb 2)=some (Iq s.x)/\V.cell? (Aq sb 3)=some vp/\V.cell? (Aq sb 4)=some fv/\V.cell? (Aq sb 5)=some ev):=λV hV=>by
  have q:∀j,V.cell? (Aq sb j)=w0.cell? (Aq sb j):=λj=>hV.cell (p:=(Aq sb j)) hsz;exact⟨(q 0).trans (r0.c 0 (by omega)),(q 2).trans (r0.c 2 (by omega)),(q 3).trans (r0.c 3 (by omega)),(q 4).trans (r0.c 4 (by omega)),(q 5).trans (r0.c 5 (by omega))⟩
 obtain⟨vl,P0,evl⟩:=zwy hF.lv.lv hF.ok he;obtain⟨lv',hlv',elv'⟩:=hF.lv.lv.join hu P0;have j1:lv'=lv:=by
  have h5:Fl.jn p u (Fl.valLv p vs s.e)=(lv':Int):=(by unfold Fl.jn;rw[evl];exact elv');rw[elv]at h5;omega
 subst j1;have l0:Hid (∀V wv' lvs',Yh w0 V Xb T B Fb wv' acc lvs'->Cq 242 #[Pq Xb,vp] V (Vy (λ_=>False) w0 V Xb T B Fb wv' acc lvs' (Fl.wVal p vs acc s.e))):=λV wv' lvs' hV=>yu3 hV hF n0 he hv (by omega)
 have Y0:Hid (∀V,Bq w0 V->Cq 241 #[Pq Fb,vp] V λr w'=>r=.returned (Iq (vl:Nat))/\Bq V w'):=λV hV=>by
  have h5:=zu7 (hF.below hV) (n0.kept (λ_ h=>h) (λb hb=>hV.block b (hF.hS b hb))) he;rw[evl]at h5;exact h5
 have HJ:Hid (∀V,Bq w0 V->Cq 138 #[Pq Lb,Iq u,Iq vl] V λr w'=>r=.returned (Iq (lv':Nat))/\w'=V):=λV hV=>by
  have h5:=zrw (hF.below hV).lv.la h6 u vl hu P0;rw[elv']at h5;exact h5
 have Q0:Hid (∀V,Bq w0 V->V.cell? (Aq Fb 0)=some (Pq Pb)/\V.cell? (Aq Pb 0)=some (Pq Lb)):=λV hV=>⟨(hF.below hV).c0,(hF.below hV).lv.p0⟩;obtain⟨v1,R0⟩:=nmE (Fl.wVal p vs acc s.e);rw[<-R0]at l0 t0 I0
 have S0:Hid (∀V wv' lvs',Yh w0 V Xb T B Fb wv' v1.2 lvs'->Cq 140 #[Pq Xb,fv,Iq lv'] V (Vy (λ_=>False) w0 V Xb T B Fb wv' v1.2 lvs' b1)):=λV wv' lvs' hV=>by rw[I0];exact IH V wv' _ lvs' fv s.body lv' V0 ho.1 hlv' hV t0.1.1
 have Z0:Hid (∀V wv' lvs',Yh w0 V Xb T B Fb wv' b1.2 lvs'->Cq 140 #[Pq Xb,ev,Iq lv'] V (Vy (λ_=>False) w0 V Xb T B Fb wv' b1.2 lvs' b2)):=λV wv' lvs' hV=>by rw[O0];exact IH V wv' _ lvs' ev s.other lv' X0 ho.2 hlv' hV t0.2.1.1
 have b0:Hid (Fl.wStmt (Fl.wBlock p vs d) p vs u acc s=if s.kind=5 then Fl.put1 b2.2 ⟨5,u,v1.1,b1.1,b2.1,[]⟩ else if s.kind=6 then Fl.put1 b1.2 ⟨6,u,v1.1,b1.1,0,[]⟩ else Fl.put1 v1.2 ⟨s.kind,u,s.x,v1.1,0,[]⟩):=by
  show _=_;unfold Fl.wStmt;simp only;rw[elv,<-R0,<-I0,<-O0]
 obtain⟨RES,a1⟩:=nmE (Fl.wStmt (Fl.wBlock p vs d) p vs u acc s);rw[<-a1]at b0⊢;obtain⟨nb,hnb⟩:=nmE (w.heap.size);obtain⟨W0,J0⟩:=nmE (w.alloc (.cells #[Iq s.kind,Iq u,Iq 0,Iq 0,Iq 0,Zq] 92));have T0:Hid (Ug w0 w W0 Xb T B Fb nb wv wv acc lvs acc lvs s.kind u 0 0 0):=by
  have hb:Bq w W0:=(by rw[J0];exact bA);refine⟨h.below hb,Yw.of_below hb,λhh=>?_,Xc.refl _ _ _ _,by rw[J0,hnb];exact heap_alloc_last _ _⟩;have:=(h.ow.lt nb hh.symm).2;omega
 have f0:Xb<nb:=by rw[hnb];exact h.hz
 have K0:nb≠B:=by have:=h.x0;have:=h.hz;omega
 have o0:w.heap.size<=nb:=by omega
 have p1:s.kind<=6:=by rcases hk with h|h|h|h<;>omega
 have k1:Hid (s.kind=3\/s.kind=4->s.x<=100):=λhh=>by
  rcases hk with h|h|h|h
  ·omega
  ·have:=hF.pk.ch;omega
  ·omega
  omega
 have l1:Hid ((s.kind=3\/s.kind=4)\/s.kind=5\/s.kind=6):=by rcases hk with h|h|h|h<;>(show (_\/_)\/_;omega)
 have j0:=Zz t0;obtain⟨s0,-,t3,-⟩:=u0.out w h.be;have r1:sb<w.heap.size:=Qj hsz h.be.size;have s1:Fb<w0.heap.size:=hF.hF;generalize s.kind=kd at*;generalize s.x=xx at*;obtain⟨v1n,v1l⟩:=v1;obtain⟨b1n,b1l⟩:=b1;obtain⟨b2n,b2l⟩:=b2;simp only at S0 Z0 b0 j0 l0;clear r0 n0 V0 X0 hF he ho IH R0 I0 O0 t0 a1 hk h evl elv elv' P0 hlv';unfold ptr
 go_enter func202,ntmps202
 go_wp2_with fail
 rw[<-J0,<-hnb];clear J0 hnb s0;refine(l0.out _ _ _ T0.out.wi).mono ?_;rintro e1 W1 ⟨rfl,wv1,lvs1,c1,v0,y0⟩;have z0:Hid (Ug w0 w W1 Xb T B Fb nb wv wv1 acc lvs v1l lvs1 kd u 0 0 0):=T0.out.call f0 K0 c1 v0 y0
 have L0:Hid (∀V,Bq W1 V->V.cell? (Aq Xb 0)=some (Pq Fb)/\V.cell? (Aq Fb 0)=some (Pq Pb)/\V.cell? (Aq Pb 0)=some (Pq Lb)/\V.cell? (Aq sb 3)=some vp):=λV hV=>by
  have h5:=(z0.out.below hV).wi;exact⟨h5.c0,(Q0.out V h5.be).1,(Q0.out V h5.be).2,(u0.out V h5.be).2.2.1⟩
 clear c1 v0 y0 T0 t3 l0
 go_wp2_with fail
 refine Yz L0 dA [19,20] [] [] (by kernel_rfl) (λc a d v w h=>by cases d<;>exact h) (λops _=>?_)
 iterate 19 refine Zs rfl (by rintro _ ⟨_,_,_,_⟩;go_simp<;>rfl) (by go_simp<;>rfl) ?_
 refine Zu ?_
 go_wp2_with fail
 refine(Y0.out _ (z0.out.below dA).wi.be).mono ?_;rintro e2 W9 ⟨rfl,d1⟩;have A0:Hid (Bq W1 W9):=dA.trans d1;clear d1
 go_wp2_with fail
 refine⟨L0.out _ A0.out,?_⟩;refine Zu ?_
 go_wp2_with fail
 refine(HJ.out _ (z0.out.below A0.out).wi.be).mono ?_;rintro e3 W2 ⟨rfl,rfl⟩
 go_wp2_with fail
 refine⟨L0.out _ A0.out,?_⟩;refine Zs rfl (by rintro _ ⟨_,_,_,_⟩;go_simp<;>rfl) (by go_simp<;>rfl) ?_;refine Zl ?_;have d0:Hid (Ug w0 w W2 Xb T B Fb nb wv wv1 acc lvs v1l lvs1 kd u 0 0 0):=z0.out.below A0.out;obtain⟨s0,s2,s3,s4,s5⟩:=u0.out W2 d0.out.wi.be;have c2:=d0.out.cell 2 _ rfl;have c3:=d0.out.cell 3 _ rfl;have c4:=d0.out.cell 4 _ rfl;have f2:=d0.out.free 2;have f3:=d0.out.free 3;have f4:=d0.out.free 4
 have U0:(0:Int)<=(u:Int)/\(u:Int)<=999999999:=by omega
 clear L0 z0 A0 Y0 HJ Q0;rcases l1.out with f1|h5|h6'
 ·have HR:Hid (RES=Fl.put1 v1l ⟨(kd:Int),u,xx,v1n,0,[]⟩):=by show _=_;rw[b0.out,if_neg (by omega),if_neg (by omega)]
  have M0:=d0.out.set f0 o0 2 (xx:Int) (xx:Int) 0 0 rfl;have a0:=M0.set f0 o0 3 v1n (xx:Int) v1n 0 rfl;have d3:=M0.cell 3 _ rfl;have g3:=M0.free 3;have q0:=a0.cell 0 _ rfl;have q1:=a0.cell 1 _ rfl;have q2:=a0.cell 2 _ rfl;have q3:=a0.cell 3 _ rfl;have q4:=a0.cell 4 _ rfl;have q5:=a0.cell 5 _ rfl;have HN:=a0.ends (by omega) U0 (by have:=k1.out f1;omega) (by have:=j0.out.1;omega) (by omega) (by have:=j0.out.1;omega);rw[<-HR.out]at HN;have B0:=Zz HN;clear M0 a0 HN HR b0 d0;rcases f1 with h3|h4
  all_goals
   first|subst h3|subst h4
   go_wp2_with fail
   refine B0.out.mono ?_;rintro e W6 g0;have C0:=Zz g0;obtain⟨D0,-⟩:=id g0;subst D0;clear g0;go_wp2;go_ret;exact C0.out
 ·subst h5
  have HR:Hid (RES=Fl.put1 b2l ⟨5,u,v1n,b1n,b2n,[]⟩):=(by show _=_;rw[b0.out,if_pos rfl]);have E0:Hid (∀V,Bq w0 V->V.cell? (Aq sb 4)=some fv/\V.cell? (Aq sb 5)=some ev):=λV hV=>⟨(u0.out V hV).2.2.2.1,(u0.out V hV).2.2.2.2⟩;clear b0 c2 c3 c4 f2 f3 f4
  go_wp2_with fail
  refine zw2 E0 (d0.out.below dA).wi.be [(0,0),(0,1),(0,2),(0,3),(0,4),(0,5),(0,6),(0,8),(0,9),(0,10),(0,11),(0,12),(0,13),(0,15),(1,7),(1,14),(1,16),(0,17),(1,18),(0,19),(2,20)] [20] [] (by kernel_rfl) (λc a d v w h=>by cases d<;>exact h) (λops _=>?_)
  iterate 14 refine Zs rfl (by rintro _ ⟨_,_⟩;go_simp<;>rfl) (by go_simp<;>rfl) ?_
  refine Zu ?_
  go_wp2_with fail
  refine(S0.out _ _ _ (d0.out.below dA).wi).mono ?_;rintro e4 W4 ⟨rfl,wv4,lvs4,F0,h0,i0⟩;have N0:Hid (Ug w0 w W4 Xb T B Fb nb wv wv4 acc lvs b1l lvs4 (5:Nat) u 0 0 0):=(d0.out.below dA).call f0 K0 F0 h0 i0;clear F0 h0 i0 d0 s0 s2 s3 s4 s5
  go_wp2_with fail
  refine⟨E0.out _ N0.out.wi.be,?_⟩;refine Zu ?_
  go_wp2_with fail
  refine(Z0.out _ _ _ N0.out.wi).mono ?_;rintro e5 W5 ⟨rfl,wv5,lvs5,g1,G0,H0⟩;have a0:=N0.out.call f0 K0 g1 G0 H0;have k0:=a0.set f0 o0 2 v1n v1n 0 0 rfl;have e0:=k0.set f0 o0 3 b1n v1n b1n 0 rfl;have m0:=e0.set f0 o0 4 b2n v1n b1n b2n rfl;have c2:=a0.cell 2 _ rfl;have f2:=a0.free 2;have c3:=k0.cell 3 _ rfl;have f3:=k0.free 3;have c4:=e0.cell 4 _ rfl;have f4:=e0.free 4;have q0:=m0.cell 0 _ rfl;have q1:=m0.cell 1 _ rfl;have q2:=m0.cell 2 _ rfl;have q3:=m0.cell 3 _ rfl;have q4:=m0.cell 4 _ rfl;have q5:=m0.cell 5 _ rfl;have HN:=m0.ends (by omega) U0 (by have:=j0.out.1;omega) (by have:=j0.out.2.1;omega) (by have:=j0.out.2.2;omega) (by have:=j0.out.2.2;show b2l.length<=_;omega);have e5':((5:Nat):Int)=5:=rfl;rw[e5',<-HR.out]at HN;have B0:=Zz HN;have m1:Hid _:=E0.out _ a0.wi.be;have n1:Hid _:=E0.out _ k0.wi.be;have o1:Hid _:=E0.out _ e0.wi.be;clear a0 k0 e0 m0 HN HR N0 g1 G0 H0 e5'
  go_wp2_with fail
  refine⟨m1.out,?_⟩;refine Zu ?_
  go_wp2_with fail
  refine⟨n1.out,?_⟩;refine Zs rfl (by rintro _ ⟨_,_⟩;go_simp<;>rfl) (by go_simp<;>rfl) ?_;refine Zu ?_
  go_wp2_with fail
  refine⟨o1.out,?_⟩;refine Zs rfl (by rintro _ ⟨_,_⟩;go_simp<;>rfl) (by go_simp<;>rfl) ?_;refine Ye ?_
  go_wp2_with fail
  refine Zl ?_
  go_wp2_with fail
  refine B0.out.mono ?_;rintro e W6 g0;have C0:=Zz g0;obtain⟨D0,-⟩:=id g0;subst D0;clear g0;go_wp2;go_ret;exact C0.out
 subst h6'
 have HR:Hid (RES=Fl.put1 b1l ⟨6,u,v1n,b1n,0,[]⟩):=by show _=_;rw[b0.out,if_neg (by decide),if_pos rfl]
 clear b0 c2 c3 c4 f2 f3 f4
 go_wp2_with fail
 refine(S0.out _ _ _ d0.out.wi).mono ?_;rintro e4 W4 ⟨rfl,wv4,lvs4,F0,h0,i0⟩;have a0:=d0.out.call f0 K0 F0 h0 i0;have k0:=a0.set f0 o0 2 v1n v1n 0 0 rfl;have e0:=k0.set f0 o0 3 b1n v1n b1n 0 rfl;have c2:=a0.cell 2 _ rfl;have f2:=a0.free 2;have c3:=k0.cell 3 _ rfl;have f3:=k0.free 3;have q0:=e0.cell 0 _ rfl;have q1:=e0.cell 1 _ rfl;have q2:=e0.cell 2 _ rfl;have q3:=e0.cell 3 _ rfl;have q4:=e0.cell 4 _ rfl;have q5:=e0.cell 5 _ rfl;have HN:=e0.ends (by omega) U0 (by have:=j0.out.1;omega) (by have:=j0.out.2.1;omega) (by omega) (by have:=j0.out.2.1;show b1l.length<=_;omega);have e6':((6:Nat):Int)=6:=rfl;rw[e6',<-HR.out]at HN;have B0:=Zz HN;clear a0 k0 e0 HN HR d0 F0 h0 i0 s0 s2 s3 s4 s5 e6'
 go_wp2_with fail
 refine B0.out.mono ?_;rintro e W6 g0;have C0:=Zz g0;obtain⟨D0,-⟩:=id g0;subst D0;clear g0;go_wp2;go_ret;exact C0.out
end
namespace Fl
def grw:Nat->Nat
 |0=>1
 |d+1=>65+32*grw d
def GrOk(n c:Nat)(r:Int×List Node):Prop:=r.2.length<=n+c/\n<=r.2.length/\0<=r.1/\r.1<=n+c
def put1_gr(acc:List Node)(nd:Node):GrOk acc.length 1 (put1 acc nd):=by
 have:=zl0 acc nd;unfold GrOk;omega
def wVal_gr(p:Prog)(vs:List Int)(acc:List Node)(e:Expr):GrOk acc.length 3 (wVal p vs acc e):=by
 unfold wVal
 split
 ·have:=put1_gr acc ⟨if e.a.var then 1 else 0,atomLv p vs e.a,e.a.v,0,0,[]⟩
  unfold GrOk at this⊢;unfold wAtom;omega
 have h1:=put1_gr acc ⟨if e.a.var then 1 else 0,atomLv p vs e.a,e.a.v,0,0,[]⟩;have h2:=put1_gr (wAtom p vs acc e.a).2 ⟨if e.b.var then 1 else 0,atomLv p vs e.b,e.b.v,0,0,[]⟩;have h3:=put1_gr (wAtom p vs (wAtom p vs acc e.a).2 e.b).2 ⟨2,valLv p vs e,e.op,(wAtom p vs acc e.a).1,(wAtom p vs (wAtom p vs acc e.a).2 e.b).1,[]⟩
 change GrOk _ _ (wAtom p vs acc e.a) at h1
 change GrOk _ _ (wAtom p vs (wAtom p vs acc e.a).2 e.b) at h2
 unfold GrOk at*;omega
def wStmt_gr(K:List Node->List Stmt->Int->Int×List Node)(c:Nat)(p:Prog)(vs:List Int)(u:Int)(acc:List Node)(s:Stmt)(h1:∀a l,GrOk a.length c (K a s.body l))(h2:∀a l,GrOk a.length c (K a s.other l)):GrOk acc.length (4+2*c) (wStmt K p vs u acc s):=by
 unfold wStmt;simp only;have hv:=wVal_gr p vs acc s.e;have e1:=h1 (wVal p vs acc s.e).2 (jn p u (valLv p vs s.e));have e2:=h2 (K (wVal p vs acc s.e).2 s.body (jn p u (valLv p vs s.e))).2 (jn p u (valLv p vs s.e))
 split
 ·have:=put1_gr (K (K (wVal p vs acc s.e).2 s.body (jn p u (valLv p vs s.e))).2 s.other (jn p u (valLv p vs s.e))).2 ⟨5,u,(wVal p vs acc s.e).1,(K (wVal p vs acc s.e).2 s.body (jn p u (valLv p vs s.e))).1,(K (K (wVal p vs acc s.e).2 s.body (jn p u (valLv p vs s.e))).2 s.other (jn p u (valLv p vs s.e))).1,[]⟩
  unfold GrOk at*;omega
 split
 ·have:=put1_gr (K (wVal p vs acc s.e).2 s.body (jn p u (valLv p vs s.e))).2 ⟨6,u,(wVal p vs acc s.e).1,(K (wVal p vs acc s.e).2 s.body (jn p u (valLv p vs s.e))).1,0,[]⟩
  unfold GrOk at*;omega
 have:=put1_gr (wVal p vs acc s.e).2 ⟨s.kind,u,s.x,(wVal p vs acc s.e).1,0,[]⟩;unfold GrOk at*;omega
def wAll_gr(W:List Node->Stmt->Int×List Node)(c:Nat):∀(l:List Stmt) (acc:List Node),(∀a s,s∈l->GrOk a.length c (W a s))->(wAll W acc l).2.length<=acc.length+l.length*c/\acc.length<=(wAll W acc l).2.length/\∀n∈(wAll W acc l).1,0<=n/\n<=acc.length+l.length*c
 |[],acc,_=>⟨by simp[wAll],by simp[wAll],λn hn=>by cases hn⟩
 |s::l,acc,h=>by
  have h1:=h acc s (by simp);have h2:=wAll_gr W c l (W acc s).2 (λa t ht=>h a t (by simp[ht]));have e:(s::l).length*c=l.length*c+c:=(by rw[List.length_cons,Nat.succ_mul]);unfold GrOk at h1;refine⟨by show (wAll W (W acc s).2 l).2.length<=_;omega,by show _<=(wAll W (W acc s).2 l).2.length;omega,λn hn=>?_⟩;rcases List.mem_cons.1 (show n∈(W acc s).1::(wAll W (W acc s).2 l).1 from hn) with rfl|hn
  ·omega
  have:=h2.2.2 n hn;omega
def wBlock_gr(p:Prog)(vs:List Int):∀(d:Nat) (acc:List Node) (l:List Stmt) (u:Int),Small d l->GrOk acc.length (grw d) (wBlock p vs d acc l u)
 |0,acc,l,u,_=>put1_gr acc _
 |d+1,acc,l,u,h=>by
  have h1:=wAll_gr (wStmt (wBlock p vs d) p vs u) (4+2*grw d) l acc (λa s hs=>wStmt_gr _ _ p vs u a s (λa l=>wBlock_gr p vs d a _ l (h.2 s hs).1) (λa l=>wBlock_gr p vs d a _ l (h.2 s hs).2));have h2:=put1_gr (wAll (wStmt (wBlock p vs d) p vs u) acc l).2 ⟨7,u,0,0,0,(wAll (wStmt (wBlock p vs d) p vs u) acc l).1⟩;have h3:l.length*(4+2*grw d)<=16*(4+2*grw d):=Nat.mul_le_mul_right _ h.1;show GrOk acc.length (65+32*grw d) (put1 _ _);unfold GrOk at*;omega
end Fl
section
def zj4(hF:Vo w0 Fb Pb Lb clv chv bv vv S p vs):∀(d:Nat),d<=4->∀(V:World) (wv:Value) (acc:List Fl.Node) (lvs:List Value) (v:Value) (l:List Fl.Stmt) (u:Nat),Zg d S w0 v l->Fl.StmtsOk vs.length p.chans.length d l->u<p.n->Yh w0 V Xb T B Fb wv acc lvs->acc.length<=20000000 - 4000000*d->
  Cq 140 #[Pq Xb,v,Iq u] V (Vy (λ_=>False) w0 V Xb T B Fb wv acc lvs (Fl.wBlock p vs d acc l u))
 |0,_,V,wv,acc,lvs,v,l,u,hl,ho,hu,h,hn=>by
  obtain⟨rfl,rfl⟩:=hl;have h6:=hF.lv.lv.n6;exact zm3 20000000 (Nat.le_refl _) 0 (λa _=>(0,a)) u (by omega) Zq [] hF ⟨none,0,rfl,by simp,by simp[maxLen],by simp,λhh=>absurd rfl hh⟩ (λ_ _ _ _ _ _ hs=>(by cases hs)) (λk hk=>⟨by simp[Fl.wAll];omega,λn hn=>(by simp[Fl.wAll]at hn)⟩) h
 |d+1,hd,V,wv,acc,lvs,v,l,u,hl,ho,hu,h,hn=>by
  have h6:=hF.lv.lv.n6;have a0:=Zg.small _ _ _ hl;have hv:vs.length<=100:=(by have:=hF.ok.1;have:=hF.pk.ce;have:=hF.pk.lo;omega);have hg:Fl.grw d<=101473:=by
   have:d=0\/d=1\/d=2\/d=3:=by omega
   rcases this with rfl|rfl|rfl|rfl<;>decide
  have hS:∀s∈l,∀(a:List Fl.Node),Fl.GrOk a.length (4+2*Fl.grw d) (Fl.wStmt (Fl.wBlock p vs d) p vs u a s):=λs hs a=>Fl.wStmt_gr _ _ p vs u a s (λa l=>Fl.wBlock_gr p vs d a _ l (a0.2 s hs).1) (λa l=>Fl.wBlock_gr p vs d a _ l (a0.2 s hs).2);refine zm3 (19500000 - 4000000*d) (by omega) d (Fl.wStmt (Fl.wBlock p vs d) p vs u) u (by omega) v l hF hl (λV' wv' acc' lvs' pv s hs c0 hV hn'=>?_) (λk hk=>?_) h
  ·obtain⟨d0,b0,e0,f0⟩:=ho s hs
   obtain⟨vl,g0,evl⟩:=zwy hF.lv.lv hF.ok b0;obtain⟨lv,h0,elv⟩:=hF.lv.lv.join hu g0;have ej:Fl.jn p u (Fl.valLv p vs s.e)=(lv:Int):=(by unfold Fl.jn;rw[evl];exact elv);have g1:=Fl.wVal_gr p vs acc' s.e;have g2:=Fl.wBlock_gr p vs d (Fl.wVal p vs acc' s.e).2 s.body lv (a0.2 s hs).1;have g3:=Fl.wBlock_gr p vs d (Fl.wBlock p vs d (Fl.wVal p vs acc' s.e).2 s.body lv).2 s.other lv (a0.2 s hs).2;unfold Fl.GrOk at g1 g2 g3;exact yu4 (20000000 - 4000000*d) (by omega) d u hu c0 hF hv d0 b0 ⟨e0,f0⟩ (λV wv acc lvs v l u a b c e f=>zj4 hF d (by omega) V wv acc lvs v l u a b c e f) (by omega) _ _ lv ej rfl rfl ⟨⟨by omega,by omega,by omega⟩,⟨by omega,by omega,by omega⟩,by omega,by omega,by omega⟩ hV
  have h1:=Fl.wAll_gr (Fl.wStmt (Fl.wBlock p vs d) p vs u) (4+2*Fl.grw d) (l.take k) acc (λa s hs=>hS s (List.mem_of_mem_take hs) a);have h2:(l.take k).length<=16:=(by rw[List.length_take];have:=a0.1;omega);have h3:(l.take k).length*(4+2*Fl.grw d)<=16*(4+2*Fl.grw d):=Nat.mul_le_mul_right _ h2;refine⟨by omega,λn hn=>?_⟩;have:=h1.2.2 n hn;omega
end
namespace Fl
def dupAt(ns:List Node)(k:Nat):Bool:=(List.range k).any (λi=>eqNode (nth ns i) (nth ns k))
def firstDup(ns:List Node):Int:=match (List.range ns.length).find? (dupAt ns) with|some k=>(k:Int)|none=> -1
def dupAt_iff(ns:List Node)(k:Nat)(hk:k<ns.length):dupAt ns k=true ↔ nth ns k∈ns.take k:=by
 unfold dupAt;rw[List.any_eq_true]
 constructor
 ·rintro⟨i,hi,he⟩
  simp only[List.mem_range]at hi;rw[<-(eqNode_iff _ _).1 he]
  have:nth ns i=(ns.take k)[i]'(by simp;omega):=by simp[nth,Qa,Qb (show i<ns.length by omega)]
  rw[this];exact List.getElem_mem _
 intro h;obtain⟨i,hi,he⟩:=List.getElem_of_mem h
 have a0:i<k:=by simp at hi;omega
 refine⟨i,by simpa using a0,(eqNode_iff _ _).2 ?_⟩;rw[<-he];simp[nth,Qa,Qb (show i<ns.length by omega)]
end Fl
def Yu.node{off cap:Nat}(h:Yu B w (.slice (some (Aq b off)) n cap) ns)(hi:i<ns.length)(hB:B<=w.heap.size):∃lv,Vm w b (off+i*6) (Fl.nth ns i) lv:=by
 obtain⟨_,lv,h0,h1,h2,h3,h4,h5,h6⟩:=h.at hi;exact⟨lv,h1,h2,h3,h4,h5,h6,h0.mono hB⟩
namespace Fl
def usedBy(ns:List Node)(j k:Nat):Bool:=(List.range j).any (λt=>(prem (nth ns t)).any (λp=>p==(k:Int)))
def firstUn(ns:List Node):Int:=match (List.range (ns.length - 1)).find? (λk=> !usedBy ns ns.length k) with|some k=>(k:Int)|none=> -1
def usedBy_succ(ns:List Node)(j k:Nat):usedBy ns (j+1) k=(usedBy ns j k||(prem (nth ns j)).any (λp=>p==(k:Int))):=by
 unfold usedBy;rw[List.range_succ,List.any_append];simp
end Fl
def zl3{te:TypeId}{fr:Nat×Nat}(h:w.heap[b]?=some (.cells Zb te fr)):Vs w b 0:=by
 have q:∀i,w.cell? (Aq b i)=Zb[i]?:=λi=>cell_of_row w b i Zb te fr h;intro k hk
 have:k=0\/k=1\/k=2\/k=3\/k=4\/k=5\/k=6\/k=7:=by omega
 rcases this with rfl|rfl|rfl|rfl|rfl|rfl|rfl|rfl<;>exact⟨(q _).trans rfl,(q _).trans rfl,(q _).trans rfl⟩
def Vs.below{ro:Nat}(h:Vs w b ro)(hb:Bq w w'):Vs w' b ro:=λk hk=>by
 obtain⟨h1,h2,h3⟩:=h k hk;have a0:b<w.heap.size:=Qe w _ h1;exact⟨(hb.cell (p:=(Aq b _)) a0).trans h1,(hb.cell (p:=(Aq b _)) a0).trans h2,(hb.cell (p:=(Aq b _)) a0).trans h3⟩
structure zu8(w:World)(U n:Nat)(us:Nat->Bool):Prop where
 hu:∀i,i<n->w.cell? (Aq U i)=some (.bool (us i))
 hf:∀i,w.frozen? (Aq U i)=false
 hall:∀i v,w.cell? (Aq U i)=some v->∃t,v=.bool t
def zu8.below{us:Nat->Bool}(h:zu8 w U n us)(hb:Bq w w')(hU:U<w.heap.size):zu8 w' U n us:=by
 have q:∀i,w'.cell? (Aq U i)=w.cell? (Aq U i):=λi=>hb.cell (p:=(Aq U i)) hU;exact⟨λi hi=>(q i).trans (h.hu i hi),λi=>(hb.frozen (p:=(Aq U i)) hU).trans (h.hf i),λi v hv=>h.hall i v ((q i).symm.trans hv)⟩
def zu8.set{us:Nat->Bool}(h:zu8 w U n us)(y:Nat)(hy:y<n):zu8 (w.setCell (Aq U y) (.bool true)) U n (λi=>us i||i==y):=by
 have hs:(w.setCell (Aq U y) (.bool true)).cell? (Aq U y)=some (.bool true):=zn9 (h.hu y hy);refine⟨λi hi=>?_,λi=>(World.frozen?_setCell _ _ _ _).trans (h.hf i),λi v hv=>?_⟩
 ·by_cases e:i=y
  ·subst e;rw[hs];simp
  rw[Ve (λe'=>e e'.symm),h.hu i hi];simp[e]
 by_cases e:i=y
 ·subst e;rw[hs]at hv;exact⟨true,by injection hv with hv;exact hv.symm⟩
 rw[Ve (λe'=>e e'.symm)]at hv;exact h.hall i v hv
def zu8.apart{us:Nat->Bool}(h:zu8 w U n us){o:Nat}(hc:w.cell? (Aq b o)=some (Iq x)):b≠U:=by
 intro e;subst e;obtain⟨t,ht⟩:=h.hall o _ hc;cases ht
structure zz7(ns:List Fl.Node)(w wr:World)(TB U:Nat)(us:Nat->Bool):Prop where
 hm:zu8 wr U ns.length us
 hr:Vs wr TB 0
 hb:Bq w wr
 hT:w.heap.size<=TB
 hU:TB<U
 hz:U<wr.heap.size
def zz7.below{ns:List Fl.Node}{w wr w':World}{TB U:Nat}{us:Nat->Bool}(h:zz7 ns w wr TB U us)(hb:Bq wr w'):zz7 ns w w' TB U us:=
 ⟨h.hm.below hb h.hz,h.hr.below hb,h.hb.trans (hb.mono h.hb.size),h.hT,h.hU,Qj h.hz hb.size⟩
def zz7.set{ns:List Fl.Node}{w wr:World}{TB U:Nat}{us:Nat->Bool}(h:zz7 ns w wr TB U us)(y:Nat)(hy:y<ns.length):zz7 ns w (wr.setCell (Aq U y) (.bool true)) TB U (λi=>us i||i==y):=by
 have hT:=h.hT;have hU:=h.hU;refine⟨h.hm.set y hy,λk hk=>?_,h.hb.setCell (by show w.heap.size<=U;omega) _,hT,hU,by have:=h.hz;simpa [World.setCell] using this⟩;obtain⟨h1,h2,h3⟩:=h.hr k hk;have g:=zvw wr U y (.bool true)
 have a0:some TB≠some U:=by simp;omega
 exact⟨g.cell h1 a0,g.cell h2 a0,g.cell h3 a0⟩
def zz7.congr{TB:Nat}{us us':Nat->Bool}(h:zz7 ns w wr TB U us)(he:∀i,i<ns.length->us i=us' i):zz7 ns w wr TB U us':=
 ⟨⟨λi hi=>by rw[<-he i hi];exact h.hm.hu i hi,h.hm.hf,h.hm.hall⟩,h.hr,h.hb,h.hT,h.hU,h.hz⟩
structure yq9(w:World)(pao:Option Addr)(ps:List Int):Prop where
 hx:ps≠[]->∃b off,pao=some (Aq b off)/\∀i,i<ps.length->w.cell? (Aq b (off+i))=some (Iq (ps.getD i 0))
def Tryz.infoBool:(Tryz.prog.info? 4).map (λi=>(i.zero,i.size,i.bytes))=some (some (.bool false),1,1):=by kernel_rfl
def zj5(ns:List Fl.Node)(nv:Value)(w:World)(hn:Yu w.heap.size w nv ns)(hlen:ns.length<=1000)
  (hk:∀i,i<ns.length->0<=(Fl.nth ns i).kind/\(Fl.nth ns i).kind<8) (hp:∀i,i<ns.length->∀p∈prem (Fl.nth ns i),0<=p/\p<ns.length):
  Cq 101 #[nv] w λe w'=>e=.returned (Iq (Fl.firstUn ns))/\Bq w w':=by
 obtain⟨i0,hi,A0,B0,C0⟩:=info_parts Tryz.infoBool;obtain⟨na,nc,rfl,_,hm,_⟩:=id hn;have HN:=Zz hn;have HK:=Zz hk;have HP:=Zz hp;clear hn hm hk hp
 go_enter func101,ntmps101
 go_wp2_with (first|(go_at_call 107;refine(zo4 _).mono ?_;rintro e w1 ⟨rfl,rfl⟩)|(refine zx0 rfl _ _ 210 rfl _ _ _ Zb rfl (by simp) rfl Tryz.infoRules ztx zq0 ?_)|(at_make;refine wpList_make_full _ rfl _ _ 59 rfl (w.heap.size+2) 4 i0 (.bool false) 1 underlying59 hi A0 B0 _ _ _ _ ns.length rfl rfl rfl rfl (by rw[C0];omega) (by unfold maxLen;omega) (by simp) ?_;intro w3 b0 k0))
 have s0:Bq w w3:=((bA).alloc (by simp) _).grown k0 (by simp;omega) (λk h=>by cases h);have g0:Hid (zz7 ns w w3 (w.heap.size+1) (w.heap.size+1+1) (λ_=>false)):=by
  have l0:((w.alloc (.cells Zb 210)).alloc (.cells Zb 210)).heap[w.heap.size+1]?=some (.cells Zb 210 (0,0)):=by
   have:=heap_alloc_last (w.alloc (.cells Zb 210)) (.cells Zb 210)
   rwa [World.size_alloc]at this
  rcases b0.2 with⟨h,_⟩|⟨g,cap',cur,hv,P0,h0,Q0,m0,R0,D0⟩
  ·cases h
  simp only[Value.slice.injEq,Option.some.injEq,Addr.mk.injEq]at hv;obtain⟨⟨E0,_⟩,_,n0⟩:=hv;subst n0;rw[<-E0]at h0;have o0:cur.toList=List.replicate ns.length (.bool false):=by
   have hl:cur.toList.length=ns.length:=(by simp;omega);have h2:=D0;rw[show (Value.bool false).cells=#[.bool false] from rfl,toList_madeCells_one,Nat.mul_one,List.take_of_length_le (by omega)]at h2;exact h2
  have hc:∀i,w3.cell? (Aq (w.heap.size+1+1) i)=(List.replicate ns.length (Value.bool false))[i]?:=λi=>by
   rw[cell_of_row w3 _ i cur _ _ (by simpa using h0),<-o0];simp
  refine⟨⟨λi hi=>by rw[hc];simp[hi],λi=>by simp[World.frozen?,(by simpa using h0:w3.heap[w.heap.size+1+1]?=_)],λi v hv=>?_⟩,zl3 ((k0.block _ (by simp) (by simp)).trans l0),s0,by omega,by omega,?_⟩
  ·rw[hc]at hv;exact⟨false,(List.mem_replicate.1 (List.mem_of_getElem? hv)).2⟩
  have:=(Array.getElem?_eq_some_iff.1 h0).1;simpa using this
 obtain⟨TB,hTB⟩:=nmE (w.heap.size+1);rw[<-hTB]at g0⊢;obtain⟨U,hU⟩:=nmE (TB+1);rw[<-hU]at g0⊢;clear b0 k0 s0 hTB hU
 go_loopw [15] (λi wr=>∃(j:Nat),j<=ns.length/\i=Iq j/\zz7 ns w wr TB U (Fl.usedBy ns j)) (λi _=>ns.length - (intOf i).toNat)
 case atStart=>exact⟨0,by omega,rfl,g0.out.congr (λi _=>rfl)⟩
 case round=>
  clear g0;obtain⟨j,hj,rfl,hr⟩:=hrel;have HR:=Zz hr;clear hr
  by_cases d0:j<ns.length
  ·obtain⟨b,off,rfl⟩:∃b off,na=some (Aq b off):=by
    obtain⟨ao',cap',hv',_,_,hx'⟩:=HN.out;obtain⟨b,off,ha,_⟩:=hx' (by intro h;rw[h]at d0;simp at d0);simp only[Value.slice.injEq]at hv';exact⟨b,off,hv'.1.trans ha⟩
   obtain⟨lv,p0⟩:=(HN.out.below HR.out.hb).node d0 HR.out.hb.size;have F0:=HK.out j d0;obtain⟨x,hx⟩:∃x:Nat,(Fl.nth ns j).kind=(x:Int):=⟨(Fl.nth ns j).kind.toNat,by omega⟩;have G0:x<8:=(by omega);have c0:=p0.c0;rw[hx]at c0;have h3:=(HR.out.hr x G0).2.2;have h3':wr.cell? (Aq TB (x*4+3))=some (.func (.func (byF x)) #[] #[]):=(by simpa using h3);have H0:∀W,(callFunc (byF x) #[.pointer (some (Aq b (off+j*6)))]).run prog W=.ok (.enter (byF x) #[.pointer (some (Aq b (off+j*6)))]) W:=λW=>zc5 x _ W;have HC:Hid (Cq (byF x) #[.pointer (some (Aq b (off+j*6)))] wr.drew (Vl (prem (Fl.nth ns j)) wr.drew)):=by
    rw[<-hx];exact yq5 (p0.below (dA))
   have t0:(j:Int)<(ns.length:Int):=(by omega);have S0:(x:Int)<8:=(by omega);clear p0 h3 F0 hx
   go_wp2_with fail
   go_region_with (refine(HC.out).mono ?_;rintro e w4 ⟨pv,rfl,I0,u0⟩;obtain⟨pao,pcap,rfl,_,v0,e0⟩:=I0)
   have x0:Hid (zz7 ns w w4 TB U (Fl.usedBy ns j)):=HR.out.below (dA.trans u0);obtain⟨ps,q0⟩:=nmE (prem (Fl.nth ns j));rw[<-q0]at v0 e0⊢;have y0:=Zz q0;have j0:Hid (yq9 w4 pao ps):=⟨λJ0=>by obtain⟨b,off,ha,_,hc⟩:=e0 J0;exact⟨b,off,ha,hc⟩⟩;unfold maxLen at v0;clear e0 q0 u0 HC H0 c0 h3'
   go_wp2_with fail
   simp only[List.getElem_toArray,List.getElem_cons_succ,List.getElem_cons_zero,Act.put,List.setIfInBounds_toArray,List.set_cons_succ,List.set_cons_zero]
   go_loopw [31] (λi wz=>∃(m:Nat),m<=ps.length/\i=Iq m/\yq9 wz pao ps/\zz7 ns w wz TB U (λk=>Fl.usedBy ns j k||(ps.take m).any (λp=>p==(k:Int)))) (λi _=>ps.length - (intOf i).toNat)
   case atStart=>exact⟨0,by omega,rfl,j0.out,x0.out.congr (λk _=>by simp)⟩
   case round=>
    clear x0 j0;obtain⟨m,K0,rfl,e0,hu⟩:=hrel;have j0:=Zz e0;have HU:=Zz hu;clear e0 hu
    by_cases a0:m<ps.length
    ·obtain⟨pb,po,rfl,r0⟩:=j0.out.hx (by intro h;rw[h]at a0;simp at a0)
     have m0:=r0 m a0;have hr:=HP.out j d0 (ps.getD m 0) (by rw[<-y0.out];exact Ur a0);obtain⟨y,hy⟩:∃y:Nat,ps.getD m 0=(y:Int):=⟨(ps.getD m 0).toNat,by omega⟩;rw[hy]at m0;have z0:y<ns.length:=(by omega);have T0:(y:Int)<(ns.length:Int):=(by omega);have HY:=Zz hy;have uy:=HU.out.hm.hu y z0;have uf:=HU.out.hm.hf;have L0:pb≠U:=HU.out.hm.apart m0;have M0:(m:Int)<(ps.length:Int):=(by omega);have N0:=Zz r0;clear hr hy r0;go_wp2
     go_roundw
     case rel=>
      refine⟨m+1,by omega,by go_num,⟨λ_=>⟨pb,po,rfl,λi hi=>(zvw _ _ _ _).cell (N0.out i hi) (by simpa using L0)⟩⟩,(HU.out.set y z0).congr (λk hk=>?_)⟩;rw[Fl.take_snocI ps m a0,List.any_append,HY.out];simp only[List.any_cons,List.any_nil,Bool.or_false];rw[<-Bool.or_assoc]
      congr 1
      rw[Bool.eq_iff_iff,beq_iff_eq,beq_iff_eq];omega
     case measure=>simp[intOf];omega
    have HE:Hid (zz7 ns w wr TB U (Fl.usedBy ns (j+1))):=HU.out.congr (λk _=>by rw[Fl.usedBy_succ,<-y0.out,List.take_of_length_le (by omega)]);go_wp2
    go_roundw
    case rel=>exact⟨j+1,by omega,by go_num,HE.out⟩
    case measure=>simp[intOf];omega
  have t0:j=ns.length:=(by omega);subst t0;clear hj d0
  go_wp2_with fail
  go_loop [43] (λi=>∃m:Nat,m<=ns.length/\i=Iq m/\∀t,t<m->Fl.usedBy ns ns.length t=true) (λi=>ns.length - (intOf i).toNat)
  case atStart=>exact⟨0,by omega,rfl,λt ht=>by omega⟩
  case round=>
   obtain⟨m,K0,rfl,hall⟩:=hrel;have HA:=Zz hall;clear hall
   by_cases d0:(m:Int)<(ns.length:Int) - 1
   ·have um:=HR.out.hm.hu m (by omega)
    have M0:(m:Int)<(ns.length:Int):=(by omega)
    cases f0:Fl.usedBy ns ns.length m with
    |true=>
     rw[f0]at um;have O0:=Zz f0;clear f0;go_wp2
     go_round
     case rel=>exact⟨m+1,by omega,by go_num,λt ht=>by
      by_cases h:t<m
      ·exact HA.out t h
      have:t=m:=by omega
      subst this;exact O0.out⟩
     case measure=>simp[intOf];omega
    |false=>
     rw[f0]at um;have HF:Hid (Fl.firstUn ns=(m:Int)):=by
      show Fl.firstUn ns=(m:Int);unfold Fl.firstUn;rw[Fl.find_first _ _ m (λt ht=>by rw[HA.out t ht];rfl) (by omega) (by rw[f0];rfl)]
     clear f0;go_wp2;go_ret;exact⟨Vc HF.out.symm,HR.out.hb⟩
   have HF:Hid (Fl.firstUn ns= -1):=by
    show Fl.firstUn ns= -1;unfold Fl.firstUn;rw[Fl.find_none _ _ (λk hk=>by rw[HA.out k (by omega)];rfl)]
   go_wp2;go_ret;exact⟨Vc HF.out.symm,HR.out.hb⟩
namespace Fl
def good(k:Nat)(nd:Node):Prop:=sound nd=true/\(prem nd).any (λp=>decide ((k:Int)<=p))=false
def inR_of(h:0<=x/\x<2147483648):inR x=true:=by simp[inR,h.1,h.2]
def getD_inR(h:∀x∈l,0<=x/\x<2147483648)(i:Nat):inR (l.getD i 0)=true:=by
 rw[Qa]
 cases he:l[i]? with
 |none=>rfl
 |some x=>exact inR_of (h x (List.mem_of_getElem? he))
def getD_out(h:l.length<=i):l.getD i 0=0:=by
 rw[Qa,List.getElem?_eq_none h];rfl
def okV_get(h:∀x∈l,0<=x/\x<2147483648){f:Nat}(hl:l.length=f)(i:Nat):okV (f:Int) (i:Int) (l.getD i 0)=true:=by
 unfold okV;rw[getD_inR h i,Bool.true_and,Bool.or_eq_true,decide_eq_true_eq,decide_eq_true_eq]
 by_cases hi:i<f
 ·left;omega
 right;exact getD_out (by omega)
def oneFin_good'{p:Nat}{nd:Node}{e:Int}(h:¬(oneFin p k nd e).2.1<0)(hs:sound nd=true):good k (oneFin p k nd e).1:=by
 unfold oneFin at*
 split at h
 ·exact absurd (show (-1:Int)<0 by decide) h
 rename_i hn;rw[if_neg hn];exact⟨hs,by simpa using hn⟩
def one_good'(s:List UInt8)(p k:Nat)(hp:p<=s.length)(h:¬(one s p k).2.1<0):good k (one s p k).1:=by
 unfold one at*
 by_cases h0:p=s.length
 ·rw[if_pos h0]at h;exact absurd (show (-1:Int)<0 by decide) h
 rw[if_neg h0]at h⊢;simp only at h⊢;have hx:(s.getD p 0).toNat<256:=(s.getD p 0).toNat_lt;generalize (s.getD p 0).toNat=x at*
 by_cases h1:fields (x:Int)= -2
 ·rw[if_pos h1]at h;exact absurd (show (-1:Int)<0 by decide) h
 rw[if_neg h1]at h⊢
 by_cases h2:(num s (p+1)).2.1<0
 ·rw[if_pos h2]at h;exact absurd (show (-1:Int)<0 by decide) h
 rw[if_neg h2]at h⊢;obtain⟨v,q,hn,_,hq,hv⟩:=zgz s (p+1) (by omega) h2;rw[hn]at h⊢;simp only[Int.toNat_natCast]at h⊢;have a0:inR (v:Int)=true:=inR_of ⟨by omega,by omega⟩
 by_cases h3:fields (x:Int)= -1
 ·rw[if_pos h3]at h⊢
  by_cases h4:(num s q).2.1<0
  ·rw[if_pos h4]at h;exact absurd (show (-1:Int)<0 by decide) h
  rw[if_neg h4]at h⊢
  by_cases h5:16<(num s q).1
  ·rw[if_pos h5]at h;exact absurd (show (-1:Int)<0 by decide) h
  rw[if_neg h5]at h⊢;obtain⟨m,q2,hm,_,b0,_⟩:=zgz s q hq h4;rw[hm]at h h5⊢;simp only[Int.toNat_natCast]at h h5⊢
  by_cases h6:(nums s q2 m).2.1<0
  ·rw[if_pos h6]at h;exact absurd (show (-1:Int)<0 by decide) h
  rw[if_neg h6]at h⊢;refine oneFin_good' h ?_;rcases nums_ok s q2 m b0 with h7|⟨_,_,h8,h9⟩
  ·omega
  simp only[sound,h3,a0,h8,okV,Bool.and_eq_true,decide_eq_true_eq,Bool.or_eq_true];refine⟨by omega,by first|trivial|rfl,by omega,⟨by first|rfl|trivial,.inr (by first|rfl|trivial)⟩,⟨by first|rfl|trivial,.inr (by first|rfl|trivial)⟩,⟨by first|rfl|trivial,.inr (by first|rfl|trivial)⟩,?_,.inl (by first|trivial|rfl)⟩;rw[List.all_eq_true];intro y hy;exact inR_of (h9 y hy)
 rw[if_neg h3]at h⊢;have c0:=fields_lt (x:Int);obtain⟨f,hf⟩:∃f:Nat,fields (x:Int)=(f:Int):=⟨(fields (x:Int)).toNat,by omega⟩;rw[hf]at h⊢;simp only[Int.toNat_natCast]at h⊢
 by_cases h6:(nums s q f).2.1<0
 ·rw[if_pos h6]at h;exact absurd (show (-1:Int)<0 by decide) h
 rw[if_neg h6]at h⊢;refine oneFin_good' h ?_;rcases nums_ok s q f hq with h7|⟨_,_,h8,h9⟩
 ·omega
 have g0:=okV_get h9 h8 0;have g1:=okV_get h9 h8 1;have g2:=okV_get h9 h8 2;simp only[sound,hf,a0,Bool.and_eq_true,decide_eq_true_eq,Bool.or_eq_true];refine⟨by omega,by first|trivial|rfl,by simp,?_,?_,?_,by simp,.inr (by first|rfl|trivial)⟩
 ·simpa using g0
 ·simpa using g1
 simpa using g2
def sound_fits{nd:Node}(h:sound nd=true):fits nd/\0<=nd.kind/\nd.kind<8:=by
 simp only[sound,Bool.and_eq_true,decide_eq_true_eq,okV]at h;obtain⟨h1,h2,h3,⟨h4,_⟩,⟨h5,_⟩,⟨h6,_⟩,h7,_⟩:=h
 have hk:0<=nd.kind/\nd.kind<8:=by unfold fields at h1;(repeat' split at h1)<;>omega
 exact⟨⟨inR_of ⟨hk.1,by omega⟩,h2,h4,h5,h6,h3,h7⟩,hk⟩
def prem_inR{nd:Node}(h:sound nd=true):∀p∈prem nd,0<=p:=by
 obtain⟨⟨_,_,ha,hb,hc,_,hl⟩,_⟩:=sound_fits h
 have q:∀{x:Int},inR x=true->0<=x:=λh=>by simp only[inR,Bool.and_eq_true,decide_eq_true_eq]at h;exact h.1
 intro p hp;unfold prem at hp
 repeat' split at hp
 all_goals try simp only[List.mem_cons,List.not_mem_nil,or_false]at hp
 all_goals first|(rcases hp with rfl|rfl|rfl<;>first|exact q ha|exact q hb|exact q hc)|(rcases hp with rfl|rfl<;>first|exact q ha|exact q hb|exact q hc)|(subst hp;first|exact q ha|exact q hb|exact q hc)|exact q (List.all_eq_true.1 hl p hp)|exact hp.elim
def allGood(ns:List Node):Prop:=∀i,i<ns.length->good i (nth ns i)
def allGood_snoc{nd:Node}(h:allGood ns)(hg:good ns.length nd):allGood (ns++[nd]):=by
 intro i hi;simp only[List.length_append,List.length_cons,List.length_nil]at hi
 by_cases h1:i<ns.length
 ·have:nth (ns++[nd]) i=nth ns i:=by simp[nth,Qa,List.getElem?_append_left h1]
  rw[this];exact h i h1
 have hi':i=ns.length:=by omega
 subst hi'
 have:nth (ns++[nd]) ns.length=nd:=by simp[nth,Qa]
 rw[this];exact hg
def good_lt{nd:Node}(h:good k nd){p:Int}(hp:p∈prem nd):0<=p/\p<k:=by
 refine⟨prem_inR h.1 p hp,?_⟩;have:=h.2;rw[List.any_eq_false]at this;have:=this p hp;simp only[decide_eq_true_eq]at this;omega
def shaped_good(h:allGood ns):shaped ns=if 0<=firstDup ns then firstDup ns else firstUn ns:=by
 have hb:∀k,k<ns.length->bad ns k=dupAt ns k:=λk hk=>by
  have:=h k hk;unfold bad dupAt;rw[this.1,this.2];rfl
 have hu:∀k,used ns k=usedBy ns ns.length k:=λk=>by
  unfold used usedBy;rw[Bool.eq_iff_iff,List.any_eq_true,List.any_eq_true]
  constructor
  ·rintro⟨j,hj,hh⟩;exact⟨j,hj,(Bool.and_eq_true_iff.1 hh).2⟩
  rintro⟨j,hj,hh⟩;refine⟨j,hj,?_⟩;rw[Bool.and_eq_true];refine⟨?_,hh⟩;rw[List.any_eq_true]at hh;obtain⟨p,hp,he⟩:=hh;have:=good_lt (h j (by simpa using hj)) hp;rw[beq_iff_eq]at he;rw[decide_eq_true_eq];omega
 have a0:(List.range ns.length).find? (bad ns)=(List.range ns.length).find? (dupAt ns):=by
  have:∀(l:List Nat),(∀k∈l,k<ns.length)->l.find? (bad ns)=l.find? (dupAt ns):=by
   intro l
   induction l with
   |nil=>intro _;rfl
   |cons x l ih=>intro hl;simp only[List.find?_cons,hb x (hl x (by simp)),ih (λk hk=>hl k (by simp[hk]))]
  exact this _ (λk hk=>by simpa using hk)
 unfold shaped firstDup firstUn;rw[a0]
 cases hd:(List.range ns.length).find? (dupAt ns) with
 |some k=>simp only;rw[if_pos (by omega)]
 |none=>
  simp only;rw[if_neg (by decide)]
  have:(λk=> !used ns k)=(λk=> !usedBy ns ns.length k):=by funext k;rw[hu]
  rw[this]
  cases (List.range (ns.length - 1)).find? (λk=> !usedBy ns ns.length k)<;>rfl
end Fl
structure Fr(w w':World)(b:Nat):Prop where
 g:w.grownBy w' (some b)
 o:∀j,j≠1->j≠34->w'.cell? (Aq b j)=w.cell? (Aq b j)
 f:∀j,w'.frozen? (Aq b j)=w.frozen? (Aq b j)
def Mv.fr(h:Mv w w' b):Fr w w' b:=⟨h.g,λj h1 _=>h.o j h1,h.f⟩
def Fr.trans{w w1 w2:World}{b:Nat}(h:Fr w w1 b)(k:Fr w1 w2 b):Fr w w2 b:=
 ⟨⟨k.g.os.trans h.g.os,k.g.tape.trans h.g.tape,k.g.output.trans h.g.output,Nat.le_trans h.g.size k.g.size,λi hi a0=>(k.g.block i (Qj hi h.g.size) a0).trans (h.g.block i hi a0)⟩,λj hj hj'=>(k.o j hj hj').trans (h.o j hj hj'),λj=>(k.f j).trans (h.f j)⟩
def Fr.andGrown{w1 w2:World}{row:Option Nat}(h:Fr w w1 b)(g:w1.grownBy w2 row)(hb:b<w.heap.size)(hall:∀k,row=some k->w.heap.size<=k):Fr w w2 b:=by
 have a0:∀k,k<w.heap.size->some k≠row:=λk hk e=>by have:=hall k e.symm;omega
 have hz:=h.g.size;refine⟨⟨g.os.trans h.g.os,g.tape.trans h.g.tape,g.output.trans h.g.output,Nat.le_trans h.g.size g.size,λk hk b0=>(g.block k (by omega) (a0 k hk)).trans (h.g.block k hk b0)⟩,λj hj hj'=>?_,λj=>?_⟩
 ·exact(Qc (w:=w1) (a:=(Aq b j)) (g.block b (by omega) (a0 b hb))).trans (h.o j hj hj')
 exact(Qd (w:=w1) (a:=(Aq b j)) (g.block b (by omega) (a0 b hb))).trans (h.f j)
structure Vd(base:Nat)(w w':World):Prop where
 size:w.heap.size<=w'.heap.size
 block:∀k,base<=k->k<w.heap.size->w'.heap[k]?=w.heap[k]?
def Vd.alloc(base:Nat)(w:World)(o:Obj):Vd base w (w.alloc o):=⟨by simp,λk _ hk=>Below.heap_alloc _ _ _ hk⟩
def Vd.grown{row:Option Nat}(g:w.grownBy w' row)(h:∀k,row=some k->k<base):Vd base w w':=⟨g.size,λk hb hk=>g.block k hk (λe=>by have:=h k e.symm;omega)⟩
def Vd.below(h:Bq w w'):Vd base w w':=⟨h.size,λk _ hk=>h.block k hk⟩
def Vd.trans{base:Nat}{w w1 w2:World}(h:Vd base w w1)(k:Vd base w1 w2):Vd base w w2:=⟨Nat.le_trans h.size k.size,λi hb hi=>(k.block i hb (Qj hi h.size)).trans (h.block i hb hi)⟩
def zcv{e:TypeId}{size:Nat}(h:w.ownsRow base e size v n xs)(s:Vd base w w'):w'.ownsRow base e size v n xs:=by
 refine⟨h.1,?_⟩;rcases h.2 with hn|⟨g,cap,cur,hv,hb,hg,rest⟩
 ·exact .inl hn
 exact .inr ⟨g,cap,cur,hv,hb,(s.block g hb (Array.getElem?_eq_some_iff.1 hg).1).trans hg,rest⟩
def zgy{xs:List Int}(h:Zw w.heap.size w lv xs)(hb:xs≠[]->∀b,lv.ownBlock=some b->base<=b)(s:Vd base w w'):Zw w'.heap.size w' lv xs:=by
 obtain⟨ao,cap,rfl,hc,hl,hx⟩:=h;refine⟨ao,cap,rfl,hc,hl,λb0=>?_⟩;obtain⟨b,off,rfl,c0,a0⟩:=hx b0;have d0:=hb b0 b rfl;exact⟨b,off,rfl,Qj c0 s.size,λi hi=>(Qc (w:=w) (a:=(Aq b (off+i))) (s.block b d0 c0)).trans (a0 i hi)⟩
structure Li(base:Nat)(w:World)(fam:List (Value×List Int))(sv nv:Value)(n1 n2:Nat)(xs ys:List Value):Prop where
 hs:w.ownsRow base 3 1 sv n1 xs
 hn:w.ownsRow base 92 6 nv n2 ys
 hall:∀p,p∈fam->Vh w p.1 p.2 sv nv/\(p.2≠[]->∀b,p.1.ownBlock=some b->base<=b)
section
variable{fam:List (Value×List Int)}{nv:Value}{n1 n2:Nat}{ys:List Value}
def Li.stay(h:Li base w fam sv nv n1 n2 xs ys)(s:Vd base w w'):Li base w' fam sv nv n1 n2 xs ys:=
 ⟨zcv h.hs s,zcv h.hn s,λp hp=>⟨⟨zgy (h.hall p hp).1.1 (h.hall p hp).2 s,(h.hall p hp).1.2⟩,(h.hall p hp).2⟩⟩
def Li.first(h:Li base w fam sv nv n1 n2 xs ys){sv':Value}{n1':Nat}{xs':List Value}(ho:w'.ownsRow base 3 1 sv' n1' xs')(hg:w.grownBy w' sv.ownBlock)(hw:sv'.ownBlock=sv.ownBlock\/sv'.ownBlock=some w.heap.size):Li base w' fam sv' nv n1' n2 xs' ys:=
 ⟨ho,h.hn.kept hg (ztz h.hn h.hs (by decide)),λp hp=>⟨(h.hall p hp).1.first hg hw,(h.hall p hp).2⟩⟩
def Li.second(h:Li base w fam sv nv n1 n2 xs ys){nv':Value}{n2':Nat}{ys':List Value}(ho:w'.ownsRow base 92 6 nv' n2' ys')(hg:w.grownBy w' nv.ownBlock)(hw:nv'.ownBlock=nv.ownBlock\/nv'.ownBlock=some w.heap.size):Li base w' fam sv nv' n1 n2' xs ys':=
 ⟨h.hs.kept hg (ztz h.hs h.hn (by decide)),ho,λp hp=>⟨(h.hall p hp).1.second hg hw,(h.hall p hp).2⟩⟩
def Li.add(h:Li base w fam sv nv n1 n2 xs ys){lvn:Value}{N:Nat}(hi:Zw w.heap.size w lvn l)(hf:∀b,lvn.ownBlock=some b->N<=b)(a0:∀b,sv.ownBlock=some b->b<N)(b0:∀b,nv.ownBlock=some b->b<N)(hN:base<=N):Li base w (fam++[(lvn,l)]) sv nv n1 n2 xs ys:=by
 refine⟨h.hs,h.hn,λp hp=>?_⟩;simp only[List.mem_append,List.mem_singleton]at hp;rcases hp with hp|rfl
 ·exact h.hall p hp
 refine⟨⟨hi,λhx=>?_⟩,λ_ b hb=>by have:=hf b hb;omega⟩;obtain⟨b,hb,c0⟩:=zuy hi hx;have:=hf b hb;exact⟨λhh=>by have:=a0 b (hh.symm.trans hb);omega,λhh=>by have:=b0 b (hh.symm.trans hb);omega⟩
end
structure PL(s:List UInt8)(M q0:Nat)(w:World)(b P0:Nat)(lv:Value)(ls:List Int)(wr:World)(k q:Nat)(sv nv:Value)(st:List Int)(acc:List Fl.Node)(lvs:List Value):Prop where
 hk:k<=M
 hq:q<=s.length
 hst:st.length=k
 hacc:acc.length=k
 hlvs:lvs.length=k
 hrun:Fl.nodesA s M 0 q0 [] []=Fl.nodesA s (M - k) k q st acc
 hgood:Fl.allGood acc
 hl:Li (P0+1) wr ((lv,ls)::Xo acc lvs) sv nv k k (st.map (Value.int .i64)) (flat acc lvs)
 c0:wr.cell? (Aq P0 0)=some lv
 c1:wr.cell? (Aq P0 1)=some nv
 d0:wr.cell? (Aq w.heap.size 0)=some Zq
 d1:wr.cell? (Aq w.heap.size 1)=some Zq
 f0:∀j,wr.frozen? (Aq w.heap.size j)=false
 f1:∀j,wr.frozen? (Aq P0 j)=false
 fb:∀j,wr.frozen? (Aq b j)=false
 fr:Fr w wr b
 a1:wr.cell? (Aq b 1)=some (Iq (q:Int))
 a34:wr.cell? (Aq b 34)=some sv
 hR:w.heap.size<P0
 hP:P0<wr.heap.size
 hb:b<w.heap.size
def PL.nodes{nv:Value}(h:PL s M q0 w b P0 lv ls wr k q sv nv st acc lvs):Yu wr.heap.size wr nv acc:=
 Ub (by rw[h.hacc];exact h.hl.hn) (by rw[h.hacc,h.hlvs]) (λi hi=>(h.hl.hall _ (by simp only[List.mem_cons];right;exact Jx acc lvs i (by rw[h.hacc,h.hlvs]) hi)).1.1)
def PL.locals{nv:Value}(h:PL s M q0 w b P0 lv ls wr k q sv nv st acc lvs):Zw wr.heap.size wr lv ls:=(h.hl.hall (lv,ls) (by simp)).1.1
def PL.starts{nv:Value}(h:PL s M q0 w b P0 lv ls wr k q sv nv st acc lvs):Zw wr.heap.size wr sv st:=Zw.of_own h.hl.hs
open Go.Maps Go.WideMaps
def yqz(w:World):Cq 139 #[] w λe w'=>e=.returned (.pointer (some (Aq (w.heap.size+1) 0)))/\Uf w' (w.heap.size+1) w.heap.size []/\Bq w w'/\w'.heap.size=w.heap.size+2:=by
 have a0:= @run_makeMap prog
 go_enter func139,ntmps139
 go_wp2;go_ret;refine⟨rfl,⟨?_,0,.map [],Nat.le_refl _,(World.ownsMap_made w _ _ _).alloc _,rfl,λnd _=>?_,λi hi=>(by cases hi)⟩,?_,?_⟩
 ·simp
 ·simp[Maps.has]
 ·exact((bA).alloc (by simp) _)
 simp
section
def yu5(h:Vo w Fb Pb Lb clv chv bv vv S p vs):Cq 98 #[Pq Fb] w λe w'=>∃nv,e=.returned nv/\(∀w'',Vd w.heap.size w' w''->Yu w''.heap.size w'' nv (Fl.wBlock p vs 4 [] p.body (Fl.low p)).2)/\Bq w w':=by
 obtain⟨lw,i0,elw⟩:∃lw:Nat,lw<p.n/\Fl.low p=(lw:Int):=⟨(Fl.low p).toNat,by have:=h.lv.lv.low;omega,by have:=h.lv.lv.low;omega⟩
 have j0:Fl.StmtsOk vs.length p.chans.length 4 p.body:=by rw[h.ok.1];exact h.pk.body
 have HN:=Zz (yqz w);have m0:Hid (∀V Xb T B,Yh w V Xb T B Fb Zq [] []->Cq 140 #[Pq Xb,bv,Iq lw] V (Vy (λ_=>False) w V Xb T B Fb Zq [] [] (Fl.wBlock p vs 4 [] p.body lw))):=λV Xb T B hV=>zj4 h 4 (by omega) V _ [] [] bv p.body lw h.bo j0 i0 hV (by simp);rw[elw];generalize Fl.wBlock p vs 4 [] p.body lw=res at*
 have HL:Hid (∀V,Bq w V->Cq 134 #[Pq Lb] V λe w'=>e=.returned (Iq lw)/\w'=V):=λV hV=>by
  have h5:=zu5 (h.below hV).lv.la;have e5:((Fl.bottom p.n p.leq:Nat):Int)=(lw:Int):=elw;rw[e5]at h5;exact h5
 have HS:Hid (∀V,Bq w V->V.cell? (Aq Fb 0)=some (Pq Pb)/\V.cell? (Aq Pb 4)=some bv/\V.cell? (Aq Pb 0)=some (Pq Lb)):=λV hV=>⟨(h.below hV).c0,(h.below hV).p4,(h.below hV).lv.p0⟩;clear elw j0 i0
 go_enter func98,ntmps98
 go_wp2_with fail
 refine HN.out.mono ?_;rintro e W1 ⟨rfl,k0,e0,f0⟩;obtain⟨W2,b0⟩:=nmE (W1.alloc (.cells #[Pq Fb,Zq,.pointer (some (Aq (w.heap.size+1) 0))] 266))
 have d0:Bq W1 W2:=by rw[b0];exact bA
 have n0:Hid (Yh w W2 (w.heap.size+2) (w.heap.size+1) w.heap.size Fb Zq [] []):=by
  have og:W1.grownBy W2 none:=⟨d0.os,d0.tape,d0.output,d0.size,λk hk _=>d0.block k hk⟩;refine⟨by omega,by rw[b0];simp;omega,by rw[b0,<-f0];simp,by rw[b0,<-f0];simp,by rw[b0,<-f0];simp,λj=>?_,k0.kept og (by simp) (by simp),rfl,World.ownsRow_nil _ _ _ _,λp hp=>(by cases hp),e0.trans (d0.mono e0.size)⟩;have h5:W2.heap[w.heap.size+2]?=some (.cells #[Pq Fb,Zq,.pointer (some (Aq (w.heap.size+1) 0))] 266 (0,0)):=(by rw[b0,<-f0];exact heap_alloc_last _ _);simp[World.frozen?,h5]
 have g0:Hid (Bq w W2):=e0.trans (d0.mono e0.size);clear k0 e0 d0 HN
 go_wp2_with fail
 rw[<-b0];clear b0 f0;refine Yz HS g0.out.drew [15,16] [] [] (by kernel_rfl) (λc a d v w h=>by cases d<;>exact h) (λops _=>?_)
 iterate 15 refine Zs rfl (by rintro _ ⟨_,_,_⟩;go_simp<;>rfl) (by go_simp<;>rfl) ?_
 refine Zu ?_
 go_wp2_with fail
 refine(HL.out _ g0.out.drew).mono ?_;rintro e1 W3 ⟨rfl,rfl⟩
 go_wp2_with fail
 refine⟨HS.out _ g0.out.drew,?_⟩;refine Zu ?_
 go_wp2_with fail
 refine(m0.out _ _ _ _ (n0.out.below dA)).mono ?_;rintro e2 W4 ⟨rfl,wv4,lvs4,a0,h0,-⟩;have l0:=Zz a0.be;have c41:=a0.c1
 have HE:Hid (∀w'',Vd w.heap.size W4 w''->Yu w''.heap.size w'' wv4 res.2):=λw'' hs=>by
  have hx:=a0.x0;refine Ub (Yy a0.ow (λb hb=>hs.block b ?_ ?_)) a0.hl (λi hi=>zgy (a0.li _ (Jx _ _ i a0.hl hi)).1.1 (λhne b hb=>?_) hs)
  ·have:=(a0.ow.lt b hb).1;omega
  ·exact(a0.ow.lt b hb).2
  have:=((a0.li _ (Jx _ _ i a0.hl hi)).2 hne b hb).1;omega
 clear a0 h0
 go_wp2_with fail
 refine⟨HS.out _ l0.out,?_⟩;refine Zl ?_;go_wp2;go_ret;exact⟨_,rfl,HE.out,l0.out⟩
end
end Go.Proofs.YtjekbnmnjeoagaaGreatDoor
namespace Go.Proofs.YtjekbnmnjeoagaaGreatDoor
open Go.RowKit Go.Proofs.Tryz
variable{w0 w V w' wr:World}{Xb T B Fb nb k b Pb Lb n i U base M q0 P0 q:Nat}{wv wv' clv chv bv vv v lv sv:Value}{acc ac ns:List Fl.Node}{lvs lvs' xs:List Value}{u a c x:Int}{S:Nat->Prop}{p:Fl.Prog}{vs l ls st:List Int}{s:List UInt8}
def Jp(n k:Nat)(v:Int):List Value:=List.replicate k (Value.int .i64 v)++List.replicate (n - k) (Value.int .i64 0)
def yqy(n k:Nat)(v:Int)(h:k<n):(Jp n k v).toArray.setIfInBounds k (Iq v)=(Jp n (k+1) v).toArray:=by
 rw[List.setIfInBounds_toArray]
 congr 1
 unfold Jp;rw[List.set_append_right _ _ (by simp)];simp only[List.length_replicate,Nat.sub_self];obtain⟨m,hm⟩:∃m,n - k=m+1:=⟨n - k - 1,by omega⟩;rw[hm,List.replicate_succ,List.set_cons_zero,show n - (k+1)=m by omega,List.replicate_succ',List.append_assoc];rfl
def ym8(n k:Nat)(v:Int)(h:k<n):(Jp n k v).toArray[k]?=some (Iq 0):=by
 unfold Jp;rw[List.getElem?_toArray,List.getElem?_append_right (by simp)];simp only[List.length_replicate,Nat.sub_self];rw[List.getElem?_replicate,if_pos (by omega)]
def yqx(W:World)(n:Nat)(hn:n<=100000):(Instr.makeSlice 27 (Iq n) (Iq n)).run prog W=.ok (.slice (some (Aq W.heap.size 0)) n n) (W.alloc (.cells (Jp n 0 0).toArray 3)):=by
 obtain⟨i0,b0,c0,a0,d0⟩:=info_parts Tryz.infoIntW;have h:=run_makeSlice (w:=W) 27 3 i0 (Iq 0) underlying27 b0 c0 .i64 .i64 (n:Int) (n:Int) (by omega) (Int.le_refl _) (by rw[a0];simp;omega) (by rw[d0];omega) (by omega);have e:madeCells (Value.int .i64 0).cells ((n:Int).toNat*1)=(Jp n 0 0).toArray:=by
  apply Array.ext
  ·simp[madeCells,Jp]
  intro i h1 h2;simp[madeCells,Jp,Value.cells,Nat.mod_one]
 rw[h,a0,e,Int.toNat_natCast]
section
def zj6(h:LvIn w Pb Lb p)(p3:w.cell? (Aq Pb 3)=some (Iq p.locals))(hl:p.locals<=4):Cq 95 #[Pq Pb] w λe w'=>∃lv,e=.returned lv/\Zw w'.heap.size w' lv (List.replicate p.locals (Fl.low p))/\Bq w w':=by
 obtain⟨n,hn⟩:=nmE (p.locals);rw[<-hn]at p3 hl⊢;have h0:Hid (∀W,(Instr.makeSlice 27 (Iq n) (Iq n)).run prog W=.ok (.slice (some (Aq W.heap.size 0)) n n) (W.alloc (.cells (Jp n 0 0).toArray 3))):=λW=>yqx W n (by omega);obtain⟨lw,elw⟩:∃lw:Nat,Fl.low p=(lw:Int):=⟨(Fl.low p).toNat,by have:=h.lv.low;omega⟩
 have HL:Hid (∀V,Bq w V->Cq 134 #[Pq Lb] V λe w'=>e=.returned (Iq lw)/\w'=V):=λV hV=>by
  have h5:=zu5 (h.below hV).la;have e5:((Fl.bottom p.n p.leq:Nat):Int)=(lw:Int):=elw;rw[e5]at h5;exact h5
 have HP:Hid (∀V,Bq w V->V.cell? (Aq Pb 0)=some (Pq Lb)):=λV hV=>(h.below hV).p0;rw[elw];obtain⟨nb,hnb⟩:=nmE (w.heap.size);have hP:=h.hz.1;clear h hn elw
 go_enter func95,ntmps95
 go_wp2_with fail
 rw[h0.out];obtain⟨W0,d0⟩:=nmE (w.alloc (.cells (Jp n 0 0).toArray 3))
 have i0:Hid (Bq w W0):=by show Below _ _ _;rw[d0];exact bA
 have j0:Hid (W0.heap[nb]?=some (.cells (Jp n 0 lw).toArray 3 (0,0))):=by
  show _=_;rw[d0,hnb];exact heap_alloc_last w _
 have k0:=Zz hnb;rw[<-d0,<-hnb];clear d0 hnb
 go_wp2_with fail
 go_loopw [12] (λi wr=>∃k:Nat,k<=n/\i=Iq k/\wr.heap[nb]?=some (.cells (Jp n k lw).toArray 3 (0,0))/\Bq w wr) (λi _=>n - (intOf i).toNat)
 case atStart=>exact⟨0,by omega,rfl,j0.out,i0.out⟩
 case round=>
  obtain⟨k,hk,rfl,a0,b0⟩:=hrel
  by_cases e0:k<n
  ·have l0:(k:Int)<(n:Int):=by omega
   have m0:Hid ((wr.setCell (Aq nb k) (Iq lw)).heap[nb]?=some (.cells (Jp n (k+1) lw).toArray 3 (0,0))):=by
    have h5:=zz0 a0 k (Iq lw);rw[yqy n k lw e0]at h5;exact h5
   have n0:Hid (Bq w (wr.setCell (Aq nb k) (Iq lw))):=b0.setCell (by show w.heap.size<=nb;rw[k0.out];exact Nat.le_refl _) _;have c0:wr.cell? (Aq nb k)=some (Iq 0):=(by simp only[World.cell?,a0];exact ym8 n k lw e0);have f0:wr.frozen? (Aq nb k)=false:=(by simp[World.frozen?,a0]);have p0:=HP.out _ b0;have g0:=Zz b0;have o0:=Zz e0;clear a0 b0 e0
   go_wp2_with fail
   refine(HL.out _ g0.out).mono ?_;rintro e W1 ⟨rfl,rfl⟩;go_wp2
   go_roundw
   case rel=>exact⟨k+1,by have:=o0.out;omega,by go_num,m0.out,n0.out⟩
   case measure=>simp[intOf];omega
  have q0:k=n:=(by omega);subst q0;have HI:Hid (Zw wr.heap.size wr (.slice (some (Aq nb 0)) k k) (List.replicate k (lw:Int))):=by
   refine⟨_,k,by rw[List.length_replicate],by simp,by simp[maxLen];omega,λ_=>⟨nb,0,rfl,?_,λi hi=>?_⟩⟩
   ·rcases Nat.lt_or_ge nb wr.heap.size with h|h
    ·exact h
    rw[Array.getElem?_eq_none h]at a0;cases a0
   rw[List.length_replicate]at hi;simp only[World.cell?,a0,Jp,Nat.sub_self,Nat.zero_add];simp[List.getElem?_replicate,Qa,hi]
  have g0:=Zz b0;clear a0 b0;go_wp2;go_ret;exact⟨_,rfl,HI.out,g0.out⟩
end
def zy6(h:Zw B w v l):∃a c,v=.slice a l.length c:=by obtain⟨a,c,e,-⟩:=h;exact⟨a,c,e⟩
end Go.Proofs.YtjekbnmnjeoagaaGreatDoor
