import Derived.Test.YtfhpibppblbgcaaGreatDoorM06
import Derived.Laws.BitsAllLaws
set_option linter.all false
set_option maxRecDepth 100000
set_option maxHeartbeats 40000000
namespace Go.Proofs.YtfhpibppblbgcaaGreatDoor
open Go.RowKit Go.Proofs.Tryz
variable{B b Fb Pb Lb n cap base p i a q k x j nb no N f q':Nat}{w w' w1 wr W:World}{vv bF bD bv v:Value}{vs xs:List Int}{S:Nat->Prop}{s:List UInt8}{ao:Option Addr}{e:TypeId}{m:Int}
def vAddr(vv:Value)(i:Nat):Addr:=match vv with
 | .slice (some a) _ _=>⟨a.block,a.off+i,none⟩
 |_=>(Aq 0 0)
def intAt(w:World)(a:Addr):Int:=match w.cell? a with
 |some (.int _ z)=>z
 |_=>0
def zq9(w:World)(vv:Value)(n:Nat):List Int:=(List.range n).map λi=>intAt w (vAddr vv i)
def zd7(h:Zv B w vv vs):zq9 w vv vs.length=vs:=by
 refine List.ext_getElem (by simp[zq9]) (λi h1 h2=>?_);obtain⟨b,off,cap,rfl,-,-,-,hc⟩:=zu9 h h2;simp only[zq9,List.getElem_map,List.getElem_range,vAddr,intAt,hc];rw[Qa,Qb h2];rfl
structure zs5(w:World)(b Fb Pb Lb:Nat)(bF:Value)(S:Nat->Prop):Prop where
 f:Fb≠b
 p:Pb≠b
 l:Lb≠b
 s:∀c,S c->c≠b
 c:∀b' o n cap,0<n->bF=.slice (some (Aq b' o)) n cap->b'≠b
 z:∀j,w.frozen? (Aq b j)=false
 hb:b<w.heap.size
def zs5.below(h:zs5 w b Fb Pb Lb bF S)(hb:Bq w w'):zs5 w' b Fb Pb Lb bF S:=
 ⟨h.f,h.p,h.l,h.s,h.c,λj=>(hb.frozen (p:=(Aq b j)) h.hb).trans (h.z j),Qj h.hb hb.size⟩
def zs5.set(h:zs5 w b Fb Pb Lb bF S)(j:Nat)(v:Value):zs5 (w.setCell (Aq b j) v) b Fb Pb Lb bF S:=
 ⟨h.f,h.p,h.l,h.s,h.c,λi=>by rw[World.frozen?_setCell];exact h.z i,by rw[Zy];exact h.hb⟩
section
variable{p:Fl.aS}{off:Nat}
def Vb.set(h:Vb w Fb Pb Lb bD bF bv (.slice (some (Aq b off)) n cap) S p vs)(hs:zs5 w b Fb Pb Lb bF S){x:Nat}(hx:x<vs.length){v:Int}(hv:0<=v/\v<p.n):Vb (w.setCell (Aq b (off+x)) (Iq v)) Fb Pb Lb bD bF bv (.slice (some (Aq b off)) n cap) S p (vs.set x v):=by
 have q:∀c j,c≠b->(w.setCell (Aq b (off+x)) (Iq v)).cell? (Aq c j)=w.cell? (Aq c j):=λc j hc=>Qc (a:=(Aq c j)) (Zx _ _ _ _ _ hc);have hz:=Zy w (Aq b (off+x)) (Iq v)
 exact{
  hF:=by rw[hz];exact h.hF
  c0:=(q _ _ hs.f).trans h.c0
  c1:=(q _ _ hs.f).trans h.c1
  lv:=⟨by rw[hz];exact h.lv.hz,(q _ _ hs.p).trans h.lv.p0,h.lv.la.block (Zx _ _ _ _ _ hs.l),h.lv.lv⟩
  p1:=(q _ _ hs.p).trans h.p1
  p2:=(q _ _ hs.p).trans h.p2
  p4:=(q _ _ hs.p).trans h.p4
  ce:=h.ce
  ch:=by
   obtain⟨ao,cp,e,h1,h2,h3⟩:=h.ch;refine⟨ao,cp,e,h1,h2,λhn=>?_⟩;obtain⟨b',o',ea,hb',hc⟩:=h3 hn;have b0:b'≠b:=hs.c b' o' _ _ (List.length_pos_iff.2 hn) (by rw[e,ea]);exact⟨b',o',ea,by rw[hz];exact hb',λi hi=>(q _ _ b0).trans (hc i hi)⟩
  vi:=by
   obtain⟨ao,cp,e,h1,h2,h3⟩:=h.vi;obtain⟨b',o',ea,hb',hc⟩:=h3 (by intro e;rw[e]at hx;cases hx);injection e with e1 e2 e3;subst e2;subst e3;rw[ea]at e1;injection e1 with e1;injection e1 with e4 e5;subst e4;subst e5;refine⟨_,_,by rw[List.length_set],by rw[List.length_set];exact h1,by rw[List.length_set];exact h2,λ_=>⟨b,off,rfl,by rw[hz];exact hb',λi hi=>?_⟩⟩;rw[List.length_set]at hi;rw[Qa,List.getElem?_set]
   by_cases a0:x=i
   ·subst a0
    rw[if_pos rfl,if_pos hx];exact World.cell?_setCell_same' _ _ _ (by rw[hc x hx];rfl)
   rw[if_neg a0];refine(Qg _ _ _ _ (by intro hh;injection hh with _ h5;omega)).trans ?_;rw[<-Qa];exact hc i hi
  bo:=Zh.kept (λ_ h=>h) (λc hc=>Zx _ _ _ _ _ (hs.s c hc)) _ _ _ h.bo
  hS:=λc hc=>by rw[hz];exact h.hS c hc
  ok:=Fl.lG h.ok x hv
  pk:=h.pk}
end
def znw(w:World)(base b Fb Pb Lb:Nat)(bD bF bv vv:Value)(S:Nat->Prop)(p:Fl.aS)(vs:List Int)(e:Ending)(w':World):Prop:=e=.returned (.tuple #[])/\Vb w' Fb Pb Lb bD bF bv vv S p (Fl.raise p 25 vs)/\zs5 w' b Fb Pb Lb bF S/\Below base w w'
section
variable{p:Fl.aS}
def zh5(h:Vb w Fb Pb Lb bD bF bv vv S p vs)(hs:zs5 w b Fb Pb Lb bF S)(Y0:∀b' o n cap,vv=.slice (some (Aq b' o)) n cap->b'=b)(Z0:base<=b):Cq 35 #[Pq Fb] w (znw w base b Fb Pb Lb bD bF bv vv S p vs):=by
 have HH:=Zz h;have A1:=Zz hs;have B1:=Zz Y0;clear h hs Y0
 go_enter func35,ntmps35
 obtain⟨J,hJ⟩:=nmE (α:=Act->World->Prop) (λa' w'=>∃(vs':List Int) (f:Nat),(∃(u1 u2 u3 u4 u5 u6 u7 u8 u9 u10 u11 u12 u13 u14 u15 u16 u17 u18 u19 u20 u21 u22 u23 u24 u25 u26 u27 u28 u29 u30 u31 u32 u33 u34 u35 u36 u37 u38 u39 u40 u41 u42 u43 u44 u45 u46 u47 u48 u49 u50:Value),a'={tmps:=#[Pq Fb,u1,u2,u3,u4,u5,u6,u7,u8,u9,u10,u11,u12,u13,u14,u15,u16,u17,u18,u19,u20,u21,u22,u23,u24,u25,u26,u27,u28,u29,u30,u31,u32,u33,u34,u35,u36,u37,u38,u39,u40,u41,u42,u43,u44,u45,u46,u47,u48,u49,u50],defers:=[]})/\Vb w' Fb Pb Lb bD bF bv vv S p vs'/\zs5 w' b Fb Pb Lb bF S/\Below base w w'/\vs'.length=vs.length/\Fl.ij p vs'<f/\Fl.raise p f vs'=Fl.raise p 25 vs);obtain⟨μ,hμ⟩:=nmE (α:=Act->World->Nat) (λa' w'=>Fl.ij p (zq9 w' vv vs.length));have HJ:=Zz hJ;have C1:=Zz hμ;refine zq8 0 J μ ?_ ?_
 ·rw[hJ];exact⟨vs,25,⟨_,_,_,_,_,_,_,_,_,_,_,_,_,_,_,_,_,_,_,_,_,_,_,_,_,_,_,_,_,_,_,_,_,_,_,_,_,_,_,_,_,_,_,_,_,_,_,_,_,_,rfl⟩,HH,A1,Below.refl _ _,rfl,Fl.kZ HH.lv.lv HH.pk HH.ok,rfl⟩
 intro a' W b1;rw[hJ]at b1;obtain⟨vs',f,⟨u1,u2,u3,u4,u5,u6,u7,u8,u9,u10,u11,u12,u13,u14,u15,u16,u17,u18,u19,u20,u21,u22,u23,u24,u25,u26,u27,u28,u29,u30,u31,u32,u33,u34,u35,u36,u37,u38,u39,u40,u41,u42,u43,u44,u45,u46,u47,u48,u49,u50,rfl⟩,d0,R0,d1,bj,i1,j1⟩:=b1;clear hJ hμ
 have l1:Fl.aT vs'.length p.aj.length 4 p.aX:=by rw[d0.ok.1];exact d0.pk.aX
 obtain⟨lw,n0,elw⟩:∃lw:Nat,lw<p.n/\Fl.aM p=(lw:Int):=⟨(Fl.aM p).toNat,by have:=d0.lv.lv.aM;omega,by have:=d0.lv.lv.aM;omega⟩;have K0:=zy6 d0.lv.lv d0.ok 4 p.aX lw l1 n0;have L0:(Fl.bz p vs' 4 p.aX lw).length<=48 ^ 4:=Fl.eU p vs' 4 p.aX lw (Zh.small _ _ _ d0.bo);rw[<-elw]at K0 L0;have HC:Hid (Cq 64 #[Pq Fb] W (zxy S W (Fl.bz p vs' 4 p.aX (Fl.aM p)))):=zd6 d0;have HD:Hid (Fl.js p vs'=match (Fl.bz p vs' 4 p.aX (Fl.aM p)).find? (λm=>Fl.bU p m.1 && !Fl.bR p vs' m) with|some m=>some (vs'.set m.1.x (Fl.jn p (vs'.getD m.1.x 0) m.2))|none=>none):=rfl;obtain⟨ms,m1⟩:=nmE (Fl.bz p vs' 4 p.aX (Fl.aM p));rw[<-m1]at K0 L0 HC HD;have D1:=Zz K0;have hle':ms.length<=5308416:=L0;have HW:=Zz d0;have M0:=Zz R0;have C0:Hid (Fl.ij p vs'<f/\Fl.raise p f vs'=Fl.raise p 25 vs):=⟨i1,j1⟩;have n1:=Zz d1;have o1:=Zz bj;have p1:base<=W.heap.size:=Nat.le_of_lt (Nat.lt_of_le_of_lt Z0 R0.hb);clear l1 n0 elw K0 L0 m1 d0 R0 d1 bj i1 j1
 go_wp2_with fail
 refine HC.mono ?_;rintro e W1 ⟨v,rfl,S0,D0⟩;have E1:=Zz S0;have E0:=Zz D0;obtain⟨ao,cap,F1,G1⟩:∃ao cap,v=.slice ao ms.length cap/\ms.length<=cap:=by
  obtain⟨qs,h1,-,-⟩:=S0;rcases h1.2 with⟨rfl,h0⟩|⟨g,cap,cur,rfl,-,-,hc,-⟩
  ·exact⟨none,0,by rw[h0],by omega⟩
  exact⟨_,cap,rfl,hc⟩
 subst F1;clear HC S0 D0
 go_wp2_with fail
 go_loopw [8] (λi wr=>∃(k:Nat),k<=ms.length/\i=Iq k/\(∀t,(ht:t<k)->(ht':t<ms.length)->(Fl.bU p ms[t].1 && !Fl.bR p vs' ms[t])=false)/\Bq W1 wr) (λi _=>ms.length - (intOf i).toNat)
 case atStart=>exact⟨0,by omega,rfl,λt ht=>absurd ht (by omega),Below.refl _ _⟩
 case round=>
  obtain⟨k,hk,rfl,g0,q0⟩:=hrel
  by_cases n0:k<ms.length
  ·obtain⟨qs,h1,h2,-⟩:=E1.aM q0 (λb hb=>Qj (HW.hS b hb) E0.size)
   obtain⟨mk,y0⟩:=nmE (ms[k]'n0);obtain⟨q,r1,s1,N0⟩:=h2.get k mk (by rw[y0];exact Qb n0);obtain⟨O0,lk,T0,elk⟩:=D1 mk (by rw[y0];exact List.getElem_mem n0);obtain⟨c1,c2⟩:=yz4 qs k q r1;rcases id h1.2 with⟨e0,h0⟩|⟨g,cap',cur,e0,H1,I1,-⟩
   ·omega
   injection e0 with e0 e00 e01;subst e0;subst e01;have a0:=h1.cells (g:=g) rfl _ _ c1;have a1:=h1.cells (g:=g) rfl _ _ c2
   have ad:∀j,((Aq g 0):Addr).add j=(Aq g j):=λj=>by unfold Addr.add;split<;>simp_all
   rw[ad]at a0 a1;obtain⟨sb,eq1,J1,k0,k1,k2⟩:=id N0;rw[eq1]at a0;rw[s1,elk]at a1;have K1:(k:Int)<(ms.length:Int):=(by omega);have P0:Hid (Bq W wr):=E0.trans (q0.mono E0.size);have z0:=P0.size;have cF:sb<wr.heap.size:=Qj (HW.hS sb J1) z0;have F0:mk.1.x<=100:=by
    have h5:=HW.ok.1;have h6:=HW.pk.ce;have h7:=HW.pk.lo;have h8:=HW.pk.ch;rcases O0 with h|h<;>omega
   have i0:Hid (∀V,Bq wr V->Cq 65 #[Pq Fb,Pq sb] V λr w'=>r=.returned (.bool (Fl.bU p mk.1))/\Bq V w'):=λV hV=>by
    have h5:=zb9 (HW.below (P0.trans (hV.mono z0))) (N0.kept (λ_ h=>h) (λb hb=>hV.block b (Qj (HW.hS b hb) z0))) F0;rw[eq1]at h5;exact h5
   have r0:Hid (∀V,Bq wr V->Cq 66 #[Pq Fb,.agg #[Pq sb,Iq lk]] V λr w'=>r=.returned (.bool (Fl.bR p vs' mk))/\Bq V w'):=λV hV=>by
    have h5:=zd5 (HW.below (P0.trans (hV.mono z0))) (N0.kept (λ_ h=>h) (λb hb=>hV.block b (Qj (HW.hS b hb) z0))) lk T0 O0;rw[eq1,<-elk]at h5;rw[elk]at h5;rw[show mk=(mk.1,(lk:Int)) from by rw[<-elk]];exact h5
   have HX:Hid (∀V,Bq wr V->Cl V sb 2 (Iq mk.1.x)):=λV hV=>(hV.cell (p:=(Aq sb 2)) cF).trans k2;have s0:=Zz g0;obtain⟨W2,f0⟩:=nmE (wr.alloc (.cells #[Pq sb,Iq lk] 158));have j0:Hid (Bq wr W2):=(by show Below _ _ _;rw[f0];exact bA);have v1:wr.heap.size<W2.heap.size:=(by rw[f0];simp);have A0:Hid (∀V,Bq W2 V->Cl V wr.heap.size 0 (Pq sb)/\Cl V wr.heap.size 1 (Iq lk)):=λV hV=>⟨(hV.cell (p:=(Aq wr.heap.size 0)) v1).trans (by rw[f0];simp),(hV.cell (p:=(Aq wr.heap.size 1)) v1).trans (by rw[f0];simp)⟩;have x1:=Zz n0;have G0:=Zz O0
   have H0:Hid ((Fl.bU p mk.1 && !Fl.bR p vs' mk)=false->∀t,(ht:t<k+1)->(ht':t<ms.length)->(Fl.bU p ms[t].1 && !Fl.bR p vs' ms[t])=false):=λhh t ht ht'=>by
    by_cases L1:t=k
    ·subst L1;rw[<-y0];exact hh
    exact s0 t (by omega) ht'
   have l0:Hid ((Fl.bU p mk.1 && !Fl.bR p vs' mk)=true->Fl.js p vs'=some (vs'.set mk.1.x (Fl.jn p (vs'.getD mk.1.x 0) mk.2))):=λhh=>by
    have h5:=HD.out;rw[zl8 (f:=λm=>Fl.bU p m.1 && !Fl.bR p vs' m) n0 (λt ht=>s0 t ht (by omega)) (by show (Fl.bU p _ && !Fl.bR p vs' _)=true;rw[<-y0];exact hh),<-y0]at h5;exact h5
   have o0:Hid (mk.2=(lk:Int)/\lk<p.n):=⟨elk,T0⟩;clear g0 y0 h1 h2 r1 s1 N0 O0 c1 c2 H1 I1 ad k0 k1 k2 eq1 elk T0
   cases cV:Fl.bU p mk.1
   ·have HN:Hid (∀t,(ht:t<k+1)->(ht':t<ms.length)->(Fl.bU p ms[t].1 && !Fl.bR p vs' ms[t])=false):=H0 (by rw[cV];rfl)
    rw[cV]at i0;clear cV H0 l0 r0 HX G0 o0
    go_wp2_with fail
    rw[<-f0];refine(i0 _ j0).mono ?_;rintro e W3 ⟨rfl,b0⟩;have M1:Bq W1 W3:=q0.trans ((j0.trans (b0.mono j0.size)).mono q0.size);clear b0 f0 a0 a1 A0 i0;go_wp2
    go_roundw
    case rel=>exact⟨k+1,by have:=x1.out;omega,by go_num,HN,M1⟩
    case measure=>simp[intOf];omega
   cases hf:Fl.bR p vs' mk
   ·have m0:=l0 (by rw[cV,hf];rfl)
    have I0:mk.1.x<vs'.length:=by
     have h5:=cV;unfold Fl.bU at h5;rw[Bool.and_eq_true,decide_eq_true_eq]at h5;rcases G0.out with h|h
     ·exact h.2
     omega
    obtain⟨b',off,cap2,J0,q1,q2,q3,q4⟩:=zu9 HW.vi I0;have N1:=B1 b' off _ _ J0;subst N1;obtain⟨vx,U0,evx⟩:=yty HW.ok I0;rw[evx]at q4;obtain⟨jv,O1,ejv⟩:=HW.lv.lv.join U0 o0.2;have EJ:Fl.jn p (vs'.getD mk.1.x 0) mk.2=(jv:Int):=(by unfold Fl.jn;rw[evx,o0.1];exact ejv);have Q0:=Fl.hZ HW.lv.lv HW.ok (m:=mk) ⟨G0,lk,o0.2,o0.1⟩ cV hf;rw[EJ]at Q0 m0;obtain⟨xx,V0⟩:=nmE (mk.1.x);rw[<-V0]at Q0 m0 I0 q4
    have P1:Hid (∀V,Bq W V->∀a'',(∃(u1 u2 u3 u4 u5 u6 u7 u8 u9 u10 u11 u12 u13 u14 u15 u16 u17 u18 u19 u20 u21 u22 u23 u24 u25 u26 u27 u28 u29 u30 u31 u32 u33 u34 u35 u36 u37 u38 u39 u40 u41 u42 u43 u44 u45 u46 u47 u48 u49 u50:Value),a''=({tmps:=#[Pq Fb,u1,u2,u3,u4,u5,u6,u7,u8,u9,u10,u11,u12,u13,u14,u15,u16,u17,u18,u19,u20,u21,u22,u23,u24,u25,u26,u27,u28,u29,u30,u31,u32,u33,u34,u35,u36,u37,u38,u39,u40,u41,u42,u43,u44,u45,u46,u47,u48,u49,u50],defers:=[]}:Act))->∀a0,J a'' (V.setCell (Aq b' (off+xx)) (Iq jv))/\μ a'' (V.setCell (Aq b' (off+xx)) (Iq jv))<μ a0 W):=λV hV a'' ha a0=>by
     have f1:=HW.below hV;rw[J0]at f1;have f2:=f1.set (M0.below hV) I0 (v:=(jv:Int)) (by omega);rw[<-J0]at f2;refine⟨?_,?_⟩
     ·rw[HJ.out]
      obtain⟨f',rfl⟩:∃f',f=f'+1:=⟨f - 1,by have:=C0.1;omega⟩;refine⟨vs'.set xx jv,f',ha,f2,(M0.below hV).set _ _,(n1.trans (hV.mono p1)).setCell Z0 _,by rw[List.length_set];exact o1.out,by have:=C0.1;omega,?_⟩;have h5:=C0.2;rw[Fl.raise,m0]at h5;exact h5
     rw[C1.out];show Fl.ij p (zq9 _ vv vs.length)<Fl.ij p (zq9 W vv vs.length);have e1:=zd7 f2.vi;rw[List.length_set]at e1;rw[<-o1.out,zd7 HW.vi,e1];exact Q0.2
    have Q1:Hid (∀V,Bq W V->Cq 67 #[Pq Lb,Iq vx,Iq lk] V λr w'=>r=.returned (Iq (jv:Nat))/\w'=V):=λV hV=>by
     have h5:=zp8 (HW.below hV).lv.la HW.lv.lv.n6 vx lk U0 o0.2;rw[ejv]at h5;exact h5
    have W0:Hid (∀V,Bq W V->Cl V Fb 1 (.slice (some (Aq b' off)) vs'.length cap2)/\Cl V Fb 0 (Pq Pb)/\Cl V Pb 0 (Pq Lb)/\Cl V b' (off+xx) (Iq vx)/\V.frozen? (Aq b' (off+xx))=false):=λV hV=>⟨by rw[<-J0];exact(HW.below hV).c1,(HW.below hV).c0,(HW.below hV).lv.p0,(hV.cell (p:=(Aq b' (off+xx))) q3).trans q4,(M0.below hV).z _⟩;have S1:(xx:Int)<(vs'.length:Int):=(by omega);rw[<-V0]at HX;rw[cV]at i0;rw[hf]at r0;clear cV hf H0 l0 G0 o0 m0 I0 J0 q1 q2 q4 evx U0 ejv O1 EJ Q0 V0 HD s0
    go_wp2_with fail
    rw[<-f0];refine(i0 _ j0).mono ?_;rintro e W3 ⟨rfl,b0⟩;have u0:Hid (Bq wr W3):=j0.trans (b0.mono j0.size);have v0:=Zz b0;obtain⟨t0,t1⟩:=A0 _ b0;clear b0 f0 a0 a1 i0
    go_wp2_with fail
    refine(r0 _ u0).mono ?_;rintro e W4 ⟨rfl,x0⟩;have y1:Hid (Bq wr W4):=u0.trans (x0.mono u0.size);have B0:Hid (Bq W W4):=P0.trans (y1.mono z0);have z1:Hid (∀V,Bq W4 V->Cl V wr.heap.size 0 (Pq sb)/\Cl V wr.heap.size 1 (Iq lk)):=λV hV=>A0 V (v0.trans ((x0.trans (hV.mono x0.size)).mono v0.size))
    have HS:Hid (∀V,Bq W4 V->Cl V Fb 1 (.slice (some (Aq b' off)) vs'.length cap2)/\Cl V Fb 0 (Pq Pb)/\Cl V Pb 0 (Pq Lb)/\Cl V b' (off+xx) (Iq vx)/\Cl V wr.heap.size 1 (Iq lk)):=λV hV=>by
     obtain⟨g1,g2,g3,g4,-⟩:=W0 V (B0.trans (hV.mono B0.size));exact⟨g1,g2,g3,g4,(z1 V hV).2⟩
    have t4:=(z1 _ (Below.refl _ _)).1;have x4:Cl W4 sb 2 (Iq xx):=HX _ y1.out;have fz:W4.drew.frozen? (Aq b' (off+xx))=false:=(W0 _ B0.drew).2.2.2.2;have cz:Cl W4.drew b' (off+xx) (Iq vx):=(W0 _ B0.drew).2.2.2.1;clear x0 t0 t1 r0 A0 HX v0
    go_wp2_with fail
    refine Zp HS dA [21] [23] [] (by kernel_rfl) (λc a d v w h=>by cases d<;>exact h) (λops _=>?_)
    iterate 21 refine Zw rfl (by rintro _ ⟨_,_,_,_,_⟩;go_simp<;>rfl) (by go_simp<;>rfl) ?_
    refine Zt ?_
    go_wp2_with fail
    refine(Q1 _ B0.drew).mono ?_;rintro e5 W5 ⟨rfl,rfl⟩
    go_wp2_with fail
    refine⟨HS _ dA,?_⟩;refine Zw rfl (by rintro _ ⟨_,_,_,_,_⟩;go_simp<;>rfl) (by go_simp<;>rfl) ?_;refine Xp ?_
    go_wp2_with fail
    refine Zu ?_
    go_wp2_with fail
    go_step3
    exact⟨rfl,P1 _ B0.drew _ ⟨_,_,_,_,_,_,_,_,_,_,_,_,_,_,_,_,_,_,_,_,_,_,_,_,_,_,_,_,_,_,_,_,_,_,_,_,_,_,_,_,_,_,_,_,_,_,_,_,_,_,rfl⟩ _⟩
   have HN:Hid (∀t,(ht:t<k+1)->(ht':t<ms.length)->(Fl.bU p ms[t].1 && !Fl.bR p vs' ms[t])=false):=H0 (by rw[cV,hf];rfl);rw[cV]at i0;rw[hf]at r0;clear cV hf H0 l0 HX G0 o0
   go_wp2_with fail
   rw[<-f0];refine(i0 _ j0).mono ?_;rintro e W3 ⟨rfl,b0⟩;have u0:Hid (Bq wr W3):=j0.trans (b0.mono j0.size);obtain⟨t0,t1⟩:=A0 _ b0;clear b0 f0 a0 a1 A0 i0
   go_wp2_with fail
   refine(r0 _ u0).mono ?_;rintro e W4 ⟨rfl,x0⟩;have R1:Bq W1 W4:=q0.trans ((u0.trans (x0.mono u0.size)).mono q0.size);clear x0 t0 t1 r0;go_wp2
   go_roundw
   case rel=>exact⟨k+1,by have:=x1.out;omega,by go_num,HN,R1⟩
   case measure=>simp[intOf];omega
  have HR:Hid (Fl.raise p f vs'=vs'):=by
   have h5:=HD.out;rw[zh4 (f:=λm=>Fl.bU p m.1 && !Fl.bR p vs' m) (λt ht=>g0 t (by omega) ht)]at h5;obtain⟨f',rfl⟩:∃f',f=f'+1:=⟨f - 1,by have:=C0.1;omega⟩;show Fl.raise p (f'+1) vs'=vs';unfold Fl.raise;rw[h5]
  have HE:Hid (znw w base b Fb Pb Lb bD bF bv vv S p vs (.returned (.tuple #[])) wr):=by
   have X0:Bq W wr:=E0.trans (q0.mono E0.size);refine⟨rfl,?_,M0.below X0,n1.trans (X0.mono p1)⟩;rw[<-C0.2,HR.out];exact HW.below X0
  clear g0 HR
  go_wp2_with fail
  simp only[Exit.jump]
  go_end0
  exact HE
end
def zj1(s:List UInt8)(k:Nat)(h:k<s.length):s.drop k=s.getD k 0::s.drop (k+1):=by
 rw[List.drop_eq_getElem_cons h,Qa,Qb h];rfl
def zw2(s:List UInt8)(p i a:Nat):Prop:=i<=4/\p+i<=s.length/\a<128 ^ i/\Fl.num s p=Fl.dK p s.length i a (128 ^ i) (s.drop (p+i))
def zw2.start(s:List UInt8)(p:Nat)(h:p<=s.length):zw2 s p 0 0:=⟨by omega,by omega,by simp,by simp[Fl.num]⟩
def zw2.small(h:zw2 s p i a):a<268435456/\128 ^ i<=268435456:=by
 have h1:128 ^ i<=128 ^ 4:=Nat.pow_le_pow_right (by omega) h.1
 have h2:(128:Nat) ^ 4=268435456:=by decide
 have:=h.2.2.1;omega
def zw2.stop(h:zw2 s p i a)(a0:¬p+i<s.length)(lo hi:Int):Fl.dF s p lo hi=(0,-1,(s.length:Int)):=by
 obtain⟨h1,h2,h3,h4⟩:=h;unfold Fl.dF;rw[h4,List.drop_of_length_le (by omega)];simp[Fl.dK]
def zw2.next(h:zw2 s p i a)(a0:p+i<s.length)(hi:i<4)(hc:¬(s.getD (p+i) 0).toNat<128):zw2 s p (i+1) (a+(s.getD (p+i) 0).toNat % 128*128 ^ i):=by
 obtain⟨h1,h2,h3,h4⟩:=h
 have hm:(s.getD (p+i) 0).toNat % 128<=127:=by omega
 have hp:(s.getD (p+i) 0).toNat % 128*128 ^ i<=127*128 ^ i:=Nat.mul_le_mul_right _ hm;have h5:128 ^ (i+1)=128 ^ i*128:=Nat.pow_succ ..;have h6:128 ^ (i+1)<=128 ^ 4:=Nat.pow_le_pow_right (by omega) hi
 have h7:(128:Nat) ^ 4=268435456:=by decide
 refine⟨by omega,by omega,by omega,?_⟩;rw[h4,zj1 s (p+i) a0];simp only[Fl.dK];rw[if_neg (by omega),if_neg hc,show p+(i+1)=p+i+1 from by omega,h5]
def zw2.full(h:zw2 s p 4 a)(a0:p+4<s.length)(hc:¬(s.getD (p+4) 0).toNat<128)(lo hi:Int):Fl.dF s p lo hi=(0,-1,(p:Int)):=by
 obtain⟨h1,h2,h3,h4⟩:=h;have hg:Fl.num s p=(0,-1,(p:Int)):=by
  rw[h4,zj1 s (p+4) a0];unfold Fl.dK;exact if_pos (by omega)
 unfold Fl.dF;rw[hg];rfl
def zw2.last(h:zw2 s p i a)(a0:p+i<s.length)(hc:(s.getD (p+i) 0).toNat<128)(lo hi:Int)(cV:0<=lo)(b0:hi<2147483648):
  Fl.dF s p lo hi=if(0<(s.getD (p+i) 0).toNat\/i=0)/\lo<=((a+(s.getD (p+i) 0).toNat*128 ^ i:Nat):Int)/\((a+(s.getD (p+i) 0).toNat*128 ^ i:Nat):Int)<=hi then(((a+(s.getD (p+i) 0).toNat*128 ^ i:Nat):Int),((p+i+1:Nat):Int),0) else(0,-1,(p:Int)):=by
 obtain⟨h1,h2,h3,h4⟩:=h;generalize hx:(s.getD (p+i) 0).toNat=x at*;have hm:x % 128=x:=Nat.mod_eq_of_lt hc;generalize hv:a+x*128 ^ i=v at*;have hg:Fl.num s p=if(x=0/\0<i)\/2147483648<=v then(0,-1,(p:Int)) else((v:Int),((p+i+1:Nat):Int),0):=by
  rw[h4,zj1 s (p+i) a0];simp only[Fl.dK,hx,hm,hv]
  by_cases hq:(x=0/\0<i)\/2147483648<=v
  ·rw[if_pos (by omega),if_pos hq]
  rw[if_neg (by omega),if_neg hq,if_pos hc]
 unfold Fl.dF;rw[hg]
 by_cases hq:(x=0/\0<i)\/2147483648<=v
 ·rw[if_pos hq,if_pos (by simp),if_neg (by omega)]
 rw[if_neg hq];rw[if_neg (show ¬(((p+i+1:Nat):Int)<0) by omega)]
 by_cases hr:(v:Int)<lo\/hi<(v:Int)
 ·rw[if_pos hr,if_neg (by omega)]
 rw[if_neg hr,if_pos (by omega)]
def or_add(a c i:Nat)(h:a<128 ^ i):a|||(c<<<(7*i))=a+c*128 ^ i:=by
 have h2:(128:Nat) ^ i=2 ^ (7*i):=by rw[Nat.pow_mul]
 rw[h2]at h⊢;rw[Nat.or_comm,<-Nat.shiftLeft_add_eq_or_of_lt h,Nat.shiftLeft_eq];omega
def yjw(a c i:Nat)(hc:c<256)(hi:i<=4)(ha:a<128 ^ i):bits .or .u64 (a:Int) (IntKind.u64.wrap (IntKind.u64.wrap (bits .and .u8 (c:Int) 127)*2 ^ (7*i)))=((a+c % 128*128 ^ i:Nat):Int):=by
 have h1:128 ^ i<=128 ^ 4:=Nat.pow_le_pow_right (by omega) hi
 have h2:(128:Nat) ^ 4=268435456:=by decide
 have h3:c % 128*128 ^ i<=127*268435456:=Nat.mul_le_mul (by omega) (by omega);have e1:bits .and .u8 (c:Int) 127=((c % 128:Nat):Int):=by
  have:=u8_and_nat c 127 hc (by omega);rw[nat_mask7]at this;exact this
 have e2:IntKind.u64.wrap ((c % 128:Nat):Int)=((c % 128:Nat):Int):=by rw[IntKind.wrap_u64];omega
 have e3:((c % 128:Nat):Int)*2 ^ (7*i)=((c % 128*128 ^ i:Nat):Int):=by
  rw[Int.natCast_mul,Int.natCast_pow,Int.pow_mul];rfl
 have e4:IntKind.u64.wrap ((c % 128*128 ^ i:Nat):Int)=((c % 128*128 ^ i:Nat):Int):=by rw[IntKind.wrap_u64];omega
 rw[e1,e2,e3,e4,u64_or_nat a (c % 128*128 ^ i) (by omega) (by omega)]
 have h4:c % 128*128 ^ i=(c % 128)<<<(7*i):=by rw[Nat.shiftLeft_eq,Nat.pow_mul]
 rw[<-or_add a (c % 128) i ha,h4]
def zw8(r:Int×Int×Int)(b:Nat)(w:World)(e:Ending)(w':World):Prop:=
 Mv w w' b/\(r.2.1<0->e=.panicked (Ze 8 r.2.2))/\(¬r.2.1<0->e=.returned (Iq r.1)/\w'.cell? (Aq b 1)=some (Iq r.2.1))
def znv{r:Int×Int×Int}{v:Nat}(hr:r=((v:Int),(q:Int),0))(m:Mv w w' b)(c:w'.cell? (Aq b 1)=some (Iq (q:Int))):zw8 r b w (.returned (Iq (v:Int))) w':=by
 subst hr;exact⟨m,λh=>by simp only at h;omega,λ_=>⟨rfl,c⟩⟩
def Jw{r:Int×Int×Int}{pl:Int}(hr:r=(0,-1,pl))(m:Mv w w' b):zw8 r b w (.panicked (Ze 8 pl)) w':=by
 subst hr;exact⟨m,λ_=>rfl,λh=>absurd (show (-1:Int)<0 by decide) h⟩
def NumLoop(s:List UInt8)(p lo hi i a:Nat):Prop:=zw2 s p i a\/(i=5/\Fl.dF s p lo hi=(0,-1,(p:Int)))
def zu2(h:Dr w b ao cap s p)(lo hi:Nat)(u0:hi<2147483648)(cV:lo<2147483648):
  Cq 90 #[Pq b,Iq lo,Iq hi] w λe w'=>zw8 (Fl.dF s p lo hi) b w e w':=by
 have c0:=h.c0;have c1:=h.c1;have hs:=h.hs;have hp:=h.hp;have HD:=Zz h;clear h
 go_enter func90,ntmps90
 go_wp2_with fail
 go_loopw [8,16] (λn k wr=>∃i a:Nat,n=.int .u64 a/\k=Iq i/\NumLoop s p lo hi i a/\Mv w wr b/\Cl wr b 1 (Iq ((p+i:Nat):Int))) (λ_ k _=>5 - (intOf k).toNat)
 case atStart=>exact⟨0,0,rfl,rfl,.inl (zw2.start s p hp),Mv.refl _ _,c1⟩
 case round=>
  obtain⟨i,a,rfl,rfl,hl,hm,d0⟩:=hrel;have HM:=Zz hm;have HC:=Zz d0;clear hm d0;rcases hl with hl|⟨rfl,hl⟩
  ·have p0:=hl.1
   have ha:=hl.small.1;have hx:=hl.small.2;have q0:=hl.2.1;have HL:=Zz hl;clear hl;have h0:Hid (Dr wr b ao cap s (p+i)):=HD.move HM HC q0
   by_cases k0:p+i<s.length
   ·obtain⟨c,hc⟩:=nmE ((s.getD (p+i) 0).toNat)
    have l0:c<256:=(by rw[hc];exact(s.getD (p+i) 0).toNat_lt);have HN:Hid (Cq 88 #[Pq b] wr λe w'=>e=.returned (.int .u8 c)/\Mv wr w' b/\Cl w' b 1 (Iq ((p+i+1:Nat):Int))):=(by rw[hc];exact zf8 h0 k0);have i0:=Zz hc;clear hc;obtain⟨v,hv⟩:=nmE (a+c % 128*128 ^ i);have v0:bits .or .u64 (a:Int) (IntKind.u64.wrap (IntKind.u64.wrap (bits .and .u8 (c:Int) 127)*2 ^ (7*i)))=(v:Int):=(by rw[hv];exact yjw a c i l0 p0 HL.2.2.1);have x0:v<274877906944:=by
     have h3:c % 128*128 ^ i<=127*268435456:=Nat.mul_le_mul (by omega) (by omega);omega
    have HV:=Zz hv;clear hv
    by_cases hc:128<=c
    ·go_wp2_with (go_at_call 88;refine(HN.out).mono ?_;rintro e w1 ⟨rfl,a0,d0⟩)
     go_roundw
     case rel=>
      refine⟨i+1,v,rfl,by go_num,?_,HM.trans a0,d0⟩
      by_cases h4:i<4
      ·left;rw[HV.out,i0.out];exact HL.next k0 h4 (by have:=i0.out;omega)
      right
      have:i=4:=by omega
      subst this;exact⟨rfl,HL.full k0 (by have:=i0.out;omega) _ _⟩
     case measure=>simp[intOf];omega
    have m0:(v:Int)=((a+(s.getD (p+i) 0).toNat*128 ^ i:Nat):Int):=by
     rw[HV.out,i0.out,Nat.mod_eq_of_lt (by have:=i0.out;omega)]
    have e0:=HL.last k0 (by have:=i0.out;omega) lo hi (by omega) (by omega);rw[<-m0,<-i0.out]at e0;have HG:=Zz e0;clear m0 e0
    by_cases n0:c=0
    ·have b0:¬(0:Int)<(c:Int):=by omega
     have r0:=Zz n0;clear n0
     by_cases o0:i=0
     ·have bi:((i:Int)==0)=true:=beq_iff_eq.2 (by omega)
      have s0:=Zz o0;clear o0
      by_cases j0:(lo:Int)<=(v:Int)
      ·by_cases f0:(v:Int)<=(hi:Int)
       ·go_wp2_with (first|(go_at_call 88;refine(HN.out).mono ?_;rintro e w1 ⟨rfl,a0,d0⟩)|(go_at_call 87;refine(Jr _ _ _).mono ?_;rintro e w2 ⟨rfl,rfl⟩))
        go_ret;exact znv (HG.trans (if_pos ⟨.inr s0,j0,f0⟩)) (HM.trans a0) d0
       have bd:decide (v<=hi)=false:=decide_eq_false (by omega);have bd2:decide ((v:Int)<=(hi:Int))=false:=decide_eq_false f0
       go_wp2_with (first|(go_at_call 88;refine(HN.out).mono ?_;rintro e w1 ⟨rfl,a0,d0⟩)|(go_at_call 87;refine(Vv _ _ _).mono ?_;rintro e w2 ⟨rfl,g0⟩))
       exact⟨rfl,Jw (HG.trans (if_neg (by omega))) ((HM.trans a0).trans (Mv.cW g0 (a0.lt h0.lt)))⟩
      go_wp2_with (first|(go_at_call 88;refine(HN.out).mono ?_;rintro e w1 ⟨rfl,a0,d0⟩)|(go_at_call 87;refine(Vv _ _ _).mono ?_;rintro e w2 ⟨rfl,g0⟩))
      exact⟨rfl,Jw (HG.trans (if_neg (by omega))) ((HM.trans a0).trans (Mv.cW g0 (a0.lt h0.lt)))⟩
     have bi:((i:Int)==0)=false:=beq_eq_false_iff_ne.2 (by omega)
     go_wp2_with (first|(go_at_call 88;refine(HN.out).mono ?_;rintro e w1 ⟨rfl,a0,d0⟩)|(go_at_call 87;refine(Vv _ _ _).mono ?_;rintro e w2 ⟨rfl,g0⟩))
     exact⟨rfl,Jw (HG.trans (if_neg (by have:=r0.out;omega))) ((HM.trans a0).trans (Mv.cW g0 (a0.lt h0.lt)))⟩
    have b0:¬(c:Int)<=0:=(by omega)
    by_cases j0:(lo:Int)<=(v:Int)
    ·by_cases f0:(v:Int)<=(hi:Int)
     ·go_wp2_with (first|(go_at_call 88;refine(HN.out).mono ?_;rintro e w1 ⟨rfl,a0,d0⟩)|(go_at_call 87;refine(Jr _ _ _).mono ?_;rintro e w2 ⟨rfl,rfl⟩))
      go_ret;exact znv (HG.trans (if_pos ⟨.inl (by omega),j0,f0⟩)) (HM.trans a0) d0
     have bd:decide (v<=hi)=false:=decide_eq_false (by omega);have bd2:decide ((v:Int)<=(hi:Int))=false:=decide_eq_false f0
     go_wp2_with (first|(go_at_call 88;refine(HN.out).mono ?_;rintro e w1 ⟨rfl,a0,d0⟩)|(go_at_call 87;refine(Vv _ _ _).mono ?_;rintro e w2 ⟨rfl,g0⟩))
     exact⟨rfl,Jw (HG.trans (if_neg (by omega))) ((HM.trans a0).trans (Mv.cW g0 (a0.lt h0.lt)))⟩
    go_wp2_with (first|(go_at_call 88;refine(HN.out).mono ?_;rintro e w1 ⟨rfl,a0,d0⟩)|(go_at_call 87;refine(Vv _ _ _).mono ?_;rintro e w2 ⟨rfl,g0⟩))
    exact⟨rfl,Jw (HG.trans (if_neg (by omega))) ((HM.trans a0).trans (Mv.cW g0 (a0.lt h0.lt)))⟩
   go_wp2_with (go_at_call 88;refine(zj0 h0 k0).mono ?_;rintro e w1 ⟨rfl,a0⟩)
   exact⟨rfl,Jw (HL.stop k0 _ _) (HM.trans a0)⟩
  go_wp2_with (go_at_call 87;refine(Vv _ _ _).mono ?_;rintro e w1 ⟨rfl,t0⟩)
  exact⟨rfl,Jw hl (HM.trans (Mv.cW t0 (HM.lt HD.lt)))⟩
def oM{k:Int}(h:Fl.aO k≠ -2):0<=k/\k<=7:=by
 unfold Fl.aO at h;repeat' split at h<;>omega
def Tryz.infoInt:(Tryz.prog.info? 3).map (λi=>(i.zero,i.size,i.bytes))=some (some (Iq 0),1,8):=by kernel_rfl
def zy7{x:Value}:∀j u,[x][j]?=some u->(w.alloc (.cells #[x] e)).cell? (((Aq w.heap.size 0):Addr).add j)=some u:=by
 intro j u hj
 match j,hj with
 |0,hj=>simp at hj;subst hj;simp[Addr.add]
def Fl.lF(s:List UInt8)(p:Nat)(h:p<=s.length):Fl.dF s p 0 2147483647=Fl.num s p:=by
 have h1:=Fl.dJ s p h;unfold Fl.dF;generalize Fl.num s p=r at*;obtain⟨x,y,z⟩:=r;simp only at h1⊢;rcases h1 with h1|h1
 ·rw[if_pos (by omega),h1.1,h1.2.1]
 rw[if_neg (by omega),if_neg (by omega),h1.2.2.2.2]
def zr4(s:List UInt8)(p n k q:Nat)(xs:List Int):Prop:=k<=n/\q<=s.length/\xs.length=k/\Fl.cZ s p n=Fl.dj s (n - k) q xs
def zr4.eh(h:zr4 s p n k q xs)(hk:k<n){v b:Int}(hn:Fl.num s q=(v,m,b))(hm:m<0):Fl.cZ s p n=([],-1,b):=by
 obtain⟨h1,h2,h3,h4⟩:=h;rw[h4,show n - k=(n - k - 1)+1 from by omega];simp only[Fl.dj,hn,if_pos hm]
def zr4.step(h:zr4 s p n k q xs)(hk:k<n){v b:Int}(hn:Fl.num s q=(v,m,b))(hm:¬m<0):zr4 s p n (k+1) m.toNat (xs++[v]):=by
 obtain⟨h1,h2,h3,h4⟩:=h;have a0:=Fl.dJ s q h2;rw[hn]at a0;refine⟨by omega,by simp only at a0;omega,by simp[h3],?_⟩;rw[h4,show n - k=(n - (k+1))+1 from by omega];simp only[Fl.dj,hn,if_neg hm]
def yz8(r:List Int×Int×Int)(b:Nat)(w:World)(e:Ending)(w':World):Prop:=
 Mv w w' b/\(r.2.1<0->e=.panicked (Ze 8 r.2.2))/\(¬r.2.1<0->∃lv,e=.returned lv/\w'.ownsRow w.heap.size 3 1 lv r.1.length (r.1.map (Value.int .i64))/\w'.cell? (Aq b 1)=some (Iq r.2.1))
def yz9{r:List Int×Int×Int}{pl:Int}(hr:r=([],-1,pl))(m:Mv w w' b):yz8 r b w (.panicked (Ze 8 pl)) w':=by
 subst hr;exact⟨m,λ_=>rfl,λh=>absurd (show (-1:Int)<0 by decide) h⟩
def zt8(h:Dr w b ao cap s p):
  Cq 90 #[Pq b,Iq 0,Iq 2147483647] w λe w'=>zw8 (Fl.num s p) b w e w':=by
 rw[<-Fl.lF s p h.hp];exact zu2 h 0 2147483647 (by omega) (by omega)
def own_ne{size:Nat}{xs:List Value}(h:w.ownsRow base e size v n xs)(hb:b<base):v.ownBlock=none\/v.ownBlock≠some b:=by
 right;intro hh;have:=(h.lt b hh).1;omega
def zm0(h:Dr w b ao cap s p)(n:Nat)(hn:n<=200):
  Cq 89 #[Pq b,Iq n,Iq 2147483647] w λe w'=>yz8 (Fl.cZ s p n) b w e w':=by
 obtain⟨i0,hi,k0,l0,m0⟩:=info_parts Tryz.infoInt;have HD:=Zz h;clear h
 go_enter func89,ntmps89
 go_wp2_with fail
 go_loopw [7,9] (λv i wr=>∃(k q:Nat) (xs:List Int),zr4 s p n k q xs/\i=Iq k/\wr.ownsRow w.heap.size 3 1 v xs.length (xs.map (Value.int .i64))/\Mv w wr b/\Cl wr b 1 (Iq (q:Int))) (λ_ i _=>n - (intOf i).toNat)
 case atStart=>exact⟨0,p,[],⟨by omega,HD.hp,rfl,rfl⟩,rfl,World.ownsRow_nil _ _ _ _,Mv.refl _ _,HD.c1⟩
 case round=>
  obtain⟨k,q,xs,hr,rfl,a0,hm,e0⟩:=hrel;have HR:=Zz hr;have n0:Hid (Dr wr b ao cap s q):=HD.move hm e0 hr.2.1;have s0:=hr.1;have t0:xs.length<=200:=(by have:=hr.2.2.1;omega);have hlb:=HD.lt;have u0:=hm.g.size;have HM:=Zz hm;have HO:=Zz a0;have o0:=Zz e0;clear hr hm a0 e0
  by_cases j0:k<n
  ·obtain⟨x,m,y,d0⟩:∃x m y,Fl.num s q=(x,m,y):=⟨_,_,_,rfl⟩
   have b0:=zt8 n0.out;rw[d0]at b0;have HN:=Zz d0;have h0:=Zz b0;clear d0 b0
   by_cases hm:m<0
   ·go_wp2_with (go_at_call 90;refine(h0.out).mono ?_;rintro e w1 ⟨f0,he,_⟩;obtain rfl:=he hm)
    exact⟨rfl,yz9 (HR.eh j0 HN hm) (HM.trans f0)⟩
   go_wp2_with (first|(go_at_call 90;refine(h0.out).mono ?_;rintro e w1 ⟨f0,_,he⟩;obtain⟨rfl,e0⟩:=he hm;have a0:=HO.kept f0.g (own_ne HO hlb))|(at_builtin;refine wpList_append_own _ rfl _ _ 36 rfl w.heap.size 3 i0 (Iq 0) 1 8 underlying36 hi k0 l0 m0 rfl (by decide) _ _ _ rfl (a0.alloc _) (Aq _ 0) 1 1 [Iq x] rfl rfl zy7 ?c2 ?c3 ?c4 ?c5 ?_))
   case c2=>intro u hu;simp at hu;subst hu;rfl
   case c3=>unfold maxLen;omega
   case c4=>omega
   case c5=>have:=f0.g.size;simp;omega
   intro v' w2 hown' c0 _;have HS:Hid (zr4 s p n (k+1) m.toNat (xs++[x])):=HR.step j0 HN (by omega);have p0:Mv w w2 b:=((HM.trans f0).alloc hlb _).dT c0 hlb (λg hg=>(a0.lt g hg).1);have q0:w2.cell? (Aq b 1)=some (Iq ((m.toNat:Nat):Int)):=by
    rw[Int.toNat_of_nonneg (by omega)];refine c0.cell ((World.grownBy_alloc w1 _ none).cell e0 (by simp)) ?_;intro hh;have:=(a0.lt b hh.symm).1;omega
   have r0:w2.ownsRow w.heap.size 3 1 v' (xs++[x]).length ((xs++[x]).map (Value.int .i64)):=(by simpa using hown');clear hown' c0 a0 h0 f0 e0;go_wp2
   go_roundw
   case rel=>exact⟨k+1,m.toNat,xs++[x],HS,by go_num,r0,p0,q0⟩
   case measure=>simp[intOf];omega
  have hkn':k=n:=(by omega);have g0:Fl.cZ s p n=(xs,(q:Int),0):=by
   have:=HR.2.2.2;rw[this,hkn',Nat.sub_self];rfl
  have HF:=Zz g0;clear g0 hkn';go_wp2;go_ret;exact⟨HM,λh=>absurd h (by rw[HF.out];simp only;omega),λ_=>⟨_,rfl,by rw[HF.out];exact HO.out,by rw[HF.out];exact o0.out⟩⟩
def Za:Array Value:=#[
 .string ⟨#[110,117,109]⟩,Iq 1,.bool false,.func (.func 81) #[] #[],.string ⟨#[118,97,114]⟩,Iq 1,.bool false,.func (.func 81) #[] #[],.string ⟨#[111,112]⟩,Iq 3,.bool false,.func (.func 83) #[] #[],.string ⟨#[115,101,116]⟩,Iq 2,.bool false,.func (.func 82) #[] #[],.string ⟨#[111,117,116]⟩,Iq 2,.bool false,.func (.func 82) #[] #[],.string ⟨#[105,102]⟩,Iq 3,.bool false,.func (.func 84) #[] #[],.string ⟨#[119,104,105,108,101]⟩,Iq 2,.bool false,.func (.func 85) #[] #[],.string ⟨#[98,108,111,99,107]⟩,Iq 0,.bool true,.func (.func 86) #[] #[]]
def Tryz.infoRules:(Tryz.prog.info? 129).map (·.size)=some Za.size:=by kernel_rfl
def zp9:Za.all (·.oneCell')=true:=by kernel_rfl
def zr5:(32:Nat)=Za.size:=by kernel_rfl
def zr6(w:World):Cq 46 #[] w λe w'=>e=.returned (.agg Za)/\w'=w.alloc (.cells Za 129):=by
 go_enter func46,ntmps46
 go_wp2_with (first|(refine Uu rfl 129 _ rfl Za (by kernel_rfl) ?_)|(refine Jk rfl _ _ 129 rfl _ _ Za rfl rfl Tryz.infoRules zr5 zp9 ?_))
 refine bodyPost_ret (v:=.agg Za) ?_ rfl ⟨rfl,rfl⟩;exact zow (p:=0) (ty:=129) results46 _ _ (Aq w.heap.size 0) _ rfl (run_loadVar_new w 129 Za 8 128 underlying129 Tryz.infoRules)
def zh6(rb ro nb n:Nat)(w:World)(hn:n<=3)(a0:rb<w.heap.size)(h:w.cell? (Aq rb (ro+1))=some (Iq n)):Cq 77 #[.pointer (some (Aq rb ro)),Pq nb] w λe w'=>e=.returned (.slice (some (Aq w.heap.size 0)) n 3)/\w'=(w.alloc (.cells #[.pointer (some (Aq nb 2)),.pointer (some (Aq nb 3)),.pointer (some (Aq nb 4))] 187)).drew:=by
 have h2:∀o,(w.alloc o).cell? (Aq rb (ro+1))=some (Iq n):=λo=>by rw[World.cell?_alloc_past _ _ _ a0];exact h
 go_enter func77,ntmps77
 go_wp2_with fail
 go_region
 go_wp2;go_ret;exact⟨rfl,rfl⟩
def Below.jW(h:Below B w w')(m:Nat):Below B w (w'.drewN m):=by
 induction m with
 |zero=>exact h
 |succ m ih=>exact ih.drew
def nT(h:j<xs.length):xs.getD j 0∈xs:=by
 rw[Qa,Qb h];exact List.getElem_mem h
structure Vg(w:World)(nb no:Nat)(nd:Fl.ar)(lv:Value):Prop where
 c0:w.cell? (Aq nb no)=some (Iq nd.kind)
 c1:w.cell? (Aq nb (no+1))=some (Iq nd.ag)
 c2:w.cell? (Aq nb (no+2))=some (Iq nd.a)
 c3:w.cell? (Aq nb (no+3))=some (Iq nd.b)
 c4:w.cell? (Aq nb (no+4))=some (Iq nd.c)
 c5:w.cell? (Aq nb (no+5))=some lv
 hl:Zv w.heap.size w lv nd.aU
def Vg.below{w w':World}{nb no:Nat}{nd:Fl.ar}{lv:Value}(h:Vg w nb no nd lv)(hb:Bq w w'):Vg w' nb no nd lv:=by
 have hn:nb<w.heap.size:=Qe w _ h.c0;have q:∀o,w'.cell? (Aq nb o)=w.cell? (Aq nb o):=λo=>hb.cell (p:=(Aq nb o)) hn;exact⟨(q _).trans h.c0,(q _).trans h.c1,(q _).trans h.c2,(q _).trans h.c3,(q _).trans h.c4,(q _).trans h.c5,(h.hl.below hb).mono hb.size⟩
def byF(k:Int):FuncId:=
 if k=2 then 83 else if k=3 then 82 else if k=4 then 82 else if k=5 then 84 else if k=6 then 85 else if k=7 then 86 else 81
def Uz(ps:List Int)(w:World)(e:Ending)(w':World):Prop:=∃pv,e=.returned pv/\Zv w'.heap.size w' pv ps/\Bq w w'
def by1(v:Value)(w:World):Cq 81 #[v] w (Uz [] w):=by
 go_enter func81,ntmps81
 go_wp2;go_ret;exact⟨_,rfl,Zv.nil _ _,Below.refl _ _⟩
def Uz.fresh(w:World)(xs:List Int)(e:TypeId)(hl:xs.length<=maxLen):Uz xs w (.returned (.slice (some (Aq w.heap.size 0)) xs.length xs.length)) (w.alloc (.cells (xs.map (Value.int .i64)).toArray e)):=
 ⟨_,rfl,Zv.fresh xs e hl _ (by simp),bA⟩
def Uz.kw(w:World)(xs:List Int)(e:TypeId)(hl:xs.length<=maxLen):Uz xs w (.returned (.slice (some (Aq w.heap.size 0)) xs.length xs.length)) (w.alloc (.cells (xs.map (Value.int .i64)).toArray e)).drew:=by
 obtain⟨pv,h1,h2,h3⟩:=Uz.fresh w xs e hl;exact⟨pv,h1,h2.below (dA),h3.drew⟩
def by2{nd:Fl.ar}{lv:Value}(h:Vg w nb no nd lv):Cq 82 #[.pointer (some (Aq nb no))] w (Uz [nd.b] w):=by
 have c3:=h.c3
 go_enter func82,ntmps82
 go_wp2;go_ret;exact Uz.fresh _ [nd.b] _ (by simp[maxLen])
def by3{nd:Fl.ar}{lv:Value}(h:Vg w nb no nd lv):Cq 83 #[.pointer (some (Aq nb no))] w (Uz [nd.b,nd.c] w):=by
 have c3:=h.c3;have c4:=h.c4
 go_enter func83,ntmps83
 go_wp2_with fail
 go_still_tail 8,(by kernel_rfl)
 go_wp2;go_ret;exact Uz.kw _ [nd.b,nd.c] _ (by simp[maxLen])
def by4{nd:Fl.ar}{lv:Value}(h:Vg w nb no nd lv):Cq 84 #[.pointer (some (Aq nb no))] w (Uz [nd.a,nd.b,nd.c] w):=by
 have c2:=h.c2;have c3:=h.c3;have c4:=h.c4
 go_enter func84,ntmps84
 go_wp2_with fail
 go_still_tail 12,(by kernel_rfl)
 go_wp2;go_ret;exact Uz.kw _ [nd.a,nd.b,nd.c] _ (by simp[maxLen])
def by5{nd:Fl.ar}{lv:Value}(h:Vg w nb no nd lv):Cq 85 #[.pointer (some (Aq nb no))] w (Uz [nd.a,nd.b] w):=by
 have c2:=h.c2;have c3:=h.c3
 go_enter func85,ntmps85
 go_wp2_with fail
 go_still_tail 8,(by kernel_rfl)
 go_wp2;go_ret;exact Uz.kw _ [nd.a,nd.b] _ (by simp[maxLen])
def by6{nd:Fl.ar}{lv:Value}(h:Vg w nb no nd lv):Cq 86 #[.pointer (some (Aq nb no))] w (Uz nd.aU w):=by
 have c5:=h.c5;have HL:=Zz h.hl;obtain⟨ao,cap,rfl,_⟩:=h.hl;clear h
 go_enter func86,ntmps86
 go_wp2;go_ret;exact⟨_,rfl,HL,Below.refl _ _⟩
def zh7{nd:Fl.ar}{lv:Value}(h:Vg w nb no nd lv):Cq (byF nd.kind) #[.pointer (some (Aq nb no))] w (Uz (prem nd) w):=by
 unfold byF prem
 by_cases h2:nd.kind=2
 ·rw[if_pos h2,if_pos h2];exact by3 h
 rw[if_neg h2,if_neg h2]
 by_cases h3:nd.kind=3
 ·rw[if_pos h3,if_pos (Or.inl h3)];exact by2 h
 rw[if_neg h3]
 by_cases h4:nd.kind=4
 ·rw[if_pos h4,if_pos (Or.inr h4)];exact by2 h
 rw[if_neg h4,if_neg (show ¬(nd.kind=3\/nd.kind=4) from λh=>h.elim h3 h4)]
 by_cases h5:nd.kind=5
 ·rw[if_pos h5,if_pos h5];exact by4 h
 rw[if_neg h5,if_neg h5]
 by_cases h6:nd.kind=6
 ·rw[if_pos h6,if_pos h6];exact by5 h
 rw[if_neg h6,if_neg h6]
 by_cases h7:nd.kind=7
 ·rw[if_pos h7,if_pos h7];exact by6 h
 rw[if_neg h7,if_neg h7];exact by1 _ _
def zpz(k:Int)(v:Value)(w:World):(callFunc (byF k) #[v]).run prog w=.ok (.enter (byF k) #[v]) w:=by
 unfold byF
 repeat' split
 all_goals kernel_rfl
def zs6(rb ro f k:Nat)(np:Value)(ps:List Int)(w:World)(hf:w.cell? (Aq rb (ro+3))=some (.func (.func f) #[] #[]))(n0:(callFunc f #[np]).run prog w=.ok (.enter f #[np]) w)(hc:Cq f #[np] w (Uz ps w)):
  Cq 72 #[.pointer (some (Aq rb ro)),np,Iq k] w λe w'=>e=.returned (.bool (!ps.any (λx=>decide ((k:Int)<=x))))/\Bq w w':=by
 have HC:=Zz hc;clear hc
 go_enter func72,ntmps72
 go_wp2_with fail
 refine(HC.out).mono ?_;rintro e w1 ⟨pv,rfl,hp,d0⟩;obtain⟨pao,pcap,rfl,_,j0,e0⟩:=hp;unfold maxLen at j0;have k0:=Zz e0;have f0:=Zz d0;clear e0 d0
 go_wp2_with fail
 go_loop [16] (λi=>∃j:Nat,j<=ps.length/\i=Iq j/\∀t,t<j->¬(k:Int)<=ps.getD t 0) (λi=>ps.length - (intOf i).toNat)
 case atStart=>exact⟨0,by omega,rfl,λt ht=>by omega⟩
 case round=>
  obtain⟨j,hj,rfl,g0⟩:=hrel;have h0:=Zz g0;clear g0
  by_cases b0:j<ps.length
  ·obtain⟨pb,po,rfl,o0,a0⟩:=k0 (by intro h;rw[h]at b0;simp at b0)
   have l0:=a0 j b0;obtain⟨x,hx⟩:=nmE (ps.getD j 0);rw[<-hx]at l0;have i0:=Zz hx;have p0:(j:Int)<(ps.length:Int):=(by omega);clear a0 hx
   by_cases m0:(k:Int)<=x
   ·have c0:Hid ((!ps.any (λx=>decide ((k:Int)<=x)))=false):=by
     show (!ps.any (λx=>decide ((k:Int)<=x)))=false;rw[Bool.not_eq_false',List.any_eq_true];exact⟨x,by rw[i0.out];exact nT b0,by simpa using m0⟩
    go_wp2;go_ret;exact⟨Zc c0.symm,f0⟩
   go_wp2
   go_round
   case rel=>exact⟨j+1,by omega,by go_num,λt ht=>by
    by_cases h:t<j
    ·exact h0 t h
    have:t=j:=by omega
    subst this;rw[<-i0.out];omega⟩
   case measure=>simp[intOf];omega
  have c0:Hid ((!ps.any (λx=>decide ((k:Int)<=x)))=true):=by
   show (!ps.any (λx=>decide ((k:Int)<=x)))=true;rw[Bool.not_eq_true',List.any_eq_false];intro x hx;obtain⟨i,hi,rfl⟩:=List.getElem_of_mem hx;have:=h0 i (by omega);rw[Qa,Qb hi]at this;simpa using this
  go_wp2;go_ret;exact⟨Zc c0.symm,f0⟩
structure Nd(w:World)(N:Nat)(kd lev a b c:Int)(l:Value):Prop where
 c0:w.cell? (Aq N 0)=some (Iq kd)
 c1:w.cell? (Aq N 1)=some (Iq lev)
 c2:w.cell? (Aq N 2)=some (Iq a)
 c3:w.cell? (Aq N 3)=some (Iq b)
 c4:w.cell? (Aq N 4)=some (Iq c)
 c5:w.cell? (Aq N 5)=some l
 f:∀j,w.frozen? (Aq N j)=false
section
variable{kd lev a b c:Int}{l:Value}
def Nd.lt(h:Nd w N kd lev a b c l):N<w.heap.size:=Qe w _ h.c0
def Nd.new(w:World)(kd lev a b c:Int)(l:Value)(e:TypeId):Nd (w.alloc (.cells #[Iq kd,Iq lev,Iq a,Iq b,Iq c,l] e)) w.heap.size kd lev a b c l:=by
 refine⟨?_,?_,?_,?_,?_,?_,λj=>by simp⟩<;>(rw[World.cell?_alloc_new];rfl)
def Nd.grown(h:Nd w N kd lev a b c l){row:Option Nat}(g:w.grownBy w' row)(a0:some N≠row):Nd w' N kd lev a b c l:=
 ⟨g.cell h.c0 a0,g.cell h.c1 a0,g.cell h.c2 a0,g.cell h.c3 a0,g.cell h.c4 a0,g.cell h.c5 a0,λj=>(Qd (w:=w) (a:=(Aq N j)) (g.block N h.lt a0)).trans (h.f j)⟩
def Nd.drewN(h:Nd w N kd lev a b c l)(n:Nat):Nd (w.drewN n) N kd lev a b c l:=⟨h.c0,h.c1,h.c2,h.c3,h.c4,h.c5,h.f⟩
def Nd.drew(h:Nd w N kd lev a b c l):Nd w.drew N kd lev a b c l:=⟨h.c0,h.c1,h.c2,h.c3,h.c4,h.c5,h.f⟩
def Yf(a0:i≠j):(w.setCell (Aq N i) v).cell? (Aq N j)=w.cell? (Aq N j):=by
 apply Qg;intro hh;injection hh with _ h2;exact a0 h2
def Ud{u:Value}(h:w.cell? (Aq N i)=some u):(w.setCell (Aq N i) v).cell? (Aq N i)=some v:=World.cell?_setCell_same' _ _ _ (by simp[h])
def Nd.od(h:Nd w N kd lev a b c l)(x:Int):Nd (w.setCell (Aq N 1) (Iq x)) N kd x a b c l:=
 ⟨(Yf (by decide)).trans h.c0,Ud h.c1,(Yf (by decide)).trans h.c2,(Yf (by decide)).trans h.c3,(Yf (by decide)).trans h.c4,(Yf (by decide)).trans h.c5,λj=>(World.frozen?_setCell _ _ _ _).trans (h.f j)⟩
def Nd.oZ(h:Nd w N kd lev a b c l)(x:Int):Nd (w.setCell (Aq N 2) (Iq x)) N kd lev x b c l:=
 ⟨(Yf (by decide)).trans h.c0,(Yf (by decide)).trans h.c1,Ud h.c2,(Yf (by decide)).trans h.c3,(Yf (by decide)).trans h.c4,(Yf (by decide)).trans h.c5,λj=>(World.frozen?_setCell _ _ _ _).trans (h.f j)⟩
def Nd.oY(h:Nd w N kd lev a b c l)(x:Int):Nd (w.setCell (Aq N 3) (Iq x)) N kd lev a x c l:=
 ⟨(Yf (by decide)).trans h.c0,(Yf (by decide)).trans h.c1,(Yf (by decide)).trans h.c2,Ud h.c3,(Yf (by decide)).trans h.c4,(Yf (by decide)).trans h.c5,λj=>(World.frozen?_setCell _ _ _ _).trans (h.f j)⟩
def Nd.kD(h:Nd w N kd lev a b c l)(x:Int):Nd (w.setCell (Aq N 4) (Iq x)) N kd lev a b x l:=
 ⟨(Yf (by decide)).trans h.c0,(Yf (by decide)).trans h.c1,(Yf (by decide)).trans h.c2,(Yf (by decide)).trans h.c3,Ud h.c4,(Yf (by decide)).trans h.c5,λj=>(World.frozen?_setCell _ _ _ _).trans (h.f j)⟩
def Nd.nW(h:Nd w N kd lev a b c l)(x:Value):Nd (w.setCell (Aq N 5) x) N kd lev a b c x:=
 ⟨(Yf (by decide)).trans h.c0,(Yf (by decide)).trans h.c1,(Yf (by decide)).trans h.c2,(Yf (by decide)).trans h.c3,(Yf (by decide)).trans h.c4,Ud h.c5,λj=>(World.frozen?_setCell _ _ _ _).trans (h.f j)⟩
def Nd.gt(h:Nd w N kd lev a b c l){ls:List Int}(hl:Zv w.heap.size w l ls):Vg w N 0 ⟨kd,lev,a,b,c,ls⟩ l:=⟨h.c0,h.c1,h.c2,h.c3,h.c4,h.c5,hl⟩
end
def Xo(w:World)(N i:Nat)(v:Value):w.grownBy (w.setCell (Aq N i) v) (some N):=
 ⟨rfl,rfl,rfl,by simp[World.setCell],λk hk a0=>Below.heap_setCell _ _ _ _ (by intro h;exact a0 (by rw[h]))⟩
def Mv.eE(h:Mv w w1 b)(hb:b<w.heap.size)(hN:w.heap.size<=N)(i:Nat)(v:Value):Mv w (w1.setCell (Aq N i) v) b:=
 h.dT (Xo w1 N i v) hb (λk e=>by injection e with e;omega)
def Xw(k:Nat):Nat:=if k=0 then 1 else if k=1 then 1 else if k=2 then 3 else if k=3 then 2 else if k=4 then 2 else if k=5 then 3 else if k=6 then 2 else 0
def ytw(k:Nat):Xw k<=3:=by unfold Xw;(repeat' split)<;>omega
def zk3(k:Nat)(h:k<8)(h7:k≠7):Fl.aO (k:Int)=(Xw k:Int):=by
 have:k=0\/k=1\/k=2\/k=3\/k=4\/k=5\/k=6:=by omega
 rcases this with rfl|rfl|rfl|rfl|rfl|rfl|rfl<;>rfl
def zuz(s:List UInt8)(p:Nat)(h:p<=s.length)(hq:¬(Fl.num s p).2.1<0):∃v q:Nat,Fl.num s p=((v:Int),(q:Int),0)/\p<q/\q<=s.length/\v<2147483648:=by
 have h1:=Fl.dJ s p h;generalize Fl.num s p=r at*;obtain⟨a,b,c⟩:=r;simp only at h1 hq;rcases h1 with h1|h1
 ·omega
 obtain⟨h2,h3,h4,h5,rfl⟩:=h1;exact⟨a.toNat,b.toNat,by rw[Int.toNat_of_nonneg h4,Int.toNat_of_nonneg (by omega)],by omega,by omega,by omega⟩
def zpy(s:List UInt8)(p:Nat)(lo hi:Int)(h:p<=s.length)(hq:¬(Fl.dF s p lo hi).2.1<0):∃v q:Nat,Fl.dF s p lo hi=((v:Int),(q:Int),0)/\Fl.num s p=((v:Int),(q:Int),0)/\p<q/\q<=s.length/\lo<=(v:Int)/\(v:Int)<=hi:=by
 unfold Fl.dF at*
 by_cases h1:(Fl.num s p).2.1<0
 ·rw[if_pos h1]at hq;exact absurd (show (-1:Int)<0 by decide) hq
 rw[if_neg h1]at hq⊢
 by_cases h2:(Fl.num s p).1<lo\/hi<(Fl.num s p).1
 ·rw[if_pos h2]at hq;exact absurd (show (-1:Int)<0 by decide) hq
 rw[if_neg h2];obtain⟨v,q,h3,h4,h5,h6⟩:=zuz s p h h1;rw[h3]at h2⊢;simp only at h2⊢;exact⟨v,q,rfl,rfl,h4,h5,by omega,by omega⟩
section
variable{v:Nat}
def zby(a0:p<s.length)(hx:x=(s.getD p 0).toNat)(b0:x<8)(hn:(Fl.num s (p+1)).2.1<0):Fl.one s p k=(Fl.jc,-1,(Fl.num s (p+1)).2.2):=by
 unfold Fl.one;rw[if_neg (by omega)];simp only[<-hx];rw[if_neg (by unfold Fl.aO;repeat' split<;>omega),if_pos hn]
def zd8(b0:p<s.length)(hx:x=(s.getD p 0).toNat)(a0:x<8)(h7:x≠7)(hn:Fl.num s (p+1)=((v:Int),(q:Int),0)):
  Fl.one s p k=if(Fl.cZ s q (Xw x)).2.1<0 then(Fl.jc,-1,(Fl.cZ s q (Xw x)).2.2) else Fl.cg p k ⟨x,v,(Fl.cZ s q (Xw x)).1.getD 0 0,(Fl.cZ s q (Xw x)).1.getD 1 0,(Fl.cZ s q (Xw x)).1.getD 2 0,[]⟩ (Fl.cZ s q (Xw x)).2.1:=by
 unfold Fl.one;rw[if_neg (by omega)];simp only[<-hx,hn];rw[zk3 x a0 h7,if_neg (by omega),if_neg (by omega),if_neg (by omega)];simp only[Int.toNat_natCast]
def yzz(a0:p<s.length)(hx:7=(s.getD p 0).toNat)(hn:Fl.num s (p+1)=((v:Int),(q:Int),0))(hm:(Fl.dF s q 0 16).2.1<0)(hq:q<=s.length):
  Fl.one s p k=(Fl.jc,-1,(Fl.dF s q 0 16).2.2):=by
 have b0:=Fl.dJ s q hq;unfold Fl.one;rw[if_neg (by omega)];simp only[<-hx,hn];rw[if_neg (by decide),if_neg (by omega),if_pos (by decide)];simp only[Int.toNat_natCast];unfold Fl.dF at*
 by_cases h1:(Fl.num s q).2.1<0
 ·rw[if_pos h1,if_pos h1]
 rw[if_neg h1]at hm;rw[if_neg h1,if_neg h1]
 by_cases h2:(Fl.num s q).1<0\/16<(Fl.num s q).1
 ·rw[if_pos h2,if_pos (by omega)]
 rw[if_neg h2]at hm;exact absurd hm h1
def ynz(b0:p<s.length)(hx:7=(s.getD p 0).toNat)(hn:Fl.num s (p+1)=((v:Int),(q:Int),0)){m q2:Nat}(hm:Fl.num s q=((m:Int),(q2:Int),0))(a0:m<=16):
  Fl.one s p k=if(Fl.cZ s q2 m).2.1<0 then(Fl.jc,-1,(Fl.cZ s q2 m).2.2) else Fl.cg p k ⟨7,v,0,0,0,(Fl.cZ s q2 m).1⟩ (Fl.cZ s q2 m).2.1:=by
 unfold Fl.one;rw[if_neg (by omega)];simp only[<-hx,hn];rw[if_neg (by decide),if_neg (by omega),if_pos (by decide)];simp only[Int.toNat_natCast,hm];rw[if_neg (by omega),if_neg (by omega)];rfl
end
def Yb(w:World)(b ro:Nat):Prop:=∀k:Nat,k<8->w.cell? (Aq b (ro+k*4+1))=some (Iq (Xw k:Nat))/\w.cell? (Aq b (ro+k*4+2))=some (.bool (k==7))/\w.cell? (Aq b (ro+k*4+3))=some (.func (.func (byF k)) #[] #[])
def Yb.move{ro:Nat}(h:Yb w b ro)(m:Mv w w' b)(a0:1<=ro):Yb w' b ro:=λk hk=>by
 obtain⟨h1,h2,h3⟩:=h k hk;exact⟨(m.o _ (by omega)).trans h1,(m.o _ (by omega)).trans h2,(m.o _ (by omega)).trans h3⟩
structure Ji(s:List UInt8)(q f:Nat)(w wr:World)(b N PB x v j q':Nat)(xs:List Int):Prop where
 hn:zr4 s q f j q' xs
 hm:Mv w wr b
 hc:wr.cell? (Aq b 1)=some (Iq (q':Int))
 nd:Nd wr N x v (xs.getD 0 0) (xs.getD 1 0) (xs.getD 2 0) Zq
 rs:Nd wr w.heap.size 0 0 0 0 0 Zq
 p0:wr.cell? (Aq PB 0)=some (.pointer (some (Aq N 2)))
 p1:wr.cell? (Aq PB 1)=some (.pointer (some (Aq N 3)))
 p2:wr.cell? (Aq PB 2)=some (.pointer (some (Aq N 4)))
 hN:w.heap.size<N
 hP:N<PB
def Ji.ptr{PB v:Nat}(h:Ji s q f w wr b N PB x v j q' xs)(hj:j<3):wr.cell? (Aq PB j)=some (.pointer (some (Aq N (2+j)))):=by
 have:j=0\/j=1\/j=2:=by omega
 rcases this with rfl|rfl|rfl
 ·exact h.p0
 ·exact h.p1
 exact h.p2
def Ji.cell{s:List UInt8}{q f:Nat}{w wr:World}{b N PB x v j q':Nat}{xs:List Int}(h:Ji s q f w wr b N PB x v j q' xs)(hj:j<3):wr.cell? (Aq N (2+j))=some (Iq (xs.getD j 0)):=by
 have:j=0\/j=1\/j=2:=by omega
 rcases this with rfl|rfl|rfl
 ·exact h.nd.c2
 ·exact h.nd.c3
 exact h.nd.c4
def Ji.next{PB v:Nat}(h:Ji s q f w wr b N PB x v j q' xs)(hb:b<w.heap.size)(d0:j<f)(hj:j<3){y m:Nat}(hn:Fl.num s q'=((y:Int),(m:Int),0))(m1:Mv wr w1 b)(c1:w1.cell? (Aq b 1)=some (Iq (m:Int))):
  Ji s q f w (w1.setCell (Aq N (2+j)) (Iq y)) b N PB x v (j+1) m (xs++[(y:Int)]):=by
 have hN:=h.hN;have hP:=h.hP;have g1:=m1.g;have g2:=Xo w1 N (2+j) (Iq y)
 have hnb:some N≠some b:=by simp;omega
 have a0:some PB≠some b:=by simp;omega
 have e0:some w.heap.size≠some b:=by simp;omega
 have b0:some PB≠some N:=by simp;omega
 have f0:some w.heap.size≠some N:=by simp;omega
 refine⟨by have:=h.hn.step d0 hn (by omega);simpa using this,(h.hm.trans m1).eE hb (by omega) _ _,g2.cell c1 (by simp;omega),?_,(h.rs.grown g1 e0).grown g2 f0,g2.cell (g1.cell h.p0 a0) b0,g2.cell (g1.cell h.p1 a0) b0,g2.cell (g1.cell h.p2 a0) b0,hN,hP⟩;have c0:=h.nd.grown g1 hnb;have bj:=h.hn.2.2.1
 have:j=0\/j=1\/j=2:=by omega
 rcases this with rfl|rfl|rfl
 ·match xs,bj with
  |[],_=>exact c0.oZ _
 ·match xs,bj with
  |[a],_=>exact c0.oY _
 match xs,bj with
 |[a,b'],_=>exact c0.kD _
def zw9{a:Addr}{o:Value}(h:W.cell? a=some o):(W.setCell a v).cell? a=some v:=World.cell?_setCell_same' W a v (by simp[h])
def yjv(h:i≠j):(W.setCell (Aq B j) v).cell? (Aq B i)=W.cell? (Aq B i):=by
 apply Qg;intro hh;apply h;injection hh with _ h2;exact h2.symm
def yzy(v0 v1 v2 v3 v4 v5:Value){o0 o1 o2 o3 o4 o5:Value}(h0:w1.cell? (Aq B 0)=some o0)(h1:w1.cell? (Aq B 1)=some o1)(h2:w1.cell? (Aq B 2)=some o2)(h3:w1.cell? (Aq B 3)=some o3)(h4:w1.cell? (Aq B 4)=some o4)(h5:w1.cell? (Aq B 5)=some o5):
  (w1.setCell (Aq B 0) v0).cell? (Aq B 0)=some v0/\((w1.setCell (Aq B 0) v0).setCell (Aq B 1) v1).cell? (Aq B 1)=some v1/\(((w1.setCell (Aq B 0) v0).setCell (Aq B 1) v1).setCell (Aq B 2) v2).cell? (Aq B 2)=some v2/\((((w1.setCell (Aq B 0) v0).setCell (Aq B 1) v1).setCell (Aq B 2) v2).setCell (Aq B 3) v3).cell? (Aq B 3)=some v3/\(((((w1.setCell (Aq B 0) v0).setCell (Aq B 1) v1).setCell (Aq B 2) v2).setCell (Aq B 3) v3).setCell (Aq B 4) v4).cell? (Aq B 4)=some v4/\((((((w1.setCell (Aq B 0) v0).setCell (Aq B 1) v1).setCell (Aq B 2) v2).setCell (Aq B 3) v3).setCell (Aq B 4) v4).setCell (Aq B 5) v5).cell? (Aq B 5)=some v5:=by
 refine⟨zw9 h0,zw9 (o:=o1) ?_,zw9 (o:=o2) ?_,zw9 (o:=o3) ?_,zw9 (o:=o4) ?_,zw9 (o:=o5) ?_⟩<;>repeat (rw[yjv (by decide)])
 all_goals assumption
def zpx(r:Fl.ar×Int×Int)(b:Nat)(w:World)(e:Ending)(w':World):Prop:=
 Mv w w' b/\(r.2.1<0->e=.panicked (Ze 8 r.2.2))/\(¬r.2.1<0->∃lv,e=.returned (nodeV r.1 lv)/\Zv w'.heap.size w' lv r.1.aU/\(∀bb,lv.ownBlock=some bb->w.heap.size<=bb)/\w'.cell? (Aq b 1)=some (Iq r.2.1))
def Us{r:Fl.ar×Int×Int}{pl:Int}(hr:r=(Fl.jc,-1,pl))(m:Mv w w' b):zpx r b w (.panicked (Ze 8 pl)) w':=by
 subst hr;exact⟨m,λ_=>rfl,λh=>absurd (show (-1:Int)<0 by decide) h⟩
def zm1{r:Fl.ar×Int×Int}{nd:Fl.ar}{lv v0 v1 v2 v3 v4 v5:Value}(hr:r=(nd,(q:Int),0))(m:Mv w w1 b)(hb:b<w.heap.size)(hB:w.heap.size=B)(c:w1.cell? (Aq b 1)=some (Iq (q:Int)))
  (hl:Zv w1.heap.size w1 lv nd.aU) (b0:∀bb,lv.ownBlock=some bb->B<bb):
  zpx r b w (.returned (nodeV nd lv)) ((((((w1.setCell (Aq B 0) v0).setCell (Aq B 1) v1).setCell (Aq B 2) v2).setCell (Aq B 3) v3).setCell (Aq B 4) v4).setCell (Aq B 5) v5):=by
 subst hr hB
 have a0:nd.aU≠[]->lv.ownBlock≠some w.heap.size:=λ_ h=>by have:=b0 _ h;omega
 have hs:∀{W:World} {i:Nat} {u:Value},Cl W b 1 (Iq (q:Int))->Cl (W.setCell (Aq w.heap.size i) u) b 1 (Iq (q:Int)):=λ{W i u} h=>(Xo W w.heap.size i u).cell h (by simp;omega);refine⟨(((((m.eE hb (Nat.le_refl _) _ _).eE hb (Nat.le_refl _) _ _).eE hb (Nat.le_refl _) _ _).eE hb (Nat.le_refl _) _ _).eE hb (Nat.le_refl _) _ _).eE hb (Nat.le_refl _) _ _,λh=>by simp only at h;omega,λ_=>⟨lv,rfl,?_,λbb h=>by have:=b0 bb h;omega,hs (hs (hs (hs (hs (hs c)))))⟩⟩;exact Uh (Uh (Uh (Uh (Uh (Uh hl a0) a0) a0) a0) a0) a0
def zh8{nd:Fl.ar}{e:Int}(h:(prem nd).any (λx=>decide ((k:Int)<=x))=true):Fl.cg p k nd e=(Fl.jc,-1,(p:Int)):=by unfold Fl.cg;rw[if_pos h]
def zk4{nd:Fl.ar}{e:Int}(h:(prem nd).any (λx=>decide ((k:Int)<=x))=false):Fl.cg p k nd e=(nd,e,0):=by unfold Fl.cg;rw[if_neg (by rw[h];decide)]
end Go.Proofs.YtfhpibppblbgcaaGreatDoor
