import Derived.Test.YtjekbnmnjeoagaaGreatDoorM06
import Derived.Laws.BitsAllLaws
set_option linter.all false
set_option maxRecDepth 100000
set_option maxHeartbeats 40000000
namespace Go.Proofs.YtjekbnmnjeoagaaGreatDoor
open Go.RowKit Go.Proofs.Tryz
variable{B b Fb Pb Lb p n i a k q v j nb no N f q':Nat}{w w' w1 wr:World}{vv chv clv bv lv:Value}{vs xs:List Int}{S:Nat->Prop}{s:List UInt8}{x F m:Int}
def vAddr(vv:Value)(i:Nat):Addr:=match vv with
 | .slice (some a) _ _=>⟨a.block,a.off+i,none⟩
 |_=>(Aq 0 0)
def intAt(w:World)(a:Addr):Int:=match w.cell? a with
 |some (.int _ z)=>z
 |_=>0
def zvx(w:World)(vv:Value)(n:Nat):List Int:=(List.range n).map λi=>intAt w (vAddr vv i)
def zo1(h:Zw B w vv vs):zvx w vv vs.length=vs:=by
 refine List.ext_getElem (by simp[zvx]) (λi h1 h2=>?_);obtain⟨b,off,cap,rfl,-,-,-,hc⟩:=zvy h h2;simp only[zvx,List.getElem_map,List.getElem_range,vAddr,intAt,hc];rw[Qa,Qb h2];rfl
structure zt3(w:World)(b Fb Pb Lb:Nat)(chv:Value)(S:Nat->Prop):Prop where
 f:Fb≠b
 p:Pb≠b
 l:Lb≠b
 s:∀c,S c->c≠b
 c:∀b' o n cap,0<n->chv=.slice (some (Aq b' o)) n cap->b'≠b
 z:∀j,w.frozen? (Aq b j)=false
 hb:b<w.heap.size
def zt3.below(h:zt3 w b Fb Pb Lb chv S)(hb:Bq w w'):zt3 w' b Fb Pb Lb chv S:=
 ⟨h.f,h.p,h.l,h.s,h.c,λj=>(hb.frozen (p:=(Aq b j)) h.hb).trans (h.z j),Qj h.hb hb.size⟩
def zt3.set(h:zt3 w b Fb Pb Lb chv S)(j:Nat)(v:Value):zt3 (w.setCell (Aq b j) v) b Fb Pb Lb chv S:=
 ⟨h.f,h.p,h.l,h.s,h.c,λi=>by rw[World.frozen?_setCell];exact h.z i,by rw[Zy];exact h.hb⟩
section
variable{p:Fl.Prog}{off cap:Nat}
def Vo.set(h:Vo w Fb Pb Lb clv chv bv (.slice (some (Aq b off)) n cap) S p vs)(hs:zt3 w b Fb Pb Lb chv S){x:Nat}(hx:x<vs.length){v:Int}(hv:0<=v/\v<p.n):Vo (w.setCell (Aq b (off+x)) (Iq v)) Fb Pb Lb clv chv bv (.slice (some (Aq b off)) n cap) S p (vs.set x v):=by
 have q:∀c j,c≠b->(w.setCell (Aq b (off+x)) (Iq v)).cell? (Aq c j)=w.cell? (Aq c j):=λc j hc=>Qc (a:=(Aq c j)) (Zx _ _ _ _ _ hc);have hz:=Zy w (Aq b (off+x)) (Iq v)
 exact{
  hF:=by rw[hz];exact h.hF
  c0:=(q _ _ hs.f).trans h.c0
  c1:=(q _ _ hs.f).trans h.c1
  lv:=⟨by rw[hz];exact h.lv.hz,(q _ _ hs.p).trans h.lv.p0,h.lv.la.block (Zx _ _ _ _ _ hs.l),h.lv.lv⟩
  p1:=(q _ _ hs.p).trans h.p1
  p2:=(q _ _ hs.p).trans h.p2
  p4:=(q _ _ hs.p).trans h.p4
  ce:=h.ce
  ch:=by
   obtain⟨ao,cp,e,h1,h2,h3⟩:=h.ch;refine⟨ao,cp,e,h1,h2,λhn=>?_⟩;obtain⟨b',o',ea,hb',hc⟩:=h3 hn;have b0:b'≠b:=hs.c b' o' _ _ (List.length_pos_iff.2 hn) (by rw[e,ea]);exact⟨b',o',ea,by rw[hz];exact hb',λi hi=>(q _ _ b0).trans (hc i hi)⟩
  vi:=by
   obtain⟨ao,cp,e,h1,h2,h3⟩:=h.vi;obtain⟨b',o',ea,hb',hc⟩:=h3 (by intro e;rw[e]at hx;cases hx);injection e with e1 e2 e3;subst e2;subst e3;rw[ea]at e1;injection e1 with e1;injection e1 with e4 e5;subst e4;subst e5;refine⟨_,_,by rw[List.length_set],by rw[List.length_set];exact h1,by rw[List.length_set];exact h2,λ_=>⟨b,off,rfl,by rw[hz];exact hb',λi hi=>?_⟩⟩;rw[List.length_set]at hi;rw[Qa,List.getElem?_set]
   by_cases a0:x=i
   ·subst a0
    rw[if_pos rfl,if_pos hx];exact World.cell?_setCell_same' _ _ _ (by rw[hc x hx];rfl)
   rw[if_neg a0];refine(Qg _ _ _ _ (by intro hh;injection hh with _ h5;omega)).trans ?_;rw[<-Qa];exact hc i hi
  bo:=Zg.kept (λ_ h=>h) (λc hc=>Zx _ _ _ _ _ (hs.s c hc)) _ _ _ h.bo
  hS:=λc hc=>by rw[hz];exact h.hS c hc
  ok:=Fl.set_ok h.ok x hv
  pk:=h.pk}
end
def zo2(w:World)(base b Fb Pb Lb:Nat)(clv chv bv vv:Value)(S:Nat->Prop)(p:Fl.Prog)(vs:List Int)(e:Ending)(w':World):Prop:=e=.returned (.tuple #[])/\Vo w' Fb Pb Lb clv chv bv vv S p (Fl.raise p 25 vs)/\zt3 w' b Fb Pb Lb chv S/\Below base w w'
section
variable{p:Fl.Prog}{base:Nat}
def zj0(h:Vo w Fb Pb Lb clv chv bv vv S p vs)(hs:zt3 w b Fb Pb Lb chv S)(Y0:∀b' o n cap,vv=.slice (some (Aq b' o)) n cap->b'=b)(Z0:base<=b):Cq 96 #[Pq Fb] w (zo2 w base b Fb Pb Lb clv chv bv vv S p vs):=by
 have HH:=Zz h;have A1:=Zz hs;have B1:=Zz Y0;clear h hs Y0
 go_enter func96,ntmps96
 obtain⟨J,hJ⟩:=nmE (α:=Act->World->Prop) (λa' w'=>∃(vs':List Int) (f:Nat),(∃(u1 u2 u3 u4 u5 u6 u7 u8 u9 u10 u11 u12 u13 u14 u15 u16 u17 u18 u19 u20 u21 u22 u23 u24 u25 u26 u27 u28 u29 u30 u31 u32 u33 u34 u35 u36 u37 u38 u39 u40 u41 u42 u43 u44 u45 u46 u47 u48 u49 u50:Value),a'={tmps:=#[Pq Fb,u1,u2,u3,u4,u5,u6,u7,u8,u9,u10,u11,u12,u13,u14,u15,u16,u17,u18,u19,u20,u21,u22,u23,u24,u25,u26,u27,u28,u29,u30,u31,u32,u33,u34,u35,u36,u37,u38,u39,u40,u41,u42,u43,u44,u45,u46,u47,u48,u49,u50],defers:=[]})/\Vo w' Fb Pb Lb clv chv bv vv S p vs'/\zt3 w' b Fb Pb Lb chv S/\Below base w w'/\vs'.length=vs.length/\Fl.rank p vs'<f/\Fl.raise p f vs'=Fl.raise p 25 vs);obtain⟨μ,hμ⟩:=nmE (α:=Act->World->Nat) (λa' w'=>Fl.rank p (zvx w' vv vs.length));have HJ:=Zz hJ;have C1:=Zz hμ;refine zsw 0 J μ ?_ ?_
 ·rw[hJ];exact⟨vs,25,⟨_,_,_,_,_,_,_,_,_,_,_,_,_,_,_,_,_,_,_,_,_,_,_,_,_,_,_,_,_,_,_,_,_,_,_,_,_,_,_,_,_,_,_,_,_,_,_,_,_,_,rfl⟩,HH.out,A1.out,Below.refl _ _,rfl,Fl.rank_le HH.out.lv.lv HH.out.pk HH.out.ok,rfl⟩
 intro a' W b1;rw[hJ]at b1;obtain⟨vs',f,⟨u1,u2,u3,u4,u5,u6,u7,u8,u9,u10,u11,u12,u13,u14,u15,u16,u17,u18,u19,u20,u21,u22,u23,u24,u25,u26,u27,u28,u29,u30,u31,u32,u33,u34,u35,u36,u37,u38,u39,u40,u41,u42,u43,u44,u45,u46,u47,u48,u49,u50,rfl⟩,d0,R0,d1,hlen,i1,j1⟩:=b1;clear hJ hμ
 have l1:Fl.StmtsOk vs'.length p.chans.length 4 p.body:=by rw[d0.ok.1];exact d0.pk.body
 obtain⟨lw,n0,elw⟩:∃lw:Nat,lw<p.n/\Fl.low p=(lw:Int):=⟨(Fl.low p).toNat,by have:=d0.lv.lv.low;omega,by have:=d0.lv.lv.low;omega⟩;have K0:=zx9 d0.lv.lv d0.ok 4 p.body lw l1 n0;have L0:(Fl.moves p vs' 4 p.body lw).length<=48 ^ 4:=Fl.moves_len p vs' 4 p.body lw (Zg.small _ _ _ d0.bo);rw[<-elw]at K0 L0;have HC:Hid (Cq 135 #[Pq Fb] W (zx2 S W (Fl.moves p vs' 4 p.body (Fl.low p)))):=zg8 d0;have HD:Hid (Fl.rise p vs'=match (Fl.moves p vs' 4 p.body (Fl.low p)).find? (λm=>Fl.ofLocal p m.1 && !Fl.fitsM p vs' m) with|some m=>some (vs'.set m.1.x (Fl.jn p (vs'.getD m.1.x 0) m.2))|none=>none):=rfl;obtain⟨ms,m1⟩:=nmE (Fl.moves p vs' 4 p.body (Fl.low p));rw[<-m1]at K0 L0 HC HD;have D1:=Zz K0;have hle':ms.length<=5308416:=L0;have HW:=Zz d0;have M0:=Zz R0;have C0:Hid (Fl.rank p vs'<f/\Fl.raise p f vs'=Fl.raise p 25 vs):=⟨i1,j1⟩;have n1:=Zz d1;have o1:=Zz hlen;have p1:base<=W.heap.size:=Nat.le_of_lt (Nat.lt_of_le_of_lt Z0 R0.hb);clear l1 n0 elw K0 L0 m1 d0 R0 d1 hlen i1 j1
 go_wp2_with fail
 refine HC.out.mono ?_;rintro e W1 ⟨v,rfl,S0,D0⟩;have E1:=Zz S0;have E0:=Zz D0;obtain⟨ao,cap,F1,G1⟩:∃ao cap,v=.slice ao ms.length cap/\ms.length<=cap:=by
  obtain⟨qs,h1,-,-⟩:=S0;rcases h1.2 with⟨rfl,h0⟩|⟨g,cap,cur,rfl,-,-,hc,-⟩
  ·exact⟨none,0,by rw[h0],by omega⟩
  exact⟨_,cap,rfl,hc⟩
 subst F1;clear HC S0 D0
 go_wp2_with fail
 go_loopw [8] (λi wr=>∃(k:Nat),k<=ms.length/\i=Iq k/\(∀t,(ht:t<k)->(ht':t<ms.length)->(Fl.ofLocal p ms[t].1 && !Fl.fitsM p vs' ms[t])=false)/\Bq W1 wr) (λi _=>ms.length - (intOf i).toNat)
 case atStart=>exact⟨0,by omega,rfl,λt ht=>absurd ht (by omega),Below.refl _ _⟩
 case round=>
  obtain⟨k,hk,rfl,g0,q0⟩:=hrel
  by_cases n0:k<ms.length
  ·obtain⟨qs,h1,h2,-⟩:=E1.out.low q0 (λb hb=>Qj (HW.out.hS b hb) E0.out.size)
   obtain⟨mk,y0⟩:=nmE (ms[k]'n0);obtain⟨q,r1,s1,N0⟩:=h2.get k mk (by rw[y0];exact Qb n0);obtain⟨O0,lk,T0,elk⟩:=D1.out mk (by rw[y0];exact List.getElem_mem n0);obtain⟨c1,c2⟩:=zc0 qs k q r1;rcases id h1.2 with⟨e0,h0⟩|⟨g,cap',cur,e0,H1,I1,-⟩
   ·omega
   injection e0 with e0 e00 e01;subst e0;subst e01;have a0:=h1.cells (g:=g) rfl _ _ c1;have a1:=h1.cells (g:=g) rfl _ _ c2
   have ad:∀j,((Aq g 0):Addr).add j=(Aq g j):=λj=>by unfold Addr.add;split<;>simp_all
   rw[ad]at a0 a1;obtain⟨sb,eq1,J1,k0,k1,k2⟩:=id N0;rw[eq1]at a0;rw[s1,elk]at a1;have K1:(k:Int)<(ms.length:Int):=(by omega);have P0:Hid (Bq W wr):=E0.out.trans (q0.mono E0.out.size);have z0:=P0.out.size;have hsz:sb<wr.heap.size:=Qj (HW.out.hS sb J1) z0;have F0:mk.1.x<=100:=by
    have h5:=HW.out.ok.1;have h6:=HW.out.pk.ce;have h7:=HW.out.pk.lo;have h8:=HW.out.pk.ch;rcases O0 with h|h<;>omega
   have i0:Hid (∀V,Bq wr V->Cq 136 #[Pq Fb,Pq sb] V λr w'=>r=.returned (.bool (Fl.ofLocal p mk.1))/\Bq V w'):=λV hV=>by
    have h5:=ze9 (HW.out.below (P0.out.trans (hV.mono z0))) (N0.kept (λ_ h=>h) (λb hb=>hV.block b (Qj (HW.out.hS b hb) z0))) F0;rw[eq1]at h5;exact h5
   have r0:Hid (∀V,Bq wr V->Cq 137 #[Pq Fb,.agg #[Pq sb,Iq lk]] V λr w'=>r=.returned (.bool (Fl.fitsM p vs' mk))/\Bq V w'):=λV hV=>by
    have h5:=zg7 (HW.out.below (P0.out.trans (hV.mono z0))) (N0.kept (λ_ h=>h) (λb hb=>hV.block b (Qj (HW.out.hS b hb) z0))) lk T0 O0;rw[eq1,<-elk]at h5;rw[elk]at h5;rw[show mk=(mk.1,(lk:Int)) from by rw[<-elk]];exact h5
   have HX:Hid (∀V,Bq wr V->V.cell? (Aq sb 2)=some (Iq mk.1.x)):=λV hV=>(hV.cell (p:=(Aq sb 2)) hsz).trans k2;have s0:=Zz g0;obtain⟨W2,f0⟩:=nmE (wr.alloc (.cells #[Pq sb,Iq lk] 253));have j0:Hid (Bq wr W2):=(by show Below _ _ _;rw[f0];exact bA);have v1:wr.heap.size<W2.heap.size:=(by rw[f0];simp);have A0:Hid (∀V,Bq W2 V->V.cell? (Aq wr.heap.size 0)=some (Pq sb)/\V.cell? (Aq wr.heap.size 1)=some (Iq lk)):=λV hV=>⟨(hV.cell (p:=(Aq wr.heap.size 0)) v1).trans (by rw[f0];simp),(hV.cell (p:=(Aq wr.heap.size 1)) v1).trans (by rw[f0];simp)⟩;have x1:=Zz n0;have G0:=Zz O0
   have H0:Hid ((Fl.ofLocal p mk.1 && !Fl.fitsM p vs' mk)=false->∀t,(ht:t<k+1)->(ht':t<ms.length)->(Fl.ofLocal p ms[t].1 && !Fl.fitsM p vs' ms[t])=false):=λhh t ht ht'=>by
    by_cases L1:t=k
    ·subst L1;rw[<-y0];exact hh
    exact s0.out t (by omega) ht'
   have l0:Hid ((Fl.ofLocal p mk.1 && !Fl.fitsM p vs' mk)=true->Fl.rise p vs'=some (vs'.set mk.1.x (Fl.jn p (vs'.getD mk.1.x 0) mk.2))):=λhh=>by
    have h5:=HD.out;rw[zn6 (f:=λm=>Fl.ofLocal p m.1 && !Fl.fitsM p vs' m) n0 (λt ht=>s0.out t ht (by omega)) (by show (Fl.ofLocal p _ && !Fl.fitsM p vs' _)=true;rw[<-y0];exact hh),<-y0]at h5;exact h5
   have o0:Hid (mk.2=(lk:Int)/\lk<p.n):=⟨elk,T0⟩;clear g0 y0 h1 h2 r1 s1 N0 O0 c1 c2 H1 I1 ad k0 k1 k2 eq1 elk T0
   cases hlo:Fl.ofLocal p mk.1
   ·have HN:Hid (∀t,(ht:t<k+1)->(ht':t<ms.length)->(Fl.ofLocal p ms[t].1 && !Fl.fitsM p vs' ms[t])=false):=H0.out (by rw[hlo];rfl)
    rw[hlo]at i0;clear hlo H0 l0 r0 HX G0 o0
    go_wp2_with fail
    rw[<-f0];refine(i0.out _ j0.out).mono ?_;rintro e W3 ⟨rfl,b0⟩;have M1:Bq W1 W3:=q0.trans ((j0.out.trans (b0.mono j0.out.size)).mono q0.size);clear b0 f0 a0 a1 A0 i0;go_wp2
    go_roundw
    case rel=>exact⟨k+1,by have:=x1.out;omega,by go_num,HN.out,M1⟩
    case measure=>simp[intOf];omega
   cases hf:Fl.fitsM p vs' mk
   ·have m0:=l0.out (by rw[hlo,hf];rfl)
    have I0:mk.1.x<vs'.length:=by
     have h5:=hlo;unfold Fl.ofLocal at h5;rw[Bool.and_eq_true,decide_eq_true_eq]at h5;rcases G0.out with h|h
     ·exact h.2
     omega
    obtain⟨b',off,cap2,J0,q1,q2,q3,q4⟩:=zvy HW.out.vi I0;have N1:=B1.out b' off _ _ J0;subst N1;obtain⟨vx,U0,evx⟩:=yxv HW.out.ok I0;rw[evx]at q4;obtain⟨jv,O1,ejv⟩:=HW.out.lv.lv.join U0 o0.out.2;have EJ:Fl.jn p (vs'.getD mk.1.x 0) mk.2=(jv:Int):=(by unfold Fl.jn;rw[evx,o0.out.1];exact ejv);have Q0:=Fl.rise_ok HW.out.lv.lv HW.out.ok (m:=mk) ⟨G0.out,lk,o0.out.2,o0.out.1⟩ hlo hf;rw[EJ]at Q0 m0;obtain⟨xx,V0⟩:=nmE (mk.1.x);rw[<-V0]at Q0 m0 I0 q4
    have P1:Hid (∀V,Bq W V->∀a'',(∃(u1 u2 u3 u4 u5 u6 u7 u8 u9 u10 u11 u12 u13 u14 u15 u16 u17 u18 u19 u20 u21 u22 u23 u24 u25 u26 u27 u28 u29 u30 u31 u32 u33 u34 u35 u36 u37 u38 u39 u40 u41 u42 u43 u44 u45 u46 u47 u48 u49 u50:Value),a''=({tmps:=#[Pq Fb,u1,u2,u3,u4,u5,u6,u7,u8,u9,u10,u11,u12,u13,u14,u15,u16,u17,u18,u19,u20,u21,u22,u23,u24,u25,u26,u27,u28,u29,u30,u31,u32,u33,u34,u35,u36,u37,u38,u39,u40,u41,u42,u43,u44,u45,u46,u47,u48,u49,u50],defers:=[]}:Act))->∀a0,J a'' (V.setCell (Aq b' (off+xx)) (Iq jv))/\μ a'' (V.setCell (Aq b' (off+xx)) (Iq jv))<μ a0 W):=λV hV a'' ha a0=>by
     have f1:=HW.out.below hV;rw[J0]at f1;have f2:=f1.set (M0.out.below hV) I0 (v:=(jv:Int)) (by omega);rw[<-J0]at f2;refine⟨?_,?_⟩
     ·rw[HJ.out]
      obtain⟨f',rfl⟩:∃f',f=f'+1:=⟨f - 1,by have:=C0.out.1;omega⟩;refine⟨vs'.set xx jv,f',ha,f2,(M0.out.below hV).set _ _,(n1.out.trans (hV.mono p1)).setCell Z0 _,by rw[List.length_set];exact o1.out,by have:=C0.out.1;omega,?_⟩;have h5:=C0.out.2;rw[Fl.raise,m0]at h5;exact h5
     rw[C1.out];show Fl.rank p (zvx _ vv vs.length)<Fl.rank p (zvx W vv vs.length);have e1:=zo1 f2.vi;rw[List.length_set]at e1;rw[<-o1.out,zo1 HW.out.vi,e1];exact Q0.2
    have Q1:Hid (∀V,Bq W V->Cq 138 #[Pq Lb,Iq vx,Iq lk] V λr w'=>r=.returned (Iq (jv:Nat))/\w'=V):=λV hV=>by
     have h5:=zrw (HW.out.below hV).lv.la HW.out.lv.lv.n6 vx lk U0 o0.out.2;rw[ejv]at h5;exact h5
    have W0:Hid (∀V,Bq W V->V.cell? (Aq Fb 1)=some (.slice (some (Aq b' off)) vs'.length cap2)/\V.cell? (Aq Fb 0)=some (Pq Pb)/\V.cell? (Aq Pb 0)=some (Pq Lb)/\V.cell? (Aq b' (off+xx))=some (Iq vx)/\V.frozen? (Aq b' (off+xx))=false):=λV hV=>⟨by rw[<-J0];exact(HW.out.below hV).c1,(HW.out.below hV).c0,(HW.out.below hV).lv.p0,(hV.cell (p:=(Aq b' (off+xx))) q3).trans q4,(M0.out.below hV).z _⟩;have S1:(xx:Int)<(vs'.length:Int):=(by omega);rw[<-V0]at HX;rw[hlo]at i0;rw[hf]at r0;clear hlo hf H0 l0 G0 o0 m0 I0 J0 q1 q2 q4 evx U0 ejv O1 EJ Q0 V0 HD s0
    go_wp2_with fail
    rw[<-f0];refine(i0.out _ j0.out).mono ?_;rintro e W3 ⟨rfl,b0⟩;have u0:Hid (Bq wr W3):=j0.out.trans (b0.mono j0.out.size);have v0:=Zz b0;obtain⟨t0,t1⟩:=A0.out _ b0;clear b0 f0 a0 a1 i0
    go_wp2_with fail
    refine(r0.out _ u0.out).mono ?_;rintro e W4 ⟨rfl,x0⟩;have y1:Hid (Bq wr W4):=u0.out.trans (x0.mono u0.out.size);have B0:Hid (Bq W W4):=P0.out.trans (y1.out.mono z0);have z1:Hid (∀V,Bq W4 V->V.cell? (Aq wr.heap.size 0)=some (Pq sb)/\V.cell? (Aq wr.heap.size 1)=some (Iq lk)):=λV hV=>A0.out V (v0.out.trans ((x0.trans (hV.mono x0.size)).mono v0.out.size))
    have HS:Hid (∀V,Bq W4 V->V.cell? (Aq Fb 1)=some (.slice (some (Aq b' off)) vs'.length cap2)/\V.cell? (Aq Fb 0)=some (Pq Pb)/\V.cell? (Aq Pb 0)=some (Pq Lb)/\V.cell? (Aq b' (off+xx))=some (Iq vx)/\V.cell? (Aq wr.heap.size 1)=some (Iq lk)):=λV hV=>by
     obtain⟨g1,g2,g3,g4,-⟩:=W0.out V (B0.out.trans (hV.mono B0.out.size));exact⟨g1,g2,g3,g4,(z1.out V hV).2⟩
    have t4:=(z1.out _ (Below.refl _ _)).1;have x4:W4.cell? (Aq sb 2)=some (Iq xx):=HX.out _ y1.out;have fz:W4.drew.frozen? (Aq b' (off+xx))=false:=(W0.out _ B0.out.drew).2.2.2.2;have cz:W4.drew.cell? (Aq b' (off+xx))=some (Iq vx):=(W0.out _ B0.out.drew).2.2.2.1;clear x0 t0 t1 r0 A0 HX v0
    go_wp2_with fail
    refine Yz HS dA [21] [23] [] (by kernel_rfl) (λc a d v w h=>by cases d<;>exact h) (λops _=>?_)
    iterate 21 refine Zs rfl (by rintro _ ⟨_,_,_,_,_⟩;go_simp<;>rfl) (by go_simp<;>rfl) ?_
    refine Zu ?_
    go_wp2_with fail
    refine(Q1.out _ B0.out.drew).mono ?_;rintro e5 W5 ⟨rfl,rfl⟩
    go_wp2_with fail
    refine⟨HS.out _ dA,?_⟩;refine Zs rfl (by rintro _ ⟨_,_,_,_,_⟩;go_simp<;>rfl) (by go_simp<;>rfl) ?_;refine Ye ?_
    go_wp2_with fail
    refine Zl ?_
    go_wp2_with fail
    go_step3
    exact⟨rfl,P1.out _ B0.out.drew _ ⟨_,_,_,_,_,_,_,_,_,_,_,_,_,_,_,_,_,_,_,_,_,_,_,_,_,_,_,_,_,_,_,_,_,_,_,_,_,_,_,_,_,_,_,_,_,_,_,_,_,_,rfl⟩ _⟩
   have HN:Hid (∀t,(ht:t<k+1)->(ht':t<ms.length)->(Fl.ofLocal p ms[t].1 && !Fl.fitsM p vs' ms[t])=false):=H0.out (by rw[hlo,hf];rfl);rw[hlo]at i0;rw[hf]at r0;clear hlo hf H0 l0 HX G0 o0
   go_wp2_with fail
   rw[<-f0];refine(i0.out _ j0.out).mono ?_;rintro e W3 ⟨rfl,b0⟩;have u0:Hid (Bq wr W3):=j0.out.trans (b0.mono j0.out.size);obtain⟨t0,t1⟩:=A0.out _ b0;clear b0 f0 a0 a1 A0 i0
   go_wp2_with fail
   refine(r0.out _ u0.out).mono ?_;rintro e W4 ⟨rfl,x0⟩;have R1:Bq W1 W4:=q0.trans ((u0.out.trans (x0.mono u0.out.size)).mono q0.size);clear x0 t0 t1 r0;go_wp2
   go_roundw
   case rel=>exact⟨k+1,by have:=x1.out;omega,by go_num,HN.out,R1⟩
   case measure=>simp[intOf];omega
  have HR:Hid (Fl.raise p f vs'=vs'):=by
   have h5:=HD.out;rw[zkv (f:=λm=>Fl.ofLocal p m.1 && !Fl.fitsM p vs' m) (λt ht=>g0 t (by omega) ht)]at h5;obtain⟨f',rfl⟩:∃f',f=f'+1:=⟨f - 1,by have:=C0.out.1;omega⟩;show Fl.raise p (f'+1) vs'=vs';unfold Fl.raise;rw[h5]
  have HE:Hid (zo2 w base b Fb Pb Lb clv chv bv vv S p vs (.returned (.tuple #[])) wr):=by
   have X0:Bq W wr:=E0.out.trans (q0.mono E0.out.size);refine⟨rfl,?_,M0.out.below X0,n1.out.trans (X0.mono p1)⟩;rw[<-C0.out.2,HR.out];exact HW.out.below X0
  clear g0 HR
  go_wp2_with fail
  simp only[Exit.jump]
  go_end0
  exact HE.out
end
def zmy(s:List UInt8)(k:Nat)(h:k<s.length):s.drop k=s.getD k 0::s.drop (k+1):=by
 rw[List.drop_eq_getElem_cons h,Qa,Qb h];rfl
def zwx(s:List UInt8)(p i a:Nat):Prop:=i<=4/\p+i<=s.length/\a<128 ^ i/\Fl.num s p=Fl.numG p s.length i a (128 ^ i) (s.drop (p+i))
def zwx.start(s:List UInt8)(p:Nat)(h:p<=s.length):zwx s p 0 0:=⟨by omega,by omega,by simp,by simp[Fl.num]⟩
def zwx.small(h:zwx s p i a):a<268435456/\128 ^ i<=268435456:=by
 have h1:128 ^ i<=128 ^ 4:=Nat.pow_le_pow_right (by omega) h.1
 have h2:(128:Nat) ^ 4=268435456:=by decide
 have:=h.2.2.1;omega
def zwx.stop(h:zwx s p i a)(a0:¬p+i<s.length)(lo hi:Int):Fl.numB s p lo hi=(0,-1,(s.length:Int)):=by
 obtain⟨h1,h2,h3,h4⟩:=h;unfold Fl.numB;rw[h4,List.drop_of_length_le (by omega)];simp[Fl.numG]
def zwx.next(h:zwx s p i a)(a0:p+i<s.length)(hi:i<4)(hc:¬(s.getD (p+i) 0).toNat<128):zwx s p (i+1) (a+(s.getD (p+i) 0).toNat % 128*128 ^ i):=by
 obtain⟨h1,h2,h3,h4⟩:=h
 have hm:(s.getD (p+i) 0).toNat % 128<=127:=by omega
 have hp:(s.getD (p+i) 0).toNat % 128*128 ^ i<=127*128 ^ i:=Nat.mul_le_mul_right _ hm;have h5:128 ^ (i+1)=128 ^ i*128:=Nat.pow_succ ..;have h6:128 ^ (i+1)<=128 ^ 4:=Nat.pow_le_pow_right (by omega) hi
 have h7:(128:Nat) ^ 4=268435456:=by decide
 refine⟨by omega,by omega,by omega,?_⟩;rw[h4,zmy s (p+i) a0];simp only[Fl.numG];rw[if_neg (by omega),if_neg hc,show p+(i+1)=p+i+1 from by omega,h5]
def zwx.full(h:zwx s p 4 a)(a0:p+4<s.length)(hc:¬(s.getD (p+4) 0).toNat<128)(lo hi:Int):Fl.numB s p lo hi=(0,-1,(p:Int)):=by
 obtain⟨h1,h2,h3,h4⟩:=h;have hg:Fl.num s p=(0,-1,(p:Int)):=by
  rw[h4,zmy s (p+4) a0];unfold Fl.numG;exact if_pos (by omega)
 unfold Fl.numB;rw[hg];rfl
def zwx.last(h:zwx s p i a)(a0:p+i<s.length)(hc:(s.getD (p+i) 0).toNat<128)(lo hi:Int)(hlo:0<=lo)(b0:hi<2147483648):
  Fl.numB s p lo hi=if(0<(s.getD (p+i) 0).toNat\/i=0)/\lo<=((a+(s.getD (p+i) 0).toNat*128 ^ i:Nat):Int)/\((a+(s.getD (p+i) 0).toNat*128 ^ i:Nat):Int)<=hi then(((a+(s.getD (p+i) 0).toNat*128 ^ i:Nat):Int),((p+i+1:Nat):Int),0) else(0,-1,(p:Int)):=by
 obtain⟨h1,h2,h3,h4⟩:=h;generalize hx:(s.getD (p+i) 0).toNat=x at*;have hm:x % 128=x:=Nat.mod_eq_of_lt hc;generalize hv:a+x*128 ^ i=v at*;have hg:Fl.num s p=if(x=0/\0<i)\/2147483648<=v then(0,-1,(p:Int)) else((v:Int),((p+i+1:Nat):Int),0):=by
  rw[h4,zmy s (p+i) a0];simp only[Fl.numG,hx,hm,hv]
  by_cases hq:(x=0/\0<i)\/2147483648<=v
  ·rw[if_pos (by omega),if_pos hq]
  rw[if_neg (by omega),if_neg hq,if_pos hc]
 unfold Fl.numB;rw[hg]
 by_cases hq:(x=0/\0<i)\/2147483648<=v
 ·rw[if_pos hq,if_pos (by simp),if_neg (by omega)]
 rw[if_neg hq];rw[if_neg (show ¬(((p+i+1:Nat):Int)<0) by omega)]
 by_cases hr:(v:Int)<lo\/hi<(v:Int)
 ·rw[if_pos hr,if_neg (by omega)]
 rw[if_neg hr,if_pos (by omega)]
def zrv{a b:ByteArray}(h:a=b):Ending.returned (.string a)=.returned (.string b):=by rw[h]
def bcell{W:World}(hb:Bq W w1):(∀b o,b<W.heap.size->w1.cell? (Aq b o)=W.cell? (Aq b o))/\(∀b o,b<W.heap.size->w1.frozen? (Aq b o)=W.frozen? (Aq b o)):=
 ⟨λb o h=>hb.cell (p:=(Aq b o)) h,λb o h=>hb.frozen (p:=(Aq b o)) h⟩
def Vf(x y:List UInt8):(⟨x.toArray⟩:ByteArray)++⟨y.toArray⟩=⟨(x++y).toArray⟩:=ByteArray.mk_append_mk x y
def zn7:Fl.inR x=true ↔ 0<=x/\x<2147483648:=by simp[Fl.inR]
def zo3{i:Int}(h:Fl.okV F i x=true):0<=x/\x<2147483648:=by
 unfold Fl.okV at h;rw[Bool.and_eq_true]at h;exact zn7.1 h.1
def zm2{k:Int}(h:Fl.fields k≠ -2):0<=k/\k<=7:=by
 unfold Fl.fields at h;repeat' split at h<;>omega
def yvz{k:Int}(h:Fl.fields k<0)(h2:Fl.fields k≠ -2):Fl.fields k= -1:=by have:=Fl.fields_lt k;omega
def zt4{e:TypeId}{x:Value}:∀j u,[x][j]?=some u->(w.alloc (.cells #[x] e)).cell? (((Aq w.heap.size 0):Addr).add j)=some u:=by
 intro j u hj
 match j,hj with
 |0,hj=>simp at hj;subst hj;simp[Addr.add]
def zn8(s:List UInt8)(p n k q:Nat)(xs:List Int):Prop:=k<=n/\q<=s.length/\xs.length=k/\Fl.nums s p n=Fl.numsA s (n - k) q xs
def zn8.bad(h:zn8 s p n k q xs)(hk:k<n){v b:Int}(hn:Fl.num s q=(v,m,b))(hm:m<0):Fl.nums s p n=([],-1,b):=by
 obtain⟨h1,h2,h3,h4⟩:=h;rw[h4,show n - k=(n - k - 1)+1 from by omega];simp only[Fl.numsA,hn,if_pos hm]
def zn8.step(h:zn8 s p n k q xs)(hk:k<n){v b:Int}(hn:Fl.num s q=(v,m,b))(hm:¬m<0):zn8 s p n (k+1) m.toNat (xs++[v]):=by
 obtain⟨h1,h2,h3,h4⟩:=h;have a0:=Fl.num_ok s q h2;rw[hn]at a0;refine⟨by omega,by simp only at a0;omega,by simp[h3],?_⟩;rw[h4,show n - k=(n - (k+1))+1 from by omega];simp only[Fl.numsA,hn,if_neg hm]
def Zb:Array Value:=#[
 .string ⟨#[110,117,109]⟩,Iq 1,.bool false,.func (.func 152) #[] #[],.string ⟨#[118,97,114]⟩,Iq 1,.bool false,.func (.func 152) #[] #[],.string ⟨#[111,112]⟩,Iq 3,.bool false,.func (.func 154) #[] #[],.string ⟨#[115,101,116]⟩,Iq 2,.bool false,.func (.func 153) #[] #[],.string ⟨#[111,117,116]⟩,Iq 2,.bool false,.func (.func 153) #[] #[],.string ⟨#[105,102]⟩,Iq 3,.bool false,.func (.func 155) #[] #[],.string ⟨#[119,104,105,108,101]⟩,Iq 2,.bool false,.func (.func 156) #[] #[],.string ⟨#[98,108,111,99,107]⟩,Iq 0,.bool true,.func (.func 157) #[] #[]]
def Tryz.infoRules:(Tryz.prog.info? 210).map (·.size)=some Zb.size:=by kernel_rfl
def zq0:Zb.all (·.oneCell')=true:=by kernel_rfl
def ztx:(32:Nat)=Zb.size:=by kernel_rfl
def zo4(w:World):Cq 107 #[] w λe w'=>e=.returned (.agg Zb)/\w'=w.alloc (.cells Zb 210):=by
 go_enter func107,ntmps107
 go_wp2_with (first|(refine Um rfl 210 _ rfl Zb (by kernel_rfl) ?_)|(refine Js rfl _ _ 210 rfl _ _ Zb rfl rfl Tryz.infoRules ztx zq0 ?_))
 refine bodyPost_ret (v:=.agg Zb) ?_ rfl ⟨rfl,rfl⟩;exact zp1 (p:=0) (ty:=210) results107 _ _ (Aq w.heap.size 0) _ rfl (run_loadVar_new w 210 Zb 8 209 underlying210 Tryz.infoRules)
def yvy(rb ro nb n:Nat)(w:World)(hn:n<=3)(a0:rb<w.heap.size)(h:w.cell? (Aq rb (ro+1))=some (Iq n)):Cq 148 #[.pointer (some (Aq rb ro)),Pq nb] w λe w'=>e=.returned (.slice (some (Aq w.heap.size 0)) n 3)/\w'=(w.alloc (.cells #[.pointer (some (Aq nb 2)),.pointer (some (Aq nb 3)),.pointer (some (Aq nb 4))] 279)).drew:=by
 have h2:∀o,(w.alloc o).cell? (Aq rb (ro+1))=some (Iq n):=λo=>by rw[World.cell?_alloc_past _ _ _ a0];exact h
 go_enter func148,ntmps148
 go_wp2_with fail
 go_region
 go_wp2;go_ret;exact⟨rfl,rfl⟩
def zo5(n:Fl.Node)(lv:Value)(B:Nat)(w:World)(hB:B<=w.heap.size)(hl:Zw B w lv n.list):
  Cq 64 #[Ju n lv] w λe w'=>∃v,e=.returned v/\Zw w'.heap.size w' v (prem n)/\Bq w w':=by
 unfold Ju;obtain⟨ao,cap,rfl,hc,hm,hx⟩:=hl;have HL:Hid (Zw B w (.slice ao n.list.length cap) n.list):=⟨ao,cap,rfl,hc,hm,hx⟩;clear hx;obtain⟨k,l,a,b,c,ls⟩:=n;simp only at HL⊢
 by_cases k2:k=2
 ·subst k2
  go_enter func64,ntmps64
  go_wp2;go_ret;exact⟨_,rfl,Zw.fresh2 _ _ (prem ⟨2,l,a,b,c,ls⟩) _ _ _ rfl rfl (by simp[prem,maxLen]),(bA).alloc (by simp) _⟩
 by_cases k3:k=3
 ·subst k3
  go_enter func64,ntmps64
  go_wp2;go_ret;exact⟨_,rfl,Zw.fresh2 _ _ (prem ⟨3,l,a,b,c,ls⟩) _ _ _ rfl rfl (by simp[prem,maxLen]),(bA).alloc (by simp) _⟩
 by_cases k4:k=4
 ·subst k4
  go_enter func64,ntmps64
  go_wp2;go_ret;exact⟨_,rfl,Zw.fresh2 _ _ (prem ⟨4,l,a,b,c,ls⟩) _ _ _ rfl rfl (by simp[prem,maxLen]),(bA).alloc (by simp) _⟩
 by_cases k5:k=5
 ·subst k5
  go_enter func64,ntmps64
  go_wp2;go_ret;exact⟨_,rfl,Zw.fresh2 _ _ (prem ⟨5,l,a,b,c,ls⟩) _ _ _ rfl rfl (by simp[prem,maxLen]),(bA).alloc (by simp) _⟩
 by_cases k6:k=6
 ·subst k6
  go_enter func64,ntmps64
  go_wp2;go_ret;exact⟨_,rfl,Zw.fresh2 _ _ (prem ⟨6,l,a,b,c,ls⟩) _ _ _ rfl rfl (by simp[prem,maxLen]),(bA).alloc (by simp) _⟩
 by_cases k7:k=7
 ·subst k7
  go_enter func64,ntmps64
  go_wp2;go_ret;exact⟨_,rfl,(HL.out.mono hB).below (bA)|>.mono (by simp),bA⟩
 have b2:(k==2)=false:=beq_eq_false_iff_ne.2 k2;have b3:(k==3)=false:=beq_eq_false_iff_ne.2 k3;have b4:(k==4)=false:=beq_eq_false_iff_ne.2 k4;have b5:(k==5)=false:=beq_eq_false_iff_ne.2 k5;have b6:(k==6)=false:=beq_eq_false_iff_ne.2 k6;have b7:(k==7)=false:=beq_eq_false_iff_ne.2 k7
 have hp:prem ⟨k,l,a,b,c,ls⟩=[]:=by simp[prem,k2,k3,k4,k5,k6,k7]
 have HP:=Zz hp;clear hp k2 k3 k4 k5 k6 k7
 go_enter func64,ntmps64
 go_wp2;go_ret;exact⟨_,rfl,by rw[HP.out];exact Zw.nil _ _,bA⟩
def eq_not{x y:Fl.Node}(h:¬x=y):Fl.eqNode x y=false:=by
 rw[Bool.eq_false_iff];intro hh;exact h ((Fl.eqNode_iff x y).1 hh)
def Below.drewN_of(h:Below B w w')(m:Nat):Below B w (w'.drewN m):=by
 induction m with
 |zero=>exact h
 |succ m ih=>exact ih.drew
def yvx(k l a b c k' l' a' b' c':Int)(n n':Nat)(ao ao':Option Addr)(cap cap':Nat)(w:World)(h:¬(k=k'/\l=l'/\a=a'/\b=b'/\c=c'/\n=n')):
  Cq 65 #[.agg #[Iq k,Iq l,Iq a,Iq b,Iq c,.slice ao n cap],.agg #[Iq k',Iq l',Iq a',Iq b',Iq c',.slice ao' n' cap']] w
   λe w'=>e=.returned (.bool false)/\Bq w w':=by
 by_cases h1:k=k'
 ·have e1:(k !=k')=false:=by simp[h1]
  by_cases h2:l=l'
  ·have e2:(l !=l')=false:=by simp[h2]
   by_cases h3:a=a'
   ·have e3:(a !=a')=false:=by simp[h3]
    by_cases h4:b=b'
    ·have e4:(b !=b')=false:=by simp[h4]
     by_cases h5:c=c'
     ·have e5:(c !=c')=false:=by simp[h5]
      have e6:((n:Int) !=(n':Int))=true:=(by rw[bne_iff_ne];intro hh;exact h ⟨h1,h2,h3,h4,h5,by omega⟩);clear h h1 h2 h3 h4 h5
      go_enter func65,ntmps65
      go_wp2;go_ret;exact⟨rfl,(bA).alloc (by simp) _⟩
     have e5:(c !=c')=true:=(by rw[bne_iff_ne];exact h5);clear h h1 h2 h3 h4 h5
     go_enter func65,ntmps65
     go_wp2;go_ret;exact⟨rfl,(bA).alloc (by simp) _⟩
    have e4:(b !=b')=true:=(by rw[bne_iff_ne];exact h4);clear h h1 h2 h3 h4
    go_enter func65,ntmps65
    go_wp2;go_ret;exact⟨rfl,(bA).alloc (by simp) _⟩
   have e3:(a !=a')=true:=(by rw[bne_iff_ne];exact h3);clear h h1 h2 h3
   go_enter func65,ntmps65
   go_wp2;go_ret;exact⟨rfl,(bA).alloc (by simp) _⟩
  have e2:(l !=l')=true:=(by rw[bne_iff_ne];exact h2);clear h h1 h2
  go_enter func65,ntmps65
  go_wp2;go_ret;exact⟨rfl,(bA).alloc (by simp) _⟩
 have e1:(k !=k')=true:=by rw[bne_iff_ne];exact h1
 clear h h1
 go_enter func65,ntmps65
 go_wp2;go_ret;exact⟨rfl,(bA).alloc (by simp) _⟩
def yvw(k l a b c:Int)(xs ys:List Int)(n:Nat)(hx:xs.length=n)(hy:ys.length=n)(hm:n<=9223372036854775807)(ao ao':Option Addr)(cap cap':Nat)(w:World)
  (c0:∀o o',xs≠[]->∃p q,ao=some (Aq p q)/\∀i,i<n->((w.alloc o).alloc o').cell? (Aq p (q+i))=some (Iq (xs.getD i 0)))
  (d0:∀o o',ys≠[]->∃p q,ao'=some (Aq p q)/\∀i,i<n->((w.alloc o).alloc o').cell? (Aq p (q+i))=some (Iq (ys.getD i 0))):
  Cq 65 #[.agg #[Iq k,Iq l,Iq a,Iq b,Iq c,.slice ao n cap],.agg #[Iq k,Iq l,Iq a,Iq b,Iq c,.slice ao' n cap']] w
   λe w'=>e=.returned (.bool (xs==ys))/\Bq w w':=by
 have HX:=Zz c0;have HY:=Zz d0;have e0:=Zz hx;have f0:=Zz hy;clear c0 d0 hx hy
 go_enter func65,ntmps65
 go_wp2
 go_loopw [5] (λi wr=>∃(j:Nat),j<=n/\i=Iq j/\(∃m,wr=((w.alloc (.cells #[Iq k,Iq l,Iq a,Iq b,Iq c,.slice ao n cap] 92)).alloc (.cells #[Iq k,Iq l,Iq a,Iq b,Iq c,.slice ao' n cap'] 92)).drewN m)/\∀i,i<j->xs.getD i 0=ys.getD i 0) (λi _=>n - (intOf i).toNat)
 case atStart=>exact⟨0,by omega,rfl,⟨0,rfl⟩,λi hi=>by omega⟩
 case round=>
  obtain⟨j,hj,rfl,⟨m,rfl⟩,a0⟩:=hrel;have HS:=Zz a0;clear a0
  by_cases g0:j<n
  ·obtain⟨p,q,rfl,hc⟩:=HX.out (.cells #[Iq k,Iq l,Iq a,Iq b,Iq c,.slice ao n cap] 92) (.cells #[Iq k,Iq l,Iq a,Iq b,Iq c,.slice ao' n cap'] 92) (by intro h;have:=e0.out;rw[h]at this;simp at this;omega)
   obtain⟨p',q',rfl,hc'⟩:=HY.out (.cells #[Iq k,Iq l,Iq a,Iq b,Iq c,.slice (some (Aq p q)) n cap] 92) (.cells #[Iq k,Iq l,Iq a,Iq b,Iq c,.slice ao' n cap'] 92) (by intro h;have:=f0.out;rw[h]at this;simp at this;omega);have j0:=hc j g0;have hcj':=hc' j g0;obtain⟨x,hx⟩:=nmE (xs.getD j 0);obtain⟨y,hy⟩:=nmE (ys.getD j 0);rw[<-hx]at j0;rw[<-hy]at hcj';have h0:=Zz hx;have i0:=Zz hy;have l0:(j:Int)<(n:Int):=(by omega);clear hc hc' hx hy HX HY
   go_wp2_with fail
   go_quiet (fail)
   go_wp2
   ·have b0:(x !=y)=true:=by assumption
    go_ret;refine⟨Zm ?_,by repeat (first|exact(bA).alloc (by simp) _|apply Below.drewN_of)⟩;rw[eq_comm,Qh];intro hh;rw[bne_iff_ne]at b0;apply b0;rw[h0.out,i0.out,hh]
   have b0:(x !=y)=false:=(by assumption)
   go_roundw
   case rel=>exact⟨j+1,by omega,by go_num,⟨_,rfl⟩,λi hi=>by
    by_cases k0:i<j
    ·exact HS.out i k0
    have:i=j:=by omega
    subst this;rw[<-h0.out,<-i0.out];simpa using b0⟩
   case measure=>simp[intOf];omega
  have hall:xs=ys:=by
   have h1:=e0.out;have h2:=f0.out;have h3:=HS.out;apply List.ext_getElem (by omega)
   intro i hi hi';have:=h3 i (by omega);simpa [Qa,hi,hi'] using this
  have HE:=Zz hall;clear hall;go_wp2;go_ret;exact⟨Zm (by rw[HE.out];simp),Below.drewN_of ((bA).alloc (by simp) _) _⟩
def zg9(x y:Fl.Node)(lv lv':Value)(B:Nat)(w:World)(hB:B<=w.heap.size)(hx:Zw B w lv x.list)(hy:Zw B w lv' y.list):
  Cq 65 #[Ju x lv,Ju y lv'] w λe w'=>e=.returned (.bool (Fl.eqNode x y))/\Bq w w':=by
 obtain⟨k,l,a,b,c,xs⟩:=x;obtain⟨k',l',a',b',c',ys⟩:=y;unfold Ju;simp only at hx hy⊢
 by_cases h:k=k'/\l=l'/\a=a'/\b=b'/\c=c'/\xs.length=ys.length
 ·obtain⟨rfl,rfl,rfl,rfl,rfl,hlen⟩:=h
  have he:Fl.eqNode ⟨k,l,a,b,c,xs⟩ ⟨k,l,a,b,c,ys⟩=(xs==ys):=(by simp[Fl.eqNode]);rw[he];have c0:∀o o',Below B w ((w.alloc o).alloc o'):=λo o'=>((Below.refl _ _).alloc hB _).alloc (by simp;omega) _;obtain⟨ao,cap,rfl,_,hm,_⟩:=id hx;obtain⟨ao',cap',rfl,_,hm',_⟩:=id hy;rw[<-hlen];refine yvw k l a b c xs ys xs.length rfl hlen.symm (by unfold maxLen at hm;omega) ao ao' cap cap' w ?_ ?_
  ·intro o o' b0
   obtain⟨ao2,cap2,hv,_,_,hc⟩:=hx.below (c0 o o');obtain⟨p,q,ha,_,a0⟩:=hc b0;simp only[Value.slice.injEq]at hv;exact⟨p,q,hv.1.trans ha,a0⟩
  intro o o' b0;obtain⟨ao2,cap2,hv,_,_,hc⟩:=hy.below (c0 o o');obtain⟨p,q,ha,_,a0⟩:=hc b0;simp only[Value.slice.injEq]at hv;exact⟨p,q,hv.1.trans ha,λi hi=>a0 i (by omega)⟩
 obtain⟨ao,cap,rfl,_⟩:=hx;obtain⟨ao',cap',rfl,_⟩:=hy;rw[eq_not (by intro hh;simp only[Fl.Node.mk.injEq]at hh;obtain⟨a1,a2,a3,a4,a5,a6⟩:=hh;exact h ⟨a1,a2,a3,a4,a5,by rw[a6]⟩)];exact yvx k l a b c k' l' a' b' c' _ _ ao ao' cap cap' w h
def yzv(k l a b c F:Int)(n:Nat)(ao:Option Addr)(cap:Nat)(w:World)(hn:n<=9223372036854775807)
  (H:Hid (∀w,Cq 66 #[Iq k] w λe w'=>e=.returned (Iq F)/\w'=w)) (h:F= -2\/l<0\/2147483648<=l\/16<n):
  Cq 63 #[.agg #[Iq k,Iq l,Iq a,Iq b,Iq c,.slice ao n cap]] w λe w'=>e=.returned (.bool false)/\Bq w w':=by
 by_cases h0:F= -2
 ·have b0:(F== -2)=true:=by simp[h0]
  clear h0 h
  go_enter func63,ntmps63
  go_wp2_with (go_at_call 66;refine(H.out _).mono ?_;rintro e w' ⟨rfl,rfl⟩)
  go_ret;exact⟨rfl,bA⟩
 have b0:(F== -2)=false:=by simp[h0]
 by_cases h1:l<0
 ·clear h0 h
  go_enter func63,ntmps63
  go_wp2_with (go_at_call 66;refine(H.out _).mono ?_;rintro e w' ⟨rfl,rfl⟩)
  go_ret;exact⟨rfl,bA⟩
 by_cases h2:2147483648<=l
 ·clear h0 h
  go_enter func63,ntmps63
  go_wp2_with (go_at_call 66;refine(H.out _).mono ?_;rintro e w' ⟨rfl,rfl⟩)
  go_ret;exact⟨rfl,bA⟩
 have h3:(16:Int)<(n:Int):=by omega
 clear h0 h
 go_enter func63,ntmps63
 go_wp2_with (go_at_call 66;refine(H.out _).mono ?_;rintro e w' ⟨rfl,rfl⟩)
 go_ret;exact⟨rfl,bA⟩
def zmx{i:Int}(hF:F<=i)(h:(x<0\/2147483648<=x)\/(x !=0)=true):Fl.okV F i x=false:=by
 unfold Fl.okV Fl.inR;rcases h with(h|h)|h
 ·rw[decide_eq_false (by omega:¬0<=x)];simp
 ·rw[decide_eq_false (by omega:¬x<2147483648)];simp
 rw[decide_eq_false (by omega:¬i<F)];rw[bne_iff_ne]at h;simp[h]
def zmw{i:Int}(h:2147483648<=x):Fl.okV F i x=false:=by
 unfold Fl.okV Fl.inR;rw[decide_eq_false (by omega:¬x<2147483648)];simp
def zmv{i:Int}(h:x<0):Fl.okV F i x=false:=by
 unfold Fl.okV Fl.inR;rw[decide_eq_false (by omega:¬0<=x)];simp
def zj1{i:Int}(h0:0<=x)(h1:x<2147483648)(h:i<F\/(x !=0)=false):Fl.okV F i x=true:=by
 unfold Fl.okV Fl.inR;rw[decide_eq_true h0,decide_eq_true h1];rcases h with h|h
 ·simp[h]
 have:x=0:=by simpa using h
 simp[this]
def ziw{i:Int}(h0:0<=x)(h1:x<2147483648)(h:¬F<=i):Fl.okV F i x=true:=zj1 h0 h1 (Or.inl (by omega))
def ziv(h:x<0\/2147483648<=x):Fl.inR x=false:=by
 unfold Fl.inR;rcases h with h|h
 ·rw[decide_eq_false (by omega:¬0<=x)];simp
 rw[decide_eq_false (by omega:¬x<2147483648)];simp
def zc3(h:0<=x/\x<2147483648):Fl.inR x=true:=by
 unfold Fl.inR;rw[decide_eq_true h.1,decide_eq_true h.2];rfl
def Ur(h:j<xs.length):xs.getD j 0∈xs:=by
 rw[Qa,Qb h];exact List.getElem_mem h
def zh0{p:Int->Bool}(h:j<xs.length)(hp:p (xs.getD j 0)=false):xs.all p=false:=by
 rw[Bool.eq_false_iff];intro hh;rw[List.all_eq_true.1 hh _ (Ur h)]at hp;exact absurd hp (by simp)
def zc4{p:Int->Bool}(h:∀t,t<xs.length->p (xs.getD t 0)=true):xs.all p=true:=by
 rw[List.all_eq_true];intro x hx;obtain⟨i,hi,rfl⟩:=List.getElem_of_mem hx;have:=h i hi;rwa [Qa,Qb hi]at this
def abc(a b c:Int)(j:Nat):Int:=if j=0 then a else if j=1 then b else c
def yvv(k l a b c F:Int)(xs:List Int)(n:Nat)(ao:Option Addr)(cap:Nat)(w:World)(hx:xs.length=n)(hF: -2<F)(j0:F<=3)(k0:¬l<0)(l0:¬2147483648<=l)(hn:n<=16)
  (H:Hid (∀w,Cq 66 #[Iq k] w λe w'=>e=.returned (Iq F)/\w'=w))
  (d0:∀o o',xs≠[]->∃p q,ao=some (Aq p q)/\∀i,i<n->((w.alloc o).alloc o').cell? (Aq p (q+i))=some (Iq (xs.getD i 0))):
  Cq 63 #[.agg #[Iq k,Iq l,Iq a,Iq b,Iq c,.slice ao n cap]] w
   λe w'=>e=.returned (.bool (Fl.okV F 0 a && (Fl.okV F 1 b && (Fl.okV F 2 c && (xs.all Fl.inR && (decide (F= -1)||decide (xs=[])))))))/\Bq w w':=by
 have HX:=Zz d0;have a0:=Zz hx;clear d0 hx;have b0:(F== -2)=false:=beq_eq_false_iff_ne.2 (by omega)
 have g0:¬(16:Int)<(n:Int):=by omega
 go_enter func63,ntmps63
 go_wp2_with (go_at_call 66;refine(H.out _).mono ?_;rintro e w' ⟨rfl,rfl⟩)
 go_loop [5] (λi=>∃j:Nat,j<=3/\i=Iq j/\∀t:Nat,t<j->Fl.okV F t (abc a b c t)=true) (λi=>3 - (intOf i).toNat)
 case atStart=>exact⟨0,by omega,rfl,λt ht=>by omega⟩
 case round=>
  obtain⟨j,hj,rfl,hall⟩:=hrel;have HA:=Zz hall;clear hall;rcases(show j=0\/j=1\/j=2\/j=3 from by omega) with rfl|rfl|rfl|rfl
  ·go_wp2
   ·have hb:Fl.okV F 0 a=false:=zmx (by assumption) (by assumption)
    go_ret;exact⟨Zm (by rw[hb];simp),(bA).alloc (by simp) _⟩
   ·have hb:Fl.okV F 0 a=true:=zj1 (by assumption) (by assumption) (Or.inr (And.right (a:=0<=a/\a<2147483648) (by assumption)))
    go_round
    case rel=>exact⟨1,by omega,rfl,λt ht=>by
     by_cases h:t<0
     ·exact HA.out t h
     have:t=0:=by omega
     subst this;simpa [abc] using hb⟩
    case measure=>simp[intOf]
   ·have hb:Fl.okV F 0 a=true:=ziw (by assumption) (by assumption) (by assumption)
    go_round
    case rel=>exact⟨1,by omega,rfl,λt ht=>by
     by_cases h:t<0
     ·exact HA.out t h
     have:t=0:=by omega
     subst this;simpa [abc] using hb⟩
    case measure=>simp[intOf]
   ·have hb:Fl.okV F 0 a=false:=zmw (by assumption)
    go_ret;exact⟨Zm (by rw[hb];simp),(bA).alloc (by simp) _⟩
   have hb:Fl.okV F 0 a=false:=zmv (by assumption);go_ret;exact⟨Zm (by rw[hb];simp),(bA).alloc (by simp) _⟩
  ·go_wp2
   ·have hb:Fl.okV F 1 b=false:=zmx (by assumption) (by assumption)
    go_ret;exact⟨Zm (by rw[hb];simp),(bA).alloc (by simp) _⟩
   ·have hb:Fl.okV F 1 b=true:=zj1 (by assumption) (by assumption) (Or.inr (And.right (a:=0<=b/\b<2147483648) (by assumption)))
    go_round
    case rel=>exact⟨2,by omega,rfl,λt ht=>by
     by_cases h:t<1
     ·exact HA.out t h
     have:t=1:=by omega
     subst this;simpa [abc] using hb⟩
    case measure=>simp[intOf]
   ·have hb:Fl.okV F 1 b=true:=ziw (by assumption) (by assumption) (by assumption)
    go_round
    case rel=>exact⟨2,by omega,rfl,λt ht=>by
     by_cases h:t<1
     ·exact HA.out t h
     have:t=1:=by omega
     subst this;simpa [abc] using hb⟩
    case measure=>simp[intOf]
   ·have hb:Fl.okV F 1 b=false:=zmw (by assumption)
    go_ret;exact⟨Zm (by rw[hb];simp),(bA).alloc (by simp) _⟩
   have hb:Fl.okV F 1 b=false:=zmv (by assumption);go_ret;exact⟨Zm (by rw[hb];simp),(bA).alloc (by simp) _⟩
  ·go_wp2
   ·have hb:Fl.okV F 2 c=false:=zmx (by assumption) (by assumption)
    go_ret;exact⟨Zm (by rw[hb];simp),(bA).alloc (by simp) _⟩
   ·have hb:Fl.okV F 2 c=true:=zj1 (by assumption) (by assumption) (Or.inr (And.right (a:=0<=c/\c<2147483648) (by assumption)))
    go_round
    case rel=>exact⟨3,by omega,rfl,λt ht=>by
     by_cases h:t<2
     ·exact HA.out t h
     have:t=2:=by omega
     subst this;simpa [abc] using hb⟩
    case measure=>simp[intOf]
   ·have hb:Fl.okV F 2 c=true:=ziw (by assumption) (by assumption) (by assumption)
    go_round
    case rel=>exact⟨3,by omega,rfl,λt ht=>by
     by_cases h:t<2
     ·exact HA.out t h
     have:t=2:=by omega
     subst this;simpa [abc] using hb⟩
    case measure=>simp[intOf]
   ·have hb:Fl.okV F 2 c=false:=zmw (by assumption)
    go_ret;exact⟨Zm (by rw[hb];simp),(bA).alloc (by simp) _⟩
   have hb:Fl.okV F 2 c=false:=zmv (by assumption);go_ret;exact⟨Zm (by rw[hb];simp),(bA).alloc (by simp) _⟩
  have q0:Fl.okV F 0 a=true:=HA.out 0 (by omega);have q1:Fl.okV F 1 b=true:=HA.out 1 (by omega);have q2:Fl.okV F 2 c=true:=HA.out 2 (by omega);have HQ:Hid ((Fl.okV F 0 a && (Fl.okV F 1 b && (Fl.okV F 2 c && (xs.all Fl.inR && (decide (F= -1)||decide (xs=[]))))))=(xs.all Fl.inR && (decide (F= -1)||decide (xs=[])))):=(by rw[q0,q1,q2];simp[Hid]);clear q0 q1 q2;go_wp2
  go_loop [6] (λi=>∃j:Nat,j<=n/\i=Iq j/\∀t:Nat,t<j->Fl.inR (xs.getD t 0)=true) (λi=>n - (intOf i).toNat)
  case atStart=>exact⟨0,by omega,rfl,λt ht=>by omega⟩
  case round=>
   obtain⟨j,hj,rfl,hall⟩:=hrel;have HB:=Zz hall;clear hall
   by_cases h0:j<n
   ·obtain⟨p,q,rfl,hc⟩:=HX.out (.cells #[Iq k,Iq l,Iq a,Iq b,Iq c,.slice ao n cap] 92) (.cells #[Iq a,Iq b,Iq c] 3) (by intro h;have:=a0.out;rw[h]at this;simp at this;omega)
    have i0:=hc j h0;obtain⟨x,hx⟩:=nmE (xs.getD j 0);rw[<-hx]at i0;have c0:=Zz hx;have m0:(j:Int)<(n:Int):=(by omega);clear hc hx HX;go_wp2
    ·have hb:xs.all Fl.inR=false:=zh0 (j:=j) (by have:=a0.out;omega) (by rw[<-c0.out];exact ziv (by assumption))
     go_ret;exact⟨Zm (by rw[HQ.out,hb];simp),(bA).alloc (by simp) _⟩
    ·have hb:Fl.inR x=true:=zc3 (by assumption)
     go_round
     case rel=>exact⟨j+1,by omega,by go_num,λt ht=>by
      by_cases h:t<j
      ·exact HB.out t h
      have:t=j:=by omega
      subst this;rw[<-c0.out];exact hb⟩
     case measure=>simp[intOf];omega
    have hb:xs.all Fl.inR=false:=zh0 (j:=j) (by have:=a0.out;omega) (by rw[<-c0.out];exact ziv (Or.inl (by assumption)));go_ret;exact⟨Zm (by rw[HQ.out,hb];simp),(bA).alloc (by simp) _⟩
   have hb:xs.all Fl.inR=true:=zc4 (λt ht=>HB.out t (by have:=a0.out;omega));have e0:=Zz hb;clear hb;go_wp2
   ·have f0:F= -1:=by assumption
    go_ret;have q0:Fl.okV F 0 a=true:=HA.out 0 (by omega);have q1:Fl.okV F 1 b=true:=HA.out 1 (by omega);have q2:Fl.okV F 2 c=true:=HA.out 2 (by omega);rw[f0]at q0 q1 q2;exact⟨Zm (by rw[q0,q1,q2,e0.out];rfl),(bA).alloc (by simp) _⟩
   have f0:¬F= -1:=(by assumption);go_ret;refine⟨Zm ?_,(bA).alloc (by simp) _⟩;have q0:Fl.okV F 0 a=true:=HA.out 0 (by omega);have q1:Fl.okV F 1 b=true:=HA.out 1 (by omega);have q2:Fl.okV F 2 c=true:=HA.out 2 (by omega);rw[q0,q1,q2,e0.out,Bool.true_and,Bool.true_and,Bool.true_and,Bool.true_and,Bool.eq_iff_iff];have:=a0.out;simp only[Bool.or_eq_true,beq_iff_eq,decide_eq_true_eq];rw[<-List.length_eq_zero_iff];omega
def yq4(x:Fl.Node)(lv:Value)(B:Nat)(w:World)(hB:B<=w.heap.size)(hx:Zw B w lv x.list):
  Cq 63 #[Ju x lv] w λe w'=>e=.returned (.bool (Fl.sound x))/\Bq w w':=by
 obtain⟨k,l,a,b,c,xs⟩:=x;unfold Ju;simp only at hx⊢;obtain⟨ao,cap,rfl,_,hm,_⟩:=id hx;unfold maxLen at hm;have H:Hid (∀w,Cq 66 #[Iq k] w λe w'=>e=.returned (Iq (Fl.fields k))/\w'=w):=λw=>zry k w;have hf:=Fl.fields_lt k
 by_cases h:Fl.fields k= -2\/l<0\/2147483648<=l\/16<xs.length
 ·have he:Fl.sound ⟨k,l,a,b,c,xs⟩=false:=by
   unfold Fl.sound Fl.inR;rcases h with h|h|h|h
   ·simp[h]
   ·simp only[decide_eq_false (by omega:¬0<=l)];simp
   ·simp only[decide_eq_false (by omega:¬l<2147483648)];simp
   simp only[decide_eq_false (by omega:¬xs.length<=16)];simp
  rw[he];exact yzv k l a b c _ _ ao cap w (by omega) H h
 have h1:Fl.fields k≠ -2:=by omega
 have h2:0<=l:=by omega
 have h3:l<2147483648:=by omega
 have h4:xs.length<=16:=by omega
 have he:Fl.sound ⟨k,l,a,b,c,xs⟩=(Fl.okV (Fl.fields k) 0 a && (Fl.okV (Fl.fields k) 1 b && (Fl.okV (Fl.fields k) 2 c && (xs.all Fl.inR && (decide (Fl.fields k= -1)||decide (xs=[])))))):=by
  unfold Fl.sound;simp only[decide_eq_true h1,zc3 ⟨h2,h3⟩,decide_eq_true h4,Bool.true_and]
 rw[he];have b0:∀o o',Below B w ((w.alloc o).alloc o'):=λo o'=>((Below.refl _ _).alloc hB _).alloc (by simp;omega) _;refine yvv k l a b c _ xs xs.length ao cap w rfl (by omega) hf.2 (by omega) (by omega) h4 H ?_;intro o o' c0;obtain⟨ao2,cap2,hv,_,_,hc⟩:=hx.below (b0 o o');obtain⟨p,q,ha,_,a0⟩:=hc c0;simp only[Value.slice.injEq]at hv;exact⟨p,q,hv.1.trans ha,a0⟩
structure Vm(w:World)(nb no:Nat)(nd:Fl.Node)(lv:Value):Prop where
 c0:w.cell? (Aq nb no)=some (Iq nd.kind)
 c1:w.cell? (Aq nb (no+1))=some (Iq nd.level)
 c2:w.cell? (Aq nb (no+2))=some (Iq nd.a)
 c3:w.cell? (Aq nb (no+3))=some (Iq nd.b)
 c4:w.cell? (Aq nb (no+4))=some (Iq nd.c)
 c5:w.cell? (Aq nb (no+5))=some lv
 hl:Zw w.heap.size w lv nd.list
def Vm.below{w w':World}{nb no:Nat}{nd:Fl.Node}{lv:Value}(h:Vm w nb no nd lv)(hb:Bq w w'):Vm w' nb no nd lv:=by
 have hn:nb<w.heap.size:=Qe w _ h.c0;have q:∀o,w'.cell? (Aq nb o)=w.cell? (Aq nb o):=λo=>hb.cell (p:=(Aq nb o)) hn;exact⟨(q _).trans h.c0,(q _).trans h.c1,(q _).trans h.c2,(q _).trans h.c3,(q _).trans h.c4,(q _).trans h.c5,(h.hl.below hb).mono hb.size⟩
def byF(k:Int):FuncId:=
 if k=2 then 154 else if k=3 then 153 else if k=4 then 153 else if k=5 then 155 else if k=6 then 156 else if k=7 then 157 else 152
def Vl(ps:List Int)(w:World)(e:Ending)(w':World):Prop:=∃pv,e=.returned pv/\Zw w'.heap.size w' pv ps/\Bq w w'
def by1(v:Value)(w:World):Cq 152 #[v] w (Vl [] w):=by
 go_enter func152,ntmps152
 go_wp2;go_ret;exact⟨_,rfl,Zw.nil _ _,Below.refl _ _⟩
def Vl.fresh(w:World)(xs:List Int)(e:TypeId)(hl:xs.length<=maxLen):Vl xs w (.returned (.slice (some (Aq w.heap.size 0)) xs.length xs.length)) (w.alloc (.cells (xs.map (Value.int .i64)).toArray e)):=
 ⟨_,rfl,Zw.fresh xs e hl _ (by simp),bA⟩
def Vl.freshD(w:World)(xs:List Int)(e:TypeId)(hl:xs.length<=maxLen):Vl xs w (.returned (.slice (some (Aq w.heap.size 0)) xs.length xs.length)) (w.alloc (.cells (xs.map (Value.int .i64)).toArray e)).drew:=by
 obtain⟨pv,h1,h2,h3⟩:=Vl.fresh w xs e hl;exact⟨pv,h1,h2.below (dA),h3.drew⟩
def by2{nd:Fl.Node}(h:Vm w nb no nd lv):Cq 153 #[.pointer (some (Aq nb no))] w (Vl [nd.b] w):=by
 have c3:=h.c3
 go_enter func153,ntmps153
 go_wp2;go_ret;exact Vl.fresh _ [nd.b] _ (by simp[maxLen])
def by3{nd:Fl.Node}(h:Vm w nb no nd lv):Cq 154 #[.pointer (some (Aq nb no))] w (Vl [nd.b,nd.c] w):=by
 have c3:=h.c3;have c4:=h.c4
 go_enter func154,ntmps154
 go_wp2_with fail
 go_still_tail 8,(by kernel_rfl)
 go_wp2;go_ret;exact Vl.freshD _ [nd.b,nd.c] _ (by simp[maxLen])
def by4{nd:Fl.Node}(h:Vm w nb no nd lv):Cq 155 #[.pointer (some (Aq nb no))] w (Vl [nd.a,nd.b,nd.c] w):=by
 have c2:=h.c2;have c3:=h.c3;have c4:=h.c4
 go_enter func155,ntmps155
 go_wp2_with fail
 go_still_tail 12,(by kernel_rfl)
 go_wp2;go_ret;exact Vl.freshD _ [nd.a,nd.b,nd.c] _ (by simp[maxLen])
def by5{nd:Fl.Node}(h:Vm w nb no nd lv):Cq 156 #[.pointer (some (Aq nb no))] w (Vl [nd.a,nd.b] w):=by
 have c2:=h.c2;have c3:=h.c3
 go_enter func156,ntmps156
 go_wp2_with fail
 go_still_tail 8,(by kernel_rfl)
 go_wp2;go_ret;exact Vl.freshD _ [nd.a,nd.b] _ (by simp[maxLen])
def by6{nd:Fl.Node}(h:Vm w nb no nd lv):Cq 157 #[.pointer (some (Aq nb no))] w (Vl nd.list w):=by
 have c5:=h.c5;have HL:=Zz h.hl;obtain⟨ao,cap,rfl,_⟩:=h.hl;clear h
 go_enter func157,ntmps157
 go_wp2;go_ret;exact⟨_,rfl,HL.out,Below.refl _ _⟩
def yq5{nd:Fl.Node}(h:Vm w nb no nd lv):Cq (byF nd.kind) #[.pointer (some (Aq nb no))] w (Vl (prem nd) w):=by
 unfold byF prem
 by_cases h2:nd.kind=2
 ·rw[if_pos h2,if_pos h2];exact by3 h
 rw[if_neg h2,if_neg h2]
 by_cases h3:nd.kind=3
 ·rw[if_pos h3,if_pos (Or.inl h3)];exact by2 h
 rw[if_neg h3]
 by_cases h4:nd.kind=4
 ·rw[if_pos h4,if_pos (Or.inr h4)];exact by2 h
 rw[if_neg h4,if_neg (show ¬(nd.kind=3\/nd.kind=4) from λh=>h.elim h3 h4)]
 by_cases h5:nd.kind=5
 ·rw[if_pos h5,if_pos h5];exact by4 h
 rw[if_neg h5,if_neg h5]
 by_cases h6:nd.kind=6
 ·rw[if_pos h6,if_pos h6];exact by5 h
 rw[if_neg h6,if_neg h6]
 by_cases h7:nd.kind=7
 ·rw[if_pos h7,if_pos h7];exact by6 h
 rw[if_neg h7,if_neg h7];exact by1 _ _
def zc5(k:Int)(v:Value)(w:World):(callFunc (byF k) #[v]).run prog w=.ok (.enter (byF k) #[v]) w:=by
 unfold byF
 repeat' split
 all_goals kernel_rfl
def zc6(rb ro f k:Nat)(np:Value)(ps:List Int)(w:World)(hf:w.cell? (Aq rb (ro+3))=some (.func (.func f) #[] #[]))(n0:(callFunc f #[np]).run prog w=.ok (.enter f #[np]) w)(hc:Cq f #[np] w (Vl ps w)):
  Cq 143 #[.pointer (some (Aq rb ro)),np,Iq k] w λe w'=>e=.returned (.bool (!ps.any (λx=>decide ((k:Int)<=x))))/\Bq w w':=by
 have HC:=Zz hc;clear hc
 go_enter func143,ntmps143
 go_wp2_with fail
 refine(HC.out).mono ?_;rintro e w1 ⟨pv,rfl,hp,d0⟩;obtain⟨pao,pcap,rfl,_,j0,e0⟩:=hp;unfold maxLen at j0;have k0:=Zz e0;have f0:=Zz d0;clear e0 d0
 go_wp2_with fail
 go_loop [16] (λi=>∃j:Nat,j<=ps.length/\i=Iq j/\∀t,t<j->¬(k:Int)<=ps.getD t 0) (λi=>ps.length - (intOf i).toNat)
 case atStart=>exact⟨0,by omega,rfl,λt ht=>by omega⟩
 case round=>
  obtain⟨j,hj,rfl,g0⟩:=hrel;have h0:=Zz g0;clear g0
  by_cases b0:j<ps.length
  ·obtain⟨pb,po,rfl,o0,a0⟩:=k0.out (by intro h;rw[h]at b0;simp at b0)
   have l0:=a0 j b0;obtain⟨x,hx⟩:=nmE (ps.getD j 0);rw[<-hx]at l0;have i0:=Zz hx;have p0:(j:Int)<(ps.length:Int):=(by omega);clear a0 hx
   by_cases m0:(k:Int)<=x
   ·have c0:Hid ((!ps.any (λx=>decide ((k:Int)<=x)))=false):=by
     show (!ps.any (λx=>decide ((k:Int)<=x)))=false;rw[Bool.not_eq_false',List.any_eq_true];exact⟨x,by rw[i0.out];exact Ur b0,by simpa using m0⟩
    go_wp2;go_ret;exact⟨Zm c0.out.symm,f0.out⟩
   go_wp2
   go_round
   case rel=>exact⟨j+1,by omega,by go_num,λt ht=>by
    by_cases h:t<j
    ·exact h0.out t h
    have:t=j:=by omega
    subst this;rw[<-i0.out];omega⟩
   case measure=>simp[intOf];omega
  have c0:Hid ((!ps.any (λx=>decide ((k:Int)<=x)))=true):=by
   show (!ps.any (λx=>decide ((k:Int)<=x)))=true;rw[Bool.not_eq_true',List.any_eq_false];intro x hx;obtain⟨i,hi,rfl⟩:=List.getElem_of_mem hx;have:=h0.out i (by omega);rw[Qa,Qb hi]at this;simpa using this
  go_wp2;go_ret;exact⟨Zm c0.out.symm,f0.out⟩
structure Nd(w:World)(N:Nat)(kd lev a b c:Int)(l:Value):Prop where
 c0:w.cell? (Aq N 0)=some (Iq kd)
 c1:w.cell? (Aq N 1)=some (Iq lev)
 c2:w.cell? (Aq N 2)=some (Iq a)
 c3:w.cell? (Aq N 3)=some (Iq b)
 c4:w.cell? (Aq N 4)=some (Iq c)
 c5:w.cell? (Aq N 5)=some l
 f:∀j,w.frozen? (Aq N j)=false
section
variable{kd lev a b c:Int}{l:Value}
def Nd.lt(h:Nd w N kd lev a b c l):N<w.heap.size:=Qe w _ h.c0
def Nd.new(w:World)(kd lev a b c:Int)(l:Value)(e:TypeId):Nd (w.alloc (.cells #[Iq kd,Iq lev,Iq a,Iq b,Iq c,l] e)) w.heap.size kd lev a b c l:=by
 refine⟨?_,?_,?_,?_,?_,?_,λj=>by simp⟩<;>(rw[World.cell?_alloc_new];rfl)
def Nd.grown(h:Nd w N kd lev a b c l){row:Option Nat}(g:w.grownBy w' row)(a0:some N≠row):Nd w' N kd lev a b c l:=
 ⟨g.cell h.c0 a0,g.cell h.c1 a0,g.cell h.c2 a0,g.cell h.c3 a0,g.cell h.c4 a0,g.cell h.c5 a0,λj=>(Qd (w:=w) (a:=(Aq N j)) (g.block N h.lt a0)).trans (h.f j)⟩
def Nd.drewN(h:Nd w N kd lev a b c l)(n:Nat):Nd (w.drewN n) N kd lev a b c l:=⟨h.c0,h.c1,h.c2,h.c3,h.c4,h.c5,h.f⟩
def Nd.drew(h:Nd w N kd lev a b c l):Nd w.drew N kd lev a b c l:=⟨h.c0,h.c1,h.c2,h.c3,h.c4,h.c5,h.f⟩
def Ve{v:Value}(a0:i≠j):(w.setCell (Aq N i) v).cell? (Aq N j)=w.cell? (Aq N j):=by
 apply Qg;intro hh;injection hh with _ h2;exact a0 h2
def zn9{v u:Value}(h:w.cell? (Aq N i)=some u):(w.setCell (Aq N i) v).cell? (Aq N i)=some v:=World.cell?_setCell_same' _ _ _ (by simp[h])
def Nd.set2(h:Nd w N kd lev a b c l)(x:Int):Nd (w.setCell (Aq N 2) (Iq x)) N kd lev x b c l:=
 ⟨(Ve (by decide)).trans h.c0,(Ve (by decide)).trans h.c1,zn9 h.c2,(Ve (by decide)).trans h.c3,(Ve (by decide)).trans h.c4,(Ve (by decide)).trans h.c5,λj=>(World.frozen?_setCell _ _ _ _).trans (h.f j)⟩
def Nd.set3(h:Nd w N kd lev a b c l)(x:Int):Nd (w.setCell (Aq N 3) (Iq x)) N kd lev a x c l:=
 ⟨(Ve (by decide)).trans h.c0,(Ve (by decide)).trans h.c1,(Ve (by decide)).trans h.c2,zn9 h.c3,(Ve (by decide)).trans h.c4,(Ve (by decide)).trans h.c5,λj=>(World.frozen?_setCell _ _ _ _).trans (h.f j)⟩
def Nd.set4(h:Nd w N kd lev a b c l)(x:Int):Nd (w.setCell (Aq N 4) (Iq x)) N kd lev a b x l:=
 ⟨(Ve (by decide)).trans h.c0,(Ve (by decide)).trans h.c1,(Ve (by decide)).trans h.c2,(Ve (by decide)).trans h.c3,zn9 h.c4,(Ve (by decide)).trans h.c5,λj=>(World.frozen?_setCell _ _ _ _).trans (h.f j)⟩
end
def zvw(w:World)(N i:Nat)(v:Value):w.grownBy (w.setCell (Aq N i) v) (some N):=
 ⟨rfl,rfl,rfl,by simp[World.setCell],λk hk a0=>Below.heap_setCell _ _ _ _ (by intro h;exact a0 (by rw[h]))⟩
def Mv.andSet(h:Mv w w1 b)(hb:b<w.heap.size)(hN:w.heap.size<=N)(i:Nat)(v:Value):Mv w (w1.setCell (Aq N i) v) b:=
 h.andGrown (zvw w1 N i v) hb (λk e=>by injection e with e;omega)
def Vx(k:Nat):Nat:=if k=0 then 1 else if k=1 then 1 else if k=2 then 3 else if k=3 then 2 else if k=4 then 2 else if k=5 then 3 else if k=6 then 2 else 0
def yy0(k:Nat)(h:k<8)(h7:k≠7):Fl.fields (k:Int)=(Vx k:Int):=by
 have:k=0\/k=1\/k=2\/k=3\/k=4\/k=5\/k=6:=by omega
 rcases this with rfl|rfl|rfl|rfl|rfl|rfl|rfl<;>rfl
def zgz(s:List UInt8)(p:Nat)(h:p<=s.length)(hq:¬(Fl.num s p).2.1<0):∃v q:Nat,Fl.num s p=((v:Int),(q:Int),0)/\p<q/\q<=s.length/\v<2147483648:=by
 have h1:=Fl.num_ok s p h;generalize Fl.num s p=r at*;obtain⟨a,b,c⟩:=r;simp only at h1 hq;rcases h1 with h1|h1
 ·omega
 obtain⟨h2,h3,h4,h5,rfl⟩:=h1;exact⟨a.toNat,b.toNat,by rw[Int.toNat_of_nonneg h4,Int.toNat_of_nonneg (by omega)],by omega,by omega,by omega⟩
section
variable{x:Nat}
end
def Vs(w:World)(b ro:Nat):Prop:=∀k:Nat,k<8->w.cell? (Aq b (ro+k*4+1))=some (Iq (Vx k:Nat))/\w.cell? (Aq b (ro+k*4+2))=some (.bool (k==7))/\w.cell? (Aq b (ro+k*4+3))=some (.func (.func (byF k)) #[] #[])
def Vs.move{ro:Nat}(h:Vs w b ro)(m:Mv w w' b)(a0:1<=ro):Vs w' b ro:=λk hk=>by
 obtain⟨h1,h2,h3⟩:=h k hk;exact⟨(m.o _ (by omega)).trans h1,(m.o _ (by omega)).trans h2,(m.o _ (by omega)).trans h3⟩
structure zxz(s:List UInt8)(q f:Nat)(w wr:World)(b N PB x v j q':Nat)(xs:List Int):Prop where
 hn:zn8 s q f j q' xs
 hm:Mv w wr b
 hc:wr.cell? (Aq b 1)=some (Iq (q':Int))
 nd:Nd wr N x v (xs.getD 0 0) (xs.getD 1 0) (xs.getD 2 0) Zq
 rs:Nd wr w.heap.size 0 0 0 0 0 Zq
 p0:wr.cell? (Aq PB 0)=some (.pointer (some (Aq N 2)))
 p1:wr.cell? (Aq PB 1)=some (.pointer (some (Aq N 3)))
 p2:wr.cell? (Aq PB 2)=some (.pointer (some (Aq N 4)))
 hN:w.heap.size<N
 hP:N<PB
def zxz.ptr{PB x:Nat}(h:zxz s q f w wr b N PB x v j q' xs)(hj:j<3):wr.cell? (Aq PB j)=some (.pointer (some (Aq N (2+j)))):=by
 have:j=0\/j=1\/j=2:=by omega
 rcases this with rfl|rfl|rfl
 ·exact h.p0
 ·exact h.p1
 exact h.p2
def zxz.cell{s:List UInt8}{q f:Nat}{w wr:World}{b N PB x v j q':Nat}{xs:List Int}(h:zxz s q f w wr b N PB x v j q' xs)(hj:j<3):wr.cell? (Aq N (2+j))=some (Iq (xs.getD j 0)):=by
 have:j=0\/j=1\/j=2:=by omega
 rcases this with rfl|rfl|rfl
 ·exact h.nd.c2
 ·exact h.nd.c3
 exact h.nd.c4
def zxz.next{PB x:Nat}(h:zxz s q f w wr b N PB x v j q' xs)(hb:b<w.heap.size)(d0:j<f)(hj:j<3){y m:Nat}(hn:Fl.num s q'=((y:Int),(m:Int),0))(m1:Mv wr w1 b)(c1:w1.cell? (Aq b 1)=some (Iq (m:Int))):
  zxz s q f w (w1.setCell (Aq N (2+j)) (Iq y)) b N PB x v (j+1) m (xs++[(y:Int)]):=by
 have hN:=h.hN;have hP:=h.hP;have g1:=m1.g;have g2:=zvw w1 N (2+j) (Iq y)
 have hnb:some N≠some b:=by simp;omega
 have a0:some PB≠some b:=by simp;omega
 have e0:some w.heap.size≠some b:=by simp;omega
 have b0:some PB≠some N:=by simp;omega
 have f0:some w.heap.size≠some N:=by simp;omega
 refine⟨by have:=h.hn.step d0 hn (by omega);simpa using this,(h.hm.trans m1).andSet hb (by omega) _ _,g2.cell c1 (by simp;omega),?_,(h.rs.grown g1 e0).grown g2 f0,g2.cell (g1.cell h.p0 a0) b0,g2.cell (g1.cell h.p1 a0) b0,g2.cell (g1.cell h.p2 a0) b0,hN,hP⟩;have c0:=h.nd.grown g1 hnb;have hlen:=h.hn.2.2.1
 have:j=0\/j=1\/j=2:=by omega
 rcases this with rfl|rfl|rfl
 ·match xs,hlen with
  |[],_=>exact c0.set2 _
 ·match xs,hlen with
  |[a],_=>exact c0.set3 _
 match xs,hlen with
 |[a,b'],_=>exact c0.set4 _
end Go.Proofs.YtjekbnmnjeoagaaGreatDoor
