import Derived.Test.YtjmcibbdedlcoaaGreatDoorM10
import Derived.Test.YtjmcibbdedlcoaaGreatDoorShelf
import Derived.WalkSmall
import Derived.Lib.SplitLaws
import Derived.Recover
import Derived.Defers
import Derived.Stop.Asserts
set_option linter.all false
set_option maxRecDepth 100000
set_option maxHeartbeats 40000000
namespace Go.Proofs.YtjmcibbdedlcoaaGreatDoor
open Go.RowKit Go.Proofs.Tryz List World Value Fl
variable{lo base R Pb lm vm cm:Nat}{w0 w w' W V:World}{r:RS}{S S':Nat->Prop}{v v':Value}{l:K}
section
variable{w1:World}{ap:Int}{m:Xv}
def Yr.open_{d:Nat}{ts:List aa}{n:Nat}{xs:Vs}{p:Value}(h:Yr d S base W v ts [])(ho:W.ownsRow base 201 1 v n xs)(ho':w'.ownsRow base 201 1 v' (n+1) (xs++[p]))(hS:∀b,S b->S' b)(hw:∀b,S b->w'.heap[b]?=W.heap[b]?):Yr d S' base w' v' ts [p]:=by
 obtain⟨ps,h1,h2,h3⟩:=h;simp only[append_nil,length_nil,Nat.add_zero]at h1;obtain⟨rfl,rfl⟩:=ze6 h1 ho;exact⟨ps,ho',h2,λi hi=>(h3 i hi).kept (λv l h=>Zl.kept hS hw d v l h) hS hw⟩
def zw1(bz:Nat->Nat)(z1 sn ob i T:Nat)(v' ov':Value):Nat->Nat:=λb=>if b=sn then 10+3*i else if b=ob then 11+3*i else if z1<=b/\b<sn then 0 else if v'.ownBlock=some b then T else if ov'.ownBlock=some b then 2 else bz b
structure zc2(bz who':Nat->Nat)(z1 sn ob i T:Nat)(v' ov':Value):Prop where
 ix:∀b,bz b≠5->who' b=bz b
 s:who' sn=10+3*i
 o:who' ob=11+3*i
 new:∀b,z1<=b->b<sn->who' b=0
 row:∀b,v'.ownBlock=some b->who' b=T
 oH:∀b,ov'.ownBlock=some b->who' b=2
 pp:∀b,who' b≠5->bz b≠5\/(z1<=b/\b<=sn)\/b=ob\/v'.ownBlock=some b\/ov'.ownBlock=some b
def yp8{bz:Nat->Nat}{z1 sn ob i T:Nat}{ov ov':Value}(hI:∀b,bz b≠5->b<z1)(hz:z1<=sn/\sn<ob)(hT:T≠5/\T≠2)(hv:∀b,v.ownBlock=some b->bz b=T)(d0:∀b,ov.ownBlock=some b->bz b=2)(hw:v'.ownBlock=v.ownBlock\/∃g,v'.ownBlock=some g/\sn<g/\g<ob)(e0:ov'.ownBlock=ov.ownBlock\/∃g,ov'.ownBlock=some g/\ob<g):zc2 bz (zw1 bz z1 sn ob i T v' ov') z1 sn ob i T v' ov':=by
 have b0:∀b,bz b≠5->b≠sn/\b≠ob/\¬(z1<=b/\b<sn):=λb hb=>by have:=hI b hb;omega
 have c0:∀b,v'.ownBlock=some b->(bz b=T)\/(sn<b/\b<ob):=λb hb=>by
  rcases hw with e|⟨g,e,h1,h2⟩
  ·exact .inl (hv b (by rw[<-e];exact hb))
  rw[e]at hb;simp only[Ql]at hb;subst hb;exact .inr ⟨h1,h2⟩
 have a0:∀b,ov'.ownBlock=some b->(bz b=2)\/ob<b:=λb hb=>by
  rcases e0 with e|⟨g,e,h1⟩
  ·exact .inl (d0 b (by rw[<-e];exact hb))
  rw[e]at hb;simp only[Ql]at hb;subst hb;exact .inr h1
 refine{ix:=λb hb=>?_,s:=G rfl,o:= ?_,new:=λb h1 h2=>?_,row:=λb hb=>?_,oH:=λb hb=>?_,pp:=λb hb=>?_}
 ·obtain⟨h1,h2,h3⟩:=b0 b hb
  unfold zw1;rw[Z h1,Z h2,Z h3]
  by_cases e1:v'.ownBlock=some b
  ·rw[G e1]
   rcases c0 b e1 with h|h
   ·exact h.symm
   have:=hI b hb;omega
  rw[Z e1]
  by_cases e2:ov'.ownBlock=some b
  ·rw[G e2]
   rcases a0 b e2 with h|h
   ·exact h.symm
   have:=hI b hb;omega
  rw[Z e2]
 ·unfold zw1;rw[Z (by omega),G rfl]
 ·unfold zw1;rw[Z (by omega),Z (by omega),G ⟨h1,h2⟩]
 ·have:b≠sn/\b≠ob/\¬(z1<=b/\b<sn):=by
   rcases c0 b hb with h|h
   ·exact b0 b (by rw[h];exact hT.1)
   omega
  unfold zw1;rw[Z this.1,Z this.2.1,Z this.2.2,G hb]
 ·have:b≠sn/\b≠ob/\¬(z1<=b/\b<sn):=by
   rcases a0 b hb with h|h
   ·exact b0 b (by rw[h];decide)
   omega
  have f0:v'.ownBlock≠some b:=λe=>by
   rcases c0 b e with h|h
   ·rcases a0 b hb with h'|h'
    ·exact hT.2 (by rw[<-h,h'])
    have:=hI b (by rw[h];exact hT.1);omega
   rcases a0 b hb with h'|h'
   ·have:=hI b (by rw[h'];decide);omega
   omega
  unfold zw1;rw[Z this.1,Z this.2.1,Z this.2.2,Z f0,G hb]
 unfold zw1 at hb
 by_cases e1:b=sn
 ·exact .inr (.inl ⟨by omega,by omega⟩)
 rw[Z e1]at hb
 by_cases e2:b=ob
 ·exact .inr (.inr (.inl e2))
 rw[Z e2]at hb
 by_cases e3:z1<=b/\b<sn
 ·exact .inr (.inl ⟨by omega,by omega⟩)
 rw[Z e3]at hb
 by_cases e4:v'.ownBlock=some b
 ·exact .inr (.inr (.inr (.inl e4)))
 rw[Z e4]at hb
 by_cases e5:ov'.ownBlock=some b
 ·exact .inr (.inr (.inr (.inr e5)))
 rw[Z e5]at hb;exact .inl hb
def Zo.opens(h:Zo lo base R Pb lm vm cm w0 W {r with am:=r.am+1} ap m)(hb:r.ae=true)(C0:r.fr.length<3){z1 sn kind ln:Nat}{vp v' ov':Value}{e:da}{n:Nat}{xs:Vs}(I0:kind=5\/kind=6)(hI:∀b,m.bz b≠5->b<z1)(R0:base<=z1)(D0:z1<=sn/\sn+1=W.heap.size)(J0:ap=(ln:Int))(dx:zjz r.am r.fr r.ct.length)
  (hc:Zh W sn 6 (rw_ [I kind,I ap,I 0,vp,Zq,Zq])) (hv:zy7 (λb=>z1<=b/\b<sn) W vp e) (ho:W.ownsRow base 201 1 (zx6 m.bv r.fr m.gs) n xs) (Wq:zwz 201 lo base w0 W w1 (zz8 Pb m.gs) (zm0 r.fr) (zx6 m.bv r.fr m.gs) v' n xs (ptr sn))
  (o:Obj) (K0:Zh (w1.alloc o) w1.heap.size 2 (rw_ [ptr sn,.bool false])) (G2:zwz 272 lo base w0 (w1.alloc o) w' R 43 m.ov ov' r.fr.length ((m.gs.map λg=>ptr g.ob).reverse) (ptr w1.heap.size)):
  ∃m',Zo lo base R Pb lm vm cm w0 w' (r.opens kind ln e) ap m':=by
 obtain⟨b1,b2,b3,b4,b5,b6⟩:=h.bP;obtain⟨n1,n2,n3,n4,n5,n6,n7,n8,n9,n10⟩:=h.nd;have hl:=h.re.fa.len;have hz:=Wq.hz;have S0:=G2.hz;have T0:(w1.alloc o).heap.size=w1.heap.size+1:=size_alloc _ _;have a0:=zm1 (r:={r with am:=r.am+1}) h Wq ho
 have L0:∀b,z1<=b->m.bz b=5:=λb hb'=>Classical.byContradiction λt0=>by have:=hI b t0;omega
 have c0:=h.re.to;have f0:∀b,m.ov.ownBlock=some b->b<z1/\base<=b:=λb hb'=>⟨hI b (by rw[c0 b hb'];decide),(h.re.wh b (by rw[c0 b hb'];decide)).1⟩
 -- the second growth leaves
 have q2:∀b,b<w1.heap.size->b≠R->m.ov.ownBlock≠some b->w'.heap[b]?=w1.heap[b]?:=λb h1 h2 h3=>by
  rw[G2.q b (by omega) h2 h3];exact((Below.refl w1.heap.size w1).alloc lE _).block b h1
 have q2l:∀b,b<base->b≠R->w'.heap[b]?=w1.heap[b]?:=λb h1 h2=>q2 b (by omega) h2 (λh3=>by have:=f0 b h3;omega);have u0:Zh w' w1.heap.size 2 (rw_ [ptr sn,.bool false]):=K0.block (G2.q _ (by omega) (by omega) (λh3=>by have:=f0 _ h3;omega));have E0:ov'.ownBlock=m.ov.ownBlock\/∃g,ov'.ownBlock=some g/\w1.heap.size<g:=by
  rcases G2.wh with e|⟨g,e,hg⟩
  ·exact .inl e
  exact .inr ⟨g,e,by omega⟩
 have p0:v'.ownBlock=(zx6 m.bv r.fr m.gs).ownBlock\/∃g,v'.ownBlock=some g/\sn<g/\g<w1.heap.size:=by
  rcases Wq.wh with e|⟨g,e,hg⟩
  ·exact .inl e
  exact .inr ⟨g,e,by omega,(Wq.own.lt g e).2⟩
 have q0:∀(r':RS) (m':Xv),r'.ae=r.ae->r'.au.length=r.au.length->r'.am=r.am+1->m'.ov=ov'->m'.t=m.t->R≠zz8 Pb m.gs->Zh w' R 45 (Vx Pb lm vm cm ap r' m'):=λr' m' e1 e2 e4 e5 e6 t0=>by
  have c1:Zh (w1.alloc o) R 45 (Vx Pb lm vm cm ap {r with am:=r.am+1} m):=(h.cR.block (a0 R b1 t0)).block (((Below.refl w1.heap.size w1).alloc lE _).block R (by omega));refine(G2.cs 45 _ c1 (by decide)).congr (λj hj=>?_)
  by_cases h4:j=43
  ·subst h4;rw[G rfl];exact e5.symm
  rw[Z h4];unfold Vx;rw[e1,e2,e4,e6]
  by_cases hs:j=0\/j=1\/j=2\/j=3\/j=40\/j=41\/j=42\/j=44
  ·rcases hs with rfl|rfl|rfl|rfl|rfl|rfl|rfl|rfl<;>rfl
  rw[Z (show ¬j=0 by omega),Z (show ¬j=1 by omega),Z (show ¬j=2 by omega),Z (show ¬j=3 by omega),Z (show ¬j=40 by omega),Z (show ¬j=41 by omega),Z (show ¬j=42 by omega),Z h4,Z (show ¬j=44 by omega)];rw[Z (show ¬j=0 by omega),Z (show ¬j=1 by omega),Z (show ¬j=2 by omega),Z (show ¬j=3 by omega),Z (show ¬j=40 by omega),Z (show ¬j=41 by omega),Z (show ¬j=42 by omega),Z h4]
 have F0:∀(who':Nat->Nat) (i T:Nat),zc2 m.bz who' z1 sn w1.heap.size i T v' ov'->∀b,who' b≠5->base<=b/\b<w'.heap.size:=λwho' i T hO b hb'=>by
  rcases hO.pp b hb' with h5|h5|h5|h5|h5
  ·have:=h.re.wh b h5;omega
  ·omega
  ·omega
  ·have:=Wq.own.lt b h5;omega
  have:=G2.own.lt b h5;omega
 have v0:r.opens kind ln e={r with fr:=⟨kind,ln,e,[],false,[]⟩::r.fr,am:=r.am+1}:=rfl
 have g0:∀f∈(⟨kind,ln,e,[],false,[]⟩::r.fr:List Fl.Frame),f.kind=5\/f.kind=6:=λf hf=>by
  rcases mem_cons.1 hf with rfl|hf
  ·exact I0
  exact h.ok.dm f hf
 -- the frame that is new
 have r0:∀(who':Nat->Nat) (T:Nat),zc2 m.bz who' z1 sn w1.heap.size r.fr.length T v' ov'->zz8 Pb m.gs<z1->(∀k,(zx6 m.bv r.fr m.gs).ownBlock=some k->m.bz k≠5)->zv6 who' base w' (3 - (r.fr.length+1)) r.fr.length [] ⟨kind,ln,e,[],false,[]⟩ ⟨sn,w1.heap.size,vp,Zq,Zq⟩:=λwho' T hO U0 M0=>by
  have qn:∀b,z1<=b->b<W.heap.size->w'.heap[b]?=W.heap[b]?:=λb h1 h2=>by
   rw[q2 b (by omega) (by omega) (λh3=>by have:=f0 b h3;omega)];exact Wq.q b h2 (by omega) (λhk=>M0 b hk (L0 b h1))
  refine{ts:=hO.s,to:=hO.o,ta:=λb hb'=>?_,co:=u0,cs:= ?_,hv:=hv.kept (λb hb'=>hO.new b hb'.1 hb'.2) (λb hb'=>qn b hb'.1 (by omega)),pa:=Yr.none _ _ _,pf:=λhh=>(by cases hh),pe:=λ_=>⟨rfl,rfl⟩}
  ·cases hb'
  have:=hc.block (w':=w') (qn sn (by omega) (by omega));rw[J0]at this;exact this
 have x0:zz4 (r.am+1) 1 r.fr:=by
  have k0:=dx.2
  cases b0:r.fr with
  |nil=>trivial
  |cons f fs=>
   rw[b0]at k0;obtain⟨c1,c2,c3⟩:=k0
   cases hh:f.cA with
   |true=>rw[hh]at c1 c2;simp at c1 c2;refine⟨?_,?_,zz4.mono (by omega) lE c3⟩<;>simp[hh]<;>omega
   |false=>rw[hh]at c1 c2;simp at c1 c2;refine⟨?_,?_,zz4.mono (by omega) lE c3⟩<;>simp[hh]<;>omega
 rw[v0]
 have s0:RsOk {r with fr:=⟨kind,ln,e,[],false,[]⟩::r.fr,am:=r.am+1}:=
  {cn:=⟨by have:=dx.1;simp;omega,⟨by simp,by simp,x0⟩⟩,lv:=h.ok.lv,ce:=h.ok.ce,ch:=h.ok.ch,lo:=h.ok.lo,st:=h.ok.st,fr:=(by simp;omega),cl:=h.ok.cl,hl:=h.ok.hl,dw:=h.ok.dw,dm:=g0,head:=λhd=>(by rw[show ({r with fr:=⟨kind,ln,e,[],false,[]⟩::r.fr,am:=r.am+1}:RS).ae=r.ae from rfl,hb]at hd;cases hd),below:=h.ok.below,bC:=h.ok.bC,bH:=h.ok.bH,fA:=h.ok.fA}
 have l0:w'.ownsRow base 272 1 ov' (r.fr.length+1) ((m.gs.map λg=>ptr g.ob).reverse++[ptr w1.heap.size]):=G2.own
 cases b0:r.fr with
 |nil=>
  have d0:m.gs=[]:=by
   rw[show ({r with am:=r.am+1}:RS).fr=r.fr from rfl,b0]at hl;exact Qi (by simpa using hl)
  rw[b0]at s0;rw[b0,d0]at l0 Wq ho p0 r0;rw[d0]at a0 q0;have y0:∀b,m.bv.ownBlock=some b->m.bz b=1:=h.re.tb;have hO:=yp8 (i:=0) (T:=1) (v:=m.bv) (ov:=m.ov) hI ⟨D0.1,by omega⟩ (by decide) y0 c0 p0 E0;obtain⟨who',i0⟩:∃who',who'=zw1 m.bz z1 sn w1.heap.size 0 1 v' ov':=⟨_,rfl⟩;rw[<-i0]at hO
  have hq:∀b,m.bz b≠5->m.bz b≠1->m.bz b≠2->w'.heap[b]?=W.heap[b]?:=λb h5 h1 h2=>by
   have z0:=h.re.wh b h5;rw[q2 b (by omega) (by omega) (λh3=>h2 (c0 b h3))];exact Wq.q b z0.2 (by show b≠Pb;omega) (λhk=>h1 (y0 b hk))
  have h0:∀b,m.bz b=0->who' b=0:=λb hb'=>(hO.ix b (by omega)).trans hb';have e0:∀b,m.bz b=0->w'.heap[b]?=W.heap[b]?:=λb hb'=>hq b (by omega) (by omega) (by omega)
  have j0:w'.ownsRow base 201 1 v' (n+1) (xs++[ptr sn]):=Zj Wq.own (λb hb'=>q2 b (Wq.own.lt b hb').2 (by have:=(Wq.own.lt b hb').1;omega) (λh3=>by
   have h2:=c0 b h3;have:=hO.ix b (by rw[h2];decide)
   rw[hO.row b hb',h2]at this;omega))
  refine⟨{m with bv:=v',gs:=[⟨sn,w1.heap.size,vp,Zq,Zq⟩],ov:=ov',bz:=who'},?_⟩;refine{ok:=s0,bel:=G2.bel,fx:=λb f1 f2 f3 f4 f5 f6=>((q2l b f1 f2).trans (a0 b f1 f3)).trans (h.fx b f1 f2 f3 f4 f5 f6),cq:=h.cq,bP:=⟨b1,b2,b3,b4,b5,by omega⟩,nd:=h.nd,cR:=q0 _ _ rfl rfl rfl rfl rfl (by show R≠Pb;omega),cP:= ?cP,nl:=(h.nl.block (a0 _ b3 (by show lm≠Pb;omega))).block (q2l _ b3 (by omega)),nv:=(h.nv.block (a0 _ b4 (by show vm≠Pb;omega))).block (q2l _ b4 (by omega)),nc:=(h.nc.block (a0 _ b5 (by show cm≠Pb;omega))).block (q2l _ b5 (by omega)),tab:=h.tab,re:= ?re}
  case cP=>
   refine((Wq.cs 5 _ h.cP (by decide)).block (q2l Pb b2 (by omega))).congr λk hk=>?_;rcases(show k=0\/k=1\/k=2\/k=3\/k=4 by omega) with rfl|rfl|rfl|rfl|rfl<;>rfl
  case re=>
   have m0:=h.re.pb;rw[d0]at m0;refine{wh:=F0 who' 0 1 hO,oc:=Zj h.re.oc (λb hb'=>hq b (by rw[h.re.tc b hb'];decide) (by rw[h.re.tc b hb'];decide) (by rw[h.re.tc b hb'];decide)),tc:=λb hb'=>(hO.ix b (by rw[h.re.tc b hb'];decide)).trans (h.re.tc b hb'),oh:=Zj h.re.oh (λb hb'=>hq b (by rw[h.re.th b hb'];decide) (by rw[h.re.th b hb'];decide) (by rw[h.re.th b hb'];decide)),th:=λb hb'=>(hO.ix b (by rw[h.re.th b hb'];decide)).trans (h.re.th b hb'),pb:=Yr.open_ m0 ho j0 h0 e0,tb:=hO.row,fa:= ?fa,oo:=l0,to:=hO.oH,la:=λhg=>?la}
   case fa=>
    refine⟨?_,trivial⟩;have:=r0 who' 1;simp only[length_nil]at this;exact this hO (by show Pb<z1;omega) (λk hk=>by rw[y0 k hk];decide)
   case la=>
    obtain⟨Lb,e1,e2,e3⟩:=h.re.la hg;exact⟨Lb,e1,h0 Lb e2,e3.block (e0 Lb e2)⟩
 |cons f fs=>
  cases d0:m.gs with
  |nil=>rw[show ({r with am:=r.am+1}:RS).fr=r.fr from rfl,b0,d0]at hl;simp at hl
  |cons g gs=>
   rw[b0]at s0;rw[b0,d0]at l0 Wq ho p0 r0;rw[d0]at a0 q0;rw[b0]at C0;simp only[length_cons]at C0;have G0:=h.re.fa;rw[show ({r with am:=r.am+1}:RS).fr=r.fr from rfl,b0,d0]at G0;obtain⟨hf,N0⟩:=G0;have O0:=h.re.wh g.sb (by rw[hf.ts];omega);have A0:=hI g.sb (by rw[hf.ts];omega);obtain⟨g',hg'⟩:∃g':GF,g'=if f.cA then{g with ev:=v'} else{g with fv:=v'}:=⟨_,rfl⟩
   have n0:g'.sb=g.sb:=by rw[hg'];split<;>rfl
   have hob':g'.ob=g.ob:=by rw[hg'];split<;>rfl
   have H0:g'.vp=g.vp:=by rw[hg'];split<;>rfl
   have o0:g'.act f=v':=by
    unfold GF.act;rw[hg']
    cases f.cA<;>rfl
   have B0:∀b,(zx6 m.bv (f::fs) (g::gs)).ownBlock=some b->m.bz b=12+3*fs.length:=hf.ta;have hO:=yp8 (i:=fs.length+1) (T:=12+3*fs.length) (ov:=m.ov) hI ⟨D0.1,by omega⟩ ⟨by omega,by omega⟩ B0 c0 p0 E0;obtain⟨who',i0⟩:∃who',who'=zw1 m.bz z1 sn w1.heap.size (fs.length+1) (12+3*fs.length) v' ov':=⟨_,rfl⟩;rw[<-i0]at hO
   have hq:∀b,m.bz b≠5->m.bz b≠12+3*fs.length->m.bz b≠10+3*fs.length->m.bz b≠2->w'.heap[b]?=W.heap[b]?:=λb h5 h1 P0 h2=>by
    have z0:=h.re.wh b h5;rw[q2 b (by omega) (by omega) (λh3=>h2 (c0 b h3))];exact Wq.q b z0.2 (λhe=>P0 (by rw[show b=g.sb from he];exact hf.ts)) (λhk=>h1 (B0 b hk))
   have h0:∀b,m.bz b=0->who' b=0:=λb hb'=>(hO.ix b (by omega)).trans hb';have e0:∀b,m.bz b=0->w'.heap[b]?=W.heap[b]?:=λb hb'=>hq b (by omega) (by omega) (by omega) (by omega)
   have j0:w'.ownsRow base 201 1 v' (n+1) (xs++[ptr sn]):=Zj Wq.own (λb hb'=>q2 b (Wq.own.lt b hb').2 (by have:=(Wq.own.lt b hb').1;omega) (λh3=>by
    have h2:=c0 b h3;have:=hO.ix b (by rw[h2];decide)
    rw[hO.row b hb',h2]at this;omega))
   refine⟨{m with gs:=⟨sn,w1.heap.size,vp,Zq,Zq⟩::g'::gs,ov:=ov',bz:=who'},?_⟩;refine{ok:=s0,bel:=G2.bel,fx:=λb f1 f2 f3 f4 f5 f6=>((q2l b f1 f2).trans (a0 b f1 (by show b≠g.sb;omega))).trans (h.fx b f1 f2 f3 f4 f5 f6),cq:=h.cq,bP:=⟨b1,b2,b3,b4,b5,by omega⟩,nd:=h.nd,cR:=q0 _ _ rfl rfl rfl rfl rfl (by show R≠g.sb;omega),cP:=(h.cP.block (a0 _ b2 (by show Pb≠g.sb;omega))).block (q2l _ b2 (by omega)),nl:=(h.nl.block (a0 _ b3 (by show lm≠g.sb;omega))).block (q2l _ b3 (by omega)),nv:=(h.nv.block (a0 _ b4 (by show vm≠g.sb;omega))).block (q2l _ b4 (by omega)),nc:=(h.nc.block (a0 _ b5 (by show cm≠g.sb;omega))).block (q2l _ b5 (by omega)),tab:=h.tab,re:= ?re}
   case re=>
    have m0:=h.re.pb;rw[d0]at m0;have Q0:Vc (⟨sn,w1.heap.size,vp,Zq,Zq⟩::g'::gs)=Vc (g::gs):=(by rw[zez];simp only[Vc,n0]);refine{wh:=F0 who' _ _ hO,oc:=Zj h.re.oc (λb hb'=>hq b (by rw[h.re.tc b hb'];decide) (by rw[h.re.tc b hb'];omega) (by rw[h.re.tc b hb'];omega) (by rw[h.re.tc b hb'];decide)),tc:=λb hb'=>(hO.ix b (by rw[h.re.tc b hb'];decide)).trans (h.re.tc b hb'),oh:=Zj h.re.oh (λb hb'=>hq b (by rw[h.re.th b hb'];decide) (by rw[h.re.th b hb'];omega) (by rw[h.re.th b hb'];omega) (by rw[h.re.th b hb'];decide)),th:=λb hb'=>(hO.ix b (by rw[h.re.th b hb'];decide)).trans (h.re.th b hb'),pb:= ?pb,tb:=λb hb'=>(hO.ix b (by rw[h.re.tb b hb'];decide)).trans (h.re.tb b hb'),fa:= ?fa,oo:= ?oo,to:=hO.oH,la:=λhg=>?la}
    case pb=>
     show Yr 3 _ base w' m.bv r.ct (Vc (_::g'::gs));rw[Q0];exact m0.kept h0 e0 (λb hb'=>hq b (by rw[h.re.tb b hb'];decide) (by rw[h.re.tb b hb'];omega) (by rw[h.re.tb b hb'];omega) (by rw[h.re.tb b hb'];decide))
    case oo=>
     show w'.ownsRow base _ 1 ov' (_::f::fs).length (((_::g'::gs).map λg=>ptr g.ob).reverse);simp only[map_cons,reverse_cons,length_cons,hob']at l0⊢;exact l0
    case la=>
     obtain⟨Lb,e1,e2,e3⟩:=h.re.la hg;exact⟨Lb,e1,h0 Lb e2,e3.block (e0 Lb e2)⟩
    case fa=>
     refine⟨?_,?_,?_⟩
     ·have:=r0 who' (12+3*fs.length)
      simp only[length_cons]at this;exact this hO A0 (λk hk=>by rw[B0 k hk];omega)
     ·show zv6 who' base w' (3 - (fs.length+1+1)+1) fs.length [ptr sn] f g'
      rw[show 3 - (fs.length+1+1)+1=3 - (fs.length+1) by omega];refine{ts:=by rw[n0];exact(hO.ix g.sb (by rw[hf.ts];omega)).trans hf.ts,to:=by rw[hob'];exact(hO.ix g.ob (by rw[hf.to];omega)).trans hf.to,ta:=λb hb'=>hO.row b (by rw[<-o0];exact hb'),co:= ?co,cs:= ?cs,hv:=by rw[H0];exact hf.hv.kept h0 e0,pa:= ?pa,pf:= ?pf,pe:= ?pe}
      case co=>rw[hob',n0];exact hf.co.block (hq g.ob (by rw[hf.to];omega) (by rw[hf.to];omega) (by rw[hf.to];omega) (by rw[hf.to];omega))
      case cs=>
       rw[n0,H0];refine((Wq.cs 6 _ hf.cs (by show (if f.cA then 5 else 4)<6;split<;>omega)).block (q2 g.sb (by omega) (by omega) (λh3=>by have:=c0 _ h3;rw[hf.ts]at this;omega))).congr λk hk=>?_;rw[hg'];show (if k=(if f.cA then 5 else 4) then v' else _)=_
       cases f.cA<;>rcases(show k=0\/k=1\/k=2\/k=3\/k=4\/k=5 by omega) with rfl|rfl|rfl|rfl|rfl|rfl<;>rfl
      case pa=>
       rw[o0];exact Yr.open_ hf.pa ho j0 h0 e0
      case pf=>
       intro hh;have:=Zl.kept h0 e0 _ _ _ (hf.pf hh);rw[hg',hh];exact this
      case pe=>
       intro hh;rw[hg',hh];exact hf.pe hh
     show Vk who' base w' (3 - (fs.length+1+1)+1+1) [ptr g'.sb] fs gs;rw[n0,show 3 - (fs.length+1+1)+1+1=3 - (fs.length+1)+1 by omega]
     exact N0.kept (λb hb'=>by
      rcases hb' with hb'|hb'
      ·exact⟨hO.ix b (by omega),e0 b hb'⟩
      exact⟨hO.ix b (by omega),hq b (by omega) (by omega) (by omega) (by omega)⟩)
end
def Tryz.infoPOpened:(Tryz.prog.info? 272).map (λi=>(i.zero,i.size,i.bytes))=some (some (.pointer none),1,8):=by kernel_rfl
section
variable{ap:Int}{m:Xv}
def za6(h:Zo lo base R Pb lm vm cm w0 w r ap m)(O0:r.ae=true)(B:Nat)(v:Value)(k a:K)(ln kind:Nat)(P0:ap=(ln:Int))(hB:B<=w.heap.size)(hw:Zi B w v [a])(c0:kind=if k==jo then 5 else 6):
  F 159 #[M R,I kind,v] w (Ze lo base R Pb lm vm cm w0 ap (r.bS ln [k,a])):=by
 obtain⟨b,off,cp,rfl,r0,f1,g1,Q0,j0⟩:=hw.one (by simp);obtain⟨aX,l0⟩:=U (r.bS ln [k,a]);rw[<-l0]
 have m0:O (aX=match r.value [a] with
  |none=>(4,r)
  |some e=>if 16<=r.am\/3<=r.fr.length then(5,r) else(0,r.opens kind ln e)):=by
  show _=_;rw[l0,c0];simp only[RS.bS]
  cases r.value [a]<;>rfl
 have R0:O (F 156 #[M R,Sq b off 1 cp] w (zo5 (r.value [a]) ap w)):=ze5 h b off cp a (Q0 a (by simp)) (by simpa using r0) (j0 0 (by simp))
 have i1:O (kind=5\/kind=6):=by show _\/_;rw[c0];split<;>simp
 have j1:=A P0;have HH:=A h;have bP:=h.bP;have cq:=h.cq;simp only[length_cons,length_nil,Nat.zero_add];obtain⟨ao,cap,C0,s0,u0⟩:=zhz h;have D0:=h.ok.fr;obtain⟨n,hn⟩:=U (r.fr.length);rw[<-hn]at C0 D0;have HN:=A hn;have v0:=A C0;clear h hw Q0 j0 l0 c0 P0 r0 f1 g1 hB C0 s0 u0 hn
 go_enter func159,ntmps159
 go_wp2_with fail
 refine R0.mono ?_;rintro e W2 ⟨y0,S0,x0⟩;have z0:O (Zo lo base R Pb lm vm cm w0 W2 r ap m):=HH.below y0;have t1:=y0.size
 cases d0:r.value [a] with
 |none=>
  obtain rfl:=x0 d0;have HR:aX=(4,r):=(by rw[m0.out,d0]);exact⟨rfl,Ze.eQ HR (by decide) rfl (HH.gone y0)⟩
 |some ex=>
  obtain⟨pb,rfl,T0⟩:=S0 ex d0;have U0:=A T0;have A0:O (aX=if 16<=r.am\/3<=n then(5,r) else(0,r.opens kind ln ex)):=(by show _=_;rw[m0.out,d0,HN.out]);clear R0 y0 T0 S0 x0 m0 d0;have u1:R<W2.heap.size:=(by omega);have c43:W2.cell? (Y R 43)=some (J ao n cap):=(by rw[<-v0.out];exact z0.cR.c 43 (by omega));obtain⟨o,ho⟩:=U (α:=Obj) (.cells #[I kind,I 0,I 0,M pb,Zq,Zq] 211);have HA:O (Zo lo base R Pb lm vm cm w0 (W2.alloc o) r ap m):=z0.below (bA);have V0:(W2.alloc o).heap.size=W2.heap.size+1:=size_alloc _ _;have W0:=A V0;have E0:O (F 71 #[M R,.bool false,I 5] (W2.alloc o) λe w'=>e=.panicked (Zf 5 ap)/\Below (W2.alloc o).heap.size (W2.alloc o) w'):=Ye R 5 ap _ (HA.cR.c 1 (by omega));have B0:O (F 71 #[M R,.bool true,I 5] (W2.alloc o) λe w'=>e=.returned (.tuple #[])/\w'=W2.alloc o):=Xc R 5 _
  have X0:m.bz W2.heap.size=5:=Classical.byContradiction λk1=>by have:=(z0.re.wh _ k1).2;omega
  have h0:O (F 157 #[M R,M W2.heap.size] (W2.alloc o) (zc1 lo base R Pb lm vm cm w0 r ap m W2.heap.size kind 0 (ptr pb) (W2.alloc o))):=
   yvv HA O0 W2.heap.size kind 0 (ptr pb) (by omega) X0 (by omega) (by rw[ho];exact Zh.new W2 [I kind,I 0,I 0,M pb,Zq,Zq] _)
  have F0:O (∀b,b<W2.heap.size->(W2.alloc o).heap[b]?=W2.heap[b]?):=((Below.refl W2.heap.size W2).alloc lE _).block;rw[ho]at E0 B0 h0;clear V0 X0
  by_cases h3:3<=n
  ·have b3:¬(n:Int)<3:=by omega
   have HR:O (aX=(5,r)):=(by show _=_;rw[A0.out];exact G (.inr h3));rw[ho]at HA W0;clear ho h0 B0 F0
   go_wp2_with fail
   try rw[show decide ((n:Int)<3)=false from decide_eq_false (by omega)]
   refine E0.mono ?_;rintro e w1 ⟨rfl,l1⟩;exact⟨rfl,Ze.eQ HR (by decide) rfl (HA.gone l1)⟩
  have b3:(n:Int)<3:=(by omega);have HO:=A ho;clear E0 ho
  go_wp2_with fail
  try rw[show decide ((n:Int)<3)=true from decide_eq_true (by omega)]
  refine B0.mono ?_;rintro e w1 ⟨rfl,Y0⟩;rw[Y0];clear Y0 w1 B0
  go_wp2_with fail
  refine h0.mono ?_;rintro e w1 (⟨Z0,rfl,m1⟩|⟨Z0,rfl,W3,a0,G0,H0,a1,nn,xs,v',I0,Wq⟩)
  ·have HR:aX=(5,r):=by rw[A0.out];exact G (.inl Z0)
   exact⟨rfl,Ze.eQ HR (by decide) rfl m1⟩
  rw[<-HO.out]at G0 H0;have n0:=zm1 (r:={r with am:=r.am+1}) a0 Wq I0;have n1:=a0.bP;have b1:=a0.re.to;have c1:R≠zz8 Pb m.gs:=by
   cases b0:m.gs with
   |nil=>exact a0.nd.1
   |cons g gs=>
    have hl:=a0.re.fa.len;have k0:=a0.re.fa
    cases e0:r.fr with
    |nil=>rw[show ({r with am:=r.am+1}:RS).fr=r.fr from rfl,e0,b0]at hl;simp at hl
    |cons f fs=>
     rw[show ({r with am:=r.am+1}:RS).fr=r.fr from rfl,e0,b0]at k0;have:=a0.re.wh g.sb (by rw[k0.1.ts];omega);show R≠g.sb;omega
  have v1:=Wq.hz;have e43:D w1 R 43 (J ao n cap):=cQ (n0 R (by omega) c1) (by rw[<-v0.out];exact a0.cR.c 43 (by omega));have efz:∀j,w1.frozen? (Y R j)=false:=λj=>fQ (n0 R (by omega) c1) (a0.cR.z j);have o1:R<w1.heap.size:=(by omega);obtain⟨ys,J0⟩:=U ((m.gs.map λg=>ptr g.ob).reverse)
  have f0:∀k,(J ao n cap).ownBlock=some k->base<=k/\k<W3.heap.size/\k≠R/\w1.heap[k]?=W3.heap[k]?:=λk hk=>by
   rw[<-v0.out]at hk;have h2:=b1 k hk;have h1:=a0.re.wh k (by rw[h2];decide);refine⟨h1.1,h1.2,by omega,Wq.q k h1.2 (λhe=>?_) (λhe=>?_)⟩
   ·cases b0:m.gs with
    |nil=>rw[b0]at he;have:k=Pb:=he;omega
    |cons g gs=>
     have hl:=a0.re.fa.len;have k0:=a0.re.fa
     cases e0:r.fr with
     |nil=>rw[show ({r with am:=r.am+1}:RS).fr=r.fr from rfl,e0,b0]at hl;simp at hl
     |cons f fs=>
      rw[show ({r with am:=r.am+1}:RS).fr=r.fr from rfl,e0,b0]at k0;rw[b0]at he;have he':k=g.sb:=he;rw[he',k0.1.ts]at h2;omega
   cases b0:m.gs with
   |nil=>
    have hl:=a0.re.fa.len;have e0:r.fr=[]:=Qi (by rw[b0]at hl;simpa using hl.symm);rw[b0,e0]at he;rw[a0.re.tb k he]at h2;omega
   |cons g gs=>
    have hl:=a0.re.fa.len;have k0:=a0.re.fa
    cases e0:r.fr with
    |nil=>rw[show ({r with am:=r.am+1}:RS).fr=r.fr from rfl,e0,b0]at hl;simp at hl
    |cons f fs=>
     rw[show ({r with am:=r.am+1}:RS).fr=r.fr from rfl,e0,b0]at k0;rw[b0,e0]at he;rw[k0.1.ta k he]at h2;omega
  obtain⟨oo,K0⟩:=U (α:=Obj) (.cells #[M W2.heap.size,.bool false] 275);have L0:(w1.alloc oo).heap.size=w1.heap.size+1:=size_alloc _ _;have o0:O ((w1.alloc oo).ownsRow base 272 1 (J ao n cap) n ys):=by
   have h1:=a0.re.oo;rw[v0.out,<-J0]at h1;rw[show ({r with am:=r.am+1}:RS).fr=r.fr from rfl,<-HN.out]at h1;exact Zj h1 (λk hk=>(((Below.refl w1.heap.size w1).alloc lE oo).block k (by have:=f0 k hk;omega)).trans (f0 k hk).2.2.2)
  have p0:O (∀(W4:World) (u:Value) (o2:Obj),W4.ownsRow base 272 1 u (n+1) (ys++[ptr w1.heap.size])->((w1.alloc oo).alloc o2).grownBy W4 (J ao n cap).ownBlock->(u.ownBlock=(J ao n cap).ownBlock\/u.ownBlock=some ((w1.alloc oo).alloc o2).heap.size)->Ze lo base R Pb lm vm cm w0 ap aX (.returned (.tuple #[])) (W4.setCell (Y R 43) u)):=λW4 u o2 h1 h2 h3'=>by
   have d1:zwz 272 lo base w0 (w1.alloc oo) (W4.setCell (Y R 43) u) R 43 (J ao n cap) u n ys (ptr w1.heap.size):=
    zwz.of (Wq.bel.alloc (by omega) _) (by omega) (by omega) (by omega) h1 h2 h3' (λk hk=>by have:=f0 k hk;exact⟨this.1,by omega,this.2.2.1⟩) (by omega)
   rw[<-v0.out,HN.out,J0]at d1;obtain⟨m',hm⟩:=Zo.opens (r:=r) a0 O0 (by rw[<-HN.out];omega) (z1:=w.heap.size) (sn:=W2.heap.size) (kind:=kind) (ln:=ln) (vp:=ptr pb) (e:=ex) i1 (λb hb=>(HH.re.wh b hb).2) (by omega) ⟨by omega,by rw[G0,W0.out]⟩ j1 HH.ok.cn a1
    (U0.kept (λb hb=>hb) (λb hb=>(H0 b (by have:=hb.1;omega) (by have:=hb.2;omega)).trans (F0 b hb.2))) I0 Wq oo
    (by rw[K0];exact Zh.new w1 [M W2.heap.size,.bool false] _) d1
   exact Ze.gx (by rw[A0.out];exact Z (by omega)) rfl hm
  have e1:O (∀k,(J ao n cap).ownBlock=some k->base<=k/\k<w1.heap.size/\k≠R):=λk hk=>by have:=f0 k hk;exact⟨this.1,by omega,this.2.2.1⟩
  have t0:∀i u,([M w1.heap.size]:Vs)[i]?=some u->((w1.alloc (.cells #[M W2.heap.size,.bool false] 275)).alloc (.cells #[M w1.heap.size] 272)).cell? (((Y (w1.heap.size+1) 0):Addr).add i)=some u:=by
   have:=(Xw:∀i u,([M w1.heap.size]:Vs)[i]?=some u->((w1.alloc (.cells #[M W2.heap.size,.bool false] 275)).alloc (.cells #[M w1.heap.size] 272)).cell? ((⟨(w1.alloc (.cells #[M W2.heap.size,.bool false] 275)).heap.size,0,none⟩:Addr).add i)=some u);rw[size_alloc]at this;exact this
  rw[K0]at o0 p0;obtain⟨i0,p1,q1,r1,s1⟩:=info_parts Tryz.infoPOpened;clear a0 H0 a1 I0 Wq n0 f0 b1 J0 K0 L0 U0 A0 h0 F0 HA z0 HH G0 HO c43
  go_wp2_with (at_builtin;refine Ap underlying125 p1 q1 r1 s1 rfl (o0.alloc _) rfl [M w1.heap.size] rfl rfl t0 ?c2 ?c3 ?c4 ?c5 ?_)
  case c2=>intro u hu;simp at hu;subst hu;rfl
  case c3=>unfold maxLen;omega
  case c4=>omega
  case c5=>simp;omega
  intro u W4 g0 M0 q0;obtain⟨va,vcap,rfl⟩:=zvz g0;have N0:W4.heap[R]?=w1.heap[R]?:=(M0.block R (by simp;omega) (λhh=>(e1 R hh.symm).2.2 rfl)).trans ((((Below.refl w1.heap.size w1).alloc lE _).alloc (by simp) _).block R o1);have g4:D W4 R 43 (J ao n cap):=cQ N0 e43;have gz:∀j,W4.frozen? (Y R j)=false:=λj=>fQ N0 (efz j);have HE:O (Ze lo base R Pb lm vm cm w0 ap aX (.returned (.tuple #[])) (W4.setCell (Y R 43) (J va (n+1) vcap))):=p0 W4 _ _ g0 M0 (by simp only[size_alloc]at q0⊢;exact q0);clear g0 M0 q0 N0 p0 o0 e1 e43 efz t0;go_wp2
  go_end0
  exact HE
end
section
variable{ap:Int}{m:Xv}
def ym3(h:Zo lo base R Pb lm vm cm w0 w r ap m)(c0:r.ae=true)(B:Nat)(v:Value)(k a:K)(ln:Nat)(b0:ap=(ln:Int))(hB:B<=w.heap.size)(hw:Zi B w v [a])(hk:(k==jo)=true):
  F 125 #[M R,v] w (Ze lo base R Pb lm vm cm w0 ap (r.bS ln [k,a])):=by
 have HO:O (F 159 #[M R,I 5,v] w (Ze lo base R Pb lm vm cm w0 ap (r.bS ln [k,a]))):=za6 h c0 B v k a ln 5 b0 hB hw (by rw[hk];rfl);obtain⟨aX,a0⟩:=U (r.bS ln [k,a]);rw[<-a0]at HO⊢
 obtain⟨ao,n,c,rfl⟩:∃ao n c,v=J ao n c:=by obtain⟨ao,c,h1,-⟩:=hw;exact⟨_,_,_,h1⟩
 clear h b0 hB hw hk a0
 go_enter func125,ntmps125
 go_wp2_with fail
 refine HO.mono ?_;rintro e W (⟨h1,rfl,hm⟩|⟨h1,rfl,hb⟩)
 ·have HE:O (Ze lo base R Pb lm vm cm w0 ap aX (.returned (.tuple #[])) W):=.inl ⟨h1,rfl,hm⟩
  clear h1 hm HO;go_wp2
  go_end0
  exact HE
 exact⟨rfl,.inr ⟨h1,rfl,hb⟩⟩
def yyy(h:Zo lo base R Pb lm vm cm w0 w r ap m)(c0:r.ae=true)(B:Nat)(v:Value)(k a:K)(ln:Nat)(b0:ap=(ln:Int))(hB:B<=w.heap.size)(hw:Zi B w v [a])(hk:(k==jo)=false):
  F 127 #[M R,v] w (Ze lo base R Pb lm vm cm w0 ap (r.bS ln [k,a])):=by
 have HO:O (F 159 #[M R,I 6,v] w (Ze lo base R Pb lm vm cm w0 ap (r.bS ln [k,a]))):=za6 h c0 B v k a ln 6 b0 hB hw (by rw[hk];rfl);obtain⟨aX,a0⟩:=U (r.bS ln [k,a]);rw[<-a0]at HO⊢
 obtain⟨ao,n,c,rfl⟩:∃ao n c,v=J ao n c:=by obtain⟨ao,c,h1,-⟩:=hw;exact⟨_,_,_,h1⟩
 clear h b0 hB hw hk a0
 go_enter func127,ntmps127
 go_wp2_with fail
 refine HO.mono ?_;rintro e W (⟨h1,rfl,hm⟩|⟨h1,rfl,hb⟩)
 ·have HE:O (Ze lo base R Pb lm vm cm w0 ap aX (.returned (.tuple #[])) W):=.inl ⟨h1,rfl,hm⟩
  clear h1 hm HO;go_wp2
  go_end0
  exact HE
 exact⟨rfl,.inr ⟨h1,rfl,hb⟩⟩
def Xn(r:RS)(ws:List K)(ln:Nat):Nat×RS:=if Fl.ap ws=true then r.row ws ln else(2,r)
def za7(ws:List K)(k:Nat)(hk:k<12)(hr:bN ws k=true):du (ws.getD 0 [])=(eg k).2.2:=by
 unfold bN at hr;simp only[Qk,beq_iff_eq]at hr;rw[hr.1];rcases(show k=0\/k=1\/k=2\/k=3\/k=4\/k=5\/k=6\/k=7\/k=8\/k=9\/k=10\/k=11 by omega) with rfl|rfl|rfl|rfl|rfl|rfl|rfl|rfl|rfl|rfl|rfl|rfl<;>rfl
def yi8(r:RS)(ws:List K)(ln k:Nat)(a0:ws≠[])(hk:k<12)(hr:bN ws k=true)(hb:(eg k).2.2≠r.ae):Xn r ws ln=if(eg k).2.2=true then r.head ws else r.bS ln ws:=by
 unfold Xn RS.row;rw[G ((iz ws a0).2 ⟨k,hk,hr⟩),za7 ws k hk hr,Z hb]
def ym4(ws:List K)(k:Nat)(a0:ws≠[])(hr:bN ws k=true):∃xs,ws=(eg k).1::xs/\ws.drop 1=xs/\bW (eg k).2.1 xs=true:=by
 match ws,a0 with
 |x::xs,_=>
  unfold bN at hr;simp only[Qk,beq_iff_eq]at hr;exact⟨xs,by rw[<-hr.1];rfl,rfl,hr.2⟩
def row_any(h:Zo lo base R Pb lm vm cm w0 w r ap m)(T b off n cap ln:Nat)(ws:List K)(hT:w.heap[T]?=some (.cells Vl 238 (0,0)))(i0:Zi w.heap.size w (Sq b off n cap) ws)(f0:ws≠[])(g0:ap=(ln:Int))(hb:base<=b/\m.bz b=5):
  F 70 #[M R,Sq T 0 12 12,Sq b off n cap] w (Ze lo base R Pb lm vm cm w0 ap (Xn r ws ln)):=by
 have bP:=h.bP;have cq:=h.cq;refine(ys8 R T b off n cap ws ap r.ae w (λW'=>(Xn r ws ln).1=0/\∃m',Zo lo base R Pb lm vm cm w0 W' (Xn r ws ln).2 ap m') (λn p W'=>p=ap/\n=((Xn r ws ln).1:Int)/\(Xn r ws ln).1≠0/\zux lo base R Pb lm vm cm w0 W') hT i0 f0 (h.cR.c 1 (by omega)) (h.cR.c 2 (by omega)) ?_ ?_ ?_).mono ?_
 ·intro dS W hW
  have hl:¬Fl.ap ws=true:=λhl=>by
   obtain⟨k,hk,hr⟩:=(iz ws f0).1 hl
   rw[dS k hk]at hr;cases hr
  have:Xn r ws ln=(2,r):=Z hl;rw[this];exact⟨rfl,rfl,Nat.succ_ne_zero _,h.gone hW⟩
 ·intro k hk hr b0 W hW
  have:Xn r ws ln=(3,r):=by
   unfold Xn RS.row;rw[G ((iz ws f0).2 ⟨k,hk,hr⟩),za7 ws k hk hr,G b0]
  rw[this];exact⟨rfl,rfl,Nat.succ_ne_zero _,h.gone hW⟩
 ·intro k hk hr b0 W v hW hv j0
  have hP:=h.below hW;have d0:=hW.size;have hO:=yi8 r ws ln k f0 hk hr b0;obtain⟨xs,hx,k0,a0⟩:=ym4 ws k f0 hr;rw[k0]at hv
  have c0:∀b',v.ownBlock=some b'->base<=b'/\m.bz b'=5:=λb' h'=>by rw[j0]at h';simp only[Ql]at h';subst h';exact hb
  have hM:∀(Wj:Nat),F Wj #[M R,v] W (Ze lo base R Pb lm vm cm w0 ap (Xn r ws ln))->F Wj #[M R,v] W λe W'=>(e=.returned (.tuple #[])/\(Xn r ws ln).1=0/\∃m',Zo lo base R Pb lm vm cm w0 W' (Xn r ws ln).2 ap m')\/∃n p,e=.panicked (Zf n p)/\p=ap/\n=((Xn r ws ln).1:Int)/\(Xn r ws ln).1≠0/\zux lo base R Pb lm vm cm w0 W':=λWj hF=>hF.mono (by
   rintro e W' (⟨h1,h2,h3⟩|⟨h1,h2,h3⟩)
   ·exact .inl ⟨h2,h1,h3⟩
   exact .inr ⟨_,_,h2,rfl,rfl,h1,h3⟩)
  have h0:(eg k).2.2=true->r.ae=false:=λht=>by rw[ht]at b0;cases l0:r.ae<;>simp_all
  have e0:(eg k).2.2=false->r.ae=true:=λht=>by rw[ht]at b0;cases l0:r.ae<;>simp_all
  refine hM _ ?_;rw[hO];clear hM hO b0;rcases(show k=0\/k=1\/k=2\/k=3\/k=4\/k=5\/k=6\/k=7\/k=8\/k=9\/k=10\/k=11 by omega) with rfl|rfl|rfl|rfl|rfl|rfl|rfl|rfl|rfl|rfl|rfl|rfl
  ·match xs,bX _ _ a0 with
   |[x],_=>rw[hx];exact yi1 hP (h0 rfl) w.heap.size v cN x d0 hv (λb' h'=>(c0 b' h').1)
  ·match xs,bX _ _ a0 with
   |[x,y],_=>rw[hx];exact yny hP (h0 rfl) w.heap.size v x y d0 hv (λb' h'=>(c0 b' h').1)
  ·match xs,bX _ _ a0 with
   |[x,y],_=>rw[hx];exact ye9 hP (h0 rfl) w.heap.size v x y d0 hv c0
  ·match xs,bX _ _ a0 with
   |[x,y],_=>rw[hx];exact ysv hP (h0 rfl) w.heap.size v x y d0 hv c0
  ·match xs,bX _ _ a0 with
   |[],_=>rw[hx];exact yi6 hP (h0 rfl) v dv (by obtain⟨ao,c,h1,-⟩:=hv;exact⟨_,_,_,h1⟩)
  ·match xs,bX _ _ a0 with
   |[x,y],_=>rw[hx];exact yp7 hP (e0 rfl) w.heap.size v fh x [y] ln g0 d0 hv c0 (by decide) (.inl (by have:=a0;simp only[eg,gU,getD_cons_succ,getD_cons_zero,bW,Qk]at this;simp only[bW,Qk];exact this.2))
  ·match xs,bX _ _ a0 with
   |[x,y,z,t],_=>rw[hx];exact yp7 hP (e0 rfl) w.heap.size v fh x [y,z,t] ln g0 d0 hv c0 (by decide) (.inr (by have:=a0;simp only[eg,gU,getD_cons_succ,getD_cons_zero,bW,Qk]at this;simp only[bW,Qk];exact this.2))
  ·match xs,bX _ _ a0 with
   |[x,y],_=>rw[hx];exact out_any hP (e0 rfl) w.heap.size v fY x [y] ln g0 d0 hv (by decide) (.inl (by have:=a0;simp only[eg,gU,getD_cons_succ,getD_cons_zero,bW,Qk]at this;simp only[bW,Qk];exact this.2))
  ·match xs,bX _ _ a0 with
   |[x],_=>rw[hx];exact ym3 hP (e0 rfl) w.heap.size v jo x ln g0 d0 hv (by decide)
  ·match xs,bX _ _ a0 with
   |[],_=>rw[hx];exact yu1 hP (e0 rfl) v eq ln (by decide)
  ·match xs,bX _ _ a0 with
   |[x],_=>rw[hx];exact yyy hP (e0 rfl) w.heap.size v eK x ln g0 d0 hv (by decide)
  match xs,bX _ _ a0 with
  |[],_=>rw[hx];exact end_any hP (e0 rfl) v gT ln (by decide)
 rintro e W' (⟨rfl,h1,h2⟩|⟨n',p,rfl,rfl,rfl,h1,h2⟩)
 ·exact .inl ⟨h1,rfl,h2⟩
 exact .inr ⟨h1,rfl,h2⟩
end
section
variable{ap:Int}{m:Xv}
def Zo.lZ(h:Zo lo base R Pb lm vm cm w0 w r ap m)(l':Int):Zo lo base R Pb lm vm cm w0 (w.setCell (Y R 1) (I l')) r l' m:=by
 obtain⟨b1,b2,b3,b4,b5,b6⟩:=h.bP;obtain⟨l1,l2,l3,l4,l5⟩:=h.cq;obtain⟨n1,n2,n3,n4,n5,n6,n7,n8,n9,n10⟩:=h.nd;have hz:(w.setCell (Y R 1) (I l')).heap.size=w.heap.size:=Zy _ _ _;have q:∀k,k≠R->(w.setCell (Y R 1) (I l')).heap[k]?=w.heap[k]?:=λk hk=>Zx _ _ _ _ _ hk
 exact{
     ok:=h.ok,bel:=h.bel.setCell (by show lo<=R;omega) _,fx:=λb f1 f2 f3 f4 f5 f6=>(q b f2).trans (h.fx b f1 f2 f3 f4 f5 f6),cq:=h.cq,bP:=⟨b1,b2,b3,b4,b5,by omega⟩,nd:=h.nd,cR:=(h.cR.set (j:=1) (by omega) (I l')).congr (λj hj=>by
      by_cases h4:j=1
      ·subst h4;rfl
      rw[Z h4];unfold Vx
      by_cases h0:j=0
      ·subst h0;rfl
      rw[Z h0,Z h0,Z h4,Z h4]),cP:=h.cP.block (q _ (Ne.symm n1)),nl:=h.nl.block (q _ (Ne.symm n2)),nv:=h.nv.block (q _ (Ne.symm n3)),nc:=h.nc.block (q _ (Ne.symm n4)),tab:=h.tab,re:=h.re.kept (by omega) (λk hk=>q k (by have:=h.re.wh k hk;omega))}
def yi9(h:Zo lo base R Pb lm vm cm w0 w r ap m)(B1 B2 T b n ln:Nat)(ws:List K)(e0:w.cell? (Y B1 0)=some (M R))(f0:w.cell? (Y B2 0)=some (Sq T 0 12 12))(hT:w.heap[T]?=some (.cells Vl 238 (0,0)))(hd:B1≠R/\B2≠R/\T≠R)
  (c0:Zi w.heap.size w (Sq b 0 n n) ws) (d0:ws≠[]) (hb:base<=b/\m.bz b=5):
  F 69 #[I ln,Sq b 0 n n,M B1,M B2] w (Ze lo base R Pb lm vm cm w0 ln (Xn r ws ln)):=by
 have bP:=h.bP;obtain⟨d1,d2,d3⟩:=hd;have hz:(w.setCell (Y R 1) (I ln)).heap.size=w.heap.size:=Zy _ _ _;have q:∀k,k≠R->(w.setCell (Y R 1) (I ln)).heap[k]?=w.heap[k]?:=λk hk=>Zx _ _ _ _ _ hk;have H1:=h.lZ (ln:Int);have a0:Zi (w.setCell (Y R 1) (I ln)).heap.size (w.setCell (Y R 1) (I ln)) (Sq b 0 n n) ws:=by
  obtain⟨ao,c,h1,h2,h3,h4,h5,h6⟩:=c0;refine⟨ao,c,h1,h2,h3,h4,h5,λhn=>?_⟩;obtain⟨b',off,e,hb',hc⟩:=h6 hn;refine⟨b',off,e,by rw[hz];exact hb',λi hi=>?_⟩;have he:b'=b:=(by rw[e]at h1;simp only[slice.injEq,Ql,Addr.mk.injEq]at h1;exact h1.1.1.symm);exact(cQ (q b' (by omega)) (hc i hi))
 have HR:O (F 70 #[M R,Sq T 0 12 12,Sq b 0 n n] (w.setCell (Y R 1) (I ln)) (Ze lo base R Pb lm vm cm w0 ln (Xn r ws ln))):=
  row_any H1 T b 0 n n ln ws ((q T d3).trans hT) a0 d0 rfl hb
 obtain⟨aX,b0⟩:=U (Xn r ws ln);rw[<-b0]at HR⊢;have e1:D (w.setCell (Y R 1) (I ln)) B1 0 (M R):=cQ (q B1 d1) e0;have e2:D (w.setCell (Y R 1) (I ln)) B2 0 (Sq T 0 12 12):=cQ (q B2 d2) f0;have c1:D w R 1 (I ap):=h.cR.c 1 (by omega);have zR:=h.cR.z;clear h hz q H1 a0 c0 hT b0 hb d0
 go_enter func69,ntmps69
 go_wp2_with fail
 refine HR.mono ?_;rintro e W (⟨h1,rfl,hm⟩|⟨h1,rfl,hb⟩)
 ·have HE:O (Ze lo base R Pb lm vm cm w0 ln aX (.returned (.tuple #[])) W):=.inl ⟨h1,rfl,hm⟩
  clear h1 hm HR;go_wp2
  go_end0
  exact HE
 exact⟨rfl,.inr ⟨h1,rfl,hb⟩⟩
end
end Go.Proofs.YtjmcibbdedlcoaaGreatDoor
namespace Go.Proofs.YtjmcibbdedlcoaaGreatDoor
open Go.Proofs.Tryz List World Value Fl
variable{lo base R Pb lm vm cm:Nat}{w0 w w' W V:World}{r:RS}{S S':Nat->Prop}{v v':Value}{l:K}
def zm3(c:UInt8)(s:K):(aC c s).length<=s.length+1/\∀x∈aC c s,x.length<=s.length:=by
 induction s with
 |nil=>simp[aC]
 |cons a r ih=>
  unfold aC
  split
  ·refine⟨by simp;omega,λx hx=>?_⟩
   rcases mem_cons.1 hx with rfl|hx
   ·simp
   have:=ih.2 x hx;simp;omega
  cases hc:aC c r with
  |nil=>exact absurd hc (dE c r)
  |cons y t=>
   rw[hc]at ih;simp only[eZ,length_cons]at ih⊢;refine⟨by omega,λx hx=>?_⟩;rcases mem_cons.1 hx with rfl|hx
   ·have:=ih.2 y (by simp);simp;omega
   have:=ih.2 x (by simp[hx]);omega
open Go.RowKit
def Yg(w:World):Prop:=∃m,w.cell? ⟨1,0,none⟩=some (I m)
def Yg.below{B:Nat}(h:Yg w)(hB:w.heap.size<=B)(hb:Below B w w'):Yg w':=by
 obtain⟨m,h⟩:=h;have hl:=Qe w _ h;exact⟨m,(hb.cell (p:=⟨1,0,none⟩) (by omega)).trans h⟩
def yez(l:K)(w:World)(hl:l.length<=100000)(h:Yg w):F 129 #[Tq l,.string ⟨#[10]⟩] w (Rw (.tuple #[.string ⟨(Lib.cut l [10]).1.toArray⟩,.string ⟨(Lib.cut l [10]).2.1.toArray⟩,.bool (Lib.cut l [10]).2.2]) w):=by
 obtain⟨m,h⟩:=h;refine(Tryz.strings_Cut ⟨l.toArray⟩ ⟨#[10]⟩ m w (by show l.toArray.size<_;simp;omega) h).mono ?_;rintro e w' ⟨rfl,n,rfl⟩;exact⟨rfl,below_drewN (Below.refl _ _) n⟩
def yey(l:List ByteArray):l.map string=(l.map (·.data.toList)).map strV:=by
 rw[map_map];refine map_congr_left (λb _=>?_);show string b=Tq b.data.toList;simp
def ym5(l:K)(w:World)(hl:l.length<=40000)(h:Yg w):F 130 #[Tq l,.string ⟨#[32]⟩] w λe w'=>e=.returned (Sq w.heap.size 0 (aC 32 l).length (aC 32 l).length)/\Zi w'.heap.size w' (Sq w.heap.size 0 (aC 32 l).length (aC 32 l).length) (aC 32 l)/\E w w':=by
 obtain⟨m,h⟩:=h;refine(Tryz.strings_Split ⟨l.toArray⟩ ⟨#[32]⟩ m w (by show l.toArray.size<_;simp;omega) h (by decide)).mono ?_;have hd:(Lib.splitB ⟨#[32]⟩ 0 (Lib.countB ⟨l.toArray⟩ ⟨#[32]⟩) ⟨l.toArray⟩).map (·.data.toList)=aC 32 l:=by
  rw[Lib.splitB_data,<-kK];rfl
 have hn:Lib.countB ⟨l.toArray⟩ ⟨#[32]⟩+1=(aC 32 l).length:=by
  rw[<-hd,length_map,Lib.splitB_all ⟨#[32]⟩ (by decide) 0 _ _ rfl]
 obtain⟨b0,a0⟩:=zm3 32 l;rintro e w' ⟨rfl,rfl⟩;rw[yey,hd,hn];refine⟨rfl,⟨_,_,rfl,lE,by unfold maxLen;omega,by omega,λx hx=>by have:=a0 x hx;omega,λ_=>⟨_,0,rfl,by simp,λi hi=>?_⟩⟩,bA⟩;rw[Nat.zero_add,cell?_alloc_new];simp[Qa,hi]
def zhy(St:Nat->K->World->Prop)(Rp:Int->Int->World->Prop)(e:Ending)(w':World):Prop:=
 (∃i:Nat,e=.returned (I i)/\0<i/\St i [] w')\/∃n p,e=.panicked (Zf n p)/\Rp n p w'
def yiz(f:FuncId)(cap:Array Value)(l:K)(w:World)(St:Nat->K->World->Prop)(Rp:Int->Int->World->Prop)
  (A0:∀args W,(callFunc f args).run prog W=.ok (.enter f args) W)
  (hb:∀i s W W',St i s W->E W W'->St i s W')
  (hm:∀i s W,St i s W->Yg W)
  (hs:∀i s W,St i s W->s.length+i<=40000)
  (hr:∀i s W,St i s W->(i=0\/s≠[])->(Lib.cut s [10]).2.2=false->Rp 2 ((i:Int)+1) W)
  (hd:∀i s W0 W b n,St i s W0->E W0 W->W0.heap.size<=b->b<W.heap.size->(i=0\/s≠[])->(Lib.cut s [10]).2.2=true->n=(aC 32 (Lib.cut s [10]).1).length->Zi W.heap.size W (Sq b 0 n n) (aC 32 (Lib.cut s [10]).1)->
   F f (#[I ((i:Int)+1),Sq b 0 n n]++cap) W λe W'=>(e=.returned (.tuple #[])/\St (i+1) (Lib.cut s [10]).2.1 W')\/∃n p,e=.panicked (Zf n p)/\Rp n p W')
  (h0:St 0 l w):
  F 68 #[Tq l,.func (.func f) #[] cap] w (zhy St Rp):=by
 have HB:=A hb;have HM:=A hm;have HS:=A hs;have r0:=A hr;have HD:=A hd;have H0:=A h0;clear hb hm hs hr hd h0
 go_enter func68,ntmps68
 go_wp2
 go_loopw [0,5] (λs i wr=>∃(k:Nat) (t:K),s=.string ⟨t.toArray⟩/\i=I k/\St k t wr) (λs i _=>match s with| .string b=>b.size|_=>0)
 case atStart=>exact⟨0,l,rfl,rfl,H0⟩
 case round=>
  obtain⟨k,t,rfl,rfl,dx⟩:=hrel;have g0:=A dx;have cH:=HS k t wr dx;clear dx
  by_cases d0:k=0\/t≠[]
  ·have b0:((k:Int)==0)=true\/((k:Int)==0)=false/\t.isEmpty=false:=by
    rcases d0 with h|h
    ·left;simp[h]
    by_cases hk:k=0
    ·left;simp[hk]
    right;exact⟨by simp;omega,by simpa using h⟩
   have n0:=A d0;clear d0;have hcut:=yez t wr (by omega) (HM _ _ _ g0);obtain⟨a,r,en,i0⟩:∃a r en,Lib.cut t [10]=(a,r,en):=⟨_,_,_,rfl⟩;rw[i0]at hcut;have j0:=A hcut;have c0:=A i0;clear hcut i0;rcases b0 with b0|⟨b0,b1⟩
   all_goals
    go_wp2_with fail
    refine j0.mono ?_;rintro e w1 ⟨rfl,o0⟩;have a0:O (St k t w1):=HB _ _ _ _ g0 o0;clear o0
    cases en with
    |false=>
     go_wp2_with fail
     refine(zqz 2 ((k:Int)+1) w1).mono ?_;rintro e w2 ⟨rfl,e0⟩;exact⟨rfl,.inr ⟨_,_,rfl,r0 k t w2 (HB _ _ _ _ a0 e0) n0 (by rw[c0.out])⟩⟩
    |true=>
     have f0:=iy 10 t (by rw[c0.out]);rw[c0.out]at f0;have s0:r.length<t.length:=f0.2;have t0:a.length<=40000:=by
      have:=(zm3 10 t).2 a (by rw[f0.1];exact mem_cons_self);omega
     clear f0;obtain⟨nw,k0⟩:=U ((aC 32 a).length);have u0:O (F 130 #[Tq a,.string ⟨#[32]⟩] w1 λe w'=>e=.returned (Sq w1.heap.size 0 nw nw)/\Zi w'.heap.size w' (Sq w1.heap.size 0 nw nw) (aC 32 a)/\E w1 w'):=by
      show Calls _ _ _ _ _;rw[k0];exact ym5 a w1 t0 (HM _ _ _ a0)
     have v0:=A k0;clear k0
     go_wp2_with fail
     refine u0.mono ?_;rintro e w2 ⟨rfl,l0,e0⟩;have x0:O (St k t w2):=HB _ _ _ _ a0 e0;have p0:w1.heap.size<w2.heap.size:=by
      obtain⟨ao,c,h1,h2,h3,h4,h5,h6⟩:=id l0;obtain⟨b,off,e,hb,hc⟩:=h6 (dE 32 a);rw[e]at h1;simp only[slice.injEq,Ql,Addr.mk.injEq]at h1;rw[h1.1.1];exact hb
     have m0:=HD k t w1 w2 w1.heap.size nw a0 e0 lE p0 n0 (by rw[c0.out]) (by rw[c0.out];exact v0) (by rw[c0.out];exact l0);rw[c0.out]at m0;have y0:=A m0;clear l0 e0 m0 p0
     go_wp2_with fail
     refine y0.mono ?_;rintro e w3 (⟨rfl,q0⟩|⟨n,p,rfl,hp⟩)
     ·have z0:=A q0
      clear q0;go_wp2
      go_roundw
      case rel=>exact⟨k+1,r,rfl,by go_num,z0⟩
      case measure=>exact s0
     exact⟨rfl,.inr ⟨_,_,rfl,hp⟩⟩
  have hk:k≠0:=λh=>d0 (.inl h);have ht:t=[]:=Classical.byContradiction λh=>d0 (.inr h);subst ht;have b0:((k:Int)==0)=false:=(by simp;omega);have HK:O (0<k):=(by show 0<k;omega);clear d0 hk;go_wp2;go_ret;exact .inl ⟨k,rfl,HK,g0⟩
end Go.Proofs.YtjmcibbdedlcoaaGreatDoor
namespace Go.Proofs.YtjmcibbdedlcoaaGreatDoor
open Go.Proofs.Tryz List World Value Fl
variable{lo base R Pb lm vm cm:Nat}{w0 w w' W V:World}{r:RS}{S S':Nat->Prop}{v v':Value}{l:K}
def yex(r:RS)(i:Nat)(l m:K)(ls:List K):rows r i (l::m::ls)=if(Xn r (aC 32 l) (i+1)).1≠0 then((Xn r (aC 32 l) (i+1)).1,i+1,r) else rows (Xn r (aC 32 l) (i+1)).2 (i+1) (m::ls):=by
 rw[rows];unfold Xn
 by_cases h:Fl.ap (aC 32 l)=true
 ·rw[Z (by rw[h];decide),G h]
 rw[G (by simpa using h),Z h];rfl
def ym6(r:RS)(i:Nat)(s:K)(h:(Lib.cut s [10]).2.2=true):rows r i (aC 10 s)=if(Xn r (aC 32 (Lib.cut s [10]).1) (i+1)).1≠0 then((Xn r (aC 32 (Lib.cut s [10]).1) (i+1)).1,i+1,r) else rows (Xn r (aC 32 (Lib.cut s [10]).1) (i+1)).2 (i+1) (aC 10 (Lib.cut s [10]).2.1):=by
 rw[(iy 10 s h).1]
 cases hc:aC 10 (Lib.cut s [10]).2.1 with
 |nil=>exact absurd hc (dE _ _)
 |cons m ls=>exact yex r i _ m ls
def yr1(r:RS)(i:Nat)(s:K)(h:(Lib.cut s [10]).2.2=false)(hs:i=0\/s≠[]):rows r i (aC 10 s)=(2,i+1,r):=by
 rw[(kJ 10 s h).1,rows]
 exact Z (λhh=>by
   rcases hs with hs|hs
   ·omega
   exact hs hh.1)
def yew(r:RS)(i:Nat)(h:0<i):rows r i (aC 10 [])=if r.ae=true/\r.fr=[] then(0,0,r) else(3,i+1,r):=by
 show rows r i [[]]=_;rw[rows];exact G ⟨rfl,h⟩
open Go.RowKit
def mem0:Xv:=⟨λ_=>5,.pointer none,Zq,Zq,Zq,Zq,[],λ_ _=>false⟩
def rsOk0:RsOk RS.zero:=
 {cn:=⟨by decide,trivial⟩,lv:=by decide,ce:=by decide,ch:=by decide,lo:=by decide,st:=by decide,fr:=by decide,cl:=rfl,hl:=rfl,dw:=rfl,below:=λp hp=>(by cases hp),bC:=λx hx=>(by cases hx),bH:=λx hx=>(by cases hx),dm:=λf hf=>(by cases hf),head:=λ_=>⟨rfl,rfl,rfl,rfl⟩,fA:=λh=>(by cases h)}
def Zo.zero{lo R Pb lm vm cm:Nat}{W:World}(cq:lo<=R/\lo<=Pb/\lo<=lm/\lo<=vm/\lo<=cm)(hz:R<W.heap.size/\Pb<W.heap.size/\lm<W.heap.size/\vm<W.heap.size/\cm<W.heap.size)
  (nd:R≠Pb/\R≠lm/\R≠vm/\R≠cm/\Pb≠lm/\Pb≠vm/\Pb≠cm/\lm≠vm/\lm≠cm/\vm≠cm) (ap:Int) (hR:Zh W R 45 (Vx Pb lm vm cm ap RS.zero mem0)) (hP:Zh W Pb 5 (rw_ [.pointer none,Zq,Zq,I 0,Zq]))
  (nl:Yy W lm []) (nv:Yy W vm []) (nc:Yy W cm []):Zo lo W.heap.size R Pb lm vm cm W W RS.zero ap mem0:=
 {ok:=rsOk0,bel:=Below.refl _ _,fx:=λ_ _ _ _ _ _ _=>rfl,cq:=cq,bP:=⟨hz.1,hz.2.1,hz.2.2.1,hz.2.2.2.1,hz.2.2.2.2,lE⟩,nd:=nd,cR:=hR,cP:=hP,nl:=nl,nv:=nv,nc:=nc,tab:=λi j hi hj=>(by show false=_;simp[RS.zero]),re:={wh:=λb h=>absurd rfl h,oc:=zm2 _ _,tc:=λb h=>(by cases h),oh:=zm2 _ _,th:=λb h=>(by cases h),pb:=Yr.none _ _ _,tb:=λb h=>(by cases h),fa:=trivial,oo:=zm2 _ _,to:=λb h=>(by cases h),la:=λh=>(by cases h)}}
def TxSt(lo base R Pb lm vm cm:Nat)(W0:World)(l:K)(i:Nat)(s:K)(W:World):Prop:=
 s.length+i<=40000/\∃r ap m,Zo lo base R Pb lm vm cm W0 W r ap m/\rows RS.zero 0 (aC 10 l)=rows r i (aC 10 s)
def zjw(lo base R Pb lm vm cm:Nat)(W0:World)(l:K)(n p:Int)(W:World):Prop:=
 zux lo base R Pb lm vm cm W0 W/\n=((rows RS.zero 0 (aC 10 l)).1:Int)/\p=((rows RS.zero 0 (aC 10 l)).2.1:Int)/\(rows RS.zero 0 (aC 10 l)).1≠0
def ym7{W0:World}{ap:Int}{m:Xv}(h:Zo lo base R Pb lm vm cm W0 W RS.zero ap m)(l:K)(hl:l.length<=1200)(B1 B2 T:Nat)(hg:1<lo)(hm:Yg W0)
  (b0:∀args W,(callFunc 69 args).run prog W=.ok (.enter 69 args) W)
  (d1:B1<base/\B1≠R/\B1≠Pb/\B1≠lm/\B1≠vm/\B1≠cm) (d2:B2<base/\B2≠R/\B2≠Pb/\B2≠lm/\B2≠vm/\B2≠cm) (d3:T<base/\T≠R/\T≠Pb/\T≠lm/\T≠vm/\T≠cm)
  (c0:W0.cell? (Y B1 0)=some (M R)) (d0:W0.cell? (Y B2 0)=some (Sq T 0 12 12)) (hT:W0.heap[T]?=some (.cells Vl 238 (0,0))):
  F 68 #[Tq l,.func (.func 69) #[] #[M B1,M B2]] W (zhy (TxSt lo base R Pb lm vm cm W0 l) (zjw lo base R Pb lm vm cm W0 l)):=by
 refine yiz 69 _ l W (TxSt lo base R Pb lm vm cm W0 l) (zjw lo base R Pb lm vm cm W0 l) b0 ?_ ?_ ?_ ?_ ?_ ⟨by omega,RS.zero,ap,m,h,rfl⟩
 ·rintro i s W1 W2 ⟨h1,r,ln,m,h2,h3⟩ hb
  exact⟨h1,r,ln,m,h2.below hb,h3⟩
 ·rintro i s W1 ⟨h1,r,ln,m,h2,h3⟩
  obtain⟨x,hx⟩:=hm;exact⟨x,(h2.bel.cell (p:=⟨1,0,none⟩) hg).trans hx⟩
 ·rintro i s W1 ⟨h1,-⟩;exact h1
 ·rintro i s W1 ⟨h1,r,ln,m,h2,h3⟩ hs hc
  unfold zjw;rw[h3,yr1 r i s hc hs];exact⟨⟨h2.bel,h2.fx⟩,rfl,by simp,Nat.succ_ne_zero _⟩
 rintro i s W1 W2 b n ⟨h1,r,ln,m,h2,h3⟩ hb i0 j0 hs hc hn e0;have hP:=h2.below hb;have bP:=h2.bP;have e1:D W2 B1 0 (M R):=cQ (hP.fx B1 d1.1 d1.2.1 d1.2.2.1 d1.2.2.2.1 d1.2.2.2.2.1 d1.2.2.2.2.2) c0;have e2:D W2 B2 0 (Sq T 0 12 12):=cQ (hP.fx B2 d2.1 d2.2.1 d2.2.2.1 d2.2.2.2.1 d2.2.2.2.2.1 d2.2.2.2.2.2) d0;have e3:W2.heap[T]?=some (.cells Vl 238 (0,0)):=(hP.fx T d3.1 d3.2.1 d3.2.2.1 d3.2.2.2.1 d3.2.2.2.2.1 d3.2.2.2.2.2).trans hT
 have f0:m.bz b=5:=Classical.byContradiction λg0=>by have:=(h2.re.wh b g0).2;omega
 have h0:=yi9 hP B1 B2 T b n (i+1) _ e1 e2 e3 ⟨d1.2.1,d2.2.1,d3.2.1⟩ e0 (dE 32 _) ⟨by omega,f0⟩;have a0:=ym6 r i s hc;have bt:=(iy 10 s hc).2;refine Calls.mono h0 ?_;rintro e W3 (⟨g1,rfl,m',g2⟩|⟨g1,rfl,g2⟩)
 ·refine .inl ⟨rfl,by omega,_,_,m',g2,?_⟩
  rw[h3,a0,Z (by simpa using g1)]
 refine .inr ⟨_,_,rfl,?_⟩;unfold zjw;rw[h3,a0,G g1];exact⟨g2,rfl,rfl,g1⟩
def yiy(R:Nat)(l:K)(hl:1200<l.length)(c0:l.length<=100000)(w:World):
  F 41 #[M R,Tq l] w λe w'=>e=.panicked (Zf 1 0)/\E w w':=by
 have b1:(1200:Int)<(l.length:Int):=by omega
 have a0:O (∀W,F 66 #[I 1,I 0] W λe w'=>e=.panicked (Zf 1 0)/\E W w'):=zqz 1 0;have hA:∀o,E w (w.alloc o):=λo=>bA;have HA:=A hA;clear hA
 go_enter func41,ntmps41
 go_wp2_with fail
 refine(a0 _).mono ?_;rintro e w1 ⟨rfl,b0⟩;exact⟨rfl,rfl,(HA _).trans (b0.mono (by simp))⟩
def txW(w:World)(R:Nat):World:=((w.alloc (.cells #[M R] 118)).alloc (.cells Vl 238)).alloc (.cells #[Sq (w.heap.size+1) 0 12 12] 180)
def yu3(w:World)(R:Nat):(txW w R).heap.size=w.heap.size+3:=by simp[txW]
def za8(w:World)(R:Nat):E w (txW w R):=(((Below.refl _ w).alloc lE _).alloc (by simp) _).alloc (by simp;omega) _
def ym8(w:World)(R:Nat):(txW w R).heap[w.heap.size]?=some (.cells #[M R] 118)/\(txW w R).heap[w.heap.size+1]?=some (.cells Vl 238)/\(txW w R).heap[w.heap.size+1+1]?=some (.cells #[Sq (w.heap.size+1) 0 12 12] 180):=by
 have a:∀(u:World) (o:Obj) (k:Nat),k<u.heap.size->(u.alloc o).heap[k]?=u.heap[k]?:=λu o k hk=>Below.heap_alloc _ _ _ hk
 have l:∀(u:World) (o:Obj) (k:Nat),u.heap.size=k->(u.alloc o).heap[k]?=some o:=λu o k hk=>by subst hk;exact heap_alloc_last u o
 unfold txW;refine⟨?_,?_,?_⟩
 ·rw[a _ _ _ (by simp;omega),a _ _ _ (by simp),l _ _ _ rfl]
 ·rw[a _ _ _ (by simp),l _ _ _ (by simp)]
 rw[l _ _ _ (by simp)]
def yu4(lo base R Pb lm vm cm:Nat)(W0:World)(q:Nat×Nat×RS)(e:Ending)(w':World):Prop:=
 (q.1=0/\e=.returned (.tuple #[])/\q.2.2.ae=true/\q.2.2.fr=[]/\∃ap m,Zo lo base R Pb lm vm cm W0 w' q.2.2 ap m)\/(q.1≠0/\e=.panicked (Zf q.1 q.2.1)/\zux lo base R Pb lm vm cm W0 w')
def yev(cq:lo<=R/\lo<=Pb/\lo<=lm/\lo<=vm/\lo<=cm)(hz:R<w.heap.size/\Pb<w.heap.size/\lm<w.heap.size/\vm<w.heap.size/\cm<w.heap.size)
  (nd:R≠Pb/\R≠lm/\R≠vm/\R≠cm/\Pb≠lm/\Pb≠vm/\Pb≠cm/\lm≠vm/\lm≠cm/\vm≠cm) (hR:Zh w R 45 (Vx Pb lm vm cm 0 RS.zero mem0)) (hP:Zh w Pb 5 (rw_ [.pointer none,Zq,Zq,I 0,Zq]))
  (nl:Yy w lm []) (nv:Yy w vm []) (nc:Yy w cm []) (hg:1<lo) (hm:Yg w) (l:K) (hl:l.length<=1200):
  F 41 #[M R,Tq l] w (yu4 lo (w.heap.size+3) R Pb lm vm cm (txW w R) (rows RS.zero 0 (aC 10 l))):=by
 have b1:(l.length:Int)<=1200:=by omega
 have A0:∀(fn:Fn) (first cap:Array Value) (w:World),(Instr.makeFunc fn first cap).run prog w=.ok (.func fn first cap) w:=λ_ _ _ _=>rfl;obtain⟨k1,k2,k3⟩:=ym8 w R;have cH:=yu3 w R;have n0:=za8 w R;have hb:∀b,b<w.heap.size->(txW w R).heap[b]?=w.heap[b]?:=λb h=>n0.block b h;have h0:Zo lo (txW w R).heap.size R Pb lm vm cm (txW w R) (txW w R) RS.zero 0 mem0:=Zo.zero cq (by omega) nd 0 (hR.block (hb _ hz.1)) (hP.block (hb _ hz.2.1)) (nl.block (hb _ hz.2.2.1)) (nv.block (hb _ hz.2.2.2.1)) (nc.block (hb _ hz.2.2.2.2));rw[cH]at h0
 have d1:w.heap.size<w.heap.size+3/\w.heap.size≠R/\w.heap.size≠Pb/\w.heap.size≠lm/\w.heap.size≠vm/\w.heap.size≠cm:=by omega
 have o0:D (txW w R) w.heap.size 0 (M R):=cR 0 k1;have HE:O (F 68 #[Tq l,.func (.func 69) #[] #[M w.heap.size,Pp (w.heap.size+1+1) 0]] (txW w R) (zhy (TxSt lo (w.heap.size+3) R Pb lm vm cm (txW w R) l) (zjw lo (w.heap.size+3) R Pb lm vm cm (txW w R) l))):=by
  refine ym7 h0 l hl w.heap.size (w.heap.size+1+1) (w.heap.size+1) hg ?_ ?_ d1 (by omega) (by omega) o0 (cR 0 k3) k2
  ·obtain⟨x,hx⟩:=hm
   exact⟨x,(n0.cell (p:=⟨1,0,none⟩) (by show 1<w.heap.size;omega)).trans hx⟩
  intro args W;kernel_rfl
 have p0:=A o0;obtain⟨q,hq⟩:=U (rows RS.zero 0 (aC 10 l));rw[<-hq];have HQ:=A hq;have HD:=A d1;obtain⟨W,hW⟩:=U (txW w R);rw[<-hW]at HE p0⊢;have HW:=A hW;clear cq hz nd hR hP nl nv nc hg hm k1 k2 k3 cH n0 hb h0 o0 hq d1 hW
 go_enter func41,ntmps41
 go_wp2_with fail
 refine(yy4 _).mono ?_;rintro e w1 ⟨rfl,s0⟩;rw[s0];clear s0 w1
 go_wp2_with fail
 have k0:=HE.out;rw[HW.out]at k0;unfold txW at k0;refine Calls.mono k0 ?_;clear k0 HE;rintro e W1 (⟨i,rfl,hi,dx⟩|⟨n,p,rfl,d0⟩)
 ·change TxSt lo (w.heap.size+3) R Pb lm vm cm (txW w R) l i [] W1 at dx
  rw[<-HW.out]at dx;obtain⟨h1,r,ln,m,hP,hr⟩:=dx;have i1:(i:Int)+1<=50000:=(by simp at h1;omega);have g0:O (Zo lo (w.heap.size+3) R Pb lm vm cm W (W1.setCell (Y R 1) (I ((i:Int)+1))) r ((i:Int)+1) m):=hP.lZ _;have qb:∀k,k≠R->(W1.setCell (Y R 1) (I ((i:Int)+1))).heap[k]?=W1.heap[k]?:=λk hk=>Zx _ _ _ _ _ hk;have c0:D W1 w.heap.size 0 (M R):=cQ (hP.fx _ HD.1 HD.2.1 HD.2.2.1 HD.2.2.2.1 HD.2.2.2.2.1 HD.2.2.2.2.2) p0.out;have e0:(W1.setCell (Y R 1) (I ((i:Int)+1))).cell? (Y w.heap.size 0)=some (M R):=cQ (qb _ HD.2.1) c0;have c1:D W1 R 1 (I ln):=hP.cR.c 1 (by omega);have zR:=hP.cR.z;have e2:(W1.setCell (Y R 1) (I ((i:Int)+1))).cell? (Y R 2)=some (.bool r.ae):=g0.cR.c 2 (by omega);have e43:(W1.setCell (Y R 1) (I ((i:Int)+1))).cell? (Y R 43)=some m.ov:=g0.cR.c 43 (by omega);obtain⟨ao,cp,t0⟩:∃ao cp,m.ov=J ao r.fr.length cp:=by
   rcases hP.re.oo.2 with⟨h2,h3⟩|⟨g,cap,cur,h2,-⟩
   ·exact⟨none,0,by rw[h2,h3]⟩
   exact⟨_,_,h2⟩
  rw[t0]at e43;have i0:O (q=if r.ae=true/\r.fr=[] then(0,0,r) else(3,i+1,r)):=(by show _=_;rw[HQ.out,hr,yew r i hi]);have HZ:O (lo<=W1.heap.size):=(by show lo<=_;have:=hP.cq;have:=hP.bP;omega);obtain⟨W2,l0⟩:=U (W1.setCell (Y R 1) (I ((i:Int)+1)));have y0:=A l0;have j0:W2.heap.size=W1.heap.size:=(by rw[l0];exact Zy _ _ _);have B0:O (lo<=W2.drew.heap.size):=(by show lo<=W2.heap.size;rw[j0];exact HZ);rw[<-l0]at g0 e0 e2 e43;have f0:D W2.drew w.heap.size 0 (M R):=e0;have f2:D W2.drew R 2 (.bool r.ae):=e2;have f43:D W2.drew R 43 (J ao r.fr.length cp):=e43;have q0:O (F 71 #[M R,.bool false,I 3] W2.drew λe w'=>e=.panicked (Zf 3 ((i:Int)+1))/\Below W2.drew.heap.size W2.drew w'):=Ye R 3 _ W2.drew (g0.drew.cR.c 1 (by omega));have m0:O (F 71 #[M R,.bool true,I 3] W2.drew (Rq (.tuple #[]) W2.drew)):=Xc R 3 W2.drew;clear hP hr hi h1 e0 e2 e43 qb t0 HQ HD p0 l0 j0 HZ
  go_wp2_with fail
  rw[<-y0.out]
  cases a0:r.ae with
  |false=>
   rw[a0]at f2;have HR:O (q=(3,i+1,r)):=(by show _=_;rw[i0.out,Z (by rw[a0];simp)]);clear a0 c0 c1 zR b1 m0 i0;refine Xg 13 5 _ 5 _ (by kernel_rfl) (by kernel_rfl) rfl rfl (λops hY u0=>?_);simp only[take_succ_cons,take_zero,drop_succ_cons,drop_zero]
   iterate 13 still_step
   refine wpStill_nil ?_
   go_wp2_with fail
   refine q0.mono ?_;rintro e w3 ⟨rfl,r0⟩;refine⟨rfl,.inr ⟨?_,?_,?_⟩⟩
   ·rw[HR.out];exact Nat.succ_ne_zero _
   ·rw[HR.out];rfl
   exact g0.drew.gone r0
  |true=>
   rw[a0]at f2
   by_cases b0:r.fr=[]
   ·have HR:O (q=(0,0,r)):=by show _=_;rw[i0.out,G ⟨a0,b0⟩]
    have HG:O (r.ae=true/\r.fr=[]):=⟨a0,b0⟩;rw[b0]at f43;simp only[length_nil]at f43;clear a0 c0 c1 zR b1 q0 i0 b0;refine Xg 13 5 _ 5 _ (by kernel_rfl) (by kernel_rfl) rfl rfl (λops hY u0=>?_);simp only[take_succ_cons,take_zero,drop_succ_cons,drop_zero]
    iterate 13 still_step
    refine wpStill_nil ?_
    go_wp2_with fail
    refine m0.mono ?_;rintro e w3 ⟨rfl,v0⟩;have HE:O (yu4 lo (w.heap.size+3) R Pb lm vm cm W q (.returned (.tuple #[])) w3):=by
     show yu4 _ _ _ _ _ _ _ _ _ _ _;rw[HR.out,v0];exact .inl ⟨rfl,rfl,HG.1,HG.2,_,_,g0.drew⟩
    clear v0 f0 f2 f43 m0;go_wp2
    go_end0
    exact HE
   have HR:O (q=(3,i+1,r)):=(by show _=_;rw[i0.out,Z (λh=>b0 h.2)]);have z0:((r.fr.length:Int)==0)=false:=by
    have:r.fr.length≠0:=λh=>b0 (Qi h);simp;exact b0
   obtain⟨nf,x0⟩:=U (r.fr.length);rw[<-x0]at z0 f43;clear a0 c0 c1 zR b1 m0 i0 b0 x0;refine Xg 13 5 _ 5 _ (by kernel_rfl) (by kernel_rfl) rfl rfl (λops hY u0=>?_);simp only[take_succ_cons,take_zero,drop_succ_cons,drop_zero]
   iterate 13 still_step
   refine wpStill_nil ?_
   go_wp2_with fail
   refine q0.mono ?_;rintro e w3 ⟨rfl,r0⟩;refine⟨rfl,.inr ⟨?_,?_,?_⟩⟩
   ·rw[HR.out];exact Nat.succ_ne_zero _
   ·rw[HR.out];rfl
   exact g0.drew.gone r0
 change zjw lo (w.heap.size+3) R Pb lm vm cm (txW w R) l n p W1 at d0
 rw[<-HW.out]at d0;obtain⟨h1,h2,h3,h4⟩:=d0;rw[<-HQ.out]at h2 h3 h4;exact⟨rfl,.inr ⟨h4,by rw[h2,h3],h1⟩⟩
def zhx(p:Addr)(n pl:Int)(v0:Value)(older:List PanicEntry)(w:World)(hc:w.cell? p=some v0)(hz:w.frozen? p=false)(a0:p.block<w.heap.size):
  CallsD prog 65 #[.pointer (some p)] (.panicking ({v:=.iface 177 (.agg #[I n,I pl]),recovered:=false}::older)) w λe u' w'=>
   e=.returned (.tuple #[])/\u'=.panicking ({v:=.iface 177 (.agg #[I n,I pl]),recovered:=true}::older)/\∃o,w'=((w.alloc o).alloc (.cells #[I n,I pl] 82)).setCell p (.iface 78 (Pp (w.heap.size+1) 0)):=by
 have b0:∀o o',((w.alloc o).alloc o').cell? p=some v0:=λo o'=>by rw[((((Below.refl w.heap.size w).alloc lE o).alloc (by simp) o').cell a0)];exact hc
 have c0:∀o o',((w.alloc o).alloc o').frozen? p=false:=λo o'=>by rw[((((Below.refl w.heap.size w).alloc lE o).alloc (by simp) o').frozen a0)];exact hz
 have d0:∀W,(Instr.typeAssert (.iface 177 (.agg #[I n,I pl])) 20 177 true).run prog W=.ok (.tuple #[.agg #[I n,I pl],.bool true]) W:=λW=>by kernel_rfl
 refine callsD_of_wpS func65 rfl λc₀ cs hu=>?_;apply wpS_seq
 apply wpS_region
 simp[wpOpsS,go_sem,recoverD,hu,ntmps65,Exit.thenS]
 have ht:(#[pointer (some p)]++((Array.replicate 21 undef).setIfInBounds 3 (.iface 177 (.agg #[I n,I pl]))).setIfInBounds 0 (.iface 177 (.agg #[I n,I pl])):Array Value)=#[.pointer (some p),(.iface 177 (.agg #[I n,I pl])),undef,undef,(.iface 177 (.agg #[I n,I pl])),undef,undef,undef,undef,undef,undef,undef,undef,undef,undef,undef,undef,undef,undef,undef,undef,undef]:=by kernel_rfl
 rw[ht];clear ht;refine wpS_of_wp ?_;have HU:=A hu;clear hu
 go_wp2_with fail
 refine⟨by simp,_,rfl,.tuple #[],?_,rfl,rfl,_,rfl⟩;simp[results,results65]
def yr2(p:Addr)(w:World):CallsD prog 65 #[.pointer (some p)] .returning w λe u' w'=>e=.returned (.tuple #[])/\u'=.returning/\w'=w:=by
 refine callsD_of_wpS func65 rfl λc₀ cs hu=>?_;apply wpS_seq
 apply wpS_region
 simp[wpOpsS,go_sem,recoverD,hu,ntmps65,Exit.thenS]
 have ht:(#[pointer (some p)]++((Array.replicate 21 undef).setIfInBounds 3 .nilIface).setIfInBounds 0 .nilIface:Array Value)=#[.pointer (some p),.nilIface,undef,undef,.nilIface,undef,undef,undef,undef,undef,undef,undef,undef,undef,undef,undef,undef,undef,undef,undef,undef,undef]:=by kernel_rfl
 rw[ht];clear ht;refine wpS_of_wp ?_;have HU:=A hu;clear hu
 go_wp2_with fail
 refine⟨by simp,.returning,?_,.tuple #[],?_,rfl,rfl,rfl⟩
 ·have h9:=HU.out
  cases c₀;simp_all
 simp[results,results65]
def za9(f:FuncId)(cap:Array Value)(w:World)(Rr:World->Prop)(Rp:Int->Int->World->Prop)(d0:∀W,(callFunc f cap).run prog W=.ok (.enter f cap) W)
  (a0:F f cap (w.alloc (.cells #[.nilIface] 60)) λe w'=>w'.cell? (Y w.heap.size 0)=some .nilIface/\w'.frozen? (Y w.heap.size 0)=false/\((e=.returned (.tuple #[])/\Rr w')\/∃n pl,e=.panicked (Zf n pl)/\Rp n pl w')):
  F 39 #[.func (.func f) #[] cap] w λe w'=>(∃w1,e=.returned .nilIface/\Rr w1/\w'=w1.setCell (Y w.heap.size 0) .nilIface)\/
   ∃n pl w1 o,e=.returned (.iface 78 (Pp (w1.heap.size+1) 0))/\Rp n pl w1/\w'=((w1.alloc o).alloc (.cells #[I n,I pl] 82)).setCell (Y w.heap.size 0) (.iface 78 (Pp (w1.heap.size+1) 0)):=by
 have e0:∀(fn:Fn) (first cap:Array Value) (w:World),(Instr.makeFunc fn first cap).run prog w=.ok (.func fn first cap) w:=λ_ _ _ _=>rfl;have c0:=A a0;clear a0
 go_enter_defers func39,ntmps39
 go_wp2_with fail
 refine(c0.out).mono ?_;rintro e w1 ⟨hc,hz,⟨rfl,hr⟩|⟨n,pl,rfl,hp⟩⟩
 ·have HR:=A hr
  clear hr
  go_wp2_with fail
  refine leaves_cons (f:=65) (args:=#[M w.heap.size]) (by simp) (by simp[go_sem]) ?_;refine(yr2 (Y w.heap.size 0) _).mono ?_;rintro e u' w'' ⟨rfl,rfl,rfl⟩;have q0:D (w1.setCell (Y w.heap.size 0) .nilIface) w.heap.size 0 .nilIface:=cell?_setCell_same' _ _ _ (by simp[hc]);refine⟨.nilIface,by simp[results,results39,go_sem,q0],.inl ⟨w1,rfl,HR,rfl⟩⟩
 have b0:w.heap.size<w1.heap.size:=Qe w1 _ hc;refine leaves_cons (f:=65) (args:=#[M w.heap.size]) (by simp) (by simp[go_sem]) ?_;refine(zhx (Y w.heap.size 0) n pl .nilIface [] w1 hc hz b0).mono ?_;rintro e u' w'' ⟨rfl,rfl,o,rfl⟩;have q0:(((w1.alloc o).alloc (.cells #[I n,I pl] 82)).setCell (Y w.heap.size 0) (.iface 78 (Pp (w1.heap.size+1) 0))).cell? (Y w.heap.size 0)=some (.iface 78 (Pp (w1.heap.size+1) 0)):=by
  refine cell?_setCell_same' _ _ _ ?_;rw[cell?_alloc_past _ _ _ (by simp;omega),cell?_alloc_past _ _ _ b0,hc];rfl
 refine⟨.iface 78 (Pp (w1.heap.size+1) 0),by simp[results,results39,go_sem,q0],.inr ⟨n,pl,w1,o,rfl,hp,rfl⟩⟩
open Go.Maps Go.WideMaps Go.ChangeMaps Go.MapKept
def zw2(S:Nat->Prop)(w:World)(v:Value)(l:List Nat):Prop:=
 ∃ao cap,v=J ao l.length cap/\l.length<=cap/\cap<=maxLen/\(l≠[]->∃b,ao=some (Y b 0)/\S b/\∀i,i<l.length->w.cell? (Y b i)=some (I (l.getD i 0)))
def zw2.kept{l:List Nat}(h:zw2 S w v l)(hS:∀b,S b->S' b)(hw:∀b,S b->w'.heap[b]?=w.heap[b]?):zw2 S' w' v l:=by
 obtain⟨ao,cap,h1,h2,h3,h4⟩:=h;refine⟨ao,cap,h1,h2,h3,λa0=>?_⟩;obtain⟨b,e,hb,hc⟩:=h4 a0;exact⟨b,e,hS b hb,λi hi=>cQ (hw b hb) (hc i hi)⟩
def zw2.own{l:List Nat}(h:w.ownsRow base 3 1 v l.length (Ym l))(hv:∀b,v.ownBlock=some b->S b):zw2 S w v l:=by
 rcases h.2 with⟨rfl,h0⟩|⟨g,cap,cur,rfl,hb,hg,c0,a0,d0,ht⟩
 ·exact⟨none,0,by rw[h0],by omega,by simp[maxLen],λb0=>absurd (Qi h0) b0⟩
 refine⟨_,cap,rfl,by omega,a0,λ_=>⟨g,rfl,hv g rfl,λi hi=>?_⟩⟩;have h4:=h.cells (g:=g) rfl i (I (l.getD i 0)) (by unfold Ym;simp[Qa,hi])
 have h5:((Y g 0):Addr).add i=(Y g i):=by unfold Addr.add;split<;>simp_all
 rw[h5]at h4;exact h4
def Ui(S:Nat->Prop)(w:World)(Pb:Nat)(p:aV):Prop:=
 ∃Lb bC bH bv,S Pb/\S Lb/\Zh w Pb 5 (rw_ [ptr Lb,bC,bH,I p.ak,bv])/\Un w Lb p.n p.leq/\zw2 S w bC p.cells/\zw2 S w bH p.aj/\Zl 4 S w bv p.aZ
def Ui.kept{S S':Nat->Prop}{w w':World}{Pb:Nat}{p:aV}(h:Ui S w Pb p)(hS:∀b,S b->S' b)(hw:∀b,S b->w'.heap[b]?=w.heap[b]?):Ui S' w' Pb p:=by
 obtain⟨Lb,bC,bH,bv,h1,h2,h3,h4,h5,h6,h7⟩:=h;exact⟨Lb,bC,bH,bv,hS _ h1,hS _ h2,h3.block (hw _ h1),h4.block (hw _ h2),h5.kept hS hw,h6.kept hS hw,Zl.kept hS hw _ _ _ h7⟩
def Zo.prog{lo base R Pb lm vm cm:Nat}{w0 w:World}{r:RS}{ap:Int}{m:Xv}(h:Zo lo base R Pb lm vm cm w0 w r ap m)(hb:r.ae=true)(hf:r.fr=[]):Ui (λb=>(b=Pb\/base<=b)/\b<w.heap.size) w Pb r.prog:=by
 obtain⟨Lb,l1,l2,l3⟩:=h.re.la hb;have bP:=h.bP;have cq:=h.cq
 have hS:∀b,m.bz b≠5->(b=Pb\/base<=b)/\b<w.heap.size:=λb hb=>by have:=h.re.wh b hb;omega
 have b0:m.gs=[]:=Qi (by rw[h.re.fa.len,hf];rfl);have a0:=h.re.pb;rw[b0]at a0;refine⟨Lb,m.bC,m.bH,m.bv,by omega,hS _ (by rw[l2];decide),by rw[<-l1];exact h.cP,l3,zw2.own h.re.oc (λb hv=>hS b (by rw[h.re.tc b hv];decide)),zw2.own h.re.oh (λb hv=>hS b (by rw[h.re.th b hv];decide)),?_⟩;have c0:=h.ok.cn.1;have dx:=h.ok.st;exact Yr.closed (a0.kept (S':=λb=>(b=Pb\/base<=b)/\b<w.heap.size) (λb hv=>hS b (by rw[hv];decide)) (λ_ _=>rfl) (λ_ _=>rfl)) (λb hv=>hS b (by rw[h.re.tb b hv];decide)) (by show r.ct.length<=16;omega)
def yxz(n:Nat):Array Value:=#[ptr (n+1),I 0,.bool false,I 0,.bool false,.bool false,.bool false,.bool false,.bool false,.bool false,.bool false,.bool false,.bool false,.bool false,.bool false,.bool false,.bool false,.bool false,.bool false,.bool false,.bool false,.bool false,.bool false,.bool false,.bool false,.bool false,.bool false,.bool false,.bool false,.bool false,.bool false,.bool false,.bool false,.bool false,.bool false,.bool false,.bool false,.bool false,.bool false,.bool false,.map (some (n+2)),.map (some (n+3)),.map (some (n+4)),Zq,I 0]
def yd0(n j:Nat)(h:j<45):(yxz n)[j]?=some (Vx (n+1) (n+2) (n+3) (n+4) 0 RS.zero mem0 j):=by
 have:j=0\/j=1\/j=2\/j=3\/(4<=j/\j<40)\/j=40\/j=41\/j=42\/j=43\/j=44:=by omega
 rcases this with rfl|rfl|rfl|rfl|h1|rfl|rfl|rfl|rfl|rfl
 ·rfl
 ·rfl
 ·rfl
 ·rfl
 ·unfold Vx
  rw[Z (by omega),Z (by omega),Z (by omega),Z (by omega),Z (by omega),Z (by omega),Z (by omega),Z (by omega),Z (by omega)]
  have:j=4\/j=5\/j=6\/j=7\/j=8\/j=9\/j=10\/j=11\/j=12\/j=13\/j=14\/j=15\/j=16\/j=17\/j=18\/j=19\/j=20\/j=21\/j=22\/j=23\/j=24\/j=25\/j=26\/j=27\/j=28\/j=29\/j=30\/j=31\/j=32\/j=33\/j=34\/j=35\/j=36\/j=37\/j=38\/j=39:=by omega
  rcases this with rfl|rfl|rfl|rfl|rfl|rfl|rfl|rfl|rfl|rfl|rfl|rfl|rfl|rfl|rfl|rfl|rfl|rfl|rfl|rfl|rfl|rfl|rfl|rfl|rfl|rfl|rfl|rfl|rfl|rfl|rfl|rfl|rfl|rfl|rfl|rfl<;>rfl
 ·rfl
 ·rfl
 ·rfl
 ·rfl
 rfl
def rdW(w:World)(l:K):World:=((((((w.alloc (.cells #[Tq l] 9)).alloc (.cells #[.pointer none,Zq,Zq,I 0,Zq] 98)).alloc (.map #[] 0)).alloc (.map #[] 0)).alloc (.map #[] 0)).alloc (.cells (yxz w.heap.size) 127)).alloc (.cells #[Pp (w.heap.size+5) 0] 118)
def zhw(w:World)(l:K):(rdW w l).heap.size=w.heap.size+7:=by simp[rdW]
def zaz(w:World)(l:K):E w (rdW w l):=(((((((Below.refl _ w).alloc lE _).alloc (by simp<;>omega) _).alloc (by simp<;>omega) _).alloc (by simp<;>omega) _).alloc (by simp<;>omega) _).alloc (by simp<;>omega) _).alloc (by simp<;>omega) _
def zm4(w:World)(l:K):(rdW w l).heap[w.heap.size]?=some (.cells #[Tq l] 9)/\
  (rdW w l).heap[w.heap.size+1]?=some (.cells #[.pointer none,Zq,Zq,I 0,Zq] 98)/\
  (rdW w l).heap[w.heap.size+2]?=some (.map #[] 0)/\(rdW w l).heap[w.heap.size+3]?=some (.map #[] 0)/\(rdW w l).heap[w.heap.size+4]?=some (.map #[] 0)/\
  (rdW w l).heap[w.heap.size+5]?=some (.cells (yxz w.heap.size) 127)/\(rdW w l).heap[w.heap.size+6]?=some (.cells #[Pp (w.heap.size+5) 0] 118):=by
 have a:∀(u:World) (o:Obj) (k:Nat),k<u.heap.size->(u.alloc o).heap[k]?=u.heap[k]?:=λu o k hk=>Below.heap_alloc _ _ _ hk
 have l:∀(u:World) (o:Obj) (k:Nat),u.heap.size=k->(u.alloc o).heap[k]?=some o:=λu o k hk=>by subst hk;exact heap_alloc_last u o
 unfold rdW;refine⟨?_,?_,?_,?_,?_,?_,?_⟩
 ·rw[a _ _ _ (by simp<;>omega),a _ _ _ (by simp<;>omega),a _ _ _ (by simp<;>omega),a _ _ _ (by simp<;>omega),a _ _ _ (by simp<;>omega),a _ _ _ (by simp<;>omega),l _ _ _ (by simp<;>omega)]
 ·rw[a _ _ _ (by simp<;>omega),a _ _ _ (by simp<;>omega),a _ _ _ (by simp<;>omega),a _ _ _ (by simp<;>omega),a _ _ _ (by simp<;>omega),l _ _ _ (by simp<;>omega)]
 ·rw[a _ _ _ (by simp<;>omega),a _ _ _ (by simp<;>omega),a _ _ _ (by simp<;>omega),a _ _ _ (by simp<;>omega),l _ _ _ (by simp<;>omega)]
 ·rw[a _ _ _ (by simp<;>omega),a _ _ _ (by simp<;>omega),a _ _ _ (by simp<;>omega),l _ _ _ (by simp<;>omega)]
 ·rw[a _ _ _ (by simp<;>omega),a _ _ _ (by simp<;>omega),l _ _ _ (by simp<;>omega)]
 ·rw[a _ _ _ (by simp<;>omega),l _ _ _ (by simp<;>omega)]
 rw[l _ _ _ (by simp<;>omega)]
def Yy.fresh{b:Nat}(h:w.heap[b]?=some (.map #[] 0)):Yy w b []:=by
 have ho:w.ownsMap (H:=Unit) prog 9 (plainElem prog 3) b 0 (.map []):=⟨#[],0,h,⟨by simp,stamped_empty 0,by simp⟩,lE,rfl⟩;exact⟨0,.map [],ho,lE,rfl,ho.tidy zly,ho.isMap,λx=>⟨by simp[Maps.has,ai,bm],by simp[DataW.atKey,ai,bm];decide⟩⟩
end Go.Proofs.YtjmcibbdedlcoaaGreatDoor
namespace Go.Proofs.YtjmcibbdedlcoaaGreatDoor
open Go.RowKit Go.Proofs.Tryz List World Value Fl
variable{lo base R Pb lm vm cm:Nat}{w0 w w' W V:World}{r:RS}{S S':Nat->Prop}{v v':Value}{l:K}
def zw2.ints{l:List Nat}(h:zw2 S w v l)(hS:∀b,S b->b<w.heap.size):Zw w.heap.size w v (l.map λ(y:Nat)=>(y:Int)):=by
 obtain⟨ao,cap,rfl,h2,h3,h4⟩:=h;refine⟨ao,cap,by simp,by simpa using h2,by simp;omega,λb0=>?_⟩;obtain⟨b,e,hb,hc⟩:=h4 (by rintro rfl;exact b0 rfl);refine⟨b,0,e,hS b hb,λi hi=>?_⟩
 have a0:i<l.length:=by simpa using hi
 rw[Nat.zero_add,hc i a0];simp[Qa,a0]
def RdIn(n:Nat)(V:World)(q:Nat×Nat×aV)(e:Ending)(w':World):Prop:=
 Below n V w'/\n+8<=w'.heap.size/\w'.heap[n+7]?=V.heap[n+7]?/\w'.heap[n+6]?=V.heap[n+6]?/\
 ((q.1=0/\e=.returned (.tuple #[])/\Ui (λb=>(n<=b/\b≠n+7)/\b<w'.heap.size) w' (n+1) q.2.2/\w'.cell? (Y (n+5) 0)=some (ptr (n+1)))\/(q.1≠0/\e=.panicked (Zf q.1 q.2.1)))
def zc3(l:K)(h:¬1200<l.length):aq l=((rows RS.zero 0 (aC 10 l)).1,(rows RS.zero 0 (aC 10 l)).2.1,(rows RS.zero 0 (aC 10 l)).2.2.prog):=by
 unfold aq;rw[Z h]
def yyx(l:K)(h:1200<l.length):aq l=(1,0,RS.zero.prog):=by
 unfold aq;rw[G h]
def rd_text(hV:V=(rdW w l).alloc (.cells #[.nilIface] 60))(hl:l.length<=100000)(hg:1<w.heap.size)(hm:Yg w):
  F 41 #[Pp (w.heap.size+5) 0,Tq l] V (RdIn w.heap.size V (aq l)):=by
 have hz:=zhw w l
 have g0:V.heap.size=w.heap.size+8:=by rw[hV];simp[hz]
 have b0:Below (rdW w l).heap.size (rdW w l) V:=by rw[hV];exact bA
 have hB:E w V:=(zaz w l).trans (b0.mono (by omega));obtain⟨k0,k1,k2,k3,k4,k5,k6⟩:=zm4 w l;have q:∀k,k<w.heap.size+7->V.heap[k]?=(rdW w l).heap[k]?:=λk hk=>b0.block k (by omega)
 by_cases hs:1200<l.length
 ·rw[yyx l hs]
  refine(yiy _ l hs hl V).mono ?_;rintro e w' ⟨rfl,hb⟩;have hz':=hb.size;exact⟨hb.mono (by omega),by omega,hb.block _ (by omega),hb.block _ (by omega),.inr ⟨Nat.succ_ne_zero _,rfl⟩⟩
 rw[zc3 l hs]
 have hR:Zh V (w.heap.size+5) 45 (Vx (w.heap.size+1) (w.heap.size+2) (w.heap.size+3) (w.heap.size+4) 0 RS.zero mem0):=
  ⟨λj hj=>(cell_of_row V _ j _ _ (0,0) ((q _ (by omega)).trans k5)).trans (yd0 _ j hj),λj=>fQ (q (w.heap.size+5) (by omega)) (by simp[frozen?,k5])⟩
 have hP:Zh V (w.heap.size+1) 5 (rw_ [.pointer none,Zq,Zq,I 0,Zq]):=
  ⟨λj hj=>(cell_of_row V _ j _ _ (0,0) ((q _ (by omega)).trans k1)).trans (by rcases(show j=0\/j=1\/j=2\/j=3\/j=4 by omega) with rfl|rfl|rfl|rfl|rfl<;>rfl),λj=>fQ (q (w.heap.size+1) (by omega)) (by simp[frozen?,k1])⟩
 have hm':Yg V:=by
  obtain⟨x,hx⟩:=hm;exact⟨x,(hB.cell (p:=⟨1,0,none⟩) hg).trans hx⟩
 have ht:=yev (lo:=w.heap.size) (R:=w.heap.size+5) (Pb:=w.heap.size+1) (lm:=w.heap.size+2) (vm:=w.heap.size+3) (cm:=w.heap.size+4) (w:=V) (by omega) (by omega) (by omega) hR hP (Yy.fresh ((q _ (by omega)).trans k2)) (Yy.fresh ((q _ (by omega)).trans k3)) (Yy.fresh ((q _ (by omega)).trans k4)) hg hm' l (by omega);refine ht.mono ?_;have a0:=za8 V (w.heap.size+5);have i0:=yu3 V (w.heap.size+5);rintro e w' (⟨h0,rfl,d0,e0,ln,m,hp⟩|⟨h0,rfl,c0,f0⟩)
 ·have bP:=hp.bP
  have f:∀k,k=w.heap.size+6\/k=w.heap.size+7->w'.heap[k]?=V.heap[k]?:=λk hk=>(hp.fx k (by omega) (by omega) (by omega) (by omega) (by omega) (by omega)).trans (a0.block k (by omega));refine⟨(a0.mono (by omega)).trans hp.bel,by omega,f _ (by omega),f _ (by omega),.inl ⟨h0,rfl,?_,hp.cR.c 0 (by omega)⟩⟩;exact(hp.prog d0 e0).kept (λb hb=>by have:=hb.1;have:=hb.2;omega) (λ_ _=>rfl)
 have f:∀k,k=w.heap.size+6\/k=w.heap.size+7->w'.heap[k]?=V.heap[k]?:=λk hk=>(f0 k (by omega) (by omega) (by omega) (by omega) (by omega) (by omega)).trans (a0.block k (by omega));exact⟨(a0.mono (by omega)).trans c0,by have:=c0.size;omega,f _ (by omega),f _ (by omega),.inr ⟨h0,rfl⟩⟩
def do_read(hV:V=(rdW w l).alloc (.cells #[.nilIface] 60))(hl:l.length<=100000)(hg:1<w.heap.size)(hm:Yg w):
  F 40 #[Pp (w.heap.size+6) 0,M w.heap.size] V (RdIn w.heap.size V (aq l)):=by
 have HT:O (F 41 #[Pp (w.heap.size+5) 0,Tq l] V (RdIn w.heap.size V (aq l))):=rd_text hV hl hg hm;obtain⟨k0,k1,k2,k3,k4,k5,k6⟩:=zm4 w l;have hz:=zhw w l
 have q:∀k,k<w.heap.size+7->V.heap[k]?=(rdW w l).heap[k]?:=λk hk=>by rw[hV];exact Below.heap_alloc _ _ _ (by omega)
 have c6:D V (w.heap.size+6) 0 (Pp (w.heap.size+5) 0):=cell_of_row V _ 0 _ _ (0,0) ((q _ (by omega)).trans k6);have c0:D V w.heap.size 0 (Tq l):=cell_of_row V _ 0 _ _ (0,0) ((q _ (by omega)).trans k0);obtain⟨aX,a0⟩:=U (aq l);rw[<-a0]at HT⊢;clear hV k0 k1 k2 k3 k4 k5 k6 hz q a0 hl hg hm
 go_enter func40,ntmps40
 go_wp2_with fail
 refine HT.mono ?_;rintro e W ⟨h1,h2,h3,h4,⟨h5,rfl,h6⟩|⟨h5,rfl⟩⟩
 ·have HE:O (RdIn w.heap.size V aX (.returned (.tuple #[])) W):=⟨h1,h2,h3,h4,.inl ⟨h5,rfl,h6⟩⟩
  clear h1 h2 h3 h4 h5 h6 HT c0 c6;go_wp2
  go_end0
  exact HE
 exact⟨rfl,h1,h2,h3,h4,.inr ⟨h5,rfl⟩⟩
def zt0(q:Nat×Nat×aV)(w:World)(e:Ending)(w':World):Prop:=
  E w w'/\
  ((q.1=0/\∃Pb,e=.returned (.tuple #[M Pb,.nilIface])/\Ui (λb=>w.heap.size<=b/\b<w'.heap.size) w' Pb q.2.2)\/
   (q.1≠0/\∃a,e=.returned (.tuple #[.pointer none,.iface 78 (M a)])/\w'.cell? (Y a 0)=some (I q.1)/\w'.cell? (Y a 1)=some (I q.2.1)))
def yix(q:Nat×Nat×aV)(w:World)(e:Ending)(w':World):Prop:=
  E w w'/\
  ((q.1=0/\e=.returned .nilIface/\w'.cell? (Y (w.heap.size+6) 0)=some (Pp (w.heap.size+5) 0)/\w'.cell? (Y (w.heap.size+5) 0)=some (Pp (w.heap.size+1) 0)/\Ui (λb=>w.heap.size<=b/\b<w'.heap.size) w' (w.heap.size+1) q.2.2)\/
   (q.1≠0/\∃a,e=.returned (.iface 78 (M a))/\w'.cell? (Y a 0)=some (I q.1)/\w'.cell? (Y a 1)=some (I q.2.1)))
def ym9(hl:l.length<=100000)(hg:1<w.heap.size)(hm:Yg w):
  F 39 #[.func (.func 40) #[] #[Pp (w.heap.size+6) 0,M w.heap.size]] (rdW w l) (yix (aq l) w):=by
 have hd:=do_read (w:=w) (l:=l) rfl hl hg hm;have hz:=zhw w l;have hc:=za9 40 #[Pp (w.heap.size+6) 0,M w.heap.size] (rdW w l) (λw'=>RdIn w.heap.size ((rdW w l).alloc (.cells #[.nilIface] 60)) (aq l) (.returned (.tuple #[])) w') (λn pl w'=>n=((aq l).1:Int)/\pl=((aq l).2.1:Int)/\RdIn w.heap.size ((rdW w l).alloc (.cells #[.nilIface] 60)) (aq l) (.panicked (Zf n pl)) w') (λW=>by kernel_rfl);rw[hz]at hc;have a0:((rdW w l).alloc (.cells #[.nilIface] 60)).heap[w.heap.size+7]?=some (.cells #[.nilIface] 60):=by
  have:=heap_alloc_last (rdW w l) (.cells #[.nilIface] 60);rw[hz]at this;exact this
 have b0:E w ((rdW w l).alloc (.cells #[.nilIface] 60)):=(zaz w l).alloc (by omega) _;obtain⟨k0,k1,k2,k3,k4,k5,k6⟩:=zm4 w l;have k6':((rdW w l).alloc (.cells #[.nilIface] 60)).heap[w.heap.size+6]?=some (.cells #[Pp (w.heap.size+5) 0] 118):=(Below.heap_alloc _ _ _ (by omega)).trans k6;refine(hc (hd.mono ?_)).mono ?_
 ·rintro e w' ⟨h1,h2,h3,h4,h5⟩
  refine⟨cR 0 (h3.trans a0),by rw[frozen?,h3,a0];simp,?_⟩;rcases h5 with⟨h5,rfl,h6⟩|⟨h5,rfl⟩
  ·exact .inl ⟨rfl,h1,h2,h3,h4,.inl ⟨h5,rfl,h6⟩⟩
  exact .inr ⟨_,_,rfl,rfl,rfl,h1,h2,h3,h4,.inr ⟨h5,rfl⟩⟩
 have f:∀(u:World) (v:Value) (k:Nat),k≠w.heap.size+7->(u.setCell (Y (w.heap.size+7) 0) v).heap[k]?=u.heap[k]?:=λu v k hk=>Zx _ _ _ _ _ hk;rintro e wz (⟨w1,rfl,⟨h1,h2,h3,h4,h5⟩,rfl⟩|⟨n,pl,w1,o,rfl,⟨rfl,rfl,h1,h2,h3,h4,h5⟩,rfl⟩)
 ·rcases h5 with⟨h5,-,h6,h7⟩|⟨h5,h6⟩
  ·refine⟨(b0.trans h1).setCell (show w.heap.size<=w.heap.size+7 by omega) _,.inl ⟨h5,rfl,?_,?_,?_⟩⟩
   ·exact(cQ ((f _ _ (w.heap.size+6) (by omega)).trans h4) (cR 0 k6'))
   ·exact(cQ (f _ _ (w.heap.size+5) (by omega)) h7)
   refine h6.kept (λb hb=>?_) (λb hb=>f _ _ _ hb.1.2);rw[Zy];exact⟨hb.1.1,hb.2⟩
  cases h6
 rcases h5 with⟨h5,h6,-⟩|⟨h5,-⟩
 ·cases h6
 have hq:∀v,(((w1.alloc o).alloc (.cells #[I ((aq l).1:Int),I ((aq l).2.1:Int)] 82)).setCell (Y (w.heap.size+7) 0) v).heap[w1.heap.size+1]?=some (.cells #[I ((aq l).1:Int),I ((aq l).2.1:Int)] 82):=λv=>by
  rw[f _ _ _ (by omega)];have:=heap_alloc_last (w1.alloc o) (.cells #[I ((aq l).1:Int),I ((aq l).2.1:Int)] 82);simpa using this
 refine⟨(((b0.trans h1).alloc (by omega) _).alloc (by simp;omega) _).setCell (show w.heap.size<=w.heap.size+7 by omega) _,.inr ⟨h5,_,rfl,?_,?_⟩⟩
 ·exact cR 0 (hq _)
 exact cR 1 (hq _)
def zk8(hl:l.length<=100000)(hg:1<w.heap.size)(hm:Yg w):
  F 25 #[Tq l] w (zt0 (aq l) w):=by
 have c0:∀(fn:Fn) (first cap:Array Value) (w:World),(Instr.makeFunc fn first cap).run prog w=.ok (.func fn first cap) w:=λ_ _ _ _=>rfl;have d0:= @run_makeMap prog;have HC:O (F 39 #[.func (.func 40) #[] #[Pp (w.heap.size+6) 0,M w.heap.size]] (rdW w l) (yix (aq l) w)):=ym9 hl hg hm;obtain⟨aX,b0⟩:=U (aq l);rw[<-b0]at HC⊢;clear hl hg hm b0
 go_enter func25,ntmps25
 go_wp2_with (refine Uq rfl 127 _ rfl (yxz w.heap.size) (by kernel_rfl) ?_)
 refine Calls.mono HC ?_;clear HC;rintro e wz ⟨hB,⟨h0,rfl,c6,c5,hp⟩|⟨h0,a,rfl,a0,a1⟩⟩
 ·have d6:D wz (w.heap.size+1+1+1+1+1+1) 0 (Pp (w.heap.size+1+1+1+1+1) 0):=c6
  have d5:D wz (w.heap.size+1+1+1+1+1) 0 (Pp (w.heap.size+1) 0):=c5;have HE:O (zt0 aX w (.returned (.tuple #[Pp (w.heap.size+1) 0,.nilIface])) wz):=⟨hB,.inl ⟨h0,_,rfl,hp⟩⟩;clear hB h0 c6 c5 hp;go_wp2;exact bodyPost_ret (v:=.tuple #[Pp (w.heap.size+1) 0,.nilIface]) (by simp[results,results25,go_sem]) rfl HE.out
 have HE:O (zt0 aX w (.returned (.tuple #[.pointer none,.iface 78 (M a)])) wz):=⟨hB,.inr ⟨h0,_,rfl,a0,a1⟩⟩;clear hB h0 a0 a1;go_wp2;exact bodyPost_ret (v:=.tuple #[.pointer none,.iface 78 (M a)]) (by simp[results,results25,go_sem]) rfl HE.out
end Go.Proofs.YtjmcibbdedlcoaaGreatDoor
