import Derived.Test.YtgmbnnpnefniiaaGreatDoorM09
import Derived.Test.YtgmbnnpnefniiaaGreatDoorShelf
import Derived.WalkSmall
import Derived.Lib.SplitLaws
import Derived.Recover
import Derived.Defers
import Derived.Stop.Asserts
set_option linter.all false
set_option maxRecDepth 100000
set_option maxHeartbeats 40000000
namespace Go.Proofs.YtgmbnnpnefniiaaGreatDoor
open Go.Proofs.Tryz List World Value Fl
variable{lo base R Pb lm vm cm i:Nat}{w0 w w' W V:World}{S S':Nat->Prop}{v v':Value}{l:L}{b a:Int}{ls vs:Is}
section
open Go.RowKit
section
variable{w1:World}{r:Fl.RS}{aq:Int}{m:Ya}
def Ys.open_{d:Nat}{ts:List Fl.aa}{n:Nat}{xs:Vs}{p:Value}(h:Ys d S base W v ts [])(ho:W.ownsRow base 223 1 v n xs)(ho':w'.ownsRow base 223 1 v' (n+1) (xs++[p]))(hS:∀b,S b->S' b)(hw:∀b,S b->w'.heap[b]?=W.heap[b]?):Ys d S' base w' v' ts [p]:=by
 obtain⟨ps,h1,h2,h3⟩:=h;simp only[append_nil,length_nil,Nat.add_zero]at h1;obtain⟨rfl,rfl⟩:=zfw h1 ho;exact⟨ps,ho',h2,λi hi=>(h3 i hi).kept (λv l h=>Yz.kept hS hw d v l h) hS hw⟩
def zx7(aF:Nat->Nat)(z1 sn ob i T:Nat)(v' ov':Value):Nat->Nat:=λb=>if b=sn then 10+3*i else if b=ob then 11+3*i else if z1<=b/\b<sn then 0 else if v'.ownBlock=some b then T else if ov'.ownBlock=some b then 2 else aF b
structure zc5(aF who':Nat->Nat)(z1 sn ob i T:Nat)(v' ov':Value):Prop where
 fZ:∀b,aF b≠5->who' b=aF b
 s:who' sn=10+3*i
 o:who' ob=11+3*i
 new:∀b,z1<=b->b<sn->who' b=0
 row:∀b,v'.ownBlock=some b->who' b=T
 mG:∀b,ov'.ownBlock=some b->who' b=2
 nr:∀b,who' b≠5->aF b≠5\/(z1<=b/\b<=sn)\/b=ob\/v'.ownBlock=some b\/ov'.ownBlock=some b
def yo2{aF:Nat->Nat}{z1 sn ob T:Nat}{ov ov':Value}(hI:∀b,aF b≠5->b<z1)(hz:z1<=sn/\sn<ob)(hT:T≠5/\T≠2)(hv:∀b,v.ownBlock=some b->aF b=T)(d0:∀b,ov.ownBlock=some b->aF b=2)(hw:v'.ownBlock=v.ownBlock\/∃g,v'.ownBlock=some g/\sn<g/\g<ob)(e0:ov'.ownBlock=ov.ownBlock\/∃g,ov'.ownBlock=some g/\ob<g):zc5 aF (zx7 aF z1 sn ob i T v' ov') z1 sn ob i T v' ov':=by
 have b0:∀b,aF b≠5->b≠sn/\b≠ob/\¬(z1<=b/\b<sn):=λb hb=>by have:=hI b hb;omega
 have c0:∀b,v'.ownBlock=some b->(aF b=T)\/(sn<b/\b<ob):=λb hb=>by
  rcases hw with e|⟨g,e,h1,h2⟩
  ·exact .inl (hv b (by rw[<-e];exact hb))
  rw[e]at hb;simp only[Ql]at hb;subst hb;exact .inr ⟨h1,h2⟩
 have a0:∀b,ov'.ownBlock=some b->(aF b=2)\/ob<b:=λb hb=>by
  rcases e0 with e|⟨g,e,h1⟩
  ·exact .inl (d0 b (by rw[<-e];exact hb))
  rw[e]at hb;simp only[Ql]at hb;subst hb;exact .inr h1
 refine{fZ:=λb hb=>?_,s:=G rfl,o:= ?_,new:=λb h1 h2=>?_,row:=λb hb=>?_,mG:=λb hb=>?_,nr:=λb hb=>?_}
 ·obtain⟨h1,h2,h3⟩:=b0 b hb
  unfold zx7;rw[U h1,U h2,U h3]
  by_cases e1:v'.ownBlock=some b
  ·rw[G e1]
   rcases c0 b e1 with h|h
   ·exact h.symm
   have:=hI b hb;omega
  rw[U e1]
  by_cases e2:ov'.ownBlock=some b
  ·rw[G e2]
   rcases a0 b e2 with h|h
   ·exact h.symm
   have:=hI b hb;omega
  rw[U e2]
 ·unfold zx7;rw[U (by omega),G rfl]
 ·unfold zx7;rw[U (by omega),U (by omega),G ⟨h1,h2⟩]
 ·have:b≠sn/\b≠ob/\¬(z1<=b/\b<sn):=by
   rcases c0 b hb with h|h
   ·exact b0 b (by rw[h];exact hT.1)
   omega
  unfold zx7;rw[U this.1,U this.2.1,U this.2.2,G hb]
 ·have:b≠sn/\b≠ob/\¬(z1<=b/\b<sn):=by
   rcases a0 b hb with h|h
   ·exact b0 b (by rw[h];decide)
   omega
  have f0:v'.ownBlock≠some b:=λe=>by
   rcases c0 b e with h|h
   ·rcases a0 b hb with h'|h'
    ·exact hT.2 (by rw[<-h,h'])
    have:=hI b (by rw[h];exact hT.1);omega
   rcases a0 b hb with h'|h'
   ·have:=hI b (by rw[h'];decide);omega
   omega
  unfold zx7;rw[U this.1,U this.2.1,U this.2.2,U f0,G hb]
 unfold zx7 at hb
 by_cases e1:b=sn
 ·exact .inr (.inl ⟨by omega,by omega⟩)
 rw[U e1]at hb
 by_cases e2:b=ob
 ·exact .inr (.inr (.inl e2))
 rw[U e2]at hb
 by_cases e3:z1<=b/\b<sn
 ·exact .inr (.inl ⟨by omega,by omega⟩)
 rw[U e3]at hb
 by_cases e4:v'.ownBlock=some b
 ·exact .inr (.inr (.inr (.inl e4)))
 rw[U e4]at hb
 by_cases e5:ov'.ownBlock=some b
 ·exact .inr (.inr (.inr (.inr e5)))
 rw[U e5]at hb;exact .inl hb
def Zn.opens(h:Zn lo base R Pb lm vm cm w0 W {r with am:=r.am+1} aq m)(hb:r.ag=true)(C0:r.fr.length<3){z1 sn kind ln:Nat}{vp v' ov':Value}{e:Fl.dZ}{n:Nat}{xs:Vs}(I0:kind=5\/kind=6)(hI:∀b,m.aF b≠5->b<z1)(R0:base<=z1)(D0:z1<=sn/\sn+1=W.heap.size)(J0:aq=(ln:Int))(cZ:zj0 r.am r.fr r.bK.length)
  (hc:Ze W sn 6 (rw_ [I kind,I aq,I 0,vp,K,K])) (hv:zs3 (λb=>z1<=b/\b<sn) W vp e) (ho:W.ownsRow base 223 1 (zxz m.bv r.fr m.gs) n xs) (Wq:zxv 223 lo base w0 W w1 (zz5 Pb m.gs) (zn4 r.fr) (zxz m.bv r.fr m.gs) v' n xs (ptr sn))
  (o:Obj) (K0:Ze (w1.alloc o) w1.heap.size 2 (rw_ [ptr sn,.bool false])) (G2:zxv 276 lo base w0 (w1.alloc o) w' R 43 m.ov ov' r.fr.length ((m.gs.map λg=>ptr g.ob).reverse) (ptr w1.heap.size)):
  ∃m',Zn lo base R Pb lm vm cm w0 w' (r.opens kind ln e) aq m':=by
 obtain⟨b1,b2,b3,b4,b5,b6⟩:=h.bU;obtain⟨n1,n2,n3,n4,n5,n6,n7,n8,n9,n10⟩:=h.nd;have hl:=h.re.fa.len;have hz:=Wq.hz;have S0:=G2.hz;have T0:(w1.alloc o).heap.size=w1.heap.size+1:=size_alloc _ _;have a0:=zn5 (r:={r with am:=r.am+1}) h Wq ho
 have L0:∀b,z1<=b->m.aF b=5:=λb hb'=>Classical.byContradiction λt0=>by have:=hI b t0;omega
 have c0:=h.re.to;have f0:∀b,m.ov.ownBlock=some b->b<z1/\base<=b:=λb hb'=>⟨hI b (by rw[c0 b hb'];decide),(h.re.wh b (by rw[c0 b hb'];decide)).1⟩
 -- the second growth leaves
 have q2:∀b,b<w1.heap.size->b≠R->m.ov.ownBlock≠some b->w'.heap[b]?=w1.heap[b]?:=λb h1 h2 h3=>by
  rw[G2.q b (by omega) h2 h3];exact((Below.refl w1.heap.size w1).alloc lE _).block b h1
 have q2l:∀b,b<base->b≠R->w'.heap[b]?=w1.heap[b]?:=λb h1 h2=>q2 b (by omega) h2 (λh3=>by have:=f0 b h3;omega);have u0:Ze w' w1.heap.size 2 (rw_ [ptr sn,.bool false]):=K0.block (G2.q _ (by omega) (by omega) (λh3=>by have:=f0 _ h3;omega));have E0:ov'.ownBlock=m.ov.ownBlock\/∃g,ov'.ownBlock=some g/\w1.heap.size<g:=by
  rcases G2.wh with e|⟨g,e,hg⟩
  ·exact .inl e
  exact .inr ⟨g,e,by omega⟩
 have p0:v'.ownBlock=(zxz m.bv r.fr m.gs).ownBlock\/∃g,v'.ownBlock=some g/\sn<g/\g<w1.heap.size:=by
  rcases Wq.wh with e|⟨g,e,hg⟩
  ·exact .inl e
  exact .inr ⟨g,e,by omega,(Wq.own.lt g e).2⟩
 have q0:∀(r':Fl.RS) (m':Ya),r'.ag=r.ag->r'.au.length=r.au.length->r'.am=r.am+1->m'.ov=ov'->m'.t=m.t->R≠zz5 Pb m.gs->Ze w' R 45 (Xa Pb lm vm cm aq r' m'):=λr' m' e1 e2 e4 e5 e6 t0=>by
  have c1:Ze (w1.alloc o) R 45 (Xa Pb lm vm cm aq {r with am:=r.am+1} m):=(h.cR.block (a0 R b1 t0)).block (((Below.refl w1.heap.size w1).alloc lE _).block R (by omega));refine(G2.cs 45 _ c1 (by decide)).congr (λj hj=>?_)
  by_cases h4:j=43
  ·subst h4;rw[G rfl];exact e5.symm
  rw[U h4];unfold Xa;rw[e1,e2,e4,e6]
  by_cases hs:j=0\/j=1\/j=2\/j=3\/j=40\/j=41\/j=42\/j=44
  ·rcases hs with rfl|rfl|rfl|rfl|rfl|rfl|rfl|rfl<;>rfl
  rw[U (show ¬j=0 by omega),U (show ¬j=1 by omega),U (show ¬j=2 by omega),U (show ¬j=3 by omega),U (show ¬j=40 by omega),U (show ¬j=41 by omega),U (show ¬j=42 by omega),U h4,U (show ¬j=44 by omega)];rw[U (show ¬j=0 by omega),U (show ¬j=1 by omega),U (show ¬j=2 by omega),U (show ¬j=3 by omega),U (show ¬j=40 by omega),U (show ¬j=41 by omega),U (show ¬j=42 by omega),U h4]
 have F0:∀(who':Nat->Nat) (i T:Nat),zc5 m.aF who' z1 sn w1.heap.size i T v' ov'->∀b,who' b≠5->base<=b/\b<w'.heap.size:=λwho' i T hO b hb'=>by
  rcases hO.nr b hb' with h5|h5|h5|h5|h5
  ·have:=h.re.wh b h5;omega
  ·omega
  ·omega
  ·have:=Wq.own.lt b h5;omega
  have:=G2.own.lt b h5;omega
 have v0:r.opens kind ln e={r with fr:=⟨kind,ln,e,[],false,[]⟩::r.fr,am:=r.am+1}:=rfl
 have g0:∀f∈(⟨kind,ln,e,[],false,[]⟩::r.fr:List Fl.Frame),f.kind=5\/f.kind=6:=λf hf=>by
  rcases mem_cons.1 hf with rfl|hf
  ·exact I0
  exact h.ok.cF f hf
 -- the frame that is new
 have r0:∀(who':Nat->Nat) (T:Nat),zc5 m.aF who' z1 sn w1.heap.size r.fr.length T v' ov'->zz5 Pb m.gs<z1->(∀k,(zxz m.bv r.fr m.gs).ownBlock=some k->m.aF k≠5)->zv1 who' base w' (3 - (r.fr.length+1)) r.fr.length [] ⟨kind,ln,e,[],false,[]⟩ ⟨sn,w1.heap.size,vp,K,K⟩:=λwho' T hO U0 M0=>by
  have qn:∀b,z1<=b->b<W.heap.size->w'.heap[b]?=W.heap[b]?:=λb h1 h2=>by
   rw[q2 b (by omega) (by omega) (λh3=>by have:=f0 b h3;omega)];exact Wq.q b h2 (by omega) (λhk=>M0 b hk (L0 b h1))
  refine{ts:=hO.s,to:=hO.o,ta:=λb hb'=>?_,co:=u0,cs:= ?_,hv:=hv.kept (λb hb'=>hO.new b hb'.1 hb'.2) (λb hb'=>qn b hb'.1 (by omega)),pa:=Ys.none _ _ _,pf:=λhh=>(by cases hh),pe:=λ_=>⟨rfl,rfl⟩}
  ·cases hb'
  have:=hc.block (w':=w') (qn sn (by omega) (by omega));rw[J0]at this;exact this
 have x0:zz1 (r.am+1) 1 r.fr:=by
  have k0:=cZ.2
  cases b0:r.fr with
  |nil=>trivial
  |cons f fs=>
   rw[b0]at k0;obtain⟨c1,c2,c3⟩:=k0
   cases hh:f.cU with
   |true=>rw[hh]at c1 c2;simp at c1 c2;refine⟨?_,?_,zz1.mono (by omega) lE c3⟩<;>simp[hh]<;>omega
   |false=>rw[hh]at c1 c2;simp at c1 c2;refine⟨?_,?_,zz1.mono (by omega) lE c3⟩<;>simp[hh]<;>omega
 rw[v0]
 have s0:RsOk {r with fr:=⟨kind,ln,e,[],false,[]⟩::r.fr,am:=r.am+1}:=
  {cn:=⟨by have:=cZ.1;simp;omega,⟨by simp,by simp,x0⟩⟩,lv:=h.ok.lv,ce:=h.ok.ce,ch:=h.ok.ch,lo:=h.ok.lo,st:=h.ok.st,fr:=(by simp;omega),cl:=h.ok.cl,hl:=h.ok.hl,cM:=h.ok.cM,cF:=g0,head:=λhd=>(by rw[show ({r with fr:=⟨kind,ln,e,[],false,[]⟩::r.fr,am:=r.am+1}:Fl.RS).ag=r.ag from rfl,hb]at hd;cases hd),below:=h.ok.below,aB:=h.ok.aB,cS:=h.ok.cS,fh:=h.ok.fh}
 have l0:w'.ownsRow base 276 1 ov' (r.fr.length+1) ((m.gs.map λg=>ptr g.ob).reverse++[ptr w1.heap.size]):=G2.own
 cases b0:r.fr with
 |nil=>
  have d0:m.gs=[]:=by
   rw[show ({r with am:=r.am+1}:Fl.RS).fr=r.fr from rfl,b0]at hl;exact Qi (by simpa using hl)
  rw[b0]at s0;rw[b0,d0]at l0 Wq ho p0 r0;rw[d0]at a0 q0;have y0:∀b,m.bv.ownBlock=some b->m.aF b=1:=h.re.tb;have hO:=yo2 (i:=0) (T:=1) (v:=m.bv) (ov:=m.ov) hI ⟨D0.1,by omega⟩ (by decide) y0 c0 p0 E0;obtain⟨who',i0⟩:∃who',who'=zx7 m.aF z1 sn w1.heap.size 0 1 v' ov':=⟨_,rfl⟩;rw[<-i0]at hO
  have hq:∀b,m.aF b≠5->m.aF b≠1->m.aF b≠2->w'.heap[b]?=W.heap[b]?:=λb h5 h1 h2=>by
   have z0:=h.re.wh b h5;rw[q2 b (by omega) (by omega) (λh3=>h2 (c0 b h3))];exact Wq.q b z0.2 (by show b≠Pb;omega) (λhk=>h1 (y0 b hk))
  have h0:∀b,m.aF b=0->who' b=0:=λb hb'=>(hO.fZ b (by omega)).trans hb';have e0:∀b,m.aF b=0->w'.heap[b]?=W.heap[b]?:=λb hb'=>hq b (by omega) (by omega) (by omega)
  have j0:w'.ownsRow base 223 1 v' (n+1) (xs++[ptr sn]):=Yy Wq.own (λb hb'=>q2 b (Wq.own.lt b hb').2 (by have:=(Wq.own.lt b hb').1;omega) (λh3=>by
   have h2:=c0 b h3;have:=hO.fZ b (by rw[h2];decide)
   rw[hO.row b hb',h2]at this;omega))
  refine⟨{m with bv:=v',gs:=[⟨sn,w1.heap.size,vp,K,K⟩],ov:=ov',aF:=who'},?_⟩;refine{ok:=s0,bel:=G2.bel,fx:=λb f1 f2 f3 f4 f5 f6=>((q2l b f1 f2).trans (a0 b f1 f3)).trans (h.fx b f1 f2 f3 f4 f5 f6),bB:=h.bB,bU:=⟨b1,b2,b3,b4,b5,by omega⟩,nd:=h.nd,cR:=q0 _ _ rfl rfl rfl rfl rfl (by show R≠Pb;omega),cP:= ?cP,nl:=(h.nl.block (a0 _ b3 (by show lm≠Pb;omega))).block (q2l _ b3 (by omega)),nv:=(h.nv.block (a0 _ b4 (by show vm≠Pb;omega))).block (q2l _ b4 (by omega)),nc:=(h.nc.block (a0 _ b5 (by show cm≠Pb;omega))).block (q2l _ b5 (by omega)),tab:=h.tab,re:= ?re}
  case cP=>
   refine((Wq.cs 5 _ h.cP (by decide)).block (q2l Pb b2 (by omega))).congr λk hk=>?_;rcases(show k=0\/k=1\/k=2\/k=3\/k=4 by omega) with rfl|rfl|rfl|rfl|rfl<;>rfl
  case re=>
   have m0:=h.re.pb;rw[d0]at m0;refine{wh:=F0 who' 0 1 hO,oc:=Yy h.re.oc (λb hb'=>hq b (by rw[h.re.tc b hb'];decide) (by rw[h.re.tc b hb'];decide) (by rw[h.re.tc b hb'];decide)),tc:=λb hb'=>(hO.fZ b (by rw[h.re.tc b hb'];decide)).trans (h.re.tc b hb'),oh:=Yy h.re.oh (λb hb'=>hq b (by rw[h.re.th b hb'];decide) (by rw[h.re.th b hb'];decide) (by rw[h.re.th b hb'];decide)),th:=λb hb'=>(hO.fZ b (by rw[h.re.th b hb'];decide)).trans (h.re.th b hb'),pb:=Ys.open_ m0 ho j0 h0 e0,tb:=hO.row,fa:= ?fa,oo:=l0,to:=hO.mG,la:=λhg=>?la}
   case fa=>
    refine⟨?_,trivial⟩;have:=r0 who' 1;simp only[length_nil]at this;exact this hO (by show Pb<z1;omega) (λk hk=>by rw[y0 k hk];decide)
   case la=>
    obtain⟨Lb,e1,e2,e3⟩:=h.re.la hg;exact⟨Lb,e1,h0 Lb e2,e3.block (e0 Lb e2)⟩
 |cons f fs=>
  cases d0:m.gs with
  |nil=>rw[show ({r with am:=r.am+1}:Fl.RS).fr=r.fr from rfl,b0,d0]at hl;simp at hl
  |cons g gs=>
   rw[b0]at s0;rw[b0,d0]at l0 Wq ho p0 r0;rw[d0]at a0 q0;rw[b0]at C0;simp only[length_cons]at C0;have G0:=h.re.fa;rw[show ({r with am:=r.am+1}:Fl.RS).fr=r.fr from rfl,b0,d0]at G0;obtain⟨hf,N0⟩:=G0;have O0:=h.re.wh g.sb (by rw[hf.ts];omega);have A0:=hI g.sb (by rw[hf.ts];omega);obtain⟨g',hg'⟩:∃g':GF,g'=if f.cU then{g with ev:=v'} else{g with fv:=v'}:=⟨_,rfl⟩
   have n0:g'.sb=g.sb:=by rw[hg'];split<;>rfl
   have hob':g'.ob=g.ob:=by rw[hg'];split<;>rfl
   have H0:g'.vp=g.vp:=by rw[hg'];split<;>rfl
   have o0:g'.act f=v':=by
    unfold GF.act;rw[hg']
    cases f.cU<;>rfl
   have B0:∀b,(zxz m.bv (f::fs) (g::gs)).ownBlock=some b->m.aF b=12+3*fs.length:=hf.ta;have hO:=yo2 (i:=fs.length+1) (T:=12+3*fs.length) (ov:=m.ov) hI ⟨D0.1,by omega⟩ ⟨by omega,by omega⟩ B0 c0 p0 E0;obtain⟨who',i0⟩:∃who',who'=zx7 m.aF z1 sn w1.heap.size (fs.length+1) (12+3*fs.length) v' ov':=⟨_,rfl⟩;rw[<-i0]at hO
   have hq:∀b,m.aF b≠5->m.aF b≠12+3*fs.length->m.aF b≠10+3*fs.length->m.aF b≠2->w'.heap[b]?=W.heap[b]?:=λb h5 h1 P0 h2=>by
    have z0:=h.re.wh b h5;rw[q2 b (by omega) (by omega) (λh3=>h2 (c0 b h3))];exact Wq.q b z0.2 (λhe=>P0 (by rw[show b=g.sb from he];exact hf.ts)) (λhk=>h1 (B0 b hk))
   have h0:∀b,m.aF b=0->who' b=0:=λb hb'=>(hO.fZ b (by omega)).trans hb';have e0:∀b,m.aF b=0->w'.heap[b]?=W.heap[b]?:=λb hb'=>hq b (by omega) (by omega) (by omega) (by omega)
   have j0:w'.ownsRow base 223 1 v' (n+1) (xs++[ptr sn]):=Yy Wq.own (λb hb'=>q2 b (Wq.own.lt b hb').2 (by have:=(Wq.own.lt b hb').1;omega) (λh3=>by
    have h2:=c0 b h3;have:=hO.fZ b (by rw[h2];decide)
    rw[hO.row b hb',h2]at this;omega))
   refine⟨{m with gs:=⟨sn,w1.heap.size,vp,K,K⟩::g'::gs,ov:=ov',aF:=who'},?_⟩;refine{ok:=s0,bel:=G2.bel,fx:=λb f1 f2 f3 f4 f5 f6=>((q2l b f1 f2).trans (a0 b f1 (by show b≠g.sb;omega))).trans (h.fx b f1 f2 f3 f4 f5 f6),bB:=h.bB,bU:=⟨b1,b2,b3,b4,b5,by omega⟩,nd:=h.nd,cR:=q0 _ _ rfl rfl rfl rfl rfl (by show R≠g.sb;omega),cP:=(h.cP.block (a0 _ b2 (by show Pb≠g.sb;omega))).block (q2l _ b2 (by omega)),nl:=(h.nl.block (a0 _ b3 (by show lm≠g.sb;omega))).block (q2l _ b3 (by omega)),nv:=(h.nv.block (a0 _ b4 (by show vm≠g.sb;omega))).block (q2l _ b4 (by omega)),nc:=(h.nc.block (a0 _ b5 (by show cm≠g.sb;omega))).block (q2l _ b5 (by omega)),tab:=h.tab,re:= ?re}
   case re=>
    have m0:=h.re.pb;rw[d0]at m0;have Q0:Vh (⟨sn,w1.heap.size,vp,K,K⟩::g'::gs)=Vh (g::gs):=(by rw[ze2];simp only[Vh,n0]);refine{wh:=F0 who' _ _ hO,oc:=Yy h.re.oc (λb hb'=>hq b (by rw[h.re.tc b hb'];decide) (by rw[h.re.tc b hb'];omega) (by rw[h.re.tc b hb'];omega) (by rw[h.re.tc b hb'];decide)),tc:=λb hb'=>(hO.fZ b (by rw[h.re.tc b hb'];decide)).trans (h.re.tc b hb'),oh:=Yy h.re.oh (λb hb'=>hq b (by rw[h.re.th b hb'];decide) (by rw[h.re.th b hb'];omega) (by rw[h.re.th b hb'];omega) (by rw[h.re.th b hb'];decide)),th:=λb hb'=>(hO.fZ b (by rw[h.re.th b hb'];decide)).trans (h.re.th b hb'),pb:= ?pb,tb:=λb hb'=>(hO.fZ b (by rw[h.re.tb b hb'];decide)).trans (h.re.tb b hb'),fa:= ?fa,oo:= ?oo,to:=hO.mG,la:=λhg=>?la}
    case pb=>
     show Ys 3 _ base w' m.bv r.bK (Vh (_::g'::gs));rw[Q0];exact m0.kept h0 e0 (λb hb'=>hq b (by rw[h.re.tb b hb'];decide) (by rw[h.re.tb b hb'];omega) (by rw[h.re.tb b hb'];omega) (by rw[h.re.tb b hb'];decide))
    case oo=>
     show w'.ownsRow base _ 1 ov' (_::f::fs).length (((_::g'::gs).map λg=>ptr g.ob).reverse);simp only[map_cons,reverse_cons,length_cons,hob']at l0⊢;exact l0
    case la=>
     obtain⟨Lb,e1,e2,e3⟩:=h.re.la hg;exact⟨Lb,e1,h0 Lb e2,e3.block (e0 Lb e2)⟩
    case fa=>
     refine⟨?_,?_,?_⟩
     ·have:=r0 who' (12+3*fs.length)
      simp only[length_cons]at this;exact this hO A0 (λk hk=>by rw[B0 k hk];omega)
     ·show zv1 who' base w' (3 - (fs.length+1+1)+1) fs.length [ptr sn] f g'
      rw[show 3 - (fs.length+1+1)+1=3 - (fs.length+1) by omega];refine{ts:=by rw[n0];exact(hO.fZ g.sb (by rw[hf.ts];omega)).trans hf.ts,to:=by rw[hob'];exact(hO.fZ g.ob (by rw[hf.to];omega)).trans hf.to,ta:=λb hb'=>hO.row b (by rw[<-o0];exact hb'),co:= ?co,cs:= ?cs,hv:=by rw[H0];exact hf.hv.kept h0 e0,pa:= ?pa,pf:= ?pf,pe:= ?pe}
      case co=>rw[hob',n0];exact hf.co.block (hq g.ob (by rw[hf.to];omega) (by rw[hf.to];omega) (by rw[hf.to];omega) (by rw[hf.to];omega))
      case cs=>
       rw[n0,H0];refine((Wq.cs 6 _ hf.cs (by show (if f.cU then 5 else 4)<6;split<;>omega)).block (q2 g.sb (by omega) (by omega) (λh3=>by have:=c0 _ h3;rw[hf.ts]at this;omega))).congr λk hk=>?_;rw[hg'];show (if k=(if f.cU then 5 else 4) then v' else _)=_
       cases f.cU<;>rcases(show k=0\/k=1\/k=2\/k=3\/k=4\/k=5 by omega) with rfl|rfl|rfl|rfl|rfl|rfl<;>rfl
      case pa=>
       rw[o0];exact Ys.open_ hf.pa ho j0 h0 e0
      case pf=>
       intro hh;have:=Yz.kept h0 e0 _ _ _ (hf.pf hh);rw[hg',hh];exact this
      case pe=>
       intro hh;rw[hg',hh];exact hf.pe hh
     show Vo who' base w' (3 - (fs.length+1+1)+1+1) [ptr g'.sb] fs gs;rw[n0,show 3 - (fs.length+1+1)+1+1=3 - (fs.length+1)+1 by omega]
     exact N0.kept (λb hb'=>by
      rcases hb' with hb'|hb'
      ·exact⟨hO.fZ b (by omega),e0 b hb'⟩
      exact⟨hO.fZ b (by omega),hq b (by omega) (by omega) (by omega) (by omega)⟩)
end
def Tryz.infoPOpened:(Tryz.prog.info? 276).map (λi=>(i.zero,i.size,i.bytes))=some (some (.pointer none),1,8):=by kernel_rfl
section
variable{r:Fl.RS}{aq:Int}{m:Ya}
def za7(h:Zn lo base R Pb lm vm cm w0 w r aq m)(O0:r.ag=true)(B:Nat)(v:Value)(k a:L)(ln kind:Nat)(P0:aq=(ln:Int))(hB:B<=w.heap.size)(hw:Zi B w v [a])(c0:kind=if k==ig then 5 else 6):
  E 163 #[F R,I kind,v] w (Zb lo base R Pb lm vm cm w0 aq (r.bh ln [k,a])):=by
 obtain⟨b,off,cp,rfl,r0,f1,g1,Q0,j0⟩:=hw.one (by simp);obtain⟨aX,l0⟩:=J (r.bh ln [k,a]);rw[<-l0]
 have m0:Y (aX=match r.value [a] with
  |none=>(4,r)
  |some e=>if 16<=r.am\/3<=r.fr.length then(5,r) else(0,r.opens kind ln e)):=by
  show _=_;rw[l0,c0];simp only[Fl.RS.bh]
  cases r.value [a]<;>rfl
 have R0:=Z (zfx h b off cp a (Q0 a (by simp)) (by simpa using r0) (j0 0 (by simp)))
 have i1:Y (kind=5\/kind=6):=by show _\/_;rw[c0];split<;>simp
 have j1:=Z P0;have HH:=Z h;have bU:=h.bU;have bB:=h.bB;simp only[length_cons,length_nil,Nat.zero_add];obtain⟨ao,cap,C0,s0,u0⟩:=zh6 h;have D0:=h.ok.fr;obtain⟨n,hn⟩:=J (r.fr.length);rw[<-hn]at C0 D0;have HN:=Z hn;have v0:=Z C0;clear h hw Q0 j0 l0 c0 P0 r0 f1 g1 hB C0 s0 u0 hn
 go_enter func163,ntmps163
 go_wp2_with fail
 refine R0.mono ?_;rintro e W2 ⟨y0,S0,x0⟩;have z0:=Z (HH.below y0);have t1:=y0.size
 cases d0:r.value [a] with
 |none=>
  obtain rfl:=x0 d0;have HR:aX=(4,r):=(by rw[m0.out,d0]);exact⟨rfl,Zb.dP HR (by decide) rfl (HH.gone y0)⟩
 |some ex=>
  obtain⟨pb,rfl,T0⟩:=S0 ex d0;have U0:=Z T0;have A0:Y (aX=if 16<=r.am\/3<=n then(5,r) else(0,r.opens kind ln ex)):=(by show _=_;rw[m0.out,d0,HN.out]);clear R0 y0 T0 S0 x0 m0 d0;have u1:R<W2.heap.size:=(by omega);have c43:W2.cell? (O R 43)=some (A ao n cap):=(by rw[<-v0.out];exact z0.cR.c 43 (by omega));obtain⟨o,ho⟩:=J (α:=Obj) (.cells #[I kind,I 0,I 0,F pb,K,K] 262);have HA:Y (Zn lo base R Pb lm vm cm w0 (W2.alloc o) r aq m):=z0.below (bA);have V0:(W2.alloc o).heap.size=W2.heap.size+1:=size_alloc _ _;have W0:=Z V0;have E0:=Z (Yf R 5 aq _ (HA.cR.c 1 (by omega)));have B0:Y (E 94 #[F R,.bool true,I 5] (W2.alloc o) λe w'=>e=.returned (.tuple #[])/\w'=W2.alloc o):=Xe R 5 _
  have X0:m.aF W2.heap.size=5:=Classical.byContradiction λk1=>by have:=(z0.re.wh _ k1).2;omega
  have h0:Y (E 161 #[F R,F W2.heap.size] (W2.alloc o) (zc4 lo base R Pb lm vm cm w0 r aq m W2.heap.size kind 0 (ptr pb) (W2.alloc o))):=
   yu2 HA O0 W2.heap.size kind 0 (ptr pb) (by omega) X0 (by omega) (by rw[ho];exact Ze.new W2 [I kind,I 0,I 0,F pb,K,K] _)
  have F0:Y (∀b,b<W2.heap.size->(W2.alloc o).heap[b]?=W2.heap[b]?):=((Below.refl W2.heap.size W2).alloc lE _).block;rw[ho]at E0 B0 h0;clear V0 X0
  by_cases h3:3<=n
  ·have b3:¬(n:Int)<3:=by omega
   have HR:Y (aX=(5,r)):=(by show _=_;rw[A0.out];exact G (.inr h3));rw[ho]at HA W0;clear ho h0 B0 F0
   go_wp2_with fail
   try rw[show decide ((n:Int)<3)=false from decide_eq_false (by omega)]
   refine E0.mono ?_;rintro e w1 ⟨rfl,l1⟩;exact⟨rfl,Zb.dP HR (by decide) rfl (HA.gone l1)⟩
  have b3:(n:Int)<3:=(by omega);have HO:=Z ho;clear E0 ho
  go_wp2_with fail
  try rw[show decide ((n:Int)<3)=true from decide_eq_true (by omega)]
  refine B0.mono ?_;rintro e w1 ⟨rfl,Y0⟩;rw[Y0];clear Y0 w1 B0
  go_wp2_with fail
  refine h0.mono ?_;rintro e w1 (⟨Z0,rfl,m1⟩|⟨Z0,rfl,W3,a0,G0,H0,a1,nn,xs,v',I0,Wq⟩)
  ·have HR:aX=(5,r):=by rw[A0.out];exact G (.inl Z0)
   exact⟨rfl,Zb.dP HR (by decide) rfl m1⟩
  rw[<-HO.out]at G0 H0;have n0:=zn5 a0 Wq I0;have n1:=a0.bU;have b1:=a0.re.to;have c1:R≠zz5 Pb m.gs:=by
   cases b0:m.gs with
   |nil=>exact a0.nd.1
   |cons g gs=>
    have hl:=a0.re.fa.len;have k0:=a0.re.fa
    cases e0:r.fr with
    |nil=>rw[show ({r with am:=r.am+1}:Fl.RS).fr=r.fr from rfl,e0,b0]at hl;simp at hl
    |cons f fs=>
     rw[show ({r with am:=r.am+1}:Fl.RS).fr=r.fr from rfl,e0,b0]at k0;have:=a0.re.wh g.sb (by rw[k0.1.ts];omega);show R≠g.sb;omega
  have v1:=Wq.hz;have e43:M w1 R 43 (A ao n cap):=cQ (n0 R (by omega) c1) (by rw[<-v0.out];exact a0.cR.c 43 (by omega));have efz:∀j,w1.frozen? (O R j)=false:=λj=>fQ (n0 R (by omega) c1) (a0.cR.z j);have o1:R<w1.heap.size:=(by omega);obtain⟨ys,J0⟩:=J ((m.gs.map λg=>ptr g.ob).reverse)
  have f0:∀k,(A ao n cap).ownBlock=some k->base<=k/\k<W3.heap.size/\k≠R/\w1.heap[k]?=W3.heap[k]?:=λk hk=>by
   rw[<-v0.out]at hk;have h2:=b1 k hk;have h1:=a0.re.wh k (by rw[h2];decide);refine⟨h1.1,h1.2,by omega,Wq.q k h1.2 (λhe=>?_) (λhe=>?_)⟩
   ·cases b0:m.gs with
    |nil=>rw[b0]at he;have:k=Pb:=he;omega
    |cons g gs=>
     have hl:=a0.re.fa.len;have k0:=a0.re.fa
     cases e0:r.fr with
     |nil=>rw[show ({r with am:=r.am+1}:Fl.RS).fr=r.fr from rfl,e0,b0]at hl;simp at hl
     |cons f fs=>
      rw[show ({r with am:=r.am+1}:Fl.RS).fr=r.fr from rfl,e0,b0]at k0;rw[b0]at he;have he':k=g.sb:=he;rw[he',k0.1.ts]at h2;omega
   cases b0:m.gs with
   |nil=>
    have hl:=a0.re.fa.len;have e0:=Qi (by rw[b0]at hl;simpa using hl.symm);rw[b0,e0]at he;rw[a0.re.tb k he]at h2;omega
   |cons g gs=>
    have hl:=a0.re.fa.len;have k0:=a0.re.fa
    cases e0:r.fr with
    |nil=>rw[show ({r with am:=r.am+1}:Fl.RS).fr=r.fr from rfl,e0,b0]at hl;simp at hl
    |cons f fs=>
     rw[show ({r with am:=r.am+1}:Fl.RS).fr=r.fr from rfl,e0,b0]at k0;rw[b0,e0]at he;rw[k0.1.ta k he]at h2;omega
  obtain⟨oo,K0⟩:=J (α:=Obj) (.cells #[F W2.heap.size,.bool false] 279);have L0:(w1.alloc oo).heap.size=w1.heap.size+1:=size_alloc _ _;have o0:Y ((w1.alloc oo).ownsRow base 276 1 (A ao n cap) n ys):=by
   have h1:=a0.re.oo;rw[v0.out,<-J0]at h1;rw[show ({r with am:=r.am+1}:Fl.RS).fr=r.fr from rfl,<-HN.out]at h1;exact Yy h1 (λk hk=>(((Below.refl w1.heap.size w1).alloc lE oo).block k (by have:=f0 k hk;omega)).trans (f0 k hk).2.2.2)
  have p0:Y (∀(W4:World) (u:Value) (o2:Obj),W4.ownsRow base 276 1 u (n+1) (ys++[ptr w1.heap.size])->((w1.alloc oo).alloc o2).grownBy W4 (A ao n cap).ownBlock->(u.ownBlock=(A ao n cap).ownBlock\/u.ownBlock=some ((w1.alloc oo).alloc o2).heap.size)->Zb lo base R Pb lm vm cm w0 aq aX (.returned (.tuple #[])) (W4.setCell (O R 43) u)):=λW4 u o2 h1 h2 h3'=>by
   have d1:zxv 276 lo base w0 (w1.alloc oo) (W4.setCell (O R 43) u) R 43 (A ao n cap) u n ys (ptr w1.heap.size):=
    zxv.of (Wq.bel.alloc (by omega) _) (by omega) (by omega) (by omega) h1 h2 h3' (λk hk=>by have:=f0 k hk;exact⟨this.1,by omega,this.2.2.1⟩) (by omega)
   rw[<-v0.out,HN.out,J0]at d1;obtain⟨m',hm⟩:=Zn.opens a0 O0 (by rw[<-HN.out];omega) i1 (λb hb=>(HH.re.wh b hb).2) (by omega) ⟨by omega,by rw[G0,W0.out]⟩ j1 HH.ok.cn a1
    (U0.kept (λb hb=>hb) (λb hb=>(H0 b (by have:=hb.1;omega) (by have:=hb.2;omega)).trans (F0 b hb.2))) I0 Wq oo
    (by rw[K0];exact Ze.new w1 [F W2.heap.size,.bool false] _) d1
   exact Zb.fd (by rw[A0.out];exact U (by omega)) rfl hm
  have e1:Y (∀k,(A ao n cap).ownBlock=some k->base<=k/\k<w1.heap.size/\k≠R):=λk hk=>by have:=f0 k hk;exact⟨this.1,by omega,this.2.2.1⟩
  have t0:∀i u,([F w1.heap.size]:Vs)[i]?=some u->((w1.alloc (.cells #[F W2.heap.size,.bool false] 279)).alloc (.cells #[F w1.heap.size] 276)).cell? (((O (w1.heap.size+1) 0):Addr).add i)=some u:=by
   have:=(Xo:∀i u,([F w1.heap.size]:Vs)[i]?=some u->((w1.alloc (.cells #[F W2.heap.size,.bool false] 279)).alloc (.cells #[F w1.heap.size] 276)).cell? ((⟨(w1.alloc (.cells #[F W2.heap.size,.bool false] 279)).heap.size,0,none⟩:Addr).add i)=some u);rw[size_alloc]at this;exact this
  rw[K0]at o0 p0;obtain⟨i0,p1,q1,r1,s1⟩:=info_parts Tryz.infoPOpened;clear a0 H0 a1 I0 Wq n0 f0 b1 J0 K0 L0 U0 A0 h0 F0 HA z0 HH G0 HO c43
  go_wp2_with (at_builtin;refine Ap underlying162 p1 q1 r1 s1 rfl (o0.alloc _) rfl [F w1.heap.size] rfl rfl t0 ?c2 ?c3 ?c4 ?c5 ?_)
  case c2=>intro u hu;simp at hu;subst hu;rfl
  case c3=>unfold maxLen;omega
  case c4=>omega
  case c5=>simp;omega
  intro u W4 g0 M0 q0;obtain⟨va,vcap,rfl⟩:=zv5 g0;have N0:=(M0.block R (by simp;omega) (λhh=>(e1 R hh.symm).2.2 rfl)).trans ((((Below.refl w1.heap.size w1).alloc lE _).alloc (by simp) _).block R o1);have g4:=cQ N0 e43;have gz:∀j,W4.frozen? (O R j)=false:=λj=>fQ N0 (efz j);have HE:=Z (p0 W4 _ _ g0 M0 (by simp only[size_alloc]at q0⊢;exact q0));clear g0 M0 q0 N0 p0 o0 e1 e43 efz t0;go_wp2
  go_end0
  exact HE
end
section
variable{r:Fl.RS}{aq:Int}{m:Ya}
def yl0(h:Zn lo base R Pb lm vm cm w0 w r aq m)(c0:r.ag=true)(B:Nat)(v:Value)(k a:L)(ln:Nat)(b0:aq=(ln:Int))(hB:B<=w.heap.size)(hw:Zi B w v [a])(hk:(k==ig)=true):
  E 135 #[F R,v] w (Zb lo base R Pb lm vm cm w0 aq (r.bh ln [k,a])):=by
 have HO:=Z (za7 h c0 B v k a ln 5 b0 hB hw (by rw[hk];rfl));obtain⟨aX,a0⟩:=J (r.bh ln [k,a]);rw[<-a0]at HO⊢
 obtain⟨ao,n,c,rfl⟩:∃ao n c,v=A ao n c:=by obtain⟨ao,c,h1,-⟩:=hw;exact⟨_,_,_,h1⟩
 clear h b0 hB hw hk a0
 go_enter func135,ntmps135
 go_wp2_with fail
 refine HO.mono ?_;rintro e W (⟨h1,rfl,hm⟩|⟨h1,rfl,hb⟩)
 ·have HE:Y (Zb lo base R Pb lm vm cm w0 aq aX (.returned (.tuple #[])) W):=.inl ⟨h1,rfl,hm⟩
  clear h1 hm HO;go_wp2
  go_end0
  exact HE
 exact⟨rfl,.inr ⟨h1,rfl,hb⟩⟩
def yyz(h:Zn lo base R Pb lm vm cm w0 w r aq m)(c0:r.ag=true)(B:Nat)(v:Value)(k a:L)(ln:Nat)(b0:aq=(ln:Int))(hB:B<=w.heap.size)(hw:Zi B w v [a])(hk:(k==ig)=false):
  E 137 #[F R,v] w (Zb lo base R Pb lm vm cm w0 aq (r.bh ln [k,a])):=by
 have HO:=Z (za7 h c0 B v k a ln 6 b0 hB hw (by rw[hk];rfl));obtain⟨aX,a0⟩:=J (r.bh ln [k,a]);rw[<-a0]at HO⊢
 obtain⟨ao,n,c,rfl⟩:∃ao n c,v=A ao n c:=by obtain⟨ao,c,h1,-⟩:=hw;exact⟨_,_,_,h1⟩
 clear h b0 hB hw hk a0
 go_enter func137,ntmps137
 go_wp2_with fail
 refine HO.mono ?_;rintro e W (⟨h1,rfl,hm⟩|⟨h1,rfl,hb⟩)
 ·have HE:Y (Zb lo base R Pb lm vm cm w0 aq aX (.returned (.tuple #[])) W):=.inl ⟨h1,rfl,hm⟩
  clear h1 hm HO;go_wp2
  go_end0
  exact HE
 exact⟨rfl,.inr ⟨h1,rfl,hb⟩⟩
def Xu(r:Fl.RS)(ws:List L)(ln:Nat):Nat×Fl.RS:=if Fl.aq ws=true then r.row ws ln else(2,r)
def za8(ws:List L)(k:Nat)(hk:k<12)(hr:bX ws k=true):cH (ws.getD 0 [])=(dJ k).2.2:=by
 unfold bX at hr;simp only[Qk,beq_iff_eq]at hr;rw[hr.1];rcases(show k=0\/k=1\/k=2\/k=3\/k=4\/k=5\/k=6\/k=7\/k=8\/k=9\/k=10\/k=11 by omega) with rfl|rfl|rfl|rfl|rfl|rfl|rfl|rfl|rfl|rfl|rfl|rfl<;>rfl
def yhx(r:Fl.RS)(ws:List L)(ln k:Nat)(a0:ws≠[])(hk:k<12)(hr:bX ws k=true)(hb:(dJ k).2.2≠r.ag):Xu r ws ln=if(dJ k).2.2=true then r.head ws else r.bh ln ws:=by
 unfold Xu Fl.RS.row;rw[G ((gT ws a0).2 ⟨k,hk,hr⟩),za8 ws k hk hr,U hb]
def yl1(ws:List L)(k:Nat)(a0:ws≠[])(hr:bX ws k=true):∃xs,ws=(dJ k).1::xs/\ws.drop 1=xs/\bf (dJ k).2.1 xs=true:=by
 match ws,a0 with
 |x::xs,_=>
  unfold bX at hr;simp only[Qk,beq_iff_eq]at hr;exact⟨xs,by rw[<-hr.1];rfl,rfl,hr.2⟩
def row_any(h:Zn lo base R Pb lm vm cm w0 w r aq m)(T b off n cap ln:Nat)(ws:List L)(hT:w.heap[T]?=some (.cells Ur 245 (0,0)))(i0:Zi w.heap.size w (Sq b off n cap) ws)(f0:ws≠[])(g0:aq=(ln:Int))(hb:base<=b/\m.aF b=5):
  E 93 #[F R,Sq T 0 12 12,Sq b off n cap] w (Zb lo base R Pb lm vm cm w0 aq (Xu r ws ln)):=by
 have bU:=h.bU;have bB:=h.bB;refine(yr1 R T b off n cap ws aq r.ag w (λW'=>(Xu r ws ln).1=0/\∃m',Zn lo base R Pb lm vm cm w0 W' (Xu r ws ln).2 aq m') (λn p W'=>p=aq/\n=((Xu r ws ln).1:Int)/\(Xu r ws ln).1≠0/\zuz lo base R Pb lm vm cm w0 W') hT i0 f0 (h.cR.c 1 (by omega)) (h.cR.c 2 (by omega)) ?_ ?_ ?_).mono ?_
 ·intro dt W hW
  have hl:¬Fl.aq ws=true:=λhl=>by
   obtain⟨k,hk,hr⟩:=(gT ws f0).1 hl
   rw[dt k hk]at hr;cases hr
  have:Xu r ws ln=(2,r):=U hl;rw[this];exact⟨rfl,rfl,Nat.succ_ne_zero _,h.gone hW⟩
 ·intro k hk hr b0 W hW
  have:Xu r ws ln=(3,r):=by
   unfold Xu Fl.RS.row;rw[G ((gT ws f0).2 ⟨k,hk,hr⟩),za8 ws k hk hr,G b0]
  rw[this];exact⟨rfl,rfl,Nat.succ_ne_zero _,h.gone hW⟩
 ·intro k hk hr b0 W v hW hv j0
  have hP:=h.below hW;have d0:=hW.size;have hO:=yhx r ws ln k f0 hk hr b0;obtain⟨xs,hx,k0,a0⟩:=yl1 ws k f0 hr;rw[k0]at hv
  have c0:∀b',v.ownBlock=some b'->base<=b'/\m.aF b'=5:=λb' h'=>by rw[j0]at h';simp only[Ql]at h';subst h';exact hb
  have hM:∀(Wj:Nat),E Wj #[F R,v] W (Zb lo base R Pb lm vm cm w0 aq (Xu r ws ln))->E Wj #[F R,v] W λe W'=>(e=.returned (.tuple #[])/\(Xu r ws ln).1=0/\∃m',Zn lo base R Pb lm vm cm w0 W' (Xu r ws ln).2 aq m')\/∃n p,e=.panicked (Za n p)/\p=aq/\n=((Xu r ws ln).1:Int)/\(Xu r ws ln).1≠0/\zuz lo base R Pb lm vm cm w0 W':=λWj hF=>hF.mono (by
   rintro e W' (⟨h1,h2,h3⟩|⟨h1,h2,h3⟩)
   ·exact .inl ⟨h2,h1,h3⟩
   exact .inr ⟨_,_,h2,rfl,rfl,h1,h3⟩)
  have h0:(dJ k).2.2=true->r.ag=false:=λht=>by rw[ht]at b0;cases l0:r.ag<;>simp_all
  have e0:(dJ k).2.2=false->r.ag=true:=λht=>by rw[ht]at b0;cases l0:r.ag<;>simp_all
  refine hM _ ?_;rw[hO];clear hM hO b0;rcases(show k=0\/k=1\/k=2\/k=3\/k=4\/k=5\/k=6\/k=7\/k=8\/k=9\/k=10\/k=11 by omega) with rfl|rfl|rfl|rfl|rfl|rfl|rfl|rfl|rfl|rfl|rfl|rfl
  ·match xs,br _ _ a0 with
   |[x],_=>rw[hx];exact yh7 hP (h0 rfl) w.heap.size v ct x d0 hv (λb' h'=>(c0 b' h').1)
  ·match xs,br _ _ a0 with
   |[x,y],_=>rw[hx];exact ym8 hP (h0 rfl) w.heap.size v x y d0 hv (λb' h'=>(c0 b' h').1)
  ·match xs,br _ _ a0 with
   |[x,y],_=>rw[hx];exact yc4 hP (h0 rfl) w.heap.size v x y d0 hv c0
  ·match xs,br _ _ a0 with
   |[x,y],_=>rw[hx];exact yr9 hP (h0 rfl) w.heap.size v x y d0 hv c0
  ·match xs,br _ _ a0 with
   |[],_=>rw[hx];exact yhz hP (h0 rfl) v cJ (by obtain⟨ao,c,h1,-⟩:=hv;exact⟨_,_,_,h1⟩)
  ·match xs,br _ _ a0 with
   |[x,y],_=>rw[hx];exact yo1 hP (e0 rfl) w.heap.size v eP x [y] ln g0 d0 hv c0 (by decide) (.inl (by have:=a0;simp only[dJ,gx,getD_cons_succ,getD_cons_zero,bf,Qk]at this;simp only[bf,Qk];exact this.2))
  ·match xs,br _ _ a0 with
   |[x,y,z,t],_=>rw[hx];exact yo1 hP (e0 rfl) w.heap.size v eP x [y,z,t] ln g0 d0 hv c0 (by decide) (.inr (by have:=a0;simp only[dJ,gx,getD_cons_succ,getD_cons_zero,bf,Qk]at this;simp only[bf,Qk];exact this.2))
  ·match xs,br _ _ a0 with
   |[x,y],_=>rw[hx];exact out_any hP (e0 rfl) w.heap.size v eH x [y] ln g0 d0 hv (by decide) (.inl (by have:=a0;simp only[dJ,gx,getD_cons_succ,getD_cons_zero,bf,Qk]at this;simp only[bf,Qk];exact this.2))
  ·match xs,br _ _ a0 with
   |[x],_=>rw[hx];exact yl0 hP (e0 rfl) w.heap.size v ig x ln g0 d0 hv (by decide)
  ·match xs,br _ _ a0 with
   |[],_=>rw[hx];exact yu4 hP (e0 rfl) v dO ln (by decide)
  ·match xs,br _ _ a0 with
   |[x],_=>rw[hx];exact yyz hP (e0 rfl) w.heap.size v ei x ln g0 d0 hv (by decide)
  match xs,br _ _ a0 with
  |[],_=>rw[hx];exact end_any hP (e0 rfl) v gv ln (by decide)
 rintro e W' (⟨rfl,h1,h2⟩|⟨n',p,rfl,rfl,rfl,h1,h2⟩)
 ·exact .inl ⟨h1,rfl,h2⟩
 exact .inr ⟨h1,rfl,h2⟩
end
section
variable{r:Fl.RS}{aq:Int}{m:Ya}
def Zn.jH(h:Zn lo base R Pb lm vm cm w0 w r aq m)(l':Int):Zn lo base R Pb lm vm cm w0 (w.setCell (O R 1) (I l')) r l' m:=by
 obtain⟨b1,b2,b3,b4,b5,b6⟩:=h.bU;obtain⟨l1,l2,l3,l4,l5⟩:=h.bB;obtain⟨n1,n2,n3,n4,n5,n6,n7,n8,n9,n10⟩:=h.nd;have hz:(w.setCell (O R 1) (I l')).heap.size=w.heap.size:=Zy _ _ _;have q:∀k,k≠R->(w.setCell (O R 1) (I l')).heap[k]?=w.heap[k]?:=λk hk=>Zx _ _ _ _ _ hk
 exact{
     ok:=h.ok,bel:=h.bel.setCell (by show lo<=R;omega) _,fx:=λb f1 f2 f3 f4 f5 f6=>(q b f2).trans (h.fx b f1 f2 f3 f4 f5 f6),bB:=h.bB,bU:=⟨b1,b2,b3,b4,b5,by omega⟩,nd:=h.nd,cR:=(h.cR.set (by omega) (I l')).congr (λj hj=>by
      by_cases h4:j=1
      ·subst h4;rfl
      rw[U h4];unfold Xa
      by_cases h0:j=0
      ·subst h0;rfl
      rw[U h0,U h0,U h4,U h4]),cP:=h.cP.block (q _ (Ne.symm n1)),nl:=h.nl.block (q _ (Ne.symm n2)),nv:=h.nv.block (q _ (Ne.symm n3)),nc:=h.nc.block (q _ (Ne.symm n4)),tab:=h.tab,re:=h.re.kept (by omega) (λk hk=>q k (by have:=h.re.wh k hk;omega))}
def yhw(h:Zn lo base R Pb lm vm cm w0 w r aq m)(B1 B2 T b n ln:Nat)(ws:List L)(e0:w.cell? (O B1 0)=some (F R))(f0:w.cell? (O B2 0)=some (Sq T 0 12 12))(hT:w.heap[T]?=some (.cells Ur 245 (0,0)))(hd:B1≠R/\B2≠R/\T≠R)
  (c0:Zi w.heap.size w (Sq b 0 n n) ws) (d0:ws≠[]) (hb:base<=b/\m.aF b=5):
  E 92 #[I ln,Sq b 0 n n,F B1,F B2] w (Zb lo base R Pb lm vm cm w0 ln (Xu r ws ln)):=by
 have bU:=h.bU;obtain⟨d1,d2,d3⟩:=hd;have hz:(w.setCell (O R 1) (I ln)).heap.size=w.heap.size:=Zy _ _ _;have q:∀k,k≠R->(w.setCell (O R 1) (I ln)).heap[k]?=w.heap[k]?:=λk hk=>Zx _ _ _ _ _ hk;have H1:=h.jH (ln:Int);have a0:Zi (w.setCell (O R 1) (I ln)).heap.size (w.setCell (O R 1) (I ln)) (Sq b 0 n n) ws:=by
  obtain⟨ao,c,h1,h2,h3,h4,h5,h6⟩:=c0;refine⟨ao,c,h1,h2,h3,h4,h5,λhn=>?_⟩;obtain⟨b',off,e,hb',hc⟩:=h6 hn;refine⟨b',off,e,by rw[hz];exact hb',λi hi=>?_⟩;have he:b'=b:=(by rw[e]at h1;simp only[slice.injEq,Ql,Addr.mk.injEq]at h1;exact h1.1.1.symm);exact(cQ (q b' (by omega)) (hc i hi))
 have HR:Y (E 93 #[F R,Sq T 0 12 12,Sq b 0 n n] (w.setCell (O R 1) (I ln)) (Zb lo base R Pb lm vm cm w0 ln (Xu r ws ln))):=
  row_any H1 T b 0 n n ln ws ((q T d3).trans hT) a0 d0 rfl hb
 obtain⟨aX,b0⟩:=J (Xu r ws ln);rw[<-b0]at HR⊢;have e1:=cQ (q B1 d1) e0;have e2:=cQ (q B2 d2) f0;have c1:=h.cR.c 1 (by omega);have zR:=h.cR.z;clear h hz q H1 a0 c0 hT b0 hb d0
 go_enter func92,ntmps92
 go_wp2_with fail
 refine HR.mono ?_;rintro e W (⟨h1,rfl,hm⟩|⟨h1,rfl,hb⟩)
 ·have HE:Y (Zb lo base R Pb lm vm cm w0 ln aX (.returned (.tuple #[])) W):=.inl ⟨h1,rfl,hm⟩
  clear h1 hm HR;go_wp2
  go_end0
  exact HE
 exact⟨rfl,.inr ⟨h1,rfl,hb⟩⟩
end
end
def zn7(c:UInt8)(s:L):(Fl.aK c s).length<=s.length+1/\∀x∈Fl.aK c s,x.length<=s.length:=by
 induction s with
 |nil=>simp[Fl.aK]
 |cons a r ih=>
  unfold Fl.aK
  split
  ·refine⟨by simp;omega,λx hx=>?_⟩
   rcases mem_cons.1 hx with rfl|hx
   ·simp
   have:=ih.2 x hx;simp;omega
  cases hc:Fl.aK c r with
  |nil=>exact absurd hc (dU c r)
  |cons y t=>
   rw[hc]at ih;simp only[dE,length_cons]at ih⊢;refine⟨by omega,λx hx=>?_⟩;rcases mem_cons.1 hx with rfl|hx
   ·have:=ih.2 y (by simp);simp;omega
   have:=ih.2 x (by simp[hx]);omega
section
open Go.RowKit
def Xw(w:World):Prop:=∃m,w.cell? ⟨1,0,none⟩=some (I m)
def Xw.below{B:Nat}(h:Xw w)(hB:w.heap.size<=B)(hb:Below B w w'):Xw w':=by
 obtain⟨m,h⟩:=h;have hl:=Qe w _ h;exact⟨m,(hb.cell (by omega)).trans h⟩
def yc5(l:L)(w:World)(hl:l.length<=100000)(h:Xw w):E 139 #[Tq l,.string ⟨#[10]⟩] w (Rw (.tuple #[.string ⟨(Lib.cut l [10]).1.toArray⟩,.string ⟨(Lib.cut l [10]).2.1.toArray⟩,.bool (Lib.cut l [10]).2.2]) w):=by
 obtain⟨m,h⟩:=h;refine(Tryz.strings_Cut ⟨l.toArray⟩ ⟨#[10]⟩ m w (by show l.toArray.size<_;simp;omega) h).mono ?_;rintro e w' ⟨rfl,n,rfl⟩;exact⟨rfl,below_drewN (Below.refl _ _) n⟩
def yc6(l:List ByteArray):l.map string=(l.map (·.data.toList)).map strV:=by
 rw[map_map];refine map_congr_left (λb _=>?_);show string b=Tq b.data.toList;simp
def yl2(l:L)(w:World)(hl:l.length<=40000)(h:Xw w):E 140 #[Tq l,.string ⟨#[32]⟩] w λe w'=>e=.returned (Sq w.heap.size 0 (Fl.aK 32 l).length (Fl.aK 32 l).length)/\Zi w'.heap.size w' (Sq w.heap.size 0 (Fl.aK 32 l).length (Fl.aK 32 l).length) (Fl.aK 32 l)/\D w w':=by
 obtain⟨m,h⟩:=h;refine(Tryz.strings_Split ⟨l.toArray⟩ ⟨#[32]⟩ m w (by show l.toArray.size<_;simp;omega) h (by decide)).mono ?_;have hd:(Lib.splitB ⟨#[32]⟩ 0 (Lib.countB ⟨l.toArray⟩ ⟨#[32]⟩) ⟨l.toArray⟩).map (·.data.toList)=Fl.aK 32 l:=by
  rw[Lib.splitB_data,<-jW];rfl
 have hn:Lib.countB ⟨l.toArray⟩ ⟨#[32]⟩+1=(Fl.aK 32 l).length:=by
  rw[<-hd,length_map,Lib.splitB_all ⟨#[32]⟩ (by decide) 0 _ _ rfl]
 obtain⟨b0,a0⟩:=zn7 32 l;rintro e w' ⟨rfl,rfl⟩;rw[yc6,hd,hn];refine⟨rfl,⟨_,_,rfl,lE,by unfold maxLen;omega,by omega,λx hx=>by have:=a0 x hx;omega,λ_=>⟨_,0,rfl,by simp,λi hi=>?_⟩⟩,bA⟩;rw[Nat.zero_add,cell?_alloc_new];simp[Qa,hi]
def zh7(St:Nat->L->World->Prop)(Rp:Int->Int->World->Prop)(e:Ending)(w':World):Prop:=
 (∃i:Nat,e=.returned (I i)/\0<i/\St i [] w')\/∃n p,e=.panicked (Za n p)/\Rp n p w'
def yhv(f:FuncId)(cap:Array Value)(l:L)(w:World)(St:Nat->L->World->Prop)(Rp:Int->Int->World->Prop)
  (A0:∀args W,(callFunc f args).run prog W=.ok (.enter f args) W)
  (hb:∀i s W W',St i s W->D W W'->St i s W')
  (hm:∀i s W,St i s W->Xw W)
  (hs:∀i s W,St i s W->s.length+i<=40000)
  (hr:∀i s W,St i s W->(i=0\/s≠[])->(Lib.cut s [10]).2.2=false->Rp 2 ((i:Int)+1) W)
  (hd:∀i s W0 W b n,St i s W0->D W0 W->W0.heap.size<=b->b<W.heap.size->(i=0\/s≠[])->(Lib.cut s [10]).2.2=true->n=(Fl.aK 32 (Lib.cut s [10]).1).length->Zi W.heap.size W (Sq b 0 n n) (Fl.aK 32 (Lib.cut s [10]).1)->
   E f (#[I ((i:Int)+1),Sq b 0 n n]++cap) W λe W'=>(e=.returned (.tuple #[])/\St (i+1) (Lib.cut s [10]).2.1 W')\/∃n p,e=.panicked (Za n p)/\Rp n p W')
  (h0:St 0 l w):
  E 91 #[Tq l,.func (.func f) #[] cap] w (zh7 St Rp):=by
 have HB:=Z hb;have HM:=Z hm;have HS:=Z hs;have r0:=Z hr;have HD:=Z hd;have H0:=Z h0;clear hb hm hs hr hd h0
 go_enter func91,ntmps91
 go_wp2
 go_loopw [0,5] (λs i wr=>∃(k:Nat) (t:L),s=.string ⟨t.toArray⟩/\i=I k/\St k t wr) (λs i _=>match s with| .string b=>b.size|_=>0)
 case atStart=>exact⟨0,l,rfl,rfl,H0⟩
 case round=>
  obtain⟨k,t,rfl,rfl,cZ⟩:=hrel;have g0:=Z cZ;have cD:=HS k t wr cZ;clear cZ
  by_cases d0:k=0\/t≠[]
  ·have b0:((k:Int)==0)=true\/((k:Int)==0)=false/\t.isEmpty=false:=by
    rcases d0 with h|h
    ·left;simp[h]
    by_cases hk:k=0
    ·left;simp[hk]
    right;exact⟨by simp;omega,by simpa using h⟩
   have n0:=Z d0;clear d0;have hcut:=yc5 t wr (by omega) (HM _ _ _ g0);obtain⟨a,r,en,i0⟩:∃a r en,Lib.cut t [10]=(a,r,en):=⟨_,_,_,rfl⟩;rw[i0]at hcut;have j0:=Z hcut;have c0:=Z i0;clear hcut i0;rcases b0 with b0|⟨b0,b1⟩
   all_goals
    go_wp2_with fail
    refine j0.mono ?_;rintro e w1 ⟨rfl,o0⟩;have a0:=Z (HB _ _ _ _ g0 o0);clear o0
    cases en with
    |false=>
     go_wp2_with fail
     refine(zq5 2 ((k:Int)+1) w1).mono ?_;rintro e w2 ⟨rfl,e0⟩;exact⟨rfl,.inr ⟨_,_,rfl,r0 k t w2 (HB _ _ _ _ a0 e0) n0 (by rw[c0.out])⟩⟩
    |true=>
     have f0:=gU 10 t (by rw[c0.out]);rw[c0.out]at f0;have s0:=f0.2;have t0:a.length<=40000:=by
      have:=(zn7 10 t).2 a (by rw[f0.1];exact mem_cons_self);omega
     clear f0;obtain⟨nw,k0⟩:=J ((Fl.aK 32 a).length);have u0:Y (E 140 #[Tq a,.string ⟨#[32]⟩] w1 λe w'=>e=.returned (Sq w1.heap.size 0 nw nw)/\Zi w'.heap.size w' (Sq w1.heap.size 0 nw nw) (Fl.aK 32 a)/\D w1 w'):=by
      show Calls _ _ _ _ _;rw[k0];exact yl2 a w1 t0 (HM _ _ _ a0)
     have v0:=Z k0;clear k0
     go_wp2_with fail
     refine u0.mono ?_;rintro e w2 ⟨rfl,l0,e0⟩;have x0:=Z (HB _ _ _ _ a0 e0);have p0:w1.heap.size<w2.heap.size:=by
      obtain⟨ao,c,h1,h2,h3,h4,h5,h6⟩:=id l0;obtain⟨b,off,e,hb,hc⟩:=h6 (dU 32 a);rw[e]at h1;simp only[slice.injEq,Ql,Addr.mk.injEq]at h1;rw[h1.1.1];exact hb
     have m0:=HD k t w1 w2 w1.heap.size nw a0 e0 lE p0 n0 (by rw[c0.out]) (by rw[c0.out];exact v0) (by rw[c0.out];exact l0);rw[c0.out]at m0;have y0:=Z m0;clear l0 e0 m0 p0
     go_wp2_with fail
     refine y0.mono ?_;rintro e w3 (⟨rfl,q0⟩|⟨n,p,rfl,hp⟩)
     ·have z0:=Z q0
      clear q0;go_wp2
      go_roundw
      case rel=>exact⟨k+1,r,rfl,by go_num,z0⟩
      case measure=>exact s0
     exact⟨rfl,.inr ⟨_,_,rfl,hp⟩⟩
  have hk:k≠0:=λh=>d0 (.inl h);have ht:=Classical.byContradiction λh=>d0 (.inr h);subst ht;have b0:((k:Int)==0)=false:=(by simp;omega);have HK:Y (0<k):=(by show 0<k;omega);clear d0 hk;go_wp2;go_ret;exact .inl ⟨k,rfl,HK,g0⟩
end
def yc7(r:Fl.RS)(i:Nat)(l m:L)(ls:List L):Fl.rows r i (l::m::ls)=if(Xu r (Fl.aK 32 l) (i+1)).1≠0 then((Xu r (Fl.aK 32 l) (i+1)).1,i+1,r) else Fl.rows (Xu r (Fl.aK 32 l) (i+1)).2 (i+1) (m::ls):=by
 rw[Fl.rows];unfold Xu
 by_cases h:Fl.aq (Fl.aK 32 l)=true
 ·rw[U (by rw[h];decide),G h]
 rw[G (by simpa using h),U h];rfl
def yl3(r:Fl.RS)(i:Nat)(s:L)(h:(Lib.cut s [10]).2.2=true):Fl.rows r i (Fl.aK 10 s)=if(Xu r (Fl.aK 32 (Lib.cut s [10]).1) (i+1)).1≠0 then((Xu r (Fl.aK 32 (Lib.cut s [10]).1) (i+1)).1,i+1,r) else Fl.rows (Xu r (Fl.aK 32 (Lib.cut s [10]).1) (i+1)).2 (i+1) (Fl.aK 10 (Lib.cut s [10]).2.1):=by
 rw[(gU 10 s h).1]
 cases hc:Fl.aK 10 (Lib.cut s [10]).2.1 with
 |nil=>exact absurd hc (dU _ _)
 |cons m ls=>exact yc7 r i _ m ls
def yry(r:Fl.RS)(i:Nat)(s:L)(h:(Lib.cut s [10]).2.2=false)(hs:i=0\/s≠[]):Fl.rows r i (Fl.aK 10 s)=(2,i+1,r):=by
 rw[(jV 10 s h).1,Fl.rows]
 exact U (λhh=>by
   rcases hs with hs|hs
   ·omega
   exact hs hh.1)
def yc8(r:Fl.RS)(i:Nat)(h:0<i):Fl.rows r i (Fl.aK 10 [])=if r.ag=true/\r.fr=[] then(0,0,r) else(3,i+1,r):=by
 show Fl.rows r i [[]]=_;rw[Fl.rows];exact G ⟨rfl,h⟩
section
open Go.RowKit
def mem0:Ya:=⟨λ_=>5,.pointer none,K,K,K,K,[],λ_ _=>false⟩
def rsOk0:RsOk Fl.RS.zero:=
 {cn:=⟨by decide,trivial⟩,lv:=by decide,ce:=by decide,ch:=by decide,lo:=by decide,st:=by decide,fr:=by decide,cl:=rfl,hl:=rfl,cM:=rfl,below:=λp hp=>(by cases hp),aB:=λx hx=>(by cases hx),cS:=λx hx=>(by cases hx),cF:=λf hf=>(by cases hf),head:=λ_=>⟨rfl,rfl,rfl,rfl⟩,fh:=λh=>(by cases h)}
def Zn.zero{lo R Pb lm vm cm:Nat}{W:World}(bB:lo<=R/\lo<=Pb/\lo<=lm/\lo<=vm/\lo<=cm)(hz:R<W.heap.size/\Pb<W.heap.size/\lm<W.heap.size/\vm<W.heap.size/\cm<W.heap.size)
  (nd:R≠Pb/\R≠lm/\R≠vm/\R≠cm/\Pb≠lm/\Pb≠vm/\Pb≠cm/\lm≠vm/\lm≠cm/\vm≠cm) (aq:Int) (hR:Ze W R 45 (Xa Pb lm vm cm aq Fl.RS.zero mem0)) (hP:Ze W Pb 5 (rw_ [.pointer none,K,K,I 0,K]))
  (nl:Yx W lm []) (nv:Yx W vm []) (nc:Yx W cm []):Zn lo W.heap.size R Pb lm vm cm W W Fl.RS.zero aq mem0:=
 {ok:=rsOk0,bel:=Below.refl _ _,fx:=λ_ _ _ _ _ _ _=>rfl,bB:=bB,bU:=⟨hz.1,hz.2.1,hz.2.2.1,hz.2.2.2.1,hz.2.2.2.2,lE⟩,nd:=nd,cR:=hR,cP:=hP,nl:=nl,nv:=nv,nc:=nc,tab:=λi j hi hj=>(by show false=_;simp[Fl.RS.zero]),re:={wh:=λb h=>absurd rfl h,oc:=zn6 _ _,tc:=λb h=>(by cases h),oh:=zn6 _ _,th:=λb h=>(by cases h),pb:=Ys.none _ _ _,tb:=λb h=>(by cases h),fa:=trivial,oo:=zn6 _ _,to:=λb h=>(by cases h),la:=λh=>(by cases h)}}
def TxSt(lo base R Pb lm vm cm:Nat)(W0:World)(l:L)(i:Nat)(s:L)(W:World):Prop:=
 s.length+i<=40000/\∃r aq m,Zn lo base R Pb lm vm cm W0 W r aq m/\Fl.rows Fl.RS.zero 0 (Fl.aK 10 l)=Fl.rows r i (Fl.aK 10 s)
def zj4(lo base R Pb lm vm cm:Nat)(W0:World)(l:L)(n p:Int)(W:World):Prop:=
 zuz lo base R Pb lm vm cm W0 W/\n=((Fl.rows Fl.RS.zero 0 (Fl.aK 10 l)).1:Int)/\p=((Fl.rows Fl.RS.zero 0 (Fl.aK 10 l)).2.1:Int)/\(Fl.rows Fl.RS.zero 0 (Fl.aK 10 l)).1≠0
def yl4{W0:World}{aq:Int}{m:Ya}(h:Zn lo base R Pb lm vm cm W0 W Fl.RS.zero aq m)(l:L)(hl:l.length<=1200)(B1 B2 T:Nat)(hg:1<lo)(hm:Xw W0)
  (b0:∀args W,(callFunc 92 args).run prog W=.ok (.enter 92 args) W)
  (d1:B1<base/\B1≠R/\B1≠Pb/\B1≠lm/\B1≠vm/\B1≠cm) (d2:B2<base/\B2≠R/\B2≠Pb/\B2≠lm/\B2≠vm/\B2≠cm) (d3:T<base/\T≠R/\T≠Pb/\T≠lm/\T≠vm/\T≠cm)
  (c0:W0.cell? (O B1 0)=some (F R)) (d0:W0.cell? (O B2 0)=some (Sq T 0 12 12)) (hT:W0.heap[T]?=some (.cells Ur 245 (0,0))):
  E 91 #[Tq l,.func (.func 92) #[] #[F B1,F B2]] W (zh7 (TxSt lo base R Pb lm vm cm W0 l) (zj4 lo base R Pb lm vm cm W0 l)):=by
 refine yhv 92 _ l W (TxSt lo base R Pb lm vm cm W0 l) (zj4 lo base R Pb lm vm cm W0 l) b0 ?_ ?_ ?_ ?_ ?_ ⟨by omega,Fl.RS.zero,aq,m,h,rfl⟩
 ·rintro i s W1 W2 ⟨h1,r,ln,m,h2,h3⟩ hb
  exact⟨h1,r,ln,m,h2.below hb,h3⟩
 ·rintro i s W1 ⟨h1,r,ln,m,h2,h3⟩
  obtain⟨x,hx⟩:=hm;exact⟨x,(h2.bel.cell hg).trans hx⟩
 ·rintro i s W1 ⟨h1,-⟩;exact h1
 ·rintro i s W1 ⟨h1,r,ln,m,h2,h3⟩ hs hc
  unfold zj4;rw[h3,yry r i s hc hs];exact⟨⟨h2.bel,h2.fx⟩,rfl,by simp,Nat.succ_ne_zero _⟩
 rintro i s W1 W2 b n ⟨h1,r,ln,m,h2,h3⟩ hb i0 j0 hs hc hn e0;have hP:=h2.below hb;have bU:=h2.bU;have e1:=cQ (hP.fx B1 d1.1 d1.2.1 d1.2.2.1 d1.2.2.2.1 d1.2.2.2.2.1 d1.2.2.2.2.2) c0;have e2:=cQ (hP.fx B2 d2.1 d2.2.1 d2.2.2.1 d2.2.2.2.1 d2.2.2.2.2.1 d2.2.2.2.2.2) d0;have e3:=(hP.fx T d3.1 d3.2.1 d3.2.2.1 d3.2.2.2.1 d3.2.2.2.2.1 d3.2.2.2.2.2).trans hT
 have f0:m.aF b=5:=Classical.byContradiction λg0=>by have:=(h2.re.wh b g0).2;omega
 have h0:=yhw hP B1 B2 T b n (i+1) _ e1 e2 e3 ⟨d1.2.1,d2.2.1,d3.2.1⟩ e0 (dU 32 _) ⟨by omega,f0⟩;have a0:=yl3 r i s hc;have aL:=(gU 10 s hc).2;refine Calls.mono h0 ?_;rintro e W3 (⟨g1,rfl,m',g2⟩|⟨g1,rfl,g2⟩)
 ·refine .inl ⟨rfl,by omega,_,_,m',g2,?_⟩
  rw[h3,a0,U (by simpa using g1)]
 refine .inr ⟨_,_,rfl,?_⟩;unfold zj4;rw[h3,a0,G g1];exact⟨g2,rfl,rfl,g1⟩
def yg0(R:Nat)(l:L)(hl:1200<l.length)(c0:l.length<=100000)(w:World):
  E 71 #[F R,Tq l] w λe w'=>e=.panicked (Za 1 0)/\D w w':=by
 have b1:(1200:Int)<(l.length:Int):=by omega
 have a0:=Z (zq5 1 0);have hA:∀o,D w (w.alloc o):=λo=>bA;have HA:=Z hA;clear hA
 go_enter func71,ntmps71
 go_wp2_with fail
 refine(a0 _).mono ?_;rintro e w1 ⟨rfl,b0⟩;exact⟨rfl,rfl,(HA _).trans (b0.mono (by simp))⟩
def txW(w:World)(R:Nat):World:=((w.alloc (.cells #[F R] 151)).alloc (.cells Ur 245)).alloc (.cells #[Sq (w.heap.size+1) 0 12 12] 205)
def yu6(w:World)(R:Nat):(txW w R).heap.size=w.heap.size+3:=by simp[txW]
def za9(w:World)(R:Nat):D w (txW w R):=(((Below.refl _ w).alloc lE _).alloc (by simp) _).alloc (by simp;omega) _
def yl5(w:World)(R:Nat):(txW w R).heap[w.heap.size]?=some (.cells #[F R] 151)/\(txW w R).heap[w.heap.size+1]?=some (.cells Ur 245)/\(txW w R).heap[w.heap.size+1+1]?=some (.cells #[Sq (w.heap.size+1) 0 12 12] 205):=by
 have a:∀(u:World) (o:Obj) (k:Nat),k<u.heap.size->(u.alloc o).heap[k]?=u.heap[k]?:=λu o k hk=>Below.heap_alloc _ _ _ hk
 have l:∀(u:World) (o:Obj) (k:Nat),u.heap.size=k->(u.alloc o).heap[k]?=some o:=λu o k hk=>by subst hk;exact heap_alloc_last u o
 unfold txW;refine⟨?_,?_,?_⟩
 ·rw[a _ _ _ (by simp;omega),a _ _ _ (by simp),l _ _ _ rfl]
 ·rw[a _ _ _ (by simp),l _ _ _ (by simp)]
 rw[l _ _ _ (by simp)]
def yu7(lo base R Pb lm vm cm:Nat)(W0:World)(q:Nat×Nat×Fl.RS)(e:Ending)(w':World):Prop:=
 (q.1=0/\e=.returned (.tuple #[])/\q.2.2.ag=true/\q.2.2.fr=[]/\∃aq m,Zn lo base R Pb lm vm cm W0 w' q.2.2 aq m)\/(q.1≠0/\e=.panicked (Za q.1 q.2.1)/\zuz lo base R Pb lm vm cm W0 w')
def yc9(bB:lo<=R/\lo<=Pb/\lo<=lm/\lo<=vm/\lo<=cm)(hz:R<w.heap.size/\Pb<w.heap.size/\lm<w.heap.size/\vm<w.heap.size/\cm<w.heap.size)
  (nd:R≠Pb/\R≠lm/\R≠vm/\R≠cm/\Pb≠lm/\Pb≠vm/\Pb≠cm/\lm≠vm/\lm≠cm/\vm≠cm) (hR:Ze w R 45 (Xa Pb lm vm cm 0 Fl.RS.zero mem0)) (hP:Ze w Pb 5 (rw_ [.pointer none,K,K,I 0,K]))
  (nl:Yx w lm []) (nv:Yx w vm []) (nc:Yx w cm []) (hg:1<lo) (hm:Xw w) (l:L) (hl:l.length<=1200):
  E 71 #[F R,Tq l] w (yu7 lo (w.heap.size+3) R Pb lm vm cm (txW w R) (Fl.rows Fl.RS.zero 0 (Fl.aK 10 l))):=by
 have b1:(l.length:Int)<=1200:=by omega
 have A0:∀(fn:Fn) (first cap:Array Value) (w:World),(Instr.makeFunc fn first cap).run prog w=.ok (.func fn first cap) w:=λ_ _ _ _=>rfl;obtain⟨k1,k2,k3⟩:=yl5 w R;have cD:=yu6 w R;have n0:=za9 w R;have hb:∀b,b<w.heap.size->(txW w R).heap[b]?=w.heap[b]?:=λb h=>n0.block b h;have h0:=Zn.zero bB (by omega) nd 0 (hR.block (hb _ hz.1)) (hP.block (hb _ hz.2.1)) (nl.block (hb _ hz.2.2.1)) (nv.block (hb _ hz.2.2.2.1)) (nc.block (hb _ hz.2.2.2.2));rw[cD]at h0
 have d1:w.heap.size<w.heap.size+3/\w.heap.size≠R/\w.heap.size≠Pb/\w.heap.size≠lm/\w.heap.size≠vm/\w.heap.size≠cm:=by omega
 have o0:=cR 0 k1;have HE:Y (E 91 #[Tq l,.func (.func 92) #[] #[F w.heap.size,Pp (w.heap.size+1+1) 0]] (txW w R) (zh7 (TxSt lo (w.heap.size+3) R Pb lm vm cm (txW w R) l) (zj4 lo (w.heap.size+3) R Pb lm vm cm (txW w R) l))):=by
  refine yl4 h0 l hl w.heap.size (w.heap.size+1+1) (w.heap.size+1) hg ?_ ?_ d1 (by omega) (by omega) o0 (cR 0 k3) k2
  ·obtain⟨x,hx⟩:=hm
   exact⟨x,(n0.cell (by show 1<w.heap.size;omega)).trans hx⟩
  intro args W;kernel_rfl
 have p0:=Z o0;obtain⟨q,hq⟩:=J (Fl.rows Fl.RS.zero 0 (Fl.aK 10 l));rw[<-hq];have HQ:=Z hq;have HD:=Z d1;obtain⟨W,hW⟩:=J (txW w R);rw[<-hW]at HE p0⊢;have HW:=Z hW;clear bB hz nd hR hP nl nv nc hg hm k1 k2 k3 cD n0 hb h0 o0 hq d1 hW
 go_enter func71,ntmps71
 go_wp2_with fail
 refine(yy5 _).mono ?_;rintro e w1 ⟨rfl,s0⟩;rw[s0];clear s0 w1
 go_wp2_with fail
 have k0:=HE.out;rw[HW.out]at k0;unfold txW at k0;refine Calls.mono k0 ?_;clear k0 HE;rintro e W1 (⟨i,rfl,hi,cZ⟩|⟨n,p,rfl,d0⟩)
 ·change TxSt lo (w.heap.size+3) R Pb lm vm cm (txW w R) l i [] W1 at cZ
  rw[<-HW.out]at cZ;obtain⟨h1,r,ln,m,hP,hr⟩:=cZ;have i1:(i:Int)+1<=50000:=(by simp at h1;omega);have g0:Y (Zn lo (w.heap.size+3) R Pb lm vm cm W (W1.setCell (O R 1) (I ((i:Int)+1))) r ((i:Int)+1) m):=hP.jH _;have qb:∀k,k≠R->(W1.setCell (O R 1) (I ((i:Int)+1))).heap[k]?=W1.heap[k]?:=λk hk=>Zx _ _ _ _ _ hk;have c0:=cQ (hP.fx _ HD.1 HD.2.1 HD.2.2.1 HD.2.2.2.1 HD.2.2.2.2.1 HD.2.2.2.2.2) p0.out;have e0:=cQ (qb _ HD.2.1) c0;have c1:=hP.cR.c 1 (by omega);have zR:=hP.cR.z;have e2:=g0.cR.c 2 (by omega);have e43:(W1.setCell (O R 1) (I ((i:Int)+1))).cell? (O R 43)=some m.ov:=g0.cR.c 43 (by omega);obtain⟨ao,cp,t0⟩:∃ao cp,m.ov=A ao r.fr.length cp:=by
   rcases hP.re.oo.2 with⟨h2,h3⟩|⟨g,cap,cur,h2,-⟩
   ·exact⟨none,0,by rw[h2,h3]⟩
   exact⟨_,_,h2⟩
  rw[t0]at e43;have i0:Y (q=if r.ag=true/\r.fr=[] then(0,0,r) else(3,i+1,r)):=(by show _=_;rw[HQ.out,hr,yc8 r i hi]);have HZ:Y (lo<=W1.heap.size):=(by show lo<=_;have:=hP.bB;have:=hP.bU;omega);obtain⟨W2,l0⟩:=J (W1.setCell (O R 1) (I ((i:Int)+1)));have y0:=Z l0;have j0:W2.heap.size=W1.heap.size:=(by rw[l0];exact Zy _ _ _);have B0:Y (lo<=W2.drew.heap.size):=(by show lo<=W2.heap.size;rw[j0];exact HZ);rw[<-l0]at g0 e0 e2 e43;have f0:=e0;have f2:M W2.drew R 2 (.bool r.ag):=e2;have f43:M W2.drew R 43 (A ao r.fr.length cp):=e43;have q0:Y (E 94 #[F R,.bool false,I 3] W2.drew λe w'=>e=.panicked (Za 3 ((i:Int)+1))/\Below W2.drew.heap.size W2.drew w'):=Yf R 3 _ W2.drew (g0.drew.cR.c 1 (by omega));have m0:Y (E 94 #[F R,.bool true,I 3] W2.drew (Rq (.tuple #[]) W2.drew)):=Xe R 3 W2.drew;clear hP hr hi h1 e0 e2 e43 qb t0 HQ HD p0 l0 j0 HZ
  go_wp2_with fail
  rw[<-y0.out]
  cases a0:r.ag with
  |false=>
   rw[a0]at f2;have HR:Y (q=(3,i+1,r)):=(by show _=_;rw[i0.out,U (by rw[a0];simp)]);clear a0 c0 c1 zR b1 m0 i0;refine Xl 13 5 _ 5 _ (by kernel_rfl) (by kernel_rfl) rfl rfl (λops hY u0=>?_);simp only[take_succ_cons,take_zero,drop_succ_cons,drop_zero]
   iterate 13 still_step
   refine wpStill_nil ?_
   go_wp2_with fail
   refine q0.mono ?_;rintro e w3 ⟨rfl,r0⟩;refine⟨rfl,.inr ⟨?_,?_,?_⟩⟩
   ·rw[HR.out];exact Nat.succ_ne_zero _
   ·rw[HR.out];rfl
   exact g0.drew.gone r0
  |true=>
   rw[a0]at f2
   by_cases b0:r.fr=[]
   ·have HR:Y (q=(0,0,r)):=by show _=_;rw[i0.out,G ⟨a0,b0⟩]
    have HG:Y (r.ag=true/\r.fr=[]):=⟨a0,b0⟩;rw[b0]at f43;simp only[length_nil]at f43;clear a0 c0 c1 zR b1 q0 i0 b0;refine Xl 13 5 _ 5 _ (by kernel_rfl) (by kernel_rfl) rfl rfl (λops hY u0=>?_);simp only[take_succ_cons,take_zero,drop_succ_cons,drop_zero]
    iterate 13 still_step
    refine wpStill_nil ?_
    go_wp2_with fail
    refine m0.mono ?_;rintro e w3 ⟨rfl,v0⟩;have HE:Y (yu7 lo (w.heap.size+3) R Pb lm vm cm W q (.returned (.tuple #[])) w3):=by
     show yu7 _ _ _ _ _ _ _ _ _ _ _;rw[HR.out,v0];exact .inl ⟨rfl,rfl,HG.1,HG.2,_,_,g0.drew⟩
    clear v0 f0 f2 f43 m0;go_wp2
    go_end0
    exact HE
   have HR:Y (q=(3,i+1,r)):=(by show _=_;rw[i0.out,U (λh=>b0 h.2)]);have z0:((r.fr.length:Int)==0)=false:=by
    have:r.fr.length≠0:=λh=>b0 (Qi h);simp;exact b0
   obtain⟨nf,x0⟩:=J (r.fr.length);rw[<-x0]at z0 f43;clear a0 c0 c1 zR b1 m0 i0 b0 x0;refine Xl 13 5 _ 5 _ (by kernel_rfl) (by kernel_rfl) rfl rfl (λops hY u0=>?_);simp only[take_succ_cons,take_zero,drop_succ_cons,drop_zero]
   iterate 13 still_step
   refine wpStill_nil ?_
   go_wp2_with fail
   refine q0.mono ?_;rintro e w3 ⟨rfl,r0⟩;refine⟨rfl,.inr ⟨?_,?_,?_⟩⟩
   ·rw[HR.out];exact Nat.succ_ne_zero _
   ·rw[HR.out];rfl
   exact g0.drew.gone r0
 change zj4 lo (w.heap.size+3) R Pb lm vm cm (txW w R) l n p W1 at d0
 rw[<-HW.out]at d0;obtain⟨h1,h2,h3,h4⟩:=d0;rw[<-HQ.out]at h2 h3 h4;exact⟨rfl,.inr ⟨h4,by rw[h2,h3],h1⟩⟩
def zh8(p:Addr)(n pl:Int)(v0:Value)(older:List PanicEntry)(w:World)(hc:w.cell? p=some v0)(hz:w.frozen? p=false)(a0:p.block<w.heap.size):
  CallsD prog 88 #[.pointer (some p)] (.panicking ({v:=.iface 202 (.agg #[I n,I pl]),recovered:=false}::older)) w λe u' w'=>
   e=.returned (.tuple #[])/\u'=.panicking ({v:=.iface 202 (.agg #[I n,I pl]),recovered:=true}::older)/\∃o,w'=((w.alloc o).alloc (.cells #[I n,I pl] 128)).setCell p (.iface 124 (Pp (w.heap.size+1) 0)):=by
 have b0:∀o o',((w.alloc o).alloc o').cell? p=some v0:=λo o'=>by rw[((((Below.refl w.heap.size w).alloc lE o).alloc (by simp) o').cell a0)];exact hc
 have c0:∀o o',((w.alloc o).alloc o').frozen? p=false:=λo o'=>by rw[((((Below.refl w.heap.size w).alloc lE o).alloc (by simp) o').frozen a0)];exact hz
 have d0:∀W,(Instr.typeAssert (.iface 202 (.agg #[I n,I pl])) 20 202 true).run prog W=.ok (.tuple #[.agg #[I n,I pl],.bool true]) W:=λW=>by kernel_rfl
 refine callsD_of_wpS func88 rfl λc₀ cs hu=>?_;apply wpS_seq
 apply wpS_region
 simp[wpOpsS,go_sem,recoverD,hu,ntmps88,Exit.thenS]
 have ht:(#[pointer (some p)]++((Array.replicate 21 undef).setIfInBounds 3 (.iface 202 (.agg #[I n,I pl]))).setIfInBounds 0 (.iface 202 (.agg #[I n,I pl])):Array Value)=#[.pointer (some p),(.iface 202 (.agg #[I n,I pl])),undef,undef,(.iface 202 (.agg #[I n,I pl])),undef,undef,undef,undef,undef,undef,undef,undef,undef,undef,undef,undef,undef,undef,undef,undef,undef]:=by kernel_rfl
 rw[ht];clear ht;refine wpS_of_wp ?_;have HU:=Z hu;clear hu
 go_wp2_with fail
 refine⟨by simp,_,rfl,.tuple #[],?_,rfl,rfl,_,rfl⟩;simp[results,results88]
def yrx(p:Addr)(w:World):CallsD prog 88 #[.pointer (some p)] .returning w λe u' w'=>e=.returned (.tuple #[])/\u'=.returning/\w'=w:=by
 refine callsD_of_wpS func88 rfl λc₀ cs hu=>?_;apply wpS_seq
 apply wpS_region
 simp[wpOpsS,go_sem,recoverD,hu,ntmps88,Exit.thenS]
 have ht:(#[pointer (some p)]++((Array.replicate 21 undef).setIfInBounds 3 .nilIface).setIfInBounds 0 .nilIface:Array Value)=#[.pointer (some p),.nilIface,undef,undef,.nilIface,undef,undef,undef,undef,undef,undef,undef,undef,undef,undef,undef,undef,undef,undef,undef,undef,undef]:=by kernel_rfl
 rw[ht];clear ht;refine wpS_of_wp ?_;have HU:=Z hu;clear hu
 go_wp2_with fail
 refine⟨by simp,.returning,?_,.tuple #[],?_,rfl,rfl,rfl⟩
 ·have h9:=HU.out
  cases c₀;simp_all
 simp[results,results88]
def zaz(f:FuncId)(cap:Array Value)(w:World)(Rr:World->Prop)(Rp:Int->Int->World->Prop)(d0:∀W,(callFunc f cap).run prog W=.ok (.enter f cap) W)
  (a0:E f cap (w.alloc (.cells #[.nilIface] 96)) λe w'=>w'.cell? (O w.heap.size 0)=some .nilIface/\w'.frozen? (O w.heap.size 0)=false/\((e=.returned (.tuple #[])/\Rr w')\/∃n pl,e=.panicked (Za n pl)/\Rp n pl w')):
  E 69 #[.func (.func f) #[] cap] w λe w'=>(∃w1,e=.returned .nilIface/\Rr w1/\w'=w1.setCell (O w.heap.size 0) .nilIface)\/
   ∃n pl w1 o,e=.returned (.iface 124 (Pp (w1.heap.size+1) 0))/\Rp n pl w1/\w'=((w1.alloc o).alloc (.cells #[I n,I pl] 128)).setCell (O w.heap.size 0) (.iface 124 (Pp (w1.heap.size+1) 0)):=by
 have e0:∀(fn:Fn) (first cap:Array Value) (w:World),(Instr.makeFunc fn first cap).run prog w=.ok (.func fn first cap) w:=λ_ _ _ _=>rfl;have c0:=Z a0;clear a0
 go_enter_defers func69,ntmps69
 go_wp2_with fail
 refine(c0.out).mono ?_;rintro e w1 ⟨hc,hz,⟨rfl,hr⟩|⟨n,pl,rfl,hp⟩⟩
 ·have HR:=Z hr
  clear hr
  go_wp2_with fail
  refine leaves_cons (f:=88) (args:=#[F w.heap.size]) (by simp) (by simp[go_sem]) ?_;refine(yrx (O w.heap.size 0) _).mono ?_;rintro e u' w'' ⟨rfl,rfl,rfl⟩;have q0:M (w1.setCell (O w.heap.size 0) .nilIface) w.heap.size 0 .nilIface:=cell?_setCell_same' _ _ _ (by simp[hc]);refine⟨.nilIface,by simp[results,results69,go_sem,q0],.inl ⟨w1,rfl,HR,rfl⟩⟩
 have b0:w.heap.size<w1.heap.size:=Qe w1 _ hc;refine leaves_cons (f:=88) (args:=#[F w.heap.size]) (by simp) (by simp[go_sem]) ?_;refine(zh8 (O w.heap.size 0) n pl .nilIface [] w1 hc hz b0).mono ?_;rintro e u' w'' ⟨rfl,rfl,o,rfl⟩;have q0:(((w1.alloc o).alloc (.cells #[I n,I pl] 128)).setCell (O w.heap.size 0) (.iface 124 (Pp (w1.heap.size+1) 0))).cell? (O w.heap.size 0)=some (.iface 124 (Pp (w1.heap.size+1) 0)):=by
  refine cell?_setCell_same' _ _ _ ?_;rw[cell?_alloc_past _ _ _ (by simp;omega),cell?_alloc_past _ _ _ b0,hc];rfl
 refine⟨.iface 124 (Pp (w1.heap.size+1) 0),by simp[results,results69,go_sem,q0],.inr ⟨n,pl,w1,o,rfl,hp,rfl⟩⟩
end
section
open Go.RowKit Go.Maps Go.WideMaps Go.ChangeMaps Go.MapKept
def zu2(S:Nat->Prop)(w:World)(v:Value)(l:List Nat):Prop:=
 ∃ao cap,v=A ao l.length cap/\l.length<=cap/\cap<=maxLen/\(l≠[]->∃b,ao=some (O b 0)/\S b/\∀i,i<l.length->w.cell? (O b i)=some (I (l.getD i 0)))
def zu2.kept{l:List Nat}(h:zu2 S w v l)(hS:∀b,S b->S' b)(hw:∀b,S b->w'.heap[b]?=w.heap[b]?):zu2 S' w' v l:=by
 obtain⟨ao,cap,h1,h2,h3,h4⟩:=h;refine⟨ao,cap,h1,h2,h3,λa0=>?_⟩;obtain⟨b,e,hb,hc⟩:=h4 a0;exact⟨b,e,hS b hb,λi hi=>cQ (hw b hb) (hc i hi)⟩
def zu2.own{l:List Nat}(h:w.ownsRow base 3 1 v l.length (Ym l))(hv:∀b,v.ownBlock=some b->S b):zu2 S w v l:=by
 rcases h.2 with⟨rfl,h0⟩|⟨g,cap,cur,rfl,hb,hg,c0,a0,d0,ht⟩
 ·exact⟨none,0,by rw[h0],by omega,by simp[maxLen],λb0=>absurd (Qi h0) b0⟩
 refine⟨_,cap,rfl,by omega,a0,λ_=>⟨g,rfl,hv g rfl,λi hi=>?_⟩⟩;have h4:=h.cells rfl i (I (l.getD i 0)) (by unfold Ym;simp[Qa,hi])
 have h5:((O g 0):Addr).add i=(O g i):=by unfold Addr.add;split<;>simp_all
 rw[h5]at h4;exact h4
def zu3(S:Nat->Prop)(w:World)(Pb:Nat)(p:Fl.aY):Prop:=
 ∃Lb aB cS bv,S Pb/\S Lb/\Ze w Pb 5 (rw_ [ptr Lb,aB,cS,I p.ap,bv])/\Jo w Lb p.n p.leq/\zu2 S w aB p.cells/\zu2 S w cS p.ai/\Yz 4 S w bv p.aZ
def zu3.kept{S S':Nat->Prop}{w w':World}{Pb:Nat}{p:Fl.aY}(h:zu3 S w Pb p)(hS:∀b,S b->S' b)(hw:∀b,S b->w'.heap[b]?=w.heap[b]?):zu3 S' w' Pb p:=by
 obtain⟨Lb,aB,cS,bv,h1,h2,h3,h4,h5,h6,h7⟩:=h;exact⟨Lb,aB,cS,bv,hS _ h1,hS _ h2,h3.block (hw _ h1),h4.block (hw _ h2),h5.kept hS hw,h6.kept hS hw,Yz.kept hS hw _ _ _ h7⟩
def Zn.prog{lo base R Pb lm vm cm:Nat}{w0 w:World}{r:Fl.RS}{aq:Int}{m:Ya}(h:Zn lo base R Pb lm vm cm w0 w r aq m)(hb:r.ag=true)(hf:r.fr=[]):zu3 (λb=>(b=Pb\/base<=b)/\b<w.heap.size) w Pb r.prog:=by
 obtain⟨Lb,l1,l2,l3⟩:=h.re.la hb;have bU:=h.bU;have bB:=h.bB
 have hS:∀b,m.aF b≠5->(b=Pb\/base<=b)/\b<w.heap.size:=λb hb=>by have:=h.re.wh b hb;omega
 have b0:=Qi (by rw[h.re.fa.len,hf];rfl);have a0:=h.re.pb;rw[b0]at a0;refine⟨Lb,m.aB,m.cS,m.bv,by omega,hS _ (by rw[l2];decide),by rw[<-l1];exact h.cP,l3,zu2.own h.re.oc (λb hv=>hS b (by rw[h.re.tc b hv];decide)),zu2.own h.re.oh (λb hv=>hS b (by rw[h.re.th b hv];decide)),?_⟩;have c0:=h.ok.cn.1;have cZ:=h.ok.st;exact Ys.closed (a0.kept (λb hv=>hS b (by rw[hv];decide)) (λ_ _=>rfl) (λ_ _=>rfl)) (λb hv=>hS b (by rw[h.re.tb b hv];decide)) (by show r.bK.length<=16;omega)
def yxx(n:Nat):Array Value:=#[ptr (n+1),I 0,.bool false,I 0,.bool false,.bool false,.bool false,.bool false,.bool false,.bool false,.bool false,.bool false,.bool false,.bool false,.bool false,.bool false,.bool false,.bool false,.bool false,.bool false,.bool false,.bool false,.bool false,.bool false,.bool false,.bool false,.bool false,.bool false,.bool false,.bool false,.bool false,.bool false,.bool false,.bool false,.bool false,.bool false,.bool false,.bool false,.bool false,.bool false,.map (some (n+2)),.map (some (n+3)),.map (some (n+4)),K,I 0]
def ycz(n j:Nat)(h:j<45):(yxx n)[j]?=some (Xa (n+1) (n+2) (n+3) (n+4) 0 Fl.RS.zero mem0 j):=by
 have:j=0\/j=1\/j=2\/j=3\/(4<=j/\j<40)\/j=40\/j=41\/j=42\/j=43\/j=44:=by omega
 rcases this with rfl|rfl|rfl|rfl|h1|rfl|rfl|rfl|rfl|rfl
 ·rfl
 ·rfl
 ·rfl
 ·rfl
 ·unfold Xa
  rw[U (by omega),U (by omega),U (by omega),U (by omega),U (by omega),U (by omega),U (by omega),U (by omega),U (by omega)]
  have:j=4\/j=5\/j=6\/j=7\/j=8\/j=9\/j=10\/j=11\/j=12\/j=13\/j=14\/j=15\/j=16\/j=17\/j=18\/j=19\/j=20\/j=21\/j=22\/j=23\/j=24\/j=25\/j=26\/j=27\/j=28\/j=29\/j=30\/j=31\/j=32\/j=33\/j=34\/j=35\/j=36\/j=37\/j=38\/j=39:=by omega
  rcases this with rfl|rfl|rfl|rfl|rfl|rfl|rfl|rfl|rfl|rfl|rfl|rfl|rfl|rfl|rfl|rfl|rfl|rfl|rfl|rfl|rfl|rfl|rfl|rfl|rfl|rfl|rfl|rfl|rfl|rfl|rfl|rfl|rfl|rfl|rfl|rfl<;>rfl
 ·rfl
 ·rfl
 ·rfl
 ·rfl
 rfl
def rdW(w:World)(l:L):World:=((((((w.alloc (.cells #[Tq l] 9)).alloc (.cells #[.pointer none,K,K,I 0,K] 155)).alloc (.map #[] 0)).alloc (.map #[] 0)).alloc (.map #[] 0)).alloc (.cells (yxx w.heap.size) 164)).alloc (.cells #[Pp (w.heap.size+5) 0] 151)
def zh9(w:World)(l:L):(rdW w l).heap.size=w.heap.size+7:=by simp[rdW]
def zay(w:World)(l:L):D w (rdW w l):=(((((((Below.refl _ w).alloc lE _).alloc (by simp<;>omega) _).alloc (by simp<;>omega) _).alloc (by simp<;>omega) _).alloc (by simp<;>omega) _).alloc (by simp<;>omega) _).alloc (by simp<;>omega) _
def zn8(w:World)(l:L):(rdW w l).heap[w.heap.size]?=some (.cells #[Tq l] 9)/\
  (rdW w l).heap[w.heap.size+1]?=some (.cells #[.pointer none,K,K,I 0,K] 155)/\
  (rdW w l).heap[w.heap.size+2]?=some (.map #[] 0)/\(rdW w l).heap[w.heap.size+3]?=some (.map #[] 0)/\(rdW w l).heap[w.heap.size+4]?=some (.map #[] 0)/\
  (rdW w l).heap[w.heap.size+5]?=some (.cells (yxx w.heap.size) 164)/\(rdW w l).heap[w.heap.size+6]?=some (.cells #[Pp (w.heap.size+5) 0] 151):=by
 have a:∀(u:World) (o:Obj) (k:Nat),k<u.heap.size->(u.alloc o).heap[k]?=u.heap[k]?:=λu o k hk=>Below.heap_alloc _ _ _ hk
 have l:∀(u:World) (o:Obj) (k:Nat),u.heap.size=k->(u.alloc o).heap[k]?=some o:=λu o k hk=>by subst hk;exact heap_alloc_last u o
 unfold rdW;refine⟨?_,?_,?_,?_,?_,?_,?_⟩
 ·rw[a _ _ _ (by simp<;>omega),a _ _ _ (by simp<;>omega),a _ _ _ (by simp<;>omega),a _ _ _ (by simp<;>omega),a _ _ _ (by simp<;>omega),a _ _ _ (by simp<;>omega),l _ _ _ (by simp<;>omega)]
 ·rw[a _ _ _ (by simp<;>omega),a _ _ _ (by simp<;>omega),a _ _ _ (by simp<;>omega),a _ _ _ (by simp<;>omega),a _ _ _ (by simp<;>omega),l _ _ _ (by simp<;>omega)]
 ·rw[a _ _ _ (by simp<;>omega),a _ _ _ (by simp<;>omega),a _ _ _ (by simp<;>omega),a _ _ _ (by simp<;>omega),l _ _ _ (by simp<;>omega)]
 ·rw[a _ _ _ (by simp<;>omega),a _ _ _ (by simp<;>omega),a _ _ _ (by simp<;>omega),l _ _ _ (by simp<;>omega)]
 ·rw[a _ _ _ (by simp<;>omega),a _ _ _ (by simp<;>omega),l _ _ _ (by simp<;>omega)]
 ·rw[a _ _ _ (by simp<;>omega),l _ _ _ (by simp<;>omega)]
 rw[l _ _ _ (by simp<;>omega)]
def Yx.fresh{b:Nat}(h:w.heap[b]?=some (.map #[] 0)):Yx w b []:=by
 have ho:w.ownsMap (H:=Unit) prog 9 (plainElem prog 3) b 0 (.map []):=⟨#[],0,h,⟨by simp,stamped_empty 0,by simp⟩,lE,rfl⟩;exact⟨0,.map [],ho,lE,rfl,ho.tidy zmy,ho.isMap,λx=>⟨by simp[Maps.has,Fl.aj,bx],by simp[DataW.atKey,Fl.aj,bx];decide⟩⟩
end
section
open Go.RowKit
def zu2.ints{l:List Nat}(h:zu2 S w v l)(hS:∀b,S b->b<w.heap.size):Zw w.heap.size w v (l.map λ(y:Nat)=>(y:Int)):=by
 obtain⟨ao,cap,rfl,h2,h3,h4⟩:=h;refine⟨ao,cap,by simp,by simpa using h2,by simp;omega,λb0=>?_⟩;obtain⟨b,e,hb,hc⟩:=h4 (by rintro rfl;exact b0 rfl);refine⟨b,0,e,hS b hb,λi hi=>?_⟩
 have a0:i<l.length:=by simpa using hi
 rw[Nat.zero_add,hc i a0];simp[Qa,a0]
def RdIn(n:Nat)(V:World)(q:Nat×Nat×Fl.aY)(e:Ending)(w':World):Prop:=
 Below n V w'/\n+8<=w'.heap.size/\w'.heap[n+7]?=V.heap[n+7]?/\w'.heap[n+6]?=V.heap[n+6]?/\
 ((q.1=0/\e=.returned (.tuple #[])/\zu3 (λb=>(n<=b/\b≠n+7)/\b<w'.heap.size) w' (n+1) q.2.2/\w'.cell? (O (n+5) 0)=some (ptr (n+1)))\/(q.1≠0/\e=.panicked (Za q.1 q.2.1)))
def zc6(l:L)(h:¬1200<l.length):Fl.ab l=((Fl.rows Fl.RS.zero 0 (Fl.aK 10 l)).1,(Fl.rows Fl.RS.zero 0 (Fl.aK 10 l)).2.1,(Fl.rows Fl.RS.zero 0 (Fl.aK 10 l)).2.2.prog):=by
 unfold Fl.ab;rw[U h]
def yyy(l:L)(h:1200<l.length):Fl.ab l=(1,0,Fl.RS.zero.prog):=by
 unfold Fl.ab;rw[G h]
def rd_text(hV:V=(rdW w l).alloc (.cells #[.nilIface] 96))(hl:l.length<=100000)(hg:1<w.heap.size)(hm:Xw w):
  E 71 #[Pp (w.heap.size+5) 0,Tq l] V (RdIn w.heap.size V (Fl.ab l)):=by
 have hz:=zh9 w l
 have g0:V.heap.size=w.heap.size+8:=by rw[hV];simp[hz]
 have b0:Below (rdW w l).heap.size (rdW w l) V:=by rw[hV];exact bA
 have hB:=(zay w l).trans (b0.mono (by omega));obtain⟨k0,k1,k2,k3,k4,k5,k6⟩:=zn8 w l;have q:∀k,k<w.heap.size+7->V.heap[k]?=(rdW w l).heap[k]?:=λk hk=>b0.block k (by omega)
 by_cases hs:1200<l.length
 ·rw[yyy l hs]
  refine(yg0 _ l hs hl V).mono ?_;rintro e w' ⟨rfl,hb⟩;have hz':=hb.size;exact⟨hb.mono (by omega),by omega,hb.block _ (by omega),hb.block _ (by omega),.inr ⟨Nat.succ_ne_zero _,rfl⟩⟩
 rw[zc6 l hs]
 have hR:Ze V (w.heap.size+5) 45 (Xa (w.heap.size+1) (w.heap.size+2) (w.heap.size+3) (w.heap.size+4) 0 Fl.RS.zero mem0):=
  ⟨λj hj=>(cell_of_row V _ j _ _ (0,0) ((q _ (by omega)).trans k5)).trans (ycz _ j hj),λj=>fQ (q (w.heap.size+5) (by omega)) (by simp[frozen?,k5])⟩
 have hP:Ze V (w.heap.size+1) 5 (rw_ [.pointer none,K,K,I 0,K]):=
  ⟨λj hj=>(cell_of_row V _ j _ _ (0,0) ((q _ (by omega)).trans k1)).trans (by rcases(show j=0\/j=1\/j=2\/j=3\/j=4 by omega) with rfl|rfl|rfl|rfl|rfl<;>rfl),λj=>fQ (q (w.heap.size+1) (by omega)) (by simp[frozen?,k1])⟩
 have hm':Xw V:=by
  obtain⟨x,hx⟩:=hm;exact⟨x,(hB.cell hg).trans hx⟩
 have ht:=yc9 (by omega) (by omega) (by omega) hR hP (Yx.fresh ((q _ (by omega)).trans k2)) (Yx.fresh ((q _ (by omega)).trans k3)) (Yx.fresh ((q _ (by omega)).trans k4)) hg hm' l (by omega);refine ht.mono ?_;have a0:=za9 V (w.heap.size+5);have i0:=yu6 V (w.heap.size+5);rintro e w' (⟨h0,rfl,d0,e0,ln,m,hp⟩|⟨h0,rfl,c0,f0⟩)
 ·have bU:=hp.bU
  have f:∀k,k=w.heap.size+6\/k=w.heap.size+7->w'.heap[k]?=V.heap[k]?:=λk hk=>(hp.fx k (by omega) (by omega) (by omega) (by omega) (by omega) (by omega)).trans (a0.block k (by omega));refine⟨(a0.mono (by omega)).trans hp.bel,by omega,f _ (by omega),f _ (by omega),.inl ⟨h0,rfl,?_,hp.cR.c 0 (by omega)⟩⟩;exact(hp.prog d0 e0).kept (λb hb=>by have:=hb.1;have:=hb.2;omega) (λ_ _=>rfl)
 have f:∀k,k=w.heap.size+6\/k=w.heap.size+7->w'.heap[k]?=V.heap[k]?:=λk hk=>(f0 k (by omega) (by omega) (by omega) (by omega) (by omega) (by omega)).trans (a0.block k (by omega));exact⟨(a0.mono (by omega)).trans c0,by have:=c0.size;omega,f _ (by omega),f _ (by omega),.inr ⟨h0,rfl⟩⟩
def do_read(hV:V=(rdW w l).alloc (.cells #[.nilIface] 96))(hl:l.length<=100000)(hg:1<w.heap.size)(hm:Xw w):
  E 70 #[Pp (w.heap.size+6) 0,F w.heap.size] V (RdIn w.heap.size V (Fl.ab l)):=by
 have HT:=Z (rd_text hV hl hg hm);obtain⟨k0,k1,k2,k3,k4,k5,k6⟩:=zn8 w l;have hz:=zh9 w l
 have q:∀k,k<w.heap.size+7->V.heap[k]?=(rdW w l).heap[k]?:=λk hk=>by rw[hV];exact Below.heap_alloc _ _ _ (by omega)
 have c6:=cell_of_row V _ 0 _ _ (0,0) ((q _ (by omega)).trans k6);have c0:=cell_of_row V _ 0 _ _ (0,0) ((q _ (by omega)).trans k0);obtain⟨aX,a0⟩:=J (Fl.ab l);rw[<-a0]at HT⊢;clear hV k0 k1 k2 k3 k4 k5 k6 hz q a0 hl hg hm
 go_enter func70,ntmps70
 go_wp2_with fail
 refine HT.mono ?_;rintro e W ⟨h1,h2,h3,h4,⟨h5,rfl,h6⟩|⟨h5,rfl⟩⟩
 ·have HE:Y (RdIn w.heap.size V aX (.returned (.tuple #[])) W):=⟨h1,h2,h3,h4,.inl ⟨h5,rfl,h6⟩⟩
  clear h1 h2 h3 h4 h5 h6 HT c0 c6;go_wp2
  go_end0
  exact HE
 exact⟨rfl,h1,h2,h3,h4,.inr ⟨h5,rfl⟩⟩
def zhz(q:Nat×Nat×Fl.aY)(w:World)(e:Ending)(w':World):Prop:=
  D w w'/\
  ((q.1=0/\∃Pb,e=.returned (.tuple #[F Pb,.nilIface])/\zu3 (λb=>w.heap.size<=b/\b<w'.heap.size) w' Pb q.2.2)\/
   (q.1≠0/\∃a,e=.returned (.tuple #[.pointer none,.iface 124 (F a)])/\w'.cell? (O a 0)=some (I q.1)/\w'.cell? (O a 1)=some (I q.2.1)))
def RcEnds(q:Nat×Nat×Fl.aY)(w:World)(e:Ending)(w':World):Prop:=
  D w w'/\
  ((q.1=0/\e=.returned .nilIface/\w'.cell? (O (w.heap.size+6) 0)=some (Pp (w.heap.size+5) 0)/\w'.cell? (O (w.heap.size+5) 0)=some (Pp (w.heap.size+1) 0)/\zu3 (λb=>w.heap.size<=b/\b<w'.heap.size) w' (w.heap.size+1) q.2.2)\/
   (q.1≠0/\∃a,e=.returned (.iface 124 (F a))/\w'.cell? (O a 0)=some (I q.1)/\w'.cell? (O a 1)=some (I q.2.1)))
def yl6(hl:l.length<=100000)(hg:1<w.heap.size)(hm:Xw w):
  E 69 #[.func (.func 70) #[] #[Pp (w.heap.size+6) 0,F w.heap.size]] (rdW w l) (RcEnds (Fl.ab l) w):=by
 have hd:=do_read rfl hl hg hm;have hz:=zh9 w l;have hc:=zaz 70 #[Pp (w.heap.size+6) 0,F w.heap.size] (rdW w l) (λw'=>RdIn w.heap.size ((rdW w l).alloc (.cells #[.nilIface] 96)) (Fl.ab l) (.returned (.tuple #[])) w') (λn pl w'=>n=((Fl.ab l).1:Int)/\pl=((Fl.ab l).2.1:Int)/\RdIn w.heap.size ((rdW w l).alloc (.cells #[.nilIface] 96)) (Fl.ab l) (.panicked (Za n pl)) w') (λW=>by kernel_rfl);rw[hz]at hc;have a0:((rdW w l).alloc (.cells #[.nilIface] 96)).heap[w.heap.size+7]?=some (.cells #[.nilIface] 96):=by
  have:=heap_alloc_last (rdW w l) (.cells #[.nilIface] 96);rw[hz]at this;exact this
 have b0:D w ((rdW w l).alloc (.cells #[.nilIface] 96)):=(zay w l).alloc (by omega) _;obtain⟨k0,k1,k2,k3,k4,k5,k6⟩:=zn8 w l;have k6':((rdW w l).alloc (.cells #[.nilIface] 96)).heap[w.heap.size+6]?=some (.cells #[Pp (w.heap.size+5) 0] 151):=(Below.heap_alloc _ _ _ (by omega)).trans k6;refine(hc (hd.mono ?_)).mono ?_
 ·rintro e w' ⟨h1,h2,h3,h4,h5⟩
  refine⟨cR 0 (h3.trans a0),by rw[frozen?,h3,a0];simp,?_⟩;rcases h5 with⟨h5,rfl,h6⟩|⟨h5,rfl⟩
  ·exact .inl ⟨rfl,h1,h2,h3,h4,.inl ⟨h5,rfl,h6⟩⟩
  exact .inr ⟨_,_,rfl,rfl,rfl,h1,h2,h3,h4,.inr ⟨h5,rfl⟩⟩
 have f:∀(u:World) (v:Value) (k:Nat),k≠w.heap.size+7->(u.setCell (O (w.heap.size+7) 0) v).heap[k]?=u.heap[k]?:=λu v k hk=>Zx _ _ _ _ _ hk;rintro e wz (⟨w1,rfl,⟨h1,h2,h3,h4,h5⟩,rfl⟩|⟨n,pl,w1,o,rfl,⟨rfl,rfl,h1,h2,h3,h4,h5⟩,rfl⟩)
 ·rcases h5 with⟨h5,-,h6,h7⟩|⟨h5,h6⟩
  ·refine⟨(b0.trans h1).setCell (show w.heap.size<=w.heap.size+7 by omega) _,.inl ⟨h5,rfl,?_,?_,?_⟩⟩
   ·exact(cQ ((f _ _ (w.heap.size+6) (by omega)).trans h4) (cR 0 k6'))
   ·exact(cQ (f _ _ (w.heap.size+5) (by omega)) h7)
   refine h6.kept (λb hb=>?_) (λb hb=>f _ _ _ hb.1.2);rw[Zy];exact⟨hb.1.1,hb.2⟩
  cases h6
 rcases h5 with⟨h5,h6,-⟩|⟨h5,-⟩
 ·cases h6
 have hq:∀v,(((w1.alloc o).alloc (.cells #[I ((Fl.ab l).1:Int),I ((Fl.ab l).2.1:Int)] 128)).setCell (O (w.heap.size+7) 0) v).heap[w1.heap.size+1]?=some (.cells #[I ((Fl.ab l).1:Int),I ((Fl.ab l).2.1:Int)] 128):=λv=>by
  rw[f _ _ _ (by omega)];have:=heap_alloc_last (w1.alloc o) (.cells #[I ((Fl.ab l).1:Int),I ((Fl.ab l).2.1:Int)] 128);simpa using this
 refine⟨(((b0.trans h1).alloc (by omega) _).alloc (by simp;omega) _).setCell (show w.heap.size<=w.heap.size+7 by omega) _,.inr ⟨h5,_,rfl,?_,?_⟩⟩
 ·exact cR 0 (hq _)
 exact cR 1 (hq _)
def yg1(hl:l.length<=100000)(hg:1<w.heap.size)(hm:Xw w):
  E 56 #[Tq l] w (zhz (Fl.ab l) w):=by
 have c0:∀(fn:Fn) (first cap:Array Value) (w:World),(Instr.makeFunc fn first cap).run prog w=.ok (.func fn first cap) w:=λ_ _ _ _=>rfl;have d0:= @run_makeMap prog;have HC:=Z (yl6 hl hg hm);obtain⟨aX,b0⟩:=J (Fl.ab l);rw[<-b0]at HC⊢;clear hl hg hm b0
 go_enter func56,ntmps56
 go_wp2_with (refine Ux rfl 164 _ rfl (yxx w.heap.size) (by kernel_rfl) ?_)
 refine Calls.mono HC ?_;clear HC;rintro e wz ⟨hB,⟨h0,rfl,c6,c5,hp⟩|⟨h0,a,rfl,a0,a1⟩⟩
 ·have d6:=c6
  have d5:=c5;have HE:Y (zhz aX w (.returned (.tuple #[Pp (w.heap.size+1) 0,.nilIface])) wz):=⟨hB,.inl ⟨h0,_,rfl,hp⟩⟩;clear hB h0 c6 c5 hp;go_wp2;exact bodyPost_ret (by simp[results,results56,go_sem]) rfl HE.out
 have HE:Y (zhz aX w (.returned (.tuple #[.pointer none,.iface 124 (F a)])) wz):=⟨hB,.inr ⟨h0,_,rfl,a0,a1⟩⟩;clear hB h0 a0 a1;go_wp2;exact bodyPost_ret (by simp[results,results56,go_sem]) rfl HE.out
end
namespace Fl
def iB{ws t:List ar}{k:Nat}(h:k<ws.length):nth (ws++t) k=nth ws k:=by
 unfold nth;rw[Qa,Qa,getElem?_append_left h]
def eS{ws t:List ar}{k:Int}(h:0<=k/\k<ws.length):nd (ws++t) k=nd ws k:=iB (by omega)
def jm{α:Type}{f g:α->Bool}:∀{l:List α},(∀k∈l,f k=g k)->l.all f=l.all g
 |[],_=>rfl
 |a::l,h=>by rw[all_cons,all_cons,h a (by simp),jm (λk hk=>h k (by simp[hk]))]
def gH{p:aY}{ws t:List ar}{n:ar}(hk:0<=n.kind/\n.kind<=7)(h:∀i∈prem n,0<=i/\i<(ws.length:Int)):follows p ls (ws++t) n=follows p ls ws n:=by
 unfold follows bP
 congr 1
 by_cases k0:n.kind=0
 ·rw[G k0,G k0]
 rw[U k0,U k0]
 by_cases k1:n.kind=1
 ·rw[G k1,G k1]
 rw[U k1,U k1]
 by_cases k2:n.kind=2
 ·rw[G k2,G k2]
  have hp:prem n=[n.b,n.c]:=(by unfold prem;rw[G k2]);rw[hp]at h;rw[eS (h n.b (by simp)),eS (h n.c (by simp))]
 rw[U k2,U k2]
 by_cases k3:n.kind=3
 ·rw[G k3,G k3]
  have hp:prem n=[n.b]:=(by unfold prem;rw[U k2,G (.inl k3)]);rw[hp]at h;unfold eu;rw[eS (h n.b (by simp))]
 rw[U k3,U k3]
 by_cases k4:n.kind=4
 ·rw[G k4,G k4]
  have hp:prem n=[n.b]:=(by unfold prem;rw[U k2,G (.inr k4)]);rw[hp]at h;unfold eu;rw[eS (h n.b (by simp))]
 rw[U k4,U k4]
 by_cases k5:n.kind=5
 ·rw[G k5,G k5]
  have hp:prem n=[n.a,n.b,n.c]:=(by unfold prem;rw[U k2,U (by omega),G k5]);rw[hp]at h;unfold dw;rw[eS (h n.a (by simp)),eS (h n.b (by simp)),eS (h n.c (by simp))]
 rw[U k5,U k5]
 by_cases k6:n.kind=6
 ·rw[G k6,G k6]
  have hp:prem n=[n.a,n.b]:=(by unfold prem;rw[U k2,U (by omega),U k5,G k6]);rw[hp]at h;unfold dw;rw[eS (h n.a (by simp)),eS (h n.b (by simp))]
 rw[U k6,U k6]
 have hp:prem n=n.ae:=by unfold prem;rw[U k2,U (by omega),U k5,U k6,G (by omega)]
 rw[hp]at h
 exact jm λk hk=>by rw[eS (h k hk)]
def mS(p:aY)(ls:Is)(ws:List ar):Prop:=
 ∀k,k<ws.length->(0<=(nth ws k).kind/\(nth ws k).kind<=7)/\follows p ls ws (nth ws k)=true/\∀i∈prem (nth ws k),0<=i/\i<(k:Int)
def mS.nil(p:aY)(ls:Is):mS p ls []:=λk hk=>by simp at hk
def mS.push{p:aY}{ws:List ar}(h:mS p ls ws){n:ar}(hk:0<=n.kind/\n.kind<=7)(hf:follows p ls ws n=true)(hp:∀i∈prem n,0<=i/\i<(ws.length:Int)):mS p ls (ws++[n]):=λk b0=>by
 by_cases a0:k<ws.length
 ·rw[iB a0]
  obtain⟨h1,h2,h3⟩:=h k a0;exact⟨h1,by rw[gH h1 (λi hi=>by have:=h3 i hi;omega)];exact h2,h3⟩
 have c0:k=ws.length:=by simp at b0;omega
 subst c0
 have e:nth (ws++[n]) ws.length=n:=by unfold nth;simp[Qa]
 rw[e];exact⟨hk,by rw[gH hk hp];exact hf,hp⟩
structure mR(p:aY)(ls:Is)(ws:List ar)(r:Int×List ar):Prop where
 oY:mS p ls r.2
 ext:∃t,r.2=ws++t
 nR:0<=r.1/\r.1<r.2.length
 new:r.2=ws\/r.1=(r.2.length:Int) - 1
def mR.len{p:aY}{ws:List ar}{r:Int×List ar}(h:mR p ls ws r):ws.length<=r.2.length:=by
 obtain⟨t,e⟩:=h.ext;rw[e];simp
def mR.nd{p:aY}{ls:Is}{ws:List ar}{r:Int×List ar}(h:mR p ls ws r){k:Int}(hk:0<=k/\k<ws.length):nd r.2 k=nd ws k:=by
 obtain⟨t,e⟩:=h.ext;rw[e];exact eS hk
def mR.comp{p:aY}{ws:List ar}{r r':Int×List ar}(h:mR p ls ws r)(h':mR p ls r.2 r')(hn:r'.2.length=r.2.length->r.1<r'.1):mR p ls ws r':=by
 obtain⟨t,e⟩:=h.ext;obtain⟨t',e'⟩:=h'.ext;refine⟨h'.oY,⟨t++t',by rw[e',e,append_assoc]⟩,h'.nR,?_⟩;rcases h'.new with h1|h1
 ·have h2:=hn (by rw[h1])
  have h3:=h'.nR;rcases h.new with h4|h4
  ·exact .inl (h1.trans h4)
  rw[h1]at h3;omega
 exact .inr h1
def dR{p:aY}(lv:p.Lv)(ha:0<=a/\a<p.n):aO p a a=true:=lv.fh.refl _ (by omega)
def im{p:aY}(lv:p.Lv)(ha:0<=a/\a<p.n)(hb:0<=b/\b<p.n):aO p a (jn p a b)=true/\aO p b (jn p a b)=true:=by
 obtain⟨k,h1,h2,h3,h4,-⟩:=lv.fh.jK a.toNat b.toNat (by omega) (by omega)
 have e:(jn p a b).toNat=k:=by unfold jn;rw[h2];simp
 unfold aO;rw[e];exact⟨h3,h4⟩
def dj{p:aY}(lv:p.Lv){c:Int}(ha:0<=a/\a<p.n)(hb:0<=b/\b<p.n)(hc:0<=c/\c<p.n)(h1:aO p a b=true)(h2:aO p b c=true):aO p a c=true:=lv.fh.trans _ _ _ (by omega) (by omega) (by omega) h1 h2
def mS.prem{p:aY}{ls:Is}{ws:List ar}(h:mS p ls ws){k:Int}(hk:0<=k/\k<ws.length):∀i∈Go.Proofs.YtgmbnnpnefniiaaGreatDoor.prem (nd ws k),0<=i/\i<(ws.length:Int):=λi hi=>by
 have h1:=(h k.toNat (by omega)).2.2 i hi;omega
section
variable{p:aY}
def dC(lv:p.Lv)(ok:bC p vs){a:dK}(ho:zsy vs a):0<=bQ p vs a/\bQ p vs a<p.n:=by
 obtain⟨k,hk,ek⟩:=zmw lv ok.2 ho;omega
def eW(lv:p.Lv)(ok:bC p vs){e:dZ}(ho:cg vs.length e):0<=aA p vs e/\aA p vs e<p.n:=by
 obtain⟨k,hk,ek⟩:=yw3 lv ok ho;omega
end
def mo{α:Type}{l:List α}{x:α}(h:i<l.length):l.getD i x∈l:=by
 rw[Qa,Qb h];exact getElem_mem h
section
variable{p:aY}
def lX(lv:p.Lv)(hi:i<p.ai.length):0<=(p.ai.map λ(y:Nat)=>(y:Int)).getD i 0/\(p.ai.map λ(y:Nat)=>(y:Int)).getD i 0<p.n:=by
 obtain⟨k,hk,e⟩:=yd9 lv hi;omega
end
end Fl
namespace Fl
structure RS.Lv(r:RS):Prop where
 le:r.au.length<=6
 ce:∀y∈r.aW,y<r.au.length
 ch:∀y∈r.aV,y<r.au.length
def nQ:RS.zero.Lv:=⟨by decide,λ_ h=>(by cases h),λ_ h=>(by cases h)⟩
def RS.Lv.same{r r':RS}(h:r.Lv)(e:r'.au=r.au/\r'.aW=r.aW/\r'.aV=r.aV):r'.Lv:=⟨by rw[e.1];exact h.le,by rw[e.1,e.2.1];exact h.ce,by rw[e.1,e.2.2];exact h.ch⟩
def RS.lW(r:RS)(s:aa):(r.put s).au=r.au/\(r.put s).aW=r.aW/\(r.put s).aV=r.aV:=by
 unfold RS.put;split<;>exact⟨rfl,rfl,rfl⟩
def RS.mn(r:RS):r.bG.au=r.au/\r.bG.aW=r.aW/\r.bG.aV=r.aV:=by
 unfold RS.bG;split<;>exact⟨rfl,rfl,rfl⟩
def RS.lV(r:RS):r.bF.au=r.au/\r.bF.aW=r.aW/\r.bF.aV=r.aV:=by
 unfold RS.bF;split<;>exact⟨rfl,rfl,rfl⟩
def RS.kZ(r:RS)(n:L){x:Nat}{r':RS}(h:r.bu n=some (x,r')):r'.au=r.au/\r'.aW=r.aW/\r'.aV=r.aV:=by
 unfold RS.bu at h
 split at h
 ·simp only[Ql,Prod.mk.injEq]at h;rw[<-h.2];exact⟨rfl,rfl,rfl⟩
 split at h
 ·simp only[Ql,Prod.mk.injEq]at h;rw[<-h.2];exact⟨rfl,rfl,rfl⟩
 split at h
 ·cases h
 simp only[Ql,Prod.mk.injEq]at h;rw[<-h.2];exact⟨rfl,rfl,rfl⟩
def RS.mm(r:RS)(a:Nat)(w:List L):(r.bh a w).2.au=r.au/\(r.bh a w).2.aW=r.aW/\(r.bh a w).2.aV=r.aV:=by
 unfold RS.bh
 split
 ·split
  ·exact⟨rfl,rfl,rfl⟩
  split
  ·split
   ·exact r.lV
   exact⟨rfl,rfl,rfl⟩
  exact r.mn
 ·split
  ·exact⟨rfl,rfl,rfl⟩
  split
  ·exact⟨rfl,rfl,rfl⟩
  exact⟨rfl,rfl,rfl⟩
 ·split
  ·exact⟨rfl,rfl,rfl⟩
  split
  ·split
   ·exact⟨rfl,rfl,rfl⟩
   split
   ·exact⟨rfl,rfl,rfl⟩
   exact r.lW _
  split
  ·exact⟨rfl,rfl,rfl⟩
  split
  ·exact⟨rfl,rfl,rfl⟩
  rename_i h
  split
  ·exact⟨rfl,rfl,rfl⟩
  have h1:=r.kZ _ h;have h2:=RS.lW;exact⟨(h2 _ _).1.trans h1.1,(h2 _ _).2.1.trans h1.2.1,(h2 _ _).2.2.trans h1.2.2⟩
 exact⟨rfl,rfl,rfl⟩
def RS.Lv.head{r:RS}(h:r.Lv)(w:List L):(r.head w).2.Lv:=by
 unfold RS.head
 split
 ·split
  ·exact h.same ⟨rfl,rfl,rfl⟩
  exact h
 ·split
  ·exact h
  split
  ·exact h
  rename_i h6;have hl:=h.le;exact⟨by simp;omega,λy hy=>by have:=h.ce y hy;simp;omega,λy hy=>by have:=h.ch y hy;simp;omega⟩
 ·rename_i k n l
  have hp:=aQ r.au l
  split
  ·split
   ·exact h
   exact h.same ⟨rfl,rfl,rfl⟩
  split
  ·exact h
  rename_i hn;have h0:¬aj r.au l<0:=λq=>hn (.inl q)
  split
  ·split
   ·exact h
   refine⟨h.le,λy hy=>?_,h.ch⟩;rcases mem_append.1 hy with h1|h1
   ·exact h.ce y h1
   simp only[mem_singleton]at h1;show y<r.au.length;omega
  split
  ·exact h
  refine⟨h.le,h.ce,λy hy=>?_⟩;rcases mem_append.1 hy with h1|h1
  ·exact h.ch y h1
  simp only[mem_singleton]at h1;show y<r.au.length;omega
 exact h
def RS.Lv.row{r:RS}(h:r.Lv)(w:List L)(a:Nat):(r.row w a).2.Lv:=by
 unfold RS.row
 split
 ·exact h
 split
 ·exact h.head w
 exact h.same (r.mm a w)
def jG:∀(ls:List L) (r:RS) (i:Nat),r.Lv->(rows r i ls).2.2.Lv
 |[],r,i,h=>h
 |[l],r,i,h=>by
  rw[rows]
  split
  ·split<;>exact h
  exact h
 |l::m::ls,r,i,h=>by
  rw[rows]
  split
  ·exact h
  split
  ·exact h
  exact jG (m::ls) _ (i+1) (h.row _ _)
def fO(s:L):(ab s).2.2.n<=6/\(∀y∈(ab s).2.2.cells,y<(ab s).2.2.n)/\∀y∈(ab s).2.2.ai,y<(ab s).2.2.n:=by
 unfold ab
 split
 ·exact⟨nQ.le,nQ.ce,nQ.ch⟩
 have h:=jG (aK 10 s) RS.zero 0 nQ;exact⟨h.le,h.ce,h.ch⟩
end Fl
end Go.Proofs.YtgmbnnpnefniiaaGreatDoor
