import Derived.Test.YtfhpibppblbgcaaGreatDoorM14
set_option linter.all false
set_option maxRecDepth 100000
set_option maxHeartbeats 40000000
namespace Go.Proofs.YtfhpibppblbgcaaGreatDoor
open Go.RowKit Go.Proofs.Tryz
variable{lo base R Pb lm vm cm n d:Nat}{w0 w w':World}{r:Fl.RS}{xs:List Value}{S S':Nat->Prop}{v p v':Value}{ts:List Fl.aa}
section
variable{aq:Int}{m:Xt}
def zo5(e:TypeId)(w:World):w.ownsRow base e 1 Zq 0 []:=⟨rfl,.inl ⟨rfl,rfl⟩⟩
def Yn.none(d:Nat)(S:Nat->Prop)(w:World):Yn d S base w Zq [] []:=⟨[],zo5 _ _,rfl,λi hi=>absurd hi (by simp)⟩
def Zn.cd(h:Zn lo base R Pb lm vm cm w0 w r aq m)(hb:r.ae=true){f:Fl.aB}{fs:List Fl.aB}{g:GF}{gs:List GF}(e0:r.fr=f::fs)(m0:m.gs=g::gs)(hh:f.cI=false):∃m',Zn lo base R Pb lm vm cm w0 (w.setCell (Aq g.ob 1) (.bool true)) r.cd aq m':=by
 obtain⟨b1,b2,b3,b4,b5,b6⟩:=h.bL;obtain⟨l1,l2,l3,l4,l5⟩:=h.cV;have n0:=h.re.fa;rw[e0,m0]at n0;obtain⟨hf,q0⟩:=n0;have t0:=h.re.wh g.ob (by rw[hf.to];omega);have hz:(w.setCell (Aq g.ob 1) (.bool true)).heap.size=w.heap.size:=Zy _ _ _;have q:∀k,k≠g.ob->(w.setCell (Aq g.ob 1) (.bool true)).heap[k]?=w.heap[k]?:=λk hk=>Zx _ _ _ _ _ hk;have q':∀k,m.aC k≠11+3*fs.length->(w.setCell (Aq g.ob 1) (.bool true)).heap[k]?=w.heap[k]?:=λk hk=>q k (λhe=>hk (by rw[he];exact hf.to));obtain⟨w',hw'⟩:∃w',w'=w.setCell (Aq g.ob 1) (.bool true):=⟨_,rfl⟩
 have i0:Below lo w0 w':=by rw[hw'];exact h.bel.setCell (by show lo<=g.ob;omega) _
 have r0:Zb w' g.ob 2 (rw_ [ptr g.sb,.bool true]):=by
  rw[hw'];refine(hf.co.set (j:=1) (by omega) (.bool true)).congr λk hk=>?_;rcases(show k=0\/k=1 by omega) with rfl|rfl<;>rfl
 rw[<-hw']at hz q q'⊢;clear hw'
 have j0:r.cd={r with fr:={f with cI:=true}::fs}:=by unfold Fl.RS.cd;rw[e0]
 rw[j0]
 have f0:g.act f=g.fv:=by unfold GF.act;rw[hh];rfl
 obtain⟨o0,s0⟩:=hf.pe hh;have p0:∀b,g.fv.ownBlock=some b->m.aC b=12+3*fs.length:=λb hb'=>hf.ta b (by rw[f0];exact hb');obtain⟨who',b0⟩:∃who':Nat->Nat,who'=λb=>if g.fv.ownBlock=some b then 0 else m.aC b:=⟨_,rfl⟩
 have wold:∀b,m.aC b≠12+3*fs.length->who' b=m.aC b:=λb hb'=>by rw[b0];exact if_neg (λhe=>hb' (p0 b he))
 have wfv:∀b,g.fv.ownBlock=some b->who' b=0:=λb hb'=>by rw[b0];exact if_pos hb'
 have w5:∀b,who' b≠5->m.aC b≠5:=λb hb' he=>hb' (by rw[wold b (by omega)];exact he);clear b0;have h0:∀b,m.aC b=0->who' b=0:=λb hb'=>(wold b (by omega)).trans hb';have k0:∀b,m.aC b=0->w'.heap[b]?=w.heap[b]?:=λb hb'=>q' b (by omega);have a0:=h.re.aM (w':=w') who' (λb hb'=>⟨wold b (by omega),q' b (by omega)⟩);have g0:=h.ok.cn;have cG:=h.ok.st;rw[e0]at g0
 have c0:f.first.length<=16:=by have:=g0.2.1;rw[hh]at this;simp at this;omega
 refine⟨{m with aC:=who'},?_⟩;refine{ok:= ?ok,bel:=i0,fx:=λb f1 f2 f3 f4 f5 f6=>(q b (by omega)).trans (h.fx b f1 f2 f3 f4 f5 f6),cV:=h.cV,bL:=⟨b1,b2,b3,b4,b5,by omega⟩,nd:=h.nd,cR:= ?cR,cP:=h.cP.block (q _ (by omega)),nl:=h.nl.block (q _ (by omega)),nv:=h.nv.block (q _ (by omega)),nc:=h.nc.block (q _ (by omega)),tab:=h.tab,re:= ?re}
 case ok=>
  exact{
      cn:=⟨by have:=g0.1;simpa using this,(by
       show Jj r.ap 0 ({f with cI:=true}::fs);obtain⟨c1,c2,c3⟩:=g0.2;rw[hh]at c1 c2;simp at c1 c2
       refine⟨?_,?_,c3⟩<;>simp<;>omega)⟩,lv:=h.ok.lv,ce:=h.ok.ce,ch:=h.ok.ch,lo:=h.ok.lo,st:=h.ok.st,fr:=(by have:=h.ok.fr;rw[e0]at this;simpa using this),cl:=h.ok.cl,hl:=h.ok.hl,cD:=h.ok.cD,dy:=(by
       intro k hk;have l0:=h.ok.dy;rw[e0]at l0;rcases List.mem_cons.1 hk with rfl|hk
       ·exact l0 f (by simp)
       exact l0 k (by simp[hk])),head:=λhd=>(by rw[show ({r with fr:={f with cI:=true}::fs}:Fl.RS).ae=r.ae from rfl,hb]at hd;cases hd),below:=h.ok.below,bD:=h.ok.bD,bF:=h.ok.bF,fT:=h.ok.fT}
 case cR=>
  refine(h.cR.block (q R (by omega))).congr λj hj=>?_;exact(zvz Pb lm vm cm aq r {r with fr:={f with cI:=true}::fs} m {m with aC:=who'} j rfl rfl rfl rfl hj (λ_ _ _ _ _=>rfl)).symm
 case re=>
  have d0:=a0.oo;rw[e0]at d0;refine{wh:=λb hb'=>(by have:=h.re.wh b (w5 b hb');exact⟨this.1,by omega⟩),oc:=a0.oc.1,tc:=a0.oc.2,oh:=a0.oh.1,th:=a0.oh.2,pb:=a0.pb.1,tb:=a0.pb.2,fa:= ?fa,oo:=d0.1,to:=d0.2,la:=a0.la}
  case fa=>
   show Vh who' base w' (3 - ({f with cI:=true}::fs).length) [] ({f with cI:=true}::fs) m.gs;rw[m0];refine⟨?_,?_⟩
   ·refine{ts:=(wold g.sb (by rw[hf.ts];omega)).trans hf.ts,to:=(wold g.ob (by rw[hf.to];omega)).trans hf.to,ta:=λb hb'=>?ta,co:=r0,cs:=hf.cs.block (q' g.sb (by rw[hf.ts];omega)),hv:=hf.hv.kept h0 k0,pa:= ?pa,pf:=λ_=>?pf,pe:=λhd=>by cases hd}
    case ta=>
     have:g.ev.ownBlock=some b:=hb'
     rw[o0]at this;cases this
    case pa=>
     show Yn _ _ base w' g.ev f.fm [];rw[o0,s0];exact Yn.none _ _ _
    case pf=>
     have hp:=hf.pa;rw[f0,hh]at hp;exact Yn.closed (hp.kept h0 k0 (λb hb'=>q' b (by rw[p0 b hb'];omega))) wfv c0
   exact q0.kept (λb hb'=>by
    rcases hb' with hb'|hb'
    ·exact⟨wold b (by omega),k0 b hb'⟩
    exact⟨wold b (by omega),q' b (by omega)⟩)
def yx3(h:Zn lo base R Pb lm vm cm w0 w r aq m)(n0:r.ae=true)(v:Value)(k:List UInt8)(ln:Nat)(hk:(k==Fl.dL)=true):
  Cq 112 #[Pq R,v] w (Zd lo base R Pb lm vm cm w0 aq (r.bQ ln [k])):=by
 obtain⟨aV,c0⟩:=nmE (r.bQ ln [k]);rw[<-c0];have f0:Hid (Cq 144 #[Pq R] w λe w'=>e=.returned (zy1 m.gs)/\Bq w w'/\w'.heap=w.heap):=zvy h;have HH:=Zz h;have hl:=h.re.fa.len;have bL:=h.bL;have cV:=h.cV
 cases e0:r.fr with
 |nil=>
  have g0:m.gs=[]:=(by rw[e0]at hl;exact Qi (by simpa using hl));have HR:Hid (aV=(3,r)):=(by show _=_;rw[c0];simp only[Fl.RS.bQ,e0]);rw[g0]at f0;unfold zy1 at f0;clear h c0 e0 g0 hl
  go_enter func112,ntmps112
  go_wp2_with fail
  refine f0.mono ?_;rintro e W ⟨rfl,b0,h0⟩;have p0:=b0.size;have HW:Hid (Zn lo base R Pb lm vm cm w0 W r aq m):=HH.below b0;have j0:Hid (Cq 61 #[Pq R,.bool false,Iq 3] W λe w'=>e=.panicked (Ze 3 aq)/\Bq W w'):=Yd R 3 aq W (HW.cR.c 1 (by omega));clear b0 h0 f0
  go_wp2_with fail
  refine j0.mono ?_;rintro e w1 ⟨rfl,b0⟩;exact⟨rfl,Zd.eh HR (by decide) rfl (HW.gone b0)⟩
 |cons f fs=>
  cases g0:m.gs with
  |nil=>rw[e0,g0]at hl;simp at hl
  |cons g gs=>
   have k0:=h.re.fa;rw[e0,g0]at k0;have u0:=h.ok.dy f (by rw[e0];simp);have HF:=Zz k0.1;have q0:=Zz e0;have r0:=Zz g0;have HR:Hid (aV=if f.kind=5/\f.cI=false then(0,r.cd) else(3,r)):=(by show _=_;rw[c0];simp only[Fl.RS.bQ,e0,hk,if_true]);rw[g0]at f0;unfold zy1 at f0;clear h c0 e0 g0 hl k0
   go_enter func112,ntmps112
   go_wp2_with fail
   refine f0.mono ?_;rintro e W ⟨rfl,b0,h0⟩;have p0:=b0.size;have HW:Hid (Zn lo base R Pb lm vm cm w0 W r aq m):=HH.below b0;have j0:Hid (Cq 61 #[Pq R,.bool false,Iq 3] W λe w'=>e=.panicked (Ze 3 aq)/\Bq W w'):=Yd R 3 aq W (HW.cR.c 1 (by omega));have l0:Hid (Cq 61 #[Pq R,.bool true,Iq 3] W λe w'=>e=.returned (.tuple #[])/\w'=W):=Xc R 3 W;have o0:Cl W g.ob 0 (Pq g.sb):=(HF.co.block (w':=W) (by rw[h0])).c 0 (by omega);have o1:Cl W g.ob 1 (.bool f.cI):=(HF.co.block (w':=W) (by rw[h0])).c 1 (by omega);have oz:∀j,W.frozen? (Aq g.ob j)=false:=(HF.co.block (w':=W) (by rw[h0])).z;have s0:Cl W g.sb 0 (Iq f.kind):=(HF.cs.block (w':=W) (by rw[h0])).c 0 (by omega);clear b0 h0 f0 HF
   have d0:Hid ((f.kind=5/\f.cI=false->False)->aV=(3,r)):=λhn=>by rw[HR.out];exact if_neg hn
   have a0:Hid (f.kind=5->f.cI=false->Zd lo base R Pb lm vm cm w0 aq aV (.returned (.tuple #[])) (W.setCell (Aq g.ob 1) (.bool true))):=λh1 h2=>by
    obtain⟨m',hm⟩:=HW.cd n0 q0 r0 h2;exact Zd.fS (by rw[HR.out];exact if_pos ⟨h1,h2⟩) rfl hm
   clear HR
   by_cases h5:f.kind=5
   ·have k5:((f.kind:Int)==5)=true:=by rw[h5];rfl
    cases i0:f.cI with
    |true=>
     rw[i0]at o1;have HX:Hid (aV=(3,r)):=d0 (λhx=>by rw[i0]at hx;cases hx.2);clear d0 a0 i0
     go_wp2_with fail
     refine j0.mono ?_;rintro e w1 ⟨rfl,b0⟩;exact⟨rfl,Zd.eh HX (by decide) rfl (HW.gone b0)⟩
    |false=>
     rw[i0]at o1;have HX:=a0 h5 i0;have t0:=Zz HX;clear d0 a0 i0 HX h5
     go_wp2_with fail
     refine l0.mono ?_;rintro e w1 ⟨rfl,m0⟩;rw[m0];clear m0 w1 l0 j0;go_wp2
     go_end0
     exact t0
   have k5:((f.kind:Int)==5)=false:=(by rw[Qh];omega);have HX:Hid (aV=(3,r)):=d0 (λhx=>h5 hx.1);clear d0 a0 h5
   go_wp2_with fail
   refine j0.mono ?_;rintro e w1 ⟨rfl,b0⟩;exact⟨rfl,Zd.eh HX (by decide) rfl (HW.gone b0)⟩
end
section
variable{aq:Int}{m:Xt}
def yx4{e:TypeId}{g cap:Nat}{x:Value}(h:w.ownsRow base e 1 (.slice (some (Aq g 0)) (n+1) cap) (n+1) (xs++[x])):w.ownsRow base e 1 (.slice (some (Aq g 0)) n cap) n xs:=by
 obtain⟨h1,h2⟩:=h
 have hl:xs.length=n:=by simp at h1;omega
 refine⟨by omega,?_⟩;rcases h2 with⟨h3,-⟩|⟨g',cap',cur,h3,hb,hg,hc,hm,hs,ht⟩
 ·cases h3
 simp only[Value.slice.injEq,Option.some.injEq,Addr.mk.injEq]at h3;obtain⟨⟨rfl,-⟩,-,rfl⟩:=h3;refine .inr ⟨g,cap,cur,rfl,hb,hg,by omega,hm,hs,?_⟩;have:=congrArg (List.take n) ht;rw[List.take_take,List.take_append_of_le_length (by omega),List.take_of_length_le (by omega:xs.length<=n)]at this;rw[Nat.mul_one]at this⊢;rw[show min n (n+1)=n by omega]at this;exact this
def Yn.shut{s:Fl.aa}(h:Yn d S base w v ts [p])(hS:∀b,S b->S' b)(hw:∀b,S b->w'.heap[b]?=w.heap[b]?)(hv:∀b,v.ownBlock=some b->w'.heap[b]?=w.heap[b]?)(hp:zz6 (Zh d) S' w' p s):Yn d S' base w' v (ts++[s]) []:=by
 obtain⟨ps,h1,h2,h3⟩:=Yn.kept (S':=S') (w':=w') h hS hw hv;refine⟨ps++[p],?_,by simp[h2],λi hi=>?_⟩
 ·simp only[List.length_append,List.length_cons,List.length_nil,List.append_nil,Nat.add_zero]at h1⊢
  exact h1
 by_cases hl:i<ts.length
 ·have:=h3 i hl
  rw[Qa,List.getElem?_append_left (by omega),Qa,List.getElem?_append_left hl];rw[Qa,Qa]at this;exact this
 have he:i=ts.length:=by simp at hi;omega
 subst he;rw[Qa,List.getElem?_append_right (by omega),Qa,List.getElem?_append_right (by omega)];rw[h2];simpa using hp
def zg8(g g2:GF)(gs:List GF):Va (g::g2::gs)=Va (g2::gs):=by
 simp only[Va]
 cases Va gs<;>rfl
def zw7.done{aC who':Nat->Nat}{d i:Nat}{f:Fl.aB}{g:GF}(h:zw7 aC base w d i [] f g)(bj:f.first.length<=16/\f.fm.length<=16)(hS:∀b,aC b=0\/aC b=10+3*i\/aC b=12+3*i->who' b=0)(hw:∀b,aC b≠5->w'.heap[b]?=w.heap[b]?):zz6 (Zh (d+1)) (λb=>who' b=0) w' (ptr g.sb) f.done:=by
 have h0:∀b,aC b=0->who' b=0:=λb hb=>hS b (.inl hb);have a0:∀b,aC b=0->w'.heap[b]?=w.heap[b]?:=λb hb=>hw b (by omega);have hp:Zh (d+1) (λb=>who' b=0) w' (g.act f) (if f.cI then f.fm else f.first):=by
  refine Yn.closed (h.pa.kept h0 a0 (λb hb=>hw b (by rw[h.ta b hb];omega))) (λb hb=>hS b (.inr (.inr (h.ta b hb)))) ?_
  split
  ·exact bj.2
  exact bj.1
 refine⟨g.sb,g.vp,g.fv,g.ev,rfl,hS _ (.inr (.inl h.ts)),h.cs.block (hw _ (by rw[h.ts];omega)),h.hv.kept h0 a0,?_,?_⟩
 ·show Zh (d+1) _ w' g.fv f.first
  cases hh:f.cI with
  |true=>exact Zh.kept h0 a0 _ _ _ (h.pf hh)
  |false=>unfold GF.act at hp;rw[hh]at hp;exact hp
 show Zh (d+1) _ w' g.ev f.fm
 cases hh:f.cI with
 |true=>unfold GF.act at hp;rw[hh]at hp;exact hp
 |false=>obtain⟨e1,e2⟩:=h.pe hh;rw[e1,e2];exact Zh.nil _ _ _
def Zn.bE(h:Zn lo base R Pb lm vm cm w0 w r aq m)(hb:r.ae=true){f:Fl.aB}{fs:List Fl.aB}{g:GF}{gs:List GF}{q cap:Nat}(k0:r.fr=f::fs)(s0:m.gs=g::gs)(D0:m.ov=.slice (some (Aq q 0)) (fs.length+1) cap):∃m',Zn lo base R Pb lm vm cm w0 (w.setCell (Aq R 43) (.slice (some (Aq q 0)) fs.length cap)) r.bE aq m':=by
 obtain⟨b1,b2,b3,b4,b5,b6⟩:=h.bL;obtain⟨l1,l2,l3,l4,l5⟩:=h.cV;obtain⟨n1,n2,n3,n4,n5,n6,n7,n8,n9,n10⟩:=h.nd;have A0:=h.re.fa;rw[k0,s0]at A0;obtain⟨hf,n0⟩:=A0;have g0:=h.ok.fr;rw[k0]at g0;simp only[List.length_cons]at g0 hf n0;have o0:=h.ok.cn;have cG:=h.ok.st;rw[k0]at o0;have hz:(w.setCell (Aq R 43) (.slice (some (Aq q 0)) fs.length cap)).heap.size=w.heap.size:=Zy _ _ _;have qn:∀k,k≠R->(w.setCell (Aq R 43) (.slice (some (Aq q 0)) fs.length cap)).heap[k]?=w.heap[k]?:=λk hk=>Zx _ _ _ _ _ hk;have l0:=h.bel.setCell (p:=(Aq R 43)) (by show lo<=R;omega) (.slice (some (Aq q 0)) fs.length cap);have B0:=h.cR.set (j:=43) (by omega) (.slice (some (Aq q 0)) fs.length cap);obtain⟨w',hw'⟩:∃w',w'=w.setCell (Aq R 43) (.slice (some (Aq q 0)) fs.length cap):=⟨_,rfl⟩;rw[<-hw']at hz qn l0 B0⊢;clear hw';have qw:∀b,m.aC b≠5->w'.heap[b]?=w.heap[b]?:=λb hb'=>qn b (by have:=h.re.wh b hb';omega);obtain⟨who',m0⟩:∃who':Nat->Nat,who'=λb=>if 10+3*fs.length<=m.aC b/\m.aC b<=12+3*fs.length then 0 else m.aC b:=⟨_,rfl⟩
 have wold:∀b,¬(10+3*fs.length<=m.aC b/\m.aC b<=12+3*fs.length)->who' b=m.aC b:=λb hb'=>by rw[m0];exact if_neg hb'
 have wnew:∀b,10+3*fs.length<=m.aC b->m.aC b<=12+3*fs.length->who' b=0:=λb h1 h2=>by rw[m0];exact if_pos ⟨h1,h2⟩
 have w5:∀b,who' b≠5->m.aC b≠5:=λb hb' he=>hb' (by rw[wold b (by omega)];exact he);clear m0;have h0:∀b,m.aC b=0->who' b=0:=λb hb'=>(wold b (by omega)).trans hb';have q0:∀b,m.aC b=0->w'.heap[b]?=w.heap[b]?:=λb hb'=>qw b (by omega);have c0:=h.re.aM (w':=w') who' (λb hb'=>⟨wold b (by omega),qw b (by omega)⟩)
 have bj:f.first.length<=16/\f.fm.length<=16:=by obtain⟨c1,c2,-⟩:=o0.2;exact⟨by omega,by omega⟩
 have b0:=hf.done (w':=w') (who':=who') bj (λb hb'=>by
  rcases hb' with hb'|hb'|hb'
  ·exact h0 b hb'
  ·exact wnew b (by omega) (by omega)
  exact wnew b (by omega) (by omega)) qw
 rw[show 3 - (fs.length+1)+1=3 - fs.length by omega]at b0 n0;have i0:=c0.oo;rw[k0,s0,D0]at i0;simp only[List.length_cons,List.map_cons,List.reverse_cons]at i0;have a0:=yx4 i0.1
 have C0:∀(r':Fl.RS) (m':Xt),r'.ae=r.ae->r'.au.length=r.au.length->r'.ap=r.ap->m'.ov=.slice (some (Aq q 0)) fs.length cap->m'.t=m.t->Zb w' R 45 (Vq Pb lm vm cm aq r' m'):=λr' m' e1 e2 e4 e5 e6=>B0.congr (λj hj=>by
  by_cases h4:j=43
  ·subst h4;rw[if_pos rfl];exact e5.symm
  rw[if_neg h4];unfold Vq;rw[e1,e2,e4,e6]
  by_cases hs:j=0\/j=1\/j=2\/j=3\/j=40\/j=41\/j=42\/j=44
  ·rcases hs with rfl|rfl|rfl|rfl|rfl|rfl|rfl|rfl<;>rfl
  rw[if_neg (show ¬j=0 by omega),if_neg (show ¬j=1 by omega),if_neg (show ¬j=2 by omega),if_neg (show ¬j=3 by omega),if_neg (show ¬j=40 by omega),if_neg (show ¬j=41 by omega),if_neg (show ¬j=42 by omega),if_neg h4,if_neg (show ¬j=44 by omega)]
  rw[if_neg (show ¬j=0 by omega),if_neg (show ¬j=1 by omega),if_neg (show ¬j=2 by omega),if_neg (show ¬j=3 by omega),if_neg (show ¬j=40 by omega),if_neg (show ¬j=41 by omega),if_neg (show ¬j=42 by omega),if_neg h4])
 have t0:∀b,(Value.slice (some (Aq q 0)) fs.length cap).ownBlock=some b->who' b=2:=i0.2;refine⟨{m with aC:=who',gs:=gs,ov:=.slice (some (Aq q 0)) fs.length cap},?_⟩
 cases e0:fs with
 |nil=>
  have v0:gs=[]:=(by have:=n0.len;rw[e0]at this;exact Qi (by simpa using this));have f0:r.bE={r with bC:=r.bC++[f.done],fr:=[]}:=(by unfold Fl.RS.bE;rw[k0,e0]);rw[f0];refine{ok:= ?ok,bel:=l0,fx:=λb f1 f2 f3 f4 f5 f6=>(qn b f2).trans (h.fx b f1 f2 f3 f4 f5 f6),cV:=h.cV,bL:=⟨b1,b2,b3,b4,b5,by omega⟩,nd:=h.nd,cR:= ?cR,cP:=h.cP.block (qn _ (by omega)),nl:=h.nl.block (qn _ (by omega)),nv:=h.nv.block (qn _ (by omega)),nc:=h.nc.block (qn _ (by omega)),tab:=h.tab,re:= ?re}
  case ok=>
   exact{cn:=⟨by have:=o0.1;simp at this⊢;omega,trivial⟩,lv:=h.ok.lv,ce:=h.ok.ce,ch:=h.ok.ch,lo:=h.ok.lo,st:=h.ok.st,fr:=(by simp),cl:=h.ok.cl,hl:=h.ok.hl,cD:=h.ok.cD,dy:=(by intro k hk;cases hk),head:=λhd=>(by rw[show ({r with bC:=r.bC++[f.done],fr:=[]}:Fl.RS).ae=r.ae from rfl,hb]at hd;cases hd),below:=h.ok.below,bD:=h.ok.bD,bF:=h.ok.bF,fT:=h.ok.fT}
  case cR=>exact C0 _ _ rfl rfl rfl (by rw[e0]) rfl
  case re=>
   have p0:=h.re.pb;rw[s0,v0]at p0;rw[e0]at b0 a0 t0;rw[v0]at a0;rw[v0];refine{wh:=λb hb'=>(by have:=h.re.wh b (w5 b hb');exact⟨this.1,by omega⟩),oc:=c0.oc.1,tc:=c0.oc.2,oh:=c0.oh.1,th:=c0.oh.2,pb:= ?pb,tb:=c0.pb.2,fa:=trivial,oo:=a0,to:=t0,la:=c0.la}
   case pb=>exact Yn.shut p0 h0 q0 (λb hb'=>qw b (by rw[h.re.tb b hb'];decide)) b0
 |cons f2 fs2=>
  cases u0:gs with
  |nil=>have:=n0.len;rw[e0,u0]at this;simp at this
  |cons g2 gs2=>
   rw[e0,u0]at n0;obtain⟨d0,x0⟩:=n0;obtain⟨f',hf'⟩:∃f':Fl.aB,f'=if f2.cI then{f2 with fm:=f2.fm++[f.done]} else{f2 with first:=f2.first++[f.done]}:=⟨_,rfl⟩
   have j0:f'.kind=f2.kind/\f'.aq=f2.aq/\f'.e=f2.e/\f'.cI=f2.cI:=by rw[hf'];split<;>exact⟨rfl,rfl,rfl,rfl⟩
   have f0:r.bE={r with fr:=f'::fs2}:=(by unfold Fl.RS.bE;rw[k0,e0,hf']);rw[f0];have r0:g2.act f'=g2.act f2:=(by unfold GF.act;rw[j0.2.2.2]);rw[e0]at o0;rw[e0]at wold wnew a0 t0 g0;rw[u0]at a0;simp only[List.length_cons]at wold wnew g0;refine{ok:= ?ok,bel:=l0,fx:=λb f1 f2 f3 f4 f5 f6=>(qn b f2).trans (h.fx b f1 f2 f3 f4 f5 f6),cV:=h.cV,bL:=⟨b1,b2,b3,b4,b5,by omega⟩,nd:=h.nd,cR:= ?cR,cP:=h.cP.block (qn _ (by omega)),nl:=h.nl.block (qn _ (by omega)),nv:=h.nv.block (qn _ (by omega)),nc:=h.nc.block (qn _ (by omega)),tab:=h.tab,re:= ?re}
   case ok=>
    exact{
        cn:=⟨by have:=o0.1;simp at this⊢;omega,(by
         show Jj r.ap 0 (f'::fs2);obtain⟨-,-,c1,c2,c3⟩:=o0.2;rw[hf']
         cases hh:f2.cI with
         |true=>rw[hh]at c1 c2;simp at c1 c2;refine⟨?_,?_,c3⟩<;>simp[hh]<;>omega
         |false=>rw[hh]at c1 c2;simp at c1 c2;refine⟨?_,?_,c3⟩<;>simp[hh]<;>omega)⟩,lv:=h.ok.lv,ce:=h.ok.ce,ch:=h.ok.ch,lo:=h.ok.lo,st:=h.ok.st,fr:=(by simp;omega),cl:=h.ok.cl,hl:=h.ok.hl,cD:=h.ok.cD,dy:=(by
         intro k hk;have y0:=h.ok.dy;rw[k0,e0]at y0;rcases List.mem_cons.1 hk with rfl|hk
         ·rw[j0.1];exact y0 f2 (by simp)
         exact y0 k (by simp[hk])),head:=λhd=>(by rw[show ({r with fr:=f'::fs2}:Fl.RS).ae=r.ae from rfl,hb]at hd;cases hd),below:=h.ok.below,bD:=h.ok.bD,bF:=h.ok.bF,fT:=h.ok.fT}
   case cR=>exact C0 _ _ rfl rfl rfl (by rw[e0]) rfl
   case re=>
    have p0:=c0.pb;rw[s0,u0,zg8]at p0;rw[e0]at b0;refine{wh:=λb hb'=>(by have:=h.re.wh b (w5 b hb');exact⟨this.1,by omega⟩),oc:=c0.oc.1,tc:=c0.oc.2,oh:=c0.oh.1,th:=c0.oh.2,pb:=p0.1,tb:=p0.2,fa:= ?fa,oo:=a0,to:=t0,la:=c0.la}
    case fa=>
     show Vh who' base w' (3 - (f'::fs2).length) [] (f'::fs2) (g2::gs2);have z0:∀b,(g2.act f2).ownBlock=some b->m.aC b=12+3*fs2.length:=d0.ta;refine⟨?_,?_⟩
     ·refine{ts:=(wold g2.sb (by rw[d0.ts];omega)).trans d0.ts,to:=(wold g2.ob (by rw[d0.to];omega)).trans d0.to,ta:=λb hb'=>(by rw[r0]at hb';exact(wold b (by rw[z0 b hb'];omega)).trans (z0 b hb')),co:= ?co,cs:= ?cs,hv:=by rw[j0.2.2.1];exact d0.hv.kept h0 q0,pa:= ?pa,pf:= ?pf,pe:= ?pe}
      case co=>rw[j0.2.2.2];exact d0.co.block (qw _ (by rw[d0.to];omega))
      case cs=>rw[j0.1,j0.2.1];exact d0.cs.block (qw _ (by rw[d0.ts];omega))
      case pa=>
       rw[r0,j0.2.2.2];have:=Yn.shut (w':=w') d0.pa h0 q0 (λb hb'=>qw b (by rw[z0 b hb'];omega)) b0;rw[hf']
       cases hh:f2.cI<;>rw[hh]at this<;>exact this
      case pf=>
       intro hh;rw[j0.2.2.2]at hh;have:=Zh.kept h0 q0 _ _ _ (d0.pf hh);rw[hf',hh];exact this
      case pe=>
       intro hh;rw[j0.2.2.2]at hh;rw[hf',hh];exact d0.pe hh
     exact x0.kept (λb hb'=>by
      rcases hb' with hb'|hb'
      ·exact⟨wold b (by omega),q0 b hb'⟩
      exact⟨wold b (by omega),qw b (by omega)⟩)
def end_any(h:Zn lo base R Pb lm vm cm w0 w r aq m)(n0:r.ae=true)(v:Value)(k:List UInt8)(ln:Nat)(hk:(k==Fl.dL)=false):
  Cq 114 #[Pq R,v] w (Zd lo base R Pb lm vm cm w0 aq (r.bQ ln [k])):=by
 obtain⟨aV,a0⟩:=nmE (r.bQ ln [k]);rw[<-a0];have d0:Hid (Cq 144 #[Pq R] w λe w'=>e=.returned (zy1 m.gs)/\Bq w w'/\w'.heap=w.heap):=zvy h;have HH:=Zz h;have hl:=h.re.fa.len;have bL:=h.bL;have cV:=h.cV
 cases e0:r.fr with
 |nil=>
  have f0:m.gs=[]:=(by rw[e0]at hl;exact Qi (by simpa using hl));have HR:Hid (aV=(3,r)):=(by show _=_;rw[a0];simp only[Fl.RS.bQ,e0]);rw[f0]at d0;unfold zy1 at d0;clear h a0 e0 f0 hl
  go_enter func114,ntmps114
  go_wp2_with fail
  refine d0.mono ?_;rintro e W ⟨rfl,c0,k0⟩;have o0:=c0.size;have HW:Hid (Zn lo base R Pb lm vm cm w0 W r aq m):=HH.below c0;have p0:Hid (Cq 61 #[Pq R,.bool false,Iq 3] W λe w'=>e=.panicked (Ze 3 aq)/\Bq W w'):=Yd R 3 aq W (HW.cR.c 1 (by omega));clear c0 k0 d0
  go_wp2_with fail
  refine p0.mono ?_;rintro e w1 ⟨rfl,c0⟩;exact⟨rfl,Zd.eh HR (by decide) rfl (HW.gone c0)⟩
 |cons f fs=>
  cases f0:m.gs with
  |nil=>rw[e0,f0]at hl;simp at hl
  |cons g gs=>
   obtain⟨ao,cap,i0,g0,b0⟩:=zj7 h;have h0:=h.ok.fr;rw[e0]at i0 g0 b0 h0;obtain⟨q,rfl,-,-,-⟩:=b0 (by simp);simp only[List.length_cons]at i0 g0 h0;have HR:Hid (aV=(0,r.bE)):=(by show _=_;rw[a0];simp only[Fl.RS.bQ,e0,hk];rfl);obtain⟨n,hn⟩:=nmE (fs.length)
   have j0:Hid (∀W,Zn lo base R Pb lm vm cm w0 W r aq m->Zd lo base R Pb lm vm cm w0 aq aV (.returned (.tuple #[])) (W.setCell (Aq R 43) (.slice (some (Aq q 0)) n cap))):=λW hW=>by
    obtain⟨m',hm⟩:=hW.bE n0 e0 f0 i0;rw[<-hn]at hm;exact Zd.fS HR rfl hm
   rw[<-hn]at i0 g0 h0;rw[f0]at d0;unfold zy1 at d0;have q0:=Zz i0;have s0:(0:Int)<=(n:Int):=(by omega);have t0:(n:Int)<=2:=(by omega);have u0:(n:Int)+1<=(cap:Int):=(by omega);have v0:(n:Int)<=(cap:Int):=(by omega);have x0:cap≠0:=(by omega);have y0:IntKind.i64.wrap (n:Int)=(n:Int):=(by simp[IntKind.wrap,IntKind.signed,IntKind.bits];omega);clear h a0 e0 f0 hl i0 b0 hn
   go_enter func114,ntmps114
   go_wp2_with fail
   refine d0.mono ?_;rintro e W ⟨rfl,c0,k0⟩;have o0:=c0.size;have HW:Hid (Zn lo base R Pb lm vm cm w0 W r aq m):=HH.below c0;have l0:Hid (Cq 61 #[Pq R,.bool true,Iq 3] W λe w'=>e=.returned (.tuple #[])/\w'=W):=Xc R 3 W;have c43:W.cell? (Aq R 43)=some (.slice (some (Aq q 0)) (n+1) cap):=(by rw[<-q0.out];exact HW.cR.c 43 (by omega));have zR:=HW.cR.z;have r0:Hid (Zd lo base R Pb lm vm cm w0 aq aV (.returned (.tuple #[])) (W.drew.setCell (Aq R 43) (.slice (some (Aq q 0)) n cap))):=j0 W.drew HW.drew;clear c0 k0 d0 j0
   go_wp2_with fail
   refine l0.mono ?_;rintro e w1 ⟨rfl,m0⟩;rw[m0];clear m0 w1 l0
   go_wp2_with fail
   go_still_tail 14,(by kernel_rfl)
   go_wp2_with fail
   go_end0
   exact r0
end
section
variable{w1 W:World}{aq:Int}{m:Xt}
def Yn.open_(h:Yn d S base W v ts [])(ho:W.ownsRow base 156 1 v n xs)(ho':w'.ownsRow base 156 1 v' (n+1) (xs++[p]))(hS:∀b,S b->S' b)(hw:∀b,S b->w'.heap[b]?=W.heap[b]?):Yn d S' base w' v' ts [p]:=by
 obtain⟨ps,h1,h2,h3⟩:=h;simp only[List.append_nil,List.length_nil,Nat.add_zero]at h1;obtain⟨rfl,rfl⟩:=zg4 h1 ho;exact⟨ps,ho',h2,λi hi=>(h3 i hi).kept (λv l h=>Zh.kept hS hw d v l h) hS hw⟩
def zx4(aC:Nat->Nat)(z1 sn ob i T:Nat)(v' ov':Value):Nat->Nat:=λb=>if b=sn then 10+3*i else if b=ob then 11+3*i else if z1<=b/\b<sn then 0 else if v'.ownBlock=some b then T else if ov'.ownBlock=some b then 2 else aC b
structure zfv(aC who':Nat->Nat)(z1 sn ob i T:Nat)(v' ov':Value):Prop where
 gX:∀b,aC b≠5->who' b=aC b
 s:who' sn=10+3*i
 o:who' ob=11+3*i
 new:∀b,z1<=b->b<sn->who' b=0
 row:∀b,v'.ownBlock=some b->who' b=T
 nU:∀b,ov'.ownBlock=some b->who' b=2
 nK:∀b,who' b≠5->aC b≠5\/(z1<=b/\b<=sn)\/b=ob\/v'.ownBlock=some b\/ov'.ownBlock=some b
def ys3{aC:Nat->Nat}{z1 sn ob i T:Nat}{ov ov':Value}(hI:∀b,aC b≠5->b<z1)(hz:z1<=sn/\sn<ob)(hT:T≠5/\T≠2)(hv:∀b,v.ownBlock=some b->aC b=T)(d0:∀b,ov.ownBlock=some b->aC b=2)(hw:v'.ownBlock=v.ownBlock\/∃g,v'.ownBlock=some g/\sn<g/\g<ob)(e0:ov'.ownBlock=ov.ownBlock\/∃g,ov'.ownBlock=some g/\ob<g):zfv aC (zx4 aC z1 sn ob i T v' ov') z1 sn ob i T v' ov':=by
 have b0:∀b,aC b≠5->b≠sn/\b≠ob/\¬(z1<=b/\b<sn):=λb hb=>by have:=hI b hb;omega
 have c0:∀b,v'.ownBlock=some b->(aC b=T)\/(sn<b/\b<ob):=λb hb=>by
  rcases hw with e|⟨g,e,h1,h2⟩
  ·exact .inl (hv b (by rw[<-e];exact hb))
  rw[e]at hb;simp only[Option.some.injEq]at hb;subst hb;exact .inr ⟨h1,h2⟩
 have a0:∀b,ov'.ownBlock=some b->(aC b=2)\/ob<b:=λb hb=>by
  rcases e0 with e|⟨g,e,h1⟩
  ·exact .inl (d0 b (by rw[<-e];exact hb))
  rw[e]at hb;simp only[Option.some.injEq]at hb;subst hb;exact .inr h1
 refine{gX:=λb hb=>?_,s:=if_pos rfl,o:= ?_,new:=λb h1 h2=>?_,row:=λb hb=>?_,nU:=λb hb=>?_,nK:=λb hb=>?_}
 ·obtain⟨h1,h2,h3⟩:=b0 b hb
  unfold zx4;rw[if_neg h1,if_neg h2,if_neg h3]
  by_cases e1:v'.ownBlock=some b
  ·rw[if_pos e1]
   rcases c0 b e1 with h|h
   ·exact h.symm
   have:=hI b hb;omega
  rw[if_neg e1]
  by_cases e2:ov'.ownBlock=some b
  ·rw[if_pos e2]
   rcases a0 b e2 with h|h
   ·exact h.symm
   have:=hI b hb;omega
  rw[if_neg e2]
 ·unfold zx4;rw[if_neg (by omega),if_pos rfl]
 ·unfold zx4;rw[if_neg (by omega),if_neg (by omega),if_pos ⟨h1,h2⟩]
 ·have:b≠sn/\b≠ob/\¬(z1<=b/\b<sn):=by
   rcases c0 b hb with h|h
   ·exact b0 b (by rw[h];exact hT.1)
   omega
  unfold zx4;rw[if_neg this.1,if_neg this.2.1,if_neg this.2.2,if_pos hb]
 ·have:b≠sn/\b≠ob/\¬(z1<=b/\b<sn):=by
   rcases a0 b hb with h|h
   ·exact b0 b (by rw[h];decide)
   omega
  have f0:v'.ownBlock≠some b:=λe=>by
   rcases c0 b e with h|h
   ·rcases a0 b hb with h'|h'
    ·exact hT.2 (by rw[<-h,h'])
    have:=hI b (by rw[h];exact hT.1);omega
   rcases a0 b hb with h'|h'
   ·have:=hI b (by rw[h'];decide);omega
   omega
  unfold zx4;rw[if_neg this.1,if_neg this.2.1,if_neg this.2.2,if_neg f0,if_pos hb]
 unfold zx4 at hb
 by_cases e1:b=sn
 ·exact .inr (.inl ⟨by omega,by omega⟩)
 rw[if_neg e1]at hb
 by_cases e2:b=ob
 ·exact .inr (.inr (.inl e2))
 rw[if_neg e2]at hb
 by_cases e3:z1<=b/\b<sn
 ·exact .inr (.inl ⟨by omega,by omega⟩)
 rw[if_neg e3]at hb
 by_cases e4:v'.ownBlock=some b
 ·exact .inr (.inr (.inr (.inl e4)))
 rw[if_neg e4]at hb
 by_cases e5:ov'.ownBlock=some b
 ·exact .inr (.inr (.inr (.inr e5)))
 rw[if_neg e5]at hb;exact .inl hb
def Zn.opens(h:Zn lo base R Pb lm vm cm w0 W {r with ap:=r.ap+1} aq m)(hb:r.ae=true)(C0:r.fr.length<3){z1 sn kind ln:Nat}{vp v' ov':Value}{e:Fl.dd}{n:Nat}{xs:List Value}(I0:kind=5\/kind=6)(hI:∀b,m.aC b≠5->b<z1)(R0:base<=z1)(D0:z1<=sn/\sn+1=W.heap.size)(J0:aq=(ln:Int))(cG:zl6 r.ap r.fr r.bC.length)
  (hc:Zb W sn 6 (rw_ [Iq kind,Iq aq,Iq 0,vp,Zq,Zq])) (hv:zxz (λb=>z1<=b/\b<sn) W vp e) (ho:W.ownsRow base 156 1 (zy9 m.bv r.fr m.gs) n xs) (G:zxx 156 lo base w0 W w1 (Jq Pb m.gs) (zq3 r.fr) (zy9 m.bv r.fr m.gs) v' n xs (ptr sn))
  (o:Obj) (K0:Zb (w1.alloc o) w1.heap.size 2 (rw_ [ptr sn,.bool false])) (G2:zxx 250 lo base w0 (w1.alloc o) w' R 43 m.ov ov' r.fr.length ((m.gs.map λg=>ptr g.ob).reverse) (ptr w1.heap.size)):
  ∃m',Zn lo base R Pb lm vm cm w0 w' (r.opens kind ln e) aq m':=by
 obtain⟨b1,b2,b3,b4,b5,b6⟩:=h.bL;obtain⟨n1,n2,n3,n4,n5,n6,n7,n8,n9,n10⟩:=h.nd;have hl:=h.re.fa.len;have hz:=G.hz;have S0:=G2.hz;have T0:(w1.alloc o).heap.size=w1.heap.size+1:=World.size_alloc _ _;have a0:=zo4 (r:={r with ap:=r.ap+1}) h G ho
 have L0:∀b,z1<=b->m.aC b=5:=λb hb'=>Classical.byContradiction λt0=>by have:=hI b t0;omega
 have c0:=h.re.to;have f0:∀b,m.ov.ownBlock=some b->b<z1/\base<=b:=λb hb'=>⟨hI b (by rw[c0 b hb'];decide),(h.re.wh b (by rw[c0 b hb'];decide)).1⟩
 -- the second growth leaves
 have q2:∀b,b<w1.heap.size->b≠R->m.ov.ownBlock≠some b->w'.heap[b]?=w1.heap[b]?:=λb h1 h2 h3=>by
  rw[G2.q b (by omega) h2 h3];exact((Below.refl w1.heap.size w1).alloc (Nat.le_refl _) _).block b h1
 have q2l:∀b,b<base->b≠R->w'.heap[b]?=w1.heap[b]?:=λb h1 h2=>q2 b (by omega) h2 (λh3=>by have:=f0 b h3;omega);have u0:Zb w' w1.heap.size 2 (rw_ [ptr sn,.bool false]):=K0.block (G2.q _ (by omega) (by omega) (λh3=>by have:=f0 _ h3;omega));have E0:ov'.ownBlock=m.ov.ownBlock\/∃g,ov'.ownBlock=some g/\w1.heap.size<g:=by
  rcases G2.wh with e|⟨g,e,hg⟩
  ·exact .inl e
  exact .inr ⟨g,e,by omega⟩
 have p0:v'.ownBlock=(zy9 m.bv r.fr m.gs).ownBlock\/∃g,v'.ownBlock=some g/\sn<g/\g<w1.heap.size:=by
  rcases G.wh with e|⟨g,e,hg⟩
  ·exact .inl e
  exact .inr ⟨g,e,by omega,(G.own.lt g e).2⟩
 have q0:∀(r':Fl.RS) (m':Xt),r'.ae=r.ae->r'.au.length=r.au.length->r'.ap=r.ap+1->m'.ov=ov'->m'.t=m.t->R≠Jq Pb m.gs->Zb w' R 45 (Vq Pb lm vm cm aq r' m'):=λr' m' e1 e2 e4 e5 e6 t0=>by
  have c1:Zb (w1.alloc o) R 45 (Vq Pb lm vm cm aq {r with ap:=r.ap+1} m):=(h.cR.block (a0 R b1 t0)).block (((Below.refl w1.heap.size w1).alloc (Nat.le_refl _) _).block R (by omega));refine(G2.cs 45 _ c1 (by decide)).congr (λj hj=>?_)
  by_cases h4:j=43
  ·subst h4;rw[if_pos rfl];exact e5.symm
  rw[if_neg h4];unfold Vq;rw[e1,e2,e4,e6]
  by_cases hs:j=0\/j=1\/j=2\/j=3\/j=40\/j=41\/j=42\/j=44
  ·rcases hs with rfl|rfl|rfl|rfl|rfl|rfl|rfl|rfl<;>rfl
  rw[if_neg (show ¬j=0 by omega),if_neg (show ¬j=1 by omega),if_neg (show ¬j=2 by omega),if_neg (show ¬j=3 by omega),if_neg (show ¬j=40 by omega),if_neg (show ¬j=41 by omega),if_neg (show ¬j=42 by omega),if_neg h4,if_neg (show ¬j=44 by omega)];rw[if_neg (show ¬j=0 by omega),if_neg (show ¬j=1 by omega),if_neg (show ¬j=2 by omega),if_neg (show ¬j=3 by omega),if_neg (show ¬j=40 by omega),if_neg (show ¬j=41 by omega),if_neg (show ¬j=42 by omega),if_neg h4]
 have F0:∀(who':Nat->Nat) (i T:Nat),zfv m.aC who' z1 sn w1.heap.size i T v' ov'->∀b,who' b≠5->base<=b/\b<w'.heap.size:=λwho' i T hO b hb'=>by
  rcases hO.nK b hb' with h5|h5|h5|h5|h5
  ·have:=h.re.wh b h5;omega
  ·omega
  ·omega
  ·have:=G.own.lt b h5;omega
  have:=G2.own.lt b h5;omega
 have v0:r.opens kind ln e={r with fr:=⟨kind,ln,e,[],false,[]⟩::r.fr,ap:=r.ap+1}:=rfl
 have g0:∀f∈(⟨kind,ln,e,[],false,[]⟩::r.fr:List Fl.aB),f.kind=5\/f.kind=6:=λf hf=>by
  rcases List.mem_cons.1 hf with rfl|hf
  ·exact I0
  exact h.ok.dy f hf
 -- the frame that is new
 have r0:∀(who':Nat->Nat) (T:Nat),zfv m.aC who' z1 sn w1.heap.size r.fr.length T v' ov'->Jq Pb m.gs<z1->(∀k,(zy9 m.bv r.fr m.gs).ownBlock=some k->m.aC k≠5)->zw7 who' base w' (3 - (r.fr.length+1)) r.fr.length [] ⟨kind,ln,e,[],false,[]⟩ ⟨sn,w1.heap.size,vp,Zq,Zq⟩:=λwho' T hO U0 M0=>by
  have qn:∀b,z1<=b->b<W.heap.size->w'.heap[b]?=W.heap[b]?:=λb h1 h2=>by
   rw[q2 b (by omega) (by omega) (λh3=>by have:=f0 b h3;omega)];exact G.q b h2 (by omega) (λhk=>M0 b hk (L0 b h1))
  refine{ts:=hO.s,to:=hO.o,ta:=λb hb'=>?_,co:=u0,cs:= ?_,hv:=hv.kept (λb hb'=>hO.new b hb'.1 hb'.2) (λb hb'=>qn b hb'.1 (by omega)),pa:=Yn.none _ _ _,pf:=λhh=>(by cases hh),pe:=λ_=>⟨rfl,rfl⟩}
  ·cases hb'
  have:=hc.block (w':=w') (qn sn (by omega) (by omega));rw[J0]at this;exact this
 have x0:Jj (r.ap+1) 1 r.fr:=by
  have k0:=cG.2
  cases b0:r.fr with
  |nil=>trivial
  |cons f fs=>
   rw[b0]at k0;obtain⟨c1,c2,c3⟩:=k0
   cases hh:f.cI with
   |true=>rw[hh]at c1 c2;simp at c1 c2;refine⟨?_,?_,Jj.mono (by omega) (Nat.le_refl _) c3⟩<;>simp[hh]<;>omega
   |false=>rw[hh]at c1 c2;simp at c1 c2;refine⟨?_,?_,Jj.mono (by omega) (Nat.le_refl _) c3⟩<;>simp[hh]<;>omega
 rw[v0]
 have s0:RsOk {r with fr:=⟨kind,ln,e,[],false,[]⟩::r.fr,ap:=r.ap+1}:=
  {cn:=⟨by have:=cG.1;simp;omega,⟨by simp,by simp,x0⟩⟩,lv:=h.ok.lv,ce:=h.ok.ce,ch:=h.ok.ch,lo:=h.ok.lo,st:=h.ok.st,fr:=(by simp;omega),cl:=h.ok.cl,hl:=h.ok.hl,cD:=h.ok.cD,dy:=g0,head:=λhd=>(by rw[show ({r with fr:=⟨kind,ln,e,[],false,[]⟩::r.fr,ap:=r.ap+1}:Fl.RS).ae=r.ae from rfl,hb]at hd;cases hd),below:=h.ok.below,bD:=h.ok.bD,bF:=h.ok.bF,fT:=h.ok.fT}
 have l0:w'.ownsRow base 250 1 ov' (r.fr.length+1) ((m.gs.map λg=>ptr g.ob).reverse++[ptr w1.heap.size]):=G2.own
 cases b0:r.fr with
 |nil=>
  have d0:m.gs=[]:=by
   rw[show ({r with ap:=r.ap+1}:Fl.RS).fr=r.fr from rfl,b0]at hl;exact Qi (by simpa using hl)
  rw[b0]at s0;rw[b0,d0]at l0 G ho p0 r0;rw[d0]at a0 q0;have y0:∀b,m.bv.ownBlock=some b->m.aC b=1:=h.re.tb;have hO:=ys3 (i:=0) (T:=1) (v:=m.bv) (ov:=m.ov) hI ⟨D0.1,by omega⟩ (by decide) y0 c0 p0 E0;obtain⟨who',i0⟩:∃who',who'=zx4 m.aC z1 sn w1.heap.size 0 1 v' ov':=⟨_,rfl⟩;rw[<-i0]at hO
  have hq:∀b,m.aC b≠5->m.aC b≠1->m.aC b≠2->w'.heap[b]?=W.heap[b]?:=λb h5 h1 h2=>by
   have z0:=h.re.wh b h5;rw[q2 b (by omega) (by omega) (λh3=>h2 (c0 b h3))];exact G.q b z0.2 (by show b≠Pb;omega) (λhk=>h1 (y0 b hk))
  have h0:∀b,m.aC b=0->who' b=0:=λb hb'=>(hO.gX b (by omega)).trans hb';have e0:∀b,m.aC b=0->w'.heap[b]?=W.heap[b]?:=λb hb'=>hq b (by omega) (by omega) (by omega)
  have j0:w'.ownsRow base 156 1 v' (n+1) (xs++[ptr sn]):=Yw G.own (λb hb'=>q2 b (G.own.lt b hb').2 (by have:=(G.own.lt b hb').1;omega) (λh3=>by
   have h2:=c0 b h3;have:=hO.gX b (by rw[h2];decide)
   rw[hO.row b hb',h2]at this;omega))
  refine⟨{m with bv:=v',gs:=[⟨sn,w1.heap.size,vp,Zq,Zq⟩],ov:=ov',aC:=who'},?_⟩;refine{ok:=s0,bel:=G2.bel,fx:=λb f1 f2 f3 f4 f5 f6=>((q2l b f1 f2).trans (a0 b f1 f3)).trans (h.fx b f1 f2 f3 f4 f5 f6),cV:=h.cV,bL:=⟨b1,b2,b3,b4,b5,by omega⟩,nd:=h.nd,cR:=q0 _ _ rfl rfl rfl rfl rfl (by show R≠Pb;omega),cP:= ?cP,nl:=(h.nl.block (a0 _ b3 (by show lm≠Pb;omega))).block (q2l _ b3 (by omega)),nv:=(h.nv.block (a0 _ b4 (by show vm≠Pb;omega))).block (q2l _ b4 (by omega)),nc:=(h.nc.block (a0 _ b5 (by show cm≠Pb;omega))).block (q2l _ b5 (by omega)),tab:=h.tab,re:= ?re}
  case cP=>
   refine((G.cs 5 _ h.cP (by decide)).block (q2l Pb b2 (by omega))).congr λk hk=>?_;rcases(show k=0\/k=1\/k=2\/k=3\/k=4 by omega) with rfl|rfl|rfl|rfl|rfl<;>rfl
  case re=>
   have m0:=h.re.pb;rw[d0]at m0;refine{wh:=F0 who' 0 1 hO,oc:=Yw h.re.oc (λb hb'=>hq b (by rw[h.re.tc b hb'];decide) (by rw[h.re.tc b hb'];decide) (by rw[h.re.tc b hb'];decide)),tc:=λb hb'=>(hO.gX b (by rw[h.re.tc b hb'];decide)).trans (h.re.tc b hb'),oh:=Yw h.re.oh (λb hb'=>hq b (by rw[h.re.th b hb'];decide) (by rw[h.re.th b hb'];decide) (by rw[h.re.th b hb'];decide)),th:=λb hb'=>(hO.gX b (by rw[h.re.th b hb'];decide)).trans (h.re.th b hb'),pb:=Yn.open_ m0 ho j0 h0 e0,tb:=hO.row,fa:= ?fa,oo:=l0,to:=hO.nU,la:=λhg=>?la}
   case fa=>
    refine⟨?_,trivial⟩;have:=r0 who' 1;simp only[List.length_nil]at this;exact this hO (by show Pb<z1;omega) (λk hk=>by rw[y0 k hk];decide)
   case la=>
    obtain⟨Lb,e1,e2,e3⟩:=h.re.la hg;exact⟨Lb,e1,h0 Lb e2,e3.block (e0 Lb e2)⟩
 |cons f fs=>
  cases d0:m.gs with
  |nil=>rw[show ({r with ap:=r.ap+1}:Fl.RS).fr=r.fr from rfl,b0,d0]at hl;simp at hl
  |cons g gs=>
   rw[b0]at s0;rw[b0,d0]at l0 G ho p0 r0;rw[d0]at a0 q0;rw[b0]at C0;simp only[List.length_cons]at C0;have G0:=h.re.fa;rw[show ({r with ap:=r.ap+1}:Fl.RS).fr=r.fr from rfl,b0,d0]at G0;obtain⟨hf,N0⟩:=G0;have O0:=h.re.wh g.sb (by rw[hf.ts];omega);have A0:=hI g.sb (by rw[hf.ts];omega);obtain⟨g',hg'⟩:∃g':GF,g'=if f.cI then{g with ev:=v'} else{g with fv:=v'}:=⟨_,rfl⟩
   have n0:g'.sb=g.sb:=by rw[hg'];split<;>rfl
   have hob':g'.ob=g.ob:=by rw[hg'];split<;>rfl
   have H0:g'.vp=g.vp:=by rw[hg'];split<;>rfl
   have o0:g'.act f=v':=by
    unfold GF.act;rw[hg']
    cases f.cI<;>rfl
   have B0:∀b,(zy9 m.bv (f::fs) (g::gs)).ownBlock=some b->m.aC b=12+3*fs.length:=hf.ta;have hO:=ys3 (i:=fs.length+1) (T:=12+3*fs.length) (ov:=m.ov) hI ⟨D0.1,by omega⟩ ⟨by omega,by omega⟩ B0 c0 p0 E0;obtain⟨who',i0⟩:∃who',who'=zx4 m.aC z1 sn w1.heap.size (fs.length+1) (12+3*fs.length) v' ov':=⟨_,rfl⟩;rw[<-i0]at hO
   have hq:∀b,m.aC b≠5->m.aC b≠12+3*fs.length->m.aC b≠10+3*fs.length->m.aC b≠2->w'.heap[b]?=W.heap[b]?:=λb h5 h1 P0 h2=>by
    have z0:=h.re.wh b h5;rw[q2 b (by omega) (by omega) (λh3=>h2 (c0 b h3))];exact G.q b z0.2 (λhe=>P0 (by rw[show b=g.sb from he];exact hf.ts)) (λhk=>h1 (B0 b hk))
   have h0:∀b,m.aC b=0->who' b=0:=λb hb'=>(hO.gX b (by omega)).trans hb';have e0:∀b,m.aC b=0->w'.heap[b]?=W.heap[b]?:=λb hb'=>hq b (by omega) (by omega) (by omega) (by omega)
   have j0:w'.ownsRow base 156 1 v' (n+1) (xs++[ptr sn]):=Yw G.own (λb hb'=>q2 b (G.own.lt b hb').2 (by have:=(G.own.lt b hb').1;omega) (λh3=>by
    have h2:=c0 b h3;have:=hO.gX b (by rw[h2];decide)
    rw[hO.row b hb',h2]at this;omega))
   refine⟨{m with gs:=⟨sn,w1.heap.size,vp,Zq,Zq⟩::g'::gs,ov:=ov',aC:=who'},?_⟩;refine{ok:=s0,bel:=G2.bel,fx:=λb f1 f2 f3 f4 f5 f6=>((q2l b f1 f2).trans (a0 b f1 (by show b≠g.sb;omega))).trans (h.fx b f1 f2 f3 f4 f5 f6),cV:=h.cV,bL:=⟨b1,b2,b3,b4,b5,by omega⟩,nd:=h.nd,cR:=q0 _ _ rfl rfl rfl rfl rfl (by show R≠g.sb;omega),cP:=(h.cP.block (a0 _ b2 (by show Pb≠g.sb;omega))).block (q2l _ b2 (by omega)),nl:=(h.nl.block (a0 _ b3 (by show lm≠g.sb;omega))).block (q2l _ b3 (by omega)),nv:=(h.nv.block (a0 _ b4 (by show vm≠g.sb;omega))).block (q2l _ b4 (by omega)),nc:=(h.nc.block (a0 _ b5 (by show cm≠g.sb;omega))).block (q2l _ b5 (by omega)),tab:=h.tab,re:= ?re}
   case re=>
    have m0:=h.re.pb;rw[d0]at m0;have Q0:Va (⟨sn,w1.heap.size,vp,Zq,Zq⟩::g'::gs)=Va (g::gs):=(by rw[zg8];simp only[Va,n0]);refine{wh:=F0 who' _ _ hO,oc:=Yw h.re.oc (λb hb'=>hq b (by rw[h.re.tc b hb'];decide) (by rw[h.re.tc b hb'];omega) (by rw[h.re.tc b hb'];omega) (by rw[h.re.tc b hb'];decide)),tc:=λb hb'=>(hO.gX b (by rw[h.re.tc b hb'];decide)).trans (h.re.tc b hb'),oh:=Yw h.re.oh (λb hb'=>hq b (by rw[h.re.th b hb'];decide) (by rw[h.re.th b hb'];omega) (by rw[h.re.th b hb'];omega) (by rw[h.re.th b hb'];decide)),th:=λb hb'=>(hO.gX b (by rw[h.re.th b hb'];decide)).trans (h.re.th b hb'),pb:= ?pb,tb:=λb hb'=>(hO.gX b (by rw[h.re.tb b hb'];decide)).trans (h.re.tb b hb'),fa:= ?fa,oo:= ?oo,to:=hO.nU,la:=λhg=>?la}
    case pb=>
     show Yn 3 _ base w' m.bv r.bC (Va (_::g'::gs));rw[Q0];exact m0.kept h0 e0 (λb hb'=>hq b (by rw[h.re.tb b hb'];decide) (by rw[h.re.tb b hb'];omega) (by rw[h.re.tb b hb'];omega) (by rw[h.re.tb b hb'];decide))
    case oo=>
     show w'.ownsRow base _ 1 ov' (_::f::fs).length (((_::g'::gs).map λg=>ptr g.ob).reverse);simp only[List.map_cons,List.reverse_cons,List.length_cons,hob']at l0⊢;exact l0
    case la=>
     obtain⟨Lb,e1,e2,e3⟩:=h.re.la hg;exact⟨Lb,e1,h0 Lb e2,e3.block (e0 Lb e2)⟩
    case fa=>
     refine⟨?_,?_,?_⟩
     ·have:=r0 who' (12+3*fs.length)
      simp only[List.length_cons]at this;exact this hO A0 (λk hk=>by rw[B0 k hk];omega)
     ·show zw7 who' base w' (3 - (fs.length+1+1)+1) fs.length [ptr sn] f g'
      rw[show 3 - (fs.length+1+1)+1=3 - (fs.length+1) by omega];refine{ts:=by rw[n0];exact(hO.gX g.sb (by rw[hf.ts];omega)).trans hf.ts,to:=by rw[hob'];exact(hO.gX g.ob (by rw[hf.to];omega)).trans hf.to,ta:=λb hb'=>hO.row b (by rw[<-o0];exact hb'),co:= ?co,cs:= ?cs,hv:=by rw[H0];exact hf.hv.kept h0 e0,pa:= ?pa,pf:= ?pf,pe:= ?pe}
      case co=>rw[hob',n0];exact hf.co.block (hq g.ob (by rw[hf.to];omega) (by rw[hf.to];omega) (by rw[hf.to];omega) (by rw[hf.to];omega))
      case cs=>
       rw[n0,H0];refine((G.cs 6 _ hf.cs (by show (if f.cI then 5 else 4)<6;split<;>omega)).block (q2 g.sb (by omega) (by omega) (λh3=>by have:=c0 _ h3;rw[hf.ts]at this;omega))).congr λk hk=>?_;rw[hg'];show (if k=(if f.cI then 5 else 4) then v' else _)=_
       cases f.cI<;>rcases(show k=0\/k=1\/k=2\/k=3\/k=4\/k=5 by omega) with rfl|rfl|rfl|rfl|rfl|rfl<;>rfl
      case pa=>
       rw[o0];exact Yn.open_ hf.pa ho j0 h0 e0
      case pf=>
       intro hh;have:=Zh.kept h0 e0 _ _ _ (hf.pf hh);rw[hg',hh];exact this
      case pe=>
       intro hh;rw[hg',hh];exact hf.pe hh
     show Vh who' base w' (3 - (fs.length+1+1)+1+1) [ptr g'.sb] fs gs;rw[n0,show 3 - (fs.length+1+1)+1+1=3 - (fs.length+1)+1 by omega]
     exact N0.kept (λb hb'=>by
      rcases hb' with hb'|hb'
      ·exact⟨hO.gX b (by omega),e0 b hb'⟩
      exact⟨hO.gX b (by omega),hq b (by omega) (by omega) (by omega) (by omega)⟩)
end
def Tryz.infoPOpened:(Tryz.prog.info? 250).map (λi=>(i.zero,i.size,i.bytes))=some (some (.pointer none),1,8):=by kernel_rfl
section
variable{aq:Int}{m:Xt}
def zdv(h:Zn lo base R Pb lm vm cm w0 w r aq m)(O0:r.ae=true)(B:Nat)(v:Value)(k a:List UInt8)(ln kind:Nat)(P0:aq=(ln:Int))(hB:B<=w.heap.size)(hw:Zf B w v [a])(c0:kind=if k==Fl.iP then 5 else 6):
  Cq 143 #[Pq R,Iq kind,v] w (Zd lo base R Pb lm vm cm w0 aq (r.bQ ln [k,a])):=by
 obtain⟨b,off,cp,rfl,r0,f1,g1,Q0,j0⟩:=hw.one (by simp);obtain⟨aV,l0⟩:=nmE (r.bQ ln [k,a]);rw[<-l0]
 have m0:Hid (aV=match r.value [a] with
  |none=>(4,r)
  |some e=>if 16<=r.ap\/3<=r.fr.length then(5,r) else(0,r.opens kind ln e)):=by
  show _=_;rw[l0,c0];simp only[Fl.RS.bQ]
  cases r.value [a]<;>rfl
 have R0:Hid (Cq 140 #[Pq R,.slice (some (Aq b off)) 1 cp] w (zqv (r.value [a]) aq w)):=zg3 h b off cp a (Q0 a (by simp)) (by simpa using r0) (j0 0 (by simp))
 have i1:Hid (kind=5\/kind=6):=by show _\/_;rw[c0];split<;>simp
 have j1:=Zz P0;have HH:=Zz h;have bL:=h.bL;have cV:=h.cV;simp only[List.length_cons,List.length_nil,Nat.zero_add];obtain⟨ao,cap,C0,s0,u0⟩:=zj7 h;have D0:=h.ok.fr;obtain⟨n,hn⟩:=nmE (r.fr.length);rw[<-hn]at C0 D0;have HN:=Zz hn;have v0:=Zz C0;clear h hw Q0 j0 l0 c0 P0 r0 f1 g1 hB C0 s0 u0 hn
 go_enter func143,ntmps143
 go_wp2_with fail
 refine R0.mono ?_;rintro e W2 ⟨y0,S0,x0⟩;have z0:Hid (Zn lo base R Pb lm vm cm w0 W2 r aq m):=HH.below y0;have t1:=y0.size
 cases d0:r.value [a] with
 |none=>
  obtain rfl:=x0 d0;have HR:aV=(4,r):=(by rw[m0.out,d0]);exact⟨rfl,Zd.eh HR (by decide) rfl (HH.gone y0)⟩
 |some ex=>
  obtain⟨pb,rfl,T0⟩:=S0 ex d0;have U0:=Zz T0;have A0:Hid (aV=if 16<=r.ap\/3<=n then(5,r) else(0,r.opens kind ln ex)):=(by show _=_;rw[m0.out,d0,HN.out]);clear R0 y0 T0 S0 x0 m0 d0;have u1:R<W2.heap.size:=(by omega);have c43:W2.cell? (Aq R 43)=some (.slice ao n cap):=(by rw[<-v0.out];exact z0.cR.c 43 (by omega));obtain⟨o,ho⟩:=nmE (α:=Obj) (.cells #[Iq kind,Iq 0,Iq 0,Pq pb,Zq,Zq] 163);have HA:Hid (Zn lo base R Pb lm vm cm w0 (W2.alloc o) r aq m):=z0.below (bA);have V0:(W2.alloc o).heap.size=W2.heap.size+1:=World.size_alloc _ _;have W0:=Zz V0;have E0:Hid (Cq 61 #[Pq R,.bool false,Iq 5] (W2.alloc o) λe w'=>e=.panicked (Ze 5 aq)/\Below (W2.alloc o).heap.size (W2.alloc o) w'):=Yd R 5 aq _ (HA.cR.c 1 (by omega));have B0:Hid (Cq 61 #[Pq R,.bool true,Iq 5] (W2.alloc o) λe w'=>e=.returned (.tuple #[])/\w'=W2.alloc o):=Xc R 5 _
  have X0:m.aC W2.heap.size=5:=Classical.byContradiction λk1=>by have:=(z0.re.wh _ k1).2;omega
  have h0:Hid (Cq 141 #[Pq R,Pq W2.heap.size] (W2.alloc o) (zx3 lo base R Pb lm vm cm w0 r aq m W2.heap.size kind 0 (ptr pb) (W2.alloc o))):=
   yx1 HA O0 W2.heap.size kind 0 (ptr pb) (by omega) X0 (by omega) (by rw[ho];exact Zb.new W2 [Iq kind,Iq 0,Iq 0,Pq pb,Zq,Zq] _)
  have F0:Hid (∀b,b<W2.heap.size->(W2.alloc o).heap[b]?=W2.heap[b]?):=((Below.refl W2.heap.size W2).alloc (Nat.le_refl _) _).block;rw[ho]at E0 B0 h0;clear V0 X0
  by_cases h3:3<=n
  ·have b3:¬(n:Int)<3:=by omega
   have HR:Hid (aV=(5,r)):=(by show _=_;rw[A0.out];exact if_pos (.inr h3));rw[ho]at HA W0;clear ho h0 B0 F0
   go_wp2_with fail
   try rw[show decide ((n:Int)<3)=false from decide_eq_false (by omega)]
   refine E0.mono ?_;rintro e w1 ⟨rfl,l1⟩;exact⟨rfl,Zd.eh HR (by decide) rfl (HA.gone l1)⟩
  have b3:(n:Int)<3:=(by omega);have HO:=Zz ho;clear E0 ho
  go_wp2_with fail
  try rw[show decide ((n:Int)<3)=true from decide_eq_true (by omega)]
  refine B0.mono ?_;rintro e w1 ⟨rfl,Y0⟩;rw[Y0];clear Y0 w1 B0
  go_wp2_with fail
  refine h0.mono ?_;rintro e w1 (⟨Z0,rfl,m1⟩|⟨Z0,rfl,W3,a0,G0,H0,a1,nn,xs,v',I0,G⟩)
  ·have HR:aV=(5,r):=by rw[A0.out];exact if_pos (.inl Z0)
   exact⟨rfl,Zd.eh HR (by decide) rfl m1⟩
  rw[<-HO.out]at G0 H0;have n0:=zo4 (r:={r with ap:=r.ap+1}) a0 G I0;have n1:=a0.bL;have b1:=a0.re.to;have c1:R≠Jq Pb m.gs:=by
   cases b0:m.gs with
   |nil=>exact a0.nd.1
   |cons g gs=>
    have hl:=a0.re.fa.len;have k0:=a0.re.fa
    cases e0:r.fr with
    |nil=>rw[show ({r with ap:=r.ap+1}:Fl.RS).fr=r.fr from rfl,e0,b0]at hl;simp at hl
    |cons f fs=>
     rw[show ({r with ap:=r.ap+1}:Fl.RS).fr=r.fr from rfl,e0,b0]at k0;have:=a0.re.wh g.sb (by rw[k0.1.ts];omega);show R≠g.sb;omega
  have v1:=G.hz;have e43:Cl w1 R 43 (.slice ao n cap):=(Qc (a:=(Aq R 43)) (n0 R (by omega) c1)).trans (by rw[<-v0.out];exact a0.cR.c 43 (by omega));have efz:∀j,w1.frozen? (Aq R j)=false:=λj=>(Qd (a:=(Aq R j)) (n0 R (by omega) c1)).trans (a0.cR.z j);have o1:R<w1.heap.size:=(by omega);obtain⟨ys,J0⟩:=nmE ((m.gs.map λg=>ptr g.ob).reverse)
  have f0:∀k,(Value.slice ao n cap).ownBlock=some k->base<=k/\k<W3.heap.size/\k≠R/\w1.heap[k]?=W3.heap[k]?:=λk hk=>by
   rw[<-v0.out]at hk;have h2:=b1 k hk;have h1:=a0.re.wh k (by rw[h2];decide);refine⟨h1.1,h1.2,by omega,G.q k h1.2 (λhe=>?_) (λhe=>?_)⟩
   ·cases b0:m.gs with
    |nil=>rw[b0]at he;have:k=Pb:=he;omega
    |cons g gs=>
     have hl:=a0.re.fa.len;have k0:=a0.re.fa
     cases e0:r.fr with
     |nil=>rw[show ({r with ap:=r.ap+1}:Fl.RS).fr=r.fr from rfl,e0,b0]at hl;simp at hl
     |cons f fs=>
      rw[show ({r with ap:=r.ap+1}:Fl.RS).fr=r.fr from rfl,e0,b0]at k0;rw[b0]at he;have he':k=g.sb:=he;rw[he',k0.1.ts]at h2;omega
   cases b0:m.gs with
   |nil=>
    have hl:=a0.re.fa.len;have e0:r.fr=[]:=Qi (by rw[b0]at hl;simpa using hl.symm);rw[b0,e0]at he;rw[a0.re.tb k he]at h2;omega
   |cons g gs=>
    have hl:=a0.re.fa.len;have k0:=a0.re.fa
    cases e0:r.fr with
    |nil=>rw[show ({r with ap:=r.ap+1}:Fl.RS).fr=r.fr from rfl,e0,b0]at hl;simp at hl
    |cons f fs=>
     rw[show ({r with ap:=r.ap+1}:Fl.RS).fr=r.fr from rfl,e0,b0]at k0;rw[b0,e0]at he;rw[k0.1.ta k he]at h2;omega
  obtain⟨oo,K0⟩:=nmE (α:=Obj) (.cells #[Pq W2.heap.size,.bool false] 253);have L0:(w1.alloc oo).heap.size=w1.heap.size+1:=World.size_alloc _ _;have o0:Hid ((w1.alloc oo).ownsRow base 250 1 (.slice ao n cap) n ys):=by
   have h1:=a0.re.oo;rw[v0.out,<-J0]at h1;rw[show ({r with ap:=r.ap+1}:Fl.RS).fr=r.fr from rfl,<-HN.out]at h1;exact Yw h1 (λk hk=>(((Below.refl w1.heap.size w1).alloc (Nat.le_refl _) oo).block k (by have:=f0 k hk;omega)).trans (f0 k hk).2.2.2)
  have p0:Hid (∀(W4:World) (u:Value) (o2:Obj),W4.ownsRow base 250 1 u (n+1) (ys++[ptr w1.heap.size])->((w1.alloc oo).alloc o2).grownBy W4 (Value.slice ao n cap).ownBlock->(u.ownBlock=(Value.slice ao n cap).ownBlock\/u.ownBlock=some ((w1.alloc oo).alloc o2).heap.size)->Zd lo base R Pb lm vm cm w0 aq aV (.returned (.tuple #[])) (W4.setCell (Aq R 43) u)):=λW4 u o2 h1 h2 h3'=>by
   have d1:zxx 250 lo base w0 (w1.alloc oo) (W4.setCell (Aq R 43) u) R 43 (.slice ao n cap) u n ys (ptr w1.heap.size):=
    zxx.of (G.bel.alloc (by omega) _) (by omega) (by omega) (by omega) h1 h2 h3' (λk hk=>by have:=f0 k hk;exact⟨this.1,by omega,this.2.2.1⟩) (by omega)
   rw[<-v0.out,HN.out,J0]at d1;obtain⟨m',hm⟩:=Zn.opens (r:=r) a0 O0 (by rw[<-HN.out];omega) (z1:=w.heap.size) (sn:=W2.heap.size) (kind:=kind) (ln:=ln) (vp:=ptr pb) (e:=ex) i1 (λb hb=>(HH.re.wh b hb).2) (by omega) ⟨by omega,by rw[G0,W0.out]⟩ j1 HH.ok.cn a1
    (U0.kept (λb hb=>hb) (λb hb=>(H0 b (by have:=hb.1;omega) (by have:=hb.2;omega)).trans (F0 b hb.2))) I0 G oo
    (by rw[K0];exact Zb.new w1 [Pq W2.heap.size,.bool false] _) d1
   exact Zd.fS (by rw[A0.out];exact if_neg (by omega)) rfl hm
  have e1:Hid (∀k,(Value.slice ao n cap).ownBlock=some k->base<=k/\k<w1.heap.size/\k≠R):=λk hk=>by have:=f0 k hk;exact⟨this.1,by omega,this.2.2.1⟩
  have t0:∀i u,([Pq w1.heap.size]:List Value)[i]?=some u->((w1.alloc (.cells #[Pq W2.heap.size,.bool false] 253)).alloc (.cells #[Pq w1.heap.size] 250)).cell? (((Aq (w1.heap.size+1) 0):Addr).add i)=some u:=by
   have:=(Xv:∀i u,([Pq w1.heap.size]:List Value)[i]?=some u->((w1.alloc (.cells #[Pq W2.heap.size,.bool false] 253)).alloc (.cells #[Pq w1.heap.size] 250)).cell? ((⟨(w1.alloc (.cells #[Pq W2.heap.size,.bool false] 253)).heap.size,0,none⟩:Addr).add i)=some u);rw[World.size_alloc]at this;exact this
  rw[K0]at o0 p0;obtain⟨i0,p1,q1,r1,s1⟩:=info_parts Tryz.infoPOpened;clear a0 H0 a1 I0 G n0 f0 b1 J0 K0 L0 U0 A0 h0 F0 HA z0 HH G0 HO c43
  go_wp2_with (at_builtin;refine Zj _ rfl (.tmp 28) (.tmp 32) 98 rfl base 250 i0 (.pointer none) 1 8 underlying98 p1 q1 r1 s1 rfl (by decide) _ _ _ rfl (o0.alloc _) (Aq _ 0) 1 1 [Pq w1.heap.size] rfl rfl (by decide) t0 ?c2 ?c3 ?c4 ?c5 ?_)
  case c2=>intro u hu;simp at hu;subst hu;rfl
  case c3=>unfold maxLen;omega
  case c4=>omega
  case c5=>simp;omega
  intro u W4 g0 M0 q0;obtain⟨va,vcap,rfl⟩:=Jl g0;have N0:W4.heap[R]?=w1.heap[R]?:=(M0.block R (by simp;omega) (λhh=>(e1 R hh.symm).2.2 rfl)).trans ((((Below.refl w1.heap.size w1).alloc (Nat.le_refl _) _).alloc (by simp) _).block R o1);have g4:Cl W4 R 43 (.slice ao n cap):=(Qc (a:=(Aq R 43)) N0).trans e43;have gz:∀j,W4.frozen? (Aq R j)=false:=λj=>(Qd (a:=(Aq R j)) N0).trans (efz j);have HE:Hid (Zd lo base R Pb lm vm cm w0 aq aV (.returned (.tuple #[])) (W4.setCell (Aq R 43) (.slice va (n+1) vcap))):=p0 W4 _ _ g0 M0 (by simp only[World.size_alloc]at q0⊢;exact q0);clear g0 M0 q0 N0 p0 o0 e1 e43 efz t0;go_wp2
  go_end0
  exact HE
end
section
variable{aq:Int}{m:Xt}
def yq8(h:Zn lo base R Pb lm vm cm w0 w r aq m)(c0:r.ae=true)(B:Nat)(v:Value)(k a:List UInt8)(ln:Nat)(b0:aq=(ln:Int))(hB:B<=w.heap.size)(hw:Zf B w v [a])(hk:(k==Fl.iP)=true):
  Cq 111 #[Pq R,v] w (Zd lo base R Pb lm vm cm w0 aq (r.bQ ln [k,a])):=by
 have HO:Hid (Cq 143 #[Pq R,Iq 5,v] w (Zd lo base R Pb lm vm cm w0 aq (r.bQ ln [k,a]))):=zdv h c0 B v k a ln 5 b0 hB hw (by rw[hk];rfl);obtain⟨aV,a0⟩:=nmE (r.bQ ln [k,a]);rw[<-a0]at HO⊢
 obtain⟨ao,n,c,rfl⟩:∃ao n c,v=.slice ao n c:=by obtain⟨ao,c,h1,-⟩:=hw;exact⟨_,_,_,h1⟩
 clear h b0 hB hw hk a0
 go_enter func111,ntmps111
 go_wp2_with fail
 refine HO.mono ?_;rintro e W (⟨h1,rfl,hm⟩|⟨h1,rfl,hb⟩)
 ·have HE:Hid (Zd lo base R Pb lm vm cm w0 aq aV (.returned (.tuple #[])) W):=.inl ⟨h1,rfl,hm⟩
  clear h1 hm HO;go_wp2
  go_end0
  exact HE
 exact⟨rfl,.inr ⟨h1,rfl,hb⟩⟩
def zbv(h:Zn lo base R Pb lm vm cm w0 w r aq m)(c0:r.ae=true)(B:Nat)(v:Value)(k a:List UInt8)(ln:Nat)(b0:aq=(ln:Int))(hB:B<=w.heap.size)(hw:Zf B w v [a])(hk:(k==Fl.iP)=false):
  Cq 113 #[Pq R,v] w (Zd lo base R Pb lm vm cm w0 aq (r.bQ ln [k,a])):=by
 have HO:Hid (Cq 143 #[Pq R,Iq 6,v] w (Zd lo base R Pb lm vm cm w0 aq (r.bQ ln [k,a]))):=zdv h c0 B v k a ln 6 b0 hB hw (by rw[hk];rfl);obtain⟨aV,a0⟩:=nmE (r.bQ ln [k,a]);rw[<-a0]at HO⊢
 obtain⟨ao,n,c,rfl⟩:∃ao n c,v=.slice ao n c:=by obtain⟨ao,c,h1,-⟩:=hw;exact⟨_,_,_,h1⟩
 clear h b0 hB hw hk a0
 go_enter func113,ntmps113
 go_wp2_with fail
 refine HO.mono ?_;rintro e W (⟨h1,rfl,hm⟩|⟨h1,rfl,hb⟩)
 ·have HE:Hid (Zd lo base R Pb lm vm cm w0 aq aV (.returned (.tuple #[])) W):=.inl ⟨h1,rfl,hm⟩
  clear h1 hm HO;go_wp2
  go_end0
  exact HE
 exact⟨rfl,.inr ⟨h1,rfl,hb⟩⟩
def Xi(r:Fl.RS)(ws:List (List UInt8))(ln:Nat):Nat×Fl.RS:=if Fl.aq ws=true then r.row ws ln else(2,r)
def zc0(ws:List (List UInt8))(k:Nat)(hk:k<12)(hr:Fl.bT ws k=true):Fl.cB (ws.getD 0 [])=(Fl.dH k).2.2:=by
 unfold Fl.bT at hr;simp only[Bool.and_eq_true,beq_iff_eq]at hr;rw[hr.1];rcases(show k=0\/k=1\/k=2\/k=3\/k=4\/k=5\/k=6\/k=7\/k=8\/k=9\/k=10\/k=11 by omega) with rfl|rfl|rfl|rfl|rfl|rfl|rfl|rfl|rfl|rfl|rfl|rfl<;>rfl
def ymx(r:Fl.RS)(ws:List (List UInt8))(ln k:Nat)(a0:ws≠[])(hk:k<12)(hr:Fl.bT ws k=true)(hb:(Fl.dH k).2.2≠r.ae):Xi r ws ln=if(Fl.dH k).2.2=true then r.head ws else r.bQ ln ws:=by
 unfold Xi Fl.RS.row;rw[if_pos ((Fl.gV ws a0).2 ⟨k,hk,hr⟩),zc0 ws k hk hr,if_neg hb]
def yq9(ws:List (List UInt8))(k:Nat)(a0:ws≠[])(hr:Fl.bT ws k=true):∃xs,ws=(Fl.dH k).1::xs/\ws.drop 1=xs/\Fl.bY (Fl.dH k).2.1 xs=true:=by
 match ws,a0 with
 |x::xs,_=>
  unfold Fl.bT at hr;simp only[Bool.and_eq_true,beq_iff_eq]at hr;exact⟨xs,by rw[<-hr.1];rfl,rfl,hr.2⟩
def row_any(h:Zn lo base R Pb lm vm cm w0 w r aq m)(T b off n cap ln:Nat)(ws:List (List UInt8))(hT:w.heap[T]?=some (.cells Vi 217 (0,0)))(i0:Zf w.heap.size w (.slice (some (Aq b off)) n cap) ws)(f0:ws≠[])(g0:aq=(ln:Int))(hb:base<=b/\m.aC b=5):
  Cq 60 #[Pq R,.slice (some (Aq T 0)) 12 12,.slice (some (Aq b off)) n cap] w (Zd lo base R Pb lm vm cm w0 aq (Xi r ws ln)):=by
 have bL:=h.bL;have cV:=h.cV;refine(yv7 R T b off n cap ws aq r.ae w (λW'=>(Xi r ws ln).1=0/\∃m',Zn lo base R Pb lm vm cm w0 W' (Xi r ws ln).2 aq m') (λn p W'=>p=aq/\n=((Xi r ws ln).1:Int)/\(Xi r ws ln).1≠0/\zv9 lo base R Pb lm vm cm w0 W') hT i0 f0 (h.cR.c 1 (by omega)) (h.cR.c 2 (by omega)) ?_ ?_ ?_).mono ?_
 ·intro du W hW
  have hl:¬Fl.aq ws=true:=λhl=>by
   obtain⟨k,hk,hr⟩:=(Fl.gV ws f0).1 hl
   rw[du k hk]at hr;cases hr
  have:Xi r ws ln=(2,r):=if_neg hl;rw[this];exact⟨rfl,rfl,Nat.succ_ne_zero _,h.gone hW⟩
 ·intro k hk hr b0 W hW
  have:Xi r ws ln=(3,r):=by
   unfold Xi Fl.RS.row;rw[if_pos ((Fl.gV ws f0).2 ⟨k,hk,hr⟩),zc0 ws k hk hr,if_pos b0]
  rw[this];exact⟨rfl,rfl,Nat.succ_ne_zero _,h.gone hW⟩
 ·intro k hk hr b0 W v hW hv j0
  have hP:=h.below hW;have d0:=hW.size;have hO:=ymx r ws ln k f0 hk hr b0;obtain⟨xs,hx,k0,a0⟩:=yq9 ws k f0 hr;rw[k0]at hv
  have c0:∀b',v.ownBlock=some b'->base<=b'/\m.aC b'=5:=λb' h'=>by rw[j0]at h';simp only[Option.some.injEq]at h';subst h';exact hb
  have hM:∀(F:Nat),Cq F #[Pq R,v] W (Zd lo base R Pb lm vm cm w0 aq (Xi r ws ln))->Cq F #[Pq R,v] W λe W'=>(e=.returned (.tuple #[])/\(Xi r ws ln).1=0/\∃m',Zn lo base R Pb lm vm cm w0 W' (Xi r ws ln).2 aq m')\/∃n p,e=.panicked (Ze n p)/\p=aq/\n=((Xi r ws ln).1:Int)/\(Xi r ws ln).1≠0/\zv9 lo base R Pb lm vm cm w0 W':=λF hF=>hF.mono (by
   rintro e W' (⟨h1,h2,h3⟩|⟨h1,h2,h3⟩)
   ·exact .inl ⟨h2,h1,h3⟩
   exact .inr ⟨_,_,h2,rfl,rfl,h1,h3⟩)
  have h0:(Fl.dH k).2.2=true->r.ae=false:=λht=>by rw[ht]at b0;cases l0:r.ae<;>simp_all
  have e0:(Fl.dH k).2.2=false->r.ae=true:=λht=>by rw[ht]at b0;cases l0:r.ae<;>simp_all
  refine hM _ ?_;rw[hO];clear hM hO b0;rcases(show k=0\/k=1\/k=2\/k=3\/k=4\/k=5\/k=6\/k=7\/k=8\/k=9\/k=10\/k=11 by omega) with rfl|rfl|rfl|rfl|rfl|rfl|rfl|rfl|rfl|rfl|rfl|rfl
  ·match xs,Fl.bX _ _ a0 with
   |[x],_=>rw[hx];exact ym5 hP (h0 rfl) w.heap.size v Fl.cT x d0 hv (λb' h'=>(c0 b' h').1)
  ·match xs,Fl.bX _ _ a0 with
   |[x,y],_=>rw[hx];exact yq1 hP (h0 rfl) w.heap.size v x y d0 hv (λb' h'=>(c0 b' h').1)
  ·match xs,Fl.bX _ _ a0 with
   |[x,y],_=>rw[hx];exact yi4 hP (h0 rfl) w.heap.size v x y d0 hv c0
  ·match xs,Fl.bX _ _ a0 with
   |[x,y],_=>rw[hx];exact yvw hP (h0 rfl) w.heap.size v x y d0 hv c0
  ·match xs,Fl.bX _ _ a0 with
   |[],_=>rw[hx];exact ymz hP (h0 rfl) v Fl.cC (by obtain⟨ao,c,h1,-⟩:=hv;exact⟨_,_,_,h1⟩)
  ·match xs,Fl.bX _ _ a0 with
   |[x,y],_=>rw[hx];exact ys2 hP (e0 rfl) w.heap.size v Fl.eM x [y] ln g0 d0 hv c0 (by decide) (.inl (by have:=a0;simp only[Fl.dH,Fl.gx,List.getD_cons_succ,List.getD_cons_zero,Fl.bY,Bool.and_eq_true]at this;simp only[Fl.bY,Bool.and_eq_true];exact this.2))
  ·match xs,Fl.bX _ _ a0 with
   |[x,y,z,t],_=>rw[hx];exact ys2 hP (e0 rfl) w.heap.size v Fl.eM x [y,z,t] ln g0 d0 hv c0 (by decide) (.inr (by have:=a0;simp only[Fl.dH,Fl.gx,List.getD_cons_succ,List.getD_cons_zero,Fl.bY,Bool.and_eq_true]at this;simp only[Fl.bY,Bool.and_eq_true];exact this.2))
  ·match xs,Fl.bX _ _ a0 with
   |[x,y],_=>rw[hx];exact out_any hP (e0 rfl) w.heap.size v Fl.eD x [y] ln g0 d0 hv (by decide) (.inl (by have:=a0;simp only[Fl.dH,Fl.gx,List.getD_cons_succ,List.getD_cons_zero,Fl.bY,Bool.and_eq_true]at this;simp only[Fl.bY,Bool.and_eq_true];exact this.2))
  ·match xs,Fl.bX _ _ a0 with
   |[x],_=>rw[hx];exact yq8 hP (e0 rfl) w.heap.size v Fl.iP x ln g0 d0 hv (by decide)
  ·match xs,Fl.bX _ _ a0 with
   |[],_=>rw[hx];exact yx3 hP (e0 rfl) v Fl.dL ln (by decide)
  ·match xs,Fl.bX _ _ a0 with
   |[x],_=>rw[hx];exact zbv hP (e0 rfl) w.heap.size v Fl.eZ x ln g0 d0 hv (by decide)
  match xs,Fl.bX _ _ a0 with
  |[],_=>rw[hx];exact end_any hP (e0 rfl) v Fl.gy ln (by decide)
 rintro e W' (⟨rfl,h1,h2⟩|⟨n',p,rfl,rfl,rfl,h1,h2⟩)
 ·exact .inl ⟨h1,rfl,h2⟩
 exact .inr ⟨h1,rfl,h2⟩
end
section
variable{aq:Int}{m:Xt}
def Zn.kX(h:Zn lo base R Pb lm vm cm w0 w r aq m)(l':Int):Zn lo base R Pb lm vm cm w0 (w.setCell (Aq R 1) (Iq l')) r l' m:=by
 obtain⟨b1,b2,b3,b4,b5,b6⟩:=h.bL;obtain⟨l1,l2,l3,l4,l5⟩:=h.cV;obtain⟨n1,n2,n3,n4,n5,n6,n7,n8,n9,n10⟩:=h.nd;have hz:(w.setCell (Aq R 1) (Iq l')).heap.size=w.heap.size:=Zy _ _ _;have q:∀k,k≠R->(w.setCell (Aq R 1) (Iq l')).heap[k]?=w.heap[k]?:=λk hk=>Zx _ _ _ _ _ hk
 exact{
     ok:=h.ok,bel:=h.bel.setCell (by show lo<=R;omega) _,fx:=λb f1 f2 f3 f4 f5 f6=>(q b f2).trans (h.fx b f1 f2 f3 f4 f5 f6),cV:=h.cV,bL:=⟨b1,b2,b3,b4,b5,by omega⟩,nd:=h.nd,cR:=(h.cR.set (j:=1) (by omega) (Iq l')).congr (λj hj=>by
      by_cases h4:j=1
      ·subst h4;rfl
      rw[if_neg h4];unfold Vq
      by_cases h0:j=0
      ·subst h0;rfl
      rw[if_neg h0,if_neg h0,if_neg h4,if_neg h4]),cP:=h.cP.block (q _ (Ne.symm n1)),nl:=h.nl.block (q _ (Ne.symm n2)),nv:=h.nv.block (q _ (Ne.symm n3)),nc:=h.nc.block (q _ (Ne.symm n4)),tab:=h.tab,re:=h.re.kept (by omega) (λk hk=>q k (by have:=h.re.wh k hk;omega))}
def ymw(h:Zn lo base R Pb lm vm cm w0 w r aq m)(B1 B2 T b n ln:Nat)(ws:List (List UInt8))(e0:w.cell? (Aq B1 0)=some (Pq R))(f0:w.cell? (Aq B2 0)=some (.slice (some (Aq T 0)) 12 12))(hT:w.heap[T]?=some (.cells Vi 217 (0,0)))(hd:B1≠R/\B2≠R/\T≠R)
  (c0:Zf w.heap.size w (.slice (some (Aq b 0)) n n) ws) (d0:ws≠[]) (hb:base<=b/\m.aC b=5):
  Cq 59 #[Iq ln,.slice (some (Aq b 0)) n n,Pq B1,Pq B2] w (Zd lo base R Pb lm vm cm w0 ln (Xi r ws ln)):=by
 have bL:=h.bL;obtain⟨d1,d2,d3⟩:=hd;have hz:(w.setCell (Aq R 1) (Iq ln)).heap.size=w.heap.size:=Zy _ _ _;have q:∀k,k≠R->(w.setCell (Aq R 1) (Iq ln)).heap[k]?=w.heap[k]?:=λk hk=>Zx _ _ _ _ _ hk;have H1:=h.kX (ln:Int);have a0:Zf (w.setCell (Aq R 1) (Iq ln)).heap.size (w.setCell (Aq R 1) (Iq ln)) (.slice (some (Aq b 0)) n n) ws:=by
  obtain⟨ao,c,h1,h2,h3,h4,h5,h6⟩:=c0;refine⟨ao,c,h1,h2,h3,h4,h5,λhn=>?_⟩;obtain⟨b',off,e,hb',hc⟩:=h6 hn;refine⟨b',off,e,by rw[hz];exact hb',λi hi=>?_⟩;have he:b'=b:=(by rw[e]at h1;simp only[Value.slice.injEq,Option.some.injEq,Addr.mk.injEq]at h1;exact h1.1.1.symm);exact(Qc (a:=(Aq b' (off+i))) (q b' (by omega))).trans (hc i hi)
 have HR:Hid (Cq 60 #[Pq R,.slice (some (Aq T 0)) 12 12,.slice (some (Aq b 0)) n n] (w.setCell (Aq R 1) (Iq ln)) (Zd lo base R Pb lm vm cm w0 ln (Xi r ws ln))):=
  row_any H1 T b 0 n n ln ws ((q T d3).trans hT) a0 d0 rfl hb
 obtain⟨aV,b0⟩:=nmE (Xi r ws ln);rw[<-b0]at HR⊢;have e1:Cl (w.setCell (Aq R 1) (Iq ln)) B1 0 (Pq R):=(Qc (a:=(Aq B1 0)) (q B1 d1)).trans e0;have e2:Cl (w.setCell (Aq R 1) (Iq ln)) B2 0 (.slice (some (Aq T 0)) 12 12):=(Qc (a:=(Aq B2 0)) (q B2 d2)).trans f0;have c1:Cl w R 1 (Iq aq):=h.cR.c 1 (by omega);have zR:=h.cR.z;clear h hz q H1 a0 c0 hT b0 hb d0
 go_enter func59,ntmps59
 go_wp2_with fail
 refine HR.mono ?_;rintro e W (⟨h1,rfl,hm⟩|⟨h1,rfl,hb⟩)
 ·have HE:Hid (Zd lo base R Pb lm vm cm w0 ln aV (.returned (.tuple #[])) W):=.inl ⟨h1,rfl,hm⟩
  clear h1 hm HR;go_wp2
  go_end0
  exact HE
 exact⟨rfl,.inr ⟨h1,rfl,hb⟩⟩
end
end Go.Proofs.YtfhpibppblbgcaaGreatDoor
