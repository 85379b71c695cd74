import Derived.Test.YtfhpibppblbgcaaGreatDoorM13
set_option linter.all false
set_option maxRecDepth 100000
set_option maxHeartbeats 40000000
namespace Go.Proofs.YtfhpibppblbgcaaGreatDoor
open Go.RowKit Go.Proofs.Tryz
variable{lo base R Pb lm vm cm n d z1 z2 T:Nat}{w0 w w' W:World}{e:TypeId}{v' x v:Value}{xs:List Value}{S:Nat->Prop}{aC:Nat->Nat}
section
variable{r:Fl.RS}{aq:Int}{m:Xt}
def Zn.ic(h:Zn lo base R Pb lm vm cm w0 w r aq m)(hb:r.ae=true)(x:List UInt8)(cV:r.am.length<4)(hz:w.heap.size<=w'.heap.size)(hq:∀b,b<w.heap.size->b≠vm->b≠Pb->w'.heap[b]?=w.heap[b]?)(a0:Below lo w0 w')
  (b0:Zb w' Pb 5 (rw_ [m.pl,m.bD,m.bF,Iq ((r.am.length:Int)+1),m.bv])) (c0:Yu w' vm (r.cells++(r.am++[x]))):Zn lo base R Pb lm vm cm w0 w' {r with am:=r.am++[x]} aq m:=by
 obtain⟨b1,b2,b3,b4,b5,b6⟩:=h.bL;obtain⟨n1,n2,n3,n4,n5,n6,n7,n8,n9,n10⟩:=h.nd;have hr:=h.re.kept (w':=w') hz (λb hw=>hq b (h.re.wh b hw).2 (by have:=h.re.wh b hw;omega) (by have:=h.re.wh b hw;omega));exact{ok:={cn:=h.ok.cn,lv:=h.ok.lv,ce:=h.ok.ce,ch:=h.ok.ch,lo:=by simp;omega,st:=h.ok.st,fr:=h.ok.fr,cl:=h.ok.cl,hl:=h.ok.hl,cD:=h.ok.cD,dy:=h.ok.dy,head:=λhh=>(by rw[show ({r with am:=r.am++[x]}:Fl.RS).ae=r.ae from rfl,hb]at hh;cases hh),below:=h.ok.below,bD:=h.ok.bD,bF:=h.ok.bF,fT:=h.ok.fT},bel:=a0,fx:=λb f1 f2 f3 f4 f5 f6=>(hq b (by omega) f5 f3).trans (h.fx b f1 f2 f3 f4 f5 f6),cV:=h.cV,bL:=⟨b1,b2,b3,b4,b5,by omega⟩,nd:=h.nd,cR:=(h.cR.block (hq _ (by omega) n3 n1)).congr (λj hj=>(zvz Pb lm vm cm aq r {r with am:=r.am++[x]} m m j rfl rfl rfl rfl hj (λ_ _ _ _ _=>rfl)).symm),cP:=by simpa using b0,nl:=h.nl.block (hq _ (by omega) n8 (Ne.symm n5)),nv:=c0,nc:=h.nc.block (hq _ (by omega) (Ne.symm n10) (Ne.symm n7)),tab:=h.tab,re:={wh:=hr.wh,oc:=hr.oc,tc:=hr.tc,oh:=hr.oh,th:=hr.th,pb:=hr.pb,tb:=hr.tb,fa:=hr.fa,oo:=hr.oo,to:=hr.to,la:=hr.la}}
def Fl.RS.iZ(r:Fl.RS)(x:List UInt8):r.bm x=if 0<=Fl.ai (r.cells++r.am) x then some ((Fl.ai (r.cells++r.am) x).toNat,r) else if r.am.length=4 then none else some (r.cells.length+r.am.length,{r with am:=r.am++[x]}):=by
 unfold Fl.RS.bm;rw[Fl.eW]
 by_cases hc:0<=Fl.ai r.cells x
 ·rw[if_pos hc,if_pos hc,if_pos hc]
 rw[if_neg hc,if_neg hc]
 by_cases hl:0<=Fl.ai r.am x
 ·rw[if_pos hl,if_pos hl,if_pos (by omega)]
  congr 2;omega
 rw[if_neg hl,if_neg hl,if_neg (show ¬(0:Int)<= -1 by omega)]
def ymy(lo base R Pb lm vm cm:Nat)(w0:World)(r:Fl.RS)(aq:Int)(m:Xt)(x:List UInt8)(w:World)(e:Ending)(w':World):Prop:=
 (∃k r',r.bm x=some (k,r')/\e=.returned (Iq (k:Nat))/\Zn lo base R Pb lm vm cm w0 w' r' aq m/\w.heap.size<=w'.heap.size/\∀b,b<w.heap.size->b≠vm->b≠Pb->w'.heap[b]?=w.heap[b]?)\/(r.bm x=none/\e=.panicked (Ze 5 aq)/\zv9 lo base R Pb lm vm cm w0 w')
def yyv(h:Zn lo base R Pb lm vm cm w0 w r aq m)(q0:r.ae=true)(x:List UInt8)(hx:x.length<=100000):
  Cq 142 #[Pq R,.string ⟨x.toArray⟩] w (ymy lo base R Pb lm vm cm w0 r aq m x w):=by
 obtain⟨pl,a0⟩:=nmE (Fl.ai (r.cells++r.am) x);obtain⟨tg,r0⟩:=nmE (r.bm x);have hT:=Fl.RS.iZ r x;rw[<-a0]at hT;have HT:=Zz hT;obtain⟨mx,tb,B0,e0,hmx⟩:=h.nv.io x hx;rw[<-a0]at e0 hmx;have k0:=Zz e0;have s0:=Zz hmx;have t0:=Zz a0;have c41:Cl w R 41 (.map (some vm)):=h.cR.c 41 (by omega);have c0:Cl w R 0 (Pq Pb):=h.cR.c 0 (by omega);have p3:Cl w Pb 3 (Iq r.am.length):=h.cP.c 3 (by omega);have HH:=Zz h;have u0:=h.ok.lo;have C0:=h.ok.ce;have bL:=h.bL;have cV:=h.cV;have D0:=h.nd;clear h hT r0 e0 hmx a0
 cases tb with
 |true=>
  have h0:0<=pl:=(by have:=k0.out;simpa using this);have v0:Hid (mx=(pl.toNat:Int)):=(by show _=_;rw[s0.out];omega)
  go_enter func142,ntmps142
  go_wp2;go_ret;exact .inl ⟨pl.toNat,r,by rw[HT.out,if_pos h0],by rw[<-v0.out];rfl,HH,Nat.le_refl _,λ_ _ _ _=>rfl⟩
 |false=>
  have h0:¬0<=pl:=(by have:=k0.out;simpa using this);have l0:Hid (Cq 61 #[Pq R,.bool false,Iq 5] w λe w'=>e=.panicked (Ze 5 aq)/\Bq w w'):=Yd R 5 aq w (HH.cR.c 1 (by omega));have m0:Hid (Cq 61 #[Pq R,.bool true,Iq 5] w λe w'=>e=.returned (.tuple #[])/\w'=w):=Xc R 5 w
  by_cases h4:r.am.length=4
  ·have f0:Hid (r.bm x=none):=by show _=_;rw[HT.out,if_neg h0,if_pos h4]
   have b4:¬(r.am.length:Int)<4:=(by omega);clear h4
   go_enter func142,ntmps142
   go_wp2_with fail
   try rw[show decide ((r.am.length:Int)<4)=false from decide_eq_false (by omega)]
   refine l0.mono ?_;rintro e w1 ⟨rfl,g0⟩;exact⟨rfl,.inr ⟨f0,rfl,HH.gone g0⟩⟩
  have f0:Hid (r.bm x=some (r.cells.length+r.am.length,{r with am:=r.am++[x]})):=(by show _=_;rw[HT.out,if_neg h0,if_neg h4]);have b4:(r.am.length:Int)<4:=(by omega);obtain⟨W2,i0,n0,b0⟩:=HH.nv.put x hx (by rw[<-t0.out];omega) (by simp;omega);have bj:=HH.nv.len;obtain⟨nn,j0⟩:=nmE ((r.cells++r.am).length);rw[<-j0]at i0 bj;have x0:Hid (nn=r.cells.length+r.am.length):=(by show _=_;rw[j0];simp);have q2:∀k,k<w.heap.size->k≠vm->W2.heap[k]?=w.heap[k]?:=λk hk y0=>b0.block k hk (by simpa using y0);have d0:Cl W2 R 0 (Pq Pb):=(Qc (a:=(Aq R 0)) (q2 R (by omega) (by omega))).trans c0;have d3:Cl W2 Pb 3 (Iq r.am.length):=(Qc (a:=(Aq Pb 3)) (q2 Pb (by omega) (by omega))).trans p3;have dz:∀j,W2.frozen? (Aq Pb j)=false:=λj=>(Qd (a:=(Aq Pb j)) (q2 Pb (by omega) (by omega))).trans (HH.cP.z j);have E0:=b0.size;have HF:Hid (Zn lo base R Pb lm vm cm w0 (W2.setCell (Aq Pb 3) (Iq ((r.am.length:Int)+1))) {r with am:=r.am++[x]} aq m/\w.heap.size<=(W2.setCell (Aq Pb 3) (Iq ((r.am.length:Int)+1))).heap.size/\∀b,b<w.heap.size->b≠vm->b≠Pb->(W2.setCell (Aq Pb 3) (Iq ((r.am.length:Int)+1))).heap[b]?=w.heap[b]?):=by
   have o0:∀b,b<w.heap.size->b≠vm->b≠Pb->(W2.setCell (Aq Pb 3) (Iq ((r.am.length:Int)+1))).heap[b]?=w.heap[b]?:=λb g0 z0 A0=>by rw[Zx _ _ _ _ _ A0];exact q2 b g0 z0
   refine⟨HH.ic q0 x (by omega) (by rw[Zy];omega) o0 ?_ ?_ ?_,by rw[Zy];omega,o0⟩
   ·exact(HH.bel.grown b0 (by have:=HH.bel.size;omega) (λk hk=>by simp only[Option.some.injEq]at hk;omega)).setCell (by show lo<=Pb;omega) _
   ·have hc:=(HH.cP.block (w':=W2) (q2 Pb (by omega) (by omega))).set (j:=3) (by omega) (Iq ((r.am.length:Int)+1))
    refine hc.congr λk hk=>?_;rcases(show k=0\/k=1\/k=2\/k=3\/k=4 by omega) with rfl|rfl|rfl|rfl|rfl<;>rfl
   rw[<-List.append_assoc];exact n0.block (Zx _ _ _ _ _ (by omega))
  clear b0 n0 q2 h4 j0
  go_enter func142,ntmps142
  go_wp2_with fail
  refine m0.mono ?_;rintro e w1 ⟨rfl,p0⟩;rw[p0];clear p0 w1 m0 l0;go_wp2;go_ret;exact .inl ⟨_,_,f0,by rw[<-x0.out];rfl,HF⟩
end
section
variable{r:Fl.RS}{aq:Int}{m:Xt}
def zy1(gs:List GF):Value:=match gs with
 |[]=> .pointer none
 |g::_=> Pq g.ob
def zj7(h:Zn lo base R Pb lm vm cm w0 w r aq m):∃ao cap,m.ov=.slice ao r.fr.length cap/\r.fr.length<=cap/\(0<r.fr.length->∃g,ao=some (Aq g 0)/\base<=g/\g<w.heap.size/\w.cell? (Aq g (r.fr.length - 1))=some (zy1 m.gs)):=by
 have hl:=h.re.fa.len;rcases h.re.oo.2 with⟨h1,h2⟩|⟨g,cap,cur,h1,hb,hg,b0,c0,d0,ht⟩
 ·exact⟨none,0,by rw[h1,h2],by omega,λh0=>by omega⟩
 refine⟨_,cap,h1,by omega,λh0=>⟨g,rfl,hb,(Array.getElem?_eq_some_iff.1 hg).1,?_⟩⟩
 have h4:=h.re.oo.cells (g:=g) (by rw[h1];rfl) (r.fr.length - 1) (zy1 m.gs) (by
  cases a0:m.gs with
  |nil=>rw[a0]at hl;simp at hl;omega
  |cons a l=>
   rw[a0]at hl;simp only[List.map_cons,List.reverse_cons,List.length_cons]at hl⊢;rw[List.getElem?_append_right (by simp;omega)];simp only[List.length_reverse,List.length_map]
   rw[show r.fr.length - 1 - l.length=0 by omega];rfl)
 have h5:((Aq g 0):Addr).add (r.fr.length - 1)=(Aq g (r.fr.length - 1)):=by unfold Addr.add;split<;>simp_all
 rw[h5]at h4;exact h4
def zvy(h:Zn lo base R Pb lm vm cm w0 w r aq m):
  Cq 144 #[Pq R] w λe w'=>e=.returned (zy1 m.gs)/\Bq w w'/\w'.heap=w.heap:=by
 obtain⟨ao,cap,f0,c0,a0⟩:=zj7 h
 have c43:w.cell? (Aq R 43)=some (.slice ao r.fr.length cap):=by rw[<-f0];exact h.cR.c 43 (by omega)
 have hl:=h.re.fa.len;have g0:=h.ok.fr
 by_cases h0:r.fr.length=0
 ·have b0:((r.fr.length:Int)==0)=true:=by rw[h0];rfl
  have HG:Hid (m.gs=[]):=Qi (by omega);clear a0 h0 hl h
  go_enter func144,ntmps144
  go_wp2;go_ret;exact⟨by rw[HG.out];rfl,Below.refl _ _,rfl⟩
 have b0:((r.fr.length:Int)==0)=false:=by rw[Qh];omega
 obtain⟨g,rfl,j0,k0,d0⟩:=a0 (by omega);obtain⟨n,hn⟩:∃n,r.fr.length=n+1:=⟨r.fr.length - 1,by omega⟩;rw[hn]at c43 d0 b0 c0;rw[Nat.add_sub_cancel]at d0;obtain⟨lv,e0⟩:=nmE (zy1 m.gs);rw[<-e0]at d0⊢;have fN:∃q,lv=Pq q:=by
  rw[e0]
  cases i0:m.gs with
  |nil=>rw[i0]at hl;simp at hl;omega
  |cons a l=>exact⟨_,rfl⟩
 obtain⟨q,rfl⟩:=fN
 have l0:(n:Int)<=2:=by omega
 have m0:(0:Int)<=(n:Int):=by omega
 clear h0 hl h f0 e0 hn g0;have n0:n+1<=cap:=c0
 have o0:IntKind.i64.wrap (n:Int)=(n:Int):=by simp[IntKind.wrap,IntKind.signed,IntKind.bits];omega
 have p0:(n:Int)<(n:Int)+1:=by omega
 go_enter func144,ntmps144
 go_wp2_with fail
 refine wp_region_still_lit (by kernel_rfl) (by kernel_rfl) ?_
 iterate 13 still_step
 refine wpStill_nil ?_;go_wp2;go_ret;exact⟨rfl,dA,rfl⟩
end
def Tryz.infoPStmt:(Tryz.prog.info? 156).map (λi=>(i.zero,i.size,i.bytes))=some (some (.pointer none),1,8):=by kernel_rfl
structure zxx(e:TypeId)(lo base:Nat)(w0 W w':World)(sb si:Nat)(av v':Value)(n:Nat)(xs:List Value)(x:Value):Prop where
 own:w'.ownsRow base e 1 v' (n+1) (xs++[x])
 wh:v'.ownBlock=av.ownBlock\/∃g,v'.ownBlock=some g/\W.heap.size<=g
 hz:W.heap.size<=w'.heap.size
 q:∀b,b<W.heap.size->b≠sb->av.ownBlock≠some b->w'.heap[b]?=W.heap[b]?
 cs:∀nn f,Zb W sb nn f->si<nn->Zb w' sb nn (λi=>if i=si then v' else f i)
 bel:Below lo w0 w'
section
variable{r:Fl.RS}{aq:Int}{m:Xt}
def zxx.of{W4:World}{sb si:Nat}{o:Obj}{av:Value}(hb:Below lo w0 W)(d0:lo<=sb)(hlb:lo<=base)(e0:lo<=W.heap.size)(ho:W4.ownsRow base e 1 v' (n+1) (xs++[x]))(hg:(W.alloc o).grownBy W4 av.ownBlock)(hw:v'.ownBlock=av.ownBlock\/v'.ownBlock=some (W.alloc o).heap.size)(b0:∀k,av.ownBlock=some k->base<=k/\k<W.heap.size/\k≠sb)(f0:sb<W.heap.size):
  zxx e lo base w0 W (W4.setCell (Aq sb si) v') sb si av v' n xs x:=by
 have k0:(W.alloc o).heap.size=W.heap.size+1:=by simp
 have l0:=hg.size;have hq:∀b,b<W.heap.size->av.ownBlock≠some b->W4.heap[b]?=W.heap[b]?:=λb c0 g0=>(hg.block b (by omega) (λhh=>g0 hh.symm)).trans (((Below.refl W.heap.size W).alloc (Nat.le_refl _) o).block b c0);have h0:W4.heap[sb]?=W.heap[sb]?:=hq sb f0 (λhh=>(b0 sb hh).2.2 rfl)
 have i0:∀b,v'.ownBlock=some b->b≠sb:=λb a0 he=>by
  rcases hw with hw|hw
  ·exact(b0 b (hw.symm.trans a0)).2.2 he
  rw[hw]at a0;simp only[Option.some.injEq]at a0;omega
 refine⟨Yw ho (λb a0=>Zx _ _ _ _ _ (i0 b a0)),?_,by rw[Zy];omega,λb c0 hb2 hb3=>?_,λnn f hc hsi=>(hc.block h0).set hsi v',?_⟩
 ·rcases hw with hw|hw
  ·exact .inl hw
  exact .inr ⟨_,hw,by omega⟩
 ·rw[Zx _ _ _ _ _ hb2];exact hq b c0 hb3
 have j0:Below lo w0 W4:=(hb.alloc e0 o).grown hg (by omega) (λk hk=>by have:=(b0 k hk).1;omega);exact j0.setCell d0 _
def Zn.aJ(h:Zn lo base R Pb lm vm cm w0 w r aq m)(b j:Nat)(v:Value)(hb:base<=b)(h5:m.aC b=5):Zn lo base R Pb lm vm cm w0 (w.setCell (Aq b j) v) r aq m:=by
 obtain⟨b1,b2,b3,b4,b5,b6⟩:=h.bL;obtain⟨l1,l2,l3,l4,l5⟩:=h.cV;have hz:(w.setCell (Aq b j) v).heap.size=w.heap.size:=Zy _ _ _;have q:∀k,k≠b->(w.setCell (Aq b j) v).heap[k]?=w.heap[k]?:=λk hk=>Zx _ _ _ _ _ hk;exact{ok:=h.ok,bel:=h.bel.setCell (by show lo<=b;omega) _,fx:=λb' f1 f2 f3 f4 f5 f6=>(q b' (by omega)).trans (h.fx b' f1 f2 f3 f4 f5 f6),cV:=h.cV,bL:=⟨b1,b2,b3,b4,b5,by omega⟩,nd:=h.nd,cR:=h.cR.block (q _ (by omega)),cP:=h.cP.block (q _ (by omega)),nl:=h.nl.block (q _ (by omega)),nv:=h.nv.block (q _ (by omega)),nc:=h.nc.block (q _ (by omega)),tab:=h.tab,re:=h.re.kept (by omega) (λk hk=>q k (λhe=>hk (by rw[he];exact h5)))}
def Zn.count(h:Zn lo base R Pb lm vm cm w0 w r aq m)(hb:r.ae=true)(hs:r.ap<16):Zn lo base R Pb lm vm cm w0 (w.setCell (Aq R 44) (Iq ((r.ap:Int)+1))) {r with ap:=r.ap+1} aq m:=by
 obtain⟨b1,b2,b3,b4,b5,b6⟩:=h.bL;obtain⟨l1,l2,l3,l4,l5⟩:=h.cV;obtain⟨n1,n2,n3,n4,n5,n6,n7,n8,n9,n10⟩:=h.nd;have hz:(w.setCell (Aq R 44) (Iq ((r.ap:Int)+1))).heap.size=w.heap.size:=Zy _ _ _;have q:∀k,k≠R->(w.setCell (Aq R 44) (Iq ((r.ap:Int)+1))).heap[k]?=w.heap[k]?:=λk hk=>Zx _ _ _ _ _ hk;have hr:=h.re.kept (w':=w.setCell (Aq R 44) (Iq ((r.ap:Int)+1))) (by omega) (λk hk=>q k (by have:=h.re.wh k hk;omega))
 exact{
     ok:={cn:=h.ok.cn.mono (by show r.ap<=r.ap+1;omega),lv:=h.ok.lv,ce:=h.ok.ce,ch:=h.ok.ch,lo:=h.ok.lo,st:=(by show r.ap+1<=16;omega),fr:=h.ok.fr,cl:=h.ok.cl,hl:=h.ok.hl,cD:=h.ok.cD,dy:=h.ok.dy,head:=λhh=>(by rw[show ({r with ap:=r.ap+1}:Fl.RS).ae=r.ae from rfl,hb]at hh;cases hh),below:=h.ok.below,bD:=h.ok.bD,bF:=h.ok.bF,fT:=h.ok.fT},bel:=h.bel.setCell (by show lo<=R;omega) _,fx:=λb f1 f2 f3 f4 f5 f6=>(q b f2).trans (h.fx b f1 f2 f3 f4 f5 f6),cV:=h.cV,bL:=⟨b1,b2,b3,b4,b5,by omega⟩,nd:=h.nd,cR:=(h.cR.set (j:=44) (by omega) (Iq ((r.ap:Int)+1))).congr (λj hj=>by
      by_cases h4:j=44
      ·subst h4;rfl
      rw[if_neg h4];unfold Vq
      by_cases hs:j=0\/j=1\/j=2\/j=3\/j=40\/j=41\/j=42\/j=43
      ·rcases hs with rfl|rfl|rfl|rfl|rfl|rfl|rfl|rfl<;>rfl
      rw[if_neg (show ¬j=0 by omega),if_neg (show ¬j=1 by omega),if_neg (show ¬j=2 by omega),if_neg (show ¬j=3 by omega),if_neg (show ¬j=40 by omega),if_neg (show ¬j=41 by omega),if_neg (show ¬j=42 by omega),if_neg (show ¬j=43 by omega),if_neg h4]
      rw[if_neg (show ¬j=0 by omega),if_neg (show ¬j=1 by omega),if_neg (show ¬j=2 by omega),if_neg (show ¬j=3 by omega),if_neg (show ¬j=40 by omega),if_neg (show ¬j=41 by omega),if_neg (show ¬j=42 by omega),if_neg (show ¬j=43 by omega),if_neg h4]),cP:=h.cP.block (q _ (Ne.symm n1)),nl:=h.nl.block (q _ (Ne.symm n2)),nv:=h.nv.block (q _ (Ne.symm n3)),nc:=h.nc.block (q _ (Ne.symm n4)),tab:=h.tab,re:={wh:=hr.wh,oc:=hr.oc,tc:=hr.tc,oh:=hr.oh,th:=hr.th,pb:=hr.pb,tb:=hr.tb,fa:=hr.fa,oo:=hr.oo,to:=hr.to,la:=hr.la}}
def Jq(Pb:Nat):List GF->Nat
 |[]=>Pb
 |g::_=>g.sb
def zq3:List Fl.aB->Nat
 |[]=>4
 |f::_=>if f.cI then 5 else 4
def zy9(bv:Value):List Fl.aB->List GF->Value
 |f::_,g::_=>g.act f
 |_,_=>bv
def yx0{ts:List Fl.aa}{tl:List Value}(h:Yn d S base W v ts tl):∃xs,W.ownsRow base 156 1 v (ts.length+tl.length) xs:=by
 obtain⟨ps,h1,h2,_⟩:=h;exact⟨_,by rw[<-h2];exact h1⟩
def Jl(h:W.ownsRow base e 1 v n xs):∃ao cap,v=.slice ao n cap:=by
 rcases h.2 with⟨h1,h2⟩|⟨g,cp,cur,h1,_⟩
 ·exact⟨none,0,by rw[h1,h2]⟩
 exact⟨_,cp,h1⟩
def act_at(h:Zn lo base R Pb lm vm cm w0 w r aq m):∃n xs ao cap,zy9 m.bv r.fr m.gs=.slice ao n cap/\n<=16/\w.ownsRow base 156 1 (zy9 m.bv r.fr m.gs) n xs/\w.cell? (Aq (Jq Pb m.gs) (zq3 r.fr))=some (zy9 m.bv r.fr m.gs)/\(∀j,w.frozen? (Aq (Jq Pb m.gs) j)=false)/\Jq Pb m.gs<w.heap.size/\lo<=Jq Pb m.gs/\(∀k,(zy9 m.bv r.fr m.gs).ownBlock=some k->base<=k/\k<w.heap.size/\k≠Jq Pb m.gs)/\
  ((m.gs=[]/\r.fr=[])\/∃f fs g gs,r.fr=f::fs/\m.gs=g::gs/\w.cell? (Aq g.ob 0)=some (Pq g.sb)/\w.cell? (Aq g.ob 1)=some (.bool f.cI)):=by
 have hl:=h.re.fa.len;have bL:=h.bL;have cV:=h.cV;have cG:=h.ok.st;have d0:=h.ok.cn
 cases b0:m.gs with
 |nil=>
  have a0:r.fr=[]:=(by rw[b0]at hl;simp at hl;exact Qi hl.symm);have hp:=h.re.pb;rw[b0]at hp;obtain⟨xs,hx⟩:=yx0 hp;obtain⟨ao,cap,hs⟩:=Jl hx;rw[a0];simp only[Va,List.length_nil,Nat.add_zero]at hx hs;refine⟨_,xs,ao,cap,hs,?_,hx,h.cP.c 4 (by omega),h.cP.z,by show Pb<_;omega,by show lo<=Pb;omega,λk hk=>?_,.inl ⟨rfl,rfl⟩⟩
  ·have:=d0.1;omega
  have:=hx.lt k hk;exact⟨this.1,this.2,by show k≠Pb;omega⟩
 |cons g gs=>
  cases a0:r.fr with
  |nil=>rw[b0,a0]at hl;simp at hl
  |cons f fs=>
   have e0:=h.re.fa;rw[b0,a0]at e0;obtain⟨hf,_⟩:=e0;obtain⟨xs,hx⟩:=yx0 hf.pa;obtain⟨ao,cap,hs⟩:=Jl hx;simp only[List.length_nil,Nat.add_zero]at hx hs;have c0:=d0.2;rw[a0]at c0;have f0:=h.re.wh g.sb (by rw[hf.ts];omega);refine⟨_,xs,ao,cap,hs,?_,hx,?_,hf.cs.z,f0.2,by show lo<=g.sb;omega,λk hk=>?_,.inr ⟨f,fs,g,gs,rfl,rfl,hf.co.c 0 (by omega),hf.co.c 1 (by omega)⟩⟩
   ·have h1:=c0.1;have h2:=c0.2.1
    split<;>rename_i hh<;>simp[hh]at h1 h2<;>omega
   ·show w.cell? (Aq g.sb (if f.cI then 5 else 4))=some (g.act f)
    unfold GF.act
    cases hh:f.cI
    ·exact hf.cs.c 4 (by omega)
    exact hf.cs.c 5 (by omega)
   have:=hx.lt k hk;refine⟨this.1,this.2,λhe=>?_⟩;have h1:=hf.ta k hk;have he':k=g.sb:=he;rw[he',hf.ts]at h1;omega
def zx3(lo base R Pb lm vm cm:Nat)(w0:World)(r:Fl.RS)(aq:Int)(m:Xt)(sn:Nat)(kind x:Int)(vp:Value)(w:World)(e:Ending)(w':World):Prop:=
 (16<=r.ap/\e=.panicked (Ze 5 aq)/\zv9 lo base R Pb lm vm cm w0 w')\/(r.ap<16/\e=.returned (.tuple #[])/\∃W2,Zn lo base R Pb lm vm cm w0 W2 {r with ap:=r.ap+1} aq m/\W2.heap.size=w.heap.size/\(∀b,b≠R->b≠sn->W2.heap[b]?=w.heap[b]?)/\
  Zb W2 sn 6 (rw_ [Iq kind,Iq aq,Iq x,vp,Zq,Zq])/\∃n xs v',W2.ownsRow base 156 1 (zy9 m.bv r.fr m.gs) n xs/\zxx 156 lo base w0 W2 w' (Jq Pb m.gs) (zq3 r.fr) (zy9 m.bv r.fr m.gs) v' n xs (ptr sn))
def yx1(h:Zn lo base R Pb lm vm cm w0 w r aq m)(e1:r.ae=true)(sn:Nat)(kind x:Int)(vp:Value)(f1:base<=sn)(g1:m.aC sn=5)(cF:sn<w.heap.size)(Q0:Zb w sn 6 (rw_ [Iq kind,Iq 0,Iq x,vp,Zq,Zq])):
  Cq 141 #[Pq R,Pq sn] w (zx3 lo base R Pb lm vm cm w0 r aq m sn kind x vp w):=by
 have cG:=h.ok.st;have c44:Cl w R 44 (Iq r.ap):=h.cR.c 44 (by omega);have zR:=h.cR.z;have bL:=h.bL;have cV:=h.cV;have HH:=Zz h;have R0:Hid (Cq 61 #[Pq R,.bool false,Iq 5] w λe w'=>e=.panicked (Ze 5 aq)/\Bq w w'):=Yd R 5 aq w (h.cR.c 1 (by omega));have S0:Hid (Cq 61 #[Pq R,.bool true,Iq 5] w λe w'=>e=.returned (.tuple #[])/\w'=w):=Xc R 5 w;have H0:=Zz Q0;clear h Q0
 by_cases i1:16<=r.ap
 ·have b16:¬(r.ap:Int)<16:=by omega
  go_enter func141,ntmps141
  go_wp2_with fail
  try rw[show decide ((r.ap:Int)<16)=false from decide_eq_false (by omega)]
  refine R0.mono ?_;rintro e w1 ⟨rfl,j1⟩;exact⟨rfl,.inl ⟨i1,rfl,HH.gone j1⟩⟩
 have b16:(r.ap:Int)<16:=by omega
 have k1:R≠sn:=by omega
 obtain⟨W1,o0⟩:=nmE (w.setCell (Aq R 44) (Iq ((r.ap:Int)+1)));obtain⟨W2,q0⟩:=nmE (W1.setCell (Aq sn 1) (Iq aq))
 have H1:Zn lo base R Pb lm vm cm w0 W1 {r with ap:=r.ap+1} aq m:=by rw[o0];exact HH.count e1 (by omega)
 have H2:Zn lo base R Pb lm vm cm w0 W2 {r with ap:=r.ap+1} aq m:=by rw[q0];exact H1.aJ sn 1 _ f1 g1
 have I0:Zb W1 sn 6 (rw_ [Iq kind,Iq 0,Iq x,vp,Zq,Zq]):=by rw[o0];exact H0.block (Zx _ _ _ _ _ (Ne.symm k1))
 have T0:Hid (Zb W2 sn 6 (rw_ [Iq kind,Iq aq,Iq x,vp,Zq,Zq])):=by
  rw[q0];refine(I0.set (j:=1) (by omega) (Iq aq)).congr λk hk=>?_;rcases(show k=0\/k=1\/k=2\/k=3\/k=4\/k=5 by omega) with rfl|rfl|rfl|rfl|rfl|rfl<;>rfl
 have U0:=Zz H2
 have V0:Hid (W2.heap.size=w.heap.size):=by show _=_;rw[q0,Zy,o0,Zy]
 have W0:Hid (∀b,b≠R->b≠sn->W2.heap[b]?=w.heap[b]?):=λb h1 h2=>by rw[q0,Zx _ _ _ _ _ h2,o0,Zx _ _ _ _ _ h1]
 have d1:(w.setCell (Aq R 44) (Iq ((r.ap:Int)+1))).cell? (Aq R 1)=some (Iq aq):=by rw[<-o0];exact H1.cR.c 1 (by omega)
 have s1:(w.setCell (Aq R 44) (Iq ((r.ap:Int)+1))).cell? (Aq sn 1)=some (Iq 0):=by rw[<-o0];exact I0.c 1 (by omega)
 have sz1:∀j,w.frozen? (Aq sn j)=false:=H0.z
 have e0:((w.setCell (Aq R 44) (Iq ((r.ap:Int)+1))).setCell (Aq sn 1) (Iq aq)).cell? (Aq R 0)=some (Pq Pb):=by rw[<-o0,<-q0];exact H2.cR.c 0 (by omega)
 have X0:Hid (W2=(w.setCell (Aq R 44) (Iq ((r.ap:Int)+1))).setCell (Aq sn 1) (Iq aq)):=by show _=_;rw[q0,o0]
 have Y0:Hid (Cq 144 #[Pq R] W2 λe w'=>e=.returned (zy1 m.gs)/\Bq W2 w'/\w'.heap=W2.heap):=zvy H2;clear H1 H2 I0 o0 q0
 go_enter func141,ntmps141
 go_wp2_with fail
 refine S0.mono ?_;rintro e w1 ⟨rfl,Z0⟩;rw[Z0];clear Z0 w1 S0 R0
 go_wp2_with fail
 rw[<-X0.out];refine Y0.mono ?_;rintro e W3 ⟨rfl,a1,E0⟩;have F0:Hid (Zn lo base R Pb lm vm cm w0 W3 {r with ap:=r.ap+1} aq m):=U0.below a1;have l1:Hid (Zb W3 sn 6 (rw_ [Iq kind,Iq aq,Iq x,vp,Zq,Zq])):=T0.block (by rw[E0])
 have m1:Hid (W3.heap.size=w.heap.size):=by show _=_;rw[E0];exact V0
 have n1:Hid (∀b,b≠R->b≠sn->W3.heap[b]?=w.heap[b]?):=λb h1 h2=>by rw[E0];exact W0 b h1 h2
 clear a1 E0 U0 T0 V0 W0 Y0 X0 d1 s1 sz1 e0 c44 zR H0;obtain⟨n,xs,ao,cap,b1,o1,x0,p0,s0,f0,y0,z0,A0⟩:=act_at F0.out;have B0:=Zz b1
 have g0:Hid (W3.ownsRow base 156 1 (.slice ao n cap) n xs):=by show World.ownsRow _ _ _ _ _ _ _;rw[<-B0.out];exact x0
 have h0:Hid (∀k,(Value.slice ao n cap).ownBlock=some k->base<=k/\k<W3.heap.size/\k≠Jq Pb m.gs):=by rw[<-B0.out];exact z0
 have J0:=Zz F0.bel
 have hcell':W3.cell? (Aq (Jq Pb m.gs) (zq3 r.fr))=some (.slice ao n cap):=by rw[<-B0.out];exact p0
 have K0:base<=W3.heap.size:=F0.bL.2.2.2.2.2
 have j0:Hid (∀(W4:World) (v':Value) (o:Obj),W4.ownsRow base 156 1 v' (n+1) (xs++[ptr sn])->(W3.alloc o).grownBy W4 (Value.slice ao n cap).ownBlock->(v'.ownBlock=(Value.slice ao n cap).ownBlock\/v'.ownBlock=some (W3.alloc o).heap.size)->
   zx3 lo base R Pb lm vm cm w0 r aq m sn kind x vp w (.returned (.tuple #[])) (W4.setCell (Aq (Jq Pb m.gs) (zq3 r.fr)) v')):=λW4 v' o h1 h2 h3=>
  .inr ⟨by omega,rfl,W3,F0,m1,n1,l1,n,xs,v',by rw[B0.out];exact g0.out,by rw[B0.out];exact zxx.of J0 y0 (by omega) (by omega) h1 h2 h3 h0 f0⟩
 have t0:∀i u,([Pq sn]:List Value)[i]?=some u->(W3.alloc (.cells #[Pq sn] 156)).cell? (((Aq W3.heap.size 0):Addr).add i)=some u:=Xv;obtain⟨i0,L0,M0,N0,O0⟩:=info_parts Tryz.infoPStmt;clear b1 x0 p0 z0 y0;rcases A0 with⟨P0,c1⟩|⟨f,fs,g,gs,G0,u0,co0,co1⟩
 ·have hL:zy1 m.gs=.pointer none:=by rw[P0];rfl
  have c0:Jq Pb m.gs=Pb:=(by rw[P0];rfl);have k0:zq3 r.fr=4:=(by rw[c1];rfl);have c4:W3.cell? (Aq Pb 4)=some (.slice ao n cap):=(by rw[<-c0,<-k0];exact hcell')
  have hfz':∀j,W3.frozen? (Aq Pb j)=false:=λj=>by rw[<-c0];exact s0 j
  have b0:Hid (∀(W4:World) (v':Value) (o:Obj),W4.ownsRow base 156 1 v' (n+1) (xs++[ptr sn])->(W3.alloc o).grownBy W4 (Value.slice ao n cap).ownBlock->(v'.ownBlock=(Value.slice ao n cap).ownBlock\/v'.ownBlock=some (W3.alloc o).heap.size)->
   zx3 lo base R Pb lm vm cm w0 r aq m sn kind x vp w (.returned (.tuple #[])) (W4.setCell (Aq Pb 4) v')):=by
   intro W4 v' o h1 h2 h3;have:=j0 W4 v' o h1 h2 h3;rw[c0,k0]at this;exact this
  have r0:Pb<W3.heap.size:=(by rw[<-c0];exact f0);have n0:Hid (∀k,(Value.slice ao n cap).ownBlock=some k->base<=k/\k<W3.heap.size/\k≠Pb):=(by rw[<-c0];exact h0);rw[hL];clear hL c0 k0 P0 c1 hcell' s0 f0 j0 h0
  go_wp2_with (at_builtin;refine Zj _ rfl (.tmp 56) (.tmp 58) 89 rfl base 156 i0 (.pointer none) 1 8 underlying89 L0 M0 N0 O0 rfl (by decide) _ _ _ rfl (g0.alloc _) (Aq _ 0) 1 1 [Pq sn] rfl rfl (by decide) t0 ?c2 ?c3 ?c4 ?c5 ?_)
  case c2=>intro u hu;simp at hu;subst hu;rfl
  case c3=>unfold maxLen;omega
  case c4=>omega
  case c5=>simp;omega
  intro v' W4 a0 l0 d0;obtain⟨va,vcap,rfl⟩:=Jl a0;have m0:W4.heap[Pb]?=W3.heap[Pb]?:=(l0.block Pb (by simp;omega) (λhh=>(n0 Pb hh.symm).2.2 rfl)).trans (((Below.refl W3.heap.size W3).alloc (Nat.le_refl _) _).block Pb r0);have g4:Cl W4 Pb 4 (.slice ao n cap):=(Qc (a:=(Aq Pb 4)) m0).trans c4;have gz:∀j,W4.frozen? (Aq Pb j)=false:=λj=>(Qd (a:=(Aq Pb j)) m0).trans (hfz' j);have HE:Hid (zx3 lo base R Pb lm vm cm w0 r aq m sn kind x vp w (.returned (.tuple #[])) (W4.setCell (Aq Pb 4) (.slice va (n+1) vcap))):=b0 W4 _ _ a0 l0 (by rw[World.size_alloc];exact d0);clear a0 l0 d0 m0 b0 g0 n0;go_wp2
  go_end0
  exact HE
 cases v0:f.cI with
 |false=>
  have hL:zy1 m.gs=Pq g.ob:=(by rw[u0];rfl);have c0:Jq Pb m.gs=g.sb:=(by rw[u0];rfl);have k0:zq3 r.fr=4:=(by rw[G0];show (if f.cI then 5 else 4)=4;rw[v0];rfl);have c4:W3.cell? (Aq g.sb 4)=some (.slice ao n cap):=(by rw[<-c0,<-k0];exact hcell')
  have hfz':∀j,W3.frozen? (Aq g.sb j)=false:=λj=>by rw[<-c0];exact s0 j
  have n0:Hid (∀k,(Value.slice ao n cap).ownBlock=some k->base<=k/\k<W3.heap.size/\k≠g.sb):=(by rw[<-c0];exact h0)
  have b0:Hid (∀(W4:World) (v':Value) (o:Obj),W4.ownsRow base 156 1 v' (n+1) (xs++[ptr sn])->(W3.alloc o).grownBy W4 (Value.slice ao n cap).ownBlock->(v'.ownBlock=(Value.slice ao n cap).ownBlock\/v'.ownBlock=some (W3.alloc o).heap.size)->
  zx3 lo base R Pb lm vm cm w0 r aq m sn kind x vp w (.returned (.tuple #[])) (W4.setCell (Aq g.sb 4) v')):=by
   intro W4 v' o h1 h2 h3;have:=j0 W4 v' o h1 h2 h3;rw[c0,k0]at this;exact this
  have r0:g.sb<W3.heap.size:=(by rw[<-c0];exact f0);rw[v0]at co1;rw[hL];obtain⟨gb,C0⟩:=nmE (g.sb);obtain⟨go,D0⟩:=nmE (g.ob);rw[<-C0]at co0 c4 hfz' n0 b0 r0;rw[<-D0]at co0 co1⊢;clear hL c0 k0 u0 G0 hcell' s0 f0 j0 h0 v0 C0 D0
  go_wp2_with (at_builtin;refine Zj _ rfl (.tmp 56) (.tmp 58) 89 rfl base 156 i0 (.pointer none) 1 8 underlying89 L0 M0 N0 O0 rfl (by decide) _ _ _ rfl (g0.alloc _) (Aq _ 0) 1 1 [Pq sn] rfl rfl (by decide) t0 ?c2 ?c3 ?c4 ?c5 ?_)
  case c2=>intro u hu;simp at hu;subst hu;rfl
  case c3=>unfold maxLen;omega
  case c4=>omega
  case c5=>simp;omega
  intro v' W4 a0 l0 d0;obtain⟨va,vcap,rfl⟩:=Jl a0;have m0:W4.heap[gb]?=W3.heap[gb]?:=(l0.block gb (by simp;omega) (λhh=>(n0 gb hh.symm).2.2 rfl)).trans (((Below.refl W3.heap.size W3).alloc (Nat.le_refl _) _).block gb r0);have g4:Cl W4 gb 4 (.slice ao n cap):=(Qc (a:=(Aq gb 4)) m0).trans c4;have gz:∀j,W4.frozen? (Aq gb j)=false:=λj=>(Qd (a:=(Aq gb j)) m0).trans (hfz' j);have HE:Hid (zx3 lo base R Pb lm vm cm w0 r aq m sn kind x vp w (.returned (.tuple #[])) (W4.setCell (Aq gb 4) (.slice va (n+1) vcap))):=b0 W4 _ _ a0 l0 (by rw[World.size_alloc];exact d0);clear a0 l0 d0 m0 b0 g0 n0;go_wp2
  go_end0
  exact HE
 |true=>
  have hL:zy1 m.gs=Pq g.ob:=(by rw[u0];rfl);have c0:Jq Pb m.gs=g.sb:=(by rw[u0];rfl);have k0:zq3 r.fr=5:=(by rw[G0];show (if f.cI then 5 else 4)=5;rw[v0];rfl);have c4:W3.cell? (Aq g.sb 5)=some (.slice ao n cap):=(by rw[<-c0,<-k0];exact hcell')
  have hfz':∀j,W3.frozen? (Aq g.sb j)=false:=λj=>by rw[<-c0];exact s0 j
  have n0:Hid (∀k,(Value.slice ao n cap).ownBlock=some k->base<=k/\k<W3.heap.size/\k≠g.sb):=(by rw[<-c0];exact h0)
  have b0:Hid (∀(W4:World) (v':Value) (o:Obj),W4.ownsRow base 156 1 v' (n+1) (xs++[ptr sn])->(W3.alloc o).grownBy W4 (Value.slice ao n cap).ownBlock->(v'.ownBlock=(Value.slice ao n cap).ownBlock\/v'.ownBlock=some (W3.alloc o).heap.size)->
  zx3 lo base R Pb lm vm cm w0 r aq m sn kind x vp w (.returned (.tuple #[])) (W4.setCell (Aq g.sb 5) v')):=by
   intro W4 v' o h1 h2 h3;have:=j0 W4 v' o h1 h2 h3;rw[c0,k0]at this;exact this
  have r0:g.sb<W3.heap.size:=(by rw[<-c0];exact f0);rw[v0]at co1;rw[hL];obtain⟨gb,C0⟩:=nmE (g.sb);obtain⟨go,D0⟩:=nmE (g.ob);rw[<-C0]at co0 c4 hfz' n0 b0 r0;rw[<-D0]at co0 co1⊢;clear hL c0 k0 u0 G0 hcell' s0 f0 j0 h0 v0 C0 D0
  go_wp2_with (at_builtin;refine Zj _ rfl (.tmp 56) (.tmp 58) 89 rfl base 156 i0 (.pointer none) 1 8 underlying89 L0 M0 N0 O0 rfl (by decide) _ _ _ rfl (g0.alloc _) (Aq _ 0) 1 1 [Pq sn] rfl rfl (by decide) t0 ?c2 ?c3 ?c4 ?c5 ?_)
  case c2=>intro u hu;simp at hu;subst hu;rfl
  case c3=>unfold maxLen;omega
  case c4=>omega
  case c5=>simp;omega
  intro v' W4 a0 l0 d0;obtain⟨va,vcap,rfl⟩:=Jl a0;have m0:W4.heap[gb]?=W3.heap[gb]?:=(l0.block gb (by simp;omega) (λhh=>(n0 gb hh.symm).2.2 rfl)).trans (((Below.refl W3.heap.size W3).alloc (Nat.le_refl _) _).block gb r0);have g4:Cl W4 gb 5 (.slice ao n cap):=(Qc (a:=(Aq gb 5)) m0).trans c4;have gz:∀j,W4.frozen? (Aq gb j)=false:=λj=>(Qd (a:=(Aq gb j)) m0).trans (hfz' j);have HE:Hid (zx3 lo base R Pb lm vm cm w0 r aq m sn kind x vp w (.returned (.tuple #[])) (W4.setCell (Aq gb 5) (.slice va (n+1) vcap))):=b0 W4 _ _ a0 l0 (by rw[World.size_alloc];exact d0);clear a0 l0 d0 m0 b0 g0 n0;go_wp2
  go_end0
  exact HE
end
section
variable{r:Fl.RS}{aq:Int}{m:Xt}
structure LowAt(base:Nat)(w':World)(r:Fl.RS)(m:Xt)(who':Nat->Nat):Prop where
 oc:w'.ownsRow base 3 1 m.bD r.aZ.length (Yi r.aZ)/\∀b,m.bD.ownBlock=some b->who' b=3
 oh:w'.ownsRow base 3 1 m.bF r.aY.length (Yi r.aY)/\∀b,m.bF.ownBlock=some b->who' b=4
 pb:Yn 3 (λb=>who' b=0) base w' m.bv r.bC (Va m.gs)/\∀b,m.bv.ownBlock=some b->who' b=1
 oo:w'.ownsRow base 250 1 m.ov r.fr.length ((m.gs.map λg=>ptr g.ob).reverse)/\∀b,m.ov.ownBlock=some b->who' b=2
 la:r.ae=true->∃Lb,m.pl=ptr Lb/\who' Lb=0/\Ur w' Lb r.au.length r.tab
def zu8.aM(h:zu8 base w r m)(who':Nat->Nat)(q:∀b,m.aC b<5->who' b=m.aC b/\w'.heap[b]?=w.heap[b]?):LowAt base w' r m who':=by
 have qq:∀(v:Value) (T:Nat),T<5->(∀b,v.ownBlock=some b->m.aC b=T)->∀b,v.ownBlock=some b->who' b=T/\w'.heap[b]?=w.heap[b]?:=λv T hT hv b hb=>by
  have:=q b (by rw[hv b hb];exact hT);rw[hv b hb]at this;exact this
 have q0:∀b,m.aC b=0->who' b=0/\w'.heap[b]?=w.heap[b]?:=λb hb=>by have:=q b (by rw[hb];decide);rw[hb]at this;exact this
 refine{oc:= ?_,oh:= ?_,pb:= ?_,oo:= ?_,la:=λhg=>?_}
 ·have q3:=qq m.bD 3 (by decide) h.tc;exact⟨Yw h.oc (λb hv=>(q3 b hv).2),λb hb=>(q3 b hb).1⟩
 ·have q3:=qq m.bF 4 (by decide) h.th;exact⟨Yw h.oh (λb hv=>(q3 b hv).2),λb hb=>(q3 b hb).1⟩
 ·have q3:=qq m.bv 1 (by decide) h.tb
  exact⟨h.pb.kept (λb hb=>(q0 b hb).1) (λb hb=>(q0 b hb).2) (λb hv=>(q3 b hv).2),λb hb=>(q3 b hb).1⟩
 ·have q3:=qq m.ov 2 (by decide) h.to;exact⟨Yw h.oo (λb hv=>(q3 b hv).2),λb hb=>(q3 b hb).1⟩
 obtain⟨Lb,l1,l2,l3⟩:=h.la hg;exact⟨Lb,l1,(q0 Lb l2).1,l3.block (q0 Lb l2).2⟩
def zg4{n':Nat}{ys:List Value}(h:W.ownsRow base e 1 v n xs)(k:W.ownsRow base e 1 v n' ys):n=n'/\xs=ys:=by
 have hx:xs.length=n:=by simpa using h.1
 have hy:ys.length=n':=by simpa using k.1
 obtain⟨ao,cap,hs⟩:=Jl h;obtain⟨ao',cap',hs'⟩:=Jl k;rw[hs]at hs';simp only[Value.slice.injEq]at hs';obtain⟨_,rfl,_⟩:=hs';refine⟨rfl,?_⟩;rcases h.2 with⟨h1,h2⟩|⟨g,cp,cur,h1,_⟩
 ·rw[Qi (by omega:xs.length=0),Qi (by omega:ys.length=0)]
 apply List.ext_getElem? 
 intro i
 by_cases hi:i<n
 ·have a1:=h.cells (g:=g) (by rw[h1];rfl) i (xs[i]'(by omega)) (Qb _)
  have a2:=k.cells (g:=g) (by rw[h1];rfl) i (ys[i]'(by omega)) (Qb _);rw[a1]at a2;rw[Qb (by omega),Qb (by omega)];exact a2
 rw[List.getElem?_eq_none (by omega),List.getElem?_eq_none (by omega)]
def Yn.snoc{S':Nat->Prop}{ts:List Fl.aa}{s:Fl.aa}{p:Value}(h:Yn d S base W v ts [])(ho:W.ownsRow base 156 1 v n xs)(ho':w'.ownsRow base 156 1 v' (n+1) (xs++[p]))(hS:∀b,S b->S' b)(hw:∀b,S b->w'.heap[b]?=W.heap[b]?)(hp:zz6 (Zh d) S' w' p s):Yn d S' base w' v' (ts++[s]) []:=by
 obtain⟨ps,h1,h2,h3⟩:=h;simp only[List.append_nil,List.length_nil,Nat.add_zero]at h1;obtain⟨rfl,rfl⟩:=zg4 h1 ho;refine⟨ps++[p],by simpa using ho',by simp[h2],λi hi=>?_⟩
 by_cases a0:i<ts.length
 ·have:=(h3 i a0).kept (λv l h=>Zh.kept hS hw d v l h) hS hw
  rw[Qa,List.getElem?_append_left (by omega),Qa,List.getElem?_append_left a0];rw[Qa,Qa]at this;exact this
 have b0:i=ts.length:=by simp at hi;omega
 subst b0;rw[Qa,List.getElem?_append_right (by omega),Qa,List.getElem?_append_right (by omega)];rw[h2];simpa using hp
def Up(aC:Nat->Nat)(z1 z2 T:Nat)(v':Value):Nat->Nat:=λb=>if z1<=b/\b<z2 then 0 else if v'.ownBlock=some b then T else aC b
def zg5(hI:∀b,aC b≠5->b<z1)(hT:T≠5)(hv:∀b,v.ownBlock=some b->aC b=T)(hz:z1<=z2)(hw:v'.ownBlock=v.ownBlock\/∃g,v'.ownBlock=some g/\z2<=g)(b:Nat)(h5:aC b≠5):Up aC z1 z2 T v' b=aC b:=by
 have h1:=hI b h5;unfold Up;rw[if_neg (by omega)]
 by_cases hb:v'.ownBlock=some b
 ·rw[if_pos hb]
  rcases hw with hw|⟨g,hg,a0⟩
  ·exact(hv b (hw.symm.trans hb)).symm
  rw[hg]at hb;simp only[Option.some.injEq]at hb;omega
 rw[if_neg hb]
def zg6(hI:∀b,aC b≠5->b<z1)(hT:T≠5)(hv:∀b,v.ownBlock=some b->aC b=T)(hw:v'.ownBlock=v.ownBlock\/∃g,v'.ownBlock=some g/\z2<=g)(b:Nat)(hb:v'.ownBlock=some b):Up aC z1 z2 T v' b=T:=by
 unfold Up;rw[if_neg,if_pos hb];rintro⟨h1,h2⟩;rcases hw with hw|⟨g,hg,a0⟩
 ·have:=hI b (by rw[hv b (hw.symm.trans hb)];exact hT);omega
 rw[hg]at hb;simp only[Option.some.injEq]at hb;omega
def zg7(aC:Nat->Nat)(z1 z2 T:Nat)(v':Value)(b:Nat)(h1:z1<=b)(h2:b<z2):Up aC z1 z2 T v' b=0:=if_pos ⟨h1,h2⟩
def zdx{z3:Nat}(hI:∀b,aC b≠5->base<=b/\b<z2)(b0:base<=z1)(hz:z2<=z3)(a0:∀b,v'.ownBlock=some b->base<=b/\b<z3)(b:Nat)(h:Up aC z1 z2 T v' b≠5):base<=b/\b<z3:=by
 unfold Up at h
 by_cases h1:z1<=b/\b<z2
 ·omega
 rw[if_neg h1]at h
 by_cases h2:v'.ownBlock=some b
 ·exact a0 b h2
 rw[if_neg h2]at h;have:=hI b h;omega
end
section
variable{r:Fl.RS}{aq:Int}{m:Xt}
def zo4(h:Zn lo base R Pb lm vm cm w0 W r aq m)(G:zxx 156 lo base w0 W w' (Jq Pb m.gs) (zq3 r.fr) (zy9 m.bv r.fr m.gs) v' n xs x)(ho:W.ownsRow base 156 1 (zy9 m.bv r.fr m.gs) n xs):∀b,b<base->b≠Jq Pb m.gs->w'.heap[b]?=W.heap[b]?:=λb hb a0=>
 G.q b (by have:=h.bL;omega) a0 (λhv=>by have:=(ho.lt b hv).1;omega)
def Zn.oW(h:Zn lo base R Pb lm vm cm w0 W {r with ap:=r.ap+1} aq m)(hb:r.ae=true){sn kind x ln:Nat}{vp:Value}{e:Fl.dd}(hI:∀b,m.aC b≠5->b<z1)(y0:base<=z1)(p0:z1<=sn/\sn<W.heap.size)(E0:aq=(ln:Int))(cG:zl6 r.ap r.fr r.bC.length)
  (hc:Zb W sn 6 (rw_ [Iq kind,Iq aq,Iq x,vp,Zq,Zq])) (hv:zxz (λb=>z1<=b/\b<W.heap.size) W vp e) (ho:W.ownsRow base 156 1 (zy9 m.bv r.fr m.gs) n xs) (G:zxx 156 lo base w0 W w' (Jq Pb m.gs) (zq3 r.fr) (zy9 m.bv r.fr m.gs) v' n xs (ptr sn)):
  ∃m',Zn lo base R Pb lm vm cm w0 w' (r.put ⟨kind,x,ln,e,[],[]⟩) aq m':=by
 obtain⟨b1,b2,b3,b4,b5,b6⟩:=h.bL;obtain⟨n1,n2,n3,n4,n5,n6,n7,n8,n9,n10⟩:=h.nd;have hl:=h.re.fa.len;have hz:=G.hz;have a0:=zo4 (r:={r with ap:=r.ap+1}) h G ho
 have z0:∀b,z1<=b->m.aC b=5:=λb hb'=>Classical.byContradiction λhne=>by have:=hI b hne;omega
 have F0:=h.ok.st
 -- the new statement's own blocks stand
 have f0:∀b,z1<=b->b<W.heap.size->b≠Jq Pb m.gs->(∀k,(zy9 m.bv r.fr m.gs).ownBlock=some k->m.aC k≠5)->w'.heap[b]?=W.heap[b]?:=λb h1 h2 h3 h4=>G.q b h2 h3 (λhk=>h4 b hk (z0 b h1))
 have A0:∀(S':Nat->Prop) (d:Nat),(∀b,z1<=b->b<W.heap.size->S' b/\w'.heap[b]?=W.heap[b]?)->zz6 (Zh d) S' w' (ptr sn) ⟨kind,x,ln,e,[],[]⟩:=λS' d hS=>by
  refine⟨sn,vp,Zq,Zq,rfl,(hS sn p0.1 p0.2).1,?_,hv.kept (λb hb'=>(hS b hb'.1 hb'.2).1) (λb hb'=>(hS b hb'.1 hb'.2).2),Zh.nil _ _ _,Zh.nil _ _ _⟩;have:=hc.block (w':=w') (hS sn p0.1 p0.2).2;rw[E0]at this;exact this
 cases d0:r.fr with
 |nil=>
  have e0:m.gs=[]:=by
   rw[show ({r with ap:=r.ap+1}:Fl.RS).fr=r.fr from rfl,d0]at hl;exact Qi (by simpa using hl)
  rw[d0,e0]at G ho f0;rw[e0]at a0;have i0:r.put ⟨kind,x,ln,e,[],[]⟩={r with bC:=r.bC++[⟨kind,x,ln,e,[],[]⟩],ap:=r.ap+1}:=(by unfold Fl.RS.put;rw[d0]);rw[i0];have q0:∀b,m.bv.ownBlock=some b->m.aC b=1:=h.re.tb;have b0:=λb=>zg5 (z2:=W.heap.size) hI (by decide) q0 (by omega) G.wh b;have hq:∀b,m.aC b≠5->m.aC b≠1->w'.heap[b]?=W.heap[b]?:=λb h5 h1=>G.q b (h.re.wh b h5).2 (by have:=h.re.wh b h5;show b≠Pb;omega) (λhk=>h1 (q0 b hk));have t0:∀b,z1<=b->b<W.heap.size->Up m.aC z1 W.heap.size 1 v' b=0/\w'.heap[b]?=W.heap[b]?:=λb h1 h2=>⟨zg7 _ _ _ _ _ _ h1 h2,f0 b h1 h2 (by show b≠Pb;omega) (λk hk=>by rw[q0 k hk];decide)⟩;have c0:=h.re.ot (w':=w') 1 (by decide) (Up m.aC z1 W.heap.size 1 v') (λb h5 h1=>⟨b0 b h5,hq b h5 h1⟩);refine⟨{m with bv:=v',aC:=Up m.aC z1 W.heap.size 1 v'},?_⟩;refine{ok:= ?ok,bel:=G.bel,fx:=λb f1 f2 f3 f4 f5 f6=>(a0 b f1 f3).trans (h.fx b f1 f2 f3 f4 f5 f6),cV:=h.cV,bL:=⟨b1,b2,b3,b4,b5,by omega⟩,nd:=h.nd,cR:= ?cR,cP:= ?cP,nl:=h.nl.block (a0 _ b3 (Ne.symm n5)),nv:=h.nv.block (a0 _ b4 (Ne.symm n6)),nc:=h.nc.block (a0 _ b5 (Ne.symm n7)),tab:=h.tab,re:= ?re}
  case ok=>
   exact{cn:=⟨by have:=cG.1;simp[d0]at this⊢;omega,by rw[show ({r with bC:=r.bC++[⟨kind,x,ln,e,[],[]⟩],ap:=r.ap+1}:Fl.RS).fr=r.fr from rfl,d0];trivial⟩,lv:=h.ok.lv,ce:=h.ok.ce,ch:=h.ok.ch,lo:=h.ok.lo,st:=h.ok.st,fr:=h.ok.fr,cl:=h.ok.cl,hl:=h.ok.hl,cD:=h.ok.cD,dy:=h.ok.dy,head:=λhh=>(by rw[show ({r with bC:=r.bC++[⟨kind,x,ln,e,[],[]⟩],ap:=r.ap+1}:Fl.RS).ae=r.ae from rfl,hb]at hh;cases hh),below:=h.ok.below,bD:=h.ok.bD,bF:=h.ok.bF,fT:=h.ok.fT}
  case cR=>
   refine(h.cR.block (a0 R b1 n1)).congr λj hj=>?_;exact(zvz Pb lm vm cm aq {r with ap:=r.ap+1} {r with bC:=r.bC++[⟨kind,x,ln,e,[],[]⟩],ap:=r.ap+1} m {m with bv:=v',aC:=Up m.aC z1 W.heap.size 1 v'} j rfl rfl rfl rfl hj (λ_ _ _ _ _=>rfl)).symm
  case cP=>
   refine(G.cs 5 _ h.cP (by decide)).congr λk hk=>?_;rcases(show k=0\/k=1\/k=2\/k=3\/k=4 by omega) with rfl|rfl|rfl|rfl|rfl<;>rfl
  case re=>
   have B0:=h.re.pb;rw[e0]at B0
   exact{
       wh:=λb hb'=>zdx (λb hb=>h.re.wh b hb) y0 hz (λb hv=>⟨(G.own.lt b hv).1,(G.own.lt b hv).2⟩) b hb',oc:=(c0.oc (by decide)).1,tc:=(c0.oc (by decide)).2,oh:=(c0.oh (by decide)).1,th:=(c0.oh (by decide)).2,pb:=(by
        show Yn 3 _ base w' v' (r.bC++[_]) (Va m.gs);rw[e0]
        exact Yn.snoc B0 ho G.own (λb hb'=>(b0 b (by rw[hb'];decide)).trans hb') (λb hb'=>hq b (by rw[hb'];decide) (by rw[hb'];decide)) (A0 _ 3 t0)),tb:=λb hb'=>zg6 hI (by decide) q0 G.wh b hb',fa:=c0.fa (.inl (by decide)),oo:=(c0.oo (by decide)).1,to:=(c0.oo (by decide)).2,la:=c0.la}
 |cons f fs=>
  cases e0:m.gs with
  |nil=>rw[show ({r with ap:=r.ap+1}:Fl.RS).fr=r.fr from rfl,d0,e0]at hl;simp at hl
  |cons g gs=>
   rw[d0,e0]at G ho f0;rw[e0]at a0;have C0:=h.re.fa;rw[show ({r with ap:=r.ap+1}:Fl.RS).fr=r.fr from rfl,d0,e0]at C0;obtain⟨hf,G0⟩:=C0;obtain⟨f',hf'⟩:∃f':Fl.aB,f'=if f.cI then{f with fm:=f.fm++[⟨kind,x,ln,e,[],[]⟩]} else{f with first:=f.first++[⟨kind,x,ln,e,[],[]⟩]}:=⟨_,rfl⟩;obtain⟨g',hg'⟩:∃g':GF,g'=if f.cI then{g with ev:=v'} else{g with fv:=v'}:=⟨_,rfl⟩;have i0:r.put ⟨kind,x,ln,e,[],[]⟩={r with fr:=f'::fs,ap:=r.ap+1}:=(by unfold Fl.RS.put;rw[d0,hf']);rw[i0]
   have m0:g'.sb=g.sb:=by rw[hg'];split<;>rfl
   have u0:g'.ob=g.ob:=by rw[hg'];split<;>rfl
   have D0:g'.vp=g.vp:=by rw[hg'];split<;>rfl
   have g0:f'.kind=f.kind/\f'.aq=f.aq/\f'.e=f.e/\f'.cI=f.cI:=by rw[hf'];split<;>exact⟨rfl,rfl,rfl,rfl⟩
   have n0:g'.act f'=v':=by
    unfold GF.act;rw[g0.2.2.2,hg']
    cases f.cI<;>rfl
   have r0:∀b,(zy9 m.bv (f::fs) (g::gs)).ownBlock=some b->m.aC b=12+3*fs.length:=hf.ta;have b0:=λb=>zg5 (T:=12+3*fs.length) (z2:=W.heap.size) hI (by omega) r0 (by omega) G.wh b;have hq:∀b,m.aC b≠5->m.aC b≠12+3*fs.length->m.aC b≠10+3*fs.length->w'.heap[b]?=W.heap[b]?:=λb h5 h1 H0=>G.q b (h.re.wh b h5).2 (λhe=>H0 (by rw[show b=g.sb from he];exact hf.ts)) (λhk=>h1 (r0 b hk));have t0:∀b,z1<=b->b<W.heap.size->Up m.aC z1 W.heap.size (12+3*fs.length) v' b=0/\w'.heap[b]?=W.heap[b]?:=λb h1 h2=>⟨zg7 _ _ _ _ _ _ h1 h2,f0 b h1 h2 (λhe=>by have:=z0 b h1;rw[show b=g.sb from he,hf.ts]at this;omega) (λk hk=>by rw[r0 k hk];omega)⟩;have j0:=h.re.aM (w':=w') (Up m.aC z1 W.heap.size (12+3*fs.length) v') (λb hb'=>⟨b0 b (by omega),hq b (by omega) (by omega) (by omega)⟩)
   have h0:∀b,m.aC b=0->Up m.aC z1 W.heap.size (12+3*fs.length) v' b=0:=λb hb'=>by rw[b0 b (by rw[hb'];decide)];exact hb'
   have s0:∀b,m.aC b=0->w'.heap[b]?=W.heap[b]?:=λb hb'=>hq b (by omega) (by omega) (by omega);have I0:Va (g'::gs)=Va (g::gs):=(by simp only[Va,m0]);have v0:((g'::gs).map λg=>ptr g.ob)=((g::gs).map λg=>ptr g.ob):=(by simp only[List.map_cons,u0]);refine⟨{m with gs:=g'::gs,aC:=Up m.aC z1 W.heap.size (12+3*fs.length) v'},?_⟩;have J0:=h.re.wh g.sb (by rw[hf.ts];omega);refine{ok:= ?ok,bel:=G.bel,fx:=λb f1 f2 f3 f4 f5 f6=>(a0 b f1 (by show b≠g.sb;omega)).trans (h.fx b f1 f2 f3 f4 f5 f6),cV:=h.cV,bL:=⟨b1,b2,b3,b4,b5,by omega⟩,nd:=h.nd,cR:= ?cR,cP:=h.cP.block (a0 _ b2 (by show Pb≠g.sb;omega)),nl:=h.nl.block (a0 _ b3 (by show lm≠g.sb;omega)),nv:=h.nv.block (a0 _ b4 (by show vm≠g.sb;omega)),nc:=h.nc.block (a0 _ b5 (by show cm≠g.sb;omega)),tab:=h.tab,re:= ?re}
   case ok=>
    have o0:=cG.2;rw[d0]at o0
    exact{
        cn:=⟨by have:=cG.1;simp[d0]at this⊢;omega,(by
         show Jj (r.ap+1) 0 (f'::fs);obtain⟨c1,c2,c3⟩:=o0;rw[hf']
         cases hh:f.cI with
         |true=>rw[hh]at c1 c2;simp at c1 c2;refine⟨?_,?_,Jj.mono (by omega) (Nat.le_refl _) c3⟩<;>simp[hh]<;>omega
         |false=>rw[hh]at c1 c2;simp at c1 c2;refine⟨?_,?_,Jj.mono (by omega) (Nat.le_refl _) c3⟩<;>simp[hh]<;>omega)⟩,lv:=h.ok.lv,ce:=h.ok.ce,ch:=h.ok.ch,lo:=h.ok.lo,st:=h.ok.st,fr:=(by have:=h.ok.fr;rw[show ({r with ap:=r.ap+1}:Fl.RS).fr=r.fr from rfl,d0]at this;simpa using this),cl:=h.ok.cl,hl:=h.ok.hl,cD:=h.ok.cD,dy:=(by
         intro k hk;have x0:=h.ok.dy;rw[show ({r with ap:=r.ap+1}:Fl.RS).fr=r.fr from rfl,d0]at x0;rcases List.mem_cons.1 hk with rfl|hk
         ·rw[g0.1];exact x0 f (by simp)
         exact x0 k (by simp[hk])),head:=λhh=>(by rw[show ({r with fr:=f'::fs,ap:=r.ap+1}:Fl.RS).ae=r.ae from rfl,hb]at hh;cases hh),below:=h.ok.below,bD:=h.ok.bD,bF:=h.ok.bF,fT:=h.ok.fT}
   case cR=>
    refine(h.cR.block (a0 R b1 (by show R≠g.sb;omega))).congr λj hj=>?_;exact(zvz Pb lm vm cm aq {r with ap:=r.ap+1} {r with fr:=f'::fs,ap:=r.ap+1} m {m with gs:=g'::gs,aC:=Up m.aC z1 W.heap.size (12+3*fs.length) v'} j rfl rfl rfl rfl hj (λ_ _ _ _ _=>rfl)).symm
   case re=>
    have k0:=j0.pb;have l0:=j0.oo;rw[e0]at k0 l0;refine{wh:=λb hb'=>zdx (λb hb=>h.re.wh b hb) y0 hz (λb hv=>⟨(G.own.lt b hv).1,(G.own.lt b hv).2⟩) b hb',oc:=j0.oc.1,tc:=j0.oc.2,oh:=j0.oh.1,th:=j0.oh.2,pb:= ?pb,tb:=k0.2,fa:= ?fa,oo:= ?oo,to:=l0.2,la:=j0.la}
    case pb=>show Yn 3 _ base w' m.bv r.bC (Va (g'::gs));rw[I0];exact k0.1
    case oo=>
     show w'.ownsRow base _ 1 m.ov (f'::fs).length (((g'::gs).map λg=>ptr g.ob).reverse);rw[v0];have:=l0.1;rw[show ({r with ap:=r.ap+1}:Fl.RS).fr=r.fr from rfl,d0]at this;exact this
    case fa=>
     show Vh _ base w' (3 - (f'::fs).length) [] (f'::fs) (g'::gs);refine⟨?_,?_⟩
     ·refine{ts:=by rw[m0];exact(b0 g.sb (by rw[hf.ts];omega)).trans hf.ts,to:=by rw[u0];exact(b0 g.ob (by rw[hf.to];omega)).trans hf.to,ta:=λb hb'=>zg6 hI (by omega) r0 G.wh b (by rw[<-n0];exact hb'),co:= ?co,cs:= ?cs,hv:=by rw[D0,g0.2.2.1];exact hf.hv.kept h0 s0,pa:= ?pa,pf:= ?pf,pe:= ?pe}
      case co=>rw[u0,m0,g0.2.2.2];exact hf.co.block (hq g.ob (by rw[hf.to];omega) (by rw[hf.to];omega) (by rw[hf.to];omega))
      case cs=>
       rw[m0,g0.1,g0.2.1,D0];refine(G.cs 6 _ hf.cs (by show (if f.cI then 5 else 4)<6;split<;>omega)).congr λk hk=>?_;rw[hg'];show (if k=(if f.cI then 5 else 4) then v' else _)=_
       cases f.cI<;>rcases(show k=0\/k=1\/k=2\/k=3\/k=4\/k=5 by omega) with rfl|rfl|rfl|rfl|rfl|rfl<;>rfl
      case pa=>
       rw[n0,g0.2.2.2];have:=Yn.snoc (w':=w') hf.pa ho G.own h0 s0 (A0 _ _ t0);rw[hf']
       cases hh:f.cI<;>rw[hh]at this<;>exact this
      case pf=>
       intro hh;rw[g0.2.2.2]at hh;have:=Zh.kept h0 s0 _ _ _ (hf.pf hh);rw[hg',hf',hh];exact this
      case pe=>
       intro hh;rw[g0.2.2.2]at hh;rw[hg',hf',hh];exact hf.pe hh
     rw[m0]
     exact G0.kept (λb hb'=>by
      rcases hb' with hb'|hb'
      ·exact⟨b0 b (by omega),s0 b hb'⟩
      exact⟨b0 b (by omega),hq b (by omega) (by omega) (by omega)⟩)
end
section
variable{r:Fl.RS}{aq:Int}{m:Xt}
def zdw(h:Zn lo base R Pb lm vm cm w0 w r aq m)(b off n cap:Nat)(vs:List (List UInt8))(hn:n=vs.length)(a0:n<=cap)(hl:∀x∈vs,x.length<=100000)(b0:Fl.bY [97] vs=true\/Fl.bY [97,111,97] vs=true)(hc:∀i,i<vs.length->w.cell? (Aq b (off+i))=some (.string ⟨(vs.getD i []).toArray⟩)):
  Cq 140 #[Pq R,.slice (some (Aq b off)) n cap] w (zqv (r.value vs) aq w):=by
 rcases b0 with hs|hs
 ·have bj:=Fl.bX _ _ hs
  match vs,bj with
  |[x],_=>
   subst hn;exact zg3 h b off cap x (hl x (by simp)) (by simpa using a0) (hc 0 (by simp))
 have bj:=Fl.bX _ _ hs
 match vs,bj with
 |[x,o,y],_=>
  subst hn;refine yq7 h b off cap x o y (hl x (by simp)) (hl o (by simp)) (hl y (by simp)) ?_ (by simpa using a0) (hc 0 (by simp)) (hc 1 (by simp)) (hc 2 (by simp));simp[Fl.bY,Fl.gu]at hs;exact hs.2.1
def yx2(h:Zn lo base R Pb lm vm cm w0 W r aq m)(b0:r.ae=true)(z1 kind x ln pb:Nat)(e:Fl.dd)(hI:∀b,m.aC b≠5->b<z1)(c0:base<=z1/\z1<=W.heap.size)(d0:aq=(ln:Int))(hv:zxz (λb=>z1<=b/\b<W.heap.size) W (ptr pb) e):
  Cq 141 #[Pq R,Pq W.heap.size] (W.alloc (.cells #[Iq kind,Iq 0,Iq x,Pq pb,Zq,Zq] 163)) λe' w'=>
   (16<=r.ap/\e'=.panicked (Ze 5 aq)/\zv9 lo base R Pb lm vm cm w0 w')\/(r.ap<16/\e'=.returned (.tuple #[])/\∃m',Zn lo base R Pb lm vm cm w0 w' (r.put ⟨kind,x,ln,e,[],[]⟩) aq m'):=by
 have bL:=h.bL;have hA:Zn lo base R Pb lm vm cm w0 (W.alloc (.cells #[Iq kind,Iq 0,Iq x,Pq pb,Zq,Zq] 163)) r aq m:=h.below (bA)
 have cF:(W.alloc (.cells #[Iq kind,Iq 0,Iq x,Pq pb,Zq,Zq] 163)).heap.size=W.heap.size+1:=by simp
 refine(yx1 hA b0 W.heap.size kind x (ptr pb) (by omega) (Classical.byContradiction λe0=>by have:=hI _ e0;omega) (by omega) (Zb.new W [Iq kind,Iq 0,Iq x,Pq pb,Zq,Zq] _)).mono ?_;rintro e' w' (⟨a0,rfl,hb⟩|⟨a0,rfl,W2,hP,f0,hq,hc,n,xs,v',ho,G⟩)
 ·exact .inl ⟨a0,rfl,hb⟩
 refine .inr ⟨a0,rfl,?_⟩;exact hP.oW (r:=r) b0 (z1:=z1) (sn:=W.heap.size) hI c0.1 ⟨c0.2,by omega⟩ d0 h.ok.cn hc
  (hv.kept (λb hb=>⟨hb.1,by have:=hb.2;omega⟩) (λb hb=>by
   have h1:=hb.1;have h2:=hb.2;rw[hq b (by omega) (by omega)]
   exact((Below.refl W.heap.size W).alloc (Nat.le_refl _) _).block b h2)) ho G
def Fl.RS.fL{r r':Fl.RS}{n:List UInt8}{x:Nat}(h:r.bm n=some (x,r')):r'.ap=r.ap/\r'.ae=r.ae:=by
 rw[Fl.RS.iZ]at h
 split at h
 ·simp only[Option.some.injEq,Prod.mk.injEq]at h;rw[<-h.2];exact⟨rfl,rfl⟩
 split at h
 ·cases h
 simp only[Option.some.injEq,Prod.mk.injEq]at h;rw[<-h.2];exact⟨rfl,rfl⟩
def ys2(h:Zn lo base R Pb lm vm cm w0 w r aq m)(p0:r.ae=true)(B:Nat)(v:Value)(k n:List UInt8)(vs:List (List UInt8))(ln:Nat)(q0:aq=(ln:Int))(hB:B<=w.heap.size)(hw:Zf B w v (n::vs))(r0:∀b,v.ownBlock=some b->base<=b/\m.aC b=5)(s0:(k==Fl.eD)=false)(m0:Fl.bY [97] vs=true\/Fl.bY [97,111,97] vs=true):
  Cq 109 #[Pq R,v] w (Zd lo base R Pb lm vm cm w0 aq (r.bQ ln (k::n::vs))):=by
 obtain⟨b,off,cap,rfl,g0,S0,c1,n0,a0⟩:=hw.one (by simp);have hn:n.length<=100000:=n0 n (by simp)
 have T0:1<=vs.length:=by rcases m0 with hs|hs<;>have:=Fl.bX _ _ hs<;>simp at this<;>omega
 have t0:Cl w b off (.string ⟨n.toArray⟩):=a0 0 (by simp);obtain⟨d1,e1⟩:=r0 b rfl;obtain⟨aV,f0⟩:=nmE (r.bQ ln (k::n::vs));rw[<-f0]
 have c0:Hid (aV=match r.value vs with
  |none=>(4,r)
  |some e=>if 0<=Fl.ai r.aj n then(4,r) else match r.bm n with
    |none=>(5,r)
    |some (x,r')=>if 16<=r.ap then(5,r) else(0,r'.put ⟨3,x,ln,e,[],[]⟩)):=by
  show _=_;rw[f0];have hko':¬(k==Fl.eD)=true:=(by rw[s0];decide)
  match vs,T0 with
  |a::vs',_=>
   simp only[Fl.RS.bQ]
   cases r.value (a::vs') with
   |none=>rfl
   |some e=>
    simp only[hko',if_false]
    first|done|rfl|(split<;>first|rfl|(cases r.bm n<;>rfl))
 have c42:Cl w R 42 (.map (some cm)):=h.cR.c 42 (by omega);obtain⟨mx,tb,u0,v0,-⟩:=h.drew.nc.io n hn;have x0:=Zz v0;have HH:=Zz h
 have y0:Hid (∀W,Zn lo base R Pb lm vm cm w0 W r aq m->Bq w W->Cq 140 #[Pq R,.slice (some (Aq b (off+1))) vs.length (cap - 1)] W (zqv (r.value vs) aq W)):=λW hW U0=>
  zdw hW b (off+1) vs.length (cap - 1) vs rfl (by simp at g0;omega) (λx hx=>n0 x (by simp[hx])) m0 (λi hi=>by
   rw[U0.cell (p:=(Aq b (off+1+i))) (by show b<_;omega)];have:=a0 (i+1) (by simp;omega)
   rw[show off+1+i=off+(i+1) by omega,this];rfl)
 have hbz:b<w.heap.size:=by omega
 simp only[List.length_cons]at g0⊢
 have f1:(2:Int)<=(cap:Int):=by omega
 have g1:(1:Int)<=(vs.length:Int):=by omega
 have h1:(vs.length:Int)+1<=(cap:Int):=by omega
 have V0:cap≠1:=by omega
 unfold maxLen at S0;have W0:=Zz q0;clear h hw n0 a0 f0 v0 r0 m0 s0 q0
 go_enter func109,ntmps109
 go_wp2_with fail
 refine wp_region_still_lit (by kernel_rfl) (by kernel_rfl) ?_
 iterate 7 still_step
 refine Xh rfl (.tuple #[Iq mx,.bool tb]) (Jx _ _ 92 rfl (.map (some cm)) (.string ⟨n.toArray⟩) _ rfl rfl u0) ?_
 iterate 5 still_step
 refine wpStill_nil ?_
 change Exit.then _ _ _ _ w.drew
 have HW:Hid (Zn lo base R Pb lm vm cm w0 w.drew r aq m):=HH.drew;have z0:Hid (Bq w w.drew):=dA;have d0:Cl w.drew b off (.string ⟨n.toArray⟩):=t0;have A0:w.drew.heap.size=w.heap.size:=rfl;have i1:=Zz A0;clear u0 t0 c42 A0;generalize w.drew=W at*;have bL:=HW.bL;have cV:=HW.cV;have j1:=z0.size;have B0:Hid (Cq 61 #[Pq R,.bool false,Iq 4] W λe w'=>e=.panicked (Ze 4 aq)/\Bq W w'):=Yd R 4 aq W (HW.cR.c 1 (by omega));have C0:Hid (Cq 61 #[Pq R,.bool true,Iq 4] W λe w'=>e=.returned (.tuple #[])/\w'=W):=Xc R 4 W
 cases tb with
 |true=>
  have h0:0<=Fl.ai r.aj n:=(by have:=x0.out;simpa using this);have HR:Hid (aV=(4,r)):=by
   show _=_;rw[c0.out]
   cases r.value vs with
   |none=>rfl
   |some e=>simp only[h0,if_true]
  go_wp2_with fail
  refine B0.mono ?_;rintro e w1 ⟨rfl,X0⟩;exact⟨rfl,Zd.eh HR (by decide) rfl (HW.gone X0)⟩
 |false=>
  have h0:¬0<=Fl.ai r.aj n:=(by have:=x0.out;simpa using this)
  go_wp2_with fail
  refine C0.mono ?_;rintro e w1 ⟨rfl,D0⟩;rw[D0];clear D0 w1 C0 B0;have E0:=y0 W HW z0.out;have F0:=Zz E0;clear E0 y0
  go_wp2_with fail
  refine F0.mono ?_;rintro e W2 ⟨i0,G0,j0⟩;have Y0:Hid (Zn lo base R Pb lm vm cm w0 W2 r aq m):=HW.below i0;have Z0:=Zz i0;have k1:=i0.size;have e0:Cl W2 b off (.string ⟨n.toArray⟩):=(i0.cell (p:=(Aq b off)) (by show b<_;omega)).trans d0;clear F0 i0 d0
  cases b0:r.value vs with
  |none=>
   obtain rfl:=j0 b0;have HR:aV=(4,r):=(by rw[c0.out,b0]);exact⟨rfl,Zd.eh HR (by decide) rfl (HW.gone Z0)⟩
  |some ex=>
   obtain⟨pb,rfl,H0⟩:=G0 ex b0;have I0:=Zz H0
   have o0:Hid (aV=match r.bm n with
    |none=>(5,r)
    |some (x,r')=>if 16<=r.ap then(5,r) else(0,r'.put ⟨3,x,ln,ex,[],[]⟩)):=by show _=_;rw[c0.out,b0];exact if_neg (by have:=h0;omega)
   have J0:Hid (Cq 142 #[Pq R,.string ⟨n.toArray⟩] W2 (ymy lo base R Pb lm vm cm w0 r aq m n W2)):=yyv Y0 p0 n hn;clear H0 G0 j0 c0 b0
   go_wp2_with fail
   refine J0.mono ?_;clear J0 e0;rintro e W3 (⟨x,r',k0,rfl,K0,l1,L0⟩|⟨k0,rfl,a1⟩)
   ·have M0:Hid (aV=if 16<=r.ap then(5,r) else(0,r'.put ⟨3,x,ln,ex,[],[]⟩)):=by show _=_;rw[o0.out,k0]
    obtain⟨N0,O0⟩:=Fl.RS.fL k0
    have P0:Hid (Cq 141 #[Pq R,Pq W3.heap.size] (W3.alloc (.cells #[Iq 3,Iq 0,Iq x,Pq pb,Zq,Zq] 163)) λe' w'=>
      (16<=r'.ap/\e'=.panicked (Ze 5 aq)/\zv9 lo base R Pb lm vm cm w0 w')\/(r'.ap<16/\e'=.returned (.tuple #[])/\∃m',Zn lo base R Pb lm vm cm w0 w' (r'.put ⟨3,x,ln,ex,[],[]⟩) aq m')):=
     yx2 K0 (O0.trans p0) W.heap.size 3 x ln pb ex (λb hb=>(HW.re.wh b hb).2) ⟨by omega,by omega⟩ W0.out
      (I0.kept (λb hb=>⟨hb.1,by have:=hb.2;omega⟩) (λb hb=>L0 b hb.2 (by have:=hb.1;omega) (by have:=hb.1;omega)))
    have Q0:=Zz N0;clear K0 L0 k0 N0 O0 o0 I0
    go_wp2_with fail
    refine P0.mono ?_;rintro e W4 (⟨l0,rfl,b1⟩|⟨l0,rfl,m',R0⟩)
    ·rw[Q0.out]at l0
     have HR:aV=(5,r):=(by rw[M0.out,if_pos l0]);exact⟨rfl,Zd.eh HR (by decide) rfl b1⟩
    rw[Q0.out]at l0;have HR:aV=(0,r'.put ⟨3,x,ln,ex,[],[]⟩):=(by rw[M0.out,if_neg (by omega)]);have HF:Hid (Zd lo base R Pb lm vm cm w0 aq aV (.returned (.tuple #[])) W4):=Zd.fS HR rfl R0;clear HR R0 P0;go_wp2
    go_end0
    exact HF
   have HR:aV=(5,r):=(by rw[o0.out,k0]);exact⟨rfl,Zd.eh HR (by decide) rfl a1⟩
end
section
variable{r:Fl.RS}{aq:Int}{m:Xt}
def out_any(h:Zn lo base R Pb lm vm cm w0 w r aq m)(G0:r.ae=true)(B:Nat)(v:Value)(k n:List UInt8)(vs:List (List UInt8))(ln:Nat)(n0:aq=(ln:Int))(hB:B<=w.heap.size)(hw:Zf B w v (n::vs))(o0:(k==Fl.eD)=true)(i0:Fl.bY [97] vs=true\/Fl.bY [97,111,97] vs=true):
  Cq 110 #[Pq R,v] w (Zd lo base R Pb lm vm cm w0 aq (r.bQ ln (k::n::vs))):=by
 obtain⟨b,off,cap,rfl,e0,H0,T0,j0,a0⟩:=hw.one (by simp);have hn:n.length<=100000:=j0 n (by simp)
 have I0:1<=vs.length:=by rcases i0 with hs|hs<;>have:=Fl.bX _ _ hs<;>simp at this<;>omega
 have J0:Cl w b off (.string ⟨n.toArray⟩):=a0 0 (by simp);obtain⟨aV,d0⟩:=nmE (r.bQ ln (k::n::vs));rw[<-d0];obtain⟨pl,k0⟩:=nmE (Fl.ai r.aj n)
 have c0:Hid (aV=match r.value vs with
  |none=>(4,r)
  |some e=>if pl<0 then(4,r) else if 16<=r.ap then(5,r) else(0,r.put ⟨4,pl.toNat,ln,e,[],[]⟩)):=by
  show _=_;rw[d0,k0]
  match vs,I0 with
  |a::vs',_=>
   simp only[Fl.RS.bQ]
   cases r.value (a::vs') with
   |none=>rfl
   |some e=>
    simp only[o0,if_true]
    try rfl
 have c42:Cl w R 42 (.map (some cm)):=h.cR.c 42 (by omega);obtain⟨mx,tb,p0,l0,hmx⟩:=h.drew.nc.io n hn;rw[<-k0]at l0 hmx;have m0:=Zz l0;have q0:=Zz hmx;have HH:=Zz h
 have r0:Hid (∀W,Zn lo base R Pb lm vm cm w0 W r aq m->Bq w W->Cq 140 #[Pq R,.slice (some (Aq b (off+1))) vs.length (cap - 1)] W (zqv (r.value vs) aq W)):=λW hW K0=>
  zdw hW b (off+1) vs.length (cap - 1) vs rfl (by simp at e0;omega) (λx hx=>j0 x (by simp[hx])) i0 (λi hi=>by
   rw[K0.cell (p:=(Aq b (off+1+i))) (by show b<_;omega)];have:=a0 (i+1) (by simp;omega)
   rw[show off+1+i=off+(i+1) by omega,this];rfl)
 have hbz:b<w.heap.size:=by omega
 simp only[List.length_cons]at e0⊢
 have U0:(2:Int)<=(cap:Int):=by omega
 have V0:(1:Int)<=(vs.length:Int):=by omega
 have W0:(vs.length:Int)+1<=(cap:Int):=by omega
 have L0:cap≠1:=by omega
 unfold maxLen at H0;have M0:=Zz n0;clear h hw j0 a0 d0 l0 hmx i0 o0 n0 k0
 go_enter func110,ntmps110
 go_wp2_with fail
 refine wp_region_still_lit (by kernel_rfl) (by kernel_rfl) ?_
 iterate 7 still_step
 refine Xh rfl (.tuple #[Iq mx,.bool tb]) (Jx _ _ 92 rfl (.map (some cm)) (.string ⟨n.toArray⟩) _ rfl rfl p0) ?_
 iterate 5 still_step
 refine wpStill_nil ?_
 change Exit.then _ _ _ _ w.drew
 have HW:Hid (Zn lo base R Pb lm vm cm w0 w.drew r aq m):=HH.drew;have s0:Hid (Bq w w.drew):=dA;have t0:w.drew.heap.size=w.heap.size:=rfl;have X0:=Zz t0;clear p0 J0 c42 t0;generalize w.drew=W at*;have bL:=HW.bL;have cV:=HW.cV;have Y0:=s0.size;have u0:Hid (Cq 61 #[Pq R,.bool false,Iq 4] W λe w'=>e=.panicked (Ze 4 aq)/\Bq W w'):=Yd R 4 aq W (HW.cR.c 1 (by omega));have v0:Hid (Cq 61 #[Pq R,.bool true,Iq 4] W λe w'=>e=.returned (.tuple #[])/\w'=W):=Xc R 4 W
 cases tb with
 |false=>
  have h0:pl<0:=(by have:=m0.out;simpa using this);have HR:Hid (aV=(4,r)):=by
   show _=_;rw[c0.out]
   cases r.value vs with
   |none=>rfl
   |some e=>exact if_pos h0
  go_wp2_with fail
  refine u0.mono ?_;rintro e w1 ⟨rfl,N0⟩;exact⟨rfl,Zd.eh HR (by decide) rfl (HW.gone N0)⟩
 |true=>
  have h0:0<=pl:=(by have:=m0.out;simpa using this);obtain⟨q,hq⟩:∃q:Nat,pl=q:=⟨pl.toNat,by omega⟩;have O0:mx=(q:Int):=(by rw[q0.out,hq];omega);subst O0;have HQ:=Zz hq;clear hq h0 q0 m0
  go_wp2_with fail
  refine v0.mono ?_;rintro e w1 ⟨rfl,x0⟩;rw[x0];clear x0 w1 v0 u0;have y0:=r0 W HW s0.out;have z0:=Zz y0;clear y0 r0
  go_wp2_with fail
  refine z0.mono ?_;rintro e W2 ⟨g0,A0,f0⟩;have P0:Hid (Zn lo base R Pb lm vm cm w0 W2 r aq m):=HW.below g0;have Q0:=Zz g0;have Z0:=g0.size;clear z0 g0
  cases b0:r.value vs with
  |none=>
   obtain rfl:=f0 b0;have HR:aV=(4,r):=(by rw[c0.out,b0]);exact⟨rfl,Zd.eh HR (by decide) rfl (HW.gone Q0)⟩
  |some ex=>
   obtain⟨pb,rfl,B0⟩:=A0 ex b0;have R0:=Zz B0;have C0:Hid (aV=if 16<=r.ap then(5,r) else(0,r.put ⟨4,q,ln,ex,[],[]⟩)):=by
    show _=_;rw[c0.out,b0,HQ.out];exact if_neg (by omega)
   have D0:Hid (Cq 141 #[Pq R,Pq W2.heap.size] (W2.alloc (.cells #[Iq 4,Iq 0,Iq q,Pq pb,Zq,Zq] 163)) λe' w'=>
      (16<=r.ap/\e'=.panicked (Ze 5 aq)/\zv9 lo base R Pb lm vm cm w0 w')\/(r.ap<16/\e'=.returned (.tuple #[])/\∃m',Zn lo base R Pb lm vm cm w0 w' (r.put ⟨4,q,ln,ex,[],[]⟩) aq m')):=
     yx2 P0 G0 W.heap.size 4 q ln pb ex (λb hb=>(HW.re.wh b hb).2) ⟨by omega,by omega⟩ M0.out
      (R0.kept (λb hb=>⟨hb.1,hb.2⟩) (λ_ _=>rfl))
   clear B0 A0 f0 c0 b0
   go_wp2_with fail
   refine D0.mono ?_;rintro e W4 (⟨E0,rfl,S0⟩|⟨E0,rfl,m',F0⟩)
   ·have HR:aV=(5,r):=by rw[C0.out,if_pos E0]
    exact⟨rfl,Zd.eh HR (by decide) rfl S0⟩
   have HR:aV=(0,r.put ⟨4,q,ln,ex,[],[]⟩):=(by rw[C0.out,if_neg (by omega)]);have HF:Hid (Zd lo base R Pb lm vm cm w0 aq aV (.returned (.tuple #[])) W4):=Zd.fS HR rfl F0;clear HR F0 D0;go_wp2
   go_end0
   exact HF
end
end Go.Proofs.YtfhpibppblbgcaaGreatDoor
