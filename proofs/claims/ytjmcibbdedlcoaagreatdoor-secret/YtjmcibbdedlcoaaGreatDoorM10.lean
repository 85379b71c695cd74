import Derived.Test.YtjmcibbdedlcoaaGreatDoorM09
set_option linter.all false
set_option maxRecDepth 100000
set_option maxHeartbeats 40000000
namespace Go.Proofs.YtjmcibbdedlcoaaGreatDoor
open Go.RowKit Go.Proofs.Tryz List World Value Fl
variable{lo base R Pb lm vm cm n d z1 z2 T:Nat}{w0 w w' W w1 w2:World}{p v' x v:Value}{e:TypeId}{xs:Vs}{S S':Nat->Prop}{bz:Nat->Nat}
section
variable{r:RS}{ap:Int}{m:Xv}
def Zo.kF(h:Zo lo base R Pb lm vm cm w0 w r ap m)(hb:r.ae=false)(c0:br r.au.length r.tab=true)(hW:E w W)(hz:w.heap.size<W.heap.size)(hl:Un W w.heap.size r.au.length r.tab):
  ∃m',Zo lo base R Pb lm vm cm w0 ((W.setCell (Y Pb 0) (ptr w.heap.size)).setCell (Y R 2) (.bool true)) {r with ae:=true} ap m':=by
 obtain⟨b1,b2,b3,b4,b5,b6⟩:=h.bP;obtain⟨l1,l2,l3,l4,l5⟩:=h.cq;obtain⟨n1,n2,n3,n4,n5,n6,n7,n8,n9,n10⟩:=h.nd;have hk:=h.below hW;obtain⟨WF,b0⟩:=U ((W.setCell (Y Pb 0) (ptr w.heap.size)).setCell (Y R 2) (.bool true));rw[<-b0]
 have g0:WF.heap.size=W.heap.size:=by rw[b0,Zy,Zy]
 have q:∀b,b≠R->b≠Pb->WF.heap[b]?=W.heap[b]?:=λb h1 h2=>by rw[b0,Zx _ _ _ _ _ h1,Zx _ _ _ _ _ h2]
 have d0:∀b,m.bz b≠5->b≠w.heap.size:=λb hb'=>by have:=h.re.wh b hb';omega
 have a0:=hk.re.pV (w':=WF) 6 (by decide) (λb=>if b=w.heap.size then 0 else m.bz b) (λb h5 _=>⟨Z (d0 b h5),q b (by have:=h.re.wh b h5;omega) (by have:=h.re.wh b h5;omega)⟩);refine⟨{m with pl:=ptr w.heap.size,bz:=λb=>if b=w.heap.size then 0 else m.bz b},?_⟩;refine{ok:= ?ok,bel:= ?bel,fx:=λb f1 f2 f3 f4 f5 f6=>((q b f2 f3).trans (hW.block b (by omega))).trans (h.fx b f1 f2 f3 f4 f5 f6),cq:=h.cq,bP:=⟨b1,b2,b3,b4,b5,by omega⟩,nd:=h.nd,cR:= ?cR,cP:= ?cP,nl:=hk.nl.block (q _ (Ne.symm n2) (Ne.symm n5)),nv:=hk.nv.block (q _ (Ne.symm n3) (Ne.symm n6)),nc:=hk.nc.block (q _ (Ne.symm n4) (Ne.symm n7)),tab:=h.tab,re:= ?re}
 case ok=>
  exact{cn:=h.ok.cn,lv:=h.ok.lv,ce:=h.ok.ce,ch:=h.ok.ch,lo:=h.ok.lo,st:=h.ok.st,fr:=h.ok.fr,cl:=h.ok.cl,hl:=h.ok.hl,dw:=h.ok.dw,dm:=h.ok.dm,head:=λhh=>(by cases hh),below:=h.ok.below,bC:=h.ok.bC,bH:=h.ok.bH,fA:=λ_=>c0}
 case bel=>rw[b0];exact(hk.bel.setCell l2 _).setCell l1 _
 case cR=>
  have hc:=(hk.cR.block (w':=W.setCell (Y Pb 0) (ptr w.heap.size)) (Zx _ _ _ _ _ n1)).set (j:=2) (by omega) (.bool true);rw[<-b0]at hc;refine hc.congr λj hj=>?_
  by_cases h2:j=2
  ·subst h2;rfl
  rw[Z h2];unfold Vx
  by_cases hs:j=0\/j=1\/j=3\/j=40\/j=41\/j=42\/j=43\/j=44
  ·rcases hs with rfl|rfl|rfl|rfl|rfl|rfl|rfl|rfl<;>rfl
  rw[Z (show ¬j=0 by omega),Z (show ¬j=1 by omega),Z h2,Z (show ¬j=0 by omega),Z (show ¬j=1 by omega),Z h2]
 case cP=>
  have hc:=(hk.cP.set (j:=0) (by omega) (ptr w.heap.size)).block (w':=WF) (by rw[b0];exact Zx _ _ _ _ _ (Ne.symm n1));refine hc.congr λk hk=>?_;rcases(show k=0\/k=1\/k=2\/k=3\/k=4 by omega) with rfl|rfl|rfl|rfl|rfl<;>rfl
 case re=>
  exact{
      wh:=λb hb'=>by
       by_cases f0:b=w.heap.size
       ·omega
       have e0:(if b=w.heap.size then 0 else m.bz b)≠5:=hb';rw[Z f0]at e0;have:=h.re.wh b e0;omega
      oc:=(a0.oc (by decide)).1,tc:=(a0.oc (by decide)).2,oh:=(a0.oh (by decide)).1,th:=(a0.oh (by decide)).2,pb:=(a0.pb (by decide)).1,tb:=(a0.pb (by decide)).2,fa:=a0.fa (.inl (by decide)),oo:=(a0.oo (by decide)).1,to:=(a0.oo (by decide)).2,la:=λ_=>⟨w.heap.size,rfl,G rfl,hl.block (q _ (by omega) (by omega))⟩}
def yi6(h:Zo lo base R Pb lm vm cm w0 w r ap m)(l0:r.ae=false)(v:Value)(k:K)(hv:∃ao n c,v=J ao n c):
  F 122 #[M R,v] w (Ze lo base R Pb lm vm cm w0 ap (r.head [k])):=by
 obtain⟨ao,vn,vc,rfl⟩:=hv;obtain⟨aX,d0⟩:=U (r.head [k]);rw[<-d0]
 have e0:O (aX=if br r.au.length r.tab then(0,{r with ae:=true}) else(6,r)):=by show _=_;rw[d0];rfl
 have m0:=h.ok.lv
 have n0:O (F 155 #[Pp R 3] w (yi5 r.au.length m.t w)):=yr0 R r.au.length m.t w m0 (h.cR.c 3 (by omega)) (λi j hi hj=>by
  have:=h.cR.c (4+i*6+j) (by omega)
  rw[yv5 _ _ _ _ _ _ _ _ _ hi hj]at this;exact this)
 have a0:∀i j,i<r.au.length->j<r.au.length->fw r.au.length m.t i j=r.tab i j:=λi j hi hj=>by
  refine ko _ _ _ (λa b ha hb=>?_) _ lE i j hi hj;rw[h.tab a b (by omega) (by omega)];simp[ha]
 have g0:O (br r.au.length (fw r.au.length m.t)=br r.au.length r.tab):=gV a0;have o0:=A a0;have HH:=A h;clear h d0 a0
 go_enter func122,ntmps122
 go_wp2_with fail
 refine n0.mono ?_;rintro e W ⟨b0,f0⟩;have HW:O (Zo lo base R Pb lm vm cm w0 W r ap m):=HH.below b0;have bP:=HW.bP;have cq:=HW.cq;have q0:=HW.nd;rcases f0 with⟨hl,rfl,hz,h0⟩|⟨hl,rfl⟩
 ·rw[g0.out]at hl
  have HR:O (aX=(0,{r with ae:=true})):=(by show _=_;rw[e0.out,G hl]);have HF:O (∃m',Zo lo base R Pb lm vm cm w0 ((W.setCell (Y Pb 0) (ptr w.heap.size)).setCell (Y R 2) (.bool true)) {r with ae:=true} ap m'):=HH.kF l0 hl b0 hz (h0 r.tab o0 (RS.fA hl));have i0:O (F 71 #[M R,.bool true,I 6] W (Rq (.tuple #[]) W)):=Xc R 6 W;have c0:D W R 0 (M Pb):=HW.cR.c 0 (by omega);have p0:D W Pb 0 m.pl:=HW.cP.c 0 (by omega);have zP:=HW.cP.z;have zR:=HW.cR.z;have c2:∀v,D (W.setCell (Y Pb 0) v) R 2 (.bool r.ae):=λv=>cQ (Zx _ _ _ _ _ q0.1) (HW.cR.c 2 (by omega))
  have zR2:∀v j,(W.setCell (Y Pb 0) v).frozen? (Y R j)=false:=λv j=>by rw[frozen?_setCell];exact zR j
  obtain⟨pv,j0⟩:=U (m.pl);rw[<-j0]at p0;clear h0 hl b0 j0;unfold ptr at HF⊢
  go_wp2_with fail
  refine i0.mono ?_;rintro e w1 ⟨rfl,k0⟩;rw[k0];clear k0 w1 i0;go_wp2
  go_end0
  obtain⟨m',hm'⟩:=HF.out;exact Ze.gx HR rfl hm'
 rw[g0.out]at hl
 have HR:O (aX=(6,r)):=by show _=_;rw[e0.out,Z (by rw[hl];decide)]
 have r0:O (F 71 #[M R,.bool false,I 6] W λe w'=>e=.panicked (Zf 6 ap)/\E W w'):=Ye R 6 ap W (HW.cR.c 1 (by omega));clear hl b0
 go_wp2_with fail
 refine r0.mono ?_;rintro e w1 ⟨rfl,s0⟩;exact⟨rfl,Ze.eQ HR (by decide) rfl (HW.gone s0)⟩
end
def zp9(w w':World)(b:Nat):Prop:=w.heap.size<=b/\b<w'.heap.size
def Fl.RS.mG(r:RS)(x:K):r.atom x=if(bY x 9).2 then some ⟨false,(bY x 9).1⟩ else if 0<=ai (r.cells++r.ak) x then some ⟨true,(ai (r.cells++r.ak) x).toNat⟩ else none:=by
 unfold RS.atom;rw[eG];have h1:=aO r.cells x;have h2:=aO r.ak x
 by_cases hn:(bY x 9).2=true
 ·rw[G hn,G hn]
 rw[Z hn,Z hn]
 by_cases hc:0<=ai r.cells x
 ·rw[G hc,G hc,G hc]
 rw[Z hc,Z hc]
 by_cases hl:0<=ai r.ak x
 ·rw[G hl,G hl,G (by omega)]
  congr 2;omega
 rw[Z hl,Z hl,Z (by omega)]
def yvz(o:Option dI)(ap:Int)(w:World)(e:Ending)(w':World):Prop:=
 E w w'/\(∀a,o=some a->∃p,e=.returned p/\Xy (zp9 w w') w' p a)/\(o=none->e=.panicked (Zf 4 ap))
def yvy(w:World)(k v:Int)(a:dI)(hk:k=if a.var then 1 else 0)(hv:v=a.v)(hW:E w W):Xy (zp9 w (W.alloc (.cells #[I k,I v,.pointer none,.pointer none] 279))) (W.alloc (.cells #[I k,I v,.pointer none,.pointer none] 279)) (M W.heap.size) a:=by
 refine⟨W.heap.size,rfl,⟨hW.size,by simp⟩,?_⟩;rw[<-hk,<-hv];exact Zh.new W [I k,I v,.pointer none,.pointer none] _
section
variable{r:RS}{ap:Int}{m:Xv}
def ze4(h:Zo lo base R Pb lm vm cm w0 w r ap m)(x:K)(hx:x.length<=100000):
  F 172 #[M R,Tq x] w (yvz (r.atom x) ap w):=by
 have a0:=zi3 x w hx;have b0:=jd x;obtain⟨ra,g0⟩:=U (r.atom x);have c0:=RS.mG r x;rw[<-g0]at c0⊢;obtain⟨nb,hnb⟩:=U ((bY x 9).2);obtain⟨nv,i0⟩:=U ((bY x 9).1);obtain⟨pl,e0⟩:=U (ai (r.cells++r.ak) x);rw[<-hnb,<-i0]at b0 c0;rw[<-e0]at c0;rw[b0]at a0;have j0:O (ra=if nb then some ⟨false,nv⟩ else if 0<=pl then some ⟨true,pl.toNat⟩ else none):=c0;have HH:O (Zo lo base R Pb lm vm cm w0 w r ap m):=h;have m0:O (pl=ai (r.cells++r.ak) x):=e0;clear b0 c0 g0 hnb i0 e0 h
 cases nb with
 |true=>
  have HN:O (F 164 #[Tq x] w (Rw (.tuple #[I nv,.bool true]) w)):=a0;have HR:O (ra=some ⟨false,nv⟩):=j0.out;clear a0
  go_enter func172,ntmps172
  go_wp2_with fail
  refine HN.mono ?_;rintro e W ⟨rfl,hb⟩;have HB:O (E w W):=hb;clear hb HN;go_wp2;go_ret;exact⟨HB.alloc HB.size _,λa ha=>⟨_,rfl,by rw[HR.out]at ha;simp only[Ql]at ha;subst ha;exact yvy w 0 nv ⟨false,nv⟩ rfl rfl HB⟩,λhn=>by rw[HR.out]at hn;cases hn⟩
 |false=>
  have HN:O (F 164 #[Tq x] w (Rw (.tuple #[I 0,.bool false]) w)):=a0;have HR:O (ra=if 0<=pl then some ⟨true,pl.toNat⟩ else none):=j0.out;clear a0
  go_enter func172,ntmps172
  go_wp2_with fail
  refine HN.mono ?_;rintro e W ⟨rfl,hb⟩;have HB:O (E w W):=hb;have HW:O (Zo lo base R Pb lm vm cm w0 W r ap m):=HH.below hb;obtain⟨mx,tb,n0,f0,hmx⟩:=HW.nv.iG x hx;rw[<-m0.out]at f0 hmx;have k0:O (tb=decide (0<=pl)):=f0;have o0:O (mx=max 0 pl):=hmx;have c41:D W R 41 (.map (some vm)):=HW.cR.c 41 (by omega);have p0:O (F 71 #[M R,.bool false,I 4] W λe w'=>e=.panicked (Zf 4 ap)/\E W w'):=Ye R 4 ap W (HW.cR.c 1 (by omega));have q0:O (F 71 #[M R,.bool true,I 4] W (Rq (.tuple #[]) W)):=Xc R 4 W;have hz:=hb.size;clear hb HN f0 hmx
  cases tb with
  |true=>
   have h0:0<=pl:=(by have:=k0.out;simpa using this);have d0:O (ra=some ⟨true,pl.toNat⟩):=(by show _=_;rw[HR.out,G h0]);have r0:O (mx=pl):=(by show _=_;rw[o0.out];omega)
   go_wp2_with fail
   refine q0.mono ?_;rintro e w1 ⟨rfl,l0⟩;rw[l0];clear l0 w1 n0 c41;go_wp2;go_ret;exact⟨HB.alloc HB.size _,λa ha=>⟨_,rfl,by rw[d0.out]at ha;simp only[Ql]at ha;subst ha;exact yvy w 1 mx ⟨true,pl.toNat⟩ rfl (by rw[r0.out];simp;omega) HB⟩,λhn=>by rw[d0.out]at hn;cases hn⟩
  |false=>
   have h0:¬0<=pl:=(by have:=k0.out;simpa using this);have d0:O (ra=none):=(by show _=_;rw[HR.out,Z h0])
   go_wp2_with fail
   refine p0.mono ?_;rintro e w1 ⟨rfl,s0⟩;exact⟨rfl,HB.trans (s0.mono (by omega)),λa ha=>(by rw[d0.out]at ha;cases ha),λ_=>rfl⟩
end
def zo5(o:Option da)(ap:Int)(w:World)(e:Ending)(w':World):Prop:=
 E w w'/\(∀x,o=some x->∃pb,e=.returned (M pb)/\zy7 (zp9 w w') w' (ptr pb) x)/\(o=none->e=.panicked (Zf 4 ap))
def Xy.later{a:dI}(h:Xy (zp9 w w1) w1 p a)(hb:E w1 w2):Xy (zp9 w w2) w2 p a:=
 h.kept (λb hb'=>⟨hb'.1,Qj hb'.2 hb.size⟩) (λb hb'=>hb.block b hb'.2)
def Xy.lower{a:dI}(h:Xy (zp9 w1 w2) w2 p a)(hz:w.heap.size<=w1.heap.size):Xy (zp9 w w2) w2 p a:=
 h.kept (λb hb'=>⟨Nat.le_trans hz hb'.1,hb'.2⟩) (λ_ _=>rfl)
section
variable{r:RS}{ap:Int}{m:Xv}
def ze5(h:Zo lo base R Pb lm vm cm w0 w r ap m)(b off cap:Nat)(x:K)(hx:x.length<=100000)(f0:1<=cap)(i0:w.cell? (Y b off)=some (Tq x)):
  F 156 #[M R,Sq b off 1 cap] w (zo5 (r.value [x]) ap w):=by
 have HS:O (F 172 #[M R,Tq x] w (yvz (r.atom x) ap w)):=ze4 h x hx;clear h
 go_enter func156,ntmps156
 go_wp2_with fail
 refine HS.mono ?_;rintro e W ⟨hb,d0,a0⟩;have HB:=A hb;clear hb HS
 cases b0:r.atom x with
 |none=>
  obtain rfl:=a0 b0;exact⟨rfl,HB,λy hy=>(by simp[RS.value,b0]at hy),λ_=>rfl⟩
 |some a=>
  obtain⟨p,rfl,c0⟩:=d0 a b0;obtain⟨vb,rfl,g0⟩:=id c0;have h0:=A c0;have e0:=A b0;clear c0 d0 a0 b0 g0;unfold ptr;go_wp2;go_ret;refine⟨HB,λy hy=>⟨vb,rfl,?_⟩,λhn=>?_⟩
  ·simp only[RS.value,e0.out,Option.map_some,Ql]at hy
   subst hy;exact .inl ⟨rfl,h0⟩
  simp[RS.value,e0.out]at hn
def ym2(h:Zo lo base R Pb lm vm cm w0 w r ap m)(b off cap:Nat)(x o y:K)(hx:x.length<=100000)(ho:o.length<=100000)(hy:y.length<=100000)(n0:0<=ai cC o)(A0:3<=cap)
  (l0:w.cell? (Y b off)=some (Tq x)) (B0:w.cell? (Y b (off+1))=some (Tq o)) (o0:w.cell? (Y b (off+2))=some (Tq y)):
  F 156 #[M R,Sq b off 3 cap] w (zo5 (r.value [x,o,y]) ap w):=by
 obtain⟨ov,m0⟩:=U (α:=Int) (ai cC o)
 have u0:O (∀W,F 165 #[Tq o] W (Rq (.tuple #[I ov,.bool true]) W)):=λW=>by
  have:=zmw o W ho;rw[show (((ai cC o).toNat:Nat):Int)=ov by rw[m0];omega,show decide (0<=ai cC o)=true by simpa using n0]at this;exact this
 have HS:O (∀W z,z.length<=100000->Zo lo base R Pb lm vm cm w0 W r ap m->F 172 #[M R,Tq z] W (yvz (r.atom z) ap W)):=λW z hz hW=>ze4 hW z hz;have HH:=A h
 have p0:0<=ov:=by rw[m0];exact n0
 obtain⟨aX,b0⟩:=U (r.value [x,o,y]);rw[<-b0]
 have e0:O (aX=(r.atom x).bind λa=>(r.atom y).map λc=>⟨ov,a,c⟩):=by show _=_;rw[b0,m0];rfl
 clear h m0 n0 b0
 go_enter func156,ntmps156
 go_wp2_with fail
 refine(u0 _).mono ?_;rintro e w1 ⟨rfl,v0⟩;rw[v0];clear v0 w1 u0 B0
 go_wp2_with fail
 refine Ux (λW=>D W b off (Tq x)/\D W b (off+2) (Tq y)) [] [(0,0),(0,1),(0,2),(0,3),(0,4),(0,6),(0,7),(0,8),(0,9),(1,5),(1,10),(0,11),(1,12),(0,13)] [] (by kernel_rfl) (by kernel_rfl) rfl [(_,_),(_,_),(_,_),(_,_),(_,_),(_,_),(_,_),(_,_),(_,_),(_,_),(_,_),(_,_),(_,_),(_,_)] rfl (λc a d v w h=>by cases d<;>exact h) ⟨l0,o0⟩ (λops hG=>?_);clear hG;simp only[getElem_toArray,getElem_cons_succ,getElem_cons_zero]
 iterate 9 refine Xj rfl (kE (by intros;go_simp<;>rfl) (by go_simp<;>rfl) ?_)
 refine Zs ?_;have ee:b<w.heap.size:=Qe w _ l0
 go_wp2_with fail
 refine(HS w.drew x hx HH.drew).mono ?_;rintro e W ⟨hb,g0,a0⟩;have hB:E w W:=(Below.refl w.heap.size w).drew.trans hb;have HB:=A hB;have HW:O (Zo lo base R Pb lm vm cm w0 W r ap m):=HH.below hB;have d0:D W b off (Tq x):=cT hB ee l0;have d2:D W b (off+2) (Tq y):=cT hB ee o0;have hz:=hB.size;clear l0 o0 hb hB
 cases h0:r.atom x with
 |none=>
  obtain rfl:=a0 h0;have HN:aX=none:=(by rw[e0.out,h0];rfl);exact⟨rfl,HB,λy hy=>(by rw[HN]at hy;cases hy),λ_=>rfl⟩
 |some a=>
  obtain⟨p,rfl,q0⟩:=g0 a h0;obtain⟨xb,rfl,-⟩:=id q0;have C0:O (Xy (zp9 w W) W (ptr xb) a):=by
   refine Xy.kept q0 (λb' hb'=>?_) (λ_ _=>rfl);exact⟨by have:=hb'.1;simpa using this,hb'.2⟩
  have x0:O (aX=(r.atom y).map λc=>⟨ov,a,c⟩):=(by show _=_;rw[e0.out,h0];rfl);clear q0 g0 a0 h0;unfold ptr
  go_wp2_with fail
  refine⟨⟨d0,d2⟩,?_⟩;refine Zs ?_
  go_wp2_with fail
  refine(HS W y hy HW).mono ?_;rintro e W2 ⟨i0,g0,a0⟩;have r0:=A i0;have f0:D W2 b off (Tq x):=cT i0 (by show b<_;omega) d0;have f2:D W2 b (off+2) (Tq y):=cT i0 (by show b<_;omega) d2;have E0:=i0.size;clear d0 d2 i0
  cases j0:r.atom y with
  |none=>
   obtain rfl:=a0 j0;have HN:aX=none:=(by rw[x0.out,j0];rfl);exact⟨rfl,HB.trans (r0.mono (by omega)),λy hy=>(by rw[HN]at hy;cases hy),λ_=>rfl⟩
  |some c=>
   obtain⟨p,rfl,s0⟩:=g0 c j0;obtain⟨yb,rfl,-⟩:=id s0;have D0:O (Xy (zp9 w W2) W2 (ptr yb) c):=Xy.lower s0 (by omega);have t0:O (Xy (zp9 w W2) W2 (ptr xb) a):=Xy.later C0 r0.out;have y0:O (aX=some ⟨ov,a,c⟩):=(by show _=_;rw[x0.out,j0];rfl);have c0:O (E w W2):=HB.trans (r0.mono (by omega));have f0':∀o,D (W2.alloc o) b off (Tq x):=λo=>(Qf _ _ _ (by show b<_;omega)).trans f0;have f2':∀o,D (W2.alloc o) b (off+2) (Tq y):=λo=>(Qf _ _ _ (by show b<_;omega)).trans f2;clear s0 g0 a0 j0;unfold ptr
   go_wp2_with fail
   refine⟨⟨f0,f2⟩,?_⟩;refine Xj rfl (kE (by intro w' hw';go_simp<;>rfl) (by go_simp<;>rfl) ?_);refine Zs ?_
   go_wp2_with fail
   refine⟨⟨f0' _,f2' _⟩,?_⟩;refine Xj rfl (kE (by intro w' hw';go_simp<;>rfl) (by go_simp<;>rfl) ?_);refine Zu ?_;go_wp2;go_ret;refine⟨c0.alloc c0.size _,λz hz'=>⟨_,rfl,?_⟩,λhn=>(by rw[y0.out]at hn;cases hn)⟩;rw[y0.out]at hz';simp only[Ql]at hz';subst hz';have z0:E W2 (W2.alloc (.cells #[I 2,I ov,M xb,M yb] 279)):=bA;refine .inr ⟨p0,W2.heap.size,ptr xb,ptr yb,rfl,⟨c0.size,by simp⟩,?_,Xy.later t0 z0,Xy.later D0 z0⟩;exact Zh.new W2 [I 2,I ov,ptr xb,ptr yb] _
end
section
variable{r:RS}{ap:Int}{m:Xv}
def Zo.jy(h:Zo lo base R Pb lm vm cm w0 w r ap m)(hb:r.ae=true)(x:K)(cq:r.ak.length<4)(hz:w.heap.size<=w'.heap.size)(hq:∀b,b<w.heap.size->b≠vm->b≠Pb->w'.heap[b]?=w.heap[b]?)(a0:Below lo w0 w')
  (b0:Zh w' Pb 5 (rw_ [m.pl,m.bC,m.bH,I ((r.ak.length:Int)+1),m.bv])) (c0:Yy w' vm (r.cells++(r.ak++[x]))):Zo lo base R Pb lm vm cm w0 w' {r with ak:=r.ak++[x]} ap m:=by
 obtain⟨b1,b2,b3,b4,b5,b6⟩:=h.bP;obtain⟨n1,n2,n3,n4,n5,n6,n7,n8,n9,n10⟩:=h.nd;have hr:=h.re.kept (w':=w') hz (λb hw=>hq b (h.re.wh b hw).2 (by have:=h.re.wh b hw;omega) (by have:=h.re.wh b hw;omega));exact{ok:={cn:=h.ok.cn,lv:=h.ok.lv,ce:=h.ok.ce,ch:=h.ok.ch,lo:=by simp;omega,st:=h.ok.st,fr:=h.ok.fr,cl:=h.ok.cl,hl:=h.ok.hl,dw:=h.ok.dw,dm:=h.ok.dm,head:=λhh=>(by rw[show ({r with ak:=r.ak++[x]}:RS).ae=r.ae from rfl,hb]at hh;cases hh),below:=h.ok.below,bC:=h.ok.bC,bH:=h.ok.bH,fA:=h.ok.fA},bel:=a0,fx:=λb f1 f2 f3 f4 f5 f6=>(hq b (by omega) f5 f3).trans (h.fx b f1 f2 f3 f4 f5 f6),cq:=h.cq,bP:=⟨b1,b2,b3,b4,b5,by omega⟩,nd:=h.nd,cR:=(h.cR.block (hq _ (by omega) n3 n1)).congr (λj hj=>(zuw Pb lm vm cm ap r {r with ak:=r.ak++[x]} m m j rfl rfl rfl rfl hj (λ_ _ _ _ _=>rfl)).symm),cP:=by simpa using b0,nl:=h.nl.block (hq _ (by omega) n8 (Ne.symm n5)),nv:=c0,nc:=h.nc.block (hq _ (by omega) (Ne.symm n10) (Ne.symm n7)),tab:=h.tab,re:={wh:=hr.wh,oc:=hr.oc,tc:=hr.tc,oh:=hr.oh,th:=hr.th,pb:=hr.pb,tb:=hr.tb,fa:=hr.fa,oo:=hr.oo,to:=hr.to,la:=hr.la}}
def Fl.RS.jz(r:RS)(x:K):r.bj x=if 0<=ai (r.cells++r.ak) x then some ((ai (r.cells++r.ak) x).toNat,r) else if r.ak.length=4 then none else some (r.cells.length+r.ak.length,{r with ak:=r.ak++[x]}):=by
 unfold RS.bj;rw[eG]
 by_cases hc:0<=ai r.cells x
 ·rw[G hc,G hc,G hc]
 rw[Z hc,Z hc]
 by_cases hl:0<=ai r.ak x
 ·rw[G hl,G hl,G (by omega)]
  congr 2;omega
 rw[Z hl,Z hl,Z (show ¬(0:Int)<= -1 by omega)]
def yi7(lo base R Pb lm vm cm:Nat)(w0:World)(r:RS)(ap:Int)(m:Xv)(x:K)(w:World)(e:Ending)(w':World):Prop:=
 (∃k r',r.bj x=some (k,r')/\e=.returned (I (k:Nat))/\Zo lo base R Pb lm vm cm w0 w' r' ap m/\w.heap.size<=w'.heap.size/\∀b,b<w.heap.size->b≠vm->b≠Pb->w'.heap[b]?=w.heap[b]?)\/(r.bj x=none/\e=.panicked (Zf 5 ap)/\zux lo base R Pb lm vm cm w0 w')
def yvx(h:Zo lo base R Pb lm vm cm w0 w r ap m)(q0:r.ae=true)(x:K)(hx:x.length<=100000):
  F 158 #[M R,Tq x] w (yi7 lo base R Pb lm vm cm w0 r ap m x w):=by
 obtain⟨pl,a0⟩:=U (ai (r.cells++r.ak) x);obtain⟨tg,r0⟩:=U (r.bj x);have hT:=RS.jz r x;rw[<-a0]at hT;have HT:=A hT;obtain⟨mx,tb,B0,e0,hmx⟩:=h.nv.iG x hx;rw[<-a0]at e0 hmx;have k0:=A e0;have s0:=A hmx;have t0:=A a0;have c41:D w R 41 (.map (some vm)):=h.cR.c 41 (by omega);have c0:D w R 0 (M Pb):=h.cR.c 0 (by omega);have p3:D w Pb 3 (I r.ak.length):=h.cP.c 3 (by omega);have HH:=A h;have u0:=h.ok.lo;have C0:=h.ok.ce;have bP:=h.bP;have cq:=h.cq;have D0:=h.nd;clear h hT r0 e0 hmx a0
 cases tb with
 |true=>
  have h0:0<=pl:=(by have:=k0.out;simpa using this);have v0:O (mx=(pl.toNat:Int)):=(by show _=_;rw[s0.out];omega)
  go_enter func158,ntmps158
  go_wp2;go_ret;exact .inl ⟨pl.toNat,r,by rw[HT.out,G h0],by rw[<-v0.out];rfl,HH,lE,λ_ _ _ _=>rfl⟩
 |false=>
  have h0:¬0<=pl:=(by have:=k0.out;simpa using this);have l0:O (F 71 #[M R,.bool false,I 5] w λe w'=>e=.panicked (Zf 5 ap)/\E w w'):=Ye R 5 ap w (HH.cR.c 1 (by omega));have m0:O (F 71 #[M R,.bool true,I 5] w (Rq (.tuple #[]) w)):=Xc R 5 w
  by_cases h4:r.ak.length=4
  ·have f0:O (r.bj x=none):=by show _=_;rw[HT.out,Z h0,G h4]
   have b4:¬(r.ak.length:Int)<4:=(by omega);clear h4
   go_enter func158,ntmps158
   go_wp2_with fail
   try rw[show decide ((r.ak.length:Int)<4)=false from decide_eq_false (by omega)]
   refine l0.mono ?_;rintro e w1 ⟨rfl,g0⟩;exact⟨rfl,.inr ⟨f0,rfl,HH.gone g0⟩⟩
  have f0:O (r.bj x=some (r.cells.length+r.ak.length,{r with ak:=r.ak++[x]})):=(by show _=_;rw[HT.out,Z h0,Z h4]);have b4:(r.ak.length:Int)<4:=(by omega);obtain⟨W2,i0,n0,b0⟩:=HH.nv.put x hx (by rw[<-t0.out];omega) (by simp;omega);have bt:=HH.nv.len;obtain⟨nn,j0⟩:=U ((r.cells++r.ak).length);rw[<-j0]at i0 bt;have x0:O (nn=r.cells.length+r.ak.length):=(by show _=_;rw[j0];simp);have q2:∀k,k<w.heap.size->k≠vm->W2.heap[k]?=w.heap[k]?:=λk hk y0=>b0.block k hk (by simpa using y0);have d0:D W2 R 0 (M Pb):=cQ (q2 R (by omega) (by omega)) c0;have d3:D W2 Pb 3 (I r.ak.length):=cQ (q2 Pb (by omega) (by omega)) p3;have dz:∀j,W2.frozen? (Y Pb j)=false:=λj=>fQ (q2 Pb (by omega) (by omega)) (HH.cP.z j);have E0:=b0.size;have HF:O (Zo lo base R Pb lm vm cm w0 (W2.setCell (Y Pb 3) (I ((r.ak.length:Int)+1))) {r with ak:=r.ak++[x]} ap m/\w.heap.size<=(W2.setCell (Y Pb 3) (I ((r.ak.length:Int)+1))).heap.size/\∀b,b<w.heap.size->b≠vm->b≠Pb->(W2.setCell (Y Pb 3) (I ((r.ak.length:Int)+1))).heap[b]?=w.heap[b]?):=by
   have o0:∀b,b<w.heap.size->b≠vm->b≠Pb->(W2.setCell (Y Pb 3) (I ((r.ak.length:Int)+1))).heap[b]?=w.heap[b]?:=λb g0 z0 A0=>by rw[Zx _ _ _ _ _ A0];exact q2 b g0 z0
   refine⟨HH.jy q0 x (by omega) (by rw[Zy];omega) o0 ?_ ?_ ?_,by rw[Zy];omega,o0⟩
   ·exact(HH.bel.grown b0 (by have:=HH.bel.size;omega) (λk hk=>by simp only[Ql]at hk;omega)).setCell (by show lo<=Pb;omega) _
   ·have hc:=(HH.cP.block (w':=W2) (q2 Pb (by omega) (by omega))).set (j:=3) (by omega) (I ((r.ak.length:Int)+1))
    refine hc.congr λk hk=>?_;rcases(show k=0\/k=1\/k=2\/k=3\/k=4 by omega) with rfl|rfl|rfl|rfl|rfl<;>rfl
   rw[<-append_assoc];exact n0.block (Zx _ _ _ _ _ (by omega))
  clear b0 n0 q2 h4 j0
  go_enter func158,ntmps158
  go_wp2_with fail
  refine m0.mono ?_;rintro e w1 ⟨rfl,p0⟩;rw[p0];clear p0 w1 m0 l0;go_wp2;go_ret;exact .inl ⟨_,_,f0,by rw[<-x0.out];rfl,HF⟩
end
section
variable{r:RS}{ap:Int}{m:Xv}
def zw0(gs:List GF):Value:=match gs with
 |[]=> .pointer none
 |g::_=> M g.ob
def zhz(h:Zo lo base R Pb lm vm cm w0 w r ap m):∃ao cap,m.ov=J ao r.fr.length cap/\r.fr.length<=cap/\(0<r.fr.length->∃g,ao=some (Y g 0)/\base<=g/\g<w.heap.size/\w.cell? (Y g (r.fr.length - 1))=some (zw0 m.gs)):=by
 have hl:=h.re.fa.len;rcases h.re.oo.2 with⟨h1,h2⟩|⟨g,cap,cur,h1,hb,hg,b0,c0,d0,ht⟩
 ·exact⟨none,0,by rw[h1,h2],by omega,λh0=>by omega⟩
 refine⟨_,cap,h1,by omega,λh0=>⟨g,rfl,hb,(Array.getElem?_eq_some_iff.1 hg).1,?_⟩⟩
 have h4:=h.re.oo.cells (g:=g) (by rw[h1];rfl) (r.fr.length - 1) (zw0 m.gs) (by
  cases a0:m.gs with
  |nil=>rw[a0]at hl;simp at hl;omega
  |cons a l=>
   rw[a0]at hl;simp only[map_cons,reverse_cons,length_cons]at hl⊢;rw[getElem?_append_right (by simp;omega)];simp only[length_reverse,length_map]
   rw[show r.fr.length - 1 - l.length=0 by omega];rfl)
 have h5:((Y g 0):Addr).add (r.fr.length - 1)=(Y g (r.fr.length - 1)):=by unfold Addr.add;split<;>simp_all
 rw[h5]at h4;exact h4
def zuv(h:Zo lo base R Pb lm vm cm w0 w r ap m):
  F 160 #[M R] w λe w'=>e=.returned (zw0 m.gs)/\E w w'/\w'.heap=w.heap:=by
 obtain⟨ao,cap,f0,c0,a0⟩:=zhz h
 have c43:w.cell? (Y R 43)=some (J ao r.fr.length cap):=by rw[<-f0];exact h.cR.c 43 (by omega)
 have hl:=h.re.fa.len;have g0:=h.ok.fr
 by_cases h0:r.fr.length=0
 ·have b0:((r.fr.length:Int)==0)=true:=by rw[h0];rfl
  have HG:O (m.gs=[]):=Qi (by omega);clear a0 h0 hl h
  go_enter func160,ntmps160
  go_wp2;go_ret;exact⟨by rw[HG.out];rfl,Below.refl _ _,rfl⟩
 have b0:((r.fr.length:Int)==0)=false:=by rw[Qh];omega
 obtain⟨g,rfl,j0,k0,d0⟩:=a0 (by omega);obtain⟨n,hn⟩:∃n,r.fr.length=n+1:=⟨r.fr.length - 1,by omega⟩;rw[hn]at c43 d0 b0 c0;rw[Nat.add_sub_cancel]at d0;obtain⟨lv,e0⟩:=U (zw0 m.gs);rw[<-e0]at d0⊢;have gv:∃q,lv=M q:=by
  rw[e0]
  cases i0:m.gs with
  |nil=>rw[i0]at hl;simp at hl;omega
  |cons a l=>exact⟨_,rfl⟩
 obtain⟨q,rfl⟩:=gv
 have l0:(n:Int)<=2:=by omega
 have m0:(0:Int)<=(n:Int):=by omega
 clear h0 hl h f0 e0 hn g0;have n0:n+1<=cap:=c0
 have o0:IntKind.i64.wrap (n:Int)=(n:Int):=by simp[IntKind.wrap,IntKind.signed,IntKind.bits];omega
 have p0:(n:Int)<(n:Int)+1:=by omega
 go_enter func160,ntmps160
 go_wp2_with fail
 refine wp_region_still_lit (by kernel_rfl) (by kernel_rfl) ?_
 iterate 13 still_step
 refine wpStill_nil ?_;go_wp2;go_ret;exact⟨rfl,dA,rfl⟩
end
def Tryz.infoPStmt:(Tryz.prog.info? 201).map (λi=>(i.zero,i.size,i.bytes))=some (some (.pointer none),1,8):=by kernel_rfl
structure zwz(e:TypeId)(lo base:Nat)(w0 W w':World)(sb si:Nat)(av v':Value)(n:Nat)(xs:Vs)(x:Value):Prop where
 own:w'.ownsRow base e 1 v' (n+1) (xs++[x])
 wh:v'.ownBlock=av.ownBlock\/∃g,v'.ownBlock=some g/\W.heap.size<=g
 hz:W.heap.size<=w'.heap.size
 q:∀b,b<W.heap.size->b≠sb->av.ownBlock≠some b->w'.heap[b]?=W.heap[b]?
 cs:∀nn f,Zh W sb nn f->si<nn->Zh w' sb nn (λi=>if i=si then v' else f i)
 bel:Below lo w0 w'
section
variable{r:RS}{ap:Int}{m:Xv}
def zwz.of{W4:World}{sb si:Nat}{o:Obj}{av:Value}(hb:Below lo w0 W)(d0:lo<=sb)(hlb:lo<=base)(e0:lo<=W.heap.size)(ho:W4.ownsRow base e 1 v' (n+1) (xs++[x]))(hg:(W.alloc o).grownBy W4 av.ownBlock)(hw:v'.ownBlock=av.ownBlock\/v'.ownBlock=some (W.alloc o).heap.size)(b0:∀k,av.ownBlock=some k->base<=k/\k<W.heap.size/\k≠sb)(f0:sb<W.heap.size):
  zwz e lo base w0 W (W4.setCell (Y sb si) v') sb si av v' n xs x:=by
 have k0:(W.alloc o).heap.size=W.heap.size+1:=by simp
 have l0:=hg.size;have hq:∀b,b<W.heap.size->av.ownBlock≠some b->W4.heap[b]?=W.heap[b]?:=λb c0 g0=>(hg.block b (by omega) (λhh=>g0 hh.symm)).trans (((Below.refl W.heap.size W).alloc lE o).block b c0);have h0:W4.heap[sb]?=W.heap[sb]?:=hq sb f0 (λhh=>(b0 sb hh).2.2 rfl)
 have i0:∀b,v'.ownBlock=some b->b≠sb:=λb a0 he=>by
  rcases hw with hw|hw
  ·exact(b0 b (hw.symm.trans a0)).2.2 he
  rw[hw]at a0;simp only[Ql]at a0;omega
 refine⟨Zj ho (λb a0=>Zx _ _ _ _ _ (i0 b a0)),?_,by rw[Zy];omega,λb c0 hb2 hb3=>?_,λnn f hc hsi=>(hc.block h0).set hsi v',?_⟩
 ·rcases hw with hw|hw
  ·exact .inl hw
  exact .inr ⟨_,hw,by omega⟩
 ·rw[Zx _ _ _ _ _ hb2];exact hq b c0 hb3
 have j0:Below lo w0 W4:=(hb.alloc e0 o).grown hg (by omega) (λk hk=>by have:=(b0 k hk).1;omega);exact j0.setCell d0 _
def Zo.aP(h:Zo lo base R Pb lm vm cm w0 w r ap m)(b j:Nat)(v:Value)(hb:base<=b)(h5:m.bz b=5):Zo lo base R Pb lm vm cm w0 (w.setCell (Y b j) v) r ap m:=by
 obtain⟨b1,b2,b3,b4,b5,b6⟩:=h.bP;obtain⟨l1,l2,l3,l4,l5⟩:=h.cq;have hz:(w.setCell (Y b j) v).heap.size=w.heap.size:=Zy _ _ _;have q:∀k,k≠b->(w.setCell (Y b j) v).heap[k]?=w.heap[k]?:=λk hk=>Zx _ _ _ _ _ hk;exact{ok:=h.ok,bel:=h.bel.setCell (by show lo<=b;omega) _,fx:=λb' f1 f2 f3 f4 f5 f6=>(q b' (by omega)).trans (h.fx b' f1 f2 f3 f4 f5 f6),cq:=h.cq,bP:=⟨b1,b2,b3,b4,b5,by omega⟩,nd:=h.nd,cR:=h.cR.block (q _ (by omega)),cP:=h.cP.block (q _ (by omega)),nl:=h.nl.block (q _ (by omega)),nv:=h.nv.block (q _ (by omega)),nc:=h.nc.block (q _ (by omega)),tab:=h.tab,re:=h.re.kept (by omega) (λk hk=>q k (λhe=>hk (by rw[he];exact h5)))}
def Zo.count(h:Zo lo base R Pb lm vm cm w0 w r ap m)(hb:r.ae=true)(hs:r.am<16):Zo lo base R Pb lm vm cm w0 (w.setCell (Y R 44) (I ((r.am:Int)+1))) {r with am:=r.am+1} ap m:=by
 obtain⟨b1,b2,b3,b4,b5,b6⟩:=h.bP;obtain⟨l1,l2,l3,l4,l5⟩:=h.cq;obtain⟨n1,n2,n3,n4,n5,n6,n7,n8,n9,n10⟩:=h.nd;have hz:(w.setCell (Y R 44) (I ((r.am:Int)+1))).heap.size=w.heap.size:=Zy _ _ _;have q:∀k,k≠R->(w.setCell (Y R 44) (I ((r.am:Int)+1))).heap[k]?=w.heap[k]?:=λk hk=>Zx _ _ _ _ _ hk;have hr:=h.re.kept (w':=w.setCell (Y R 44) (I ((r.am:Int)+1))) (by omega) (λk hk=>q k (by have:=h.re.wh k hk;omega))
 exact{
     ok:={cn:=h.ok.cn.mono (by show r.am<=r.am+1;omega),lv:=h.ok.lv,ce:=h.ok.ce,ch:=h.ok.ch,lo:=h.ok.lo,st:=(by show r.am+1<=16;omega),fr:=h.ok.fr,cl:=h.ok.cl,hl:=h.ok.hl,dw:=h.ok.dw,dm:=h.ok.dm,head:=λhh=>(by rw[show ({r with am:=r.am+1}:RS).ae=r.ae from rfl,hb]at hh;cases hh),below:=h.ok.below,bC:=h.ok.bC,bH:=h.ok.bH,fA:=h.ok.fA},bel:=h.bel.setCell (by show lo<=R;omega) _,fx:=λb f1 f2 f3 f4 f5 f6=>(q b f2).trans (h.fx b f1 f2 f3 f4 f5 f6),cq:=h.cq,bP:=⟨b1,b2,b3,b4,b5,by omega⟩,nd:=h.nd,cR:=(h.cR.set (j:=44) (by omega) (I ((r.am:Int)+1))).congr (λj hj=>by
      by_cases h4:j=44
      ·subst h4;rfl
      rw[Z h4];unfold Vx
      by_cases hs:j=0\/j=1\/j=2\/j=3\/j=40\/j=41\/j=42\/j=43
      ·rcases hs with rfl|rfl|rfl|rfl|rfl|rfl|rfl|rfl<;>rfl
      rw[Z (show ¬j=0 by omega),Z (show ¬j=1 by omega),Z (show ¬j=2 by omega),Z (show ¬j=3 by omega),Z (show ¬j=40 by omega),Z (show ¬j=41 by omega),Z (show ¬j=42 by omega),Z (show ¬j=43 by omega),Z h4]
      rw[Z (show ¬j=0 by omega),Z (show ¬j=1 by omega),Z (show ¬j=2 by omega),Z (show ¬j=3 by omega),Z (show ¬j=40 by omega),Z (show ¬j=41 by omega),Z (show ¬j=42 by omega),Z (show ¬j=43 by omega),Z h4]),cP:=h.cP.block (q _ (Ne.symm n1)),nl:=h.nl.block (q _ (Ne.symm n2)),nv:=h.nv.block (q _ (Ne.symm n3)),nc:=h.nc.block (q _ (Ne.symm n4)),tab:=h.tab,re:={wh:=hr.wh,oc:=hr.oc,tc:=hr.tc,oh:=hr.oh,th:=hr.th,pb:=hr.pb,tb:=hr.tb,fa:=hr.fa,oo:=hr.oo,to:=hr.to,la:=hr.la}}
def zz8(Pb:Nat):List GF->Nat
 |[]=>Pb
 |g::_=>g.sb
def zm0:List Fl.Frame->Nat
 |[]=>4
 |f::_=>if f.cA then 5 else 4
def zx6(bv:Value):List Fl.Frame->List GF->Value
 |f::_,g::_=>g.act f
 |_,_=>bv
def yvw{ts:List aa}{tl:Vs}(h:Yr d S base W v ts tl):∃xs,W.ownsRow base 201 1 v (ts.length+tl.length) xs:=by
 obtain⟨ps,h1,h2,_⟩:=h;exact⟨_,by rw[<-h2];exact h1⟩
def zvz(h:W.ownsRow base e 1 v n xs):∃ao cap,v=J ao n cap:=by
 rcases h.2 with⟨h1,h2⟩|⟨g,cp,cur,h1,_⟩
 ·exact⟨none,0,by rw[h1,h2]⟩
 exact⟨_,cp,h1⟩
def act_at(h:Zo lo base R Pb lm vm cm w0 w r ap m):∃n xs ao cap,zx6 m.bv r.fr m.gs=J ao n cap/\n<=16/\w.ownsRow base 201 1 (zx6 m.bv r.fr m.gs) n xs/\w.cell? (Y (zz8 Pb m.gs) (zm0 r.fr))=some (zx6 m.bv r.fr m.gs)/\(∀j,w.frozen? (Y (zz8 Pb m.gs) j)=false)/\zz8 Pb m.gs<w.heap.size/\lo<=zz8 Pb m.gs/\(∀k,(zx6 m.bv r.fr m.gs).ownBlock=some k->base<=k/\k<w.heap.size/\k≠zz8 Pb m.gs)/\
  ((m.gs=[]/\r.fr=[])\/∃f fs g gs,r.fr=f::fs/\m.gs=g::gs/\w.cell? (Y g.ob 0)=some (M g.sb)/\w.cell? (Y g.ob 1)=some (.bool f.cA)):=by
 have hl:=h.re.fa.len;have bP:=h.bP;have cq:=h.cq;have dx:=h.ok.st;have d0:=h.ok.cn
 cases b0:m.gs with
 |nil=>
  have a0:r.fr=[]:=(by rw[b0]at hl;simp at hl;exact Qi hl.symm);have hp:=h.re.pb;rw[b0]at hp;obtain⟨xs,hx⟩:=yvw hp;obtain⟨ao,cap,hs⟩:=zvz hx;rw[a0];simp only[Vc,length_nil,Nat.add_zero]at hx hs;refine⟨_,xs,ao,cap,hs,?_,hx,h.cP.c 4 (by omega),h.cP.z,by show Pb<_;omega,by show lo<=Pb;omega,λk hk=>?_,.inl ⟨rfl,rfl⟩⟩
  ·have:=d0.1;omega
  have:=hx.lt k hk;exact⟨this.1,this.2,by show k≠Pb;omega⟩
 |cons g gs=>
  cases a0:r.fr with
  |nil=>rw[b0,a0]at hl;simp at hl
  |cons f fs=>
   have e0:=h.re.fa;rw[b0,a0]at e0;obtain⟨hf,_⟩:=e0;obtain⟨xs,hx⟩:=yvw hf.pa;obtain⟨ao,cap,hs⟩:=zvz hx;simp only[length_nil,Nat.add_zero]at hx hs;have c0:=d0.2;rw[a0]at c0;have f0:=h.re.wh g.sb (by rw[hf.ts];omega);refine⟨_,xs,ao,cap,hs,?_,hx,?_,hf.cs.z,f0.2,by show lo<=g.sb;omega,λk hk=>?_,.inr ⟨f,fs,g,gs,rfl,rfl,hf.co.c 0 (by omega),hf.co.c 1 (by omega)⟩⟩
   ·have h1:=c0.1;have h2:=c0.2.1
    split<;>rename_i hh<;>simp[hh]at h1 h2<;>omega
   ·show w.cell? (Y g.sb (if f.cA then 5 else 4))=some (g.act f)
    unfold GF.act
    cases hh:f.cA
    ·exact hf.cs.c 4 (by omega)
    exact hf.cs.c 5 (by omega)
   have:=hx.lt k hk;refine⟨this.1,this.2,λhe=>?_⟩;have h1:=hf.ta k hk;have he':k=g.sb:=he;rw[he',hf.ts]at h1;omega
def zc1(lo base R Pb lm vm cm:Nat)(w0:World)(r:RS)(ap:Int)(m:Xv)(sn:Nat)(kind x:Int)(vp:Value)(w:World)(e:Ending)(w':World):Prop:=
 (16<=r.am/\e=.panicked (Zf 5 ap)/\zux lo base R Pb lm vm cm w0 w')\/(r.am<16/\e=.returned (.tuple #[])/\∃W2,Zo lo base R Pb lm vm cm w0 W2 {r with am:=r.am+1} ap m/\W2.heap.size=w.heap.size/\(∀b,b≠R->b≠sn->W2.heap[b]?=w.heap[b]?)/\
  Zh W2 sn 6 (rw_ [I kind,I ap,I x,vp,Zq,Zq])/\∃n xs v',W2.ownsRow base 201 1 (zx6 m.bv r.fr m.gs) n xs/\zwz 201 lo base w0 W2 w' (zz8 Pb m.gs) (zm0 r.fr) (zx6 m.bv r.fr m.gs) v' n xs (ptr sn))
def yvv(h:Zo lo base R Pb lm vm cm w0 w r ap m)(U0:r.ae=true)(sn:Nat)(kind x:Int)(vp:Value)(V0:base<=sn)(W0:m.bz sn=5)(cH:sn<w.heap.size)(G0:Zh w sn 6 (rw_ [I kind,I 0,I x,vp,Zq,Zq])):
  F 157 #[M R,M sn] w (zc1 lo base R Pb lm vm cm w0 r ap m sn kind x vp w):=by
 have dx:=h.ok.st;have c44:D w R 44 (I r.am):=h.cR.c 44 (by omega);have zR:=h.cR.z;have bP:=h.bP;have cq:=h.cq;have HH:=A h;have H0:O (F 71 #[M R,.bool false,I 5] w λe w'=>e=.panicked (Zf 5 ap)/\E w w'):=Ye R 5 ap w (h.cR.c 1 (by omega));have I0:O (F 71 #[M R,.bool true,I 5] w (Rq (.tuple #[]) w)):=Xc R 5 w;have v0:=A G0;clear h G0
 by_cases X0:16<=r.am
 ·have b16:¬(r.am:Int)<16:=by omega
  go_enter func157,ntmps157
  go_wp2_with fail
  try rw[show decide ((r.am:Int)<16)=false from decide_eq_false (by omega)]
  refine H0.mono ?_;rintro e w1 ⟨rfl,Y0⟩;exact⟨rfl,.inl ⟨X0,rfl,HH.gone Y0⟩⟩
 have b16:(r.am:Int)<16:=by omega
 have Z0:R≠sn:=by omega
 obtain⟨W1,c0⟩:=U (w.setCell (Y R 44) (I ((r.am:Int)+1)));obtain⟨W2,k0⟩:=U (W1.setCell (Y sn 1) (I ap))
 have H1:Zo lo base R Pb lm vm cm w0 W1 {r with am:=r.am+1} ap m:=by rw[c0];exact HH.count U0 (by omega)
 have H2:Zo lo base R Pb lm vm cm w0 W2 {r with am:=r.am+1} ap m:=by rw[k0];exact H1.aP sn 1 _ V0 W0
 have x0:Zh W1 sn 6 (rw_ [I kind,I 0,I x,vp,Zq,Zq]):=by rw[c0];exact v0.block (Zx _ _ _ _ _ (Ne.symm Z0))
 have J0:O (Zh W2 sn 6 (rw_ [I kind,I ap,I x,vp,Zq,Zq])):=by
  rw[k0];refine(x0.set (j:=1) (by omega) (I ap)).congr λk hk=>?_;rcases(show k=0\/k=1\/k=2\/k=3\/k=4\/k=5 by omega) with rfl|rfl|rfl|rfl|rfl|rfl<;>rfl
 have K0:=A H2
 have L0:O (W2.heap.size=w.heap.size):=by show _=_;rw[k0,Zy,c0,Zy]
 have M0:O (∀b,b≠R->b≠sn->W2.heap[b]?=w.heap[b]?):=λb h1 h2=>by rw[k0,Zx _ _ _ _ _ h2,c0,Zx _ _ _ _ _ h1]
 have d1:(w.setCell (Y R 44) (I ((r.am:Int)+1))).cell? (Y R 1)=some (I ap):=by rw[<-c0];exact H1.cR.c 1 (by omega)
 have s1:(w.setCell (Y R 44) (I ((r.am:Int)+1))).cell? (Y sn 1)=some (I 0):=by rw[<-c0];exact x0.c 1 (by omega)
 have sz1:∀j,w.frozen? (Y sn j)=false:=v0.z
 have e0:((w.setCell (Y R 44) (I ((r.am:Int)+1))).setCell (Y sn 1) (I ap)).cell? (Y R 0)=some (M Pb):=by rw[<-c0,<-k0];exact H2.cR.c 0 (by omega)
 have N0:O (W2=(w.setCell (Y R 44) (I ((r.am:Int)+1))).setCell (Y sn 1) (I ap)):=by show _=_;rw[k0,c0]
 have O0:O (F 160 #[M R] W2 λe w'=>e=.returned (zw0 m.gs)/\E W2 w'/\w'.heap=W2.heap):=zuv H2;clear H1 H2 x0 c0 k0
 go_enter func157,ntmps157
 go_wp2_with fail
 refine I0.mono ?_;rintro e w1 ⟨rfl,P0⟩;rw[P0];clear P0 w1 I0 H0
 go_wp2_with fail
 rw[<-N0.out];refine O0.mono ?_;rintro e W3 ⟨rfl,Q0,s0⟩;have u0:O (Zo lo base R Pb lm vm cm w0 W3 {r with am:=r.am+1} ap m):=K0.below Q0;have a1:O (Zh W3 sn 6 (rw_ [I kind,I ap,I x,vp,Zq,Zq])):=J0.block (by rw[s0])
 have b1:O (W3.heap.size=w.heap.size):=by show _=_;rw[s0];exact L0
 have c1:O (∀b,b≠R->b≠sn->W3.heap[b]?=w.heap[b]?):=λb h1 h2=>by rw[s0];exact M0 b h1 h2
 clear Q0 s0 K0 J0 L0 M0 O0 N0 d1 s1 sz1 e0 c44 zR v0;obtain⟨n,xs,ao,cap,R0,e1,m0,h0,y0,d0,n0,o0,p0⟩:=act_at u0.out;have q0:=A R0
 have l0:O (W3.ownsRow base 201 1 (J ao n cap) n xs):=by show ownsRow _ _ _ _ _ _ _;rw[<-q0.out];exact m0
 have a0:O (∀k,(J ao n cap).ownBlock=some k->base<=k/\k<W3.heap.size/\k≠zz8 Pb m.gs):=by rw[<-q0.out];exact o0
 have z0:=A u0.bel
 have hcell':W3.cell? (Y (zz8 Pb m.gs) (zm0 r.fr))=some (J ao n cap):=by rw[<-q0.out];exact h0
 have A0:base<=W3.heap.size:=u0.bP.2.2.2.2.2
 have f0:O (∀(W4:World) (v':Value) (o:Obj),W4.ownsRow base 201 1 v' (n+1) (xs++[ptr sn])->(W3.alloc o).grownBy W4 (J ao n cap).ownBlock->(v'.ownBlock=(J ao n cap).ownBlock\/v'.ownBlock=some (W3.alloc o).heap.size)->
   zc1 lo base R Pb lm vm cm w0 r ap m sn kind x vp w (.returned (.tuple #[])) (W4.setCell (Y (zz8 Pb m.gs) (zm0 r.fr)) v')):=λW4 v' o h1 h2 h3=>
  .inr ⟨by omega,rfl,W3,u0,b1,c1,a1,n,xs,v',by rw[q0.out];exact l0.out,by rw[q0.out];exact zwz.of z0 n0 (by omega) (by omega) h1 h2 h3 a0 d0⟩
 have t0:∀i u,([M sn]:Vs)[i]?=some u->(W3.alloc (.cells #[M sn] 201)).cell? (((Y W3.heap.size 0):Addr).add i)=some u:=Xw;obtain⟨i0,f1,g1,i1,j1⟩:=info_parts Tryz.infoPStmt;clear R0 m0 h0 o0 n0;rcases p0 with⟨B0,S0⟩|⟨f,fs,g,gs,T0,C0,co0,co1⟩
 rotate_left
 cases D0:f.cA
 all_goals first
  |have hL:zw0 m.gs=M g.ob:=by rw[C0];rfl
   have g0:zz8 Pb m.gs=g.sb:=(by rw[C0];rfl);have j0:zm0 r.fr=if f.cA then 5 else 4:=(by rw[T0];rfl);simp only[D0,Bool.false_eq_true,if_true,if_false]at j0;rw[D0]at co1;rw[hL];rw[g0,j0]at hcell';rw[g0]at y0 d0 a0;simp only[g0,j0]at f0;clear hL g0 j0 C0 T0 D0;generalize g.sb=gb at*;generalize g.ob=go at*
  |have hL:zw0 m.gs=.pointer none:=by rw[B0];rfl
   have g0:zz8 Pb m.gs=Pb:=(by rw[B0];rfl);have j0:zm0 r.fr=4:=(by rw[S0];rfl);rw[hL];rw[g0,j0]at hcell';rw[g0]at y0 d0 a0;simp only[g0,j0]at f0;clear hL g0 j0 B0 S0
 all_goals
  go_wp2_with (at_builtin;refine Ap underlying96 f1 g1 i1 j1 rfl (l0.alloc _) rfl [M sn] rfl rfl t0 ?c2 ?c3 ?c4 ?c5 ?_)
  case c2=>intro u hu;simp at hu;subst hu;rfl
  case c3=>unfold maxLen;omega
  case c4=>omega
  case c5=>simp;omega
  intro v' W4 b0 E0 r0;obtain⟨va,vcap,rfl⟩:=zvz b0;have F0:=(E0.block _ (by simp;omega) (λhh=>(a0 _ hh.symm).2.2 rfl)).trans (((Below.refl W3.heap.size W3).alloc lE _).block _ d0);have g4:=cQ F0 hcell';have gz:=λj=>fQ F0 (y0 j);have HE:=A (f0 W4 _ _ b0 E0 r0);clear b0 E0 r0 F0 f0 l0 a0;go_wp2
  go_end0
  exact HE
end
section
variable{r:RS}{ap:Int}{m:Xv}
structure LowAt(base:Nat)(w':World)(r:RS)(m:Xv)(who':Nat->Nat):Prop where
 oc:w'.ownsRow base 3 1 m.bC r.aT.length (Ym r.aT)/\∀b,m.bC.ownBlock=some b->who' b=3
 oh:w'.ownsRow base 3 1 m.bH r.aS.length (Ym r.aS)/\∀b,m.bH.ownBlock=some b->who' b=4
 pb:Yr 3 (λb=>who' b=0) base w' m.bv r.ct (Vc m.gs)/\∀b,m.bv.ownBlock=some b->who' b=1
 oo:w'.ownsRow base 272 1 m.ov r.fr.length ((m.gs.map λg=>ptr g.ob).reverse)/\∀b,m.ov.ownBlock=some b->who' b=2
 la:r.ae=true->∃Lb,m.pl=ptr Lb/\who' Lb=0/\Un w' Lb r.au.length r.tab
def ztv.aI(h:ztv base w r m)(who':Nat->Nat)(q:∀b,m.bz b<5->who' b=m.bz b/\w'.heap[b]?=w.heap[b]?):LowAt base w' r m who':=by
 have qq:∀(v:Value) (T:Nat),T<5->(∀b,v.ownBlock=some b->m.bz b=T)->∀b,v.ownBlock=some b->who' b=T/\w'.heap[b]?=w.heap[b]?:=λv T hT hv b hb=>by
  have:=q b (by rw[hv b hb];exact hT);rw[hv b hb]at this;exact this
 have q0:∀b,m.bz b=0->who' b=0/\w'.heap[b]?=w.heap[b]?:=λb hb=>by have:=q b (by rw[hb];decide);rw[hb]at this;exact this
 refine{oc:= ?_,oh:= ?_,pb:= ?_,oo:= ?_,la:=λhg=>?_}
 ·have q3:=qq m.bC 3 (by decide) h.tc;exact⟨Zj h.oc (λb hv=>(q3 b hv).2),λb hb=>(q3 b hb).1⟩
 ·have q3:=qq m.bH 4 (by decide) h.th;exact⟨Zj h.oh (λb hv=>(q3 b hv).2),λb hb=>(q3 b hb).1⟩
 ·have q3:=qq m.bv 1 (by decide) h.tb
  exact⟨h.pb.kept (λb hb=>(q0 b hb).1) (λb hb=>(q0 b hb).2) (λb hv=>(q3 b hv).2),λb hb=>(q3 b hb).1⟩
 ·have q3:=qq m.ov 2 (by decide) h.to;exact⟨Zj h.oo (λb hv=>(q3 b hv).2),λb hb=>(q3 b hb).1⟩
 obtain⟨Lb,l1,l2,l3⟩:=h.la hg;exact⟨Lb,l1,(q0 Lb l2).1,l3.block (q0 Lb l2).2⟩
def ze6{n':Nat}{ys:Vs}(h:W.ownsRow base e 1 v n xs)(k:W.ownsRow base e 1 v n' ys):n=n'/\xs=ys:=by
 have hx:xs.length=n:=by simpa using h.1
 have hy:ys.length=n':=by simpa using k.1
 obtain⟨ao,cap,hs⟩:=zvz h;obtain⟨ao',cap',hs'⟩:=zvz k;rw[hs]at hs';simp only[slice.injEq]at hs';obtain⟨_,rfl,_⟩:=hs';refine⟨rfl,?_⟩;rcases h.2 with⟨h1,h2⟩|⟨g,cp,cur,h1,_⟩
 ·rw[Qi (by omega:xs.length=0),Qi (by omega:ys.length=0)]
 apply ext_getElem? 
 intro i
 by_cases hi:i<n
 ·have a1:=h.cells (g:=g) (by rw[h1];rfl) i (xs[i]'(by omega)) (Qb _)
  have a2:=k.cells (g:=g) (by rw[h1];rfl) i (ys[i]'(by omega)) (Qb _);rw[a1]at a2;rw[Qb (by omega),Qb (by omega)];exact a2
 rw[getElem?_eq_none (by omega),getElem?_eq_none (by omega)]
def Yr.snoc{ts:List aa}{s:aa}(h:Yr d S base W v ts [])(ho:W.ownsRow base 201 1 v n xs)(ho':w'.ownsRow base 201 1 v' (n+1) (xs++[p]))(hS:∀b,S b->S' b)(hw:∀b,S b->w'.heap[b]?=W.heap[b]?)(hp:zy2 (Zl d) S' w' p s):Yr d S' base w' v' (ts++[s]) []:=by
 obtain⟨ps,h1,h2,h3⟩:=h;simp only[append_nil,length_nil,Nat.add_zero]at h1;obtain⟨rfl,rfl⟩:=ze6 h1 ho;refine⟨ps++[p],by simpa using ho',by simp[h2],λi hi=>?_⟩
 by_cases a0:i<ts.length
 ·have:=(h3 i a0).kept (λv l h=>Zl.kept hS hw d v l h) hS hw
  rw[Qa,getElem?_append_left (by omega),Qa,getElem?_append_left a0];rw[Qa,Qa]at this;exact this
 have b0:i=ts.length:=by simp at hi;omega
 subst b0;rw[Qa,getElem?_append_right (by omega),Qa,getElem?_append_right (by omega)];rw[h2];simpa using hp
def Uj(bz:Nat->Nat)(z1 z2 T:Nat)(v':Value):Nat->Nat:=λb=>if z1<=b/\b<z2 then 0 else if v'.ownBlock=some b then T else bz b
def ze7(hI:∀b,bz b≠5->b<z1)(hT:T≠5)(hv:∀b,v.ownBlock=some b->bz b=T)(hz:z1<=z2)(hw:v'.ownBlock=v.ownBlock\/∃g,v'.ownBlock=some g/\z2<=g)(b:Nat)(h5:bz b≠5):Uj bz z1 z2 T v' b=bz b:=by
 have h1:=hI b h5;unfold Uj;rw[Z (by omega)]
 by_cases hb:v'.ownBlock=some b
 ·rw[G hb]
  rcases hw with hw|⟨g,hg,a0⟩
  ·exact(hv b (hw.symm.trans hb)).symm
  rw[hg]at hb;simp only[Ql]at hb;omega
 rw[Z hb]
def ze8(hI:∀b,bz b≠5->b<z1)(hT:T≠5)(hv:∀b,v.ownBlock=some b->bz b=T)(hw:v'.ownBlock=v.ownBlock\/∃g,v'.ownBlock=some g/\z2<=g)(b:Nat)(hb:v'.ownBlock=some b):Uj bz z1 z2 T v' b=T:=by
 unfold Uj;rw[Z,G hb];rintro⟨h1,h2⟩;rcases hw with hw|⟨g,hg,a0⟩
 ·have:=hI b (by rw[hv b (hw.symm.trans hb)];exact hT);omega
 rw[hg]at hb;simp only[Ql]at hb;omega
def ze9(bz:Nat->Nat)(z1 z2 T:Nat)(v':Value)(b:Nat)(h1:z1<=b)(h2:b<z2):Uj bz z1 z2 T v' b=0:=G ⟨h1,h2⟩
def za4{z3:Nat}(hI:∀b,bz b≠5->base<=b/\b<z2)(b0:base<=z1)(hz:z2<=z3)(a0:∀b,v'.ownBlock=some b->base<=b/\b<z3)(b:Nat)(h:Uj bz z1 z2 T v' b≠5):base<=b/\b<z3:=by
 unfold Uj at h
 by_cases h1:z1<=b/\b<z2
 ·omega
 rw[Z h1]at h
 by_cases h2:v'.ownBlock=some b
 ·exact a0 b h2
 rw[Z h2]at h;have:=hI b h;omega
end
section
variable{r:RS}{ap:Int}{m:Xv}
def zm1(h:Zo lo base R Pb lm vm cm w0 W r ap m)(Wq:zwz 201 lo base w0 W w' (zz8 Pb m.gs) (zm0 r.fr) (zx6 m.bv r.fr m.gs) v' n xs x)(ho:W.ownsRow base 201 1 (zx6 m.bv r.fr m.gs) n xs):∀b,b<base->b≠zz8 Pb m.gs->w'.heap[b]?=W.heap[b]?:=λb hb a0=>
 Wq.q b (by have:=h.bP;omega) a0 (λhv=>by have:=(ho.lt b hv).1;omega)
def Zo.pN(h:Zo lo base R Pb lm vm cm w0 W {r with am:=r.am+1} ap m)(hb:r.ae=true){sn kind x ln:Nat}{vp:Value}{e:da}(hI:∀b,m.bz b≠5->b<z1)(y0:base<=z1)(p0:z1<=sn/\sn<W.heap.size)(E0:ap=(ln:Int))(dx:zjz r.am r.fr r.ct.length)
  (hc:Zh W sn 6 (rw_ [I kind,I ap,I x,vp,Zq,Zq])) (hv:zy7 (λb=>z1<=b/\b<W.heap.size) W vp e) (ho:W.ownsRow base 201 1 (zx6 m.bv r.fr m.gs) n xs) (Wq:zwz 201 lo base w0 W w' (zz8 Pb m.gs) (zm0 r.fr) (zx6 m.bv r.fr m.gs) v' n xs (ptr sn)):
  ∃m',Zo lo base R Pb lm vm cm w0 w' (r.put ⟨kind,x,ln,e,[],[]⟩) ap m':=by
 obtain⟨b1,b2,b3,b4,b5,b6⟩:=h.bP;obtain⟨n1,n2,n3,n4,n5,n6,n7,n8,n9,n10⟩:=h.nd;have hl:=h.re.fa.len;have hz:=Wq.hz;have a0:=zm1 (r:={r with am:=r.am+1}) h Wq ho
 have z0:∀b,z1<=b->m.bz b=5:=λb hb'=>Classical.byContradiction λhne=>by have:=hI b hne;omega
 have F0:=h.ok.st
 -- the new statement's own blocks stand
 have f0:∀b,z1<=b->b<W.heap.size->b≠zz8 Pb m.gs->(∀k,(zx6 m.bv r.fr m.gs).ownBlock=some k->m.bz k≠5)->w'.heap[b]?=W.heap[b]?:=λb h1 h2 h3 h4=>Wq.q b h2 h3 (λhk=>h4 b hk (z0 b h1))
 have A0:∀(S':Nat->Prop) (d:Nat),(∀b,z1<=b->b<W.heap.size->S' b/\w'.heap[b]?=W.heap[b]?)->zy2 (Zl d) S' w' (ptr sn) ⟨kind,x,ln,e,[],[]⟩:=λS' d hS=>by
  refine⟨sn,vp,Zq,Zq,rfl,(hS sn p0.1 p0.2).1,?_,hv.kept (λb hb'=>(hS b hb'.1 hb'.2).1) (λb hb'=>(hS b hb'.1 hb'.2).2),Zl.nil _ _ _,Zl.nil _ _ _⟩;have:=hc.block (w':=w') (hS sn p0.1 p0.2).2;rw[E0]at this;exact this
 cases d0:r.fr with
 |nil=>
  have e0:m.gs=[]:=by
   rw[show ({r with am:=r.am+1}:RS).fr=r.fr from rfl,d0]at hl;exact Qi (by simpa using hl)
  rw[d0,e0]at Wq ho f0;rw[e0]at a0;have i0:r.put ⟨kind,x,ln,e,[],[]⟩={r with ct:=r.ct++[⟨kind,x,ln,e,[],[]⟩],am:=r.am+1}:=(by unfold RS.put;rw[d0]);rw[i0];have q0:∀b,m.bv.ownBlock=some b->m.bz b=1:=h.re.tb;have b0:=λb=>ze7 (z2:=W.heap.size) hI (by decide) q0 (by omega) Wq.wh b;have hq:∀b,m.bz b≠5->m.bz b≠1->w'.heap[b]?=W.heap[b]?:=λb h5 h1=>Wq.q b (h.re.wh b h5).2 (by have:=h.re.wh b h5;show b≠Pb;omega) (λhk=>h1 (q0 b hk));have t0:∀b,z1<=b->b<W.heap.size->Uj m.bz z1 W.heap.size 1 v' b=0/\w'.heap[b]?=W.heap[b]?:=λb h1 h2=>⟨ze9 _ _ _ _ _ _ h1 h2,f0 b h1 h2 (by show b≠Pb;omega) (λk hk=>by rw[q0 k hk];decide)⟩;have c0:=h.re.pV (w':=w') 1 (by decide) (Uj m.bz z1 W.heap.size 1 v') (λb h5 h1=>⟨b0 b h5,hq b h5 h1⟩);refine⟨{m with bv:=v',bz:=Uj m.bz z1 W.heap.size 1 v'},?_⟩;refine{ok:= ?ok,bel:=Wq.bel,fx:=λb f1 f2 f3 f4 f5 f6=>(a0 b f1 f3).trans (h.fx b f1 f2 f3 f4 f5 f6),cq:=h.cq,bP:=⟨b1,b2,b3,b4,b5,by omega⟩,nd:=h.nd,cR:= ?cR,cP:= ?cP,nl:=h.nl.block (a0 _ b3 (Ne.symm n5)),nv:=h.nv.block (a0 _ b4 (Ne.symm n6)),nc:=h.nc.block (a0 _ b5 (Ne.symm n7)),tab:=h.tab,re:= ?re}
  case ok=>
   exact{cn:=⟨by have:=dx.1;simp[d0]at this⊢;omega,by rw[show ({r with ct:=r.ct++[⟨kind,x,ln,e,[],[]⟩],am:=r.am+1}:RS).fr=r.fr from rfl,d0];trivial⟩,lv:=h.ok.lv,ce:=h.ok.ce,ch:=h.ok.ch,lo:=h.ok.lo,st:=h.ok.st,fr:=h.ok.fr,cl:=h.ok.cl,hl:=h.ok.hl,dw:=h.ok.dw,dm:=h.ok.dm,head:=λhh=>(by rw[show ({r with ct:=r.ct++[⟨kind,x,ln,e,[],[]⟩],am:=r.am+1}:RS).ae=r.ae from rfl,hb]at hh;cases hh),below:=h.ok.below,bC:=h.ok.bC,bH:=h.ok.bH,fA:=h.ok.fA}
  case cR=>
   refine(h.cR.block (a0 R b1 n1)).congr λj hj=>?_;exact(zuw Pb lm vm cm ap {r with am:=r.am+1} {r with ct:=r.ct++[⟨kind,x,ln,e,[],[]⟩],am:=r.am+1} m {m with bv:=v',bz:=Uj m.bz z1 W.heap.size 1 v'} j rfl rfl rfl rfl hj (λ_ _ _ _ _=>rfl)).symm
  case cP=>
   refine(Wq.cs 5 _ h.cP (by decide)).congr λk hk=>?_;rcases(show k=0\/k=1\/k=2\/k=3\/k=4 by omega) with rfl|rfl|rfl|rfl|rfl<;>rfl
  case re=>
   have B0:=h.re.pb;rw[e0]at B0
   exact{
       wh:=λb hb'=>za4 (λb hb=>h.re.wh b hb) y0 hz (λb hv=>⟨(Wq.own.lt b hv).1,(Wq.own.lt b hv).2⟩) b hb',oc:=(c0.oc (by decide)).1,tc:=(c0.oc (by decide)).2,oh:=(c0.oh (by decide)).1,th:=(c0.oh (by decide)).2,pb:=(by
        show Yr 3 _ base w' v' (r.ct++[_]) (Vc m.gs);rw[e0]
        exact Yr.snoc B0 ho Wq.own (λb hb'=>(b0 b (by rw[hb'];decide)).trans hb') (λb hb'=>hq b (by rw[hb'];decide) (by rw[hb'];decide)) (A0 _ 3 t0)),tb:=λb hb'=>ze8 hI (by decide) q0 Wq.wh b hb',fa:=c0.fa (.inl (by decide)),oo:=(c0.oo (by decide)).1,to:=(c0.oo (by decide)).2,la:=c0.la}
 |cons f fs=>
  cases e0:m.gs with
  |nil=>rw[show ({r with am:=r.am+1}:RS).fr=r.fr from rfl,d0,e0]at hl;simp at hl
  |cons g gs=>
   rw[d0,e0]at Wq ho f0;rw[e0]at a0;have C0:=h.re.fa;rw[show ({r with am:=r.am+1}:RS).fr=r.fr from rfl,d0,e0]at C0;obtain⟨hf,G0⟩:=C0;obtain⟨f',hf'⟩:∃f':Fl.Frame,f'=if f.cA then{f with fN:=f.fN++[⟨kind,x,ln,e,[],[]⟩]} else{f with first:=f.first++[⟨kind,x,ln,e,[],[]⟩]}:=⟨_,rfl⟩;obtain⟨g',hg'⟩:∃g':GF,g'=if f.cA then{g with ev:=v'} else{g with fv:=v'}:=⟨_,rfl⟩;have i0:r.put ⟨kind,x,ln,e,[],[]⟩={r with fr:=f'::fs,am:=r.am+1}:=(by unfold RS.put;rw[d0,hf']);rw[i0]
   have m0:g'.sb=g.sb:=by rw[hg'];split<;>rfl
   have u0:g'.ob=g.ob:=by rw[hg'];split<;>rfl
   have D0:g'.vp=g.vp:=by rw[hg'];split<;>rfl
   have g0:f'.kind=f.kind/\f'.ap=f.ap/\f'.e=f.e/\f'.cA=f.cA:=by rw[hf'];split<;>exact⟨rfl,rfl,rfl,rfl⟩
   have n0:g'.act f'=v':=by
    unfold GF.act;rw[g0.2.2.2,hg']
    cases f.cA<;>rfl
   have r0:∀b,(zx6 m.bv (f::fs) (g::gs)).ownBlock=some b->m.bz b=12+3*fs.length:=hf.ta;have b0:=λb=>ze7 (T:=12+3*fs.length) (z2:=W.heap.size) hI (by omega) r0 (by omega) Wq.wh b;have hq:∀b,m.bz b≠5->m.bz b≠12+3*fs.length->m.bz b≠10+3*fs.length->w'.heap[b]?=W.heap[b]?:=λb h5 h1 H0=>Wq.q b (h.re.wh b h5).2 (λhe=>H0 (by rw[show b=g.sb from he];exact hf.ts)) (λhk=>h1 (r0 b hk));have t0:∀b,z1<=b->b<W.heap.size->Uj m.bz z1 W.heap.size (12+3*fs.length) v' b=0/\w'.heap[b]?=W.heap[b]?:=λb h1 h2=>⟨ze9 _ _ _ _ _ _ h1 h2,f0 b h1 h2 (λhe=>by have:=z0 b h1;rw[show b=g.sb from he,hf.ts]at this;omega) (λk hk=>by rw[r0 k hk];omega)⟩;have j0:=h.re.aI (w':=w') (Uj m.bz z1 W.heap.size (12+3*fs.length) v') (λb hb'=>⟨b0 b (by omega),hq b (by omega) (by omega) (by omega)⟩)
   have h0:∀b,m.bz b=0->Uj m.bz z1 W.heap.size (12+3*fs.length) v' b=0:=λb hb'=>by rw[b0 b (by rw[hb'];decide)];exact hb'
   have s0:∀b,m.bz b=0->w'.heap[b]?=W.heap[b]?:=λb hb'=>hq b (by omega) (by omega) (by omega);have I0:Vc (g'::gs)=Vc (g::gs):=(by simp only[Vc,m0]);have v0:((g'::gs).map λg=>ptr g.ob)=((g::gs).map λg=>ptr g.ob):=(by simp only[map_cons,u0]);refine⟨{m with gs:=g'::gs,bz:=Uj m.bz z1 W.heap.size (12+3*fs.length) v'},?_⟩;have J0:=h.re.wh g.sb (by rw[hf.ts];omega);refine{ok:= ?ok,bel:=Wq.bel,fx:=λb f1 f2 f3 f4 f5 f6=>(a0 b f1 (by show b≠g.sb;omega)).trans (h.fx b f1 f2 f3 f4 f5 f6),cq:=h.cq,bP:=⟨b1,b2,b3,b4,b5,by omega⟩,nd:=h.nd,cR:= ?cR,cP:=h.cP.block (a0 _ b2 (by show Pb≠g.sb;omega)),nl:=h.nl.block (a0 _ b3 (by show lm≠g.sb;omega)),nv:=h.nv.block (a0 _ b4 (by show vm≠g.sb;omega)),nc:=h.nc.block (a0 _ b5 (by show cm≠g.sb;omega)),tab:=h.tab,re:= ?re}
   case ok=>
    have o0:=dx.2;rw[d0]at o0
    exact{
        cn:=⟨by have:=dx.1;simp[d0]at this⊢;omega,(by
         show zz4 (r.am+1) 0 (f'::fs);obtain⟨c1,c2,c3⟩:=o0;rw[hf']
         cases hh:f.cA with
         |true=>rw[hh]at c1 c2;simp at c1 c2;refine⟨?_,?_,zz4.mono (by omega) lE c3⟩<;>simp[hh]<;>omega
         |false=>rw[hh]at c1 c2;simp at c1 c2;refine⟨?_,?_,zz4.mono (by omega) lE c3⟩<;>simp[hh]<;>omega)⟩,lv:=h.ok.lv,ce:=h.ok.ce,ch:=h.ok.ch,lo:=h.ok.lo,st:=h.ok.st,fr:=(by have:=h.ok.fr;rw[show ({r with am:=r.am+1}:RS).fr=r.fr from rfl,d0]at this;simpa using this),cl:=h.ok.cl,hl:=h.ok.hl,dw:=h.ok.dw,dm:=(by
         intro k hk;have x0:=h.ok.dm;rw[show ({r with am:=r.am+1}:RS).fr=r.fr from rfl,d0]at x0;rcases mem_cons.1 hk with rfl|hk
         ·rw[g0.1];exact x0 f (by simp)
         exact x0 k (by simp[hk])),head:=λhh=>(by rw[show ({r with fr:=f'::fs,am:=r.am+1}:RS).ae=r.ae from rfl,hb]at hh;cases hh),below:=h.ok.below,bC:=h.ok.bC,bH:=h.ok.bH,fA:=h.ok.fA}
   case cR=>
    refine(h.cR.block (a0 R b1 (by show R≠g.sb;omega))).congr λj hj=>?_;exact(zuw Pb lm vm cm ap {r with am:=r.am+1} {r with fr:=f'::fs,am:=r.am+1} m {m with gs:=g'::gs,bz:=Uj m.bz z1 W.heap.size (12+3*fs.length) v'} j rfl rfl rfl rfl hj (λ_ _ _ _ _=>rfl)).symm
   case re=>
    have k0:=j0.pb;have l0:=j0.oo;rw[e0]at k0 l0;refine{wh:=λb hb'=>za4 (λb hb=>h.re.wh b hb) y0 hz (λb hv=>⟨(Wq.own.lt b hv).1,(Wq.own.lt b hv).2⟩) b hb',oc:=j0.oc.1,tc:=j0.oc.2,oh:=j0.oh.1,th:=j0.oh.2,pb:= ?pb,tb:=k0.2,fa:= ?fa,oo:= ?oo,to:=l0.2,la:=j0.la}
    case pb=>show Yr 3 _ base w' m.bv r.ct (Vc (g'::gs));rw[I0];exact k0.1
    case oo=>
     show w'.ownsRow base _ 1 m.ov (f'::fs).length (((g'::gs).map λg=>ptr g.ob).reverse);rw[v0];have:=l0.1;rw[show ({r with am:=r.am+1}:RS).fr=r.fr from rfl,d0]at this;exact this
    case fa=>
     show Vk _ base w' (3 - (f'::fs).length) [] (f'::fs) (g'::gs);refine⟨?_,?_⟩
     ·refine{ts:=by rw[m0];exact(b0 g.sb (by rw[hf.ts];omega)).trans hf.ts,to:=by rw[u0];exact(b0 g.ob (by rw[hf.to];omega)).trans hf.to,ta:=λb hb'=>ze8 hI (by omega) r0 Wq.wh b (by rw[<-n0];exact hb'),co:= ?co,cs:= ?cs,hv:=by rw[D0,g0.2.2.1];exact hf.hv.kept h0 s0,pa:= ?pa,pf:= ?pf,pe:= ?pe}
      case co=>rw[u0,m0,g0.2.2.2];exact hf.co.block (hq g.ob (by rw[hf.to];omega) (by rw[hf.to];omega) (by rw[hf.to];omega))
      case cs=>
       rw[m0,g0.1,g0.2.1,D0];refine(Wq.cs 6 _ hf.cs (by show (if f.cA then 5 else 4)<6;split<;>omega)).congr λk hk=>?_;rw[hg'];show (if k=(if f.cA then 5 else 4) then v' else _)=_
       cases f.cA<;>rcases(show k=0\/k=1\/k=2\/k=3\/k=4\/k=5 by omega) with rfl|rfl|rfl|rfl|rfl|rfl<;>rfl
      case pa=>
       rw[n0,g0.2.2.2];have:=Yr.snoc (w':=w') hf.pa ho Wq.own h0 s0 (A0 _ _ t0);rw[hf']
       cases hh:f.cA<;>rw[hh]at this<;>exact this
      case pf=>
       intro hh;rw[g0.2.2.2]at hh;have:=Zl.kept h0 s0 _ _ _ (hf.pf hh);rw[hg',hf',hh];exact this
      case pe=>
       intro hh;rw[g0.2.2.2]at hh;rw[hg',hf',hh];exact hf.pe hh
     rw[m0]
     exact G0.kept (λb hb'=>by
      rcases hb' with hb'|hb'
      ·exact⟨b0 b (by omega),s0 b hb'⟩
      exact⟨b0 b (by omega),hq b (by omega) (by omega) (by omega)⟩)
end
section
variable{r:RS}{ap:Int}{m:Xv}
def za5(h:Zo lo base R Pb lm vm cm w0 w r ap m)(b off n cap:Nat)(vs:List K)(hn:n=vs.length)(a0:n<=cap)(hl:∀x∈vs,x.length<=100000)(b0:bW [97] vs=true\/bW [97,111,97] vs=true)(hc:∀i,i<vs.length->w.cell? (Y b (off+i))=some (.string ⟨(vs.getD i []).toArray⟩)):
  F 156 #[M R,Sq b off n cap] w (zo5 (r.value vs) ap w):=by
 rcases b0 with hs|hs
 ·have bt:=bX _ _ hs
  match vs,bt with
  |[x],_=>
   subst hn;exact ze5 h b off cap x (hl x (by simp)) (by simpa using a0) (hc 0 (by simp))
 have bt:=bX _ _ hs
 match vs,bt with
 |[x,o,y],_=>
  subst hn;refine ym2 h b off cap x o y (hl x (by simp)) (hl o (by simp)) (hl y (by simp)) ?_ (by simpa using a0) (hc 0 (by simp)) (hc 1 (by simp)) (hc 2 (by simp));simp[bW,gP]at hs;exact hs.2.1
def yu0(h:Zo lo base R Pb lm vm cm w0 W r ap m)(b0:r.ae=true)(z1 kind x ln pb:Nat)(e:da)(hI:∀b,m.bz b≠5->b<z1)(c0:base<=z1/\z1<=W.heap.size)(d0:ap=(ln:Int))(hv:zy7 (λb=>z1<=b/\b<W.heap.size) W (ptr pb) e):
  F 157 #[M R,M W.heap.size] (W.alloc (.cells #[I kind,I 0,I x,M pb,Zq,Zq] 211)) λe' w'=>
   (16<=r.am/\e'=.panicked (Zf 5 ap)/\zux lo base R Pb lm vm cm w0 w')\/(r.am<16/\e'=.returned (.tuple #[])/\∃m',Zo lo base R Pb lm vm cm w0 w' (r.put ⟨kind,x,ln,e,[],[]⟩) ap m'):=by
 have bP:=h.bP;have hA:Zo lo base R Pb lm vm cm w0 (W.alloc (.cells #[I kind,I 0,I x,M pb,Zq,Zq] 211)) r ap m:=h.below (bA)
 have cH:(W.alloc (.cells #[I kind,I 0,I x,M pb,Zq,Zq] 211)).heap.size=W.heap.size+1:=by simp
 refine(yvv hA b0 W.heap.size kind x (ptr pb) (by omega) (Classical.byContradiction λe0=>by have:=hI _ e0;omega) (by omega) (Zh.new W [I kind,I 0,I x,M pb,Zq,Zq] _)).mono ?_;rintro e' w' (⟨a0,rfl,hb⟩|⟨a0,rfl,W2,hP,f0,hq,hc,n,xs,v',ho,Wq⟩)
 ·exact .inl ⟨a0,rfl,hb⟩
 refine .inr ⟨a0,rfl,?_⟩;exact hP.pN (r:=r) b0 (z1:=z1) (sn:=W.heap.size) hI c0.1 ⟨c0.2,by omega⟩ d0 h.ok.cn hc
  (hv.kept (λb hb=>⟨hb.1,by have:=hb.2;omega⟩) (λb hb=>by
   have h1:=hb.1;have h2:=hb.2;rw[hq b (by omega) (by omega)]
   exact((Below.refl W.heap.size W).alloc lE _).block b h2)) ho Wq
def Fl.RS.gt{r r':RS}{n:K}{x:Nat}(h:r.bj n=some (x,r')):r'.am=r.am/\r'.ae=r.ae:=by
 rw[RS.jz]at h
 split at h
 ·simp only[Ql,Prod.mk.injEq]at h;rw[<-h.2];exact⟨rfl,rfl⟩
 split at h
 ·cases h
 simp only[Ql,Prod.mk.injEq]at h;rw[<-h.2];exact⟨rfl,rfl⟩
def yp7(h:Zo lo base R Pb lm vm cm w0 w r ap m)(p0:r.ae=true)(B:Nat)(v:Value)(k n:K)(vs:List K)(ln:Nat)(q0:ap=(ln:Int))(hB:B<=w.heap.size)(hw:Zi B w v (n::vs))(r0:∀b,v.ownBlock=some b->base<=b/\m.bz b=5)(s0:(k==fY)=false)(m0:bW [97] vs=true\/bW [97,111,97] vs=true):
  F 123 #[M R,v] w (Ze lo base R Pb lm vm cm w0 ap (r.bS ln (k::n::vs))):=by
 obtain⟨b,off,cap,rfl,g0,S0,c1,n0,a0⟩:=hw.one (by simp);have hn:n.length<=100000:=n0 n (by simp)
 have T0:1<=vs.length:=by rcases m0 with hs|hs<;>have:=bX _ _ hs<;>simp at this<;>omega
 have t0:D w b off (Tq n):=a0 0 (by simp);obtain⟨d1,e1⟩:=r0 b rfl;obtain⟨aX,f0⟩:=U (r.bS ln (k::n::vs));rw[<-f0]
 have c0:O (aX=match r.value vs with
  |none=>(4,r)
  |some e=>if 0<=ai r.aj n then(4,r) else match r.bj n with
    |none=>(5,r)
    |some (x,r')=>if 16<=r.am then(5,r) else(0,r'.put ⟨3,x,ln,e,[],[]⟩)):=by
  show _=_;rw[f0];have hko':¬(k==fY)=true:=(by rw[s0];decide)
  match vs,T0 with
  |a::vs',_=>
   simp only[RS.bS]
   cases r.value (a::vs') with
   |none=>rfl
   |some e=>
    simp only[hko',if_false]
    first|done|rfl|(split<;>first|rfl|(cases r.bj n<;>rfl))
 have c42:D w R 42 (.map (some cm)):=h.cR.c 42 (by omega);obtain⟨mx,tb,u0,v0,-⟩:=h.drew.nc.iG n hn;have x0:=A v0;have HH:=A h
 have y0:O (∀W,Zo lo base R Pb lm vm cm w0 W r ap m->E w W->F 156 #[M R,Sq b (off+1) vs.length (cap - 1)] W (zo5 (r.value vs) ap W)):=λW hW U0=>
  za5 hW b (off+1) vs.length (cap - 1) vs rfl (by simp at g0;omega) (λx hx=>n0 x (by simp[hx])) m0 (λi hi=>by
   rw[U0.cell (p:=(Y b (off+1+i))) (by show b<_;omega)];have:=a0 (i+1) (by simp;omega)
   rw[show off+1+i=off+(i+1) by omega,this];rfl)
 have ee:b<w.heap.size:=by omega
 simp only[length_cons]at g0⊢
 have f1:(2:Int)<=(cap:Int):=by omega
 have g1:(1:Int)<=(vs.length:Int):=by omega
 have h1:(vs.length:Int)+1<=(cap:Int):=by omega
 have V0:cap≠1:=by omega
 unfold maxLen at S0;have W0:=A q0;clear h hw n0 a0 f0 v0 r0 m0 s0 q0
 go_enter func123,ntmps123
 go_wp2_with fail
 refine wp_region_still_lit (by kernel_rfl) (by kernel_rfl) ?_
 iterate 7 still_step
 refine Xm rfl (.tuple #[I mx,.bool tb]) (Jk _ _ 119 rfl (.map (some cm)) (Tq n) _ rfl rfl u0) ?_
 iterate 5 still_step
 refine wpStill_nil ?_
 change Exit.then _ _ _ _ w.drew
 have HW:O (Zo lo base R Pb lm vm cm w0 w.drew r ap m):=HH.drew;have z0:O (E w w.drew):=dA;have d0:D w.drew b off (Tq n):=t0;have A0:w.drew.heap.size=w.heap.size:=rfl;have i1:=A A0;clear u0 t0 c42 A0;generalize w.drew=W at*;have bP:=HW.bP;have cq:=HW.cq;have j1:=z0.size;have B0:O (F 71 #[M R,.bool false,I 4] W λe w'=>e=.panicked (Zf 4 ap)/\E W w'):=Ye R 4 ap W (HW.cR.c 1 (by omega));have C0:O (F 71 #[M R,.bool true,I 4] W (Rq (.tuple #[]) W)):=Xc R 4 W
 cases tb with
 |true=>
  have h0:0<=ai r.aj n:=(by have:=x0.out;simpa using this);have HR:O (aX=(4,r)):=by
   show _=_;rw[c0.out]
   cases r.value vs with
   |none=>rfl
   |some e=>simp only[h0,if_true]
  go_wp2_with fail
  refine B0.mono ?_;rintro e w1 ⟨rfl,X0⟩;exact⟨rfl,Ze.eQ HR (by decide) rfl (HW.gone X0)⟩
 |false=>
  have h0:¬0<=ai r.aj n:=(by have:=x0.out;simpa using this)
  go_wp2_with fail
  refine C0.mono ?_;rintro e w1 ⟨rfl,D0⟩;rw[D0];clear D0 w1 C0 B0;have E0:=y0 W HW z0.out;have F0:=A E0;clear E0 y0
  go_wp2_with fail
  refine F0.mono ?_;rintro e W2 ⟨i0,G0,j0⟩;have Y0:O (Zo lo base R Pb lm vm cm w0 W2 r ap m):=HW.below i0;have Z0:=A i0;have k1:=i0.size;have e0:D W2 b off (Tq n):=cT i0 (by show b<_;omega) d0;clear F0 i0 d0
  cases b0:r.value vs with
  |none=>
   obtain rfl:=j0 b0;have HR:aX=(4,r):=(by rw[c0.out,b0]);exact⟨rfl,Ze.eQ HR (by decide) rfl (HW.gone Z0)⟩
  |some ex=>
   obtain⟨pb,rfl,H0⟩:=G0 ex b0;have I0:=A H0
   have o0:O (aX=match r.bj n with
    |none=>(5,r)
    |some (x,r')=>if 16<=r.am then(5,r) else(0,r'.put ⟨3,x,ln,ex,[],[]⟩)):=by show _=_;rw[c0.out,b0];exact Z (by have:=h0;omega)
   have J0:O (F 158 #[M R,Tq n] W2 (yi7 lo base R Pb lm vm cm w0 r ap m n W2)):=yvx Y0 p0 n hn;clear H0 G0 j0 c0 b0
   go_wp2_with fail
   refine J0.mono ?_;clear J0 e0;rintro e W3 (⟨x,r',k0,rfl,K0,l1,L0⟩|⟨k0,rfl,a1⟩)
   ·have M0:O (aX=if 16<=r.am then(5,r) else(0,r'.put ⟨3,x,ln,ex,[],[]⟩)):=by show _=_;rw[o0.out,k0]
    obtain⟨N0,O0⟩:=RS.gt k0
    have P0:O (F 157 #[M R,M W3.heap.size] (W3.alloc (.cells #[I 3,I 0,I x,M pb,Zq,Zq] 211)) λe' w'=>
      (16<=r'.am/\e'=.panicked (Zf 5 ap)/\zux lo base R Pb lm vm cm w0 w')\/(r'.am<16/\e'=.returned (.tuple #[])/\∃m',Zo lo base R Pb lm vm cm w0 w' (r'.put ⟨3,x,ln,ex,[],[]⟩) ap m')):=
     yu0 K0 (O0.trans p0) W.heap.size 3 x ln pb ex (λb hb=>(HW.re.wh b hb).2) ⟨by omega,by omega⟩ W0.out
      (I0.kept (λb hb=>⟨hb.1,by have:=hb.2;omega⟩) (λb hb=>L0 b hb.2 (by have:=hb.1;omega) (by have:=hb.1;omega)))
    have Q0:=A N0;clear K0 L0 k0 N0 O0 o0 I0
    go_wp2_with fail
    refine P0.mono ?_;rintro e W4 (⟨l0,rfl,b1⟩|⟨l0,rfl,m',R0⟩)
    ·rw[Q0.out]at l0
     have HR:aX=(5,r):=(by rw[M0.out,G l0]);exact⟨rfl,Ze.eQ HR (by decide) rfl b1⟩
    rw[Q0.out]at l0;have HR:aX=(0,r'.put ⟨3,x,ln,ex,[],[]⟩):=(by rw[M0.out,Z (by omega)]);have HF:O (Ze lo base R Pb lm vm cm w0 ap aX (.returned (.tuple #[])) W4):=Ze.gx HR rfl R0;clear HR R0 P0;go_wp2
    go_end0
    exact HF
   have HR:aX=(5,r):=(by rw[o0.out,k0]);exact⟨rfl,Ze.eQ HR (by decide) rfl a1⟩
end
section
variable{r:RS}{ap:Int}{m:Xv}
def out_any(h:Zo lo base R Pb lm vm cm w0 w r ap m)(G0:r.ae=true)(B:Nat)(v:Value)(k n:K)(vs:List K)(ln:Nat)(n0:ap=(ln:Int))(hB:B<=w.heap.size)(hw:Zi B w v (n::vs))(o0:(k==fY)=true)(i0:bW [97] vs=true\/bW [97,111,97] vs=true):
  F 124 #[M R,v] w (Ze lo base R Pb lm vm cm w0 ap (r.bS ln (k::n::vs))):=by
 obtain⟨b,off,cap,rfl,e0,H0,T0,j0,a0⟩:=hw.one (by simp);have hn:n.length<=100000:=j0 n (by simp)
 have I0:1<=vs.length:=by rcases i0 with hs|hs<;>have:=bX _ _ hs<;>simp at this<;>omega
 have J0:D w b off (Tq n):=a0 0 (by simp);obtain⟨aX,d0⟩:=U (r.bS ln (k::n::vs));rw[<-d0];obtain⟨pl,k0⟩:=U (ai r.aj n)
 have c0:O (aX=match r.value vs with
  |none=>(4,r)
  |some e=>if pl<0 then(4,r) else if 16<=r.am then(5,r) else(0,r.put ⟨4,pl.toNat,ln,e,[],[]⟩)):=by
  show _=_;rw[d0,k0]
  match vs,I0 with
  |a::vs',_=>
   simp only[RS.bS]
   cases r.value (a::vs') with
   |none=>rfl
   |some e=>
    simp only[o0,if_true]
    try rfl
 have c42:D w R 42 (.map (some cm)):=h.cR.c 42 (by omega);obtain⟨mx,tb,p0,l0,hmx⟩:=h.drew.nc.iG n hn;rw[<-k0]at l0 hmx;have m0:=A l0;have q0:=A hmx;have HH:=A h
 have r0:O (∀W,Zo lo base R Pb lm vm cm w0 W r ap m->E w W->F 156 #[M R,Sq b (off+1) vs.length (cap - 1)] W (zo5 (r.value vs) ap W)):=λW hW K0=>
  za5 hW b (off+1) vs.length (cap - 1) vs rfl (by simp at e0;omega) (λx hx=>j0 x (by simp[hx])) i0 (λi hi=>by
   rw[K0.cell (p:=(Y b (off+1+i))) (by show b<_;omega)];have:=a0 (i+1) (by simp;omega)
   rw[show off+1+i=off+(i+1) by omega,this];rfl)
 have ee:b<w.heap.size:=by omega
 simp only[length_cons]at e0⊢
 have U0:(2:Int)<=(cap:Int):=by omega
 have V0:(1:Int)<=(vs.length:Int):=by omega
 have W0:(vs.length:Int)+1<=(cap:Int):=by omega
 have L0:cap≠1:=by omega
 unfold maxLen at H0;have M0:=A n0;clear h hw j0 a0 d0 l0 hmx i0 o0 n0 k0
 go_enter func124,ntmps124
 go_wp2_with fail
 refine wp_region_still_lit (by kernel_rfl) (by kernel_rfl) ?_
 iterate 7 still_step
 refine Xm rfl (.tuple #[I mx,.bool tb]) (Jk _ _ 119 rfl (.map (some cm)) (Tq n) _ rfl rfl p0) ?_
 iterate 5 still_step
 refine wpStill_nil ?_
 change Exit.then _ _ _ _ w.drew
 have HW:O (Zo lo base R Pb lm vm cm w0 w.drew r ap m):=HH.drew;have s0:O (E w w.drew):=dA;have t0:w.drew.heap.size=w.heap.size:=rfl;have X0:=A t0;clear p0 J0 c42 t0;generalize w.drew=W at*;have bP:=HW.bP;have cq:=HW.cq;have Y0:=s0.size;have u0:O (F 71 #[M R,.bool false,I 4] W λe w'=>e=.panicked (Zf 4 ap)/\E W w'):=Ye R 4 ap W (HW.cR.c 1 (by omega));have v0:O (F 71 #[M R,.bool true,I 4] W (Rq (.tuple #[]) W)):=Xc R 4 W
 cases tb with
 |false=>
  have h0:pl<0:=(by have:=m0.out;simpa using this);have HR:O (aX=(4,r)):=by
   show _=_;rw[c0.out]
   cases r.value vs with
   |none=>rfl
   |some e=>exact G h0
  go_wp2_with fail
  refine u0.mono ?_;rintro e w1 ⟨rfl,N0⟩;exact⟨rfl,Ze.eQ HR (by decide) rfl (HW.gone N0)⟩
 |true=>
  have h0:0<=pl:=(by have:=m0.out;simpa using this);obtain⟨q,hq⟩:∃q:Nat,pl=q:=⟨pl.toNat,by omega⟩;have O0:mx=(q:Int):=(by rw[q0.out,hq];omega);subst O0;have HQ:=A hq;clear hq h0 q0 m0
  go_wp2_with fail
  refine v0.mono ?_;rintro e w1 ⟨rfl,x0⟩;rw[x0];clear x0 w1 v0 u0;have y0:=r0 W HW s0.out;have z0:=A y0;clear y0 r0
  go_wp2_with fail
  refine z0.mono ?_;rintro e W2 ⟨g0,A0,f0⟩;have P0:O (Zo lo base R Pb lm vm cm w0 W2 r ap m):=HW.below g0;have Q0:=A g0;have Z0:=g0.size;clear z0 g0
  cases b0:r.value vs with
  |none=>
   obtain rfl:=f0 b0;have HR:aX=(4,r):=(by rw[c0.out,b0]);exact⟨rfl,Ze.eQ HR (by decide) rfl (HW.gone Q0)⟩
  |some ex=>
   obtain⟨pb,rfl,B0⟩:=A0 ex b0;have R0:=A B0;have C0:O (aX=if 16<=r.am then(5,r) else(0,r.put ⟨4,q,ln,ex,[],[]⟩)):=by
    show _=_;rw[c0.out,b0,HQ.out];exact Z (by omega)
   have D0:O (F 157 #[M R,M W2.heap.size] (W2.alloc (.cells #[I 4,I 0,I q,M pb,Zq,Zq] 211)) λe' w'=>
      (16<=r.am/\e'=.panicked (Zf 5 ap)/\zux lo base R Pb lm vm cm w0 w')\/(r.am<16/\e'=.returned (.tuple #[])/\∃m',Zo lo base R Pb lm vm cm w0 w' (r.put ⟨4,q,ln,ex,[],[]⟩) ap m')):=
     yu0 P0 G0 W.heap.size 4 q ln pb ex (λb hb=>(HW.re.wh b hb).2) ⟨by omega,by omega⟩ M0.out
      (R0.kept (λb hb=>⟨hb.1,hb.2⟩) (λ_ _=>rfl))
   clear B0 A0 f0 c0 b0
   go_wp2_with fail
   refine D0.mono ?_;rintro e W4 (⟨E0,rfl,S0⟩|⟨E0,rfl,m',F0⟩)
   ·have HR:aX=(5,r):=by rw[C0.out,G E0]
    exact⟨rfl,Ze.eQ HR (by decide) rfl S0⟩
   have HR:aX=(0,r.put ⟨4,q,ln,ex,[],[]⟩):=(by rw[C0.out,Z (by omega)]);have HF:O (Ze lo base R Pb lm vm cm w0 ap aX (.returned (.tuple #[])) W4):=Ze.gx HR rfl F0;clear HR F0 D0;go_wp2
   go_end0
   exact HF
end
section
variable{r:RS}{ap:Int}{m:Xv}
def zm2(e:TypeId)(w:World):w.ownsRow base e 1 Zq 0 []:=⟨rfl,.inl ⟨rfl,rfl⟩⟩
def Yr.none(d:Nat)(S:Nat->Prop)(w:World):Yr d S base w Zq [] []:=⟨[],zm2 _ _,rfl,λi hi=>absurd hi (by simp)⟩
def Zo.cX(h:Zo lo base R Pb lm vm cm w0 w r ap m)(hb:r.ae=true){f:Fl.Frame}{fs:List Fl.Frame}{g:GF}{gs:List GF}(e0:r.fr=f::fs)(m0:m.gs=g::gs)(hh:f.cA=false):∃m',Zo lo base R Pb lm vm cm w0 (w.setCell (Y g.ob 1) (.bool true)) r.cX ap m':=by
 obtain⟨b1,b2,b3,b4,b5,b6⟩:=h.bP;obtain⟨l1,l2,l3,l4,l5⟩:=h.cq;have n0:=h.re.fa;rw[e0,m0]at n0;obtain⟨hf,q0⟩:=n0;have t0:=h.re.wh g.ob (by rw[hf.to];omega);have hz:(w.setCell (Y g.ob 1) (.bool true)).heap.size=w.heap.size:=Zy _ _ _;have q:∀k,k≠g.ob->(w.setCell (Y g.ob 1) (.bool true)).heap[k]?=w.heap[k]?:=λk hk=>Zx _ _ _ _ _ hk;have q':∀k,m.bz k≠11+3*fs.length->(w.setCell (Y g.ob 1) (.bool true)).heap[k]?=w.heap[k]?:=λk hk=>q k (λhe=>hk (by rw[he];exact hf.to));obtain⟨w',hw'⟩:∃w',w'=w.setCell (Y g.ob 1) (.bool true):=⟨_,rfl⟩
 have i0:Below lo w0 w':=by rw[hw'];exact h.bel.setCell (by show lo<=g.ob;omega) _
 have r0:Zh w' g.ob 2 (rw_ [ptr g.sb,.bool true]):=by
  rw[hw'];refine(hf.co.set (j:=1) (by omega) (.bool true)).congr λk hk=>?_;rcases(show k=0\/k=1 by omega) with rfl|rfl<;>rfl
 rw[<-hw']at hz q q'⊢;clear hw'
 have j0:r.cX={r with fr:={f with cA:=true}::fs}:=by unfold RS.cX;rw[e0]
 rw[j0]
 have f0:g.act f=g.fv:=by unfold GF.act;rw[hh];rfl
 obtain⟨o0,s0⟩:=hf.pe hh;have p0:∀b,g.fv.ownBlock=some b->m.bz b=12+3*fs.length:=λb hb'=>hf.ta b (by rw[f0];exact hb');obtain⟨who',b0⟩:∃who':Nat->Nat,who'=λb=>if g.fv.ownBlock=some b then 0 else m.bz b:=⟨_,rfl⟩
 have wold:∀b,m.bz b≠12+3*fs.length->who' b=m.bz b:=λb hb'=>by rw[b0];exact Z (λhe=>hb' (p0 b he))
 have wfv:∀b,g.fv.ownBlock=some b->who' b=0:=λb hb'=>by rw[b0];exact G hb'
 have w5:∀b,who' b≠5->m.bz b≠5:=λb hb' he=>hb' (by rw[wold b (by omega)];exact he);clear b0;have h0:∀b,m.bz b=0->who' b=0:=λb hb'=>(wold b (by omega)).trans hb';have k0:∀b,m.bz b=0->w'.heap[b]?=w.heap[b]?:=λb hb'=>q' b (by omega);have a0:=h.re.aI (w':=w') who' (λb hb'=>⟨wold b (by omega),q' b (by omega)⟩);have g0:=h.ok.cn;have dx:=h.ok.st;rw[e0]at g0
 have c0:f.first.length<=16:=by have:=g0.2.1;rw[hh]at this;simp at this;omega
 refine⟨{m with bz:=who'},?_⟩;refine{ok:= ?ok,bel:=i0,fx:=λb f1 f2 f3 f4 f5 f6=>(q b (by omega)).trans (h.fx b f1 f2 f3 f4 f5 f6),cq:=h.cq,bP:=⟨b1,b2,b3,b4,b5,by omega⟩,nd:=h.nd,cR:= ?cR,cP:=h.cP.block (q _ (by omega)),nl:=h.nl.block (q _ (by omega)),nv:=h.nv.block (q _ (by omega)),nc:=h.nc.block (q _ (by omega)),tab:=h.tab,re:= ?re}
 case ok=>
  exact{
      cn:=⟨by have:=g0.1;simpa using this,(by
       show zz4 r.am 0 ({f with cA:=true}::fs);obtain⟨c1,c2,c3⟩:=g0.2;rw[hh]at c1 c2;simp at c1 c2
       refine⟨?_,?_,c3⟩<;>simp<;>omega)⟩,lv:=h.ok.lv,ce:=h.ok.ce,ch:=h.ok.ch,lo:=h.ok.lo,st:=h.ok.st,fr:=(by have:=h.ok.fr;rw[e0]at this;simpa using this),cl:=h.ok.cl,hl:=h.ok.hl,dw:=h.ok.dw,dm:=(by
       intro k hk;have l0:=h.ok.dm;rw[e0]at l0;rcases mem_cons.1 hk with rfl|hk
       ·exact l0 f (by simp)
       exact l0 k (by simp[hk])),head:=λhd=>(by rw[show ({r with fr:={f with cA:=true}::fs}:RS).ae=r.ae from rfl,hb]at hd;cases hd),below:=h.ok.below,bC:=h.ok.bC,bH:=h.ok.bH,fA:=h.ok.fA}
 case cR=>
  refine(h.cR.block (q R (by omega))).congr λj hj=>?_;exact(zuw Pb lm vm cm ap r {r with fr:={f with cA:=true}::fs} m {m with bz:=who'} j rfl rfl rfl rfl hj (λ_ _ _ _ _=>rfl)).symm
 case re=>
  have d0:=a0.oo;rw[e0]at d0;refine{wh:=λb hb'=>(by have:=h.re.wh b (w5 b hb');exact⟨this.1,by omega⟩),oc:=a0.oc.1,tc:=a0.oc.2,oh:=a0.oh.1,th:=a0.oh.2,pb:=a0.pb.1,tb:=a0.pb.2,fa:= ?fa,oo:=d0.1,to:=d0.2,la:=a0.la}
  case fa=>
   show Vk who' base w' (3 - ({f with cA:=true}::fs).length) [] ({f with cA:=true}::fs) m.gs;rw[m0];refine⟨?_,?_⟩
   ·refine{ts:=(wold g.sb (by rw[hf.ts];omega)).trans hf.ts,to:=(wold g.ob (by rw[hf.to];omega)).trans hf.to,ta:=λb hb'=>?ta,co:=r0,cs:=hf.cs.block (q' g.sb (by rw[hf.ts];omega)),hv:=hf.hv.kept h0 k0,pa:= ?pa,pf:=λ_=>?pf,pe:=λhd=>by cases hd}
    case ta=>
     have:g.ev.ownBlock=some b:=hb'
     rw[o0]at this;cases this
    case pa=>
     show Yr _ _ base w' g.ev f.fN [];rw[o0,s0];exact Yr.none _ _ _
    case pf=>
     have hp:=hf.pa;rw[f0,hh]at hp;exact Yr.closed (hp.kept h0 k0 (λb hb'=>q' b (by rw[p0 b hb'];omega))) wfv c0
   exact q0.kept (λb hb'=>by
    rcases hb' with hb'|hb'
    ·exact⟨wold b (by omega),k0 b hb'⟩
    exact⟨wold b (by omega),q' b (by omega)⟩)
def yu1(h:Zo lo base R Pb lm vm cm w0 w r ap m)(n0:r.ae=true)(v:Value)(k:K)(ln:Nat)(hk:(k==eq)=true):
  F 126 #[M R,v] w (Ze lo base R Pb lm vm cm w0 ap (r.bS ln [k])):=by
 obtain⟨aX,c0⟩:=U (r.bS ln [k]);rw[<-c0];have f0:O (F 160 #[M R] w λe w'=>e=.returned (zw0 m.gs)/\E w w'/\w'.heap=w.heap):=zuv h;have HH:=A h;have hl:=h.re.fa.len;have bP:=h.bP;have cq:=h.cq
 cases e0:r.fr with
 |nil=>
  have g0:m.gs=[]:=(by rw[e0]at hl;exact Qi (by simpa using hl));have HR:O (aX=(3,r)):=(by show _=_;rw[c0];simp only[RS.bS,e0]);rw[g0]at f0;unfold zw0 at f0;clear h c0 e0 g0 hl
  go_enter func126,ntmps126
  go_wp2_with fail
  refine f0.mono ?_;rintro e W ⟨rfl,b0,h0⟩;have p0:=b0.size;have HW:O (Zo lo base R Pb lm vm cm w0 W r ap m):=HH.below b0;have j0:O (F 71 #[M R,.bool false,I 3] W λe w'=>e=.panicked (Zf 3 ap)/\E W w'):=Ye R 3 ap W (HW.cR.c 1 (by omega));clear b0 h0 f0
  go_wp2_with fail
  refine j0.mono ?_;rintro e w1 ⟨rfl,b0⟩;exact⟨rfl,Ze.eQ HR (by decide) rfl (HW.gone b0)⟩
 |cons f fs=>
  cases g0:m.gs with
  |nil=>rw[e0,g0]at hl;simp at hl
  |cons g gs=>
   have k0:=h.re.fa;rw[e0,g0]at k0;have u0:=h.ok.dm f (by rw[e0];simp);have HF:=A k0.1;have q0:=A e0;have r0:=A g0;have HR:O (aX=if f.kind=5/\f.cA=false then(0,r.cX) else(3,r)):=(by show _=_;rw[c0];simp only[RS.bS,e0,hk,if_true]);rw[g0]at f0;unfold zw0 at f0;clear h c0 e0 g0 hl k0
   go_enter func126,ntmps126
   go_wp2_with fail
   refine f0.mono ?_;rintro e W ⟨rfl,b0,h0⟩;have p0:=b0.size;have HW:O (Zo lo base R Pb lm vm cm w0 W r ap m):=HH.below b0;have j0:O (F 71 #[M R,.bool false,I 3] W λe w'=>e=.panicked (Zf 3 ap)/\E W w'):=Ye R 3 ap W (HW.cR.c 1 (by omega));have l0:O (F 71 #[M R,.bool true,I 3] W (Rq (.tuple #[]) W)):=Xc R 3 W;have o0:D W g.ob 0 (M g.sb):=(HF.co.block (w':=W) (by rw[h0])).c 0 (by omega);have o1:D W g.ob 1 (.bool f.cA):=(HF.co.block (w':=W) (by rw[h0])).c 1 (by omega);have oz:∀j,W.frozen? (Y g.ob j)=false:=(HF.co.block (w':=W) (by rw[h0])).z;have s0:D W g.sb 0 (I f.kind):=(HF.cs.block (w':=W) (by rw[h0])).c 0 (by omega);clear b0 h0 f0 HF
   have d0:O ((f.kind=5/\f.cA=false->False)->aX=(3,r)):=λhn=>by rw[HR.out];exact Z hn
   have a0:O (f.kind=5->f.cA=false->Ze lo base R Pb lm vm cm w0 ap aX (.returned (.tuple #[])) (W.setCell (Y g.ob 1) (.bool true))):=λh1 h2=>by
    obtain⟨m',hm⟩:=HW.cX n0 q0 r0 h2;exact Ze.gx (by rw[HR.out];exact G ⟨h1,h2⟩) rfl hm
   clear HR
   by_cases h5:f.kind=5
   ·have k5:((f.kind:Int)==5)=true:=by rw[h5];rfl
    cases i0:f.cA with
    |true=>
     rw[i0]at o1;have HX:O (aX=(3,r)):=d0 (λhx=>by rw[i0]at hx;cases hx.2);clear d0 a0 i0
     go_wp2_with fail
     refine j0.mono ?_;rintro e w1 ⟨rfl,b0⟩;exact⟨rfl,Ze.eQ HX (by decide) rfl (HW.gone b0)⟩
    |false=>
     rw[i0]at o1;have HX:=a0 h5 i0;have t0:=A HX;clear d0 a0 i0 HX h5
     go_wp2_with fail
     refine l0.mono ?_;rintro e w1 ⟨rfl,m0⟩;rw[m0];clear m0 w1 l0 j0;go_wp2
     go_end0
     exact t0
   have k5:((f.kind:Int)==5)=false:=(by rw[Qh];omega);have HX:O (aX=(3,r)):=d0 (λhx=>h5 hx.1);clear d0 a0 h5
   go_wp2_with fail
   refine j0.mono ?_;rintro e w1 ⟨rfl,b0⟩;exact⟨rfl,Ze.eQ HX (by decide) rfl (HW.gone b0)⟩
end
section
variable{r:RS}{ap:Int}{m:Xv}
def yu2{g cap:Nat}(h:w.ownsRow base e 1 (J (some (Y g 0)) (n+1) cap) (n+1) (xs++[x])):w.ownsRow base e 1 (J (some (Y g 0)) n cap) n xs:=by
 obtain⟨h1,h2⟩:=h
 have hl:xs.length=n:=by simp at h1;omega
 refine⟨by omega,?_⟩;rcases h2 with⟨h3,-⟩|⟨g',cap',cur,h3,hb,hg,hc,hm,hs,ht⟩
 ·cases h3
 simp only[slice.injEq,Ql,Addr.mk.injEq]at h3;obtain⟨⟨rfl,-⟩,-,rfl⟩:=h3;refine .inr ⟨g,cap,cur,rfl,hb,hg,by omega,hm,hs,?_⟩;have:=congrArg (take n) ht;rw[take_take,take_append_of_le_length (by omega),take_of_length_le (by omega:xs.length<=n)]at this;rw[Nat.mul_one]at this⊢;rw[show min n (n+1)=n by omega]at this;exact this
def Yr.shut{ts:List aa}{s:aa}(h:Yr d S base w v ts [p])(hS:∀b,S b->S' b)(hw:∀b,S b->w'.heap[b]?=w.heap[b]?)(hv:∀b,v.ownBlock=some b->w'.heap[b]?=w.heap[b]?)(hp:zy2 (Zl d) S' w' p s):Yr d S' base w' v (ts++[s]) []:=by
 obtain⟨ps,h1,h2,h3⟩:=Yr.kept (S':=S') (w':=w') h hS hw hv;refine⟨ps++[p],?_,by simp[h2],λi hi=>?_⟩
 ·simp only[length_append,length_cons,length_nil,append_nil,Nat.add_zero]at h1⊢
  exact h1
 by_cases hl:i<ts.length
 ·have:=h3 i hl
  rw[Qa,getElem?_append_left (by omega),Qa,getElem?_append_left hl];rw[Qa,Qa]at this;exact this
 have he:i=ts.length:=by simp at hi;omega
 subst he;rw[Qa,getElem?_append_right (by omega),Qa,getElem?_append_right (by omega)];rw[h2];simpa using hp
def zez(g g2:GF)(gs:List GF):Vc (g::g2::gs)=Vc (g2::gs):=by
 simp only[Vc]
 cases Vc gs<;>rfl
def zv6.done{bz who':Nat->Nat}{d i:Nat}{f:Fl.Frame}{g:GF}(h:zv6 bz base w d i [] f g)(bt:f.first.length<=16/\f.fN.length<=16)(hS:∀b,bz b=0\/bz b=10+3*i\/bz b=12+3*i->who' b=0)(hw:∀b,bz b≠5->w'.heap[b]?=w.heap[b]?):zy2 (Zl (d+1)) (λb=>who' b=0) w' (ptr g.sb) f.done:=by
 have h0:∀b,bz b=0->who' b=0:=λb hb=>hS b (.inl hb);have a0:∀b,bz b=0->w'.heap[b]?=w.heap[b]?:=λb hb=>hw b (by omega);have hp:Zl (d+1) (λb=>who' b=0) w' (g.act f) (if f.cA then f.fN else f.first):=by
  refine Yr.closed (h.pa.kept h0 a0 (λb hb=>hw b (by rw[h.ta b hb];omega))) (λb hb=>hS b (.inr (.inr (h.ta b hb)))) ?_
  split
  ·exact bt.2
  exact bt.1
 refine⟨g.sb,g.vp,g.fv,g.ev,rfl,hS _ (.inr (.inl h.ts)),h.cs.block (hw _ (by rw[h.ts];omega)),h.hv.kept h0 a0,?_,?_⟩
 ·show Zl (d+1) _ w' g.fv f.first
  cases hh:f.cA with
  |true=>exact Zl.kept h0 a0 _ _ _ (h.pf hh)
  |false=>unfold GF.act at hp;rw[hh]at hp;exact hp
 show Zl (d+1) _ w' g.ev f.fN
 cases hh:f.cA with
 |true=>unfold GF.act at hp;rw[hh]at hp;exact hp
 |false=>obtain⟨e1,e2⟩:=h.pe hh;rw[e1,e2];exact Zl.nil _ _ _
def Zo.bB(h:Zo lo base R Pb lm vm cm w0 w r ap m)(hb:r.ae=true){f:Fl.Frame}{fs:List Fl.Frame}{g:GF}{gs:List GF}{q cap:Nat}(k0:r.fr=f::fs)(s0:m.gs=g::gs)(D0:m.ov=J (some (Y q 0)) (fs.length+1) cap):∃m',Zo lo base R Pb lm vm cm w0 (w.setCell (Y R 43) (J (some (Y q 0)) fs.length cap)) r.bB ap m':=by
 obtain⟨b1,b2,b3,b4,b5,b6⟩:=h.bP;obtain⟨l1,l2,l3,l4,l5⟩:=h.cq;obtain⟨n1,n2,n3,n4,n5,n6,n7,n8,n9,n10⟩:=h.nd;have A0:=h.re.fa;rw[k0,s0]at A0;obtain⟨hf,n0⟩:=A0;have g0:=h.ok.fr;rw[k0]at g0;simp only[length_cons]at g0 hf n0;have o0:=h.ok.cn;have dx:=h.ok.st;rw[k0]at o0;have hz:(w.setCell (Y R 43) (J (some (Y q 0)) fs.length cap)).heap.size=w.heap.size:=Zy _ _ _;have qn:∀k,k≠R->(w.setCell (Y R 43) (J (some (Y q 0)) fs.length cap)).heap[k]?=w.heap[k]?:=λk hk=>Zx _ _ _ _ _ hk;have l0:=h.bel.setCell (p:=(Y R 43)) (by show lo<=R;omega) (J (some (Y q 0)) fs.length cap);have B0:=h.cR.set (j:=43) (by omega) (J (some (Y q 0)) fs.length cap);obtain⟨w',hw'⟩:∃w',w'=w.setCell (Y R 43) (J (some (Y q 0)) fs.length cap):=⟨_,rfl⟩;rw[<-hw']at hz qn l0 B0⊢;clear hw';have qw:∀b,m.bz b≠5->w'.heap[b]?=w.heap[b]?:=λb hb'=>qn b (by have:=h.re.wh b hb';omega);obtain⟨who',m0⟩:∃who':Nat->Nat,who'=λb=>if 10+3*fs.length<=m.bz b/\m.bz b<=12+3*fs.length then 0 else m.bz b:=⟨_,rfl⟩
 have wold:∀b,¬(10+3*fs.length<=m.bz b/\m.bz b<=12+3*fs.length)->who' b=m.bz b:=λb hb'=>by rw[m0];exact Z hb'
 have wnew:∀b,10+3*fs.length<=m.bz b->m.bz b<=12+3*fs.length->who' b=0:=λb h1 h2=>by rw[m0];exact G ⟨h1,h2⟩
 have w5:∀b,who' b≠5->m.bz b≠5:=λb hb' he=>hb' (by rw[wold b (by omega)];exact he);clear m0;have h0:∀b,m.bz b=0->who' b=0:=λb hb'=>(wold b (by omega)).trans hb';have q0:∀b,m.bz b=0->w'.heap[b]?=w.heap[b]?:=λb hb'=>qw b (by omega);have c0:=h.re.aI (w':=w') who' (λb hb'=>⟨wold b (by omega),qw b (by omega)⟩)
 have bt:f.first.length<=16/\f.fN.length<=16:=by obtain⟨c1,c2,-⟩:=o0.2;exact⟨by omega,by omega⟩
 have b0:=hf.done (w':=w') (who':=who') bt (λb hb'=>by
  rcases hb' with hb'|hb'|hb'
  ·exact h0 b hb'
  ·exact wnew b (by omega) (by omega)
  exact wnew b (by omega) (by omega)) qw
 rw[show 3 - (fs.length+1)+1=3 - fs.length by omega]at b0 n0;have i0:=c0.oo;rw[k0,s0,D0]at i0;simp only[length_cons,map_cons,reverse_cons]at i0;have a0:=yu2 i0.1
 have C0:∀(r':RS) (m':Xv),r'.ae=r.ae->r'.au.length=r.au.length->r'.am=r.am->m'.ov=J (some (Y q 0)) fs.length cap->m'.t=m.t->Zh w' R 45 (Vx Pb lm vm cm ap r' m'):=λr' m' e1 e2 e4 e5 e6=>B0.congr (λj hj=>by
  by_cases h4:j=43
  ·subst h4;rw[G rfl];exact e5.symm
  rw[Z h4];unfold Vx;rw[e1,e2,e4,e6]
  by_cases hs:j=0\/j=1\/j=2\/j=3\/j=40\/j=41\/j=42\/j=44
  ·rcases hs with rfl|rfl|rfl|rfl|rfl|rfl|rfl|rfl<;>rfl
  rw[Z (show ¬j=0 by omega),Z (show ¬j=1 by omega),Z (show ¬j=2 by omega),Z (show ¬j=3 by omega),Z (show ¬j=40 by omega),Z (show ¬j=41 by omega),Z (show ¬j=42 by omega),Z h4,Z (show ¬j=44 by omega)]
  rw[Z (show ¬j=0 by omega),Z (show ¬j=1 by omega),Z (show ¬j=2 by omega),Z (show ¬j=3 by omega),Z (show ¬j=40 by omega),Z (show ¬j=41 by omega),Z (show ¬j=42 by omega),Z h4])
 have t0:∀b,(J (some (Y q 0)) fs.length cap).ownBlock=some b->who' b=2:=i0.2;refine⟨{m with bz:=who',gs:=gs,ov:=J (some (Y q 0)) fs.length cap},?_⟩
 cases e0:fs with
 |nil=>
  have v0:gs=[]:=(by have:=n0.len;rw[e0]at this;exact Qi (by simpa using this));have f0:r.bB={r with ct:=r.ct++[f.done],fr:=[]}:=(by unfold RS.bB;rw[k0,e0]);rw[f0];refine{ok:= ?ok,bel:=l0,fx:=λb f1 f2 f3 f4 f5 f6=>(qn b f2).trans (h.fx b f1 f2 f3 f4 f5 f6),cq:=h.cq,bP:=⟨b1,b2,b3,b4,b5,by omega⟩,nd:=h.nd,cR:= ?cR,cP:=h.cP.block (qn _ (by omega)),nl:=h.nl.block (qn _ (by omega)),nv:=h.nv.block (qn _ (by omega)),nc:=h.nc.block (qn _ (by omega)),tab:=h.tab,re:= ?re}
  case ok=>
   exact{cn:=⟨by have:=o0.1;simp at this⊢;omega,trivial⟩,lv:=h.ok.lv,ce:=h.ok.ce,ch:=h.ok.ch,lo:=h.ok.lo,st:=h.ok.st,fr:=(by simp),cl:=h.ok.cl,hl:=h.ok.hl,dw:=h.ok.dw,dm:=(by intro k hk;cases hk),head:=λhd=>(by rw[show ({r with ct:=r.ct++[f.done],fr:=[]}:RS).ae=r.ae from rfl,hb]at hd;cases hd),below:=h.ok.below,bC:=h.ok.bC,bH:=h.ok.bH,fA:=h.ok.fA}
  case cR=>exact C0 _ _ rfl rfl rfl (by rw[e0]) rfl
  case re=>
   have p0:=h.re.pb;rw[s0,v0]at p0;rw[e0]at b0 a0 t0;rw[v0]at a0;rw[v0];refine{wh:=λb hb'=>(by have:=h.re.wh b (w5 b hb');exact⟨this.1,by omega⟩),oc:=c0.oc.1,tc:=c0.oc.2,oh:=c0.oh.1,th:=c0.oh.2,pb:= ?pb,tb:=c0.pb.2,fa:=trivial,oo:=a0,to:=t0,la:=c0.la}
   case pb=>exact Yr.shut p0 h0 q0 (λb hb'=>qw b (by rw[h.re.tb b hb'];decide)) b0
 |cons f2 fs2=>
  cases u0:gs with
  |nil=>have:=n0.len;rw[e0,u0]at this;simp at this
  |cons g2 gs2=>
   rw[e0,u0]at n0;obtain⟨d0,x0⟩:=n0;obtain⟨f',hf'⟩:∃f':Fl.Frame,f'=if f2.cA then{f2 with fN:=f2.fN++[f.done]} else{f2 with first:=f2.first++[f.done]}:=⟨_,rfl⟩
   have j0:f'.kind=f2.kind/\f'.ap=f2.ap/\f'.e=f2.e/\f'.cA=f2.cA:=by rw[hf'];split<;>exact⟨rfl,rfl,rfl,rfl⟩
   have f0:r.bB={r with fr:=f'::fs2}:=(by unfold RS.bB;rw[k0,e0,hf']);rw[f0];have r0:g2.act f'=g2.act f2:=(by unfold GF.act;rw[j0.2.2.2]);rw[e0]at o0;rw[e0]at wold wnew a0 t0 g0;rw[u0]at a0;simp only[length_cons]at wold wnew g0;refine{ok:= ?ok,bel:=l0,fx:=λb f1 f2 f3 f4 f5 f6=>(qn b f2).trans (h.fx b f1 f2 f3 f4 f5 f6),cq:=h.cq,bP:=⟨b1,b2,b3,b4,b5,by omega⟩,nd:=h.nd,cR:= ?cR,cP:=h.cP.block (qn _ (by omega)),nl:=h.nl.block (qn _ (by omega)),nv:=h.nv.block (qn _ (by omega)),nc:=h.nc.block (qn _ (by omega)),tab:=h.tab,re:= ?re}
   case ok=>
    exact{
        cn:=⟨by have:=o0.1;simp at this⊢;omega,(by
         show zz4 r.am 0 (f'::fs2);obtain⟨-,-,c1,c2,c3⟩:=o0.2;rw[hf']
         cases hh:f2.cA with
         |true=>rw[hh]at c1 c2;simp at c1 c2;refine⟨?_,?_,c3⟩<;>simp[hh]<;>omega
         |false=>rw[hh]at c1 c2;simp at c1 c2;refine⟨?_,?_,c3⟩<;>simp[hh]<;>omega)⟩,lv:=h.ok.lv,ce:=h.ok.ce,ch:=h.ok.ch,lo:=h.ok.lo,st:=h.ok.st,fr:=(by simp;omega),cl:=h.ok.cl,hl:=h.ok.hl,dw:=h.ok.dw,dm:=(by
         intro k hk;have y0:=h.ok.dm;rw[k0,e0]at y0;rcases mem_cons.1 hk with rfl|hk
         ·rw[j0.1];exact y0 f2 (by simp)
         exact y0 k (by simp[hk])),head:=λhd=>(by rw[show ({r with fr:=f'::fs2}:RS).ae=r.ae from rfl,hb]at hd;cases hd),below:=h.ok.below,bC:=h.ok.bC,bH:=h.ok.bH,fA:=h.ok.fA}
   case cR=>exact C0 _ _ rfl rfl rfl (by rw[e0]) rfl
   case re=>
    have p0:=c0.pb;rw[s0,u0,zez]at p0;rw[e0]at b0;refine{wh:=λb hb'=>(by have:=h.re.wh b (w5 b hb');exact⟨this.1,by omega⟩),oc:=c0.oc.1,tc:=c0.oc.2,oh:=c0.oh.1,th:=c0.oh.2,pb:=p0.1,tb:=p0.2,fa:= ?fa,oo:=a0,to:=t0,la:=c0.la}
    case fa=>
     show Vk who' base w' (3 - (f'::fs2).length) [] (f'::fs2) (g2::gs2);have z0:∀b,(g2.act f2).ownBlock=some b->m.bz b=12+3*fs2.length:=d0.ta;refine⟨?_,?_⟩
     ·refine{ts:=(wold g2.sb (by rw[d0.ts];omega)).trans d0.ts,to:=(wold g2.ob (by rw[d0.to];omega)).trans d0.to,ta:=λb hb'=>(by rw[r0]at hb';exact(wold b (by rw[z0 b hb'];omega)).trans (z0 b hb')),co:= ?co,cs:= ?cs,hv:=by rw[j0.2.2.1];exact d0.hv.kept h0 q0,pa:= ?pa,pf:= ?pf,pe:= ?pe}
      case co=>rw[j0.2.2.2];exact d0.co.block (qw _ (by rw[d0.to];omega))
      case cs=>rw[j0.1,j0.2.1];exact d0.cs.block (qw _ (by rw[d0.ts];omega))
      case pa=>
       rw[r0,j0.2.2.2];have:=Yr.shut (w':=w') d0.pa h0 q0 (λb hb'=>qw b (by rw[z0 b hb'];omega)) b0;rw[hf']
       cases hh:f2.cA<;>rw[hh]at this<;>exact this
      case pf=>
       intro hh;rw[j0.2.2.2]at hh;have:=Zl.kept h0 q0 _ _ _ (d0.pf hh);rw[hf',hh];exact this
      case pe=>
       intro hh;rw[j0.2.2.2]at hh;rw[hf',hh];exact d0.pe hh
     exact x0.kept (λb hb'=>by
      rcases hb' with hb'|hb'
      ·exact⟨wold b (by omega),q0 b hb'⟩
      exact⟨wold b (by omega),qw b (by omega)⟩)
def end_any(h:Zo lo base R Pb lm vm cm w0 w r ap m)(n0:r.ae=true)(v:Value)(k:K)(ln:Nat)(hk:(k==eq)=false):
  F 128 #[M R,v] w (Ze lo base R Pb lm vm cm w0 ap (r.bS ln [k])):=by
 obtain⟨aX,a0⟩:=U (r.bS ln [k]);rw[<-a0];have d0:O (F 160 #[M R] w λe w'=>e=.returned (zw0 m.gs)/\E w w'/\w'.heap=w.heap):=zuv h;have HH:=A h;have hl:=h.re.fa.len;have bP:=h.bP;have cq:=h.cq
 cases e0:r.fr with
 |nil=>
  have f0:m.gs=[]:=(by rw[e0]at hl;exact Qi (by simpa using hl));have HR:O (aX=(3,r)):=(by show _=_;rw[a0];simp only[RS.bS,e0]);rw[f0]at d0;unfold zw0 at d0;clear h a0 e0 f0 hl
  go_enter func128,ntmps128
  go_wp2_with fail
  refine d0.mono ?_;rintro e W ⟨rfl,c0,k0⟩;have o0:=c0.size;have HW:O (Zo lo base R Pb lm vm cm w0 W r ap m):=HH.below c0;have p0:O (F 71 #[M R,.bool false,I 3] W λe w'=>e=.panicked (Zf 3 ap)/\E W w'):=Ye R 3 ap W (HW.cR.c 1 (by omega));clear c0 k0 d0
  go_wp2_with fail
  refine p0.mono ?_;rintro e w1 ⟨rfl,c0⟩;exact⟨rfl,Ze.eQ HR (by decide) rfl (HW.gone c0)⟩
 |cons f fs=>
  cases f0:m.gs with
  |nil=>rw[e0,f0]at hl;simp at hl
  |cons g gs=>
   obtain⟨ao,cap,i0,g0,b0⟩:=zhz h;have h0:=h.ok.fr;rw[e0]at i0 g0 b0 h0;obtain⟨q,rfl,-,-,-⟩:=b0 (by simp);simp only[length_cons]at i0 g0 h0;have HR:O (aX=(0,r.bB)):=(by show _=_;rw[a0];simp only[RS.bS,e0,hk];rfl);obtain⟨n,hn⟩:=U (fs.length)
   have j0:O (∀W,Zo lo base R Pb lm vm cm w0 W r ap m->Ze lo base R Pb lm vm cm w0 ap aX (.returned (.tuple #[])) (W.setCell (Y R 43) (J (some (Y q 0)) n cap))):=λW hW=>by
    obtain⟨m',hm⟩:=hW.bB n0 e0 f0 i0;rw[<-hn]at hm;exact Ze.gx HR rfl hm
   rw[<-hn]at i0 g0 h0;rw[f0]at d0;unfold zw0 at d0;have q0:=A i0;have s0:(0:Int)<=(n:Int):=(by omega);have t0:(n:Int)<=2:=(by omega);have u0:(n:Int)+1<=(cap:Int):=(by omega);have v0:(n:Int)<=(cap:Int):=(by omega);have x0:cap≠0:=(by omega);have y0:IntKind.i64.wrap (n:Int)=(n:Int):=(by simp[IntKind.wrap,IntKind.signed,IntKind.bits];omega);clear h a0 e0 f0 hl i0 b0 hn
   go_enter func128,ntmps128
   go_wp2_with fail
   refine d0.mono ?_;rintro e W ⟨rfl,c0,k0⟩;have o0:=c0.size;have HW:O (Zo lo base R Pb lm vm cm w0 W r ap m):=HH.below c0;have l0:O (F 71 #[M R,.bool true,I 3] W (Rq (.tuple #[]) W)):=Xc R 3 W;have c43:W.cell? (Y R 43)=some (J (some (Y q 0)) (n+1) cap):=(by rw[<-q0.out];exact HW.cR.c 43 (by omega));have zR:=HW.cR.z;have r0:O (Ze lo base R Pb lm vm cm w0 ap aX (.returned (.tuple #[])) (W.drew.setCell (Y R 43) (J (some (Y q 0)) n cap))):=j0 W.drew HW.drew;clear c0 k0 d0 j0
   go_wp2_with fail
   refine l0.mono ?_;rintro e w1 ⟨rfl,m0⟩;rw[m0];clear m0 w1 l0
   go_wp2_with fail
   go_still_tail 14,(by kernel_rfl)
   go_wp2_with fail
   go_end0
   exact r0
end
end Go.Proofs.YtjmcibbdedlcoaaGreatDoor
