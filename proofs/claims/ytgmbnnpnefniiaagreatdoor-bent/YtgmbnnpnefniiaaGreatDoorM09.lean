import Derived.Test.YtgmbnnpnefniiaaGreatDoorM08
set_option linter.all false
set_option maxRecDepth 100000
set_option maxHeartbeats 40000000
namespace Go.Proofs.YtgmbnnpnefniiaaGreatDoor
open Go.RowKit Go.Proofs.Tryz List World Value Fl
variable{lo base R Pb lm vm cm n d z1 z2 T:Nat}{w0 w w' W w1 w2:World}{p v' x v:Value}{e:TypeId}{xs:Vs}{S S':Nat->Prop}{aF:Nat->Nat}
section
variable{r:RS}{aq:Int}{m:Ya}
def Zn.jQ(h:Zn lo base R Pb lm vm cm w0 w r aq m)(hb:r.ag=false)(c0:bp r.au.length r.tab=true)(hW:D w W)(hz:w.heap.size<W.heap.size)(hl:Jo W w.heap.size r.au.length r.tab):
  ∃m',Zn lo base R Pb lm vm cm w0 ((W.setCell (O Pb 0) (ptr w.heap.size)).setCell (O R 2) (.bool true)) {r with ag:=true} aq m':=by
 obtain⟨b1,b2,b3,b4,b5,b6⟩:=h.bU;obtain⟨l1,l2,l3,l4,l5⟩:=h.bB;obtain⟨n1,n2,n3,n4,n5,n6,n7,n8,n9,n10⟩:=h.nd;have hk:=h.below hW;obtain⟨WF,b0⟩:=J ((W.setCell (O Pb 0) (ptr w.heap.size)).setCell (O R 2) (.bool true));rw[<-b0]
 have g0:WF.heap.size=W.heap.size:=by rw[b0,Zy,Zy]
 have q:∀b,b≠R->b≠Pb->WF.heap[b]?=W.heap[b]?:=λb h1 h2=>by rw[b0,Zx _ _ _ _ _ h1,Zx _ _ _ _ _ h2]
 have d0:∀b,m.aF b≠5->b≠w.heap.size:=λb hb'=>by have:=h.re.wh b hb';omega
 have a0:=hk.re.nS (w':=WF) 6 (by decide) (λb=>if b=w.heap.size then 0 else m.aF b) (λb h5 _=>⟨U (d0 b h5),q b (by have:=h.re.wh b h5;omega) (by have:=h.re.wh b h5;omega)⟩);refine⟨{m with pl:=ptr w.heap.size,aF:=λb=>if b=w.heap.size then 0 else m.aF b},?_⟩;refine{ok:= ?ok,bel:= ?bel,fx:=λb f1 f2 f3 f4 f5 f6=>((q b f2 f3).trans (hW.block b (by omega))).trans (h.fx b f1 f2 f3 f4 f5 f6),bB:=h.bB,bU:=⟨b1,b2,b3,b4,b5,by omega⟩,nd:=h.nd,cR:= ?cR,cP:= ?cP,nl:=hk.nl.block (q _ (Ne.symm n2) (Ne.symm n5)),nv:=hk.nv.block (q _ (Ne.symm n3) (Ne.symm n6)),nc:=hk.nc.block (q _ (Ne.symm n4) (Ne.symm n7)),tab:=h.tab,re:= ?re}
 case ok=>
  exact{cn:=h.ok.cn,lv:=h.ok.lv,ce:=h.ok.ce,ch:=h.ok.ch,lo:=h.ok.lo,st:=h.ok.st,fr:=h.ok.fr,cl:=h.ok.cl,hl:=h.ok.hl,cM:=h.ok.cM,cF:=h.ok.cF,head:=λhh=>(by cases hh),below:=h.ok.below,aB:=h.ok.aB,cS:=h.ok.cS,fh:=λ_=>c0}
 case bel=>rw[b0];exact(hk.bel.setCell l2 _).setCell l1 _
 case cR=>
  have hc:=(hk.cR.block (w':=W.setCell (O Pb 0) (ptr w.heap.size)) (Zx _ _ _ _ _ n1)).set (j:=2) (by omega) (.bool true);rw[<-b0]at hc;refine hc.congr λj hj=>?_
  by_cases h2:j=2
  ·subst h2;rfl
  rw[U h2];unfold Xa
  by_cases hs:j=0\/j=1\/j=3\/j=40\/j=41\/j=42\/j=43\/j=44
  ·rcases hs with rfl|rfl|rfl|rfl|rfl|rfl|rfl|rfl<;>rfl
  rw[U (show ¬j=0 by omega),U (show ¬j=1 by omega),U h2,U (show ¬j=0 by omega),U (show ¬j=1 by omega),U h2]
 case cP=>
  have hc:=(hk.cP.set (j:=0) (by omega) (ptr w.heap.size)).block (w':=WF) (by rw[b0];exact Zx _ _ _ _ _ (Ne.symm n1));refine hc.congr λk hk=>?_;rcases(show k=0\/k=1\/k=2\/k=3\/k=4 by omega) with rfl|rfl|rfl|rfl|rfl<;>rfl
 case re=>
  exact{
      wh:=λb hb'=>by
       by_cases f0:b=w.heap.size
       ·omega
       have e0:(if b=w.heap.size then 0 else m.aF b)≠5:=hb';rw[U f0]at e0;have:=h.re.wh b e0;omega
      oc:=(a0.oc (by decide)).1,tc:=(a0.oc (by decide)).2,oh:=(a0.oh (by decide)).1,th:=(a0.oh (by decide)).2,pb:=(a0.pb (by decide)).1,tb:=(a0.pb (by decide)).2,fa:=a0.fa (.inl (by decide)),oo:=(a0.oo (by decide)).1,to:=(a0.oo (by decide)).2,la:=λ_=>⟨w.heap.size,rfl,G rfl,hl.block (q _ (by omega) (by omega))⟩}
def yhz(h:Zn lo base R Pb lm vm cm w0 w r aq m)(l0:r.ag=false)(v:Value)(k:L)(hv:∃ao n c,v=A ao n c):
  E 132 #[F R,v] w (Zb lo base R Pb lm vm cm w0 aq (r.head [k])):=by
 obtain⟨ao,vn,vc,rfl⟩:=hv;obtain⟨aX,d0⟩:=J (r.head [k]);rw[<-d0]
 have e0:Y (aX=if bp r.au.length r.tab then(0,{r with ag:=true}) else(6,r)):=by show _=_;rw[d0];rfl
 have m0:=h.ok.lv
 have n0:=Z (yrz R r.au.length m.t w m0 (h.cR.c 3 (by omega)) (λi j hi hj=>by
  have:=h.cR.c (4+i*6+j) (by omega)
  rw[yv9 _ _ _ _ _ _ _ _ _ hi hj]at this;exact this))
 have a0:∀i j,i<r.au.length->j<r.au.length->fw r.au.length m.t i j=r.tab i j:=λi j hi hj=>by
  refine jo _ _ _ (λa b ha hb=>?_) _ lE i j hi hj;rw[h.tab a b (by omega) (by omega)];simp[ha]
 have g0:=Z (fA a0);have o0:=Z a0;have HH:=Z h;clear h d0 a0
 go_enter func132,ntmps132
 go_wp2_with fail
 refine n0.mono ?_;rintro e W ⟨b0,f0⟩;have HW:=Z (HH.below b0);have bU:=HW.bU;have bB:=HW.bB;have q0:=HW.nd;rcases f0 with⟨hl,rfl,hz,h0⟩|⟨hl,rfl⟩
 ·rw[g0.out]at hl
  have HR:Y (aX=(0,{r with ag:=true})):=(by show _=_;rw[e0.out,G hl]);have HF:=Z (HH.jQ l0 hl b0 hz (h0 r.tab o0 (RS.fh hl)));have i0:=Z (Xe R 6 W);have c0:M W R 0 (F Pb):=HW.cR.c 0 (by omega);have p0:M W Pb 0 m.pl:=HW.cP.c 0 (by omega);have zP:=HW.cP.z;have zR:=HW.cR.z;have c2:∀v,M (W.setCell (O Pb 0) v) R 2 (.bool r.ag):=λv=>cQ (Zx _ _ _ _ _ q0.1) (HW.cR.c 2 (by omega))
  have zR2:∀v j,(W.setCell (O Pb 0) v).frozen? (O R j)=false:=λv j=>by rw[frozen?_setCell];exact zR j
  obtain⟨pv,j0⟩:=J (m.pl);rw[<-j0]at p0;clear h0 hl b0 j0;unfold ptr at HF⊢
  go_wp2_with fail
  refine i0.mono ?_;rintro e w1 ⟨rfl,k0⟩;rw[k0];clear k0 w1 i0;go_wp2
  go_end0
  obtain⟨m',hm'⟩:=HF.out;exact Zb.fd HR rfl hm'
 rw[g0.out]at hl
 have HR:Y (aX=(6,r)):=by show _=_;rw[e0.out,U (by rw[hl];decide)]
 have r0:=Z (Yf R 6 aq W (HW.cR.c 1 (by omega)));clear hl b0
 go_wp2_with fail
 refine r0.mono ?_;rintro e w1 ⟨rfl,s0⟩;exact⟨rfl,Zb.dP HR (by decide) rfl (HW.gone s0)⟩
end
def zly(w w':World)(b:Nat):Prop:=w.heap.size<=b/\b<w'.heap.size
def Fl.RS.lY(r:RS)(x:L):r.atom x=if(bm x 9).2 then some ⟨false,(bm x 9).1⟩ else if 0<=aj (r.cells++r.ap) x then some ⟨true,(aj (r.cells++r.ap) x).toNat⟩ else none:=by
 unfold RS.atom;rw[eZ];have h1:=aQ r.cells x;have h2:=aQ r.ap x
 by_cases hn:(bm x 9).2=true
 ·rw[G hn,G hn]
 rw[U hn,U hn]
 by_cases hc:0<=aj r.cells x
 ·rw[G hc,G hc,G hc]
 rw[U hc,U hc]
 by_cases hl:0<=aj r.ap x
 ·rw[G hl,G hl,G (by omega)]
  congr 2;omega
 rw[U hl,U hl,U (by omega)]
def yhy(o:Option dK)(aq:Int)(w:World)(e:Ending)(w':World):Prop:=
 D w w'/\(∀a,o=some a->∃p,e=.returned p/\Xn (zly w w') w' p a)/\(o=none->e=.panicked (Za 4 aq))
def yvv(w:World)(k v:Int)(a:dK)(hk:k=if a.var then 1 else 0)(hv:v=a.v)(hW:D w W):Xn (zly w (W.alloc (.cells #[I k,I v,.pointer none,.pointer none] 284))) (W.alloc (.cells #[I k,I v,.pointer none,.pointer none] 284)) (F W.heap.size) a:=by
 refine⟨W.heap.size,rfl,⟨hW.size,by simp⟩,?_⟩;rw[<-hk,<-hv];exact Ze.new W [I k,I v,.pointer none,.pointer none] _
section
variable{r:RS}{aq:Int}{m:Ya}
def zfy(h:Zn lo base R Pb lm vm cm w0 w r aq m)(x:L)(hx:x.length<=100000):
  E 175 #[F R,Tq x] w (yhy (r.atom x) aq w):=by
 have a0:=zj9 x w hx;have b0:=iV x;obtain⟨ra,g0⟩:=J (r.atom x);have c0:=RS.lY r x;rw[<-g0]at c0⊢;obtain⟨nb,hnb⟩:=J ((bm x 9).2);obtain⟨nv,i0⟩:=J ((bm x 9).1);obtain⟨pl,e0⟩:=J (aj (r.cells++r.ap) x);rw[<-hnb,<-i0]at b0 c0;rw[<-e0]at c0;rw[b0]at a0;have j0:=Z c0;have HH:=Z h;have m0:=Z e0;clear b0 c0 g0 hnb i0 e0 h
 cases nb with
 |true=>
  have HN:=Z a0;have HR:Y (ra=some ⟨false,nv⟩):=j0.out;clear a0
  go_enter func175,ntmps175
  go_wp2_with fail
  refine HN.mono ?_;rintro e W ⟨rfl,hb⟩;have HB:Y (D w W):=hb;clear hb HN;go_wp2;go_ret;exact⟨HB.alloc HB.size _,λa ha=>⟨_,rfl,by rw[HR.out]at ha;simp only[Ql]at ha;subst ha;exact yvv w 0 nv ⟨false,nv⟩ rfl rfl HB⟩,λhn=>by rw[HR.out]at hn;cases hn⟩
 |false=>
  have HN:=Z a0;have HR:Y (ra=if 0<=pl then some ⟨true,pl.toNat⟩ else none):=j0.out;clear a0
  go_enter func175,ntmps175
  go_wp2_with fail
  refine HN.mono ?_;rintro e W ⟨rfl,hb⟩;have HB:Y (D w W):=hb;have HW:Y (Zn lo base R Pb lm vm cm w0 W r aq m):=HH.below hb;obtain⟨mx,tb,n0,f0,hmx⟩:=HW.nv.iw x hx;rw[<-m0.out]at f0 hmx;have k0:Y (tb=decide (0<=pl)):=f0;have o0:Y (mx=max 0 pl):=hmx;have c41:M W R 41 (.map (some vm)):=HW.cR.c 41 (by omega);have p0:Y (E 94 #[F R,.bool false,I 4] W λe w'=>e=.panicked (Za 4 aq)/\D W w'):=Yf R 4 aq W (HW.cR.c 1 (by omega));have q0:Y (E 94 #[F R,.bool true,I 4] W (Rq (.tuple #[]) W)):=Xe R 4 W;have hz:=hb.size;clear hb HN f0 hmx
  cases tb with
  |true=>
   have h0:0<=pl:=(by have:=k0.out;simpa using this);have d0:Y (ra=some ⟨true,pl.toNat⟩):=(by show _=_;rw[HR.out,G h0]);have r0:Y (mx=pl):=(by show _=_;rw[o0.out];omega)
   go_wp2_with fail
   refine q0.mono ?_;rintro e w1 ⟨rfl,l0⟩;rw[l0];clear l0 w1 n0 c41;go_wp2;go_ret;exact⟨HB.alloc HB.size _,λa ha=>⟨_,rfl,by rw[d0.out]at ha;simp only[Ql]at ha;subst ha;exact yvv w 1 mx ⟨true,pl.toNat⟩ rfl (by rw[r0.out];simp;omega) HB⟩,λhn=>by rw[d0.out]at hn;cases hn⟩
  |false=>
   have h0:¬0<=pl:=(by have:=k0.out;simpa using this);have d0:Y (ra=none):=(by show _=_;rw[HR.out,U h0])
   go_wp2_with fail
   refine p0.mono ?_;rintro e w1 ⟨rfl,s0⟩;exact⟨rfl,HB.trans (s0.mono (by omega)),λa ha=>(by rw[d0.out]at ha;cases ha),λ_=>rfl⟩
end
def zlx(o:Option dZ)(aq:Int)(w:World)(e:Ending)(w':World):Prop:=
 D w w'/\(∀x,o=some x->∃pb,e=.returned (F pb)/\zs3 (zly w w') w' (ptr pb) x)/\(o=none->e=.panicked (Za 4 aq))
def Xn.later{a:dK}(h:Xn (zly w w1) w1 p a)(hb:D w1 w2):Xn (zly w w2) w2 p a:=
 h.kept (λb hb'=>⟨hb'.1,Qj hb'.2 hb.size⟩) (λb hb'=>hb.block b hb'.2)
def Xn.lower{a:dK}(h:Xn (zly w1 w2) w2 p a)(hz:w.heap.size<=w1.heap.size):Xn (zly w w2) w2 p a:=
 h.kept (λb hb'=>⟨Nat.le_trans hz hb'.1,hb'.2⟩) (λ_ _=>rfl)
section
variable{r:RS}{aq:Int}{m:Ya}
def zfx(h:Zn lo base R Pb lm vm cm w0 w r aq m)(b off cap:Nat)(x:L)(hx:x.length<=100000)(f0:1<=cap)(i0:w.cell? (O b off)=some (Tq x)):
  E 160 #[F R,Sq b off 1 cap] w (zlx (r.value [x]) aq w):=by
 have HS:=Z (zfy h x hx);clear h
 go_enter func160,ntmps160
 go_wp2_with fail
 refine HS.mono ?_;rintro e W ⟨hb,d0,a0⟩;have HB:=Z hb;clear hb HS
 cases b0:r.atom x with
 |none=>
  obtain rfl:=a0 b0;exact⟨rfl,HB,λy hy=>(by simp[RS.value,b0]at hy),λ_=>rfl⟩
 |some a=>
  obtain⟨p,rfl,c0⟩:=d0 a b0;obtain⟨vb,rfl,g0⟩:=id c0;have h0:=Z c0;have e0:=Z b0;clear c0 d0 a0 b0 g0;unfold ptr;go_wp2;go_ret;refine⟨HB,λy hy=>⟨vb,rfl,?_⟩,λhn=>?_⟩
  ·simp only[RS.value,e0.out,Option.map_some,Ql]at hy
   subst hy;exact .inl ⟨rfl,h0⟩
  simp[RS.value,e0.out]at hn
def ymv(h:Zn lo base R Pb lm vm cm w0 w r aq m)(b off cap:Nat)(x o y:L)(hx:x.length<=100000)(ho:o.length<=100000)(hy:y.length<=100000)(n0:0<=aj cW o)(A0:3<=cap)
  (l0:w.cell? (O b off)=some (Tq x)) (B0:w.cell? (O b (off+1))=some (Tq o)) (o0:w.cell? (O b (off+2))=some (Tq y)):
  E 160 #[F R,Sq b off 3 cap] w (zlx (r.value [x,o,y]) aq w):=by
 obtain⟨ov,m0⟩:=J (aj cW o)
 have u0:Y (∀W,E 169 #[Tq o] W (Rq (.tuple #[I ov,.bool true]) W)):=λW=>by
  have:=znw o W ho;rw[show (((aj cW o).toNat:Nat):Int)=ov by rw[m0];omega,show decide (0<=aj cW o)=true by simpa using n0]at this;exact this
 have HS:Y (∀W z,z.length<=100000->Zn lo base R Pb lm vm cm w0 W r aq m->E 175 #[F R,Tq z] W (yhy (r.atom z) aq W)):=λW z hz hW=>zfy hW z hz;have HH:=Z h
 have p0:0<=ov:=by rw[m0];exact n0
 obtain⟨aX,b0⟩:=J (r.value [x,o,y]);rw[<-b0]
 have e0:Y (aX=(r.atom x).bind λa=>(r.atom y).map λc=>⟨ov,a,c⟩):=by show _=_;rw[b0,m0];rfl
 clear h m0 n0 b0
 go_enter func160,ntmps160
 go_wp2_with fail
 refine(u0 _).mono ?_;rintro e w1 ⟨rfl,v0⟩;rw[v0];clear v0 w1 u0 B0
 go_wp2_with fail
 refine zx2 (λW=>M W b off (Tq x)/\M W b (off+2) (Tq y)) [] [(0,0),(0,1),(0,2),(0,3),(0,4),(0,6),(0,7),(0,8),(0,9),(1,5),(1,10),(0,11),(1,12),(0,13)] [] (by kernel_rfl) (by kernel_rfl) rfl [(_,_),(_,_),(_,_),(_,_),(_,_),(_,_),(_,_),(_,_),(_,_),(_,_),(_,_),(_,_),(_,_),(_,_)] rfl (λc a d v w h=>by cases d<;>exact h) ⟨l0,o0⟩ (λops hG=>?_);clear hG;simp only[getElem_toArray,getElem_cons_succ,getElem_cons_zero]
 iterate 9 refine Uo rfl (kE (by intros;go_simp<;>rfl) (by go_simp<;>rfl) ?_)
 refine Zm ?_;have hbz:=Qe w _ l0
 go_wp2_with fail
 refine(HS w.drew x hx HH.drew).mono ?_;rintro e W ⟨hb,g0,a0⟩;have hB:=(Below.refl w.heap.size w).drew.trans hb;have HB:=Z hB;have HW:=Z (HH.below hB);have d0:=cT hB hbz l0;have d2:=cT hB hbz o0;have hz:=hB.size;clear l0 o0 hb hB
 cases h0:r.atom x with
 |none=>
  obtain rfl:=a0 h0;have HN:aX=none:=(by rw[e0.out,h0];rfl);exact⟨rfl,HB,λy hy=>(by rw[HN]at hy;cases hy),λ_=>rfl⟩
 |some a=>
  obtain⟨p,rfl,q0⟩:=g0 a h0;obtain⟨xb,rfl,-⟩:=id q0;have C0:Y (Xn (zly w W) W (ptr xb) a):=by
   refine Xn.kept q0 (λb' hb'=>?_) (λ_ _=>rfl);exact⟨by have:=hb'.1;simpa using this,hb'.2⟩
  have x0:Y (aX=(r.atom y).map λc=>⟨ov,a,c⟩):=(by show _=_;rw[e0.out,h0];rfl);clear q0 g0 a0 h0;unfold ptr
  go_wp2_with fail
  refine⟨⟨d0,d2⟩,?_⟩;refine Zm ?_
  go_wp2_with fail
  refine(HS W y hy HW).mono ?_;rintro e W2 ⟨i0,g0,a0⟩;have r0:=Z i0;have f0:=cT i0 (by show b<_;omega) d0;have f2:=cT i0 (by show b<_;omega) d2;have E0:=i0.size;clear d0 d2 i0
  cases j0:r.atom y with
  |none=>
   obtain rfl:=a0 j0;have HN:aX=none:=(by rw[x0.out,j0];rfl);exact⟨rfl,HB.trans (r0.mono (by omega)),λy hy=>(by rw[HN]at hy;cases hy),λ_=>rfl⟩
  |some c=>
   obtain⟨p,rfl,s0⟩:=g0 c j0;obtain⟨yb,rfl,-⟩:=id s0;have D0:=Z (Xn.lower s0 (by omega));have t0:=Z (Xn.later C0 r0.out);have y0:Y (aX=some ⟨ov,a,c⟩):=(by show _=_;rw[x0.out,j0];rfl);have c0:=Z (HB.trans (r0.mono (by omega)));have f0':∀o,M (W2.alloc o) b off (Tq x):=λo=>(Qf _ _ _ (by show b<_;omega)).trans f0;have f2':∀o,M (W2.alloc o) b (off+2) (Tq y):=λo=>(Qf _ _ _ (by show b<_;omega)).trans f2;clear s0 g0 a0 j0;unfold ptr
   go_wp2_with fail
   refine⟨⟨f0,f2⟩,?_⟩;refine Uo rfl (kE (by intro w' hw';go_simp<;>rfl) (by go_simp<;>rfl) ?_);refine Zm ?_
   go_wp2_with fail
   refine⟨⟨f0' _,f2' _⟩,?_⟩;refine Uo rfl (kE (by intro w' hw';go_simp<;>rfl) (by go_simp<;>rfl) ?_);refine Zs ?_;go_wp2;go_ret;refine⟨c0.alloc c0.size _,λz hz'=>⟨_,rfl,?_⟩,λhn=>(by rw[y0.out]at hn;cases hn)⟩;rw[y0.out]at hz';simp only[Ql]at hz';subst hz';have z0:D W2 (W2.alloc (.cells #[I 2,I ov,F xb,F yb] 284)):=bA;refine .inr ⟨p0,W2.heap.size,ptr xb,ptr yb,rfl,⟨c0.size,by simp⟩,?_,Xn.later t0 z0,Xn.later D0 z0⟩;exact Ze.new W2 [I 2,I ov,ptr xb,ptr yb] _
end
section
variable{r:RS}{aq:Int}{m:Ya}
def Zn.ip(h:Zn lo base R Pb lm vm cm w0 w r aq m)(hb:r.ag=true)(x:L)(bB:r.ap.length<4)(hz:w.heap.size<=w'.heap.size)(hq:∀b,b<w.heap.size->b≠vm->b≠Pb->w'.heap[b]?=w.heap[b]?)(a0:Below lo w0 w')
  (b0:Ze w' Pb 5 (rw_ [m.pl,m.aB,m.cS,I ((r.ap.length:Int)+1),m.bv])) (c0:Yx w' vm (r.cells++(r.ap++[x]))):Zn lo base R Pb lm vm cm w0 w' {r with ap:=r.ap++[x]} aq m:=by
 obtain⟨b1,b2,b3,b4,b5,b6⟩:=h.bU;obtain⟨n1,n2,n3,n4,n5,n6,n7,n8,n9,n10⟩:=h.nd;have hr:=h.re.kept hz (λb hw=>hq b (h.re.wh b hw).2 (by have:=h.re.wh b hw;omega) (by have:=h.re.wh b hw;omega));exact{ok:={cn:=h.ok.cn,lv:=h.ok.lv,ce:=h.ok.ce,ch:=h.ok.ch,lo:=by simp;omega,st:=h.ok.st,fr:=h.ok.fr,cl:=h.ok.cl,hl:=h.ok.hl,cM:=h.ok.cM,cF:=h.ok.cF,head:=λhh=>(by rw[show ({r with ap:=r.ap++[x]}:RS).ag=r.ag from rfl,hb]at hh;cases hh),below:=h.ok.below,aB:=h.ok.aB,cS:=h.ok.cS,fh:=h.ok.fh},bel:=a0,fx:=λb f1 f2 f3 f4 f5 f6=>(hq b (by omega) f5 f3).trans (h.fx b f1 f2 f3 f4 f5 f6),bB:=h.bB,bU:=⟨b1,b2,b3,b4,b5,by omega⟩,nd:=h.nd,cR:=(h.cR.block (hq _ (by omega) n3 n1)).congr (λj hj=>(zuy Pb lm vm cm aq r {r with ap:=r.ap++[x]} m m j rfl rfl rfl rfl hj (λ_ _ _ _ _=>rfl)).symm),cP:=by simpa using b0,nl:=h.nl.block (hq _ (by omega) n8 (Ne.symm n5)),nv:=c0,nc:=h.nc.block (hq _ (by omega) (Ne.symm n10) (Ne.symm n7)),tab:=h.tab,re:={wh:=hr.wh,oc:=hr.oc,tc:=hr.tc,oh:=hr.oh,th:=hr.th,pb:=hr.pb,tb:=hr.tb,fa:=hr.fa,oo:=hr.oo,to:=hr.to,la:=hr.la}}
def Fl.RS.io(r:RS)(x:L):r.bu x=if 0<=aj (r.cells++r.ap) x then some ((aj (r.cells++r.ap) x).toNat,r) else if r.ap.length=4 then none else some (r.cells.length+r.ap.length,{r with ap:=r.ap++[x]}):=by
 unfold RS.bu;rw[eZ]
 by_cases hc:0<=aj r.cells x
 ·rw[G hc,G hc,G hc]
 rw[U hc,U hc]
 by_cases hl:0<=aj r.ap x
 ·rw[G hl,G hl,G (by omega)]
  congr 2;omega
 rw[U hl,U hl,U (show ¬(0:Int)<= -1 by omega)]
def VrEnds(lo base R Pb lm vm cm:Nat)(w0:World)(r:RS)(aq:Int)(m:Ya)(x:L)(w:World)(e:Ending)(w':World):Prop:=
 (∃k r',r.bu x=some (k,r')/\e=.returned (I (k:Nat))/\Zn lo base R Pb lm vm cm w0 w' r' aq m/\w.heap.size<=w'.heap.size/\∀b,b<w.heap.size->b≠vm->b≠Pb->w'.heap[b]?=w.heap[b]?)\/(r.bu x=none/\e=.panicked (Za 5 aq)/\zuz lo base R Pb lm vm cm w0 w')
def yu0(h:Zn lo base R Pb lm vm cm w0 w r aq m)(q0:r.ag=true)(x:L)(hx:x.length<=100000):
  E 162 #[F R,Tq x] w (VrEnds lo base R Pb lm vm cm w0 r aq m x w):=by
 obtain⟨pl,a0⟩:=J (aj (r.cells++r.ap) x);obtain⟨tg,r0⟩:=J (r.bu x);have hT:=RS.io r x;rw[<-a0]at hT;have HT:=Z hT;obtain⟨mx,tb,B0,e0,hmx⟩:=h.nv.iw x hx;rw[<-a0]at e0 hmx;have k0:=Z e0;have s0:=Z hmx;have t0:=Z a0;have c41:M w R 41 (.map (some vm)):=h.cR.c 41 (by omega);have c0:M w R 0 (F Pb):=h.cR.c 0 (by omega);have p3:M w Pb 3 (I r.ap.length):=h.cP.c 3 (by omega);have HH:=Z h;have u0:=h.ok.lo;have C0:=h.ok.ce;have bU:=h.bU;have bB:=h.bB;have D0:=h.nd;clear h hT r0 e0 hmx a0
 cases tb with
 |true=>
  have h0:0<=pl:=(by have:=k0.out;simpa using this);have v0:Y (mx=(pl.toNat:Int)):=(by show _=_;rw[s0.out];omega)
  go_enter func162,ntmps162
  go_wp2;go_ret;exact .inl ⟨pl.toNat,r,by rw[HT.out,G h0],by rw[<-v0.out];rfl,HH,lE,λ_ _ _ _=>rfl⟩
 |false=>
  have h0:¬0<=pl:=(by have:=k0.out;simpa using this);have l0:Y (E 94 #[F R,.bool false,I 5] w λe w'=>e=.panicked (Za 5 aq)/\D w w'):=Yf R 5 aq w (HH.cR.c 1 (by omega));have m0:Y (E 94 #[F R,.bool true,I 5] w (Rq (.tuple #[]) w)):=Xe R 5 w
  by_cases h4:r.ap.length=4
  ·have f0:Y (r.bu x=none):=by show _=_;rw[HT.out,U h0,G h4]
   have b4:¬(r.ap.length:Int)<4:=(by omega);clear h4
   go_enter func162,ntmps162
   go_wp2_with fail
   try rw[show decide ((r.ap.length:Int)<4)=false from decide_eq_false (by omega)]
   refine l0.mono ?_;rintro e w1 ⟨rfl,g0⟩;exact⟨rfl,.inr ⟨f0,rfl,HH.gone g0⟩⟩
  have f0:Y (r.bu x=some (r.cells.length+r.ap.length,{r with ap:=r.ap++[x]})):=(by show _=_;rw[HT.out,U h0,U h4]);have b4:(r.ap.length:Int)<4:=(by omega);obtain⟨W2,i0,n0,b0⟩:=HH.nv.put x hx (by rw[<-t0.out];omega) (by simp;omega);have aL:=HH.nv.len;obtain⟨nn,j0⟩:=J ((r.cells++r.ap).length);rw[<-j0]at i0 aL;have x0:Y (nn=r.cells.length+r.ap.length):=(by show _=_;rw[j0];simp);have q2:∀k,k<w.heap.size->k≠vm->W2.heap[k]?=w.heap[k]?:=λk hk y0=>b0.block k hk (by simpa using y0);have d0:=cQ (q2 R (by omega) (by omega)) c0;have d3:M W2 Pb 3 (I r.ap.length):=cQ (q2 Pb (by omega) (by omega)) p3;have dz:∀j,W2.frozen? (O Pb j)=false:=λj=>fQ (q2 Pb (by omega) (by omega)) (HH.cP.z j);have E0:=b0.size;have HF:Y (Zn lo base R Pb lm vm cm w0 (W2.setCell (O Pb 3) (I ((r.ap.length:Int)+1))) {r with ap:=r.ap++[x]} aq m/\w.heap.size<=(W2.setCell (O Pb 3) (I ((r.ap.length:Int)+1))).heap.size/\∀b,b<w.heap.size->b≠vm->b≠Pb->(W2.setCell (O Pb 3) (I ((r.ap.length:Int)+1))).heap[b]?=w.heap[b]?):=by
   have o0:∀b,b<w.heap.size->b≠vm->b≠Pb->(W2.setCell (O Pb 3) (I ((r.ap.length:Int)+1))).heap[b]?=w.heap[b]?:=λb g0 z0 A0=>by rw[Zx _ _ _ _ _ A0];exact q2 b g0 z0
   refine⟨HH.ip q0 x (by omega) (by rw[Zy];omega) o0 ?_ ?_ ?_,by rw[Zy];omega,o0⟩
   ·exact(HH.bel.grown b0 (by have:=HH.bel.size;omega) (λk hk=>by simp only[Ql]at hk;omega)).setCell (by show lo<=Pb;omega) _
   ·have hc:=(HH.cP.block (w':=W2) (q2 Pb (by omega) (by omega))).set (j:=3) (by omega) (I ((r.ap.length:Int)+1))
    refine hc.congr λk hk=>?_;rcases(show k=0\/k=1\/k=2\/k=3\/k=4 by omega) with rfl|rfl|rfl|rfl|rfl<;>rfl
   rw[<-append_assoc];exact n0.block (Zx _ _ _ _ _ (by omega))
  clear b0 n0 q2 h4 j0
  go_enter func162,ntmps162
  go_wp2_with fail
  refine m0.mono ?_;rintro e w1 ⟨rfl,p0⟩;rw[p0];clear p0 w1 m0 l0;go_wp2;go_ret;exact .inl ⟨_,_,f0,by rw[<-x0.out];rfl,HF⟩
end
section
variable{r:RS}{aq:Int}{m:Ya}
def zu1(gs:List GF):Value:=match gs with
 |[]=> .pointer none
 |g::_=> F g.ob
def zh6(h:Zn lo base R Pb lm vm cm w0 w r aq m):∃ao cap,m.ov=A ao r.fr.length cap/\r.fr.length<=cap/\(0<r.fr.length->∃g,ao=some (O g 0)/\base<=g/\g<w.heap.size/\w.cell? (O g (r.fr.length - 1))=some (zu1 m.gs)):=by
 have hl:=h.re.fa.len;rcases h.re.oo.2 with⟨h1,h2⟩|⟨g,cap,cur,h1,hb,hg,b0,c0,d0,ht⟩
 ·exact⟨none,0,by rw[h1,h2],by omega,λh0=>by omega⟩
 refine⟨_,cap,h1,by omega,λh0=>⟨g,rfl,hb,(Array.getElem?_eq_some_iff.1 hg).1,?_⟩⟩
 have h4:=h.re.oo.cells (g:=g) (by rw[h1];rfl) (r.fr.length - 1) (zu1 m.gs) (by
  cases a0:m.gs with
  |nil=>rw[a0]at hl;simp at hl;omega
  |cons a l=>
   rw[a0]at hl;simp only[map_cons,reverse_cons,length_cons]at hl⊢;rw[getElem?_append_right (by simp;omega)];simp only[length_reverse,length_map]
   rw[show r.fr.length - 1 - l.length=0 by omega];rfl)
 have h5:((O g 0):Addr).add (r.fr.length - 1)=(O g (r.fr.length - 1)):=by unfold Addr.add;split<;>simp_all
 rw[h5]at h4;exact h4
def zux(h:Zn lo base R Pb lm vm cm w0 w r aq m):
  E 164 #[F R] w λe w'=>e=.returned (zu1 m.gs)/\D w w'/\w'.heap=w.heap:=by
 obtain⟨ao,cap,f0,c0,a0⟩:=zh6 h
 have c43:w.cell? (O R 43)=some (A ao r.fr.length cap):=by rw[<-f0];exact h.cR.c 43 (by omega)
 have hl:=h.re.fa.len;have g0:=h.ok.fr
 by_cases h0:r.fr.length=0
 ·have b0:((r.fr.length:Int)==0)=true:=by rw[h0];rfl
  have HG:Y (m.gs=[]):=Qi (by omega);clear a0 h0 hl h
  go_enter func164,ntmps164
  go_wp2;go_ret;exact⟨by rw[HG.out];rfl,Below.refl _ _,rfl⟩
 have b0:((r.fr.length:Int)==0)=false:=by rw[Qh];omega
 obtain⟨g,rfl,j0,k0,d0⟩:=a0 (by omega);obtain⟨n,hn⟩:∃n,r.fr.length=n+1:=⟨r.fr.length - 1,by omega⟩;rw[hn]at c43 d0 b0 c0;rw[Nat.add_sub_cancel]at d0;obtain⟨lv,e0⟩:=J (zu1 m.gs);rw[<-e0]at d0⊢;have fV:∃q,lv=F q:=by
  rw[e0]
  cases i0:m.gs with
  |nil=>rw[i0]at hl;simp at hl;omega
  |cons a l=>exact⟨_,rfl⟩
 obtain⟨q,rfl⟩:=fV
 have l0:(n:Int)<=2:=by omega
 have m0:(0:Int)<=(n:Int):=by omega
 clear h0 hl h f0 e0 hn g0;have n0:n+1<=cap:=c0
 have o0:IntKind.i64.wrap (n:Int)=(n:Int):=by simp[IntKind.wrap,IntKind.signed,IntKind.bits];omega
 have p0:(n:Int)<(n:Int)+1:=by omega
 go_enter func164,ntmps164
 go_wp2_with fail
 refine wp_region_still_lit (by kernel_rfl) (by kernel_rfl) ?_
 iterate 13 still_step
 refine wpStill_nil ?_;go_wp2;go_ret;exact⟨rfl,dA,rfl⟩
end
def Tryz.infoPStmt:(Tryz.prog.info? 223).map (λi=>(i.zero,i.size,i.bytes))=some (some (.pointer none),1,8):=by kernel_rfl
structure zxv(e:TypeId)(lo base:Nat)(w0 W w':World)(sb si:Nat)(av v':Value)(n:Nat)(xs:Vs)(x:Value):Prop where
 own:w'.ownsRow base e 1 v' (n+1) (xs++[x])
 wh:v'.ownBlock=av.ownBlock\/∃g,v'.ownBlock=some g/\W.heap.size<=g
 hz:W.heap.size<=w'.heap.size
 q:∀b,b<W.heap.size->b≠sb->av.ownBlock≠some b->w'.heap[b]?=W.heap[b]?
 cs:∀nn f,Ze W sb nn f->si<nn->Ze w' sb nn (λi=>if i=si then v' else f i)
 bel:Below lo w0 w'
section
variable{r:RS}{aq:Int}{m:Ya}
def zxv.of{W4:World}{sb si:Nat}{o:Obj}{av:Value}(hb:Below lo w0 W)(d0:lo<=sb)(hlb:lo<=base)(e0:lo<=W.heap.size)(ho:W4.ownsRow base e 1 v' (n+1) (xs++[x]))(hg:(W.alloc o).grownBy W4 av.ownBlock)(hw:v'.ownBlock=av.ownBlock\/v'.ownBlock=some (W.alloc o).heap.size)(b0:∀k,av.ownBlock=some k->base<=k/\k<W.heap.size/\k≠sb)(f0:sb<W.heap.size):
  zxv e lo base w0 W (W4.setCell (O sb si) v') sb si av v' n xs x:=by
 have k0:(W.alloc o).heap.size=W.heap.size+1:=by simp
 have l0:=hg.size;have hq:∀b,b<W.heap.size->av.ownBlock≠some b->W4.heap[b]?=W.heap[b]?:=λb c0 g0=>(hg.block b (by omega) (λhh=>g0 hh.symm)).trans (((Below.refl W.heap.size W).alloc lE o).block b c0);have h0:=hq sb f0 (λhh=>(b0 sb hh).2.2 rfl)
 have i0:∀b,v'.ownBlock=some b->b≠sb:=λb a0 he=>by
  rcases hw with hw|hw
  ·exact(b0 b (hw.symm.trans a0)).2.2 he
  rw[hw]at a0;simp only[Ql]at a0;omega
 refine⟨Yy ho (λb a0=>Zx _ _ _ _ _ (i0 b a0)),?_,by rw[Zy];omega,λb c0 hb2 hb3=>?_,λnn f hc hsi=>(hc.block h0).set hsi v',?_⟩
 ·rcases hw with hw|hw
  ·exact .inl hw
  exact .inr ⟨_,hw,by omega⟩
 ·rw[Zx _ _ _ _ _ hb2];exact hq b c0 hb3
 have j0:=(hb.alloc e0 o).grown hg (by omega) (λk hk=>by have:=(b0 k hk).1;omega);exact j0.setCell d0 _
def Zn.aU(h:Zn lo base R Pb lm vm cm w0 w r aq m)(b j:Nat)(v:Value)(hb:base<=b)(h5:m.aF b=5):Zn lo base R Pb lm vm cm w0 (w.setCell (O b j) v) r aq m:=by
 obtain⟨b1,b2,b3,b4,b5,b6⟩:=h.bU;obtain⟨l1,l2,l3,l4,l5⟩:=h.bB;have hz:(w.setCell (O b j) v).heap.size=w.heap.size:=Zy _ _ _;have q:∀k,k≠b->(w.setCell (O b j) v).heap[k]?=w.heap[k]?:=λk hk=>Zx _ _ _ _ _ hk;exact{ok:=h.ok,bel:=h.bel.setCell (by show lo<=b;omega) _,fx:=λb' f1 f2 f3 f4 f5 f6=>(q b' (by omega)).trans (h.fx b' f1 f2 f3 f4 f5 f6),bB:=h.bB,bU:=⟨b1,b2,b3,b4,b5,by omega⟩,nd:=h.nd,cR:=h.cR.block (q _ (by omega)),cP:=h.cP.block (q _ (by omega)),nl:=h.nl.block (q _ (by omega)),nv:=h.nv.block (q _ (by omega)),nc:=h.nc.block (q _ (by omega)),tab:=h.tab,re:=h.re.kept (by omega) (λk hk=>q k (λhe=>hk (by rw[he];exact h5)))}
def Zn.count(h:Zn lo base R Pb lm vm cm w0 w r aq m)(hb:r.ag=true)(hs:r.am<16):Zn lo base R Pb lm vm cm w0 (w.setCell (O R 44) (I ((r.am:Int)+1))) {r with am:=r.am+1} aq m:=by
 obtain⟨b1,b2,b3,b4,b5,b6⟩:=h.bU;obtain⟨l1,l2,l3,l4,l5⟩:=h.bB;obtain⟨n1,n2,n3,n4,n5,n6,n7,n8,n9,n10⟩:=h.nd;have hz:(w.setCell (O R 44) (I ((r.am:Int)+1))).heap.size=w.heap.size:=Zy _ _ _;have q:∀k,k≠R->(w.setCell (O R 44) (I ((r.am:Int)+1))).heap[k]?=w.heap[k]?:=λk hk=>Zx _ _ _ _ _ hk;have hr:=h.re.kept (by omega) (λk hk=>q k (by have:=h.re.wh k hk;omega))
 exact{
     ok:={cn:=h.ok.cn.mono (by show r.am<=r.am+1;omega),lv:=h.ok.lv,ce:=h.ok.ce,ch:=h.ok.ch,lo:=h.ok.lo,st:=(by show r.am+1<=16;omega),fr:=h.ok.fr,cl:=h.ok.cl,hl:=h.ok.hl,cM:=h.ok.cM,cF:=h.ok.cF,head:=λhh=>(by rw[show ({r with am:=r.am+1}:RS).ag=r.ag from rfl,hb]at hh;cases hh),below:=h.ok.below,aB:=h.ok.aB,cS:=h.ok.cS,fh:=h.ok.fh},bel:=h.bel.setCell (by show lo<=R;omega) _,fx:=λb f1 f2 f3 f4 f5 f6=>(q b f2).trans (h.fx b f1 f2 f3 f4 f5 f6),bB:=h.bB,bU:=⟨b1,b2,b3,b4,b5,by omega⟩,nd:=h.nd,cR:=(h.cR.set (by omega) (I ((r.am:Int)+1))).congr (λj hj=>by
      by_cases h4:j=44
      ·subst h4;rfl
      rw[U h4];unfold Xa
      by_cases hs:j=0\/j=1\/j=2\/j=3\/j=40\/j=41\/j=42\/j=43
      ·rcases hs with rfl|rfl|rfl|rfl|rfl|rfl|rfl|rfl<;>rfl
      rw[U (show ¬j=0 by omega),U (show ¬j=1 by omega),U (show ¬j=2 by omega),U (show ¬j=3 by omega),U (show ¬j=40 by omega),U (show ¬j=41 by omega),U (show ¬j=42 by omega),U (show ¬j=43 by omega),U h4]
      rw[U (show ¬j=0 by omega),U (show ¬j=1 by omega),U (show ¬j=2 by omega),U (show ¬j=3 by omega),U (show ¬j=40 by omega),U (show ¬j=41 by omega),U (show ¬j=42 by omega),U (show ¬j=43 by omega),U h4]),cP:=h.cP.block (q _ (Ne.symm n1)),nl:=h.nl.block (q _ (Ne.symm n2)),nv:=h.nv.block (q _ (Ne.symm n3)),nc:=h.nc.block (q _ (Ne.symm n4)),tab:=h.tab,re:={wh:=hr.wh,oc:=hr.oc,tc:=hr.tc,oh:=hr.oh,th:=hr.th,pb:=hr.pb,tb:=hr.tb,fa:=hr.fa,oo:=hr.oo,to:=hr.to,la:=hr.la}}
def zz5(Pb:Nat):List GF->Nat
 |[]=>Pb
 |g::_=>g.sb
def zn4:List Fl.Frame->Nat
 |[]=>4
 |f::_=>if f.cU then 5 else 4
def zxz(bv:Value):List Fl.Frame->List GF->Value
 |f::_,g::_=>g.act f
 |_,_=>bv
def yu1{ts:List aa}{tl:Vs}(h:Ys d S base W v ts tl):∃xs,W.ownsRow base 223 1 v (ts.length+tl.length) xs:=by
 obtain⟨ps,h1,h2,_⟩:=h;exact⟨_,by rw[<-h2];exact h1⟩
def zv5(h:W.ownsRow base e 1 v n xs):∃ao cap,v=A ao n cap:=by
 rcases h.2 with⟨h1,h2⟩|⟨g,cp,cur,h1,_⟩
 ·exact⟨none,0,by rw[h1,h2]⟩
 exact⟨_,cp,h1⟩
def act_at(h:Zn lo base R Pb lm vm cm w0 w r aq m):∃n xs ao cap,zxz m.bv r.fr m.gs=A ao n cap/\n<=16/\w.ownsRow base 223 1 (zxz m.bv r.fr m.gs) n xs/\w.cell? (O (zz5 Pb m.gs) (zn4 r.fr))=some (zxz m.bv r.fr m.gs)/\(∀j,w.frozen? (O (zz5 Pb m.gs) j)=false)/\zz5 Pb m.gs<w.heap.size/\lo<=zz5 Pb m.gs/\(∀k,(zxz m.bv r.fr m.gs).ownBlock=some k->base<=k/\k<w.heap.size/\k≠zz5 Pb m.gs)/\
  ((m.gs=[]/\r.fr=[])\/∃f fs g gs,r.fr=f::fs/\m.gs=g::gs/\w.cell? (O g.ob 0)=some (F g.sb)/\w.cell? (O g.ob 1)=some (.bool f.cU)):=by
 have hl:=h.re.fa.len;have bU:=h.bU;have bB:=h.bB;have cZ:=h.ok.st;have d0:=h.ok.cn
 cases b0:m.gs with
 |nil=>
  have a0:r.fr=[]:=(by rw[b0]at hl;simp at hl;exact Qi hl.symm);have hp:=h.re.pb;rw[b0]at hp;obtain⟨xs,hx⟩:=yu1 hp;obtain⟨ao,cap,hs⟩:=zv5 hx;rw[a0];simp only[Vh,length_nil,Nat.add_zero]at hx hs;refine⟨_,xs,ao,cap,hs,?_,hx,h.cP.c 4 (by omega),h.cP.z,by show Pb<_;omega,by show lo<=Pb;omega,λk hk=>?_,.inl ⟨rfl,rfl⟩⟩
  ·have:=d0.1;omega
  have:=hx.lt k hk;exact⟨this.1,this.2,by show k≠Pb;omega⟩
 |cons g gs=>
  cases a0:r.fr with
  |nil=>rw[b0,a0]at hl;simp at hl
  |cons f fs=>
   have e0:=h.re.fa;rw[b0,a0]at e0;obtain⟨hf,_⟩:=e0;obtain⟨xs,hx⟩:=yu1 hf.pa;obtain⟨ao,cap,hs⟩:=zv5 hx;simp only[length_nil,Nat.add_zero]at hx hs;have c0:=d0.2;rw[a0]at c0;have f0:=h.re.wh g.sb (by rw[hf.ts];omega);refine⟨_,xs,ao,cap,hs,?_,hx,?_,hf.cs.z,f0.2,by show lo<=g.sb;omega,λk hk=>?_,.inr ⟨f,fs,g,gs,rfl,rfl,hf.co.c 0 (by omega),hf.co.c 1 (by omega)⟩⟩
   ·have h1:=c0.1;have h2:=c0.2.1
    split<;>rename_i hh<;>simp[hh]at h1 h2<;>omega
   ·show w.cell? (O g.sb (if f.cU then 5 else 4))=some (g.act f)
    unfold GF.act
    cases hh:f.cU
    ·exact hf.cs.c 4 (by omega)
    exact hf.cs.c 5 (by omega)
   have:=hx.lt k hk;refine⟨this.1,this.2,λhe=>?_⟩;have h1:=hf.ta k hk;have he':k=g.sb:=he;rw[he',hf.ts]at h1;omega
def zc4(lo base R Pb lm vm cm:Nat)(w0:World)(r:RS)(aq:Int)(m:Ya)(sn:Nat)(kind x:Int)(vp:Value)(w:World)(e:Ending)(w':World):Prop:=
 (16<=r.am/\e=.panicked (Za 5 aq)/\zuz lo base R Pb lm vm cm w0 w')\/(r.am<16/\e=.returned (.tuple #[])/\∃W2,Zn lo base R Pb lm vm cm w0 W2 {r with am:=r.am+1} aq m/\W2.heap.size=w.heap.size/\(∀b,b≠R->b≠sn->W2.heap[b]?=w.heap[b]?)/\
  Ze W2 sn 6 (rw_ [I kind,I aq,I x,vp,K,K])/\∃n xs v',W2.ownsRow base 223 1 (zxz m.bv r.fr m.gs) n xs/\zxv 223 lo base w0 W2 w' (zz5 Pb m.gs) (zn4 r.fr) (zxz m.bv r.fr m.gs) v' n xs (ptr sn))
def yu2(h:Zn lo base R Pb lm vm cm w0 w r aq m)(U0:r.ag=true)(sn:Nat)(kind x:Int)(vp:Value)(V0:base<=sn)(W0:m.aF sn=5)(cD:sn<w.heap.size)(G0:Ze w sn 6 (rw_ [I kind,I 0,I x,vp,K,K])):
  E 161 #[F R,F sn] w (zc4 lo base R Pb lm vm cm w0 r aq m sn kind x vp w):=by
 have cZ:=h.ok.st;have c44:M w R 44 (I r.am):=h.cR.c 44 (by omega);have zR:=h.cR.z;have bU:=h.bU;have bB:=h.bB;have HH:=Z h;have H0:Y (E 94 #[F R,.bool false,I 5] w λe w'=>e=.panicked (Za 5 aq)/\D w w'):=Yf R 5 aq w (h.cR.c 1 (by omega));have I0:Y (E 94 #[F R,.bool true,I 5] w (Rq (.tuple #[]) w)):=Xe R 5 w;have v0:=Z G0;clear h G0
 by_cases X0:16<=r.am
 ·have b16:¬(r.am:Int)<16:=by omega
  go_enter func161,ntmps161
  go_wp2_with fail
  try rw[show decide ((r.am:Int)<16)=false from decide_eq_false (by omega)]
  refine H0.mono ?_;rintro e w1 ⟨rfl,Y0⟩;exact⟨rfl,.inl ⟨X0,rfl,HH.gone Y0⟩⟩
 have b16:(r.am:Int)<16:=by omega
 have Z0:R≠sn:=by omega
 obtain⟨W1,c0⟩:=J (w.setCell (O R 44) (I ((r.am:Int)+1)));obtain⟨W2,k0⟩:=J (W1.setCell (O sn 1) (I aq))
 have H1:Zn lo base R Pb lm vm cm w0 W1 {r with am:=r.am+1} aq m:=by rw[c0];exact HH.count U0 (by omega)
 have H2:Zn lo base R Pb lm vm cm w0 W2 {r with am:=r.am+1} aq m:=by rw[k0];exact H1.aU sn 1 _ V0 W0
 have x0:Ze W1 sn 6 (rw_ [I kind,I 0,I x,vp,K,K]):=by rw[c0];exact v0.block (Zx _ _ _ _ _ (Ne.symm Z0))
 have J0:Y (Ze W2 sn 6 (rw_ [I kind,I aq,I x,vp,K,K])):=by
  rw[k0];refine(x0.set (j:=1) (by omega) (I aq)).congr λk hk=>?_;rcases(show k=0\/k=1\/k=2\/k=3\/k=4\/k=5 by omega) with rfl|rfl|rfl|rfl|rfl|rfl<;>rfl
 have K0:=Z H2
 have L0:Y (W2.heap.size=w.heap.size):=by show _=_;rw[k0,Zy,c0,Zy]
 have M0:Y (∀b,b≠R->b≠sn->W2.heap[b]?=w.heap[b]?):=λb h1 h2=>by rw[k0,Zx _ _ _ _ _ h2,c0,Zx _ _ _ _ _ h1]
 have d1:(w.setCell (O R 44) (I ((r.am:Int)+1))).cell? (O R 1)=some (I aq):=by rw[<-c0];exact H1.cR.c 1 (by omega)
 have s1:(w.setCell (O R 44) (I ((r.am:Int)+1))).cell? (O sn 1)=some (I 0):=by rw[<-c0];exact x0.c 1 (by omega)
 have sz1:∀j,w.frozen? (O sn j)=false:=v0.z
 have e0:((w.setCell (O R 44) (I ((r.am:Int)+1))).setCell (O sn 1) (I aq)).cell? (O R 0)=some (F Pb):=by rw[<-c0,<-k0];exact H2.cR.c 0 (by omega)
 have N0:Y (W2=(w.setCell (O R 44) (I ((r.am:Int)+1))).setCell (O sn 1) (I aq)):=by show _=_;rw[k0,c0]
 have O0:Y (E 164 #[F R] W2 λe w'=>e=.returned (zu1 m.gs)/\D W2 w'/\w'.heap=W2.heap):=zux H2;clear H1 H2 x0 c0 k0
 go_enter func161,ntmps161
 go_wp2_with fail
 refine I0.mono ?_;rintro e w1 ⟨rfl,P0⟩;rw[P0];clear P0 w1 I0 H0
 go_wp2_with fail
 rw[<-N0.out];refine O0.mono ?_;rintro e W3 ⟨rfl,Q0,s0⟩;have u0:=Z (K0.below Q0);have a1:=Z (J0.block (by rw[s0]))
 have b1:Y (W3.heap.size=w.heap.size):=by show _=_;rw[s0];exact L0
 have c1:Y (∀b,b≠R->b≠sn->W3.heap[b]?=w.heap[b]?):=λb h1 h2=>by rw[s0];exact M0 b h1 h2
 clear Q0 s0 K0 J0 L0 M0 O0 N0 d1 s1 sz1 e0 c44 zR v0;obtain⟨n,xs,ao,cap,R0,e1,m0,h0,y0,d0,n0,o0,p0⟩:=act_at u0.out;have q0:=Z R0
 have l0:Y (W3.ownsRow base 223 1 (A ao n cap) n xs):=by show ownsRow _ _ _ _ _ _ _;rw[<-q0.out];exact m0
 have a0:Y (∀k,(A ao n cap).ownBlock=some k->base<=k/\k<W3.heap.size/\k≠zz5 Pb m.gs):=by rw[<-q0.out];exact o0
 have z0:=Z u0.bel
 have hcell':W3.cell? (O (zz5 Pb m.gs) (zn4 r.fr))=some (A ao n cap):=by rw[<-q0.out];exact h0
 have A0:=u0.bU.2.2.2.2.2
 have f0:Y (∀(W4:World) (v':Value) (o:Obj),W4.ownsRow base 223 1 v' (n+1) (xs++[ptr sn])->(W3.alloc o).grownBy W4 (A ao n cap).ownBlock->(v'.ownBlock=(A ao n cap).ownBlock\/v'.ownBlock=some (W3.alloc o).heap.size)->
   zc4 lo base R Pb lm vm cm w0 r aq m sn kind x vp w (.returned (.tuple #[])) (W4.setCell (O (zz5 Pb m.gs) (zn4 r.fr)) v')):=λW4 v' o h1 h2 h3=>
  .inr ⟨by omega,rfl,W3,u0,b1,c1,a1,n,xs,v',by rw[q0.out];exact l0.out,by rw[q0.out];exact zxv.of z0 n0 (by omega) (by omega) h1 h2 h3 a0 d0⟩
 have t0:∀i u,([F sn]:Vs)[i]?=some u->(W3.alloc (.cells #[F sn] 223)).cell? (((O W3.heap.size 0):Addr).add i)=some u:=Xo;obtain⟨i0,f1,g1,i1,j1⟩:=info_parts Tryz.infoPStmt;clear R0 m0 h0 o0 n0;rcases p0 with⟨B0,S0⟩|⟨f,fs,g,gs,T0,C0,co0,co1⟩
 rotate_left
 cases D0:f.cU
 all_goals first
  |have hL:zu1 m.gs=F g.ob:=by rw[C0];rfl
   have g0:zz5 Pb m.gs=g.sb:=(by rw[C0];rfl);have j0:zn4 r.fr=if f.cU then 5 else 4:=(by rw[T0];rfl);simp only[D0,Bool.false_eq_true,if_true,if_false]at j0;rw[D0]at co1;rw[hL];rw[g0,j0]at hcell';rw[g0]at y0 d0 a0;simp only[g0,j0]at f0;clear hL g0 j0 C0 T0 D0;generalize g.sb=gb at*;generalize g.ob=go at*
  |have hL:zu1 m.gs=.pointer none:=by rw[B0];rfl
   have g0:zz5 Pb m.gs=Pb:=(by rw[B0];rfl);have j0:zn4 r.fr=4:=(by rw[S0];rfl);rw[hL];rw[g0,j0]at hcell';rw[g0]at y0 d0 a0;simp only[g0,j0]at f0;clear hL g0 j0 B0 S0
 all_goals
  go_wp2_with (at_builtin;refine Ap underlying153 f1 g1 i1 j1 rfl (l0.alloc _) rfl [F sn] rfl rfl t0 ?c2 ?c3 ?c4 ?c5 ?_)
  case c2=>intro u hu;simp at hu;subst hu;rfl
  case c3=>unfold maxLen;omega
  case c4=>omega
  case c5=>simp;omega
  intro v' W4 b0 E0 r0;obtain⟨va,vcap,rfl⟩:=zv5 b0;have F0:=(E0.block _ (by simp;omega) (λhh=>(a0 _ hh.symm).2.2 rfl)).trans (((Below.refl W3.heap.size W3).alloc lE _).block _ d0);have g4:=cQ F0 hcell';have gz:=λj=>fQ F0 (y0 j);have HE:=Z (f0 W4 _ _ b0 E0 r0);clear b0 E0 r0 F0 f0 l0 a0;go_wp2
  go_end0
  exact HE
end
section
variable{r:RS}{aq:Int}{m:Ya}
structure LowAt(base:Nat)(w':World)(r:RS)(m:Ya)(who':Nat->Nat):Prop where
 oc:w'.ownsRow base 3 1 m.aB r.aW.length (Ym r.aW)/\∀b,m.aB.ownBlock=some b->who' b=3
 oh:w'.ownsRow base 3 1 m.cS r.aV.length (Ym r.aV)/\∀b,m.cS.ownBlock=some b->who' b=4
 pb:Ys 3 (λb=>who' b=0) base w' m.bv r.bK (Vh m.gs)/\∀b,m.bv.ownBlock=some b->who' b=1
 oo:w'.ownsRow base 276 1 m.ov r.fr.length ((m.gs.map λg=>ptr g.ob).reverse)/\∀b,m.ov.ownBlock=some b->who' b=2
 la:r.ag=true->∃Lb,m.pl=ptr Lb/\who' Lb=0/\Jo w' Lb r.au.length r.tab
def ztz.aE(h:ztz base w r m)(who':Nat->Nat)(q:∀b,m.aF b<5->who' b=m.aF b/\w'.heap[b]?=w.heap[b]?):LowAt base w' r m who':=by
 have qq:∀(v:Value) (T:Nat),T<5->(∀b,v.ownBlock=some b->m.aF b=T)->∀b,v.ownBlock=some b->who' b=T/\w'.heap[b]?=w.heap[b]?:=λv T hT hv b hb=>by
  have:=q b (by rw[hv b hb];exact hT);rw[hv b hb]at this;exact this
 have q0:∀b,m.aF b=0->who' b=0/\w'.heap[b]?=w.heap[b]?:=λb hb=>by have:=q b (by rw[hb];decide);rw[hb]at this;exact this
 refine{oc:= ?_,oh:= ?_,pb:= ?_,oo:= ?_,la:=λhg=>?_}
 ·have q3:=qq m.aB 3 (by decide) h.tc;exact⟨Yy h.oc (λb hv=>(q3 b hv).2),λb hb=>(q3 b hb).1⟩
 ·have q3:=qq m.cS 4 (by decide) h.th;exact⟨Yy h.oh (λb hv=>(q3 b hv).2),λb hb=>(q3 b hb).1⟩
 ·have q3:=qq m.bv 1 (by decide) h.tb
  exact⟨h.pb.kept (λb hb=>(q0 b hb).1) (λb hb=>(q0 b hb).2) (λb hv=>(q3 b hv).2),λb hb=>(q3 b hb).1⟩
 ·have q3:=qq m.ov 2 (by decide) h.to;exact⟨Yy h.oo (λb hv=>(q3 b hv).2),λb hb=>(q3 b hb).1⟩
 obtain⟨Lb,l1,l2,l3⟩:=h.la hg;exact⟨Lb,l1,(q0 Lb l2).1,l3.block (q0 Lb l2).2⟩
def zfw{n':Nat}{ys:Vs}(h:W.ownsRow base e 1 v n xs)(k:W.ownsRow base e 1 v n' ys):n=n'/\xs=ys:=by
 have hx:xs.length=n:=by simpa using h.1
 have hy:ys.length=n':=by simpa using k.1
 obtain⟨ao,cap,hs⟩:=zv5 h;obtain⟨ao',cap',hs'⟩:=zv5 k;rw[hs]at hs';simp only[slice.injEq]at hs';obtain⟨_,rfl,_⟩:=hs';refine⟨rfl,?_⟩;rcases h.2 with⟨h1,h2⟩|⟨g,cp,cur,h1,_⟩
 ·rw[Qi (by omega:xs.length=0),Qi (by omega:ys.length=0)]
 apply ext_getElem? 
 intro i
 by_cases hi:i<n
 ·have a1:=h.cells (g:=g) (by rw[h1];rfl) i (xs[i]'(by omega)) (Qb _)
  have a2:=k.cells (g:=g) (by rw[h1];rfl) i (ys[i]'(by omega)) (Qb _);rw[a1]at a2;rw[Qb (by omega),Qb (by omega)];exact a2
 rw[getElem?_eq_none (by omega),getElem?_eq_none (by omega)]
def Ys.snoc{ts:List aa}{s:aa}(h:Ys d S base W v ts [])(ho:W.ownsRow base 223 1 v n xs)(ho':w'.ownsRow base 223 1 v' (n+1) (xs++[p]))(hS:∀b,S b->S' b)(hw:∀b,S b->w'.heap[b]?=W.heap[b]?)(hp:zxw (Yz d) S' w' p s):Ys d S' base w' v' (ts++[s]) []:=by
 obtain⟨ps,h1,h2,h3⟩:=h;simp only[append_nil,length_nil,Nat.add_zero]at h1;obtain⟨rfl,rfl⟩:=zfw h1 ho;refine⟨ps++[p],by simpa using ho',by simp[h2],λi hi=>?_⟩
 by_cases a0:i<ts.length
 ·have:=(h3 i a0).kept (λv l h=>Yz.kept hS hw d v l h) hS hw
  rw[Qa,getElem?_append_left (by omega),Qa,getElem?_append_left a0];rw[Qa,Qa]at this;exact this
 have b0:i=ts.length:=by simp at hi;omega
 subst b0;rw[Qa,getElem?_append_right (by omega),Qa,getElem?_append_right (by omega)];rw[h2];simpa using hp
def Uq(aF:Nat->Nat)(z1 z2 T:Nat)(v':Value):Nat->Nat:=λb=>if z1<=b/\b<z2 then 0 else if v'.ownBlock=some b then T else aF b
def zfv(hI:∀b,aF b≠5->b<z1)(hT:T≠5)(hv:∀b,v.ownBlock=some b->aF b=T)(hz:z1<=z2)(hw:v'.ownBlock=v.ownBlock\/∃g,v'.ownBlock=some g/\z2<=g)(b:Nat)(h5:aF b≠5):Uq aF z1 z2 T v' b=aF b:=by
 have h1:=hI b h5;unfold Uq;rw[U (by omega)]
 by_cases hb:v'.ownBlock=some b
 ·rw[G hb]
  rcases hw with hw|⟨g,hg,a0⟩
  ·exact(hv b (hw.symm.trans hb)).symm
  rw[hg]at hb;simp only[Ql]at hb;omega
 rw[U hb]
def ze0(hI:∀b,aF b≠5->b<z1)(hT:T≠5)(hv:∀b,v.ownBlock=some b->aF b=T)(hw:v'.ownBlock=v.ownBlock\/∃g,v'.ownBlock=some g/\z2<=g)(b:Nat)(hb:v'.ownBlock=some b):Uq aF z1 z2 T v' b=T:=by
 unfold Uq;rw[U,G hb];rintro⟨h1,h2⟩;rcases hw with hw|⟨g,hg,a0⟩
 ·have:=hI b (by rw[hv b (hw.symm.trans hb)];exact hT);omega
 rw[hg]at hb;simp only[Ql]at hb;omega
def ze1(aF:Nat->Nat)(z1 z2 T:Nat)(v':Value)(b:Nat)(h1:z1<=b)(h2:b<z2):Uq aF z1 z2 T v' b=0:=G ⟨h1,h2⟩
def za5{z3:Nat}(hI:∀b,aF b≠5->base<=b/\b<z2)(b0:base<=z1)(hz:z2<=z3)(a0:∀b,v'.ownBlock=some b->base<=b/\b<z3)(b:Nat)(h:Uq aF z1 z2 T v' b≠5):base<=b/\b<z3:=by
 unfold Uq at h
 by_cases h1:z1<=b/\b<z2
 ·omega
 rw[U h1]at h
 by_cases h2:v'.ownBlock=some b
 ·exact a0 b h2
 rw[U h2]at h;have:=hI b h;omega
end
section
variable{r:RS}{aq:Int}{m:Ya}
def zn5(h:Zn lo base R Pb lm vm cm w0 W r aq m)(Wq:zxv 223 lo base w0 W w' (zz5 Pb m.gs) (zn4 r.fr) (zxz m.bv r.fr m.gs) v' n xs x)(ho:W.ownsRow base 223 1 (zxz m.bv r.fr m.gs) n xs):∀b,b<base->b≠zz5 Pb m.gs->w'.heap[b]?=W.heap[b]?:=λb hb a0=>
 Wq.q b (by have:=h.bU;omega) a0 (λhv=>by have:=(ho.lt b hv).1;omega)
def Zn.nL(h:Zn lo base R Pb lm vm cm w0 W {r with am:=r.am+1} aq m)(hb:r.ag=true){sn kind x ln:Nat}{vp:Value}{e:dZ}(hI:∀b,m.aF b≠5->b<z1)(y0:base<=z1)(p0:z1<=sn/\sn<W.heap.size)(E0:aq=(ln:Int))(cZ:zj0 r.am r.fr r.bK.length)
  (hc:Ze W sn 6 (rw_ [I kind,I aq,I x,vp,K,K])) (hv:zs3 (λb=>z1<=b/\b<W.heap.size) W vp e) (ho:W.ownsRow base 223 1 (zxz m.bv r.fr m.gs) n xs) (Wq:zxv 223 lo base w0 W w' (zz5 Pb m.gs) (zn4 r.fr) (zxz m.bv r.fr m.gs) v' n xs (ptr sn)):
  ∃m',Zn lo base R Pb lm vm cm w0 w' (r.put ⟨kind,x,ln,e,[],[]⟩) aq m':=by
 obtain⟨b1,b2,b3,b4,b5,b6⟩:=h.bU;obtain⟨n1,n2,n3,n4,n5,n6,n7,n8,n9,n10⟩:=h.nd;have hl:=h.re.fa.len;have hz:=Wq.hz;have a0:=zn5 h Wq ho
 have z0:∀b,z1<=b->m.aF b=5:=λb hb'=>Classical.byContradiction λhne=>by have:=hI b hne;omega
 have F0:=h.ok.st
 -- the new statement's own blocks stand
 have f0:∀b,z1<=b->b<W.heap.size->b≠zz5 Pb m.gs->(∀k,(zxz m.bv r.fr m.gs).ownBlock=some k->m.aF k≠5)->w'.heap[b]?=W.heap[b]?:=λb h1 h2 h3 h4=>Wq.q b h2 h3 (λhk=>h4 b hk (z0 b h1))
 have A0:∀(S':Nat->Prop) (d:Nat),(∀b,z1<=b->b<W.heap.size->S' b/\w'.heap[b]?=W.heap[b]?)->zxw (Yz d) S' w' (ptr sn) ⟨kind,x,ln,e,[],[]⟩:=λS' d hS=>by
  refine⟨sn,vp,K,K,rfl,(hS sn p0.1 p0.2).1,?_,hv.kept (λb hb'=>(hS b hb'.1 hb'.2).1) (λb hb'=>(hS b hb'.1 hb'.2).2),Yz.nil _ _ _,Yz.nil _ _ _⟩;have:=hc.block (hS sn p0.1 p0.2).2;rw[E0]at this;exact this
 cases d0:r.fr with
 |nil=>
  have e0:m.gs=[]:=by
   rw[show ({r with am:=r.am+1}:RS).fr=r.fr from rfl,d0]at hl;exact Qi (by simpa using hl)
  rw[d0,e0]at Wq ho f0;rw[e0]at a0;have i0:r.put ⟨kind,x,ln,e,[],[]⟩={r with bK:=r.bK++[⟨kind,x,ln,e,[],[]⟩],am:=r.am+1}:=(by unfold RS.put;rw[d0]);rw[i0];have q0:=h.re.tb;have b0:=λb=>zfv hI (by decide) q0 (by omega) Wq.wh b;have hq:∀b,m.aF b≠5->m.aF b≠1->w'.heap[b]?=W.heap[b]?:=λb h5 h1=>Wq.q b (h.re.wh b h5).2 (by have:=h.re.wh b h5;show b≠Pb;omega) (λhk=>h1 (q0 b hk));have t0:∀b,z1<=b->b<W.heap.size->Uq m.aF z1 W.heap.size 1 v' b=0/\w'.heap[b]?=W.heap[b]?:=λb h1 h2=>⟨ze1 _ _ _ _ _ _ h1 h2,f0 b h1 h2 (by show b≠Pb;omega) (λk hk=>by rw[q0 k hk];decide)⟩;have c0:=h.re.nS 1 (by decide) (Uq m.aF z1 W.heap.size 1 v') (λb h5 h1=>⟨b0 b h5,hq b h5 h1⟩);refine⟨{m with bv:=v',aF:=Uq m.aF z1 W.heap.size 1 v'},?_⟩;refine{ok:= ?ok,bel:=Wq.bel,fx:=λb f1 f2 f3 f4 f5 f6=>(a0 b f1 f3).trans (h.fx b f1 f2 f3 f4 f5 f6),bB:=h.bB,bU:=⟨b1,b2,b3,b4,b5,by omega⟩,nd:=h.nd,cR:= ?cR,cP:= ?cP,nl:=h.nl.block (a0 _ b3 (Ne.symm n5)),nv:=h.nv.block (a0 _ b4 (Ne.symm n6)),nc:=h.nc.block (a0 _ b5 (Ne.symm n7)),tab:=h.tab,re:= ?re}
  case ok=>
   exact{cn:=⟨by have:=cZ.1;simp[d0]at this⊢;omega,by rw[show ({r with bK:=r.bK++[⟨kind,x,ln,e,[],[]⟩],am:=r.am+1}:RS).fr=r.fr from rfl,d0];trivial⟩,lv:=h.ok.lv,ce:=h.ok.ce,ch:=h.ok.ch,lo:=h.ok.lo,st:=h.ok.st,fr:=h.ok.fr,cl:=h.ok.cl,hl:=h.ok.hl,cM:=h.ok.cM,cF:=h.ok.cF,head:=λhh=>(by rw[show ({r with bK:=r.bK++[⟨kind,x,ln,e,[],[]⟩],am:=r.am+1}:RS).ag=r.ag from rfl,hb]at hh;cases hh),below:=h.ok.below,aB:=h.ok.aB,cS:=h.ok.cS,fh:=h.ok.fh}
  case cR=>
   refine(h.cR.block (a0 R b1 n1)).congr λj hj=>?_;exact(zuy Pb lm vm cm aq {r with am:=r.am+1} {r with bK:=r.bK++[⟨kind,x,ln,e,[],[]⟩],am:=r.am+1} m {m with bv:=v',aF:=Uq m.aF z1 W.heap.size 1 v'} j rfl rfl rfl rfl hj (λ_ _ _ _ _=>rfl)).symm
  case cP=>
   refine(Wq.cs 5 _ h.cP (by decide)).congr λk hk=>?_;rcases(show k=0\/k=1\/k=2\/k=3\/k=4 by omega) with rfl|rfl|rfl|rfl|rfl<;>rfl
  case re=>
   have B0:=h.re.pb;rw[e0]at B0
   exact{
       wh:=λb hb'=>za5 (λb hb=>h.re.wh b hb) y0 hz (λb hv=>⟨(Wq.own.lt b hv).1,(Wq.own.lt b hv).2⟩) b hb',oc:=(c0.oc (by decide)).1,tc:=(c0.oc (by decide)).2,oh:=(c0.oh (by decide)).1,th:=(c0.oh (by decide)).2,pb:=(by
        show Ys 3 _ base w' v' (r.bK++[_]) (Vh m.gs);rw[e0]
        exact Ys.snoc B0 ho Wq.own (λb hb'=>(b0 b (by rw[hb'];decide)).trans hb') (λb hb'=>hq b (by rw[hb'];decide) (by rw[hb'];decide)) (A0 _ 3 t0)),tb:=λb hb'=>ze0 hI (by decide) q0 Wq.wh b hb',fa:=c0.fa (.inl (by decide)),oo:=(c0.oo (by decide)).1,to:=(c0.oo (by decide)).2,la:=c0.la}
 |cons f fs=>
  cases e0:m.gs with
  |nil=>rw[show ({r with am:=r.am+1}:RS).fr=r.fr from rfl,d0,e0]at hl;simp at hl
  |cons g gs=>
   rw[d0,e0]at Wq ho f0;rw[e0]at a0;have C0:=h.re.fa;rw[show ({r with am:=r.am+1}:RS).fr=r.fr from rfl,d0,e0]at C0;obtain⟨hf,G0⟩:=C0;obtain⟨f',hf'⟩:∃f':Fl.Frame,f'=if f.cU then{f with fu:=f.fu++[⟨kind,x,ln,e,[],[]⟩]} else{f with first:=f.first++[⟨kind,x,ln,e,[],[]⟩]}:=⟨_,rfl⟩;obtain⟨g',hg'⟩:∃g':GF,g'=if f.cU then{g with ev:=v'} else{g with fv:=v'}:=⟨_,rfl⟩;have i0:r.put ⟨kind,x,ln,e,[],[]⟩={r with fr:=f'::fs,am:=r.am+1}:=(by unfold RS.put;rw[d0,hf']);rw[i0]
   have m0:g'.sb=g.sb:=by rw[hg'];split<;>rfl
   have u0:g'.ob=g.ob:=by rw[hg'];split<;>rfl
   have D0:g'.vp=g.vp:=by rw[hg'];split<;>rfl
   have g0:f'.kind=f.kind/\f'.aq=f.aq/\f'.e=f.e/\f'.cU=f.cU:=by rw[hf'];split<;>exact⟨rfl,rfl,rfl,rfl⟩
   have n0:g'.act f'=v':=by
    unfold GF.act;rw[g0.2.2.2,hg']
    cases f.cU<;>rfl
   have r0:=hf.ta;have b0:=λb=>zfv hI (by omega) r0 (by omega) Wq.wh b;have hq:∀b,m.aF b≠5->m.aF b≠12+3*fs.length->m.aF b≠10+3*fs.length->w'.heap[b]?=W.heap[b]?:=λb h5 h1 H0=>Wq.q b (h.re.wh b h5).2 (λhe=>H0 (by rw[show b=g.sb from he];exact hf.ts)) (λhk=>h1 (r0 b hk));have t0:∀b,z1<=b->b<W.heap.size->Uq m.aF z1 W.heap.size (12+3*fs.length) v' b=0/\w'.heap[b]?=W.heap[b]?:=λb h1 h2=>⟨ze1 _ _ _ _ _ _ h1 h2,f0 b h1 h2 (λhe=>by have:=z0 b h1;rw[show b=g.sb from he,hf.ts]at this;omega) (λk hk=>by rw[r0 k hk];omega)⟩;have j0:=h.re.aE (Uq m.aF z1 W.heap.size (12+3*fs.length) v') (λb hb'=>⟨b0 b (by omega),hq b (by omega) (by omega) (by omega)⟩)
   have h0:∀b,m.aF b=0->Uq m.aF z1 W.heap.size (12+3*fs.length) v' b=0:=λb hb'=>by rw[b0 b (by rw[hb'];decide)];exact hb'
   have s0:∀b,m.aF b=0->w'.heap[b]?=W.heap[b]?:=λb hb'=>hq b (by omega) (by omega) (by omega);have I0:Vh (g'::gs)=Vh (g::gs):=(by simp only[Vh,m0]);have v0:((g'::gs).map λg=>ptr g.ob)=((g::gs).map λg=>ptr g.ob):=(by simp only[map_cons,u0]);refine⟨{m with gs:=g'::gs,aF:=Uq m.aF z1 W.heap.size (12+3*fs.length) v'},?_⟩;have J0:=h.re.wh g.sb (by rw[hf.ts];omega);refine{ok:= ?ok,bel:=Wq.bel,fx:=λb f1 f2 f3 f4 f5 f6=>(a0 b f1 (by show b≠g.sb;omega)).trans (h.fx b f1 f2 f3 f4 f5 f6),bB:=h.bB,bU:=⟨b1,b2,b3,b4,b5,by omega⟩,nd:=h.nd,cR:= ?cR,cP:=h.cP.block (a0 _ b2 (by show Pb≠g.sb;omega)),nl:=h.nl.block (a0 _ b3 (by show lm≠g.sb;omega)),nv:=h.nv.block (a0 _ b4 (by show vm≠g.sb;omega)),nc:=h.nc.block (a0 _ b5 (by show cm≠g.sb;omega)),tab:=h.tab,re:= ?re}
   case ok=>
    have o0:=cZ.2;rw[d0]at o0
    exact{
        cn:=⟨by have:=cZ.1;simp[d0]at this⊢;omega,(by
         show zz1 (r.am+1) 0 (f'::fs);obtain⟨c1,c2,c3⟩:=o0;rw[hf']
         cases hh:f.cU with
         |true=>rw[hh]at c1 c2;simp at c1 c2;refine⟨?_,?_,zz1.mono (by omega) lE c3⟩<;>simp[hh]<;>omega
         |false=>rw[hh]at c1 c2;simp at c1 c2;refine⟨?_,?_,zz1.mono (by omega) lE c3⟩<;>simp[hh]<;>omega)⟩,lv:=h.ok.lv,ce:=h.ok.ce,ch:=h.ok.ch,lo:=h.ok.lo,st:=h.ok.st,fr:=(by have:=h.ok.fr;rw[show ({r with am:=r.am+1}:RS).fr=r.fr from rfl,d0]at this;simpa using this),cl:=h.ok.cl,hl:=h.ok.hl,cM:=h.ok.cM,cF:=(by
         intro k hk;have x0:=h.ok.cF;rw[show ({r with am:=r.am+1}:RS).fr=r.fr from rfl,d0]at x0;rcases mem_cons.1 hk with rfl|hk
         ·rw[g0.1];exact x0 f (by simp)
         exact x0 k (by simp[hk])),head:=λhh=>(by rw[show ({r with fr:=f'::fs,am:=r.am+1}:RS).ag=r.ag from rfl,hb]at hh;cases hh),below:=h.ok.below,aB:=h.ok.aB,cS:=h.ok.cS,fh:=h.ok.fh}
   case cR=>
    refine(h.cR.block (a0 R b1 (by show R≠g.sb;omega))).congr λj hj=>?_;exact(zuy Pb lm vm cm aq {r with am:=r.am+1} {r with fr:=f'::fs,am:=r.am+1} m {m with gs:=g'::gs,aF:=Uq m.aF z1 W.heap.size (12+3*fs.length) v'} j rfl rfl rfl rfl hj (λ_ _ _ _ _=>rfl)).symm
   case re=>
    have k0:=j0.pb;have l0:=j0.oo;rw[e0]at k0 l0;refine{wh:=λb hb'=>za5 (λb hb=>h.re.wh b hb) y0 hz (λb hv=>⟨(Wq.own.lt b hv).1,(Wq.own.lt b hv).2⟩) b hb',oc:=j0.oc.1,tc:=j0.oc.2,oh:=j0.oh.1,th:=j0.oh.2,pb:= ?pb,tb:=k0.2,fa:= ?fa,oo:= ?oo,to:=l0.2,la:=j0.la}
    case pb=>show Ys 3 _ base w' m.bv r.bK (Vh (g'::gs));rw[I0];exact k0.1
    case oo=>
     show w'.ownsRow base _ 1 m.ov (f'::fs).length (((g'::gs).map λg=>ptr g.ob).reverse);rw[v0];have:=l0.1;rw[show ({r with am:=r.am+1}:RS).fr=r.fr from rfl,d0]at this;exact this
    case fa=>
     show Vo _ base w' (3 - (f'::fs).length) [] (f'::fs) (g'::gs);refine⟨?_,?_⟩
     ·refine{ts:=by rw[m0];exact(b0 g.sb (by rw[hf.ts];omega)).trans hf.ts,to:=by rw[u0];exact(b0 g.ob (by rw[hf.to];omega)).trans hf.to,ta:=λb hb'=>ze0 hI (by omega) r0 Wq.wh b (by rw[<-n0];exact hb'),co:= ?co,cs:= ?cs,hv:=by rw[D0,g0.2.2.1];exact hf.hv.kept h0 s0,pa:= ?pa,pf:= ?pf,pe:= ?pe}
      case co=>rw[u0,m0,g0.2.2.2];exact hf.co.block (hq g.ob (by rw[hf.to];omega) (by rw[hf.to];omega) (by rw[hf.to];omega))
      case cs=>
       rw[m0,g0.1,g0.2.1,D0];refine(Wq.cs 6 _ hf.cs (by show (if f.cU then 5 else 4)<6;split<;>omega)).congr λk hk=>?_;rw[hg'];show (if k=(if f.cU then 5 else 4) then v' else _)=_
       cases f.cU<;>rcases(show k=0\/k=1\/k=2\/k=3\/k=4\/k=5 by omega) with rfl|rfl|rfl|rfl|rfl|rfl<;>rfl
      case pa=>
       rw[n0,g0.2.2.2];have:=Ys.snoc hf.pa ho Wq.own h0 s0 (A0 _ _ t0);rw[hf']
       cases hh:f.cU<;>rw[hh]at this<;>exact this
      case pf=>
       intro hh;rw[g0.2.2.2]at hh;have:=Yz.kept h0 s0 _ _ _ (hf.pf hh);rw[hg',hf',hh];exact this
      case pe=>
       intro hh;rw[g0.2.2.2]at hh;rw[hg',hf',hh];exact hf.pe hh
     rw[m0]
     exact G0.kept (λb hb'=>by
      rcases hb' with hb'|hb'
      ·exact⟨b0 b (by omega),s0 b hb'⟩
      exact⟨b0 b (by omega),hq b (by omega) (by omega) (by omega)⟩)
end
section
variable{r:RS}{aq:Int}{m:Ya}
def za6(h:Zn lo base R Pb lm vm cm w0 w r aq m)(b off n cap:Nat)(vs:List L)(hn:n=vs.length)(a0:n<=cap)(hl:∀x∈vs,x.length<=100000)(b0:bf [97] vs=true\/bf [97,111,97] vs=true)(hc:∀i,i<vs.length->w.cell? (O b (off+i))=some (.string ⟨(vs.getD i []).toArray⟩)):
  E 160 #[F R,Sq b off n cap] w (zlx (r.value vs) aq w):=by
 rcases b0 with hs|hs
 ·have aL:=br _ _ hs
  match vs,aL with
  |[x],_=>
   subst hn;exact zfx h b off cap x (hl x (by simp)) (by simpa using a0) (hc 0 (by simp))
 have aL:=br _ _ hs
 match vs,aL with
 |[x,o,y],_=>
  subst hn;refine ymv h b off cap x o y (hl x (by simp)) (hl o (by simp)) (hl y (by simp)) ?_ (by simpa using a0) (hc 0 (by simp)) (hc 1 (by simp)) (hc 2 (by simp));simp[bf,gh]at hs;exact hs.2.1
def yu3(h:Zn lo base R Pb lm vm cm w0 W r aq m)(b0:r.ag=true)(z1 kind x ln pb:Nat)(e:dZ)(hI:∀b,m.aF b≠5->b<z1)(c0:base<=z1/\z1<=W.heap.size)(d0:aq=(ln:Int))(hv:zs3 (λb=>z1<=b/\b<W.heap.size) W (ptr pb) e):
  E 161 #[F R,F W.heap.size] (W.alloc (.cells #[I kind,I 0,I x,F pb,K,K] 262)) λe' w'=>
   (16<=r.am/\e'=.panicked (Za 5 aq)/\zuz lo base R Pb lm vm cm w0 w')\/(r.am<16/\e'=.returned (.tuple #[])/\∃m',Zn lo base R Pb lm vm cm w0 w' (r.put ⟨kind,x,ln,e,[],[]⟩) aq m'):=by
 have bU:=h.bU;have hA:Zn lo base R Pb lm vm cm w0 (W.alloc (.cells #[I kind,I 0,I x,F pb,K,K] 262)) r aq m:=h.below (bA)
 have cD:(W.alloc (.cells #[I kind,I 0,I x,F pb,K,K] 262)).heap.size=W.heap.size+1:=by simp
 refine(yu2 hA b0 W.heap.size kind x (ptr pb) (by omega) (Classical.byContradiction λe0=>by have:=hI _ e0;omega) (by omega) (Ze.new W [I kind,I 0,I x,F pb,K,K] _)).mono ?_;rintro e' w' (⟨a0,rfl,hb⟩|⟨a0,rfl,W2,hP,f0,hq,hc,n,xs,v',ho,Wq⟩)
 ·exact .inl ⟨a0,rfl,hb⟩
 refine .inr ⟨a0,rfl,?_⟩;exact hP.nL b0 hI c0.1 ⟨c0.2,by omega⟩ d0 h.ok.cn hc
  (hv.kept (λb hb=>⟨hb.1,by have:=hb.2;omega⟩) (λb hb=>by
   have h1:=hb.1;have h2:=hb.2;rw[hq b (by omega) (by omega)]
   exact((Below.refl W.heap.size W).alloc lE _).block b h2)) ho Wq
def Fl.RS.fS{r r':RS}{n:L}{x:Nat}(h:r.bu n=some (x,r')):r'.am=r.am/\r'.ag=r.ag:=by
 rw[RS.io]at h
 split at h
 ·simp only[Ql,Prod.mk.injEq]at h;rw[<-h.2];exact⟨rfl,rfl⟩
 split at h
 ·cases h
 simp only[Ql,Prod.mk.injEq]at h;rw[<-h.2];exact⟨rfl,rfl⟩
def yo1(h:Zn lo base R Pb lm vm cm w0 w r aq m)(p0:r.ag=true)(B:Nat)(v:Value)(k n:L)(vs:List L)(ln:Nat)(q0:aq=(ln:Int))(hB:B<=w.heap.size)(hw:Zi B w v (n::vs))(r0:∀b,v.ownBlock=some b->base<=b/\m.aF b=5)(s0:(k==eH)=false)(m0:bf [97] vs=true\/bf [97,111,97] vs=true):
  E 133 #[F R,v] w (Zb lo base R Pb lm vm cm w0 aq (r.bh ln (k::n::vs))):=by
 obtain⟨b,off,cap,rfl,g0,S0,c1,n0,a0⟩:=hw.one (by simp);have hn:=n0 n (by simp)
 have T0:1<=vs.length:=by rcases m0 with hs|hs<;>have:=br _ _ hs<;>simp at this<;>omega
 have t0:M w b off (Tq n):=a0 0 (by simp);obtain⟨d1,e1⟩:=r0 b rfl;obtain⟨aX,f0⟩:=J (r.bh ln (k::n::vs));rw[<-f0]
 have c0:Y (aX=match r.value vs with
  |none=>(4,r)
  |some e=>if 0<=aj r.ai n then(4,r) else match r.bu n with
    |none=>(5,r)
    |some (x,r')=>if 16<=r.am then(5,r) else(0,r'.put ⟨3,x,ln,e,[],[]⟩)):=by
  show _=_;rw[f0];have hko':¬(k==eH)=true:=(by rw[s0];decide)
  match vs,T0 with
  |a::vs',_=>
   simp only[RS.bh]
   cases r.value (a::vs') with
   |none=>rfl
   |some e=>
    simp only[hko',if_false]
    first|done|rfl|(split<;>first|rfl|(cases r.bu n<;>rfl))
 have c42:M w R 42 (.map (some cm)):=h.cR.c 42 (by omega);obtain⟨mx,tb,u0,v0,-⟩:=h.drew.nc.iw n hn;have x0:=Z v0;have HH:=Z h
 have y0:Y (∀W,Zn lo base R Pb lm vm cm w0 W r aq m->D w W->E 160 #[F R,Sq b (off+1) vs.length (cap - 1)] W (zlx (r.value vs) aq W)):=λW hW U0=>
  za6 hW b (off+1) vs.length (cap - 1) vs rfl (by simp at g0;omega) (λx hx=>n0 x (by simp[hx])) m0 (λi hi=>by
   rw[U0.cell (p:=(O b (off+1+i))) (by show b<_;omega)];have:=a0 (i+1) (by simp;omega)
   rw[show off+1+i=off+(i+1) by omega,this];rfl)
 have hbz:b<w.heap.size:=by omega
 simp only[length_cons]at g0⊢
 have f1:(2:Int)<=(cap:Int):=by omega
 have g1:(1:Int)<=(vs.length:Int):=by omega
 have h1:(vs.length:Int)+1<=(cap:Int):=by omega
 have V0:cap≠1:=by omega
 unfold maxLen at S0;have W0:=Z q0;clear h hw n0 a0 f0 v0 r0 m0 s0 q0
 go_enter func133,ntmps133
 go_wp2_with fail
 refine wp_region_still_lit (by kernel_rfl) (by kernel_rfl) ?_
 iterate 7 still_step
 refine Vr rfl (.tuple #[I mx,.bool tb]) (zzw _ _ 156 rfl (.map (some cm)) (Tq n) _ rfl rfl u0) ?_
 iterate 5 still_step
 refine wpStill_nil ?_
 change Exit.then _ _ _ _ w.drew
 have HW:=Z HH.drew;have z0:Y (D w w.drew):=dA;have d0:M w.drew b off (Tq n):=t0;have A0:w.drew.heap.size=w.heap.size:=rfl;have i1:=Z A0;clear u0 t0 c42 A0;generalize w.drew=W at*;have bU:=HW.bU;have bB:=HW.bB;have j1:=z0.size;have B0:Y (E 94 #[F R,.bool false,I 4] W λe w'=>e=.panicked (Za 4 aq)/\D W w'):=Yf R 4 aq W (HW.cR.c 1 (by omega));have C0:Y (E 94 #[F R,.bool true,I 4] W (Rq (.tuple #[]) W)):=Xe R 4 W
 cases tb with
 |true=>
  have h0:0<=aj r.ai n:=(by have:=x0.out;simpa using this);have HR:Y (aX=(4,r)):=by
   show _=_;rw[c0.out]
   cases r.value vs with
   |none=>rfl
   |some e=>simp only[h0,if_true]
  go_wp2_with fail
  refine B0.mono ?_;rintro e w1 ⟨rfl,X0⟩;exact⟨rfl,Zb.dP HR (by decide) rfl (HW.gone X0)⟩
 |false=>
  have h0:¬0<=aj r.ai n:=(by have:=x0.out;simpa using this)
  go_wp2_with fail
  refine C0.mono ?_;rintro e w1 ⟨rfl,D0⟩;rw[D0];clear D0 w1 C0 B0;have E0:=y0 W HW z0.out;have F0:=Z E0;clear E0 y0
  go_wp2_with fail
  refine F0.mono ?_;rintro e W2 ⟨i0,G0,j0⟩;have Y0:Y (Zn lo base R Pb lm vm cm w0 W2 r aq m):=HW.below i0;have Z0:=Z i0;have k1:=i0.size;have e0:M W2 b off (Tq n):=cT i0 (by show b<_;omega) d0;clear F0 i0 d0
  cases b0:r.value vs with
  |none=>
   obtain rfl:=j0 b0;have HR:aX=(4,r):=(by rw[c0.out,b0]);exact⟨rfl,Zb.dP HR (by decide) rfl (HW.gone Z0)⟩
  |some ex=>
   obtain⟨pb,rfl,H0⟩:=G0 ex b0;have I0:=Z H0
   have o0:Y (aX=match r.bu n with
    |none=>(5,r)
    |some (x,r')=>if 16<=r.am then(5,r) else(0,r'.put ⟨3,x,ln,ex,[],[]⟩)):=by show _=_;rw[c0.out,b0];exact U (by have:=h0;omega)
   have J0:=Z (yu0 Y0 p0 n hn);clear H0 G0 j0 c0 b0
   go_wp2_with fail
   refine J0.mono ?_;clear J0 e0;rintro e W3 (⟨x,r',k0,rfl,K0,l1,L0⟩|⟨k0,rfl,a1⟩)
   ·have M0:Y (aX=if 16<=r.am then(5,r) else(0,r'.put ⟨3,x,ln,ex,[],[]⟩)):=by show _=_;rw[o0.out,k0]
    obtain⟨N0,O0⟩:=RS.fS k0
    have P0:Y (E 161 #[F R,F W3.heap.size] (W3.alloc (.cells #[I 3,I 0,I x,F pb,K,K] 262)) λe' w'=>
      (16<=r'.am/\e'=.panicked (Za 5 aq)/\zuz lo base R Pb lm vm cm w0 w')\/(r'.am<16/\e'=.returned (.tuple #[])/\∃m',Zn lo base R Pb lm vm cm w0 w' (r'.put ⟨3,x,ln,ex,[],[]⟩) aq m')):=
     yu3 K0 (O0.trans p0) W.heap.size 3 x ln pb ex (λb hb=>(HW.re.wh b hb).2) ⟨by omega,by omega⟩ W0.out
      (I0.kept (λb hb=>⟨hb.1,by have:=hb.2;omega⟩) (λb hb=>L0 b hb.2 (by have:=hb.1;omega) (by have:=hb.1;omega)))
    have Q0:=Z N0;clear K0 L0 k0 N0 O0 o0 I0
    go_wp2_with fail
    refine P0.mono ?_;rintro e W4 (⟨l0,rfl,b1⟩|⟨l0,rfl,m',R0⟩)
    ·rw[Q0.out]at l0
     have HR:aX=(5,r):=(by rw[M0.out,G l0]);exact⟨rfl,Zb.dP HR (by decide) rfl b1⟩
    rw[Q0.out]at l0;have HR:aX=(0,r'.put ⟨3,x,ln,ex,[],[]⟩):=(by rw[M0.out,U (by omega)]);have HF:=Z (Zb.fd HR rfl R0);clear HR R0 P0;go_wp2
    go_end0
    exact HF
   have HR:aX=(5,r):=(by rw[o0.out,k0]);exact⟨rfl,Zb.dP HR (by decide) rfl a1⟩
end
section
variable{r:RS}{aq:Int}{m:Ya}
def out_any(h:Zn lo base R Pb lm vm cm w0 w r aq m)(G0:r.ag=true)(B:Nat)(v:Value)(k n:L)(vs:List L)(ln:Nat)(n0:aq=(ln:Int))(hB:B<=w.heap.size)(hw:Zi B w v (n::vs))(o0:(k==eH)=true)(i0:bf [97] vs=true\/bf [97,111,97] vs=true):
  E 134 #[F R,v] w (Zb lo base R Pb lm vm cm w0 aq (r.bh ln (k::n::vs))):=by
 obtain⟨b,off,cap,rfl,e0,H0,T0,j0,a0⟩:=hw.one (by simp);have hn:=j0 n (by simp)
 have I0:1<=vs.length:=by rcases i0 with hs|hs<;>have:=br _ _ hs<;>simp at this<;>omega
 have J0:M w b off (Tq n):=a0 0 (by simp);obtain⟨aX,d0⟩:=J (r.bh ln (k::n::vs));rw[<-d0];obtain⟨pl,k0⟩:=J (aj r.ai n)
 have c0:Y (aX=match r.value vs with
  |none=>(4,r)
  |some e=>if pl<0 then(4,r) else if 16<=r.am then(5,r) else(0,r.put ⟨4,pl.toNat,ln,e,[],[]⟩)):=by
  show _=_;rw[d0,k0]
  match vs,I0 with
  |a::vs',_=>
   simp only[RS.bh]
   cases r.value (a::vs') with
   |none=>rfl
   |some e=>
    simp only[o0,if_true]
    try rfl
 have c42:M w R 42 (.map (some cm)):=h.cR.c 42 (by omega);obtain⟨mx,tb,p0,l0,hmx⟩:=h.drew.nc.iw n hn;rw[<-k0]at l0 hmx;have m0:=Z l0;have q0:=Z hmx;have HH:=Z h
 have r0:Y (∀W,Zn lo base R Pb lm vm cm w0 W r aq m->D w W->E 160 #[F R,Sq b (off+1) vs.length (cap - 1)] W (zlx (r.value vs) aq W)):=λW hW K0=>
  za6 hW b (off+1) vs.length (cap - 1) vs rfl (by simp at e0;omega) (λx hx=>j0 x (by simp[hx])) i0 (λi hi=>by
   rw[K0.cell (p:=(O b (off+1+i))) (by show b<_;omega)];have:=a0 (i+1) (by simp;omega)
   rw[show off+1+i=off+(i+1) by omega,this];rfl)
 have hbz:b<w.heap.size:=by omega
 simp only[length_cons]at e0⊢
 have U0:(2:Int)<=(cap:Int):=by omega
 have V0:(1:Int)<=(vs.length:Int):=by omega
 have W0:(vs.length:Int)+1<=(cap:Int):=by omega
 have L0:cap≠1:=by omega
 unfold maxLen at H0;have M0:=Z n0;clear h hw j0 a0 d0 l0 hmx i0 o0 n0 k0
 go_enter func134,ntmps134
 go_wp2_with fail
 refine wp_region_still_lit (by kernel_rfl) (by kernel_rfl) ?_
 iterate 7 still_step
 refine Vr rfl (.tuple #[I mx,.bool tb]) (zzw _ _ 156 rfl (.map (some cm)) (Tq n) _ rfl rfl p0) ?_
 iterate 5 still_step
 refine wpStill_nil ?_
 change Exit.then _ _ _ _ w.drew
 have HW:=Z HH.drew;have s0:Y (D w w.drew):=dA;have t0:w.drew.heap.size=w.heap.size:=rfl;have X0:=Z t0;clear p0 J0 c42 t0;generalize w.drew=W at*;have bU:=HW.bU;have bB:=HW.bB;have Y0:=s0.size;have u0:=Z (Yf R 4 aq W (HW.cR.c 1 (by omega)));have v0:=Z (Xe R 4 W)
 cases tb with
 |false=>
  have h0:pl<0:=(by have:=m0.out;simpa using this);have HR:Y (aX=(4,r)):=by
   show _=_;rw[c0.out]
   cases r.value vs with
   |none=>rfl
   |some e=>exact G h0
  go_wp2_with fail
  refine u0.mono ?_;rintro e w1 ⟨rfl,N0⟩;exact⟨rfl,Zb.dP HR (by decide) rfl (HW.gone N0)⟩
 |true=>
  have h0:0<=pl:=(by have:=m0.out;simpa using this);obtain⟨q,hq⟩:∃q:Nat,pl=q:=⟨pl.toNat,by omega⟩;have O0:mx=(q:Int):=(by rw[q0.out,hq];omega);subst O0;have HQ:=Z hq;clear hq h0 q0 m0
  go_wp2_with fail
  refine v0.mono ?_;rintro e w1 ⟨rfl,x0⟩;rw[x0];clear x0 w1 v0 u0;have y0:=r0 W HW s0.out;have z0:=Z y0;clear y0 r0
  go_wp2_with fail
  refine z0.mono ?_;rintro e W2 ⟨g0,A0,f0⟩;have P0:=Z (HW.below g0);have Q0:=Z g0;have Z0:=g0.size;clear z0 g0
  cases b0:r.value vs with
  |none=>
   obtain rfl:=f0 b0;have HR:aX=(4,r):=(by rw[c0.out,b0]);exact⟨rfl,Zb.dP HR (by decide) rfl (HW.gone Q0)⟩
  |some ex=>
   obtain⟨pb,rfl,B0⟩:=A0 ex b0;have R0:=Z B0;have C0:Y (aX=if 16<=r.am then(5,r) else(0,r.put ⟨4,q,ln,ex,[],[]⟩)):=by
    show _=_;rw[c0.out,b0,HQ.out];exact U (by omega)
   have D0:Y (E 161 #[F R,F W2.heap.size] (W2.alloc (.cells #[I 4,I 0,I q,F pb,K,K] 262)) λe' w'=>
      (16<=r.am/\e'=.panicked (Za 5 aq)/\zuz lo base R Pb lm vm cm w0 w')\/(r.am<16/\e'=.returned (.tuple #[])/\∃m',Zn lo base R Pb lm vm cm w0 w' (r.put ⟨4,q,ln,ex,[],[]⟩) aq m')):=
     yu3 P0 G0 W.heap.size 4 q ln pb ex (λb hb=>(HW.re.wh b hb).2) ⟨by omega,by omega⟩ M0.out
      (R0.kept (λb hb=>⟨hb.1,hb.2⟩) (λ_ _=>rfl))
   clear B0 A0 f0 c0 b0
   go_wp2_with fail
   refine D0.mono ?_;rintro e W4 (⟨E0,rfl,S0⟩|⟨E0,rfl,m',F0⟩)
   ·have HR:aX=(5,r):=by rw[C0.out,G E0]
    exact⟨rfl,Zb.dP HR (by decide) rfl S0⟩
   have HR:aX=(0,r.put ⟨4,q,ln,ex,[],[]⟩):=(by rw[C0.out,U (by omega)]);have HF:=Z (Zb.fd HR rfl F0);clear HR F0 D0;go_wp2
   go_end0
   exact HF
end
section
variable{r:RS}{aq:Int}{m:Ya}
def zn6(e:TypeId)(w:World):w.ownsRow base e 1 K 0 []:=⟨rfl,.inl ⟨rfl,rfl⟩⟩
def Ys.none(d:Nat)(S:Nat->Prop)(w:World):Ys d S base w K [] []:=⟨[],zn6 _ _,rfl,λi hi=>absurd hi (by simp)⟩
def Zn.bF(h:Zn lo base R Pb lm vm cm w0 w r aq m)(hb:r.ag=true){f:Fl.Frame}{fs:List Fl.Frame}{g:GF}{gs:List GF}(e0:r.fr=f::fs)(m0:m.gs=g::gs)(hh:f.cU=false):∃m',Zn lo base R Pb lm vm cm w0 (w.setCell (O g.ob 1) (.bool true)) r.bF aq m':=by
 obtain⟨b1,b2,b3,b4,b5,b6⟩:=h.bU;obtain⟨l1,l2,l3,l4,l5⟩:=h.bB;have n0:=h.re.fa;rw[e0,m0]at n0;obtain⟨hf,q0⟩:=n0;have t0:=h.re.wh g.ob (by rw[hf.to];omega);have hz:(w.setCell (O g.ob 1) (.bool true)).heap.size=w.heap.size:=Zy _ _ _;have q:∀k,k≠g.ob->(w.setCell (O g.ob 1) (.bool true)).heap[k]?=w.heap[k]?:=λk hk=>Zx _ _ _ _ _ hk;have q':∀k,m.aF k≠11+3*fs.length->(w.setCell (O g.ob 1) (.bool true)).heap[k]?=w.heap[k]?:=λk hk=>q k (λhe=>hk (by rw[he];exact hf.to));obtain⟨w',hw'⟩:∃w',w'=w.setCell (O g.ob 1) (.bool true):=⟨_,rfl⟩
 have i0:Below lo w0 w':=by rw[hw'];exact h.bel.setCell (by show lo<=g.ob;omega) _
 have r0:Ze w' g.ob 2 (rw_ [ptr g.sb,.bool true]):=by
  rw[hw'];refine(hf.co.set (by omega) (.bool true)).congr λk hk=>?_;rcases(show k=0\/k=1 by omega) with rfl|rfl<;>rfl
 rw[<-hw']at hz q q'⊢;clear hw'
 have j0:r.bF={r with fr:={f with cU:=true}::fs}:=by unfold RS.bF;rw[e0]
 rw[j0]
 have f0:g.act f=g.fv:=by unfold GF.act;rw[hh];rfl
 obtain⟨o0,s0⟩:=hf.pe hh;have p0:∀b,g.fv.ownBlock=some b->m.aF b=12+3*fs.length:=λb hb'=>hf.ta b (by rw[f0];exact hb');obtain⟨who',b0⟩:∃who':Nat->Nat,who'=λb=>if g.fv.ownBlock=some b then 0 else m.aF b:=⟨_,rfl⟩
 have wold:∀b,m.aF b≠12+3*fs.length->who' b=m.aF b:=λb hb'=>by rw[b0];exact U (λhe=>hb' (p0 b he))
 have wfv:∀b,g.fv.ownBlock=some b->who' b=0:=λb hb'=>by rw[b0];exact G hb'
 have w5:∀b,who' b≠5->m.aF b≠5:=λb hb' he=>hb' (by rw[wold b (by omega)];exact he);clear b0;have h0:∀b,m.aF b=0->who' b=0:=λb hb'=>(wold b (by omega)).trans hb';have k0:∀b,m.aF b=0->w'.heap[b]?=w.heap[b]?:=λb hb'=>q' b (by omega);have a0:=h.re.aE who' (λb hb'=>⟨wold b (by omega),q' b (by omega)⟩);have g0:=h.ok.cn;have cZ:=h.ok.st;rw[e0]at g0
 have c0:f.first.length<=16:=by have:=g0.2.1;rw[hh]at this;simp at this;omega
 refine⟨{m with aF:=who'},?_⟩;refine{ok:= ?ok,bel:=i0,fx:=λb f1 f2 f3 f4 f5 f6=>(q b (by omega)).trans (h.fx b f1 f2 f3 f4 f5 f6),bB:=h.bB,bU:=⟨b1,b2,b3,b4,b5,by omega⟩,nd:=h.nd,cR:= ?cR,cP:=h.cP.block (q _ (by omega)),nl:=h.nl.block (q _ (by omega)),nv:=h.nv.block (q _ (by omega)),nc:=h.nc.block (q _ (by omega)),tab:=h.tab,re:= ?re}
 case ok=>
  exact{
      cn:=⟨by have:=g0.1;simpa using this,(by
       show zz1 r.am 0 ({f with cU:=true}::fs);obtain⟨c1,c2,c3⟩:=g0.2;rw[hh]at c1 c2;simp at c1 c2
       refine⟨?_,?_,c3⟩<;>simp<;>omega)⟩,lv:=h.ok.lv,ce:=h.ok.ce,ch:=h.ok.ch,lo:=h.ok.lo,st:=h.ok.st,fr:=(by have:=h.ok.fr;rw[e0]at this;simpa using this),cl:=h.ok.cl,hl:=h.ok.hl,cM:=h.ok.cM,cF:=(by
       intro k hk;have l0:=h.ok.cF;rw[e0]at l0;rcases mem_cons.1 hk with rfl|hk
       ·exact l0 f (by simp)
       exact l0 k (by simp[hk])),head:=λhd=>(by rw[show ({r with fr:={f with cU:=true}::fs}:RS).ag=r.ag from rfl,hb]at hd;cases hd),below:=h.ok.below,aB:=h.ok.aB,cS:=h.ok.cS,fh:=h.ok.fh}
 case cR=>
  refine(h.cR.block (q R (by omega))).congr λj hj=>?_;exact(zuy Pb lm vm cm aq r {r with fr:={f with cU:=true}::fs} m {m with aF:=who'} j rfl rfl rfl rfl hj (λ_ _ _ _ _=>rfl)).symm
 case re=>
  have d0:=a0.oo;rw[e0]at d0;refine{wh:=λb hb'=>(by have:=h.re.wh b (w5 b hb');exact⟨this.1,by omega⟩),oc:=a0.oc.1,tc:=a0.oc.2,oh:=a0.oh.1,th:=a0.oh.2,pb:=a0.pb.1,tb:=a0.pb.2,fa:= ?fa,oo:=d0.1,to:=d0.2,la:=a0.la}
  case fa=>
   show Vo who' base w' (3 - ({f with cU:=true}::fs).length) [] ({f with cU:=true}::fs) m.gs;rw[m0];refine⟨?_,?_⟩
   ·refine{ts:=(wold g.sb (by rw[hf.ts];omega)).trans hf.ts,to:=(wold g.ob (by rw[hf.to];omega)).trans hf.to,ta:=λb hb'=>?ta,co:=r0,cs:=hf.cs.block (q' g.sb (by rw[hf.ts];omega)),hv:=hf.hv.kept h0 k0,pa:= ?pa,pf:=λ_=>?pf,pe:=λhd=>by cases hd}
    case ta=>
     have:g.ev.ownBlock=some b:=hb'
     rw[o0]at this;cases this
    case pa=>
     show Ys _ _ base w' g.ev f.fu [];rw[o0,s0];exact Ys.none _ _ _
    case pf=>
     have hp:=hf.pa;rw[f0,hh]at hp;exact Ys.closed (hp.kept h0 k0 (λb hb'=>q' b (by rw[p0 b hb'];omega))) wfv c0
   exact q0.kept (λb hb'=>by
    rcases hb' with hb'|hb'
    ·exact⟨wold b (by omega),k0 b hb'⟩
    exact⟨wold b (by omega),q' b (by omega)⟩)
def yu4(h:Zn lo base R Pb lm vm cm w0 w r aq m)(n0:r.ag=true)(v:Value)(k:L)(ln:Nat)(hk:(k==dO)=true):
  E 136 #[F R,v] w (Zb lo base R Pb lm vm cm w0 aq (r.bh ln [k])):=by
 obtain⟨aX,c0⟩:=J (r.bh ln [k]);rw[<-c0];have f0:=Z (zux h);have HH:=Z h;have hl:=h.re.fa.len;have bU:=h.bU;have bB:=h.bB
 cases e0:r.fr with
 |nil=>
  have g0:m.gs=[]:=(by rw[e0]at hl;exact Qi (by simpa using hl));have HR:Y (aX=(3,r)):=(by show _=_;rw[c0];simp only[RS.bh,e0]);rw[g0]at f0;unfold zu1 at f0;clear h c0 e0 g0 hl
  go_enter func136,ntmps136
  go_wp2_with fail
  refine f0.mono ?_;rintro e W ⟨rfl,b0,h0⟩;have p0:=b0.size;have HW:=Z (HH.below b0);have j0:=Z (Yf R 3 aq W (HW.cR.c 1 (by omega)));clear b0 h0 f0
  go_wp2_with fail
  refine j0.mono ?_;rintro e w1 ⟨rfl,b0⟩;exact⟨rfl,Zb.dP HR (by decide) rfl (HW.gone b0)⟩
 |cons f fs=>
  cases g0:m.gs with
  |nil=>rw[e0,g0]at hl;simp at hl
  |cons g gs=>
   have k0:=h.re.fa;rw[e0,g0]at k0;have u0:=h.ok.cF f (by rw[e0];simp);have HF:=Z k0.1;have q0:=Z e0;have r0:=Z g0;have HR:Y (aX=if f.kind=5/\f.cU=false then(0,r.bF) else(3,r)):=(by show _=_;rw[c0];simp only[RS.bh,e0,hk,if_true]);rw[g0]at f0;unfold zu1 at f0;clear h c0 e0 g0 hl k0
   go_enter func136,ntmps136
   go_wp2_with fail
   refine f0.mono ?_;rintro e W ⟨rfl,b0,h0⟩;have p0:=b0.size;have HW:=Z (HH.below b0);have j0:=Z (Yf R 3 aq W (HW.cR.c 1 (by omega)));have l0:=Z (Xe R 3 W);have o0:M W g.ob 0 (F g.sb):=(HF.co.block (w':=W) (by rw[h0])).c 0 (by omega);have o1:M W g.ob 1 (.bool f.cU):=(HF.co.block (w':=W) (by rw[h0])).c 1 (by omega);have oz:∀j,W.frozen? (O g.ob j)=false:=(HF.co.block (w':=W) (by rw[h0])).z;have s0:M W g.sb 0 (I f.kind):=(HF.cs.block (w':=W) (by rw[h0])).c 0 (by omega);clear b0 h0 f0 HF
   have d0:Y ((f.kind=5/\f.cU=false->False)->aX=(3,r)):=λhn=>by rw[HR.out];exact U hn
   have a0:Y (f.kind=5->f.cU=false->Zb lo base R Pb lm vm cm w0 aq aX (.returned (.tuple #[])) (W.setCell (O g.ob 1) (.bool true))):=λh1 h2=>by
    obtain⟨m',hm⟩:=HW.bF n0 q0 r0 h2;exact Zb.fd (by rw[HR.out];exact G ⟨h1,h2⟩) rfl hm
   clear HR
   by_cases h5:f.kind=5
   ·have k5:((f.kind:Int)==5)=true:=by rw[h5];rfl
    cases i0:f.cU with
    |true=>
     rw[i0]at o1;have HX:Y (aX=(3,r)):=d0 (λhx=>by rw[i0]at hx;cases hx.2);clear d0 a0 i0
     go_wp2_with fail
     refine j0.mono ?_;rintro e w1 ⟨rfl,b0⟩;exact⟨rfl,Zb.dP HX (by decide) rfl (HW.gone b0)⟩
    |false=>
     rw[i0]at o1;have HX:=a0 h5 i0;have t0:=Z HX;clear d0 a0 i0 HX h5
     go_wp2_with fail
     refine l0.mono ?_;rintro e w1 ⟨rfl,m0⟩;rw[m0];clear m0 w1 l0 j0;go_wp2
     go_end0
     exact t0
   have k5:((f.kind:Int)==5)=false:=(by rw[Qh];omega);have HX:Y (aX=(3,r)):=d0 (λhx=>h5 hx.1);clear d0 a0 h5
   go_wp2_with fail
   refine j0.mono ?_;rintro e w1 ⟨rfl,b0⟩;exact⟨rfl,Zb.dP HX (by decide) rfl (HW.gone b0)⟩
end
section
variable{r:RS}{aq:Int}{m:Ya}
def yu5{g cap:Nat}(h:w.ownsRow base e 1 (A (some (O g 0)) (n+1) cap) (n+1) (xs++[x])):w.ownsRow base e 1 (A (some (O g 0)) n cap) n xs:=by
 obtain⟨h1,h2⟩:=h
 have hl:xs.length=n:=by simp at h1;omega
 refine⟨by omega,?_⟩;rcases h2 with⟨h3,-⟩|⟨g',cap',cur,h3,hb,hg,hc,hm,hs,ht⟩
 ·cases h3
 simp only[slice.injEq,Ql,Addr.mk.injEq]at h3;obtain⟨⟨rfl,-⟩,-,rfl⟩:=h3;refine .inr ⟨g,cap,cur,rfl,hb,hg,by omega,hm,hs,?_⟩;have:=congrArg (take n) ht;rw[take_take,take_append_of_le_length (by omega),take_of_length_le (by omega:xs.length<=n)]at this;rw[Nat.mul_one]at this⊢;rw[show min n (n+1)=n by omega]at this;exact this
def Ys.shut{ts:List aa}{s:aa}(h:Ys d S base w v ts [p])(hS:∀b,S b->S' b)(hw:∀b,S b->w'.heap[b]?=w.heap[b]?)(hv:∀b,v.ownBlock=some b->w'.heap[b]?=w.heap[b]?)(hp:zxw (Yz d) S' w' p s):Ys d S' base w' v (ts++[s]) []:=by
 obtain⟨ps,h1,h2,h3⟩:=Ys.kept h hS hw hv;refine⟨ps++[p],?_,by simp[h2],λi hi=>?_⟩
 ·simp only[length_append,length_cons,length_nil,append_nil,Nat.add_zero]at h1⊢
  exact h1
 by_cases hl:i<ts.length
 ·have:=h3 i hl
  rw[Qa,getElem?_append_left (by omega),Qa,getElem?_append_left hl];rw[Qa,Qa]at this;exact this
 have he:i=ts.length:=by simp at hi;omega
 subst he;rw[Qa,getElem?_append_right (by omega),Qa,getElem?_append_right (by omega)];rw[h2];simpa using hp
def ze2(g g2:GF)(gs:List GF):Vh (g::g2::gs)=Vh (g2::gs):=by
 simp only[Vh]
 cases Vh gs<;>rfl
def zv1.done{aF who':Nat->Nat}{d i:Nat}{f:Fl.Frame}{g:GF}(h:zv1 aF base w d i [] f g)(aL:f.first.length<=16/\f.fu.length<=16)(hS:∀b,aF b=0\/aF b=10+3*i\/aF b=12+3*i->who' b=0)(hw:∀b,aF b≠5->w'.heap[b]?=w.heap[b]?):zxw (Yz (d+1)) (λb=>who' b=0) w' (ptr g.sb) f.done:=by
 have h0:∀b,aF b=0->who' b=0:=λb hb=>hS b (.inl hb);have a0:∀b,aF b=0->w'.heap[b]?=w.heap[b]?:=λb hb=>hw b (by omega);have hp:Yz (d+1) (λb=>who' b=0) w' (g.act f) (if f.cU then f.fu else f.first):=by
  refine Ys.closed (h.pa.kept h0 a0 (λb hb=>hw b (by rw[h.ta b hb];omega))) (λb hb=>hS b (.inr (.inr (h.ta b hb)))) ?_
  split
  ·exact aL.2
  exact aL.1
 refine⟨g.sb,g.vp,g.fv,g.ev,rfl,hS _ (.inr (.inl h.ts)),h.cs.block (hw _ (by rw[h.ts];omega)),h.hv.kept h0 a0,?_,?_⟩
 ·show Yz (d+1) _ w' g.fv f.first
  cases hh:f.cU with
  |true=>exact Yz.kept h0 a0 _ _ _ (h.pf hh)
  |false=>unfold GF.act at hp;rw[hh]at hp;exact hp
 show Yz (d+1) _ w' g.ev f.fu
 cases hh:f.cU with
 |true=>unfold GF.act at hp;rw[hh]at hp;exact hp
 |false=>obtain⟨e1,e2⟩:=h.pe hh;rw[e1,e2];exact Yz.nil _ _ _
def Zn.bG(h:Zn lo base R Pb lm vm cm w0 w r aq m)(hb:r.ag=true){f:Fl.Frame}{fs:List Fl.Frame}{g:GF}{gs:List GF}{q cap:Nat}(k0:r.fr=f::fs)(s0:m.gs=g::gs)(D0:m.ov=A (some (O q 0)) (fs.length+1) cap):∃m',Zn lo base R Pb lm vm cm w0 (w.setCell (O R 43) (A (some (O q 0)) fs.length cap)) r.bG aq m':=by
 obtain⟨b1,b2,b3,b4,b5,b6⟩:=h.bU;obtain⟨l1,l2,l3,l4,l5⟩:=h.bB;obtain⟨n1,n2,n3,n4,n5,n6,n7,n8,n9,n10⟩:=h.nd;have A0:=h.re.fa;rw[k0,s0]at A0;obtain⟨hf,n0⟩:=A0;have g0:=h.ok.fr;rw[k0]at g0;simp only[length_cons]at g0 hf n0;have o0:=h.ok.cn;have cZ:=h.ok.st;rw[k0]at o0;have hz:(w.setCell (O R 43) (A (some (O q 0)) fs.length cap)).heap.size=w.heap.size:=Zy _ _ _;have qn:∀k,k≠R->(w.setCell (O R 43) (A (some (O q 0)) fs.length cap)).heap[k]?=w.heap[k]?:=λk hk=>Zx _ _ _ _ _ hk;have l0:=h.bel.setCell (p:=(O R 43)) (by show lo<=R;omega) (A (some (O q 0)) fs.length cap);have B0:=h.cR.set (j:=43) (by omega) (A (some (O q 0)) fs.length cap);obtain⟨w',hw'⟩:∃w',w'=w.setCell (O R 43) (A (some (O q 0)) fs.length cap):=⟨_,rfl⟩;rw[<-hw']at hz qn l0 B0⊢;clear hw';have qw:∀b,m.aF b≠5->w'.heap[b]?=w.heap[b]?:=λb hb'=>qn b (by have:=h.re.wh b hb';omega);obtain⟨who',m0⟩:∃who':Nat->Nat,who'=λb=>if 10+3*fs.length<=m.aF b/\m.aF b<=12+3*fs.length then 0 else m.aF b:=⟨_,rfl⟩
 have wold:∀b,¬(10+3*fs.length<=m.aF b/\m.aF b<=12+3*fs.length)->who' b=m.aF b:=λb hb'=>by rw[m0];exact U hb'
 have wnew:∀b,10+3*fs.length<=m.aF b->m.aF b<=12+3*fs.length->who' b=0:=λb h1 h2=>by rw[m0];exact G ⟨h1,h2⟩
 have w5:∀b,who' b≠5->m.aF b≠5:=λb hb' he=>hb' (by rw[wold b (by omega)];exact he);clear m0;have h0:∀b,m.aF b=0->who' b=0:=λb hb'=>(wold b (by omega)).trans hb';have q0:∀b,m.aF b=0->w'.heap[b]?=w.heap[b]?:=λb hb'=>qw b (by omega);have c0:=h.re.aE who' (λb hb'=>⟨wold b (by omega),qw b (by omega)⟩)
 have aL:f.first.length<=16/\f.fu.length<=16:=by obtain⟨c1,c2,-⟩:=o0.2;exact⟨by omega,by omega⟩
 have b0:=hf.done aL (λb hb'=>by
  rcases hb' with hb'|hb'|hb'
  ·exact h0 b hb'
  ·exact wnew b (by omega) (by omega)
  exact wnew b (by omega) (by omega)) qw
 rw[show 3 - (fs.length+1)+1=3 - fs.length by omega]at b0 n0;have i0:=c0.oo;rw[k0,s0,D0]at i0;simp only[length_cons,map_cons,reverse_cons]at i0;have a0:=yu5 i0.1
 have C0:∀(r':RS) (m':Ya),r'.ag=r.ag->r'.au.length=r.au.length->r'.am=r.am->m'.ov=A (some (O q 0)) fs.length cap->m'.t=m.t->Ze w' R 45 (Xa Pb lm vm cm aq r' m'):=λr' m' e1 e2 e4 e5 e6=>B0.congr (λj hj=>by
  by_cases h4:j=43
  ·subst h4;rw[G rfl];exact e5.symm
  rw[U h4];unfold Xa;rw[e1,e2,e4,e6]
  by_cases hs:j=0\/j=1\/j=2\/j=3\/j=40\/j=41\/j=42\/j=44
  ·rcases hs with rfl|rfl|rfl|rfl|rfl|rfl|rfl|rfl<;>rfl
  rw[U (show ¬j=0 by omega),U (show ¬j=1 by omega),U (show ¬j=2 by omega),U (show ¬j=3 by omega),U (show ¬j=40 by omega),U (show ¬j=41 by omega),U (show ¬j=42 by omega),U h4,U (show ¬j=44 by omega)]
  rw[U (show ¬j=0 by omega),U (show ¬j=1 by omega),U (show ¬j=2 by omega),U (show ¬j=3 by omega),U (show ¬j=40 by omega),U (show ¬j=41 by omega),U (show ¬j=42 by omega),U h4])
 have t0:=i0.2;refine⟨{m with aF:=who',gs:=gs,ov:=A (some (O q 0)) fs.length cap},?_⟩
 cases e0:fs with
 |nil=>
  have v0:gs=[]:=(by have:=n0.len;rw[e0]at this;exact Qi (by simpa using this));have f0:r.bG={r with bK:=r.bK++[f.done],fr:=[]}:=(by unfold RS.bG;rw[k0,e0]);rw[f0];refine{ok:= ?ok,bel:=l0,fx:=λb f1 f2 f3 f4 f5 f6=>(qn b f2).trans (h.fx b f1 f2 f3 f4 f5 f6),bB:=h.bB,bU:=⟨b1,b2,b3,b4,b5,by omega⟩,nd:=h.nd,cR:= ?cR,cP:=h.cP.block (qn _ (by omega)),nl:=h.nl.block (qn _ (by omega)),nv:=h.nv.block (qn _ (by omega)),nc:=h.nc.block (qn _ (by omega)),tab:=h.tab,re:= ?re}
  case ok=>
   exact{cn:=⟨by have:=o0.1;simp at this⊢;omega,trivial⟩,lv:=h.ok.lv,ce:=h.ok.ce,ch:=h.ok.ch,lo:=h.ok.lo,st:=h.ok.st,fr:=(by simp),cl:=h.ok.cl,hl:=h.ok.hl,cM:=h.ok.cM,cF:=(by intro k hk;cases hk),head:=λhd=>(by rw[show ({r with bK:=r.bK++[f.done],fr:=[]}:RS).ag=r.ag from rfl,hb]at hd;cases hd),below:=h.ok.below,aB:=h.ok.aB,cS:=h.ok.cS,fh:=h.ok.fh}
  case cR=>exact C0 _ _ rfl rfl rfl (by rw[e0]) rfl
  case re=>
   have p0:=h.re.pb;rw[s0,v0]at p0;rw[e0]at b0 a0 t0;rw[v0]at a0;rw[v0];refine{wh:=λb hb'=>(by have:=h.re.wh b (w5 b hb');exact⟨this.1,by omega⟩),oc:=c0.oc.1,tc:=c0.oc.2,oh:=c0.oh.1,th:=c0.oh.2,pb:= ?pb,tb:=c0.pb.2,fa:=trivial,oo:=a0,to:=t0,la:=c0.la}
   case pb=>exact Ys.shut p0 h0 q0 (λb hb'=>qw b (by rw[h.re.tb b hb'];decide)) b0
 |cons f2 fs2=>
  cases u0:gs with
  |nil=>have:=n0.len;rw[e0,u0]at this;simp at this
  |cons g2 gs2=>
   rw[e0,u0]at n0;obtain⟨d0,x0⟩:=n0;obtain⟨f',hf'⟩:∃f':Fl.Frame,f'=if f2.cU then{f2 with fu:=f2.fu++[f.done]} else{f2 with first:=f2.first++[f.done]}:=⟨_,rfl⟩
   have j0:f'.kind=f2.kind/\f'.aq=f2.aq/\f'.e=f2.e/\f'.cU=f2.cU:=by rw[hf'];split<;>exact⟨rfl,rfl,rfl,rfl⟩
   have f0:r.bG={r with fr:=f'::fs2}:=(by unfold RS.bG;rw[k0,e0,hf']);rw[f0];have r0:g2.act f'=g2.act f2:=(by unfold GF.act;rw[j0.2.2.2]);rw[e0]at o0;rw[e0]at wold wnew a0 t0 g0;rw[u0]at a0;simp only[length_cons]at wold wnew g0;refine{ok:= ?ok,bel:=l0,fx:=λb f1 f2 f3 f4 f5 f6=>(qn b f2).trans (h.fx b f1 f2 f3 f4 f5 f6),bB:=h.bB,bU:=⟨b1,b2,b3,b4,b5,by omega⟩,nd:=h.nd,cR:= ?cR,cP:=h.cP.block (qn _ (by omega)),nl:=h.nl.block (qn _ (by omega)),nv:=h.nv.block (qn _ (by omega)),nc:=h.nc.block (qn _ (by omega)),tab:=h.tab,re:= ?re}
   case ok=>
    exact{
        cn:=⟨by have:=o0.1;simp at this⊢;omega,(by
         show zz1 r.am 0 (f'::fs2);obtain⟨-,-,c1,c2,c3⟩:=o0.2;rw[hf']
         cases hh:f2.cU with
         |true=>rw[hh]at c1 c2;simp at c1 c2;refine⟨?_,?_,c3⟩<;>simp[hh]<;>omega
         |false=>rw[hh]at c1 c2;simp at c1 c2;refine⟨?_,?_,c3⟩<;>simp[hh]<;>omega)⟩,lv:=h.ok.lv,ce:=h.ok.ce,ch:=h.ok.ch,lo:=h.ok.lo,st:=h.ok.st,fr:=(by simp;omega),cl:=h.ok.cl,hl:=h.ok.hl,cM:=h.ok.cM,cF:=(by
         intro k hk;have y0:=h.ok.cF;rw[k0,e0]at y0;rcases mem_cons.1 hk with rfl|hk
         ·rw[j0.1];exact y0 f2 (by simp)
         exact y0 k (by simp[hk])),head:=λhd=>(by rw[show ({r with fr:=f'::fs2}:RS).ag=r.ag from rfl,hb]at hd;cases hd),below:=h.ok.below,aB:=h.ok.aB,cS:=h.ok.cS,fh:=h.ok.fh}
   case cR=>exact C0 _ _ rfl rfl rfl (by rw[e0]) rfl
   case re=>
    have p0:=c0.pb;rw[s0,u0,ze2]at p0;rw[e0]at b0;refine{wh:=λb hb'=>(by have:=h.re.wh b (w5 b hb');exact⟨this.1,by omega⟩),oc:=c0.oc.1,tc:=c0.oc.2,oh:=c0.oh.1,th:=c0.oh.2,pb:=p0.1,tb:=p0.2,fa:= ?fa,oo:=a0,to:=t0,la:=c0.la}
    case fa=>
     show Vo who' base w' (3 - (f'::fs2).length) [] (f'::fs2) (g2::gs2);have z0:=d0.ta;refine⟨?_,?_⟩
     ·refine{ts:=(wold g2.sb (by rw[d0.ts];omega)).trans d0.ts,to:=(wold g2.ob (by rw[d0.to];omega)).trans d0.to,ta:=λb hb'=>(by rw[r0]at hb';exact(wold b (by rw[z0 b hb'];omega)).trans (z0 b hb')),co:= ?co,cs:= ?cs,hv:=by rw[j0.2.2.1];exact d0.hv.kept h0 q0,pa:= ?pa,pf:= ?pf,pe:= ?pe}
      case co=>rw[j0.2.2.2];exact d0.co.block (qw _ (by rw[d0.to];omega))
      case cs=>rw[j0.1,j0.2.1];exact d0.cs.block (qw _ (by rw[d0.ts];omega))
      case pa=>
       rw[r0,j0.2.2.2];have:=Ys.shut d0.pa h0 q0 (λb hb'=>qw b (by rw[z0 b hb'];omega)) b0;rw[hf']
       cases hh:f2.cU<;>rw[hh]at this<;>exact this
      case pf=>
       intro hh;rw[j0.2.2.2]at hh;have:=Yz.kept h0 q0 _ _ _ (d0.pf hh);rw[hf',hh];exact this
      case pe=>
       intro hh;rw[j0.2.2.2]at hh;rw[hf',hh];exact d0.pe hh
     exact x0.kept (λb hb'=>by
      rcases hb' with hb'|hb'
      ·exact⟨wold b (by omega),q0 b hb'⟩
      exact⟨wold b (by omega),qw b (by omega)⟩)
def end_any(h:Zn lo base R Pb lm vm cm w0 w r aq m)(n0:r.ag=true)(v:Value)(k:L)(ln:Nat)(hk:(k==dO)=false):
  E 138 #[F R,v] w (Zb lo base R Pb lm vm cm w0 aq (r.bh ln [k])):=by
 obtain⟨aX,a0⟩:=J (r.bh ln [k]);rw[<-a0];have d0:=Z (zux h);have HH:=Z h;have hl:=h.re.fa.len;have bU:=h.bU;have bB:=h.bB
 cases e0:r.fr with
 |nil=>
  have f0:m.gs=[]:=(by rw[e0]at hl;exact Qi (by simpa using hl));have HR:Y (aX=(3,r)):=(by show _=_;rw[a0];simp only[RS.bh,e0]);rw[f0]at d0;unfold zu1 at d0;clear h a0 e0 f0 hl
  go_enter func138,ntmps138
  go_wp2_with fail
  refine d0.mono ?_;rintro e W ⟨rfl,c0,k0⟩;have o0:=c0.size;have HW:=Z (HH.below c0);have p0:=Z (Yf R 3 aq W (HW.cR.c 1 (by omega)));clear c0 k0 d0
  go_wp2_with fail
  refine p0.mono ?_;rintro e w1 ⟨rfl,c0⟩;exact⟨rfl,Zb.dP HR (by decide) rfl (HW.gone c0)⟩
 |cons f fs=>
  cases f0:m.gs with
  |nil=>rw[e0,f0]at hl;simp at hl
  |cons g gs=>
   obtain⟨ao,cap,i0,g0,b0⟩:=zh6 h;have h0:=h.ok.fr;rw[e0]at i0 g0 b0 h0;obtain⟨q,rfl,-,-,-⟩:=b0 (by simp);simp only[length_cons]at i0 g0 h0;have HR:Y (aX=(0,r.bG)):=(by show _=_;rw[a0];simp only[RS.bh,e0,hk];rfl);obtain⟨n,hn⟩:=J (fs.length)
   have j0:Y (∀W,Zn lo base R Pb lm vm cm w0 W r aq m->Zb lo base R Pb lm vm cm w0 aq aX (.returned (.tuple #[])) (W.setCell (O R 43) (A (some (O q 0)) n cap))):=λW hW=>by
    obtain⟨m',hm⟩:=hW.bG n0 e0 f0 i0;rw[<-hn]at hm;exact Zb.fd HR rfl hm
   rw[<-hn]at i0 g0 h0;rw[f0]at d0;unfold zu1 at d0;have q0:=Z i0;have s0:(0:Int)<=(n:Int):=(by omega);have t0:(n:Int)<=2:=(by omega);have u0:(n:Int)+1<=(cap:Int):=(by omega);have v0:(n:Int)<=(cap:Int):=(by omega);have x0:cap≠0:=(by omega);have y0:IntKind.i64.wrap (n:Int)=(n:Int):=(by simp[IntKind.wrap,IntKind.signed,IntKind.bits];omega);clear h a0 e0 f0 hl i0 b0 hn
   go_enter func138,ntmps138
   go_wp2_with fail
   refine d0.mono ?_;rintro e W ⟨rfl,c0,k0⟩;have o0:=c0.size;have HW:=Z (HH.below c0);have l0:=Z (Xe R 3 W);have c43:W.cell? (O R 43)=some (A (some (O q 0)) (n+1) cap):=(by rw[<-q0.out];exact HW.cR.c 43 (by omega));have zR:=HW.cR.z;have r0:=Z (j0 W.drew HW.drew);clear c0 k0 d0 j0
   go_wp2_with fail
   refine l0.mono ?_;rintro e w1 ⟨rfl,m0⟩;rw[m0];clear m0 w1 l0
   go_wp2_with fail
   go_still_tail 14,(by kernel_rfl)
   go_wp2_with fail
   go_end0
   exact r0
end
end Go.Proofs.YtgmbnnpnefniiaaGreatDoor
