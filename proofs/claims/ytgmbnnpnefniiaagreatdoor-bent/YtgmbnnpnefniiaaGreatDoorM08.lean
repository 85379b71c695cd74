import Derived.Test.YtgmbnnpnefniiaaGreatDoorM05
set_option linter.all false
set_option maxRecDepth 100000
set_option maxHeartbeats 40000000
namespace Go.Proofs.YtgmbnnpnefniiaaGreatDoor
open Go.RowKit Go.Proofs.Tryz List World Fl
variable{lo base R Pb lm vm cm n b o a k Lb k1:Nat}{w0 w w' wr:World}{r r':RS}{e:Ending}{v v':Value}{t:Fl.cY}{P:Program}
def yh6(b o:Nat)(n:Int)(w:World)(h:w.cell? (O b o)=some (I n)):E 154 #[Pp b o] w (Rq (I n) w):=by
 go_enter func154,ntmps154
 go_wp2;go_ret;exact⟨rfl,rfl⟩
def add_any(b o n:Nat)(v:Value)(w:World)(hn:n<6)(h:w.cell? (O b o)=some (I n))(hz:∀j,w.frozen? (O b j)=false)(hc:w.cell? (O b (o+1+n*6+n))=some v):E 155 #[Pp b o] w λe w'=>e=.returned (I n)/\w'=(w.setCell (O b (o+1+n*6+n)) (.bool true)).setCell (O b o) (I (n+1)):=by
 go_enter func155,ntmps155
 have a0:(w.setCell (O b (o+1+n*6+n)) (.bool true)).cell? (O b o)=some (I n):=by
  refine(Qg _ _ _ _ ?_).trans h;intro hh;injection hh with _ h2;omega
 go_wp2;go_ret;exact⟨rfl,rfl⟩
def ym7(b o i j:Nat)(v:Value)(w:World)(hi:i<6)(hj:j<6)(hz:∀j,w.frozen? (O b j)=false)(hc:w.cell? (O b (o+1+i*6+j))=some v):E 156 #[Pp b o,I i,I j] w λe w'=>e=.returned (.tuple #[])/\w'=w.setCell (O b (o+1+i*6+j)) (.bool true):=by
 have a0:(i:Int)<6:=by omega
 have b0:(j:Int)<6:=by omega
 go_enter func156,ntmps156
 go_wp2
 go_end0
 exact⟨rfl,rfl⟩
def zf9(names:List L)(x:L)(aq:Int)(w:World)(e:Ending)(w':World):Prop:=
 D w w'/\(0<=aj names x->e=.returned (I (aj names x)))/\(aj names x<0->e=.panicked (Za 4 aq))
def zpy(R lm:Nat)(aq:Int)(names:List L)(x:L)(w:World)(hx:x.length<=100000)(hm:Yx w lm names)(c40:w.cell? (O R 40)=some (.map (some lm)))(c1:w.cell? (O R 1)=some (I aq)):
  E 157 #[F R,Tq x] w (zf9 names x aq w):=by
 have a0:=hm.look x hx;obtain⟨pl,b0⟩:=J (aj names x);rw[<-b0]at a0;unfold zf9;rw[<-b0];have HR:=Yf R 4 aq w c1;have c0:=Z HR;clear b0 hm HR c1
 by_cases h0:0<=pl
 ·rw[show decide (0<=pl)=true by simpa using h0,show max 0 pl=pl by omega]at a0
  go_enter func157,ntmps157
  go_wp2_with (go_at_call 94;refine(Xe _ _ _).mono ?_;rintro e w' ⟨rfl,rfl⟩)
  go_ret;exact⟨Below.refl _ _,λ_=>rfl,λh=>by omega⟩
 rw[show decide (0<=pl)=false by simpa using h0]at a0
 go_enter func157,ntmps157
 go_wp2_with fail
 refine c0.mono ?_;rintro e w' ⟨rfl,hb⟩;exact⟨rfl,hb,λh=>by omega,λ_=>rfl⟩
def zuz(lo base R Pb lm vm cm:Nat)(w0 w':World):Prop:=Below lo w0 w'/\∀b,b<base->b≠R->b≠Pb->b≠lm->b≠vm->b≠cm->w'.heap[b]?=w0.heap[b]?
def Zn.gone{aq:Int}{m:Ya}(h:Zn lo base R Pb lm vm cm w0 w r aq m)(hb:D w w'):zuz lo base R Pb lm vm cm w0 w':=⟨(h.below hb).bel,(h.below hb).fx⟩
def Zb(lo base R Pb lm vm cm:Nat)(w0:World)(aq:Int)(aX:Nat×RS)(e:Ending)(w':World):Prop:=
 (aX.1=0/\e=.returned (.tuple #[])/\∃m',Zn lo base R Pb lm vm cm w0 w' aX.2 aq m')\/(aX.1≠0/\e=.panicked (Za aX.1 aq)/\zuz lo base R Pb lm vm cm w0 w')
def Zb.fd{aq:Int}{aX:Nat×RS}{m':Ya}(hr:aX=(0,r'))(he:e=.returned (.tuple #[]))(h:Zn lo base R Pb lm vm cm w0 w' r' aq m'):Zb lo base R Pb lm vm cm w0 aq aX e w':=by
 subst hr;exact .inl ⟨rfl,he,m',h⟩
def Zb.dP{aq:Int}{aX:Nat×RS}(hr:aX=(n,r'))(hn:n≠0)(he:e=.panicked (Za n aq))(h:zuz lo base R Pb lm vm cm w0 w'):Zb lo base R Pb lm vm cm w0 aq aX e w':=by
 subst hr;exact .inr ⟨hn,he,h⟩
def Zi.one{B:Nat}{ws:List L}(h:Zi B w v ws)(a0:ws≠[]):∃b off cap,v=Sq b off ws.length cap/\ws.length<=cap/\cap<=maxLen/\b<B/\(∀x∈ws,x.length<=100000)/\∀i,i<ws.length->w.cell? (O b (off+i))=some (.string ⟨(ws.getD i []).toArray⟩):=by
 obtain⟨ao,cap,h1,h2,h3,h4,h5,h6⟩:=h;obtain⟨b,off,rfl,hb,hc⟩:=h6 a0;exact⟨b,off,cap,h1,h2,h3,hb,h5,hc⟩
section
variable{aq:Int}{m:Ya}
def yv9(Pb lm vm cm:Nat)(aq:Int)(r:RS)(m:Ya)(i j:Nat)(hi:i<6)(hj:j<6):Xa Pb lm vm cm aq r m (4+i*6+j)=.bool (m.t i j):=by
 have e:(4+i*6+j - 4) / 6=i:=by omega
 have e2:(4+i*6+j - 4) % 6=j:=by omega
 unfold Xa;rw[U (show ¬4+i*6+j=0 by omega),U (show ¬4+i*6+j=1 by omega),U (show ¬4+i*6+j=2 by omega),U (show ¬4+i*6+j=3 by omega),U (show ¬4+i*6+j=40 by omega),U (show ¬4+i*6+j=41 by omega),U (show ¬4+i*6+j=42 by omega),U (show ¬4+i*6+j=43 by omega),U (show ¬4+i*6+j=44 by omega),e,e2]
def Zn.ak(h:Zn lo base R Pb lm vm cm w0 w r aq m)(hb:r.ag=false)(x:L)(hl:r.au.length<6){w1:World}(e1:w1=(w.setCell (O R (4+r.au.length*6+r.au.length)) (.bool true)).setCell (O R 3) (I (r.au.length+1)))
  (hg:w1.grownBy w' (some lm)) (hn:Yx w' lm (r.au++[x])):∃m',Zn lo base R Pb lm vm cm w0 w' {r with au:=r.au++[x]} aq m':=by
 obtain⟨b1,b2,b3,b4,b5,b6⟩:=h.bU;obtain⟨l1,l2,l3,l4,l5⟩:=h.bB;obtain⟨n1,n2,n3,n4,n5,n6,n7,n8,n9,n10⟩:=h.nd
 have g0:w1.heap.size=w.heap.size:=by rw[e1,Zy,Zy]
 have hz:=hg.size
 have q1:∀b,b≠R->w1.heap[b]?=w.heap[b]?:=λb a0=>by rw[e1,Zx _ _ _ _ _ a0,Zx _ _ _ _ _ a0]
 have q:∀b,b≠R->b≠lm->b<w.heap.size->w'.heap[b]?=w.heap[b]?:=λb a0 c0 h0=>(hg.block b (by omega) (by simpa using c0)).trans (q1 b a0);have hc:=(h.cR.set (j:=4+r.au.length*6+r.au.length) (by omega) (.bool true)).set (j:=3) (by omega) (I (r.au.length+1));rw[<-e1]at hc;have d0:=hc.block (hg.block R (by omega) (by simpa using n2));refine⟨{m with t:=λi j=>if i=r.au.length/\j=r.au.length then true else m.t i j},?_⟩;refine{ok:= ?ok,bel:= ?bel,fx:=λb f1 f2 f3 f4 f5 f6=>(q b f2 f4 (by omega)).trans (h.fx b f1 f2 f3 f4 f5 f6),bB:=h.bB,bU:=⟨b1,b2,b3,b4,b5,by omega⟩,nd:=h.nd,cR:= ?cR,cP:=h.cP.block (q _ (Ne.symm n1) n5 (by omega)),nl:=hn,nv:=h.nv.block (q _ (Ne.symm n3) (Ne.symm n8) (by omega)),nc:=h.nc.block (q _ (Ne.symm n4) (Ne.symm n9) (by omega)),tab:= ?tab,re:= ?re}
 case ok=>
  exact{cn:=h.ok.cn,lv:=by simp;omega,ce:=h.ok.ce,ch:=h.ok.ch,lo:=h.ok.lo,st:=h.ok.st,fr:=h.ok.fr,cl:=h.ok.cl,hl:=h.ok.hl,cM:=h.ok.cM,cF:=h.ok.cF,head:=h.ok.head,below:=λp hp=>by have:=h.ok.below p hp;simp;omega,aB:=λy hy=>by have:=h.ok.aB y hy;simp;omega,cS:=λy hy=>by have:=h.ok.cS y hy;simp;omega,fh:=λhh=>by rw[hb]at hh;cases hh}
 case bel=>
  have e0:Below lo w0 w1:=(by rw[e1];exact(h.bel.setCell l1 _).setCell l1 _);exact e0.grown hg (by have:=h.bel.size;omega) (λk hk=>by simp only[Ql]at hk;omega)
 case cR=>
  refine d0.congr λj hj=>?_
  by_cases h3:j=3
  ·subst h3;simp[Xa]
  rw[U h3]
  by_cases h4:j=4+r.au.length*6+r.au.length
  ·rw[G h4,h4,yv9 _ _ _ _ _ _ _ _ _ hl hl];simp
  rw[U h4];unfold Xa
  by_cases hs:j=0\/j=1\/j=2\/j=40\/j=41\/j=42\/j=43\/j=44
  ·rcases hs with rfl|rfl|rfl|rfl|rfl|rfl|rfl|rfl<;>rfl
  rw[U (show ¬j=0 by omega),U (show ¬j=1 by omega),U (show ¬j=2 by omega),U h3,U (show ¬j=40 by omega),U (show ¬j=41 by omega),U (show ¬j=42 by omega),U (show ¬j=43 by omega),U (show ¬j=44 by omega)];rw[U (show ¬j=0 by omega),U (show ¬j=1 by omega),U (show ¬j=2 by omega),U h3,U (show ¬j=40 by omega),U (show ¬j=41 by omega),U (show ¬j=42 by omega),U (show ¬j=43 by omega),U (show ¬j=44 by omega)];simp only;rw[U (by omega)]
 case tab=>
  intro i j hi hj;simp only[length_append,length_singleton]
  by_cases hn':i=r.au.length/\j=r.au.length
  ·rw[G hn',hn'.1,hn'.2];simp[eL]
  rw[U hn',h.tab i j hi hj]
  by_cases b0:i<r.au.length
  ·simp[b0,show i<r.au.length+1 by omega]
  by_cases f0:i=r.au.length
  ·subst f0
   have:eL r.aE r.aI r.au.length j=false:=by
    simp only[eL,Bool.or_eq_false_iff,any_eq_false];refine⟨by simp;omega,λp hp=>?_⟩;have:=h.ok.below p hp;simp;omega
   rw[this];simp
  simp[b0,show ¬i<r.au.length+1 by omega]
 case re=>
  have hr:=h.re.kept (by omega) (λb hw=>q b (by have:=h.re.wh b hw;omega) (by have:=h.re.wh b hw;omega) (h.re.wh b hw).2);exact{wh:=hr.wh,oc:=hr.oc,tc:=hr.tc,oh:=hr.oh,th:=hr.th,pb:=hr.pb,tb:=hr.tb,fa:=hr.fa,oo:=hr.oo,to:=hr.to,la:=λhh=>by rw[show ({r with au:=r.au++[x]}:RS).ag=r.ag from rfl,hb]at hh;cases hh}
end
section
variable{aq:Int}{m:Ya}
def yh7(h:Zn lo base R Pb lm vm cm w0 w r aq m)(x0:r.ag=false)(B:Nat)(v:Value)(k x:L)(hB:B<=w.heap.size)(hw:Zi B w v [x])(l0:∀b,v.ownBlock=some b->base<=b):
  E 128 #[F R,v] w (Zb lo base R Pb lm vm cm w0 aq (r.head [k,x])):=by
 obtain⟨b,off,cap,rfl,e0,A0,B0,m0,a0⟩:=hw.one (by simp);have hx:=m0 x (by simp);have C0:=l0 b rfl;have n0:M w b off (Tq x):=a0 0 (by simp);have c40:M w R 40 (.map (some lm)):=h.cR.c 40 (by omega);have D0:=h.ok.lv;obtain⟨mx,tb,o0,p0,-⟩:=h.drew.nl.iw x hx;obtain⟨aX,b0⟩:=J (r.head [k,x]);rw[<-b0]
 have c0:Y (aX=if 0<=aj r.au x then(4,r) else if r.au.length=6 then(5,r) else(0,{r with au:=r.au++[x]})):=by show _=_;rw[b0];rfl
 have HH:=Z h;have q0:=Z p0;simp only[length_cons,length_nil,Nat.zero_add]at e0⊢;clear h hw m0 a0 b0 p0 l0
 go_enter func128,ntmps128
 go_wp2_with fail
 refine wp_region_still_lit (by kernel_rfl) (by kernel_rfl) ?_
 iterate 7 still_step
 refine Vr rfl (.tuple #[I mx,.bool tb]) (zzw _ _ 156 rfl (.map (some lm)) (Tq x) _ rfl rfl o0) ?_
 iterate 5 still_step
 refine wpStill_nil ?_
 change Exit.then _ _ _ _ w.drew
 have HW:=Z (HH.below dA);have hc0':M w.drew b off (Tq x):=n0;generalize w.drew=W at*;clear HH o0 n0 c40;have bU:=HW.bU;have bB:=HW.bB
 cases tb with
 |true=>
  have h0:0<=aj r.au x:=(by have:=q0.out;simpa using this);have HR:Y (aX=(4,r)):=(by show _=_;rw[c0.out,G h0]);clear h0;have f0:Y (E 94 #[F R,.bool false,I 4] W λe w'=>e=.panicked (Za 4 aq)/\D W w'):=Yf R 4 aq W (HW.cR.c 1 (by omega))
  go_wp2_with fail
  refine f0.mono ?_;rintro e w' ⟨rfl,hb'⟩;exact⟨rfl,Zb.dP HR (by decide) rfl (HW.gone hb')⟩
 |false=>
  have h0:¬0<=aj r.au x:=(by have:=q0.out;simpa using this);have HR:Y (aX=if r.au.length=6 then(5,r) else(0,{r with au:=r.au++[x]})):=(by show _=_;rw[c0.out,U h0]);have y0:Y (aj r.au x<0):=(by show _<_;omega);clear h0;have c3:M W R 3 (I r.au.length):=HW.cR.c 3 (by omega);have r0:Y (E 154 #[Pp R 3] W (Rq (I r.au.length) W)):=yh6 R 3 _ W c3;have g0:Y (∀n,E 94 #[F R,.bool true,I n] W (Rq (.tuple #[]) W)):=λn=>Xe R n W
  go_wp2_with fail
  refine(g0 _).mono ?_;rintro e w' ⟨rfl,hw'⟩;rw[hw'];clear hw'
  go_wp2_with fail
  refine r0.mono ?_;rintro e w' ⟨rfl,hw'⟩;rw[hw'];clear hw' r0
  by_cases h6:r.au.length=6
  ·have i0:Y (aX=(5,r)):=by show _=_;rw[HR.out,G h6]
   have b6:¬(r.au.length:Int)<6:=(by omega);have f0:Y (E 94 #[F R,.bool false,I 5] W λe w'=>e=.panicked (Za 5 aq)/\D W w'):=Yf R 5 aq W (HW.cR.c 1 (by omega))
   go_wp2_with fail
   refine f0.mono ?_;rintro e w' ⟨rfl,hb'⟩;exact⟨rfl,Zb.dP i0 (by decide) rfl (HW.gone hb')⟩
  have i0:Y (aX=(0,{r with au:=r.au++[x]})):=(by show _=_;rw[HR.out,U h6]);have b6:(r.au.length:Int)<6:=(by omega)
  go_wp2_with fail
  refine(g0 _).mono ?_;rintro e w' ⟨rfl,hw'⟩;rw[hw'];clear hw' g0
  go_wp2_with fail
  have s0:r.au.length<6:=(by omega);have c40:M W R 40 (.map (some lm)):=HW.cR.c 40 (by omega);obtain⟨W1,d0⟩:=J ((W.drew.setCell (O R (3+1+r.au.length*6+r.au.length)) (.bool true)).setCell (O R 3) (I (r.au.length+1)));have t0:Y (E 155 #[Pp R 3] W.drew (Rq (I r.au.length) W1)):=by
   have:=add_any R 3 r.au.length _ W.drew s0 c3 HW.cR.z (HW.cR.c (3+1+r.au.length*6+r.au.length) (by omega));rw[<-d0]at this;exact this
  have E0:=HW.nd
  have q1:∀k,k≠R->W1.heap[k]?=W.heap[k]?:=λk hk=>by rw[d0,Zx _ _ _ _ _ hk,Zx _ _ _ _ _ hk];rfl
  have k40:W1.cell? (O R 40)=some (.map (some lm)):=by
   rw[d0];refine(Qg _ _ _ _ (by intro hh;injection hh with _ h2;omega)).trans ((Qg _ _ _ _ (by intro hh;injection hh with _ h2;omega)).trans c40)
  have kb:W1.cell? (O b off)=some (Tq x):=by
   exact(cQ (q1 b (by omega)) hc0')
  obtain⟨W2,z0,u0,j0⟩:=(HW.nl.block (q1 lm (by omega))).put x hx y0 (by omega);obtain⟨m',hm'⟩:=HW.drew.ak x0 x s0 d0 j0 u0;have j40:M W2 R 40 (.map (some lm)):=hm'.cR.c 40 (by omega);have jb:W2.cell? (O b off)=some (Tq x):=by
   exact j0.cell kb (by simp;omega)
  have HM:=Z hm';clear d0 q1 u0 j0 hm';refine zgz (λW=>M W R 40 (.map (some lm))/\M W b off (Tq x)) [0,1,2,3,4,5,6,7,8,9] 10 11 [] (by kernel_rfl) (by kernel_rfl) rfl [_,_,_,_,_,_,_,_,_,_] _ _ rfl rfl rfl (λc a d v w h=>by cases d<;>exact h) ⟨c40,hc0'⟩ (λops hG=>?_);clear hG
  repeat refine ysw rfl (kE (by intros;go_simp<;>rfl) (by go_simp<;>rfl) ?_)
  refine yi5 ?_
  go_wp2_with fail
  refine t0.mono ?_;rintro e w2 ⟨rfl,v0⟩;rw[v0];clear v0 t0
  go_wp2_with fail
  refine⟨⟨k40,kb⟩,?_⟩
  go_wp2_with fail
  refine⟨⟨j40,jb⟩,?_⟩
  go_end0
  exact Zb.fd i0 rfl HM.out
end
section
variable{aq:Int}{m:Ya}
def yh8(aE aI:List Nat)(a b:Nat)(h:aE.length=aI.length)(i j:Nat):eL (aE++[a]) (aI++[b]) i j=(eL aE aI i j||(a==i && b==j)):=by
 unfold eL;rw[zip_append h];simp[Bool.or_assoc]
def zuy(Pb lm vm cm:Nat)(aq:Int)(r r':RS)(m m':Ya)(j:Nat)(e1:r'.ag=r.ag)(e2:r'.au.length=r.au.length)(e3:m'.ov=m.ov)(e4:r'.am=r.am)(h:j<45)(ht:∀a b,a<6->b<6->j=4+a*6+b->m'.t a b=m.t a b):Xa Pb lm vm cm aq r' m' j=Xa Pb lm vm cm aq r m j:=by
 unfold Xa;rw[e1,e2,e3,e4]
 by_cases hs:j=0\/j=1\/j=2\/j=3\/j=40\/j=41\/j=42\/j=43\/j=44
 ·rcases hs with rfl|rfl|rfl|rfl|rfl|rfl|rfl|rfl|rfl<;>rfl
 rw[ht ((j - 4) / 6) ((j - 4) % 6) (by omega) (by omega) (by omega)]
def Zn.pair(h:Zn lo base R Pb lm vm cm w0 w r aq m)(hb:r.ag=false)(i j:Nat)(hi:i<r.au.length)(hj:j<r.au.length):Zn lo base R Pb lm vm cm w0 (w.setCell (O R (4+i*6+j)) (.bool true)) {r with aE:=r.aE++[i],aI:=r.aI++[j]} aq {m with t:=λa b=>if a=i/\b=j then true else m.t a b}:=by
 obtain⟨b1,b2,b3,b4,b5,b6⟩:=h.bU;obtain⟨l1,l2,l3,l4,l5⟩:=h.bB;obtain⟨n1,n2,n3,n4,n5,n6,n7,n8,n9,n10⟩:=h.nd;have hl:=h.ok.lv;have hz:(w.setCell (O R (4+i*6+j)) (.bool true)).heap.size=w.heap.size:=Zy _ _ _;have q:∀b,b≠R->(w.setCell (O R (4+i*6+j)) (.bool true)).heap[b]?=w.heap[b]?:=λb b0=>Zx _ _ _ _ _ b0;have hc:=h.cR.set (j:=4+i*6+j) (by omega) (.bool true);refine{ok:= ?ok,bel:=h.bel.setCell l1 _,fx:=λb f1 f2 f3 f4 f5 f6=>(q b f2).trans (h.fx b f1 f2 f3 f4 f5 f6),bB:=h.bB,bU:=⟨b1,b2,b3,b4,b5,by omega⟩,nd:=h.nd,cR:= ?cR,cP:=h.cP.block (q _ (Ne.symm n1)),nl:=h.nl.block (q _ (Ne.symm n2)),nv:=h.nv.block (q _ (Ne.symm n3)),nc:=h.nc.block (q _ (Ne.symm n4)),tab:= ?tab,re:= ?re}
 case ok=>
  exact{
      cn:=h.ok.cn,lv:=h.ok.lv,ce:=h.ok.ce,ch:=h.ok.ch,lo:=h.ok.lo,st:=h.ok.st,fr:=h.ok.fr,cl:=h.ok.cl,hl:=h.ok.hl,cM:=by simp[h.ok.cM],cF:=h.ok.cF,head:=h.ok.head,below:=λp hp=>by
       rw[zip_append h.ok.cM,mem_append]at hp;rcases hp with hp|hp
       ·exact h.ok.below p hp
       simp at hp;subst hp;exact⟨hi,hj⟩
      aB:=h.ok.aB,cS:=h.ok.cS,fh:=λhh=>by rw[show ({r with aE:=r.aE++[i],aI:=r.aI++[j]}:RS).ag=r.ag from rfl,hb]at hh;cases hh}
 case cR=>
  refine hc.congr λk hk=>?_
  by_cases h4:k=4+i*6+j
  ·rw[G h4,h4,yv9 _ _ _ _ _ _ _ _ _ (by omega) (by omega)];simp
  rw[U h4];exact(zuy Pb lm vm cm aq r {r with aE:=r.aE++[i],aI:=r.aI++[j]} m {m with t:=λa b=>if a=i/\b=j then true else m.t a b} k rfl rfl rfl rfl hk (λa b ha hb he=>U (by rintro⟨rfl,rfl⟩;exact h4 he))).symm
 case tab=>
  intro a b ha hb';show (if a=i/\b=j then true else m.t a b)=_;rw[yh8 _ _ _ _ h.ok.cM]
  by_cases a0:a=i/\b=j
  ·rw[G a0];simp[a0.1,a0.2,hi]
  rw[U a0,h.tab a b ha hb']
  have:(i==a && j==b)=false:=by simp;omega
  rw[this,Bool.or_false]
 case re=>
  have hr:=h.re.kept (by omega) (λb hw=>q b (by have:=h.re.wh b hw;omega));exact{wh:=hr.wh,oc:=hr.oc,tc:=hr.tc,oh:=hr.oh,th:=hr.th,pb:=hr.pb,tb:=hr.tb,fa:=hr.fa,oo:=hr.oo,to:=hr.to,la:=λhh=>by rw[show ({r with aE:=r.aE++[i],aI:=r.aI++[j]}:RS).ag=r.ag from rfl,hb]at hh;cases hh}
def ym8(h:Zn lo base R Pb lm vm cm w0 w r aq m)(A0:r.ag=false)(B:Nat)(v:Value)(n l:L)(hB:B<=w.heap.size)(hw:Zi B w v [n,l])(u0:∀b,v.ownBlock=some b->base<=b):
  E 129 #[F R,v] w (Zb lo base R Pb lm vm cm w0 aq (r.head [bY,n,l])):=by
 obtain⟨b,off,cap,rfl,o0,G0,H0,p0,b0⟩:=hw.one (by simp);have I0:=u0 b rfl;have hn:=p0 n (by simp);have hl:=p0 l (by simp);have q0:=b0 0 (by simp);have r0:=b0 1 (by simp);obtain⟨aX,c0⟩:=J (r.head [bY,n,l]);rw[<-c0];have d0:Y (aX=if aj r.au n<0\/aj r.au l<0 then(4,r) else(0,{r with aE:=r.aE++[(aj r.au n).toNat],aI:=r.aI++[(aj r.au l).toNat]})):=by
  show _=_;rw[c0];simp[RS.head]
 have HH:=Z h;have v0:Y (∀W x,x.length<=100000->Zn lo base R Pb lm vm cm w0 W r aq m->E 157 #[F R,Tq x] W (zf9 r.au x aq W)):=λW x hx hW=>zpy R lm aq r.au x W hx hW.nl (hW.cR.c 40 (by omega)) (hW.cR.c 1 (by omega));simp only[length_cons,length_nil,Nat.zero_add]at o0⊢;clear h hw p0 b0 c0 u0
 go_enter func129,ntmps129
 go_wp2_with fail
 refine zgy (λW=>M W b off (Tq n)/\M W b (off+1) (Tq l)) [(true,0),(true,1),(true,2),(true,3),(true,4),(true,5),(true,6),(true,8),(true,9),(true,10),(true,11),(false,7),(false,12),(false,13)] (by kernel_rfl) (by kernel_rfl) rfl [(_,_),(_,_),(_,_),(_,_),(_,_),(_,_),(_,_),(_,_),(_,_),(_,_),(_,_),(_,_),(_,_),(_,_)] rfl (λc a d v w h=>by cases d<;>exact h) ⟨q0,r0⟩ (λops=>?_)
 repeat refine yn1 rfl (kE (by intros;go_simp<;>rfl) (by go_simp<;>rfl) ?_)
 refine zi8 ?_;have HW:=Z HH.drew;have bU:=HW.bU;have bB:=HW.bB;have s0:M w.drew b off (Tq n):=q0;have x0:M w.drew b (off+1) (Tq l):=r0;generalize w.drew=W at*;clear q0 r0 HH
 go_wp2_with fail
 refine(v0 W n hn HW).mono ?_;rintro e W1 ⟨j0,h0,a0⟩;have B0:D W W1:=j0;have m0:Y (Zn lo base R Pb lm vm cm w0 W1 r aq m):=HW.below j0;have hbz:b<W.heap.size:=Qe W _ s0;have e0:=cT j0 hbz s0;have e1:=cT j0 hbz x0;have y0:Y (zuz lo base R Pb lm vm cm w0 W1):=⟨m0.bel,m0.fx⟩;clear s0 x0 j0 B0;obtain⟨i,hi⟩:=J (aj r.au n);rw[<-hi]at h0 a0
 by_cases C0:0<=i
 case neg=>
  obtain rfl:=a0 (by omega);have HR:aX=(4,r):=(by rw[d0.out,G (.inl (by omega))]);exact⟨rfl,Zb.dP HR (by decide) rfl y0⟩
 obtain rfl:=h0 C0;have J0:i<r.au.length:=by
  rcases aQ r.au n with h|h
  ·omega
  omega
 have HI:=Z hi;clear h0 a0 hi y0
 go_wp2_with fail
 refine⟨⟨e0,e1⟩,?_⟩;refine zi8 ?_
 go_wp2_with fail
 refine(v0 W1 l hl m0).mono ?_;rintro e W2 ⟨n0,h0,a0⟩;have i0:=Z (m0.below n0);have l0:=Qe W1 _ e0;have f0:=cT n0 l0 e0;have f1:=cT n0 l0 e1;clear e0 e1 n0;obtain⟨j,hj⟩:=J (aj r.au l);rw[<-hj]at h0 a0
 by_cases D0:0<=j
 case neg=>
  obtain rfl:=a0 (by omega);have HR:aX=(4,r):=(by rw[d0.out,G (.inr (by omega))]);exact⟨rfl,Zb.dP HR (by decide) rfl ⟨i0.bel,i0.fx⟩⟩
 obtain rfl:=h0 D0;have K0:j<r.au.length:=by
  rcases aQ r.au l with h|h
  ·omega
  omega
 have HR:Y (aX=(0,{r with aE:=r.aE++[i.toNat],aI:=r.aI++[j.toNat]})):=by
  show _=_;rw[d0.out,U (by rw[<-HI.out,<-hj];omega),<-HI.out,<-hj]
 have L0:=i0.ok.lv;have HP:Y (∃m',Zn lo base R Pb lm vm cm w0 (W2.setCell (O R (3+1+i.toNat*6+j.toNat)) (.bool true)) {r with aE:=r.aE++[i.toNat],aI:=r.aI++[j.toNat]} aq m'):=⟨_,i0.pair A0 i.toNat j.toNat (by omega) (by omega)⟩;have z0:Y (E 156 #[Pp R 3,I i,I j] W2 λe w'=>e=.returned (.tuple #[])/\w'=W2.setCell (O R (3+1+i.toNat*6+j.toNat)) (.bool true)):=by
  have:=ym7 R 3 i.toNat j.toNat _ W2 (by omega) (by omega) i0.cR.z (i0.cR.c (3+1+i.toNat*6+j.toNat) (by omega));rw[show ((i.toNat:Nat):Int)=i by omega,show ((j.toNat:Nat):Int)=j by omega]at this;exact this
 have g0:∀W,W=W2.setCell (O R (3+1+i.toNat*6+j.toNat)) (.bool true)->M W b off (Tq n)/\M W b (off+1) (Tq l):=λW hW=>by
  have hq:W.heap[b]?=W2.heap[b]?:=(by rw[hW];exact Zx _ _ _ _ _ (by omega));exact⟨cQ hq f0,cQ hq f1⟩
 have HG:=Z g0;clear h0 a0 hj g0
 go_wp2_with fail
 refine⟨⟨f0,f1⟩,?_⟩;refine zi8 ?_
 go_wp2_with fail
 refine z0.mono ?_;rintro e W3 ⟨rfl,t0⟩;have E0:=HG W3 t0
 have F0:Y (∃m',Zn lo base R Pb lm vm cm w0 W3 {r with aE:=r.aE++[i.toNat],aI:=r.aI++[j.toNat]} aq m'):=by rw[t0];exact HP
 clear t0 HP HG z0
 go_wp2_with fail
 refine⟨E0,?_⟩;refine yi6 ?_
 go_end0
 obtain⟨m',hm'⟩:=F0.out;exact Zb.fd HR rfl hm'
end
section
variable{aq:Int}{m:Ya}
structure ButAt(T base:Nat)(w':World)(r:RS)(m:Ya)(who':Nat->Nat):Prop where
 oc:T≠3->w'.ownsRow base 3 1 m.aB r.aW.length (Ym r.aW)/\∀b,m.aB.ownBlock=some b->who' b=3
 oh:T≠4->w'.ownsRow base 3 1 m.cS r.aV.length (Ym r.aV)/\∀b,m.cS.ownBlock=some b->who' b=4
 pb:T≠1->Ys 3 (λb=>who' b=0) base w' m.bv r.bK (Vh m.gs)/\∀b,m.bv.ownBlock=some b->who' b=1
 fa:(T<10\/10+3*r.fr.length<=T)->Vo who' base w' (3 - r.fr.length) [] r.fr m.gs
 oo:T≠2->w'.ownsRow base 276 1 m.ov r.fr.length ((m.gs.map λg=>ptr g.ob).reverse)/\∀b,m.ov.ownBlock=some b->who' b=2
 la:r.ag=true->∃Lb,m.pl=ptr Lb/\who' Lb=0/\Jo w' Lb r.au.length r.tab
def ztz.nS(h:ztz base w r m)(T:Nat)(hT:T≠0/\T≠5)(who':Nat->Nat)(q:∀b,m.aF b≠5->m.aF b≠T->who' b=m.aF b/\w'.heap[b]?=w.heap[b]?):ButAt T base w' r m who':=by
 have q0:∀b,m.aF b=0->who' b=0/\w'.heap[b]?=w.heap[b]?:=λb hb=>by
  have:=q b (by rw[hb];decide) (by rw[hb];exact Ne.symm hT.1);rw[hb]at this;exact this
 refine{oc:=λa0=>?_,oh:=λa0=>?_,pb:=λa0=>?_,fa:=λa0=>?_,oo:=λa0=>?_,la:=λhg=>?_}
 ·have q3:∀b,m.aB.ownBlock=some b->who' b=3/\w'.heap[b]?=w.heap[b]?:=λb hb=>by
   have:=q b (by rw[h.tc b hb];decide) (by rw[h.tc b hb];exact Ne.symm a0);rw[h.tc b hb]at this;exact this
  exact⟨Yy h.oc (λb hv=>(q3 b hv).2),λb hb=>(q3 b hb).1⟩
 ·have q3:∀b,m.cS.ownBlock=some b->who' b=4/\w'.heap[b]?=w.heap[b]?:=λb hb=>by
   have:=q b (by rw[h.th b hb];decide) (by rw[h.th b hb];exact Ne.symm a0);rw[h.th b hb]at this;exact this
  exact⟨Yy h.oh (λb hv=>(q3 b hv).2),λb hb=>(q3 b hb).1⟩
 ·have q3:∀b,m.bv.ownBlock=some b->who' b=1/\w'.heap[b]?=w.heap[b]?:=λb hb=>by
   have:=q b (by rw[h.tb b hb];decide) (by rw[h.tb b hb];exact Ne.symm a0);rw[h.tb b hb]at this;exact this
  exact⟨h.pb.kept (λb hb=>(q0 b hb).1) (λb hb=>(q0 b hb).2) (λb hv=>(q3 b hv).2),λb hb=>(q3 b hb).1⟩
 ·exact h.fa.kept (λb hb=>by
   rcases hb with hb|hb
   ·have:=q0 b hb;rw[hb];exact this
   exact q b (by omega) (by omega))
 ·have q3:∀b,m.ov.ownBlock=some b->who' b=2/\w'.heap[b]?=w.heap[b]?:=λb hb=>by
   have:=q b (by rw[h.to b hb];decide) (by rw[h.to b hb];exact Ne.symm a0);rw[h.to b hb]at this;exact this
  exact⟨Yy h.oo (λb hv=>(q3 b hv).2),λb hb=>(q3 b hb).1⟩
 obtain⟨Lb,l1,l2,l3⟩:=h.la hg;exact⟨Lb,l1,(q0 Lb l2).1,l3.block (q0 Lb l2).2⟩
def retag{aF:Nat->Nat}{T:Nat}{z z':Nat}(a0:∀b,aF b≠5->base<=b/\b<z)(hv:∀b,v.ownBlock=some b->aF b=T)(hT:T≠5)(hw:v'.ownBlock=v.ownBlock\/∃g,v'.ownBlock=some g/\z<=g)(b0:∀b,v'.ownBlock=some b->base<=b/\b<z')(hz:z<=z'):
  (∀b,(if v'.ownBlock=some b then T else aF b)≠5->base<=b/\b<z')/\(∀b,aF b≠5->aF b≠T->(if v'.ownBlock=some b then T else aF b)=aF b):=by
 refine⟨λb hb=>?_,λb h5 hbT=>?_⟩
 ·by_cases hv':v'.ownBlock=some b
  ·exact b0 b hv'
  rw[U hv']at hb;have:=a0 b hb;omega
 rw[U];intro hv';rcases hw with hw|⟨g,hg,c0⟩
 ·exact hbT (hv b (hw.symm.trans hv'))
 rw[hg]at hv';simp only[Ql]at hv';have:=a0 b h5;omega
def Zn.cell(h:Zn lo base R Pb lm vm cm w0 w r aq m)(hb:r.ag=false)(x:L)(lv:Nat)(e0:lv<r.au.length)(h0:r.cells.length<6)
  (hz:w.heap.size<=w'.heap.size) (hq:∀b,b<w.heap.size->b≠vm->b≠Pb->m.aB.ownBlock≠some b->w'.heap[b]?=w.heap[b]?) (d0:Below lo w0 w') (f0:Ze w' Pb 5 (rw_ [m.pl,v',m.cS,I r.ap.length,m.bv]))
  (g0:Yx w' vm ((r.cells++[x])++r.ap)) (c0:w'.ownsRow base 3 1 v' (r.aW.length+1) (Ym (r.aW++[lv]))) (hw:v'.ownBlock=m.aB.ownBlock\/∃g,v'.ownBlock=some g/\w.heap.size<=g):
  ∃m',Zn lo base R Pb lm vm cm w0 w' {r with cells:=r.cells++[x],aW:=r.aW++[lv]} aq m':=by
 obtain⟨b1,b2,b3,b4,b5,b6⟩:=h.bU;obtain⟨n1,n2,n3,n4,n5,n6,n7,n8,n9,n10⟩:=h.nd;obtain⟨i0,j0,k0,l0⟩:=h.ok.head hb
 have b0:∀b,b<base->m.aB.ownBlock≠some b:=λb m0 hv=>by have:=(h.re.oc.lt b hv).1;omega
 have ht:=retag h.re.wh h.re.tc (by decide) hw (λb hv=>⟨(c0.lt b hv).1,(c0.lt b hv).2⟩) hz;have a0:=h.re.nS 3 (by decide) (λb=>if v'.ownBlock=some b then 3 else m.aF b) (λb h5 h3=>⟨ht.2 b h5 h3,hq b (h.re.wh b h5).2 (by have:=h.re.wh b h5;omega) (by have:=h.re.wh b h5;omega) (λhv=>h3 (h.re.tc b hv))⟩);refine⟨{m with aB:=v',aF:=λb=>if v'.ownBlock=some b then 3 else m.aF b},?_⟩;refine{ok:= ?ok,bel:=d0,fx:=λb f1 f2 f3 f4 f5 f6=>(hq b (by omega) f5 f3 (b0 b f1)).trans (h.fx b f1 f2 f3 f4 f5 f6),bB:=h.bB,bU:=⟨b1,b2,b3,b4,b5,by omega⟩,nd:=h.nd,cR:= ?cR,cP:=f0,nl:=h.nl.block (hq _ (by omega) n8 (Ne.symm n5) (b0 _ b3)),nv:=g0,nc:=h.nc.block (hq _ (by omega) (Ne.symm n10) (Ne.symm n7) (b0 _ b5)),tab:=h.tab,re:= ?re}
 case ok=>
  exact{
      cn:=h.ok.cn,lv:=h.ok.lv,ce:=by simp;omega,ch:=h.ok.ch,lo:=h.ok.lo,st:=h.ok.st,fr:=h.ok.fr,cl:=by simp[h.ok.cl],hl:=h.ok.hl,cM:=h.ok.cM,cF:=h.ok.cF,head:=h.ok.head,below:=h.ok.below,aB:=λy hy=>by
       simp only[mem_append,mem_singleton]at hy;rcases hy with hy|rfl
       ·exact h.ok.aB y hy
       exact e0
      cS:=h.ok.cS,fh:=λhh=>by rw[show ({r with cells:=r.cells++[x],aW:=r.aW++[lv]}:RS).ag=r.ag from rfl,hb]at hh;cases hh}
 case cR=>
  refine(h.cR.block (hq _ (by omega) n3 n1 (b0 _ b1))).congr λk hk=>?_;exact(zuy Pb lm vm cm aq r {r with cells:=r.cells++[x],aW:=r.aW++[lv]} m {m with aB:=v',aF:=λb=>if v'.ownBlock=some b then 3 else m.aF b} k rfl rfl rfl rfl hk (λa b ha hb he=>rfl)).symm
 case re=>
  exact{wh:=ht.1,oc:=by simpa using c0,tc:=λb hv=>G hv,oh:=(a0.oh (by decide)).1,th:=(a0.oh (by decide)).2,pb:=(a0.pb (by decide)).1,tb:=(a0.pb (by decide)).2,fa:=a0.fa (.inl (by decide)),oo:=(a0.oo (by decide)).1,to:=(a0.oo (by decide)).2,la:=λhh=>by rw[show ({r with cells:=r.cells++[x],aW:=r.aW++[lv]}:RS).ag=r.ag from rfl,hb]at hh;cases hh}
def Zn.channel(h:Zn lo base R Pb lm vm cm w0 w r aq m)(hb:r.ag=false)(x:L)(lv:Nat)(e0:lv<r.au.length)(h0:r.ai.length<3)
  (hz:w.heap.size<=w'.heap.size) (hq:∀b,b<w.heap.size->b≠cm->b≠Pb->m.cS.ownBlock≠some b->w'.heap[b]?=w.heap[b]?) (d0:Below lo w0 w') (f0:Ze w' Pb 5 (rw_ [m.pl,m.aB,v',I r.ap.length,m.bv]))
  (g0:Yx w' cm (r.ai++[x])) (c0:w'.ownsRow base 3 1 v' (r.aV.length+1) (Ym (r.aV++[lv]))) (hw:v'.ownBlock=m.cS.ownBlock\/∃g,v'.ownBlock=some g/\w.heap.size<=g):
  ∃m',Zn lo base R Pb lm vm cm w0 w' {r with ai:=r.ai++[x],aV:=r.aV++[lv]} aq m':=by
 obtain⟨b1,b2,b3,b4,b5,b6⟩:=h.bU;obtain⟨n1,n2,n3,n4,n5,n6,n7,n8,n9,n10⟩:=h.nd
 have b0:∀b,b<base->m.cS.ownBlock≠some b:=λb i0 hv=>by have:=(h.re.oh.lt b hv).1;omega
 have ht:=retag h.re.wh h.re.th (by decide) hw (λb hv=>⟨(c0.lt b hv).1,(c0.lt b hv).2⟩) hz;have a0:=h.re.nS 4 (by decide) (λb=>if v'.ownBlock=some b then 4 else m.aF b) (λb h5 h3=>⟨ht.2 b h5 h3,hq b (h.re.wh b h5).2 (by have:=h.re.wh b h5;omega) (by have:=h.re.wh b h5;omega) (λhv=>h3 (h.re.th b hv))⟩);refine⟨{m with cS:=v',aF:=λb=>if v'.ownBlock=some b then 4 else m.aF b},?_⟩;refine{ok:= ?ok,bel:=d0,fx:=λb f1 f2 f3 f4 f5 f6=>(hq b (by omega) f6 f3 (b0 b f1)).trans (h.fx b f1 f2 f3 f4 f5 f6),bB:=h.bB,bU:=⟨b1,b2,b3,b4,b5,by omega⟩,nd:=h.nd,cR:= ?cR,cP:=f0,nl:=h.nl.block (hq _ (by omega) n9 (Ne.symm n5) (b0 _ b3)),nv:=h.nv.block (hq _ (by omega) n10 (Ne.symm n6) (b0 _ b4)),nc:=g0,tab:=h.tab,re:= ?re}
 case ok=>
  exact{
      cn:=h.ok.cn,lv:=h.ok.lv,ce:=h.ok.ce,ch:=by simp;omega,lo:=h.ok.lo,st:=h.ok.st,fr:=h.ok.fr,cl:=h.ok.cl,hl:=by simp[h.ok.hl],cM:=h.ok.cM,cF:=h.ok.cF,head:=h.ok.head,below:=h.ok.below,cS:=λy hy=>by
       simp only[mem_append,mem_singleton]at hy;rcases hy with hy|rfl
       ·exact h.ok.cS y hy
       exact e0
      aB:=h.ok.aB,fh:=λhh=>by rw[show ({r with ai:=r.ai++[x],aV:=r.aV++[lv]}:RS).ag=r.ag from rfl,hb]at hh;cases hh}
 case cR=>
  refine(h.cR.block (hq _ (by omega) n4 n1 (b0 _ b1))).congr λk hk=>?_;exact(zuy Pb lm vm cm aq r {r with ai:=r.ai++[x],aV:=r.aV++[lv]} m {m with cS:=v',aF:=λb=>if v'.ownBlock=some b then 4 else m.aF b} k rfl rfl rfl rfl hk (λa b ha hb he=>rfl)).symm
 case re=>
  exact{wh:=ht.1,oc:=(a0.oc (by decide)).1,tc:=(a0.oc (by decide)).2,oh:=by simpa using c0,th:=λb hv=>G hv,pb:=(a0.pb (by decide)).1,tb:=(a0.pb (by decide)).2,fa:=a0.fa (.inl (by decide)),oo:=(a0.oo (by decide)).1,to:=(a0.oo (by decide)).2,la:=λhh=>by rw[show ({r with ai:=r.ai++[x],aV:=r.aV++[lv]}:RS).ag=r.ag from rfl,hb]at hh;cases hh}
end
section
variable{aq:Int}{m:Ya}
def yvz(r:RS)(n l:L)(aq:Int)(w:World)(e:Ending)(w':World):Prop:=
 D w w'/\((0<=aj r.au l/\aj r.cells n<0/\aj r.ai n<0)->e=.returned (I (aj r.au l)))/\((aj r.au l<0\/0<=aj r.cells n\/0<=aj r.ai n)->e=.panicked (Za 4 aq))
def zl9(h:Zn lo base R Pb lm vm cm w0 w r aq m)(s0:r.ag=false)(b off cap:Nat)(n l:L)(hn:n.length<=100000)(hl:l.length<=100000)(t0:2<=cap)(j0:w.cell? (O b off)=some (Tq n))(k0:w.cell? (O b (off+1))=some (Tq l)):
  E 158 #[F R,Sq b off 2 cap] w (yvz r n l aq w):=by
 have c41:=h.cR.c 41 (by omega);have c42:=h.cR.c 42 (by omega);obtain⟨mx,tb,l0,g0,-⟩:=h.drew.nv.iw n hn;obtain⟨mx2,tb2,b0,c0,-⟩:=h.drew.drew.nc.iw n hn;rw[(h.ok.head s0).1,append_nil]at g0;have HH:=Z h;have m0:=Z g0;have d0:=Z c0;clear h g0 c0
 go_enter func158,ntmps158
 go_wp2_with fail
 refine wp_region_still_lit (by kernel_rfl) (by kernel_rfl) ?_
 iterate 7 still_step
 refine Vr rfl (.tuple #[I mx,.bool tb]) (zzw _ _ 156 rfl (.map (some vm)) (Tq n) _ rfl rfl l0) ?_
 iterate 5 still_step
 refine wpStill_nil ?_
 change Exit.then _ _ _ _ w.drew
 have u0:M w.drew b off (Tq n):=j0;have n0:M w.drew b (off+1) (Tq l):=k0;have d42:M w.drew R 42 (.map (some cm)):=c42;have HW:Y (Zn lo base R Pb lm vm cm w0 w.drew r aq m):=HH.drew;have o0:Y (D w w.drew):=dA;clear l0 j0 k0 c41 c42 HH;generalize w.drew=W at*
 go_wp2_with fail
 refine wp_region_still_lit (by kernel_rfl) (by kernel_rfl) ?_
 iterate 7 still_step
 refine Vr rfl (.tuple #[I mx2,.bool tb2]) (zzw _ _ 156 rfl (.map (some cm)) (Tq n) _ rfl rfl b0) ?_
 iterate 5 still_step
 refine wpStill_nil ?_
 change Exit.then _ _ _ _ W.drew
 have e1:M W.drew b (off+1) (Tq l):=n0;have e0:Y (Zn lo base R Pb lm vm cm w0 W.drew r aq m):=HW.drew;have f0:Y (D w W.drew):=o0.drew;clear b0 u0 n0 d42 HW o0;generalize W.drew=W2 at*;have y0:=f0.size;have v0:Y (E 157 #[F R,Tq l] W2 (zf9 r.au l aq W2)):=zpy R lm aq r.au l W2 hl e0.nl (e0.cR.c 40 (by omega)) (e0.cR.c 1 (by omega));have h0:Y (E 94 #[F R,.bool false,I 4] W2 λe w'=>e=.panicked (Za 4 aq)/\D W2 w'):=Yf R 4 aq W2 (e0.cR.c 1 (by omega));have p0:Y (E 94 #[F R,.bool true,I 4] W2 (Rq (.tuple #[]) W2)):=Xe R 4 W2
 cases tb with
 |true=>
  have h1:0<=aj r.cells n:=(by have:=m0.out;simpa using this)
  cases tb2
  all_goals
   go_wp2_with fail
   refine h0.mono ?_;rintro e w' ⟨rfl,hb'⟩;exact⟨rfl,f0.trans (hb'.mono (by omega)),λh=>by omega,λ_=>rfl⟩
 |false=>
  have h1:¬0<=aj r.cells n:=(by have:=m0.out;simpa using this)
  cases tb2 with
  |true=>
   have h2:0<=aj r.ai n:=(by have:=d0.out;simpa using this)
   go_wp2_with fail
   refine h0.mono ?_;rintro e w' ⟨rfl,hb'⟩;exact⟨rfl,f0.trans (hb'.mono (by omega)),λh=>by omega,λ_=>rfl⟩
  |false=>
   have h2:¬0<=aj r.ai n:=(by have:=d0.out;simpa using this)
   go_wp2_with fail
   refine p0.mono ?_;rintro e w' ⟨rfl,hw'⟩;rw[hw'];clear hw' p0 h0
   go_wp2_with fail
   refine v0.mono ?_;rintro e W3 ⟨q0,i0,a0⟩;have r0:=Z (f0.trans (q0.mono (by omega)));clear q0;obtain⟨j,hj⟩:=J (aj r.au l);rw[<-hj]at i0 a0;have HJ:=Z hj;clear hj
   by_cases x0:0<=j
   ·obtain rfl:=i0 x0
    clear i0 a0;go_wp2;go_ret;exact⟨r0,λ_=>by rw[<-HJ.out];rfl,λh=>by rw[<-HJ.out]at h;omega⟩
   obtain rfl:=a0 (by omega);exact⟨rfl,r0,λh=>by rw[<-HJ.out]at h;omega,λ_=>rfl⟩
end
section
variable{aq:Int}{m:Ya}
def Tryz.infoIntP:(Tryz.prog.info? 3).map (λi=>(i.zero,i.size,i.bytes))=some (some (I 0),1,8):=by kernel_rfl
def yc4(h:Zn lo base R Pb lm vm cm w0 w r aq m)(l0:r.ag=false)(B:Nat)(v:Value)(n l:L)(hB:B<=w.heap.size)(hw:Zi B w v [n,l])(N0:∀b,v.ownBlock=some b->base<=b/\m.aF b=5):
  E 130 #[F R,v] w (Zb lo base R Pb lm vm cm w0 aq (r.head [cV,n,l])):=by
 obtain⟨b,off,cap,rfl,y0,i1,j1,z0,a0⟩:=hw.one (by simp);obtain⟨l1,m1⟩:=N0 b rfl;have hn:n.length<=100000:=z0 n (by simp);have hl:l.length<=100000:=z0 l (by simp);have u0:M w b off (Tq n):=a0 0 (by simp);have O0:M w b (off+1) (Tq l):=a0 1 (by simp);obtain⟨aX,h0⟩:=J (r.head [cV,n,l]);rw[<-h0];have m0:Y (aX=if aj r.au l<0\/0<=aj r.cells n\/0<=aj r.ai n then(4,r) else if r.cells.length=6 then(5,r) else(0,{r with cells:=r.cells++[n],aW:=r.aW++[(aj r.au l).toNat]})):=by
  show _=_;rw[h0];simp[RS.head,cV,bY]
 have HH:=Z h;simp only[length_cons,length_nil,Nat.zero_add]at y0⊢;have P0:Y (E 158 #[F R,Sq b off 2 cap] w (yvz r n l aq w)):=zl9 h l0 b off cap n l hn hl (by omega) u0 O0;clear h hw z0 a0 h0 N0
 go_enter func130,ntmps130
 go_wp2_with fail
 refine P0.mono ?_;rintro e W ⟨A0,B0,j0⟩;have HW:Y (Zn lo base R Pb lm vm cm w0 W r aq m):=HH.below A0;have hbz:b<w.heap.size:=Qe w _ u0;have d0:M W b off (Tq n):=cT A0 hbz u0;clear u0 O0 A0 HH P0;obtain⟨j,hj⟩:=J (aj r.au l);have HJ:=Z hj;rw[<-hj]at B0 j0;clear hj
 by_cases v0:j<0\/0<=aj r.cells n\/0<=aj r.ai n
 ·obtain rfl:=j0 v0
  have HR:aX=(4,r):=(by rw[m0.out,<-HJ.out,G v0]);exact⟨rfl,Zb.dP HR (by decide) rfl ⟨HW.bel,HW.fx⟩⟩
 obtain rfl:=B0 (by omega)
 have Q0:Y (aX=if r.cells.length=6 then(5,r) else(0,{r with cells:=r.cells++[n],aW:=r.aW++[j.toNat]})):=by show _=_;rw[m0.out,<-HJ.out,U v0]
 have o1:0<=j:=by omega
 have q1:j<r.au.length:=by
  have:=HJ.out;rcases aQ r.au l with h|h<;>omega
 have V0:Y (aj (r.cells++r.ap) n<0):=by
  show _<_;rw[(HW.ok.head l0).1,append_nil];omega
 clear B0 j0 v0;have C0:=HW.ok.cl;have W0:=Z C0;have r1:=HW.ok.ce;have s1:=HW.ok.lv;obtain⟨ca,ccap,D0⟩:∃ca ccap,m.aB=A ca r.aW.length ccap:=by
  rcases HW.re.oc.2 with⟨h1,h2⟩|⟨g,cp,cur,h1,_⟩
  ·exact⟨none,0,by rw[h1,h2]⟩
  exact⟨_,cp,h1⟩
 have E0:=Z D0;have c0:M W R 0 (F Pb):=HW.cR.c 0 (by omega)
 have p1:W.cell? (O Pb 1)=some (A ca r.aW.length ccap):=by rw[<-D0];exact HW.cP.c 1 (by omega)
 have R0:Y (E 94 #[F R,.bool false,I 5] W λe w'=>e=.panicked (Za 5 aq)/\D W w'):=Yf R 5 aq W (HW.cR.c 1 (by omega));have S0:Y (E 94 #[F R,.bool true,I 5] W (Rq (.tuple #[]) W)):=Xe R 5 W;have bU:=HW.bU;have bB:=HW.bB;clear D0
 by_cases h6:r.cells.length=6
 ·have b6:¬(r.aW.length:Int)<6:=by omega
  have F0:Y (aX=(5,r)):=(by show _=_;rw[Q0.out,G h6]);clear C0
  go_wp2_with fail
  rw[show decide ((r.aW.length:Int)<6)=false from decide_eq_false (by omega)];refine R0.mono ?_;rintro e w' ⟨rfl,hb'⟩;exact⟨rfl,Zb.dP F0 (by decide) rfl (HW.gone hb')⟩
 have b6:(r.aW.length:Int)<6:=by omega
 have F0:Y (aX=(0,{r with cells:=r.cells++[n],aW:=r.aW++[j.toNat]})):=by show _=_;rw[Q0.out,U h6]
 clear C0
 go_wp2_with fail
 refine S0.mono ?_;rintro e w' ⟨rfl,hw'⟩;rw[hw'];clear hw' S0 R0;have c41:M W R 41 (.map (some vm)):=HW.cR.c 41 (by omega);obtain⟨W2,G0,H0,x0⟩:=HW.drew.nv.put n hn V0 (by have:=HW.ok.lo;simp;omega);rw[show (r.cells++r.ap).length=r.aW.length by rw[(HW.ok.head l0).1,append_nil,W0.out]]at G0;rw[show (r.cells++r.ap)++[n]=(r.cells++[n])++r.ap by rw[(HW.ok.head l0).1];simp]at H0;obtain⟨n1,n2,n3,n4,n5,n6,n7,n8,n9,n10⟩:=HW.nd;have t1:W.heap.size<=W2.heap.size:=x0.size;have q2:∀k,k<W.heap.size->k≠vm->W2.heap[k]?=W.heap[k]?:=λk hk I0=>x0.block k hk (by simpa using I0);have d0':M W2 R 0 (F Pb):=cQ (q2 R (by omega) n3) c0;have d1':M W2 Pb 1 (A ca r.aW.length ccap):=cQ (q2 Pb (by omega) n6) p1;have T0:=Z q2;have U0:=Z H0;have J0:Y (W2.ownsRow base 3 1 (A ca r.aW.length ccap) r.aW.length (Ym r.aW)):=by
  show ownsRow _ _ _ _ _ _ _;rw[<-E0.out];refine Yy HW.re.oc (λb' hb'=>q2 b' (HW.re.oc.lt b' hb').2 ?_);have:=(HW.re.oc.lt b' hb').1;omega
 have fP:∀j,W2.frozen? (O Pb j)=false:=λj=>fQ (q2 Pb (by omega) n6) (HW.cP.z j);have X0:Y (Below lo w0 W2):=HW.bel.drew.grown x0 (by have:=HW.bel.size;simp;omega) (λk hk=>by simp only[Ql]at hk;omega);clear x0 H0 q2
 go_wp2_with fail
 go_still_tail 15,(by kernel_rfl)
 clear p1 c0 d0 c41
 go_wp2_with fail
 refine Zd (λW=>M W R 0 (F Pb)/\M W Pb 1 (A ca r.aW.length ccap)) [12,13,14,15] [16] [] ⟨d0',d1'⟩ (by kernel_rfl) (λ_ _ _ _ h=>h) (λops hG=>?_);clear hG
 iterate 12 refine Zv rfl (by intros;go_simp<;>rfl) (by go_simp<;>rfl) ?_
 refine Zm ?_
 go_wp2_with fail
 obtain⟨W3,n0⟩:=J ((W2.alloc (.cells #[I j] 3)).drew);obtain⟨tb,K0⟩:=J (W2.heap.size)
 have o0:D W2 W3:=by rw[n0];exact(bA).drew
 have u1:W2.heap.size+1=W3.heap.size:=by rw[n0];simp
 have t0:∀i u,([I j]:Vs)[i]?=some u->W3.cell? (((O tb 0):Addr).add i)=some u:=by rw[n0,K0];exact Xo
 have e0:M W3 R 0 (F Pb):=cT o0 (by show R<_;omega) d0';have e1:M W3 Pb 1 (A ca r.aW.length ccap):=cT o0 (by show Pb<_;omega) d1';have L0:Y (W3.ownsRow base 3 1 (A ca r.aW.length ccap) r.aW.length (Ym r.aW)):=Yy J0 (λb hb=>o0.block b (J0.lt b hb).2);have p0:=Z o0;rw[<-n0,<-K0];clear n0 K0 o0 d0' d1' J0;refine⟨⟨e0,e1⟩,?_⟩;refine Zm ?_;obtain⟨i0,Y0,Z0,a1,b1⟩:=info_parts Tryz.infoIntP
 go_wp2_with (at_builtin;refine Ap underlying27 Y0 Z0 a1 b1 rfl L0 rfl [I j] rfl rfl t0 ?c2 ?c3 ?c4 ?c5 ?_)
 case c2=>intro u hu;simp at hu;subst hu;rfl
 case c3=>unfold maxLen;omega
 case c4=>omega
 case c5=>omega
 intro v' W4 b0 q0 r0;obtain⟨va,vcap,rfl⟩:∃va vcap,v'=A va (r.aW.length+1) vcap:=by
  rcases b0.2 with⟨h1,h2⟩|⟨g,cp,cur,h1,_⟩
  ·omega
  exact⟨_,cp,h1⟩
 have f0:∀k,(A ca r.aW.length ccap).ownBlock=some k->base<=k/\k<W2.heap.size+1:=λk hk=>by have:=L0.lt k hk;omega
 have s0:∀k,k<base->W4.heap[k]?=W3.heap[k]?:=λk hk=>q0.block k (by omega) (λhh=>by have:=(f0 k hh.symm).1;omega);have g0:M W4 R 0 (F Pb):=cQ (s0 R (by omega)) e0;have g1:M W4 Pb 1 (A ca r.aW.length ccap):=cQ (s0 Pb (by omega)) e1;have gz:∀j,W4.frozen? (O Pb j)=false:=λj=>fQ (s0 Pb (by omega)) ((p0.frozen (p:=(O Pb j)) (by show Pb<_;omega)).trans (fP j));have M0:Y (∃m',Zn lo base R Pb lm vm cm w0 (W4.setCell (O Pb 1) (A va (r.aW.length+1) vcap)) {r with cells:=r.cells++[n],aW:=r.aW++[j.toNat]} aq m'):=by
  have v1:(W4.setCell (O Pb 1) (A va (r.aW.length+1) vcap)).heap.size=W4.heap.size:=Zy _ _ _;have x1:=q0.size
  have aT:∀k,k<W.heap.size->k≠vm->(A ca r.aW.length ccap).ownBlock≠some k->W4.heap[k]?=W.heap[k]?:=λk hk hv I0=>
   (q0.block k (by omega) (λhh=>I0 hh.symm)).trans ((p0.block k (by omega)).trans (T0 k hk hv))
  refine HW.cell (v':=A va (r.aW.length+1) vcap) l0 n j.toNat (by omega) (by omega) (by omega) (λk hk hv hp hc=>?_) ?_ ?_ ?_ ?_ ?_
  ·rw[Zx _ _ _ _ _ hp]
   exact aT k hk hv (by rw[<-E0.out];exact hc)
  ·have c1:Below lo w0 W4:=(X0.trans (p0.mono (by omega))).grown q0 (by have:=HW.bel.size;omega) (λk hk=>by have:=(f0 k hk).1;omega)
   exact c1.setCell (by show lo<=Pb;omega) _
  ·have f1:=(HW.cP.block (w':=W4) (aT Pb (by omega) n6 (λhh=>by have:=(f0 Pb hh).1;omega))).set (j:=1) (by omega) (A va (r.aW.length+1) vcap)
   refine f1.congr λk hk=>?_;rcases(show k=0\/k=1\/k=2\/k=3\/k=4 by omega) with rfl|rfl|rfl|rfl|rfl<;>rfl
  ·refine(U0.block (w':=W4) ((s0 vm (by omega)).trans (p0.block vm (by omega)))).block (Zx _ _ _ _ _ (Ne.symm n6))
  ·have e1:Ym (r.aW++[j.toNat])=Ym r.aW++[I j]:=by simp[Ym];omega
   rw[e1];exact ownsRow_setCell_below b0 (by show Pb<base;omega) _
  rw[E0.out];rcases r0 with hh|hh
  ·exact .inl hh
  exact .inr ⟨_,hh,by omega⟩
 clear b0 q0 r0 s0 e0 e1 t0 L0 p0 U0 T0 f0 fP
 go_wp2_with fail
 refine⟨⟨g0,g1⟩,?_⟩;refine Zm ?_
 go_wp2_with fail
 refine⟨⟨g0,g1⟩,?_⟩;refine Zm ?_
 go_wp2_with fail
 refine⟨⟨g0,g1⟩,?_⟩;refine Xx ?_
 go_wp2_with fail
 refine Zs ?_
 go_end0
 obtain⟨m',hm'⟩:=M0.out;exact Zb.fd F0 rfl hm'
end
section
variable{aq:Int}{m:Ya}
def yr9(h:Zn lo base R Pb lm vm cm w0 w r aq m)(L0:r.ag=false)(B:Nat)(v:Value)(n l:L)(hB:B<=w.heap.size)(hw:Zi B w v [n,l])(M0:∀b,v.ownBlock=some b->base<=b/\m.aF b=5):
  E 131 #[F R,v] w (Zb lo base R Pb lm vm cm w0 aq (r.head [bz,n,l])):=by
 obtain⟨b,off,cap,rfl,x0,i1,j1,y0,a0⟩:=hw.one (by simp);obtain⟨l1,m1⟩:=M0 b rfl;have hn:n.length<=100000:=y0 n (by simp);have hl:l.length<=100000:=y0 l (by simp);have s0:M w b off (Tq n):=a0 0 (by simp);have N0:M w b (off+1) (Tq l):=a0 1 (by simp);obtain⟨aX,h0⟩:=J (r.head [bz,n,l]);rw[<-h0];have l0:Y (aX=if aj r.au l<0\/0<=aj r.cells n\/0<=aj r.ai n then(4,r) else if r.ai.length=3 then(5,r) else(0,{r with ai:=r.ai++[n],aV:=r.aV++[(aj r.au l).toNat]})):=by
  show _=_;rw[h0];simp[RS.head,bz,bY,cV]
 have HH:=Z h;simp only[length_cons,length_nil,Nat.zero_add]at x0⊢;have O0:Y (E 158 #[F R,Sq b off 2 cap] w (yvz r n l aq w)):=zl9 h L0 b off cap n l hn hl (by omega) s0 N0;clear h hw y0 a0 h0 M0
 go_enter func131,ntmps131
 go_wp2_with fail
 refine O0.mono ?_;rintro e W ⟨z0,A0,j0⟩;have HW:Y (Zn lo base R Pb lm vm cm w0 W r aq m):=HH.below z0;have hbz:b<w.heap.size:=Qe w _ s0;have d0:M W b off (Tq n):=cT z0 hbz s0;clear s0 N0 z0 HH O0;obtain⟨j,hj⟩:=J (aj r.au l);have HJ:=Z hj;rw[<-hj]at A0 j0;clear hj
 by_cases u0:j<0\/0<=aj r.cells n\/0<=aj r.ai n
 ·obtain rfl:=j0 u0
  have HR:aX=(4,r):=(by rw[l0.out,<-HJ.out,G u0]);exact⟨rfl,Zb.dP HR (by decide) rfl ⟨HW.bel,HW.fx⟩⟩
 obtain rfl:=A0 (by omega)
 have P0:Y (aX=if r.ai.length=3 then(5,r) else(0,{r with ai:=r.ai++[n],aV:=r.aV++[j.toNat]})):=by show _=_;rw[l0.out,<-HJ.out,U u0]
 have o1:0<=j:=by omega
 have q1:j<r.au.length:=by
  have:=HJ.out;rcases aQ r.au l with h|h<;>omega
 have V0:Y (aj r.ai n<0):=by
  show _<_;omega
 clear A0 j0 u0;have B0:=HW.ok.hl;have W0:=Z B0;have r1:=HW.ok.ch;have s1:=HW.ok.lv;obtain⟨ca,ccap,C0⟩:∃ca ccap,m.cS=A ca r.aV.length ccap:=by
  rcases HW.re.oh.2 with⟨h1,h2⟩|⟨g,cp,cur,h1,_⟩
  ·exact⟨none,0,by rw[h1,h2]⟩
  exact⟨_,cp,h1⟩
 have D0:=Z C0;have c0:M W R 0 (F Pb):=HW.cR.c 0 (by omega)
 have p1:W.cell? (O Pb 2)=some (A ca r.aV.length ccap):=by rw[<-C0];exact HW.cP.c 2 (by omega)
 have Q0:Y (E 94 #[F R,.bool false,I 5] W λe w'=>e=.panicked (Za 5 aq)/\D W w'):=Yf R 5 aq W (HW.cR.c 1 (by omega));have R0:Y (E 94 #[F R,.bool true,I 5] W (Rq (.tuple #[]) W)):=Xe R 5 W;have bU:=HW.bU;have bB:=HW.bB;clear C0
 by_cases h6:r.ai.length=3
 ·have b6:¬(r.aV.length:Int)<3:=by omega
  have E0:Y (aX=(5,r)):=(by show _=_;rw[P0.out,G h6]);clear B0
  go_wp2_with fail
  rw[show decide ((r.aV.length:Int)<3)=false from decide_eq_false (by omega)];refine Q0.mono ?_;rintro e w' ⟨rfl,hb'⟩;exact⟨rfl,Zb.dP E0 (by decide) rfl (HW.gone hb')⟩
 have b6:(r.aV.length:Int)<3:=by omega
 have E0:Y (aX=(0,{r with ai:=r.ai++[n],aV:=r.aV++[j.toNat]})):=by show _=_;rw[P0.out,U h6]
 clear B0
 go_wp2_with fail
 refine R0.mono ?_;rintro e w' ⟨rfl,hw'⟩;rw[hw'];clear hw' R0 Q0;have c41:M W R 42 (.map (some cm)):=HW.cR.c 42 (by omega);obtain⟨W2,F0,S0,v0⟩:=HW.drew.nc.put n hn V0 (by omega);rw[<-W0.out]at F0;obtain⟨n1,n2,n3,n4,n5,n6,n7,n8,n9,n10⟩:=HW.nd;have t1:W.heap.size<=W2.heap.size:=v0.size;have q2:∀k,k<W.heap.size->k≠cm->W2.heap[k]?=W.heap[k]?:=λk hk G0=>v0.block k hk (by simpa using G0);have d0':M W2 R 0 (F Pb):=cQ (q2 R (by omega) n4) c0;have d1':M W2 Pb 2 (A ca r.aV.length ccap):=cQ (q2 Pb (by omega) n7) p1;have T0:=Z q2;have U0:=Z S0;have H0:Y (W2.ownsRow base 3 1 (A ca r.aV.length ccap) r.aV.length (Ym r.aV)):=by
  show ownsRow _ _ _ _ _ _ _;rw[<-D0.out];refine Yy HW.re.oh (λb' hb'=>q2 b' (HW.re.oh.lt b' hb').2 ?_);have:=(HW.re.oh.lt b' hb').1;omega
 have fP:∀j,W2.frozen? (O Pb j)=false:=λj=>fQ (q2 Pb (by omega) n7) (HW.cP.z j);have X0:Y (Below lo w0 W2):=HW.bel.drew.grown v0 (by have:=HW.bel.size;simp;omega) (λk hk=>by simp only[Ql]at hk;omega);clear v0 S0 q2
 go_wp2_with fail
 go_still_tail 15,(by kernel_rfl)
 clear p1 c0 d0 c41
 go_wp2_with fail
 refine Zd (λW=>M W R 0 (F Pb)/\M W Pb 2 (A ca r.aV.length ccap)) [12,13,14,15] [16] [] ⟨d0',d1'⟩ (by kernel_rfl) (λ_ _ _ _ h=>h) (λops hG=>?_);clear hG
 iterate 12 refine Zv rfl (by intros;go_simp<;>rfl) (by go_simp<;>rfl) ?_
 refine Zm ?_
 go_wp2_with fail
 obtain⟨W3,m0⟩:=J ((W2.alloc (.cells #[I j] 3)).drew);obtain⟨tb,I0⟩:=J (W2.heap.size)
 have n0:D W2 W3:=by rw[m0];exact(bA).drew
 have u1:W2.heap.size+1=W3.heap.size:=by rw[m0];simp
 have t0:∀i u,([I j]:Vs)[i]?=some u->W3.cell? (((O tb 0):Addr).add i)=some u:=by rw[m0,I0];exact Xo
 have e0:M W3 R 0 (F Pb):=cT n0 (by show R<_;omega) d0';have e1:M W3 Pb 2 (A ca r.aV.length ccap):=cT n0 (by show Pb<_;omega) d1';have J0:Y (W3.ownsRow base 3 1 (A ca r.aV.length ccap) r.aV.length (Ym r.aV)):=Yy H0 (λb hb=>n0.block b (H0.lt b hb).2);have o0:=Z n0;rw[<-m0,<-I0];clear m0 I0 n0 d0' d1' H0;refine⟨⟨e0,e1⟩,?_⟩;refine Zm ?_;obtain⟨i0,Y0,Z0,a1,b1⟩:=info_parts Tryz.infoIntP
 go_wp2_with (at_builtin;refine Ap underlying27 Y0 Z0 a1 b1 rfl J0 rfl [I j] rfl rfl t0 ?c2 ?c3 ?c4 ?c5 ?_)
 case c2=>intro u hu;simp at hu;subst hu;rfl
 case c3=>unfold maxLen;omega
 case c4=>omega
 case c5=>omega
 intro v' W4 b0 p0 q0;obtain⟨va,vcap,rfl⟩:∃va vcap,v'=A va (r.aV.length+1) vcap:=by
  rcases b0.2 with⟨h1,h2⟩|⟨g,cp,cur,h1,_⟩
  ·omega
  exact⟨_,cp,h1⟩
 have f0:∀k,(A ca r.aV.length ccap).ownBlock=some k->base<=k/\k<W2.heap.size+1:=λk hk=>by have:=J0.lt k hk;omega
 have r0:∀k,k<base->W4.heap[k]?=W3.heap[k]?:=λk hk=>p0.block k (by omega) (λhh=>by have:=(f0 k hh.symm).1;omega);have g0:M W4 R 0 (F Pb):=cQ (r0 R (by omega)) e0;have g1:M W4 Pb 2 (A ca r.aV.length ccap):=cQ (r0 Pb (by omega)) e1;have gz:∀j,W4.frozen? (O Pb j)=false:=λj=>fQ (r0 Pb (by omega)) ((o0.frozen (p:=(O Pb j)) (by show Pb<_;omega)).trans (fP j));have K0:Y (∃m',Zn lo base R Pb lm vm cm w0 (W4.setCell (O Pb 2) (A va (r.aV.length+1) vcap)) {r with ai:=r.ai++[n],aV:=r.aV++[j.toNat]} aq m'):=by
  have v1:(W4.setCell (O Pb 2) (A va (r.aV.length+1) vcap)).heap.size=W4.heap.size:=Zy _ _ _;have x1:=p0.size
  have aT:∀k,k<W.heap.size->k≠cm->(A ca r.aV.length ccap).ownBlock≠some k->W4.heap[k]?=W.heap[k]?:=λk hk hv G0=>
   (p0.block k (by omega) (λhh=>G0 hh.symm)).trans ((o0.block k (by omega)).trans (T0 k hk hv))
  refine HW.channel (v':=A va (r.aV.length+1) vcap) L0 n j.toNat (by omega) (by omega) (by omega) (λk hk hv hp hc=>?_) ?_ ?_ ?_ ?_ ?_
  ·rw[Zx _ _ _ _ _ hp]
   exact aT k hk hv (by rw[<-D0.out];exact hc)
  ·have c1:Below lo w0 W4:=(X0.trans (o0.mono (by omega))).grown p0 (by have:=HW.bel.size;omega) (λk hk=>by have:=(f0 k hk).1;omega)
   exact c1.setCell (by show lo<=Pb;omega) _
  ·have f1:=(HW.cP.block (w':=W4) (aT Pb (by omega) n7 (λhh=>by have:=(f0 Pb hh).1;omega))).set (j:=2) (by omega) (A va (r.aV.length+1) vcap)
   refine f1.congr λk hk=>?_;rcases(show k=0\/k=1\/k=2\/k=3\/k=4 by omega) with rfl|rfl|rfl|rfl|rfl<;>rfl
  ·refine(U0.block (w':=W4) ((r0 cm (by omega)).trans (o0.block cm (by omega)))).block (Zx _ _ _ _ _ (Ne.symm n7))
  ·have e1:Ym (r.aV++[j.toNat])=Ym r.aV++[I j]:=by simp[Ym];omega
   rw[e1];exact ownsRow_setCell_below b0 (by show Pb<base;omega) _
  rw[D0.out];rcases q0 with hh|hh
  ·exact .inl hh
  exact .inr ⟨_,hh,by omega⟩
 clear b0 p0 q0 r0 e0 e1 t0 J0 o0 U0 T0 f0 fP
 go_wp2_with fail
 refine⟨⟨g0,g1⟩,?_⟩;refine Zm ?_
 go_wp2_with fail
 refine⟨⟨g0,g1⟩,?_⟩;refine Zm ?_
 go_wp2_with fail
 refine⟨⟨g0,g1⟩,?_⟩;refine Xx ?_
 go_wp2_with fail
 refine Zs ?_
 go_end0
 obtain⟨m',hm'⟩:=K0.out;exact Zb.fd E0 rfl hm'
end
def zw6(w:World)(b o:Nat)(t:Fl.cY):Prop:=∀i j,i<6->j<6->w.cell? (O b (o+i*6+j))=some (.bool (t i j))
structure Ve(w w':World)(b o n:Nat):Prop where
 g:w.grownBy w' (some b)
 s:w'.heap.size=w.heap.size
 c:∀j,j<o\/o+n<=j->w'.cell? (O b j)=w.cell? (O b j)
 z:∀j,w'.frozen? (O b j)=w.frozen? (O b j)
def Ve.refl(w:World)(b o n:Nat):Ve w w b o n:=⟨grownBy.refl _ _,rfl,λ_ _=>rfl,λ_=>rfl⟩
def Ve.trans{w w1 w2:World}{b o n:Nat}(h:Ve w w1 b o n)(k:Ve w1 w2 b o n):Ve w w2 b o n:=
 ⟨⟨k.g.os.trans h.g.os,k.g.tape.trans h.g.tape,k.g.output.trans h.g.output,Nat.le_trans h.g.size k.g.size,λi hi a0=>(k.g.block i (Qj hi h.g.size) a0).trans (h.g.block i hi a0)⟩,k.s.trans h.s,λj hj=>(k.c j hj).trans (h.c j hj),λj=>(k.z j).trans (h.z j)⟩
def Ve.set(w:World)(b o n j:Nat)(v:Value)(hj:o<=j/\j<o+n):Ve w (w.setCell (O b j) v) b o n:=
 ⟨⟨rfl,rfl,rfl,by rw[Zy];exact Nat.le_refl _,λi hi a0=>Zx _ _ _ _ _ (by simpa using a0)⟩,Zy _ _ _,λk hk=>Qg _ _ _ _ (by intro hh;injection hh with _ h2;omega),λk=>frozen?_setCell _ _ _ _⟩
def zw6.set(h:zw6 w b o t)(x y:Nat)(hx:x<6)(hy:y<6)(v:Bool):zw6 (w.setCell (O b (o+x*6+y)) (.bool v)) b o (λi j=>if i=x/\j=y then v else t i j):=by
 intro i j hi hj;show _=some (Value.bool (if i=x/\j=y then v else t i j))
 by_cases a0:i=x/\j=y
 ·obtain⟨rfl,rfl⟩:=a0
  rw[G ⟨rfl,rfl⟩];exact cell?_setCell_same' _ _ _ (by simp[h i j hi hj])
 rw[U a0];refine(Qg _ _ _ _ ?_).trans (h i j hi hj);intro hh;injection hh with _ h2;apply a0;omega
namespace Fl
def gZ(n:Nat)(t:cY):Nat:=((range n).map λi=>((range n).map λj=>if t i j then 0 else 1).sum).sum
def ir(l:List Nat)(f g:Nat->Nat)(h:∀x∈l,f x<=g x):(l.map f).sum<=(l.map g).sum:=by
 induction l with
 |nil=>simp
 |cons x r ih=>simp only[map_cons,sum_cons];have:=h x (by simp);have:=ih (λy hy=>h y (by simp[hy]));omega
def iq(l:List Nat)(f g:Nat->Nat)(h:∀x∈l,f x<=g x)(z:Nat)(hz:z∈l)(a0:f z<g z):(l.map f).sum<(l.map g).sum:=by
 induction l with
 |nil=>cases hz
 |cons x r ih=>
  simp only[map_cons,sum_cons];have h1:=h x (by simp);rcases mem_cons.1 hz with rfl|hz
  ·have:=ir r f g (λy hy=>h y (by simp[hy]));omega
  have:=ih (λy hy=>h y (by simp[hy])) hz;omega
def ka(n:Nat)(t:cY)(x y:Nat)(hx:x<n)(hy:y<n)(h:t x y=false):gZ n (λi j=>if i=x/\j=y then true else t i j)<gZ n t:=by
 unfold gZ;refine iq _ _ _ (λi _=>ir _ _ _ (λj _=>?_)) x (by simpa using hx) (iq _ _ _ (λj _=>?_) y (by simpa using hy) ?_)
 ·by_cases a0:i=x/\j=y
  ·simp[a0]
  simp[a0]
 ·by_cases a0:j=y
  ·simp[a0]
  simp[a0]
 simp[h]
end Fl
def isYes:Option Value->Bool
 |some (.bool b)=>b
 |_=>false
def za3(h:zw6 w b o t)(hn:n<=6):Fl.gZ n (λi j=>isYes (w.cell? (O b (o+i*6+j))))=Fl.gZ n t:=by
 unfold Fl.gZ
 congr 1
 apply map_congr_left
 intro i hi
 congr 1
 apply map_congr_left
 intro j hj;simp only[h i j (by simp at hi;omega) (by simp at hj;omega),isYes]
def yvy(b o n:Nat)(t:Fl.cY)(w:World)(hn:n<=6)(ht:zw6 w b o t)(hz:∀j,w.frozen? (O b j)=false):
  E 172 #[Pp b o,I n] w λe w'=>e=.returned (.tuple #[])/\Ve w w' b o 36/\∃t',zw6 w' b o t'/\(∀i j,i<n->j<n->t' i j=Fl.fw n t i j):=by
 have HT:=Z ht;have HZ:=Z hz;clear ht hz
 go_enter func172,ntmps172
 obtain⟨Qw,hJ⟩:=J (α:=Act->World->Prop) (λa' w'=>∃(t':Fl.cY),(∃(u2 u3 u4 u5 u6 u7 u8 u9 u10 u11 u12 u13 u14 u15 u16 u17 u18 u19 u20 u21 u22 u23 u24 u25 u26 u27 u28 u29 u30 u31 u32 u33 u34 u35 u36 u37 u38 u39 u40 u41 u42 u43 u44 u45 u46 u47 u48 u49 u50 u51 u52 u53:Value),a'={tmps:=#[Pp b o,I n,u2,u3,u4,u5,u6,u7,u8,u9,u10,u11,u12,u13,u14,u15,u16,u17,u18,u19,u20,u21,u22,u23,u24,u25,u26,u27,u28,u29,u30,u31,u32,u33,u34,u35,u36,u37,u38,u39,u40,u41,u42,u43,u44,u45,u46,u47,u48,u49,u50,u51,u52,u53],defers:=[]})/\Ve w w' b o 36/\zw6 w' b o t'/\(∀i j,t i j=true->t' i j=true)/\(∀i j,i<n->j<n->t' i j=true->Fl.fw n t i j=true));obtain⟨μ,hμ⟩:=J (α:=Act->World->Nat) (λa' w'=>Fl.gZ n (λi j=>isYes (w'.cell? (O b (o+i*6+j)))));have HJ:=Z hJ;have y0:=Z hμ;refine zdz 0 Qw μ ?_ ?_
 ·rw[hJ];exact⟨t,⟨_,_,_,_,_,_,_,_,_,_,_,_,_,_,_,_,_,_,_,_,_,_,_,_,_,_,_,_,_,_,_,_,_,_,_,_,_,_,_,_,_,_,_,_,_,_,_,_,_,_,_,_,rfl⟩,Ve.refl _ _ _ _,HT,λ_ _ h=>h,λi j _ _ h=>kF _ _ _ _ h⟩
 intro a' W p0;rw[hJ]at p0;obtain⟨t',⟨u2,u3,u4,u5,u6,u7,u8,u9,u10,u11,u12,u13,u14,u15,u16,u17,u18,u19,u20,u21,u22,u23,u24,u25,u26,u27,u28,u29,u30,u31,u32,u33,u34,u35,u36,u37,u38,u39,u40,u41,u42,u43,u44,u45,u46,u47,u48,u49,u50,u51,u52,u53,rfl⟩,hs,hT',i0,j0⟩:=p0;have HS:=Z hs;have h0:=Z hT';have k0:=Z i0;have b0:=Z j0
 have L0:(n:Int)<=6:=by omega
 clear hs hT' i0 j0 hJ hμ
 go_wp2_with fail
 go_loopw [8] (λi wr=>wr=W/\∃k:Nat,k<=n/\i=I k/\∀x y z,x<k->y<n->z<n->t' x y=true->t' y z=true->t' x z=true) (λi _=>n - (intOf i).toNat)
 case atStart=>exact⟨rfl,0,by omega,rfl,λx y z hx=>by omega⟩
 case round=>
  obtain⟨f0,k1,M0,rfl,q0⟩:=hrel;have r0:=Z q0;rw[f0];clear q0 f0 wr
  by_cases l0:k1<n
  ·have z0:(k1:Int)<(n:Int):=by omega
   go_wp2_with fail
   go_loopw [12] (λi wr2=>wr2=W/\∃k:Nat,k<=n/\i=I k/\∀y z,y<k->z<n->t' k1 y=true->t' y z=true->t' k1 z=true) (λi _=>n - (intOf i).toNat)
   case atStart=>exact⟨rfl,0,by omega,rfl,λy z hy=>by omega⟩
   case round=>
    obtain⟨f0,k2,N0,rfl,s0⟩:=hrel;have t0:=Z s0;rw[f0];clear s0 f0 wr
    by_cases g0:k2<n
    ·have A0:(k2:Int)<(n:Int):=by omega
     go_wp2_with fail
     go_loopw [16] (λi wr3=>wr3=W/\∃k:Nat,k<=n/\i=I k/\∀z,z<k->t' k1 k2=true->t' k2 z=true->t' k1 z=true) (λi _=>n - (intOf i).toNat)
     case atStart=>exact⟨rfl,0,by omega,rfl,λz hz=>by omega⟩
     case round=>
      obtain⟨f0,k3,O0,rfl,u0⟩:=hrel;have v0:=Z u0;rw[f0];clear u0 f0 wr
      by_cases m0:k3<n
      ·have B0:(k3:Int)<(n:Int):=by omega
       have q12:=h0 k1 k2 (by omega) (by omega);have q23:=h0 k2 k3 (by omega) (by omega);have q13:=h0 k1 k3 (by omega) (by omega);have qz:∀j,W.frozen? (O b j)=false:=λj=>(HS.z j).trans (HZ j);obtain⟨x12,c0⟩:∃x,x=t' k1 k2:=⟨_,rfl⟩;obtain⟨x23,d0⟩:∃x,x=t' k2 k3:=⟨_,rfl⟩;obtain⟨x13,e0⟩:∃x,x=t' k1 k3:=⟨_,rfl⟩;rw[<-c0]at q12;rw[<-d0]at q23;rw[<-e0]at q13;have C0:=Z c0;have D0:=Z d0;have E0:=Z e0
       have F0:Y ((x12=true->x23=true->x13=true)->∀z,z<k3+1->t' k1 k2=true->t' k2 z=true->t' k1 z=true):=λh z hz h1 h2=>by
        by_cases G0:z=k3
        ·subst G0;rw[<-e0];exact h (by rw[c0];exact h1) (by rw[d0];exact h2)
        exact v0 z (by omega) h1 h2
       clear c0 d0 e0
       cases x12<;>cases x23<;>cases x13
       case true.true.false=>
        have H0:Y (∀a',(∃(u2 u3 u4 u5 u6 u7 u8 u9 u10 u11 u12 u13 u14 u15 u16 u17 u18 u19 u20 u21 u22 u23 u24 u25 u26 u27 u28 u29 u30 u31 u32 u33 u34 u35 u36 u37 u38 u39 u40 u41 u42 u43 u44 u45 u46 u47 u48 u49 u50 u51 u52 u53:Value),a'={tmps:=#[Pp b o,I n,u2,u3,u4,u5,u6,u7,u8,u9,u10,u11,u12,u13,u14,u15,u16,u17,u18,u19,u20,u21,u22,u23,u24,u25,u26,u27,u28,u29,u30,u31,u32,u33,u34,u35,u36,u37,u38,u39,u40,u41,u42,u43,u44,u45,u46,u47,u48,u49,u50,u51,u52,u53],defers:=[]})->∀a0,Qw a' (W.setCell (O b (o+k1*6+k3)) (.bool true))/\μ a' (W.setCell (O b (o+k1*6+k3)) (.bool true))<μ a0 W):=λa' ha' a0=>by
         have x0:=h0.set k1 k3 (by omega) (by omega) true;refine⟨?_,?_⟩
         ·rw[HJ.out]
          refine⟨_,ha',HS.trans (Ve.set _ _ _ _ _ _ (by omega)),x0,λi j h=>?_,λi j hi hj h=>?_⟩
          ·show (if i=k1/\j=k3 then true else t' i j)=true
           split
           ·rfl
           exact k0 i j h
          have h':=h
          by_cases n0:i=k1/\j=k3
          ·rw[n0.1,n0.2]
           exact hH _ _ k2 _ _ g0 (b0 _ _ l0 g0 C0.symm) (b0 _ _ g0 m0 D0.symm)
          rw[U n0]at h';exact b0 i j hi hj h'
         rw[y0.out];show Fl.gZ n _<Fl.gZ n _;rw[za3 x0 hn,za3 h0 hn];exact Fl.ka n t' k1 k3 l0 m0 E0.symm
        go_wp2_with fail
        go_step3
        exact⟨rfl,H0 _ ⟨_,_,_,_,_,_,_,_,_,_,_,_,_,_,_,_,_,_,_,_,_,_,_,_,_,_,_,_,_,_,_,_,_,_,_,_,_,_,_,_,_,_,_,_,_,_,_,_,_,_,_,_,rfl⟩ _⟩
       all_goals
        have I0:=Z (F0 (by decide));go_wp2
        go_roundw
        case rel=>exact⟨by first|rfl|trivial,k3+1,by omega,by go_num,I0⟩
        case measure=>simp[intOf];omega
      have B0:¬(k3:Int)<(n:Int):=(by omega);go_wp2
      go_roundw
      case rel=>
       refine⟨by first|rfl|trivial,k2+1,by omega,by go_num,λy z hy hz h1 h2=>?_⟩
       by_cases J0:y=k2
       ·subst J0;exact v0 z (by omega) h1 h2
       exact t0 y z (by omega) hz h1 h2
      case measure=>simp[intOf];omega
    have A0:¬(k2:Int)<(n:Int):=(by omega);go_wp2
    go_roundw
    case rel=>
     refine⟨by first|rfl|trivial,k1+1,by omega,by go_num,λx y z hx hy hz h1 h2=>?_⟩
     by_cases K0:x=k1
     ·subst K0;exact t0 y z (by omega) hz h1 h2
     exact r0 x y z (by omega) hy hz h1 h2
    case measure=>simp[intOf];omega
  have z0:¬(k1:Int)<(n:Int):=(by omega);have o0:=Z (kq n t t' (λa b c ha hb hc h1 h2=>r0 a b c (by omega) hb hc h1 h2) (λi j _ _ h=>k0 i j h) b0.out)
  go_wp2_with fail
  simp only[Exit.jump]
  go_end0
  exact⟨rfl,HS,t',h0,o0⟩
def ym9(h:t a k=false):cO n t a b k=false:=by simp[cO,h]
def ymz(h:t b k=false):cO n t a b k=false:=by simp[cO,h]
def ymy{j:Nat}(hj:j<n)(h1:t a j=true)(h2:t b j=true)(h3:t k j=false):cO n t a b k=false:=by
 rw[Bool.eq_false_iff];intro h;have:=((dD n t a b k).1 h).2.2 j hj h1 h2
 rw[h3]at this;cases this
def za4(n a b:Nat)(t:Fl.cY)(f:FuncId)(cap:Array Value)(w:World)(hn:n<=6)(ha:a<n)(hb:b<n)(B0:∀args W,(callFunc f args).run prog W=.ok (.enter f args) W)
  (hf:∀x y:Nat,x<n->y<n->E f (#[I x,I y]++cap) w (Rq (.bool (t x y)) w)):
  E 183 #[I n,I a,I b,.func (.func f) #[] cap] w (Rq (I (join n t a b)) w):=by
 have HF:=Z hf
 have C0:(n:Int)<=6:=by omega
 clear hf
 go_enter func183,ntmps183
 go_wp2_with fail
 go_step3
 go_wp2_with fail
 go_step3
 go_wp2_with fail
 go_loopw [12] (λi wr=>wr=w/\∃k:Nat,k<=n/\i=I k/\∀j,j<k->cO n t a b j=false) (λi _=>n - (intOf i).toNat)
 case atStart=>exact⟨rfl,0,by omega,rfl,λj hj=>by omega⟩
 case round=>
  obtain⟨b0,k,hk,rfl,hc⟩:=hrel;have HC:=Z hc;rw[b0];clear hc b0 wr
  by_cases c0:k<n
  ·have hI:(k:Int)<(n:Int):=by omega
   have h0:Y (cO n t a b k=false->∀j,j<k+1->cO n t a b j=false):=λh j hj=>by
    by_cases u0:j=k
    ·subst u0;exact h
    exact HC j (by omega)
   obtain⟨xa,i0⟩:∃x,x=t a k:=⟨_,rfl⟩;obtain⟨xb,j0⟩:∃x,x=t b k:=⟨_,rfl⟩;have n0:=Z i0;have o0:=Z j0;have k0:=HF a k ha c0;have l0:=HF b k hb c0;rw[<-i0]at k0;rw[<-j0]at l0;have HCA':=k0;have HCB':=l0;clear i0 j0 k0 l0
   go_wp2_with fail
   refine Calls.mono HCA' ?_;rintro e w1 ⟨rfl,a0⟩;rw[a0];clear a0 HCA'
   cases xa with
   |false=>
    have HN:=Z (h0 (ym9 n0.symm));go_wp2
    go_roundw
    case rel=>exact⟨by first|rfl|trivial,k+1,by omega,by go_num,HN⟩
    case measure=>simp[intOf];omega
   |true=>
    go_wp2_with fail
    refine Calls.mono HCB' ?_;rintro e w1 ⟨rfl,a0⟩;rw[a0];clear a0 HCB'
    cases xb with
    |false=>
     have HN:=Z (h0 (ymz o0.symm));go_wp2
     go_roundw
     case rel=>exact⟨by first|rfl|trivial,k+1,by omega,by go_num,HN⟩
     case measure=>simp[intOf];omega
    |true=>
     go_wp2_with fail
     go_loopw [28] (λi wr=>wr=w/\∃d:Nat,d<=n/\i=I d/\∀j,j<d->t a j=true->t b j=true->t k j=true) (λi _=>n - (intOf i).toNat)
     case atStart=>exact⟨rfl,0,by omega,rfl,λj hj=>by omega⟩
     case round=>
      obtain⟨b0,d,hd,rfl,p0⟩:=hrel;have q0:=Z p0;rw[b0];clear p0 b0 wr
      by_cases d0:d<n
      ·have v0:(d:Int)<(n:Int):=by omega
       obtain⟨ya,e0⟩:∃x,x=t a d:=⟨_,rfl⟩;obtain⟨yb,f0⟩:∃x,x=t b d:=⟨_,rfl⟩;obtain⟨yc,g0⟩:∃x,x=t k d:=⟨_,rfl⟩;have C1:=HF a d ha d0;have C2:=HF b d hb d0;have C3:=HF k d c0 d0;rw[<-e0]at C1;rw[<-f0]at C2;rw[<-g0]at C3;have r0:=Z C1;have s0:=Z C2;have t0:=Z C3;have x0:=Z e0;have y0:=Z f0;have z0:=Z g0
       have m0:Y ((ya=true->yb=true->yc=true)->∀j,j<d+1->t a j=true->t b j=true->t k j=true):=λh j hj h1 h2=>by
        by_cases A0:j=d
        ·subst A0;rw[<-g0];exact h (by rw[e0];exact h1) (by rw[f0];exact h2)
        exact q0 j (by omega) h1 h2
       clear C1 C2 C3 e0 f0 g0
       go_wp2_with fail
       refine Calls.mono r0 ?_;rintro e w1 ⟨rfl,a0⟩;rw[a0];clear a0 r0
       cases ya with
       |false=>
        have HN:=Z (m0 (by simp));go_wp2
        go_roundw
        case rel=>exact⟨by first|rfl|trivial,d+1,by omega,by go_num,HN⟩
        case measure=>simp[intOf];omega
       |true=>
        go_wp2_with fail
        refine Calls.mono s0 ?_;rintro e w1 ⟨rfl,a0⟩;rw[a0];clear a0 s0
        cases yb with
        |false=>
         have HN:=Z (m0 (by simp));go_wp2
         go_roundw
         case rel=>exact⟨by first|rfl|trivial,d+1,by omega,by go_num,HN⟩
         case measure=>simp[intOf];omega
        |true=>
         go_wp2_with fail
         refine Calls.mono t0 ?_;rintro e w1 ⟨rfl,a0⟩;rw[a0];clear a0 t0
         cases yc with
         |true=>
          have HN:=Z (m0 (by simp));go_wp2
          go_roundw
          case rel=>exact⟨by first|rfl|trivial,d+1,by omega,by go_num,HN⟩
          case measure=>simp[intOf];omega
         |false=>
          have HN:=Z (h0 (ymy d0 x0.symm y0.symm z0.symm));go_wp2;exact⟨⟨by first|rfl|trivial,k+1,by omega,by go_num,HN⟩,by simp[intOf];omega⟩
      have v0:¬(d:Int)<(n:Int):=(by omega);have HJ:Y (join n t a b=(k:Int)):=gt c0 ((dD n t a b k).2 ⟨n0.symm,o0.symm,λj hj h1 h2=>q0 j (by omega) h1 h2⟩) HC.out
      go_wp2_with fail
      go_ret;exact⟨by rw[HJ.out];rfl,rfl⟩
  have hI:¬(k:Int)<(n:Int):=(by omega);have HJ:Y (join n t a b= -1):=gL (λj hj=>HC j (by omega))
  go_wp2_with fail
  go_ret;exact⟨by rw[HJ.out];rfl,rfl⟩
structure Xg(w w':World)(b o n:Nat):Prop where
 g:w.grownBy w' (some b)
 c:∀j,j<o\/o+n<=j->w'.cell? (O b j)=w.cell? (O b j)
 z:∀j,w'.frozen? (O b j)=w.frozen? (O b j)
def Xg.refl(w:World)(b o n:Nat):Xg w w b o n:=⟨grownBy.refl _ _,λ_ _=>rfl,λ_=>rfl⟩
def Xg.trans{w w1 w2:World}{b o n:Nat}(h:Xg w w1 b o n)(k:Xg w1 w2 b o n):Xg w w2 b o n:=
 ⟨⟨k.g.os.trans h.g.os,k.g.tape.trans h.g.tape,k.g.output.trans h.g.output,Nat.le_trans h.g.size k.g.size,λi hi a0=>(k.g.block i (Qj hi h.g.size) a0).trans (h.g.block i hi a0)⟩,λj hj=>(k.c j hj).trans (h.c j hj),λj=>(k.z j).trans (h.z j)⟩
def Xg.set(w:World)(b o n j:Nat)(v:Value)(hj:o<=j/\j<o+n):Xg w (w.setCell (O b j) v) b o n:=
 ⟨(Ve.set w b o n j v hj).g,(Ve.set w b o n j v hj).c,(Ve.set w b o n j v hj).z⟩
def Xg.alloc{w:World}{b o n:Nat}(x:Obj)(hb:b<w.heap.size):Xg w (w.alloc x) b o n:=
 have hq:=((Below.refl w.heap.size w).alloc lE x).block b hb
 ⟨grownBy_alloc _ _ _,λj _=>Qc hq,λj=>Qd hq⟩
def Xg.block{w w':World}{b o n:Nat}(h:Xg w w' b o n)(k:Nat)(hk:k<w.heap.size)(a0:k≠b):w'.heap[k]?=w.heap[k]?:=h.g.block k hk (by simpa using a0)
def ymx(cb Lb x y:Nat)(b:Bool)(w:World)(hx:x<6)(hy:y<6)(hc:w.cell? (O cb 0)=some (F Lb))(ht:w.cell? (O Lb (1+x*6+y))=some (.bool b)):
  E 181 #[I x,I y,F cb] w (Rq (.bool b) w):=by
 have a0:(x:Int)<6:=by omega
 have b0:(y:Int)<6:=by omega
 go_enter func181,ntmps181
 go_wp2;go_ret;exact⟨rfl,rfl⟩
def yvx(cb Lb x y:Nat)(b:Bool)(w:World)(hx:x<6)(hy:y<6)(hc:w.cell? (O cb 0)=some (F Lb))(ht:w.cell? (O Lb (1+y*6+x))=some (.bool b)):
  E 182 #[I x,I y,F cb] w (Rq (.bool b) w):=by
 have a0:(x:Int)<6:=by omega
 have b0:(y:Int)<6:=by omega
 go_enter func182,ntmps182
 go_wp2;go_ret;exact⟨rfl,rfl⟩
def yvw(n:Nat)(t:Fl.cY)(i j:Nat):bR n t i j=(!((i !=j) && t i j && t j i) && (!decide (join n t i j<0) && !decide (fW n t i j<0))):=by
 unfold bR
 congr 2
 ·simp only[<-decide_not];congr 1;simp
 simp only[<-decide_not];congr 1;simp
def FjEnds(Lb n:Nat)(t:Fl.cY)(w:World)(e:Ending)(w':World):Prop:=
 Xg w w' Lb 37 36/\((e=.returned (.bool true)/\∀i j,i<n->j<n->bR n t i j=true/\w'.cell? (O Lb (37+i*6+j))=some (I (join n t i j)))\/(e=.returned (.bool false)/\∃i j,i<n/\j<n/\bR n t i j=false))
structure zr0(Lb n:Nat)(t:Fl.cY)(w:World)(k1 k2:Nat)(wr:World):Prop where
 tu:Xg w wr Lb 37 36
 cb:wr.cell? (O w.heap.size 0)=some (F Lb)
 ex:∀k,37<=k->k<73->∃v,wr.cell? (O Lb k)=some v
 dn:∀i j,(i<k1/\j<n)\/(i=k1/\j<k2)->bR n t i j=true/\wr.cell? (O Lb (37+i*6+j))=some (I (join n t i j))
def zr0.next{k2:Nat}(h:zr0 Lb n t w k1 k2 wr)(hL:Lb<w.heap.size)(hn:n<=6)(h1:k1<n)(h2:k2<n)(hp:bR n t k1 k2=true):zr0 Lb n t w k1 (k2+1) (wr.setCell (O Lb (37+k1*6+k2)) (I (join n t k1 k2))):=by
 obtain⟨v,hv⟩:=h.ex (37+k1*6+k2) (by omega) (by omega);refine⟨h.tu.trans (Xg.set _ _ _ _ _ _ (by omega)),?_,λk hk b0=>?_,λi j hij=>?_⟩
 ·refine(Qg _ _ _ _ ?_).trans h.cb
  intro hh;injection hh with h3;omega
 ·by_cases a0:k=37+k1*6+k2
  ·exact⟨_,by rw[a0];exact cell?_setCell_same' _ _ _ (by simp[hv])⟩
  obtain⟨u,hu⟩:=h.ex k hk b0;exact⟨u,(Qg _ _ _ _ (by intro hh;injection hh with _ h3;exact a0 (by omega))).trans hu⟩
 by_cases he:i=k1/\j=k2
 ·obtain⟨rfl,rfl⟩:=he
  exact⟨hp,cell?_setCell_same' _ _ _ (by simp[hv])⟩
 have hd:=h.dn i j (by omega);refine⟨hd.1,(Qg _ _ _ _ ?_).trans hd.2⟩;intro hh;injection hh with _ h3;apply he;omega
def zr0.row(h:zr0 Lb n t w k1 n wr):zr0 Lb n t w (k1+1) 0 wr:=⟨h.tu,h.cb,h.ex,λi j a0=>h.dn i j (by omega)⟩
def yy9(Lb n:Nat)(t:Fl.cY)(w:World)(hn:n<=6)(j0:w.cell? (O Lb 0)=some (I n))(ht:zw6 w Lb 1 t)(hj:∀k,37<=k->k<73->∃v,w.cell? (O Lb k)=some v)(hz:∀j,w.frozen? (O Lb j)=false):
  E 173 #[F Lb] w (FjEnds Lb n t w):=by
 have E0:∀(fn:Fn) (first cap:Array Value) (w:World),(Instr.makeFunc fn first cap).run prog w=.ok (.func fn first cap) w:=λ_ _ _ _=>rfl;have k0:=Qe w _ j0;have HT:=Z ht;have HJ:=Z hj;have HZ:=Z hz;have r0:=Z j0
 have F0:(n:Int)<=6:=by omega
 have c0:∀o,M (w.alloc o) Lb 0 (I n):=λo=>(Qf _ _ _ k0).trans j0;clear ht hj hz j0
 go_enter func173,ntmps173
 go_wp2_with fail
 go_step3
 go_wp2_with fail
 go_step3
 go_wp2_with fail
 clear c0
 go_loopw [5,17] (λv i wr=>v=.bool true/\∃k:Nat,k<=n/\i=I k/\zr0 Lb n t w k 0 wr) (λ_ i _=>n - (intOf i).toNat)
 case atStart=>exact⟨rfl,0,by omega,rfl,Xg.alloc _ k0,cell?_alloc_new _ _ _ _,λk hk s0=>(by obtain⟨v,hv⟩:=HJ k hk s0;exact⟨v,(Qf _ _ _ k0).trans hv⟩),λi j hij=>by omega⟩
 case round=>
  obtain⟨rfl,k1,G0,rfl,t0⟩:=hrel;have g0:=Z t0;clear t0
  by_cases a0:k1<n
  ·have z0:(k1:Int)<(n:Int):=by omega
   have cb1:=g0.cb;have c01:=(g0.tu.c 0 (by omega)).trans r0.out
   go_wp2_with fail
   clear cb1 c01;obtain⟨wo,A0⟩:=J (wr);subst A0
   go_loopw [5,24] (λv i wr2=>v=.bool true/\∃k:Nat,k<=n/\i=I k/\zr0 Lb n t w k1 k wr2) (λ_ i _=>n - (intOf i).toNat)
   case atStart=>exact⟨rfl,0,by omega,rfl,g0⟩
   case round=>
    obtain⟨rfl,k2,s0,rfl,u0⟩:=hrel;have d0:=Z u0;clear u0
    by_cases b0:k2<n
    ·have B0:(k2:Int)<(n:Int):=by omega
     have cb2:=d0.cb;have c02:=(d0.tu.c 0 (by omega)).trans r0.out;have l0:Y (∀i j,i<6->j<6->M wr Lb (1+i*6+j) (.bool (t i j))):=λi j hi hj=>(d0.tu.c (1+i*6+j) (by omega)).trans (HT i j hi hj);have q12:=l0 k1 k2 (by omega) (by omega);have q21:=l0 k2 k1 (by omega) (by omega)
     have m0:Y (E 183 #[I n,I k1,I k2,.func (.func 181) #[] #[F w.heap.size]] wr (Rq (I (join n t k1 k2)) wr)):=
      za4 n k1 k2 t 181 #[F w.heap.size] wr hn a0 b0 (λargs W=>by kernel_rfl) (λx y hx hy=>ymx w.heap.size Lb x y (t x y) wr (by omega) (by omega) cb2 (l0 x y (by omega) (by omega)))
     have n0:Y (E 183 #[I n,I k1,I k2,.func (.func 182) #[] #[F w.heap.size]] wr (Rq (I (fW n t k1 k2)) wr)):=
      za4 n k1 k2 (λi j=>t j i) 182 #[F w.heap.size] wr hn a0 b0 (λargs W=>by kernel_rfl) (λx y hx hy=>yvx w.heap.size Lb x y (t y x) wr (by omega) (by omega) cb2 (l0 y x (by omega) (by omega)))
     obtain⟨jn,h0⟩:=J (join n t k1 k2);obtain⟨mt,o0⟩:=J (fW n t k1 k2);obtain⟨x12,e0⟩:∃x,x=t k1 k2:=⟨_,rfl⟩;obtain⟨x21,f0⟩:∃x,x=t k2 k1:=⟨_,rfl⟩;rw[<-h0]at m0;rw[<-o0]at n0;rw[<-e0]at q12;rw[<-f0]at q21;have hP:=yvw n t k1 k2;rw[<-h0,<-o0,<-e0,<-f0]at hP;have HP:=Z hP;have H0:=Z h0;obtain⟨ve,I0⟩:=d0.ex (37+k1*6+k2) (by omega) (by omega);have J0:∀j,wr.frozen? (O Lb j)=false:=λj=>(d0.tu.z j).trans (HZ j)
     have C0:Y (bR n t k1 k2=true->zr0 Lb n t w k1 (k2+1) (wr.setCell (O Lb (37+k1*6+k2)) (I jn))):=λhp=>by rw[h0];exact d0.next k0 hn a0 b0 hp
     clear hP h0 o0 e0 f0;obtain⟨p0,q0⟩|⟨p0,q0⟩:(((k1:Int) !=(k2:Int))=false/\(k1 !=k2)=false)\/(((k1:Int) !=(k2:Int))=true/\(k1 !=k2)=true):=by
      by_cases h:k1=k2
      ·left;rw[h];simp
      right;exact⟨bne_iff_ne.2 (by omega),bne_iff_ne.2 h⟩
     all_goals
      have v0:=Z q0;clear q0
     rotate_left
     cases x12
     rotate_left
     cases x21
     rotate_left
     all_goals
      go_wp2_with fail
      refine m0.mono ?_;rintro e w1 ⟨rfl,i0⟩;rw[i0];clear i0 w1
      go_wp2_with fail
      refine n0.mono ?_;rintro e w1 ⟨rfl,i0⟩;rw[i0];clear i0 w1 m0 n0
     ·have HB:Y (bR n t k1 k2=false):=by show _=_;rw[HP.out];rw[v0.out];rfl
      go_wp2_with fail
      try rw[Exit.noGoto_ret]
      go_ret;exact⟨d0.tu,.inr ⟨rfl,k1,k2,a0,b0,HB⟩⟩
     all_goals
      by_cases x0:jn<0
      ·have HB:Y (bR n t k1 k2=false):=by show _=_;rw[HP.out];simp[x0]
       go_wp2_with fail
       try rw[Exit.noGoto_ret]
       go_ret;exact⟨d0.tu,.inr ⟨rfl,k1,k2,a0,b0,HB⟩⟩
      by_cases y0:mt<0
      ·have HB:Y (bR n t k1 k2=false):=by show _=_;rw[HP.out];simp[y0]
       go_wp2_with fail
       try rw[Exit.noGoto_ret]
       go_ret;exact⟨d0.tu,.inr ⟨rfl,k1,k2,a0,b0,HB⟩⟩
      have HG:=Z (C0 (by rw[HP.out,v0.out];simp[x0,y0]));go_wp2
      go_roundw
      case rel=>exact⟨by first|rfl|trivial,k2+1,by omega,by go_num,HG⟩
      case measure=>simp[intOf];omega
    have B0:¬(k2:Int)<(n:Int):=(by omega)
    obtain rfl:k2=n:=by omega
    have D0:=Z d0.row;go_wp2
    go_roundw
    case rel=>exact⟨by first|rfl|trivial,k1+1,by omega,by go_num,D0⟩
    case measure=>simp[intOf];omega
  have z0:¬(k1:Int)<(n:Int):=(by omega)
  go_wp2_with fail
  try rw[Exit.noGoto_ret]
  go_ret;exact⟨g0.tu,.inl ⟨rfl,λi j hi hj=>g0.dn i j (.inl ⟨by omega,hj⟩)⟩⟩
def zc3(Lb n:Nat)(t:Fl.cY)(w:World)(hn:n<=6)(i0:0<n)(j0:w.cell? (O Lb 0)=some (I n))(ht:zw6 w Lb 1 t)(hl:w.cell? (O Lb 73)=some (I 0))(hz:∀j,w.frozen? (O Lb j)=false):
  E 174 #[F Lb] w λe w'=>e=.returned (.tuple #[])/\Xg w w' Lb 73 1/\w'.cell? (O Lb 73)=some (I (Fl.dk t n)):=by
 have HT:=Z ht;have HZ:=Z hz
 have n0:(n:Int)<=6:=by omega
 have HL:=Z hl;clear ht hz hl
 go_enter func174,ntmps174
 go_wp2_with fail
 clear j0
 go_loopw [7] (λi wr=>∃k:Nat,k<=n/\i=I k/\Xg w wr Lb 73 1/\M wr Lb 73 (I (Fl.dk t k))) (λi _=>n - (intOf i).toNat)
 case atStart=>exact⟨0,by omega,rfl,Xg.refl _ _ _ _,HL⟩
 case round=>
  obtain⟨k,hk,rfl,d0,bB⟩:=hrel;have a0:=Z d0;clear d0
  by_cases o0:k<n
  ·have hI:(k:Int)<(n:Int):=by omega
   have k0:=Fl.eD t i0 k (by omega);have q:=(a0.c (1+k*6+Fl.dk t k) (by omega)).trans (HT k (Fl.dk t k) (by omega) (by omega));have hz':∀j,wr.frozen? (O Lb j)=false:=λj=>(a0.z j).trans (HZ j);obtain⟨lo,hlo'⟩:∃lo,lo=Fl.dk t k:=⟨_,rfl⟩;rw[<-hlo']at bB k0 q;have b0:Fl.dk t (k+1)=if t k lo then k else lo:=(by rw[hlo'];rfl);have e0:=Z b0;obtain⟨xk,c0⟩:∃x,x=t k lo:=⟨_,rfl⟩;rw[<-c0]at q;have f0:=Z c0;have l0:(lo:Int)<6:=(by omega);have m0:(k:Int)<6:=(by omega);clear b0 hlo' c0
   go_wp2_with fail
   refine wp_region_still_lit (by kernel_rfl) (by kernel_rfl) ?_
   iterate 11 still_step
   refine wpStill_nil ?_
   change Exit.then _ _ _ _ wr.drew
   have g0:M wr.drew Lb 73 (I lo):=bB;have h0:Y (Xg w wr.drew Lb 73 1):=⟨⟨a0.g.os,a0.g.tape,a0.g.output,a0.g.size,a0.g.block⟩,a0.c,a0.z⟩;have p0:∀j,wr.drew.frozen? (O Lb j)=false:=hz';clear bB q hz' a0;generalize wr.drew=W at*
   cases xk with
   |true=>
    have HN:Y (Fl.dk t (k+1)=k):=(by show _=_;rw[e0.out,<-f0.out];rfl);have HS:Y (Xg w (W.setCell (O Lb 73) (I k)) Lb 73 1/\M (W.setCell (O Lb 73) (I k)) Lb 73 (I k)):=⟨h0.trans (Xg.set _ _ _ _ _ _ (by omega)),cell?_setCell_same' _ _ _ (by simp[g0])⟩;go_wp2
    go_roundw
    case rel=>exact⟨k+1,by omega,by go_num,HS.1,by rw[HN.out];exact HS.2⟩
    case measure=>simp[intOf];omega
   |false=>
    have HN:Y (Fl.dk t (k+1)=lo):=(by show _=_;rw[e0.out,<-f0.out];rfl);go_wp2
    go_roundw
    case rel=>exact⟨k+1,by omega,by go_num,h0,by rw[HN.out];exact g0⟩
    case measure=>simp[intOf];omega
  obtain rfl:k=n:=by omega
  have hI:¬(k:Int)<(k:Int):=(by omega)
  go_wp2_with fail
  go_end0
  exact⟨rfl,a0,bB⟩
def zlz(t:Fl.cY):Vs:=(range 36).map λk=> .bool (t (k / 6) (k % 6))
def yo0(t:Fl.cY)(i j:Nat)(hi:i<6)(hj:j<6):(zlz t)[i*6+j]?=some (.bool (t i j)):=by
 have e1:(i*6+j) / 6=i:=by omega
 have e2:(i*6+j) % 6=j:=by omega
 unfold zlz;rw[getElem?_map,getElem?_range (by omega)];simp only[Option.map_some,e1,e2]
def zn2(n:Nat)(t:Fl.cY):Vs:=[I n]++zlz t++replicate 36 (I 0)++[I 0]
def zh4(w:World)(g o:Nat)(ty:TypeId)(cs:Vs)(d:TypeDesc)(hc:∀j v,cs[j]?=some v->w.cell? (O g (o+j))=some v)
  (hu:P.underlying ty=some d) (hd:(match d with| .struct _| .array _ _=>true|_=>false)=true) (hi:(P.info? ty).map (·.size)=some cs.length):
  (Instr.loadAt ty (Pp g o)).run P w=.ok (.agg cs.toArray) w:=by
 have hl:(loadCells (O g o) cs.length).run P w=.ok cs.toArray w:=
  run_loadCells_list w (O g o) cs (λj v hv=>by
   have a0:((O g o):Addr).add j=(O g (o+j)):=by unfold Addr.add;split<;>simp_all
   rw[a0];exact hc j v hv)
 cases hq:P.info? ty with
 |none=>simp[hq]at hi
 |some i=>
  have hs:i.size=cs.length:=(by simpa [hq] using hi);have b0:(isAgg ty).run P w=.ok true w:=by
   unfold isAgg;rw[Sem.run_bind,run_underlying hu w]
   cases d<;>simp_all
  simp only[Instr.loadAt,Instr.sureAddr,Sem.run_bind,Sem.run_pure,Result.andThen];unfold loadVar;simp[Sem.run_bind,b0,sizeOf,typeInfo,hq,hs,hl,Result.andThen]
def Tryz.infoTab:(Tryz.prog.info? 159).map (·.size)=some 36:=by kernel_rfl
def zh5(t:Fl.cY):(zlz t).length=36:=by simp[zlz]
def yh9(n:Nat)(t:Fl.cY)(w:World):(Instr.build 254 #[(0,.int .i64 n),(1,.agg (zlz t).toArray)]).run prog w=.ok (.agg (zn2 n t).toArray) w:=by kernel_rfl
def ymw(n:Nat)(t:Fl.cY):(zn2 n t)[0]?=some (.int .i64 n)/\(∀i j,i<6->j<6->(zn2 n t)[1+i*6+j]?=some (.bool (t i j)))/\(∀k,37<=k->k<73->∃v,(zn2 n t)[k]?=some v)/\(zn2 n t)[73]?=some (.int .i64 0):=by
 have hl:=zh5 t;refine⟨rfl,λi j hi hj=>?_,λk hk hk2=>?_,?_⟩
 ·unfold zn2
  rw[append_assoc,append_assoc,singleton_append,Nat.add_assoc,Nat.add_comm 1,getElem?_cons_succ,getElem?_append_left (by omega)];exact yo0 t i j hi hj
 ·have:k<(zn2 n t).length:=by simp[zn2,hl];omega
  exact⟨_,Qb this⟩
 rfl
def zfz{o:Oper}{a:Act}(x:Operand)(ty:TypeId)(ho:o.op=.load ty x)(g q:Nat)(hx:a.eval x=.pointer (some ⟨g,q,none⟩))(cs:List Value)(d:TypeDesc)(hc:∀j v,cs[j]?=some v->w.cell? ⟨g,q+j,none⟩=some v)
  (hu:P.underlying ty=some d) (hd:(match d with| .struct _| .array _ _=>true|_=>false)=true) (hi:(P.info? ty).map (·.size)=some cs.length):(execOp a.eval o).run P w=.ok (.value (.agg cs.toArray)) w:=by
 unfold execOp;simp only[ho,Sem.run_bind,hx,zh4 w g q ty cs d hc hu hd hi,Result.andThen_ok,Sem.run_pure]
def zn3{o:Oper}{a:Act}(t:TypeId)(parts:Array (Nat×Operand))(ho:o.op=.build t parts)(arr:Array Value)(vals:Array (Nat×Value))(hv:(parts.map λ(i,x)=>(i,a.eval x))=vals)
  (ed:(Instr.build t vals).run P w=.ok (.agg arr) w):(execOp a.eval o).run P w=.ok (.value (.agg arr)) w:=by
 unfold execOp;simp only[ho,Sem.run_bind,hv,ed,Result.andThen_ok,Sem.run_pure]
namespace Fl
def jo(n:Nat)(t r:cY)(h:∀i j,i<n->j<n->t i j=r i j):∀k,k<=n->∀i j,i<n->j<n->fw k t i j=fw k r i j
 |0,_,i,j,hi,hj=>h i j hi hj
 |k+1,hk,i,j,hi,hj=>by
  have ih:=jo n t r h k (by omega);simp only[fw,eK,ih i j hi hj,ih i k hi (by omega),ih k j (by omega) hj]
def gI(n:Nat)(t r:cY)(hn:0<n)(h:∀i j,i<n->j<n->t i j=r i j):∀k,k<=n->dk t k=dk r k
 |0,_=>rfl
 |k+1,hk=>by
  have ih:=gI n t r hn h k (by omega);simp only[dk,ih,h k (dk r k) (by omega) (eD r hn k (by omega))]
end Fl
def LtEnds(n:Nat)(t:Fl.cY)(w:World)(e:Ending)(w':World):Prop:=
 Below w.heap.size w w'/\((bp n (Fl.fw n t)=true/\e=.returned (.tuple #[ptr w.heap.size,.bool true])/\w.heap.size<w'.heap.size/\∀r:Fl.cY,(∀i j,i<n->j<n->Fl.fw n t i j=r i j)->kD n r->Jo w' w.heap.size n r)\/(bp n (Fl.fw n t)=false/\e=.returned (.tuple #[.pointer none,.bool false])))
def zp1(h:Below lo w0 w)(hg:w.grownBy w' (some b))(hb:lo<=b)(hz:lo<=w.heap.size):Below lo w0 w':=
 h.grown hg hz (λk hk=>by simp only[Option.some.injEq]at hk;omega)
def yrz(R n:Nat)(t:Fl.cY)(w:World)(hn:n<=6)(c3:w.cell? ⟨R,3,none⟩=some (.int .i64 n))(ht:zw6 w R 4 t):
  Calls prog 159 #[.pointer (some ⟨R,3,none⟩)] w (LtEnds n t w):=by
 have HT:=Z ht;have D0:=Qe w _ c3
 have E0:∀j v,(zlz t)[j]?=some v->w.drew.cell? ⟨R,4+j,none⟩=some v:=λj v hv=>by
  have hj:j<36:=(by rw[<-zh5 t];exact(List.getElem?_eq_some_iff.1 hv).1);have h1:=yo0 t (j / 6) (j % 6) (by omega) (by omega);rw[show j / 6*6+j % 6=j by omega]at h1;rw[h1]at hv;simp only[Option.some.injEq]at hv;have h2:=ht (j / 6) (j % 6) (by omega) (by omega);rw[show 4+j / 6*6+j % 6=4+j by omega,hv]at h2;exact h2
 have t0:=Z E0;obtain⟨tl,r0⟩:=J (zlz t);obtain⟨ll,u0⟩:=J (zn2 n t)
 have F0:Y (∀W:World,(Instr.build 254 #[(0,.int .i64 n),(1,.agg tl.toArray)]).run prog W=.ok (.agg ll.toArray) W):=λW=>by rw[r0,u0];exact yh9 n t W
 have G0:=Z r0;have H0:=Z u0;rw[<-r0]at t0;clear ht E0 r0 u0
 go_enter func159,ntmps159
 go_wp2_with fail
 refine wp_region_still_tail 9 (by kernel_rfl) (by kernel_rfl) ?_;simp only[take_succ_cons,take_zero,drop_succ_cons,drop_zero]
 iterate 7 still_step
 refine Vr rfl (.agg tl.toArray) (zfz _ 159 rfl R 4 rfl tl _ t0.out underlying159 rfl (by rw[G0.out,zh5];exact Tryz.infoTab)) ?_;refine Vr rfl (.agg ll.toArray) (zn3 254 _ rfl ll.toArray _ (by kernel_rfl) (F0 _)) ?_;refine wpStill_nil ?_
 go_wp2_with fail
 obtain⟨W,hW⟩:=J ((w.alloc (.cells ll.toArray 254)).drew);obtain⟨Lb,h0⟩:=J (w.heap.size)
 have hB:Below w.heap.size w W:=by rw[hW];exact(bA).drew
 have i0:∀k v,ll[k]?=some v->W.cell? ⟨Lb,k,none⟩=some v:=λk v hv=>by
  rw[hW,h0];show (w.alloc (.cells ll.toArray 254)).cell? _=_;rw[cell?_alloc_new];simpa using hv
 have v0:∀k,W.frozen? ⟨Lb,k,none⟩=false:=λk=>by
  rw[hW,h0];show (w.alloc (.cells ll.toArray 254)).frozen? _=_;rw[frozen?,heap_alloc_new];simp
 have cD:W.heap.size=w.heap.size+1:=by rw[hW];simp
 obtain⟨k0,k1,k2,k3⟩:=ymw n t;rw[<-H0.out]at k0 k1 k2 k3;have I0:Y (zw6 W Lb 1 t):=λi j hi hj=>i0 _ _ (k1 i j hi hj);have a0:=i0 _ _ k0
 have J0:Y (∀k,37<=k->k<73->∃v,W.cell? ⟨Lb,k,none⟩=some v):=λk hk x0=>by obtain⟨v,hv⟩:=k2 k hk x0;exact⟨v,i0 _ _ hv⟩
 have j0:=Z (i0 _ _ k3);have K0:=Z v0;have HB:=Z hB;have d3:=(hB.cell (p:=⟨R,3,none⟩) D0).trans c3;have L0:=Z a0;have e0:=Z h0
 have hsz':W.heap.size=Lb+1:=by omega
 have M0:=Z hsz';have N0:=Z (yvy Lb 1 n t W.drew hn I0 v0);rw[<-hW,<-h0];clear hW h0 hB i0 v0 cD hsz' k0 k1 k2 k3 c3 D0 F0 t0 G0 H0 HT;refine wp_region_still_tail 7 (by kernel_rfl) (by kernel_rfl) ?_;simp only[take_succ_cons,take_zero,drop_succ_cons,drop_zero]
 iterate 7 still_step
 refine wpStill_nil ?_;clear d3 a0
 go_wp2_with fail
 refine N0.mono ?_;rintro e W2 ⟨rfl,f0,t',ht',y0⟩;have V0:=Z f0;have O0:=Z ht';have W0:=Z y0;have b0:=(f0.c 0 (by omega)).trans L0.out;have P0:Y (Below w.heap.size w W2):=by
  refine zp1 HB.drew f0.g (by rw[e0.out];exact Nat.le_refl _) ?_;have:=M0.out;have:=e0.out;simp;omega
 have Q0:Y (∀k,W2.frozen? ⟨Lb,k,none⟩=false):=λk=>(f0.z k).trans (K0 k);have X0:=Z ((f0.c 73 (by omega)).trans j0.out)
 have Y0:Y (∀k,37<=k->k<73->∃v,W2.cell? ⟨Lb,k,none⟩=some v):=λk hk x0=>by obtain⟨v,hv⟩:=J0 k hk x0;exact⟨v,(f0.c k (by omega)).trans hv⟩
 have Z0:Y (W2.heap.size=Lb+1):=by show _=_;rw[f0.s];exact M0
 have l0:=Z (fA y0);clear f0 ht' y0 N0 V0 I0 J0 j0 K0 L0
 by_cases z0:n=0
 ·have b1:((n:Int)==0)=true:=by rw[z0];rfl
  have A0:Y (bp n (Fl.fw n t)=false):=(by show _=_;rw[z0];rfl);clear z0;go_wp2
  go_ret2
  exact⟨P0,.inr ⟨A0,rfl⟩⟩
 have b1:((n:Int)==0)=false:=by rw[Qh];omega
 have B0:0<n:=by omega
 have R0:=Z (yy9 Lb n t' W2 hn b0 O0 Y0 Q0.out);have a1:=Z b0
 go_wp2_with fail
 refine R0.mono ?_;rintro e W3 ⟨g0,m0⟩;have S0:Y (Below w.heap.size w W3):=by
  refine zp1 P0 g0.g (by rw[e0.out];exact Nat.le_refl _) ?_;have:=Z0.out;have:=e0.out;omega
 clear b0 R0;rcases m0 with⟨rfl,aT⟩|⟨rfl,i,j,hi,hj,n0⟩
 ·have c1:Y (bp n (Fl.fw n t)=true):=by
   show _=_;rw[<-l0.out];exact(ew n t').2 ⟨B0,λi j hi hj=>(aT i j hi hj).1⟩
  have o0:Y (zw6 W3 Lb 1 t'):=λi j hi hj=>(g0.c (1+i*6+j) (by omega)).trans (O0 i j hi hj);have s0:=(g0.c 0 (by omega)).trans a1.out;have T0:Y (∀k,W3.frozen? ⟨Lb,k,none⟩=false):=λk=>(g0.z k).trans (Q0 k);have d1:Y (∀i j,i<n->j<n->W3.cell? ⟨Lb,37+i*6+j,none⟩=some (.int .i64 (join n t' i j))):=λi j hi hj=>(aT i j hi hj).2;have U0:=Z (zc3 Lb n t' W3 hn B0 s0 o0 ((g0.c 73 (by omega)).trans X0) T0.out);have e1:=Z s0;have f1:=Qe W3 _ s0;clear g0 aT s0
  go_wp2_with fail
  refine U0.mono ?_;rintro e W4 ⟨rfl,c0,p0⟩;have q0:Y (Below w.heap.size w W4/\w.heap.size<W4.heap.size/\∀r:Fl.cY,(∀i j,i<n->j<n->Fl.fw n t i j=r i j)->kD n r->Jo W4 w.heap.size n r):=by
   rw[<-e0.out];refine⟨?_,by have:=c0.g.size;omega,λr hr C0=>?_⟩
   ·rw[e0.out]
    exact zp1 S0 c0.g (by rw[e0.out];exact Nat.le_refl _) (by have:=e0.out;omega)
   have d0:∀i j,i<n->j<n->t' i j=r i j:=λi j hi hj=>(W0 i j hi hj).trans (hr i j hi hj);refine⟨λj=>(c0.z j).trans (T0 j),(c0.c 0 (by omega)).trans e1,λi j hi hj=>?_,λi j hi hj=>?_,?_⟩
   ·rw[<-d0 i j hi hj,show 1+6*i+j=1+i*6+j by omega]
    exact(c0.c _ (by omega)).trans (o0 i j (by omega) (by omega))
   ·rw[<-ix d0 hi hj,show 37+6*i+j=37+i*6+j by omega]
    exact(c0.c _ (by omega)).trans (d1 i j hi hj)
   rw[p0,Fl.gI n t' r B0 d0 n (Nat.le_refl _),gi C0]
  clear c0 p0 U0;go_wp2
  go_ret2
  exact⟨q0.1,.inl ⟨c1,by rw[<-e0.out];rfl,q0.2⟩⟩
 have A0:Y (bp n (Fl.fw n t)=false):=by
  show _=_;rw[<-l0.out,Bool.eq_false_iff];intro h;have:=((ew n t').1 h).2 i j hi hj
  rw[n0]at this;cases this
 clear g0 n0;go_wp2
 go_ret2
 exact⟨S0,.inr ⟨A0,rfl⟩⟩
end Go.Proofs.YtgmbnnpnefniiaaGreatDoor
