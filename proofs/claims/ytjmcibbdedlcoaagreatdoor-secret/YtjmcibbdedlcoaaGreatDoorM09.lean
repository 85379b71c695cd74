import Derived.Test.YtjmcibbdedlcoaaGreatDoorM05
set_option linter.all false
set_option maxRecDepth 100000
set_option maxHeartbeats 40000000
namespace Go.Proofs.YtjmcibbdedlcoaaGreatDoor
open Go.RowKit Go.Proofs.Tryz List World Fl
variable{lo base R Pb lm vm cm n b o a k Lb k1:Nat}{w0 w w' wr:World}{r r':RS}{e:Ending}{v v':Value}{t:Fl.cG}{P:Program}
def yi0(b o:Nat)(n:Int)(w:World)(h:w.cell? (Y b o)=some (I n)):F 150 #[Pp b o] w (Rq (I n) w):=by
 go_enter func150,ntmps150
 go_wp2;go_ret;exact⟨rfl,rfl⟩
def add_any(b o n:Nat)(v:Value)(w:World)(hn:n<6)(h:w.cell? (Y b o)=some (I n))(hz:∀j,w.frozen? (Y b j)=false)(hc:w.cell? (Y b (o+1+n*6+n))=some v):F 151 #[Pp b o] w λe w'=>e=.returned (I n)/\w'=(w.setCell (Y b (o+1+n*6+n)) (.bool true)).setCell (Y b o) (I (n+1)):=by
 go_enter func151,ntmps151
 have a0:(w.setCell (Y b (o+1+n*6+n)) (.bool true)).cell? (Y b o)=some (I n):=by
  refine(Qg _ _ _ _ ?_).trans h;intro hh;injection hh with _ h2;omega
 go_wp2;go_ret;exact⟨rfl,rfl⟩
def ynz(b o i j:Nat)(v:Value)(w:World)(hi:i<6)(hj:j<6)(hz:∀j,w.frozen? (Y b j)=false)(hc:w.cell? (Y b (o+1+i*6+j))=some v):F 152 #[Pp b o,I i,I j] w λe w'=>e=.returned (.tuple #[])/\w'=w.setCell (Y b (o+1+i*6+j)) (.bool true):=by
 have a0:(i:Int)<6:=by omega
 have b0:(j:Int)<6:=by omega
 go_enter func152,ntmps152
 go_wp2
 go_end0
 exact⟨rfl,rfl⟩
def ze2(names:List K)(x:K)(ap:Int)(w:World)(e:Ending)(w':World):Prop:=
 E w w'/\(0<=ai names x->e=.returned (I (ai names x)))/\(ai names x<0->e=.panicked (Zf 4 ap))
def zo4(R lm:Nat)(ap:Int)(names:List K)(x:K)(w:World)(hx:x.length<=100000)(hm:Yy w lm names)(c40:w.cell? (Y R 40)=some (.map (some lm)))(c1:w.cell? (Y R 1)=some (I ap)):
  F 153 #[M R,Tq x] w (ze2 names x ap w):=by
 have a0:=hm.look x hx;obtain⟨pl,b0⟩:=U (ai names x);rw[<-b0]at a0;unfold ze2;rw[<-b0];have HR:=Ye R 4 ap w c1;have c0:=A HR;clear b0 hm HR c1
 by_cases h0:0<=pl
 ·rw[show decide (0<=pl)=true by simpa using h0,show max 0 pl=pl by omega]at a0
  go_enter func153,ntmps153
  go_wp2_with (go_at_call 71;refine(Xc _ _ _).mono ?_;rintro e w' ⟨rfl,rfl⟩)
  go_ret;exact⟨Below.refl _ _,λ_=>rfl,λh=>by omega⟩
 rw[show decide (0<=pl)=false by simpa using h0]at a0
 go_enter func153,ntmps153
 go_wp2_with fail
 refine c0.mono ?_;rintro e w' ⟨rfl,hb⟩;exact⟨rfl,hb,λh=>by omega,λ_=>rfl⟩
def zux(lo base R Pb lm vm cm:Nat)(w0 w':World):Prop:=Below lo w0 w'/\∀b,b<base->b≠R->b≠Pb->b≠lm->b≠vm->b≠cm->w'.heap[b]?=w0.heap[b]?
def Zo.gone{ap:Int}{m:Xv}(h:Zo lo base R Pb lm vm cm w0 w r ap m)(hb:E w w'):zux lo base R Pb lm vm cm w0 w':=⟨(h.below hb).bel,(h.below hb).fx⟩
def Ze(lo base R Pb lm vm cm:Nat)(w0:World)(ap:Int)(aX:Nat×RS)(e:Ending)(w':World):Prop:=
 (aX.1=0/\e=.returned (.tuple #[])/\∃m',Zo lo base R Pb lm vm cm w0 w' aX.2 ap m')\/(aX.1≠0/\e=.panicked (Zf aX.1 ap)/\zux lo base R Pb lm vm cm w0 w')
def Ze.gx{ap:Int}{aX:Nat×RS}{m':Xv}(hr:aX=(0,r'))(he:e=.returned (.tuple #[]))(h:Zo lo base R Pb lm vm cm w0 w' r' ap m'):Ze lo base R Pb lm vm cm w0 ap aX e w':=by
 subst hr;exact .inl ⟨rfl,he,m',h⟩
def Ze.eQ{ap:Int}{aX:Nat×RS}(hr:aX=(n,r'))(hn:n≠0)(he:e=.panicked (Zf n ap))(h:zux lo base R Pb lm vm cm w0 w'):Ze lo base R Pb lm vm cm w0 ap aX e w':=by
 subst hr;exact .inr ⟨hn,he,h⟩
def Zi.one{B:Nat}{ws:List K}(h:Zi B w v ws)(a0:ws≠[]):∃b off cap,v=Sq b off ws.length cap/\ws.length<=cap/\cap<=maxLen/\b<B/\(∀x∈ws,x.length<=100000)/\∀i,i<ws.length->w.cell? (Y b (off+i))=some (.string ⟨(ws.getD i []).toArray⟩):=by
 obtain⟨ao,cap,h1,h2,h3,h4,h5,h6⟩:=h;obtain⟨b,off,rfl,hb,hc⟩:=h6 a0;exact⟨b,off,cap,h1,h2,h3,hb,h5,hc⟩
section
variable{ap:Int}{m:Xv}
def yv5(Pb lm vm cm:Nat)(ap:Int)(r:RS)(m:Xv)(i j:Nat)(hi:i<6)(hj:j<6):Vx Pb lm vm cm ap r m (4+i*6+j)=.bool (m.t i j):=by
 have e:(4+i*6+j - 4) / 6=i:=by omega
 have e2:(4+i*6+j - 4) % 6=j:=by omega
 unfold Vx;rw[Z (show ¬4+i*6+j=0 by omega),Z (show ¬4+i*6+j=1 by omega),Z (show ¬4+i*6+j=2 by omega),Z (show ¬4+i*6+j=3 by omega),Z (show ¬4+i*6+j=40 by omega),Z (show ¬4+i*6+j=41 by omega),Z (show ¬4+i*6+j=42 by omega),Z (show ¬4+i*6+j=43 by omega),Z (show ¬4+i*6+j=44 by omega),e,e2]
def Zo.ag(h:Zo lo base R Pb lm vm cm w0 w r ap m)(hb:r.ae=false)(x:K)(hl:r.au.length<6){w1:World}(e1:w1=(w.setCell (Y R (4+r.au.length*6+r.au.length)) (.bool true)).setCell (Y R 3) (I (r.au.length+1)))
  (hg:w1.grownBy w' (some lm)) (hn:Yy w' lm (r.au++[x])):∃m',Zo lo base R Pb lm vm cm w0 w' {r with au:=r.au++[x]} ap m':=by
 obtain⟨b1,b2,b3,b4,b5,b6⟩:=h.bP;obtain⟨l1,l2,l3,l4,l5⟩:=h.cq;obtain⟨n1,n2,n3,n4,n5,n6,n7,n8,n9,n10⟩:=h.nd
 have g0:w1.heap.size=w.heap.size:=by rw[e1,Zy,Zy]
 have hz:=hg.size
 have q1:∀b,b≠R->w1.heap[b]?=w.heap[b]?:=λb a0=>by rw[e1,Zx _ _ _ _ _ a0,Zx _ _ _ _ _ a0]
 have q:∀b,b≠R->b≠lm->b<w.heap.size->w'.heap[b]?=w.heap[b]?:=λb a0 c0 h0=>(hg.block b (by omega) (by simpa using c0)).trans (q1 b a0);have hc:=(h.cR.set (j:=4+r.au.length*6+r.au.length) (by omega) (.bool true)).set (j:=3) (by omega) (I (r.au.length+1));rw[<-e1]at hc;have d0:=hc.block (w':=w') (hg.block R (by omega) (by simpa using n2));refine⟨{m with t:=λi j=>if i=r.au.length/\j=r.au.length then true else m.t i j},?_⟩;refine{ok:= ?ok,bel:= ?bel,fx:=λb f1 f2 f3 f4 f5 f6=>(q b f2 f4 (by omega)).trans (h.fx b f1 f2 f3 f4 f5 f6),cq:=h.cq,bP:=⟨b1,b2,b3,b4,b5,by omega⟩,nd:=h.nd,cR:= ?cR,cP:=h.cP.block (q _ (Ne.symm n1) n5 (by omega)),nl:=hn,nv:=h.nv.block (q _ (Ne.symm n3) (Ne.symm n8) (by omega)),nc:=h.nc.block (q _ (Ne.symm n4) (Ne.symm n9) (by omega)),tab:= ?tab,re:= ?re}
 case ok=>
  exact{cn:=h.ok.cn,lv:=by simp;omega,ce:=h.ok.ce,ch:=h.ok.ch,lo:=h.ok.lo,st:=h.ok.st,fr:=h.ok.fr,cl:=h.ok.cl,hl:=h.ok.hl,dw:=h.ok.dw,dm:=h.ok.dm,head:=h.ok.head,below:=λp hp=>by have:=h.ok.below p hp;simp;omega,bC:=λy hy=>by have:=h.ok.bC y hy;simp;omega,bH:=λy hy=>by have:=h.ok.bH y hy;simp;omega,fA:=λhh=>by rw[hb]at hh;cases hh}
 case bel=>
  have e0:Below lo w0 w1:=(by rw[e1];exact(h.bel.setCell l1 _).setCell l1 _);exact e0.grown hg (by have:=h.bel.size;omega) (λk hk=>by simp only[Ql]at hk;omega)
 case cR=>
  refine d0.congr λj hj=>?_
  by_cases h3:j=3
  ·subst h3;simp[Vx]
  rw[Z h3]
  by_cases h4:j=4+r.au.length*6+r.au.length
  ·rw[G h4,h4,yv5 _ _ _ _ _ _ _ _ _ hl hl];simp
  rw[Z h4];unfold Vx
  by_cases hs:j=0\/j=1\/j=2\/j=40\/j=41\/j=42\/j=43\/j=44
  ·rcases hs with rfl|rfl|rfl|rfl|rfl|rfl|rfl|rfl<;>rfl
  rw[Z (show ¬j=0 by omega),Z (show ¬j=1 by omega),Z (show ¬j=2 by omega),Z h3,Z (show ¬j=40 by omega),Z (show ¬j=41 by omega),Z (show ¬j=42 by omega),Z (show ¬j=43 by omega),Z (show ¬j=44 by omega)];rw[Z (show ¬j=0 by omega),Z (show ¬j=1 by omega),Z (show ¬j=2 by omega),Z h3,Z (show ¬j=40 by omega),Z (show ¬j=41 by omega),Z (show ¬j=42 by omega),Z (show ¬j=43 by omega),Z (show ¬j=44 by omega)];simp only;rw[Z (by omega)]
 case tab=>
  intro i j hi hj;simp only[length_append,length_singleton]
  by_cases hn':i=r.au.length/\j=r.au.length
  ·rw[G hn',hn'.1,hn'.2];simp[fu]
  rw[Z hn',h.tab i j hi hj]
  by_cases b0:i<r.au.length
  ·simp[b0,show i<r.au.length+1 by omega]
  by_cases f0:i=r.au.length
  ·subst f0
   have:fu r.aI r.aF r.au.length j=false:=by
    simp only[fu,Bool.or_eq_false_iff,any_eq_false];refine⟨by simp;omega,λp hp=>?_⟩;have:=h.ok.below p hp;simp;omega
   rw[this];simp
  simp[b0,show ¬i<r.au.length+1 by omega]
 case re=>
  have hr:=h.re.kept (w':=w') (by omega) (λb hw=>q b (by have:=h.re.wh b hw;omega) (by have:=h.re.wh b hw;omega) (h.re.wh b hw).2);exact{wh:=hr.wh,oc:=hr.oc,tc:=hr.tc,oh:=hr.oh,th:=hr.th,pb:=hr.pb,tb:=hr.tb,fa:=hr.fa,oo:=hr.oo,to:=hr.to,la:=λhh=>by rw[show ({r with au:=r.au++[x]}:RS).ae=r.ae from rfl,hb]at hh;cases hh}
end
section
variable{ap:Int}{m:Xv}
def yi1(h:Zo lo base R Pb lm vm cm w0 w r ap m)(x0:r.ae=false)(B:Nat)(v:Value)(k x:K)(hB:B<=w.heap.size)(hw:Zi B w v [x])(l0:∀b,v.ownBlock=some b->base<=b):
  F 118 #[M R,v] w (Ze lo base R Pb lm vm cm w0 ap (r.head [k,x])):=by
 obtain⟨b,off,cap,rfl,e0,A0,B0,m0,a0⟩:=hw.one (by simp);have hx:x.length<=100000:=m0 x (by simp);have C0:base<=b:=l0 b rfl;have n0:D w b off (Tq x):=a0 0 (by simp);have c40:D w R 40 (.map (some lm)):=h.cR.c 40 (by omega);have D0:=h.ok.lv;obtain⟨mx,tb,o0,p0,-⟩:=h.drew.nl.iG x hx;obtain⟨aX,b0⟩:=U (r.head [k,x]);rw[<-b0]
 have c0:O (aX=if 0<=ai r.au x then(4,r) else if r.au.length=6 then(5,r) else(0,{r with au:=r.au++[x]})):=by show _=_;rw[b0];rfl
 have HH:=A h;have q0:=A p0;simp only[length_cons,length_nil,Nat.zero_add]at e0⊢;clear h hw m0 a0 b0 p0 l0
 go_enter func118,ntmps118
 go_wp2_with fail
 refine wp_region_still_lit (by kernel_rfl) (by kernel_rfl) ?_
 iterate 7 still_step
 refine Xm rfl (.tuple #[I mx,.bool tb]) (Jk _ _ 119 rfl (.map (some lm)) (Tq x) _ rfl rfl o0) ?_
 iterate 5 still_step
 refine wpStill_nil ?_
 change Exit.then _ _ _ _ w.drew
 have HW:O (Zo lo base R Pb lm vm cm w0 w.drew r ap m):=HH.below dA;have hc0':D w.drew b off (Tq x):=n0;generalize w.drew=W at*;clear HH o0 n0 c40;have bP:=HW.bP;have cq:=HW.cq
 cases tb with
 |true=>
  have h0:0<=ai r.au x:=(by have:=q0.out;simpa using this);have HR:O (aX=(4,r)):=(by show _=_;rw[c0.out,G h0]);clear h0;have f0:O (F 71 #[M R,.bool false,I 4] W λe w'=>e=.panicked (Zf 4 ap)/\E W w'):=Ye R 4 ap W (HW.cR.c 1 (by omega))
  go_wp2_with fail
  refine f0.mono ?_;rintro e w' ⟨rfl,hb'⟩;exact⟨rfl,Ze.eQ HR (by decide) rfl (HW.gone hb')⟩
 |false=>
  have h0:¬0<=ai r.au x:=(by have:=q0.out;simpa using this);have HR:O (aX=if r.au.length=6 then(5,r) else(0,{r with au:=r.au++[x]})):=(by show _=_;rw[c0.out,Z h0]);have y0:O (ai r.au x<0):=(by show _<_;omega);clear h0;have c3:D W R 3 (I r.au.length):=HW.cR.c 3 (by omega);have r0:O (F 150 #[Pp R 3] W (Rq (I r.au.length) W)):=yi0 R 3 _ W c3;have g0:O (∀n,F 71 #[M R,.bool true,I n] W (Rq (.tuple #[]) W)):=λn=>Xc R n W
  go_wp2_with fail
  refine(g0 _).mono ?_;rintro e w' ⟨rfl,hw'⟩;rw[hw'];clear hw'
  go_wp2_with fail
  refine r0.mono ?_;rintro e w' ⟨rfl,hw'⟩;rw[hw'];clear hw' r0
  by_cases h6:r.au.length=6
  ·have i0:O (aX=(5,r)):=by show _=_;rw[HR.out,G h6]
   have b6:¬(r.au.length:Int)<6:=(by omega);have f0:O (F 71 #[M R,.bool false,I 5] W λe w'=>e=.panicked (Zf 5 ap)/\E W w'):=Ye R 5 ap W (HW.cR.c 1 (by omega))
   go_wp2_with fail
   refine f0.mono ?_;rintro e w' ⟨rfl,hb'⟩;exact⟨rfl,Ze.eQ i0 (by decide) rfl (HW.gone hb')⟩
  have i0:O (aX=(0,{r with au:=r.au++[x]})):=(by show _=_;rw[HR.out,Z h6]);have b6:(r.au.length:Int)<6:=(by omega)
  go_wp2_with fail
  refine(g0 _).mono ?_;rintro e w' ⟨rfl,hw'⟩;rw[hw'];clear hw' g0
  go_wp2_with fail
  have s0:r.au.length<6:=(by omega);have c40:D W R 40 (.map (some lm)):=HW.cR.c 40 (by omega);obtain⟨W1,d0⟩:=U ((W.drew.setCell (Y R (3+1+r.au.length*6+r.au.length)) (.bool true)).setCell (Y R 3) (I (r.au.length+1)));have t0:O (F 151 #[Pp R 3] W.drew (Rq (I r.au.length) W1)):=by
   have:=add_any R 3 r.au.length _ W.drew s0 c3 HW.cR.z (HW.cR.c (3+1+r.au.length*6+r.au.length) (by omega));rw[<-d0]at this;exact this
  have E0:=HW.nd
  have q1:∀k,k≠R->W1.heap[k]?=W.heap[k]?:=λk hk=>by rw[d0,Zx _ _ _ _ _ hk,Zx _ _ _ _ _ hk];rfl
  have k40:W1.cell? (Y R 40)=some (.map (some lm)):=by
   rw[d0];refine(Qg _ _ _ _ (by intro hh;injection hh with _ h2;omega)).trans ((Qg _ _ _ _ (by intro hh;injection hh with _ h2;omega)).trans c40)
  have kb:W1.cell? (Y b off)=some (Tq x):=by
   exact(cQ (q1 b (by omega)) hc0')
  obtain⟨W2,z0,u0,j0⟩:=(HW.nl.block (q1 lm (by omega))).put x hx y0 (by omega);obtain⟨m',hm'⟩:=HW.drew.ag x0 x s0 d0 j0 u0;have j40:D W2 R 40 (.map (some lm)):=hm'.cR.c 40 (by omega);have jb:W2.cell? (Y b off)=some (Tq x):=by
   exact j0.cell kb (by simp;omega)
  have HM:=A hm';clear d0 q1 u0 j0 hm';refine zf0 (λW=>D W R 40 (.map (some lm))/\D W b off (Tq x)) [0,1,2,3,4,5,6,7,8,9] 10 11 [] (by kernel_rfl) (by kernel_rfl) rfl [_,_,_,_,_,_,_,_,_,_] _ _ rfl rfl rfl (λc a d v w h=>by cases d<;>exact h) ⟨c40,hc0'⟩ (λops hG=>?_);clear hG
  repeat refine zt7 rfl (kE (by intros;go_simp<;>rfl) (by go_simp<;>rfl) ?_)
  refine zb4 ?_
  go_wp2_with fail
  refine t0.mono ?_;rintro e w2 ⟨rfl,v0⟩;rw[v0];clear v0 t0
  go_wp2_with fail
  refine⟨⟨k40,kb⟩,?_⟩
  go_wp2_with fail
  refine⟨⟨j40,jb⟩,?_⟩
  go_end0
  exact Ze.gx i0 rfl HM.out
end
section
variable{ap:Int}{m:Xv}
def yi2(aI aF:List Nat)(a b:Nat)(h:aI.length=aF.length)(i j:Nat):fu (aI++[a]) (aF++[b]) i j=(fu aI aF i j||(a==i && b==j)):=by
 unfold fu;rw[zip_append h];simp[Bool.or_assoc]
def zuw(Pb lm vm cm:Nat)(ap:Int)(r r':RS)(m m':Xv)(j:Nat)(e1:r'.ae=r.ae)(e2:r'.au.length=r.au.length)(e3:m'.ov=m.ov)(e4:r'.am=r.am)(h:j<45)(ht:∀a b,a<6->b<6->j=4+a*6+b->m'.t a b=m.t a b):Vx Pb lm vm cm ap r' m' j=Vx Pb lm vm cm ap r m j:=by
 unfold Vx;rw[e1,e2,e3,e4]
 by_cases hs:j=0\/j=1\/j=2\/j=3\/j=40\/j=41\/j=42\/j=43\/j=44
 ·rcases hs with rfl|rfl|rfl|rfl|rfl|rfl|rfl|rfl|rfl<;>rfl
 rw[ht ((j - 4) / 6) ((j - 4) % 6) (by omega) (by omega) (by omega)]
def Zo.pair(h:Zo lo base R Pb lm vm cm w0 w r ap m)(hb:r.ae=false)(i j:Nat)(hi:i<r.au.length)(hj:j<r.au.length):Zo lo base R Pb lm vm cm w0 (w.setCell (Y R (4+i*6+j)) (.bool true)) {r with aI:=r.aI++[i],aF:=r.aF++[j]} ap {m with t:=λa b=>if a=i/\b=j then true else m.t a b}:=by
 obtain⟨b1,b2,b3,b4,b5,b6⟩:=h.bP;obtain⟨l1,l2,l3,l4,l5⟩:=h.cq;obtain⟨n1,n2,n3,n4,n5,n6,n7,n8,n9,n10⟩:=h.nd;have hl:=h.ok.lv;have hz:(w.setCell (Y R (4+i*6+j)) (.bool true)).heap.size=w.heap.size:=Zy _ _ _;have q:∀b,b≠R->(w.setCell (Y R (4+i*6+j)) (.bool true)).heap[b]?=w.heap[b]?:=λb b0=>Zx _ _ _ _ _ b0;have hc:=h.cR.set (j:=4+i*6+j) (by omega) (.bool true);refine{ok:= ?ok,bel:=h.bel.setCell l1 _,fx:=λb f1 f2 f3 f4 f5 f6=>(q b f2).trans (h.fx b f1 f2 f3 f4 f5 f6),cq:=h.cq,bP:=⟨b1,b2,b3,b4,b5,by omega⟩,nd:=h.nd,cR:= ?cR,cP:=h.cP.block (q _ (Ne.symm n1)),nl:=h.nl.block (q _ (Ne.symm n2)),nv:=h.nv.block (q _ (Ne.symm n3)),nc:=h.nc.block (q _ (Ne.symm n4)),tab:= ?tab,re:= ?re}
 case ok=>
  exact{
      cn:=h.ok.cn,lv:=h.ok.lv,ce:=h.ok.ce,ch:=h.ok.ch,lo:=h.ok.lo,st:=h.ok.st,fr:=h.ok.fr,cl:=h.ok.cl,hl:=h.ok.hl,dw:=by simp[h.ok.dw],dm:=h.ok.dm,head:=h.ok.head,below:=λp hp=>by
       rw[zip_append h.ok.dw,mem_append]at hp;rcases hp with hp|hp
       ·exact h.ok.below p hp
       simp at hp;subst hp;exact⟨hi,hj⟩
      bC:=h.ok.bC,bH:=h.ok.bH,fA:=λhh=>by rw[show ({r with aI:=r.aI++[i],aF:=r.aF++[j]}:RS).ae=r.ae from rfl,hb]at hh;cases hh}
 case cR=>
  refine hc.congr λk hk=>?_
  by_cases h4:k=4+i*6+j
  ·rw[G h4,h4,yv5 _ _ _ _ _ _ _ _ _ (by omega) (by omega)];simp
  rw[Z h4];exact(zuw Pb lm vm cm ap r {r with aI:=r.aI++[i],aF:=r.aF++[j]} m {m with t:=λa b=>if a=i/\b=j then true else m.t a b} k rfl rfl rfl rfl hk (λa b ha hb he=>Z (by rintro⟨rfl,rfl⟩;exact h4 he))).symm
 case tab=>
  intro a b ha hb';show (if a=i/\b=j then true else m.t a b)=_;rw[yi2 _ _ _ _ h.ok.dw]
  by_cases a0:a=i/\b=j
  ·rw[G a0];simp[a0.1,a0.2,hi]
  rw[Z a0,h.tab a b ha hb']
  have:(i==a && j==b)=false:=by simp;omega
  rw[this,Bool.or_false]
 case re=>
  have hr:=h.re.kept (w':=w.setCell (Y R (4+i*6+j)) (.bool true)) (by omega) (λb hw=>q b (by have:=h.re.wh b hw;omega));exact{wh:=hr.wh,oc:=hr.oc,tc:=hr.tc,oh:=hr.oh,th:=hr.th,pb:=hr.pb,tb:=hr.tb,fa:=hr.fa,oo:=hr.oo,to:=hr.to,la:=λhh=>by rw[show ({r with aI:=r.aI++[i],aF:=r.aF++[j]}:RS).ae=r.ae from rfl,hb]at hh;cases hh}
def yny(h:Zo lo base R Pb lm vm cm w0 w r ap m)(A0:r.ae=false)(B:Nat)(v:Value)(n l:K)(hB:B<=w.heap.size)(hw:Zi B w v [n,l])(u0:∀b,v.ownBlock=some b->base<=b):
  F 119 #[M R,v] w (Ze lo base R Pb lm vm cm w0 ap (r.head [bO,n,l])):=by
 obtain⟨b,off,cap,rfl,o0,G0,H0,p0,b0⟩:=hw.one (by simp);have I0:base<=b:=u0 b rfl;have hn:n.length<=100000:=p0 n (by simp);have hl:l.length<=100000:=p0 l (by simp);have q0:D w b off (Tq n):=b0 0 (by simp);have r0:D w b (off+1) (Tq l):=b0 1 (by simp);obtain⟨aX,c0⟩:=U (r.head [bO,n,l]);rw[<-c0];have d0:O (aX=if ai r.au n<0\/ai r.au l<0 then(4,r) else(0,{r with aI:=r.aI++[(ai r.au n).toNat],aF:=r.aF++[(ai r.au l).toNat]})):=by
  show _=_;rw[c0];simp[RS.head]
 have HH:=A h;have v0:O (∀W x,x.length<=100000->Zo lo base R Pb lm vm cm w0 W r ap m->F 153 #[M R,Tq x] W (ze2 r.au x ap W)):=λW x hx hW=>zo4 R lm ap r.au x W hx hW.nl (hW.cR.c 40 (by omega)) (hW.cR.c 1 (by omega));simp only[length_cons,length_nil,Nat.zero_add]at o0⊢;clear h hw p0 b0 c0 u0
 go_enter func119,ntmps119
 go_wp2_with fail
 refine zf1 (λW=>D W b off (Tq n)/\D W b (off+1) (Tq l)) [(true,0),(true,1),(true,2),(true,3),(true,4),(true,5),(true,6),(true,8),(true,9),(true,10),(true,11),(false,7),(false,12),(false,13)] (by kernel_rfl) (by kernel_rfl) rfl [(_,_),(_,_),(_,_),(_,_),(_,_),(_,_),(_,_),(_,_),(_,_),(_,_),(_,_),(_,_),(_,_),(_,_)] rfl (λc a d v w h=>by cases d<;>exact h) ⟨q0,r0⟩ (λops=>?_)
 repeat refine yo5 rfl (kE (by intros;go_simp<;>rfl) (by go_simp<;>rfl) ?_)
 refine zh1 ?_;have HW:O (Zo lo base R Pb lm vm cm w0 w.drew r ap m):=HH.drew;have bP:=HW.bP;have cq:=HW.cq;have s0:D w.drew b off (Tq n):=q0;have x0:D w.drew b (off+1) (Tq l):=r0;generalize w.drew=W at*;clear q0 r0 HH
 go_wp2_with fail
 refine(v0 W n hn HW).mono ?_;rintro e W1 ⟨j0,h0,a0⟩;have B0:E W W1:=j0;have m0:O (Zo lo base R Pb lm vm cm w0 W1 r ap m):=HW.below j0;have ee:b<W.heap.size:=Qe W _ s0;have e0:D W1 b off (Tq n):=cT j0 ee s0;have e1:D W1 b (off+1) (Tq l):=cT j0 ee x0;have y0:O (zux lo base R Pb lm vm cm w0 W1):=⟨m0.bel,m0.fx⟩;clear s0 x0 j0 B0;obtain⟨i,hi⟩:=U (ai r.au n);rw[<-hi]at h0 a0
 by_cases C0:0<=i
 case neg=>
  obtain rfl:=a0 (by omega);have HR:aX=(4,r):=(by rw[d0.out,G (.inl (by omega))]);exact⟨rfl,Ze.eQ HR (by decide) rfl y0⟩
 obtain rfl:=h0 C0;have J0:i<r.au.length:=by
  rcases aO r.au n with h|h
  ·omega
  omega
 have HI:=A hi;clear h0 a0 hi y0
 go_wp2_with fail
 refine⟨⟨e0,e1⟩,?_⟩;refine zh1 ?_
 go_wp2_with fail
 refine(v0 W1 l hl m0).mono ?_;rintro e W2 ⟨n0,h0,a0⟩;have i0:O (Zo lo base R Pb lm vm cm w0 W2 r ap m):=m0.below n0;have l0:b<W1.heap.size:=Qe W1 _ e0;have f0:D W2 b off (Tq n):=cT n0 l0 e0;have f1:D W2 b (off+1) (Tq l):=cT n0 l0 e1;clear e0 e1 n0;obtain⟨j,hj⟩:=U (ai r.au l);rw[<-hj]at h0 a0
 by_cases D0:0<=j
 case neg=>
  obtain rfl:=a0 (by omega);have HR:aX=(4,r):=(by rw[d0.out,G (.inr (by omega))]);exact⟨rfl,Ze.eQ HR (by decide) rfl ⟨i0.bel,i0.fx⟩⟩
 obtain rfl:=h0 D0;have K0:j<r.au.length:=by
  rcases aO r.au l with h|h
  ·omega
  omega
 have HR:O (aX=(0,{r with aI:=r.aI++[i.toNat],aF:=r.aF++[j.toNat]})):=by
  show _=_;rw[d0.out,Z (by rw[<-HI.out,<-hj];omega),<-HI.out,<-hj]
 have L0:=i0.ok.lv;have HP:O (∃m',Zo lo base R Pb lm vm cm w0 (W2.setCell (Y R (3+1+i.toNat*6+j.toNat)) (.bool true)) {r with aI:=r.aI++[i.toNat],aF:=r.aF++[j.toNat]} ap m'):=⟨_,i0.pair A0 i.toNat j.toNat (by omega) (by omega)⟩;have z0:O (F 152 #[Pp R 3,I i,I j] W2 λe w'=>e=.returned (.tuple #[])/\w'=W2.setCell (Y R (3+1+i.toNat*6+j.toNat)) (.bool true)):=by
  have:=ynz R 3 i.toNat j.toNat _ W2 (by omega) (by omega) i0.cR.z (i0.cR.c (3+1+i.toNat*6+j.toNat) (by omega));rw[show ((i.toNat:Nat):Int)=i by omega,show ((j.toNat:Nat):Int)=j by omega]at this;exact this
 have g0:∀W,W=W2.setCell (Y R (3+1+i.toNat*6+j.toNat)) (.bool true)->D W b off (Tq n)/\D W b (off+1) (Tq l):=λW hW=>by
  have hq:W.heap[b]?=W2.heap[b]?:=(by rw[hW];exact Zx _ _ _ _ _ (by omega));exact⟨cQ hq f0,cQ hq f1⟩
 have HG:=A g0;clear h0 a0 hj g0
 go_wp2_with fail
 refine⟨⟨f0,f1⟩,?_⟩;refine zh1 ?_
 go_wp2_with fail
 refine z0.mono ?_;rintro e W3 ⟨rfl,t0⟩;have E0:=HG W3 t0
 have F0:O (∃m',Zo lo base R Pb lm vm cm w0 W3 {r with aI:=r.aI++[i.toNat],aF:=r.aF++[j.toNat]} ap m'):=by rw[t0];exact HP
 clear t0 HP HG z0
 go_wp2_with fail
 refine⟨E0,?_⟩;refine ykv ?_
 go_end0
 obtain⟨m',hm'⟩:=F0.out;exact Ze.gx HR rfl hm'
end
section
variable{ap:Int}{m:Xv}
structure ButAt(T base:Nat)(w':World)(r:RS)(m:Xv)(who':Nat->Nat):Prop where
 oc:T≠3->w'.ownsRow base 3 1 m.bC r.aT.length (Ym r.aT)/\∀b,m.bC.ownBlock=some b->who' b=3
 oh:T≠4->w'.ownsRow base 3 1 m.bH r.aS.length (Ym r.aS)/\∀b,m.bH.ownBlock=some b->who' b=4
 pb:T≠1->Yr 3 (λb=>who' b=0) base w' m.bv r.ct (Vc m.gs)/\∀b,m.bv.ownBlock=some b->who' b=1
 fa:(T<10\/10+3*r.fr.length<=T)->Vk who' base w' (3 - r.fr.length) [] r.fr m.gs
 oo:T≠2->w'.ownsRow base 272 1 m.ov r.fr.length ((m.gs.map λg=>ptr g.ob).reverse)/\∀b,m.ov.ownBlock=some b->who' b=2
 la:r.ae=true->∃Lb,m.pl=ptr Lb/\who' Lb=0/\Un w' Lb r.au.length r.tab
def ztv.pV(h:ztv base w r m)(T:Nat)(hT:T≠0/\T≠5)(who':Nat->Nat)(q:∀b,m.bz b≠5->m.bz b≠T->who' b=m.bz b/\w'.heap[b]?=w.heap[b]?):ButAt T base w' r m who':=by
 have q0:∀b,m.bz b=0->who' b=0/\w'.heap[b]?=w.heap[b]?:=λb hb=>by
  have:=q b (by rw[hb];decide) (by rw[hb];exact Ne.symm hT.1);rw[hb]at this;exact this
 refine{oc:=λa0=>?_,oh:=λa0=>?_,pb:=λa0=>?_,fa:=λa0=>?_,oo:=λa0=>?_,la:=λhg=>?_}
 ·have q3:∀b,m.bC.ownBlock=some b->who' b=3/\w'.heap[b]?=w.heap[b]?:=λb hb=>by
   have:=q b (by rw[h.tc b hb];decide) (by rw[h.tc b hb];exact Ne.symm a0);rw[h.tc b hb]at this;exact this
  exact⟨Zj h.oc (λb hv=>(q3 b hv).2),λb hb=>(q3 b hb).1⟩
 ·have q3:∀b,m.bH.ownBlock=some b->who' b=4/\w'.heap[b]?=w.heap[b]?:=λb hb=>by
   have:=q b (by rw[h.th b hb];decide) (by rw[h.th b hb];exact Ne.symm a0);rw[h.th b hb]at this;exact this
  exact⟨Zj h.oh (λb hv=>(q3 b hv).2),λb hb=>(q3 b hb).1⟩
 ·have q3:∀b,m.bv.ownBlock=some b->who' b=1/\w'.heap[b]?=w.heap[b]?:=λb hb=>by
   have:=q b (by rw[h.tb b hb];decide) (by rw[h.tb b hb];exact Ne.symm a0);rw[h.tb b hb]at this;exact this
  exact⟨h.pb.kept (λb hb=>(q0 b hb).1) (λb hb=>(q0 b hb).2) (λb hv=>(q3 b hv).2),λb hb=>(q3 b hb).1⟩
 ·exact h.fa.kept (λb hb=>by
   rcases hb with hb|hb
   ·have:=q0 b hb;rw[hb];exact this
   exact q b (by omega) (by omega))
 ·have q3:∀b,m.ov.ownBlock=some b->who' b=2/\w'.heap[b]?=w.heap[b]?:=λb hb=>by
   have:=q b (by rw[h.to b hb];decide) (by rw[h.to b hb];exact Ne.symm a0);rw[h.to b hb]at this;exact this
  exact⟨Zj h.oo (λb hv=>(q3 b hv).2),λb hb=>(q3 b hb).1⟩
 obtain⟨Lb,l1,l2,l3⟩:=h.la hg;exact⟨Lb,l1,(q0 Lb l2).1,l3.block (q0 Lb l2).2⟩
def retag{bz:Nat->Nat}{T:Nat}{z z':Nat}(a0:∀b,bz b≠5->base<=b/\b<z)(hv:∀b,v.ownBlock=some b->bz b=T)(hT:T≠5)(hw:v'.ownBlock=v.ownBlock\/∃g,v'.ownBlock=some g/\z<=g)(b0:∀b,v'.ownBlock=some b->base<=b/\b<z')(hz:z<=z'):
  (∀b,(if v'.ownBlock=some b then T else bz b)≠5->base<=b/\b<z')/\(∀b,bz b≠5->bz b≠T->(if v'.ownBlock=some b then T else bz b)=bz b):=by
 refine⟨λb hb=>?_,λb h5 hbT=>?_⟩
 ·by_cases hv':v'.ownBlock=some b
  ·exact b0 b hv'
  rw[Z hv']at hb;have:=a0 b hb;omega
 rw[Z];intro hv';rcases hw with hw|⟨g,hg,c0⟩
 ·exact hbT (hv b (hw.symm.trans hv'))
 rw[hg]at hv';simp only[Ql]at hv';have:=a0 b h5;omega
def Zo.cell(h:Zo lo base R Pb lm vm cm w0 w r ap m)(hb:r.ae=false)(x:K)(lv:Nat)(e0:lv<r.au.length)(h0:r.cells.length<6)
  (hz:w.heap.size<=w'.heap.size) (hq:∀b,b<w.heap.size->b≠vm->b≠Pb->m.bC.ownBlock≠some b->w'.heap[b]?=w.heap[b]?) (d0:Below lo w0 w') (f0:Zh w' Pb 5 (rw_ [m.pl,v',m.bH,I r.ak.length,m.bv]))
  (g0:Yy w' vm ((r.cells++[x])++r.ak)) (c0:w'.ownsRow base 3 1 v' (r.aT.length+1) (Ym (r.aT++[lv]))) (hw:v'.ownBlock=m.bC.ownBlock\/∃g,v'.ownBlock=some g/\w.heap.size<=g):
  ∃m',Zo lo base R Pb lm vm cm w0 w' {r with cells:=r.cells++[x],aT:=r.aT++[lv]} ap m':=by
 obtain⟨b1,b2,b3,b4,b5,b6⟩:=h.bP;obtain⟨n1,n2,n3,n4,n5,n6,n7,n8,n9,n10⟩:=h.nd;obtain⟨i0,j0,k0,l0⟩:=h.ok.head hb
 have b0:∀b,b<base->m.bC.ownBlock≠some b:=λb m0 hv=>by have:=(h.re.oc.lt b hv).1;omega
 have ht:=retag (z':=w'.heap.size) h.re.wh h.re.tc (by decide) hw (λb hv=>⟨(c0.lt b hv).1,(c0.lt b hv).2⟩) hz;have a0:=h.re.pV (w':=w') 3 (by decide) (λb=>if v'.ownBlock=some b then 3 else m.bz b) (λb h5 h3=>⟨ht.2 b h5 h3,hq b (h.re.wh b h5).2 (by have:=h.re.wh b h5;omega) (by have:=h.re.wh b h5;omega) (λhv=>h3 (h.re.tc b hv))⟩);refine⟨{m with bC:=v',bz:=λb=>if v'.ownBlock=some b then 3 else m.bz b},?_⟩;refine{ok:= ?ok,bel:=d0,fx:=λb f1 f2 f3 f4 f5 f6=>(hq b (by omega) f5 f3 (b0 b f1)).trans (h.fx b f1 f2 f3 f4 f5 f6),cq:=h.cq,bP:=⟨b1,b2,b3,b4,b5,by omega⟩,nd:=h.nd,cR:= ?cR,cP:=f0,nl:=h.nl.block (hq _ (by omega) n8 (Ne.symm n5) (b0 _ b3)),nv:=g0,nc:=h.nc.block (hq _ (by omega) (Ne.symm n10) (Ne.symm n7) (b0 _ b5)),tab:=h.tab,re:= ?re}
 case ok=>
  exact{
      cn:=h.ok.cn,lv:=h.ok.lv,ce:=by simp;omega,ch:=h.ok.ch,lo:=h.ok.lo,st:=h.ok.st,fr:=h.ok.fr,cl:=by simp[h.ok.cl],hl:=h.ok.hl,dw:=h.ok.dw,dm:=h.ok.dm,head:=h.ok.head,below:=h.ok.below,bC:=λy hy=>by
       simp only[mem_append,mem_singleton]at hy;rcases hy with hy|rfl
       ·exact h.ok.bC y hy
       exact e0
      bH:=h.ok.bH,fA:=λhh=>by rw[show ({r with cells:=r.cells++[x],aT:=r.aT++[lv]}:RS).ae=r.ae from rfl,hb]at hh;cases hh}
 case cR=>
  refine(h.cR.block (hq _ (by omega) n3 n1 (b0 _ b1))).congr λk hk=>?_;exact(zuw Pb lm vm cm ap r {r with cells:=r.cells++[x],aT:=r.aT++[lv]} m {m with bC:=v',bz:=λb=>if v'.ownBlock=some b then 3 else m.bz b} k rfl rfl rfl rfl hk (λa b ha hb he=>rfl)).symm
 case re=>
  exact{wh:=ht.1,oc:=by simpa using c0,tc:=λb hv=>G hv,oh:=(a0.oh (by decide)).1,th:=(a0.oh (by decide)).2,pb:=(a0.pb (by decide)).1,tb:=(a0.pb (by decide)).2,fa:=a0.fa (.inl (by decide)),oo:=(a0.oo (by decide)).1,to:=(a0.oo (by decide)).2,la:=λhh=>by rw[show ({r with cells:=r.cells++[x],aT:=r.aT++[lv]}:RS).ae=r.ae from rfl,hb]at hh;cases hh}
def Zo.channel(h:Zo lo base R Pb lm vm cm w0 w r ap m)(hb:r.ae=false)(x:K)(lv:Nat)(e0:lv<r.au.length)(h0:r.aj.length<3)
  (hz:w.heap.size<=w'.heap.size) (hq:∀b,b<w.heap.size->b≠cm->b≠Pb->m.bH.ownBlock≠some b->w'.heap[b]?=w.heap[b]?) (d0:Below lo w0 w') (f0:Zh w' Pb 5 (rw_ [m.pl,m.bC,v',I r.ak.length,m.bv]))
  (g0:Yy w' cm (r.aj++[x])) (c0:w'.ownsRow base 3 1 v' (r.aS.length+1) (Ym (r.aS++[lv]))) (hw:v'.ownBlock=m.bH.ownBlock\/∃g,v'.ownBlock=some g/\w.heap.size<=g):
  ∃m',Zo lo base R Pb lm vm cm w0 w' {r with aj:=r.aj++[x],aS:=r.aS++[lv]} ap m':=by
 obtain⟨b1,b2,b3,b4,b5,b6⟩:=h.bP;obtain⟨n1,n2,n3,n4,n5,n6,n7,n8,n9,n10⟩:=h.nd
 have b0:∀b,b<base->m.bH.ownBlock≠some b:=λb i0 hv=>by have:=(h.re.oh.lt b hv).1;omega
 have ht:=retag (z':=w'.heap.size) h.re.wh h.re.th (by decide) hw (λb hv=>⟨(c0.lt b hv).1,(c0.lt b hv).2⟩) hz;have a0:=h.re.pV (w':=w') 4 (by decide) (λb=>if v'.ownBlock=some b then 4 else m.bz b) (λb h5 h3=>⟨ht.2 b h5 h3,hq b (h.re.wh b h5).2 (by have:=h.re.wh b h5;omega) (by have:=h.re.wh b h5;omega) (λhv=>h3 (h.re.th b hv))⟩);refine⟨{m with bH:=v',bz:=λb=>if v'.ownBlock=some b then 4 else m.bz b},?_⟩;refine{ok:= ?ok,bel:=d0,fx:=λb f1 f2 f3 f4 f5 f6=>(hq b (by omega) f6 f3 (b0 b f1)).trans (h.fx b f1 f2 f3 f4 f5 f6),cq:=h.cq,bP:=⟨b1,b2,b3,b4,b5,by omega⟩,nd:=h.nd,cR:= ?cR,cP:=f0,nl:=h.nl.block (hq _ (by omega) n9 (Ne.symm n5) (b0 _ b3)),nv:=h.nv.block (hq _ (by omega) n10 (Ne.symm n6) (b0 _ b4)),nc:=g0,tab:=h.tab,re:= ?re}
 case ok=>
  exact{
      cn:=h.ok.cn,lv:=h.ok.lv,ce:=h.ok.ce,ch:=by simp;omega,lo:=h.ok.lo,st:=h.ok.st,fr:=h.ok.fr,cl:=h.ok.cl,hl:=by simp[h.ok.hl],dw:=h.ok.dw,dm:=h.ok.dm,head:=h.ok.head,below:=h.ok.below,bH:=λy hy=>by
       simp only[mem_append,mem_singleton]at hy;rcases hy with hy|rfl
       ·exact h.ok.bH y hy
       exact e0
      bC:=h.ok.bC,fA:=λhh=>by rw[show ({r with aj:=r.aj++[x],aS:=r.aS++[lv]}:RS).ae=r.ae from rfl,hb]at hh;cases hh}
 case cR=>
  refine(h.cR.block (hq _ (by omega) n4 n1 (b0 _ b1))).congr λk hk=>?_;exact(zuw Pb lm vm cm ap r {r with aj:=r.aj++[x],aS:=r.aS++[lv]} m {m with bH:=v',bz:=λb=>if v'.ownBlock=some b then 4 else m.bz b} k rfl rfl rfl rfl hk (λa b ha hb he=>rfl)).symm
 case re=>
  exact{wh:=ht.1,oc:=(a0.oc (by decide)).1,tc:=(a0.oc (by decide)).2,oh:=by simpa using c0,th:=λb hv=>G hv,pb:=(a0.pb (by decide)).1,tb:=(a0.pb (by decide)).2,fa:=a0.fa (.inl (by decide)),oo:=(a0.oo (by decide)).1,to:=(a0.oo (by decide)).2,la:=λhh=>by rw[show ({r with aj:=r.aj++[x],aS:=r.aS++[lv]}:RS).ae=r.ae from rfl,hb]at hh;cases hh}
end
section
variable{ap:Int}{m:Xv}
def yv6(r:RS)(n l:K)(ap:Int)(w:World)(e:Ending)(w':World):Prop:=
 E w w'/\((0<=ai r.au l/\ai r.cells n<0/\ai r.aj n<0)->e=.returned (I (ai r.au l)))/\((ai r.au l<0\/0<=ai r.cells n\/0<=ai r.aj n)->e=.panicked (Zf 4 ap))
def zk7(h:Zo lo base R Pb lm vm cm w0 w r ap m)(s0:r.ae=false)(b off cap:Nat)(n l:K)(hn:n.length<=100000)(hl:l.length<=100000)(t0:2<=cap)(j0:w.cell? (Y b off)=some (Tq n))(k0:w.cell? (Y b (off+1))=some (Tq l)):
  F 154 #[M R,Sq b off 2 cap] w (yv6 r n l ap w):=by
 have c41:D w R 41 (.map (some vm)):=h.cR.c 41 (by omega);have c42:D w R 42 (.map (some cm)):=h.cR.c 42 (by omega);obtain⟨mx,tb,l0,g0,-⟩:=h.drew.nv.iG n hn;obtain⟨mx2,tb2,b0,c0,-⟩:=h.drew.drew.nc.iG n hn;rw[(h.ok.head s0).1,append_nil]at g0;have HH:=A h;have m0:=A g0;have d0:=A c0;clear h g0 c0
 go_enter func154,ntmps154
 go_wp2_with fail
 refine wp_region_still_lit (by kernel_rfl) (by kernel_rfl) ?_
 iterate 7 still_step
 refine Xm rfl (.tuple #[I mx,.bool tb]) (Jk _ _ 119 rfl (.map (some vm)) (Tq n) _ rfl rfl l0) ?_
 iterate 5 still_step
 refine wpStill_nil ?_
 change Exit.then _ _ _ _ w.drew
 have u0:D w.drew b off (Tq n):=j0;have n0:D w.drew b (off+1) (Tq l):=k0;have d42:D w.drew R 42 (.map (some cm)):=c42;have HW:O (Zo lo base R Pb lm vm cm w0 w.drew r ap m):=HH.drew;have o0:O (E w w.drew):=dA;clear l0 j0 k0 c41 c42 HH;generalize w.drew=W at*
 go_wp2_with fail
 refine wp_region_still_lit (by kernel_rfl) (by kernel_rfl) ?_
 iterate 7 still_step
 refine Xm rfl (.tuple #[I mx2,.bool tb2]) (Jk _ _ 119 rfl (.map (some cm)) (Tq n) _ rfl rfl b0) ?_
 iterate 5 still_step
 refine wpStill_nil ?_
 change Exit.then _ _ _ _ W.drew
 have e1:D W.drew b (off+1) (Tq l):=n0;have e0:O (Zo lo base R Pb lm vm cm w0 W.drew r ap m):=HW.drew;have f0:O (E w W.drew):=o0.drew;clear b0 u0 n0 d42 HW o0;generalize W.drew=W2 at*;have y0:=f0.size;have v0:O (F 153 #[M R,Tq l] W2 (ze2 r.au l ap W2)):=zo4 R lm ap r.au l W2 hl e0.nl (e0.cR.c 40 (by omega)) (e0.cR.c 1 (by omega));have h0:O (F 71 #[M R,.bool false,I 4] W2 λe w'=>e=.panicked (Zf 4 ap)/\E W2 w'):=Ye R 4 ap W2 (e0.cR.c 1 (by omega));have p0:O (F 71 #[M R,.bool true,I 4] W2 (Rq (.tuple #[]) W2)):=Xc R 4 W2
 cases tb with
 |true=>
  have h1:0<=ai r.cells n:=(by have:=m0.out;simpa using this)
  cases tb2
  all_goals
   go_wp2_with fail
   refine h0.mono ?_;rintro e w' ⟨rfl,hb'⟩;exact⟨rfl,f0.trans (hb'.mono (by omega)),λh=>by omega,λ_=>rfl⟩
 |false=>
  have h1:¬0<=ai r.cells n:=(by have:=m0.out;simpa using this)
  cases tb2 with
  |true=>
   have h2:0<=ai r.aj n:=(by have:=d0.out;simpa using this)
   go_wp2_with fail
   refine h0.mono ?_;rintro e w' ⟨rfl,hb'⟩;exact⟨rfl,f0.trans (hb'.mono (by omega)),λh=>by omega,λ_=>rfl⟩
  |false=>
   have h2:¬0<=ai r.aj n:=(by have:=d0.out;simpa using this)
   go_wp2_with fail
   refine p0.mono ?_;rintro e w' ⟨rfl,hw'⟩;rw[hw'];clear hw' p0 h0
   go_wp2_with fail
   refine v0.mono ?_;rintro e W3 ⟨q0,i0,a0⟩;have r0:O (E w W3):=f0.trans (q0.mono (by omega));clear q0;obtain⟨j,hj⟩:=U (ai r.au l);rw[<-hj]at i0 a0;have HJ:=A hj;clear hj
   by_cases x0:0<=j
   ·obtain rfl:=i0 x0
    clear i0 a0;go_wp2;go_ret;exact⟨r0,λ_=>by rw[<-HJ.out];rfl,λh=>by rw[<-HJ.out]at h;omega⟩
   obtain rfl:=a0 (by omega);exact⟨rfl,r0,λh=>by rw[<-HJ.out]at h;omega,λ_=>rfl⟩
end
section
variable{ap:Int}{m:Xv}
def Tryz.infoIntP:(Tryz.prog.info? 3).map (λi=>(i.zero,i.size,i.bytes))=some (some (I 0),1,8):=by kernel_rfl
def ye9(h:Zo lo base R Pb lm vm cm w0 w r ap m)(l0:r.ae=false)(B:Nat)(v:Value)(n l:K)(hB:B<=w.heap.size)(hw:Zi B w v [n,l])(N0:∀b,v.ownBlock=some b->base<=b/\m.bz b=5):
  F 120 #[M R,v] w (Ze lo base R Pb lm vm cm w0 ap (r.head [cB,n,l])):=by
 obtain⟨b,off,cap,rfl,y0,i1,j1,z0,a0⟩:=hw.one (by simp);obtain⟨l1,m1⟩:=N0 b rfl;have hn:n.length<=100000:=z0 n (by simp);have hl:l.length<=100000:=z0 l (by simp);have u0:D w b off (Tq n):=a0 0 (by simp);have O0:D w b (off+1) (Tq l):=a0 1 (by simp);obtain⟨aX,h0⟩:=U (r.head [cB,n,l]);rw[<-h0];have m0:O (aX=if ai r.au l<0\/0<=ai r.cells n\/0<=ai r.aj n then(4,r) else if r.cells.length=6 then(5,r) else(0,{r with cells:=r.cells++[n],aT:=r.aT++[(ai r.au l).toNat]})):=by
  show _=_;rw[h0];simp[RS.head,cB,bO]
 have HH:=A h;simp only[length_cons,length_nil,Nat.zero_add]at y0⊢;have P0:O (F 154 #[M R,Sq b off 2 cap] w (yv6 r n l ap w)):=zk7 h l0 b off cap n l hn hl (by omega) u0 O0;clear h hw z0 a0 h0 N0
 go_enter func120,ntmps120
 go_wp2_with fail
 refine P0.mono ?_;rintro e W ⟨A0,B0,j0⟩;have HW:O (Zo lo base R Pb lm vm cm w0 W r ap m):=HH.below A0;have ee:b<w.heap.size:=Qe w _ u0;have d0:D W b off (Tq n):=cT A0 ee u0;clear u0 O0 A0 HH P0;obtain⟨j,hj⟩:=U (ai r.au l);have HJ:=A hj;rw[<-hj]at B0 j0;clear hj
 by_cases v0:j<0\/0<=ai r.cells n\/0<=ai r.aj n
 ·obtain rfl:=j0 v0
  have HR:aX=(4,r):=(by rw[m0.out,<-HJ.out,G v0]);exact⟨rfl,Ze.eQ HR (by decide) rfl ⟨HW.bel,HW.fx⟩⟩
 obtain rfl:=B0 (by omega)
 have Q0:O (aX=if r.cells.length=6 then(5,r) else(0,{r with cells:=r.cells++[n],aT:=r.aT++[j.toNat]})):=by show _=_;rw[m0.out,<-HJ.out,Z v0]
 have o1:0<=j:=by omega
 have q1:j<r.au.length:=by
  have:=HJ.out;rcases aO r.au l with h|h<;>omega
 have V0:O (ai (r.cells++r.ak) n<0):=by
  show _<_;rw[(HW.ok.head l0).1,append_nil];omega
 clear B0 j0 v0;have C0:=HW.ok.cl;have W0:=A C0;have r1:=HW.ok.ce;have s1:=HW.ok.lv;obtain⟨ca,ccap,D0⟩:∃ca ccap,m.bC=J ca r.aT.length ccap:=by
  rcases HW.re.oc.2 with⟨h1,h2⟩|⟨g,cp,cur,h1,_⟩
  ·exact⟨none,0,by rw[h1,h2]⟩
  exact⟨_,cp,h1⟩
 have E0:=A D0;have c0:D W R 0 (M Pb):=HW.cR.c 0 (by omega)
 have p1:W.cell? (Y Pb 1)=some (J ca r.aT.length ccap):=by rw[<-D0];exact HW.cP.c 1 (by omega)
 have R0:O (F 71 #[M R,.bool false,I 5] W λe w'=>e=.panicked (Zf 5 ap)/\E W w'):=Ye R 5 ap W (HW.cR.c 1 (by omega));have S0:O (F 71 #[M R,.bool true,I 5] W (Rq (.tuple #[]) W)):=Xc R 5 W;have bP:=HW.bP;have cq:=HW.cq;clear D0
 by_cases h6:r.cells.length=6
 ·have b6:¬(r.aT.length:Int)<6:=by omega
  have F0:O (aX=(5,r)):=(by show _=_;rw[Q0.out,G h6]);clear C0
  go_wp2_with fail
  rw[show decide ((r.aT.length:Int)<6)=false from decide_eq_false (by omega)];refine R0.mono ?_;rintro e w' ⟨rfl,hb'⟩;exact⟨rfl,Ze.eQ F0 (by decide) rfl (HW.gone hb')⟩
 have b6:(r.aT.length:Int)<6:=by omega
 have F0:O (aX=(0,{r with cells:=r.cells++[n],aT:=r.aT++[j.toNat]})):=by show _=_;rw[Q0.out,Z h6]
 clear C0
 go_wp2_with fail
 refine S0.mono ?_;rintro e w' ⟨rfl,hw'⟩;rw[hw'];clear hw' S0 R0;have c41:D W R 41 (.map (some vm)):=HW.cR.c 41 (by omega);obtain⟨W2,G0,H0,x0⟩:=HW.drew.nv.put n hn V0 (by have:=HW.ok.lo;simp;omega);rw[show (r.cells++r.ak).length=r.aT.length by rw[(HW.ok.head l0).1,append_nil,W0.out]]at G0;rw[show (r.cells++r.ak)++[n]=(r.cells++[n])++r.ak by rw[(HW.ok.head l0).1];simp]at H0;obtain⟨n1,n2,n3,n4,n5,n6,n7,n8,n9,n10⟩:=HW.nd;have t1:W.heap.size<=W2.heap.size:=x0.size;have q2:∀k,k<W.heap.size->k≠vm->W2.heap[k]?=W.heap[k]?:=λk hk I0=>x0.block k hk (by simpa using I0);have d0':D W2 R 0 (M Pb):=cQ (q2 R (by omega) n3) c0;have d1':D W2 Pb 1 (J ca r.aT.length ccap):=cQ (q2 Pb (by omega) n6) p1;have T0:=A q2;have U0:=A H0;have J0:O (W2.ownsRow base 3 1 (J ca r.aT.length ccap) r.aT.length (Ym r.aT)):=by
  show ownsRow _ _ _ _ _ _ _;rw[<-E0.out];refine Zj HW.re.oc (λb' hb'=>q2 b' (HW.re.oc.lt b' hb').2 ?_);have:=(HW.re.oc.lt b' hb').1;omega
 have fP:∀j,W2.frozen? (Y Pb j)=false:=λj=>fQ (q2 Pb (by omega) n6) (HW.cP.z j);have X0:O (Below lo w0 W2):=HW.bel.drew.grown x0 (by have:=HW.bel.size;simp;omega) (λk hk=>by simp only[Ql]at hk;omega);clear x0 H0 q2
 go_wp2_with fail
 go_still_tail 15,(by kernel_rfl)
 clear p1 c0 d0 c41
 go_wp2_with fail
 refine Zb (λW=>D W R 0 (M Pb)/\D W Pb 1 (J ca r.aT.length ccap)) [12,13,14,15] [16] [] ⟨d0',d1'⟩ (by kernel_rfl) (λ_ _ _ _ h=>h) (λops hG=>?_);clear hG
 iterate 12 refine Zv rfl (by intros;go_simp<;>rfl) (by go_simp<;>rfl) ?_
 refine Zs ?_
 go_wp2_with fail
 obtain⟨W3,n0⟩:=U ((W2.alloc (.cells #[I j] 3)).drew);obtain⟨tb,K0⟩:=U (W2.heap.size)
 have o0:E W2 W3:=by rw[n0];exact(bA).drew
 have u1:W2.heap.size+1=W3.heap.size:=by rw[n0];simp
 have t0:∀i u,([I j]:Vs)[i]?=some u->W3.cell? (((Y tb 0):Addr).add i)=some u:=by rw[n0,K0];exact Xw
 have e0:D W3 R 0 (M Pb):=cT o0 (by show R<_;omega) d0';have e1:D W3 Pb 1 (J ca r.aT.length ccap):=cT o0 (by show Pb<_;omega) d1';have L0:O (W3.ownsRow base 3 1 (J ca r.aT.length ccap) r.aT.length (Ym r.aT)):=Zj J0 (λb hb=>o0.block b (J0.lt b hb).2);have p0:=A o0;rw[<-n0,<-K0];clear n0 K0 o0 d0' d1' J0;refine⟨⟨e0,e1⟩,?_⟩;refine Zs ?_;obtain⟨i0,Y0,Z0,a1,b1⟩:=info_parts Tryz.infoIntP
 go_wp2_with (at_builtin;refine Ap underlying22 Y0 Z0 a1 b1 rfl L0 rfl [I j] rfl rfl t0 ?c2 ?c3 ?c4 ?c5 ?_)
 case c2=>intro u hu;simp at hu;subst hu;rfl
 case c3=>unfold maxLen;omega
 case c4=>omega
 case c5=>omega
 intro v' W4 b0 q0 r0;obtain⟨va,vcap,rfl⟩:∃va vcap,v'=J va (r.aT.length+1) vcap:=by
  rcases b0.2 with⟨h1,h2⟩|⟨g,cp,cur,h1,_⟩
  ·omega
  exact⟨_,cp,h1⟩
 have f0:∀k,(J ca r.aT.length ccap).ownBlock=some k->base<=k/\k<W2.heap.size+1:=λk hk=>by have:=L0.lt k hk;omega
 have s0:∀k,k<base->W4.heap[k]?=W3.heap[k]?:=λk hk=>q0.block k (by omega) (λhh=>by have:=(f0 k hh.symm).1;omega);have g0:D W4 R 0 (M Pb):=cQ (s0 R (by omega)) e0;have g1:D W4 Pb 1 (J ca r.aT.length ccap):=cQ (s0 Pb (by omega)) e1;have gz:∀j,W4.frozen? (Y Pb j)=false:=λj=>fQ (s0 Pb (by omega)) ((p0.frozen (p:=(Y Pb j)) (by show Pb<_;omega)).trans (fP j));have M0:O (∃m',Zo lo base R Pb lm vm cm w0 (W4.setCell (Y Pb 1) (J va (r.aT.length+1) vcap)) {r with cells:=r.cells++[n],aT:=r.aT++[j.toNat]} ap m'):=by
  have v1:(W4.setCell (Y Pb 1) (J va (r.aT.length+1) vcap)).heap.size=W4.heap.size:=Zy _ _ _;have x1:=q0.size
  have aH:∀k,k<W.heap.size->k≠vm->(J ca r.aT.length ccap).ownBlock≠some k->W4.heap[k]?=W.heap[k]?:=λk hk hv I0=>
   (q0.block k (by omega) (λhh=>I0 hh.symm)).trans ((p0.block k (by omega)).trans (T0 k hk hv))
  refine HW.cell (v':=J va (r.aT.length+1) vcap) l0 n j.toNat (by omega) (by omega) (by omega) (λk hk hv hp hc=>?_) ?_ ?_ ?_ ?_ ?_
  ·rw[Zx _ _ _ _ _ hp]
   exact aH k hk hv (by rw[<-E0.out];exact hc)
  ·have c1:Below lo w0 W4:=(X0.trans (p0.mono (by omega))).grown q0 (by have:=HW.bel.size;omega) (λk hk=>by have:=(f0 k hk).1;omega)
   exact c1.setCell (by show lo<=Pb;omega) _
  ·have f1:=(HW.cP.block (w':=W4) (aH Pb (by omega) n6 (λhh=>by have:=(f0 Pb hh).1;omega))).set (j:=1) (by omega) (J va (r.aT.length+1) vcap)
   refine f1.congr λk hk=>?_;rcases(show k=0\/k=1\/k=2\/k=3\/k=4 by omega) with rfl|rfl|rfl|rfl|rfl<;>rfl
  ·refine(U0.block (w':=W4) ((s0 vm (by omega)).trans (p0.block vm (by omega)))).block (Zx _ _ _ _ _ (Ne.symm n6))
  ·have e1:Ym (r.aT++[j.toNat])=Ym r.aT++[I j]:=by simp[Ym];omega
   rw[e1];exact ownsRow_setCell_below b0 (by show Pb<base;omega) _
  rw[E0.out];rcases r0 with hh|hh
  ·exact .inl hh
  exact .inr ⟨_,hh,by omega⟩
 clear b0 q0 r0 s0 e0 e1 t0 L0 p0 U0 T0 f0 fP
 go_wp2_with fail
 refine⟨⟨g0,g1⟩,?_⟩;refine Zs ?_
 go_wp2_with fail
 refine⟨⟨g0,g1⟩,?_⟩;refine Zs ?_
 go_wp2_with fail
 refine⟨⟨g0,g1⟩,?_⟩;refine Xs ?_
 go_wp2_with fail
 refine Zu ?_
 go_end0
 obtain⟨m',hm'⟩:=M0.out;exact Ze.gx F0 rfl hm'
end
section
variable{ap:Int}{m:Xv}
def ysv(h:Zo lo base R Pb lm vm cm w0 w r ap m)(L0:r.ae=false)(B:Nat)(v:Value)(n l:K)(hB:B<=w.heap.size)(hw:Zi B w v [n,l])(M0:∀b,v.ownBlock=some b->base<=b/\m.bz b=5):
  F 121 #[M R,v] w (Ze lo base R Pb lm vm cm w0 ap (r.head [bk,n,l])):=by
 obtain⟨b,off,cap,rfl,x0,i1,j1,y0,a0⟩:=hw.one (by simp);obtain⟨l1,m1⟩:=M0 b rfl;have hn:n.length<=100000:=y0 n (by simp);have hl:l.length<=100000:=y0 l (by simp);have s0:D w b off (Tq n):=a0 0 (by simp);have N0:D w b (off+1) (Tq l):=a0 1 (by simp);obtain⟨aX,h0⟩:=U (r.head [bk,n,l]);rw[<-h0];have l0:O (aX=if ai r.au l<0\/0<=ai r.cells n\/0<=ai r.aj n then(4,r) else if r.aj.length=3 then(5,r) else(0,{r with aj:=r.aj++[n],aS:=r.aS++[(ai r.au l).toNat]})):=by
  show _=_;rw[h0];simp[RS.head,bk,bO,cB]
 have HH:=A h;simp only[length_cons,length_nil,Nat.zero_add]at x0⊢;have O0:O (F 154 #[M R,Sq b off 2 cap] w (yv6 r n l ap w)):=zk7 h L0 b off cap n l hn hl (by omega) s0 N0;clear h hw y0 a0 h0 M0
 go_enter func121,ntmps121
 go_wp2_with fail
 refine O0.mono ?_;rintro e W ⟨z0,A0,j0⟩;have HW:O (Zo lo base R Pb lm vm cm w0 W r ap m):=HH.below z0;have ee:b<w.heap.size:=Qe w _ s0;have d0:D W b off (Tq n):=cT z0 ee s0;clear s0 N0 z0 HH O0;obtain⟨j,hj⟩:=U (ai r.au l);have HJ:=A hj;rw[<-hj]at A0 j0;clear hj
 by_cases u0:j<0\/0<=ai r.cells n\/0<=ai r.aj n
 ·obtain rfl:=j0 u0
  have HR:aX=(4,r):=(by rw[l0.out,<-HJ.out,G u0]);exact⟨rfl,Ze.eQ HR (by decide) rfl ⟨HW.bel,HW.fx⟩⟩
 obtain rfl:=A0 (by omega)
 have P0:O (aX=if r.aj.length=3 then(5,r) else(0,{r with aj:=r.aj++[n],aS:=r.aS++[j.toNat]})):=by show _=_;rw[l0.out,<-HJ.out,Z u0]
 have o1:0<=j:=by omega
 have q1:j<r.au.length:=by
  have:=HJ.out;rcases aO r.au l with h|h<;>omega
 have V0:O (ai r.aj n<0):=by
  show _<_;omega
 clear A0 j0 u0;have B0:=HW.ok.hl;have W0:=A B0;have r1:=HW.ok.ch;have s1:=HW.ok.lv;obtain⟨ca,ccap,C0⟩:∃ca ccap,m.bH=J ca r.aS.length ccap:=by
  rcases HW.re.oh.2 with⟨h1,h2⟩|⟨g,cp,cur,h1,_⟩
  ·exact⟨none,0,by rw[h1,h2]⟩
  exact⟨_,cp,h1⟩
 have D0:=A C0;have c0:D W R 0 (M Pb):=HW.cR.c 0 (by omega)
 have p1:W.cell? (Y Pb 2)=some (J ca r.aS.length ccap):=by rw[<-C0];exact HW.cP.c 2 (by omega)
 have Q0:O (F 71 #[M R,.bool false,I 5] W λe w'=>e=.panicked (Zf 5 ap)/\E W w'):=Ye R 5 ap W (HW.cR.c 1 (by omega));have R0:O (F 71 #[M R,.bool true,I 5] W (Rq (.tuple #[]) W)):=Xc R 5 W;have bP:=HW.bP;have cq:=HW.cq;clear C0
 by_cases h6:r.aj.length=3
 ·have b6:¬(r.aS.length:Int)<3:=by omega
  have E0:O (aX=(5,r)):=(by show _=_;rw[P0.out,G h6]);clear B0
  go_wp2_with fail
  rw[show decide ((r.aS.length:Int)<3)=false from decide_eq_false (by omega)];refine Q0.mono ?_;rintro e w' ⟨rfl,hb'⟩;exact⟨rfl,Ze.eQ E0 (by decide) rfl (HW.gone hb')⟩
 have b6:(r.aS.length:Int)<3:=by omega
 have E0:O (aX=(0,{r with aj:=r.aj++[n],aS:=r.aS++[j.toNat]})):=by show _=_;rw[P0.out,Z h6]
 clear B0
 go_wp2_with fail
 refine R0.mono ?_;rintro e w' ⟨rfl,hw'⟩;rw[hw'];clear hw' R0 Q0;have c41:D W R 42 (.map (some cm)):=HW.cR.c 42 (by omega);obtain⟨W2,F0,S0,v0⟩:=HW.drew.nc.put n hn V0 (by omega);rw[<-W0.out]at F0;obtain⟨n1,n2,n3,n4,n5,n6,n7,n8,n9,n10⟩:=HW.nd;have t1:W.heap.size<=W2.heap.size:=v0.size;have q2:∀k,k<W.heap.size->k≠cm->W2.heap[k]?=W.heap[k]?:=λk hk G0=>v0.block k hk (by simpa using G0);have d0':D W2 R 0 (M Pb):=cQ (q2 R (by omega) n4) c0;have d1':D W2 Pb 2 (J ca r.aS.length ccap):=cQ (q2 Pb (by omega) n7) p1;have T0:=A q2;have U0:=A S0;have H0:O (W2.ownsRow base 3 1 (J ca r.aS.length ccap) r.aS.length (Ym r.aS)):=by
  show ownsRow _ _ _ _ _ _ _;rw[<-D0.out];refine Zj HW.re.oh (λb' hb'=>q2 b' (HW.re.oh.lt b' hb').2 ?_);have:=(HW.re.oh.lt b' hb').1;omega
 have fP:∀j,W2.frozen? (Y Pb j)=false:=λj=>fQ (q2 Pb (by omega) n7) (HW.cP.z j);have X0:O (Below lo w0 W2):=HW.bel.drew.grown v0 (by have:=HW.bel.size;simp;omega) (λk hk=>by simp only[Ql]at hk;omega);clear v0 S0 q2
 go_wp2_with fail
 go_still_tail 15,(by kernel_rfl)
 clear p1 c0 d0 c41
 go_wp2_with fail
 refine Zb (λW=>D W R 0 (M Pb)/\D W Pb 2 (J ca r.aS.length ccap)) [12,13,14,15] [16] [] ⟨d0',d1'⟩ (by kernel_rfl) (λ_ _ _ _ h=>h) (λops hG=>?_);clear hG
 iterate 12 refine Zv rfl (by intros;go_simp<;>rfl) (by go_simp<;>rfl) ?_
 refine Zs ?_
 go_wp2_with fail
 obtain⟨W3,m0⟩:=U ((W2.alloc (.cells #[I j] 3)).drew);obtain⟨tb,I0⟩:=U (W2.heap.size)
 have n0:E W2 W3:=by rw[m0];exact(bA).drew
 have u1:W2.heap.size+1=W3.heap.size:=by rw[m0];simp
 have t0:∀i u,([I j]:Vs)[i]?=some u->W3.cell? (((Y tb 0):Addr).add i)=some u:=by rw[m0,I0];exact Xw
 have e0:D W3 R 0 (M Pb):=cT n0 (by show R<_;omega) d0';have e1:D W3 Pb 2 (J ca r.aS.length ccap):=cT n0 (by show Pb<_;omega) d1';have J0:O (W3.ownsRow base 3 1 (J ca r.aS.length ccap) r.aS.length (Ym r.aS)):=Zj H0 (λb hb=>n0.block b (H0.lt b hb).2);have o0:=A n0;rw[<-m0,<-I0];clear m0 I0 n0 d0' d1' H0;refine⟨⟨e0,e1⟩,?_⟩;refine Zs ?_;obtain⟨i0,Y0,Z0,a1,b1⟩:=info_parts Tryz.infoIntP
 go_wp2_with (at_builtin;refine Ap underlying22 Y0 Z0 a1 b1 rfl J0 rfl [I j] rfl rfl t0 ?c2 ?c3 ?c4 ?c5 ?_)
 case c2=>intro u hu;simp at hu;subst hu;rfl
 case c3=>unfold maxLen;omega
 case c4=>omega
 case c5=>omega
 intro v' W4 b0 p0 q0;obtain⟨va,vcap,rfl⟩:∃va vcap,v'=J va (r.aS.length+1) vcap:=by
  rcases b0.2 with⟨h1,h2⟩|⟨g,cp,cur,h1,_⟩
  ·omega
  exact⟨_,cp,h1⟩
 have f0:∀k,(J ca r.aS.length ccap).ownBlock=some k->base<=k/\k<W2.heap.size+1:=λk hk=>by have:=J0.lt k hk;omega
 have r0:∀k,k<base->W4.heap[k]?=W3.heap[k]?:=λk hk=>p0.block k (by omega) (λhh=>by have:=(f0 k hh.symm).1;omega);have g0:D W4 R 0 (M Pb):=cQ (r0 R (by omega)) e0;have g1:D W4 Pb 2 (J ca r.aS.length ccap):=cQ (r0 Pb (by omega)) e1;have gz:∀j,W4.frozen? (Y Pb j)=false:=λj=>fQ (r0 Pb (by omega)) ((o0.frozen (p:=(Y Pb j)) (by show Pb<_;omega)).trans (fP j));have K0:O (∃m',Zo lo base R Pb lm vm cm w0 (W4.setCell (Y Pb 2) (J va (r.aS.length+1) vcap)) {r with aj:=r.aj++[n],aS:=r.aS++[j.toNat]} ap m'):=by
  have v1:(W4.setCell (Y Pb 2) (J va (r.aS.length+1) vcap)).heap.size=W4.heap.size:=Zy _ _ _;have x1:=p0.size
  have aH:∀k,k<W.heap.size->k≠cm->(J ca r.aS.length ccap).ownBlock≠some k->W4.heap[k]?=W.heap[k]?:=λk hk hv G0=>
   (p0.block k (by omega) (λhh=>G0 hh.symm)).trans ((o0.block k (by omega)).trans (T0 k hk hv))
  refine HW.channel (v':=J va (r.aS.length+1) vcap) L0 n j.toNat (by omega) (by omega) (by omega) (λk hk hv hp hc=>?_) ?_ ?_ ?_ ?_ ?_
  ·rw[Zx _ _ _ _ _ hp]
   exact aH k hk hv (by rw[<-D0.out];exact hc)
  ·have c1:Below lo w0 W4:=(X0.trans (o0.mono (by omega))).grown p0 (by have:=HW.bel.size;omega) (λk hk=>by have:=(f0 k hk).1;omega)
   exact c1.setCell (by show lo<=Pb;omega) _
  ·have f1:=(HW.cP.block (w':=W4) (aH Pb (by omega) n7 (λhh=>by have:=(f0 Pb hh).1;omega))).set (j:=2) (by omega) (J va (r.aS.length+1) vcap)
   refine f1.congr λk hk=>?_;rcases(show k=0\/k=1\/k=2\/k=3\/k=4 by omega) with rfl|rfl|rfl|rfl|rfl<;>rfl
  ·refine(U0.block (w':=W4) ((r0 cm (by omega)).trans (o0.block cm (by omega)))).block (Zx _ _ _ _ _ (Ne.symm n7))
  ·have e1:Ym (r.aS++[j.toNat])=Ym r.aS++[I j]:=by simp[Ym];omega
   rw[e1];exact ownsRow_setCell_below b0 (by show Pb<base;omega) _
  rw[D0.out];rcases q0 with hh|hh
  ·exact .inl hh
  exact .inr ⟨_,hh,by omega⟩
 clear b0 p0 q0 r0 e0 e1 t0 J0 o0 U0 T0 f0 fP
 go_wp2_with fail
 refine⟨⟨g0,g1⟩,?_⟩;refine Zs ?_
 go_wp2_with fail
 refine⟨⟨g0,g1⟩,?_⟩;refine Zs ?_
 go_wp2_with fail
 refine⟨⟨g0,g1⟩,?_⟩;refine Xs ?_
 go_wp2_with fail
 refine Zu ?_
 go_end0
 obtain⟨m',hm'⟩:=K0.out;exact Ze.gx E0 rfl hm'
end
def zxv(w:World)(b o:Nat)(t:Fl.cG):Prop:=∀i j,i<6->j<6->w.cell? (Y b (o+i*6+j))=some (.bool (t i j))
structure Vg(w w':World)(b o n:Nat):Prop where
 g:w.grownBy w' (some b)
 s:w'.heap.size=w.heap.size
 c:∀j,j<o\/o+n<=j->w'.cell? (Y b j)=w.cell? (Y b j)
 z:∀j,w'.frozen? (Y b j)=w.frozen? (Y b j)
def Vg.refl(w:World)(b o n:Nat):Vg w w b o n:=⟨grownBy.refl _ _,rfl,λ_ _=>rfl,λ_=>rfl⟩
def Vg.trans{w w1 w2:World}{b o n:Nat}(h:Vg w w1 b o n)(k:Vg w1 w2 b o n):Vg w w2 b o n:=
 ⟨⟨k.g.os.trans h.g.os,k.g.tape.trans h.g.tape,k.g.output.trans h.g.output,Nat.le_trans h.g.size k.g.size,λi hi a0=>(k.g.block i (Qj hi h.g.size) a0).trans (h.g.block i hi a0)⟩,k.s.trans h.s,λj hj=>(k.c j hj).trans (h.c j hj),λj=>(k.z j).trans (h.z j)⟩
def Vg.set(w:World)(b o n j:Nat)(v:Value)(hj:o<=j/\j<o+n):Vg w (w.setCell (Y b j) v) b o n:=
 ⟨⟨rfl,rfl,rfl,by rw[Zy];exact Nat.le_refl _,λi hi a0=>Zx _ _ _ _ _ (by simpa using a0)⟩,Zy _ _ _,λk hk=>Qg _ _ _ _ (by intro hh;injection hh with _ h2;omega),λk=>frozen?_setCell _ _ _ _⟩
def zxv.set(h:zxv w b o t)(x y:Nat)(hx:x<6)(hy:y<6)(v:Bool):zxv (w.setCell (Y b (o+x*6+y)) (.bool v)) b o (λi j=>if i=x/\j=y then v else t i j):=by
 intro i j hi hj;show _=some (Value.bool (if i=x/\j=y then v else t i j))
 by_cases a0:i=x/\j=y
 ·obtain⟨rfl,rfl⟩:=a0
  rw[G ⟨rfl,rfl⟩];exact cell?_setCell_same' _ _ _ (by simp[h i j hi hj])
 rw[Z a0];refine(Qg _ _ _ _ ?_).trans (h i j hi hj);intro hh;injection hh with _ h2;apply a0;omega
namespace Fl
def gC(n:Nat)(t:cG):Nat:=((range n).map λi=>((range n).map λj=>if t i j then 0 else 1).sum).sum
def iA(l:List Nat)(f g:Nat->Nat)(h:∀x∈l,f x<=g x):(l.map f).sum<=(l.map g).sum:=by
 induction l with
 |nil=>simp
 |cons x r ih=>simp only[map_cons,sum_cons];have:=h x (by simp);have:=ih (λy hy=>h y (by simp[hy]));omega
def jx(l:List Nat)(f g:Nat->Nat)(h:∀x∈l,f x<=g x)(z:Nat)(hz:z∈l)(a0:f z<g z):(l.map f).sum<(l.map g).sum:=by
 induction l with
 |nil=>cases hz
 |cons x r ih=>
  simp only[map_cons,sum_cons];have h1:=h x (by simp);rcases mem_cons.1 hz with rfl|hz
  ·have:=iA r f g (λy hy=>h y (by simp[hy]));omega
  have:=ih (λy hy=>h y (by simp[hy])) hz;omega
def lC(n:Nat)(t:cG)(x y:Nat)(hx:x<n)(hy:y<n)(h:t x y=false):gC n (λi j=>if i=x/\j=y then true else t i j)<gC n t:=by
 unfold gC;refine jx _ _ _ (λi _=>iA _ _ _ (λj _=>?_)) x (by simpa using hx) (jx _ _ _ (λj _=>?_) y (by simpa using hy) ?_)
 ·by_cases a0:i=x/\j=y
  ·simp[a0]
  simp[a0]
 ·by_cases a0:j=y
  ·simp[a0]
  simp[a0]
 simp[h]
end Fl
def isYes:Option Value->Bool
 |some (.bool b)=>b
 |_=>false
def za2(h:zxv w b o t)(hn:n<=6):Fl.gC n (λi j=>isYes (w.cell? (Y b (o+i*6+j))))=Fl.gC n t:=by
 unfold Fl.gC
 congr 1
 apply map_congr_left
 intro i hi
 congr 1
 apply map_congr_left
 intro j hj;simp only[h i j (by simp at hi;omega) (by simp at hj;omega),isYes]
def yv7(b o n:Nat)(t:Fl.cG)(w:World)(hn:n<=6)(ht:zxv w b o t)(hz:∀j,w.frozen? (Y b j)=false):
  F 169 #[Pp b o,I n] w λe w'=>e=.returned (.tuple #[])/\Vg w w' b o 36/\∃t',zxv w' b o t'/\(∀i j,i<n->j<n->t' i j=Fl.fw n t i j):=by
 have HT:=A ht;have HZ:=A hz;clear ht hz
 go_enter func169,ntmps169
 obtain⟨Qw,hJ⟩:=U (α:=Act->World->Prop) (λa' w'=>∃(t':Fl.cG),(∃(u2 u3 u4 u5 u6 u7 u8 u9 u10 u11 u12 u13 u14 u15 u16 u17 u18 u19 u20 u21 u22 u23 u24 u25 u26 u27 u28 u29 u30 u31 u32 u33 u34 u35 u36 u37 u38 u39 u40 u41 u42 u43 u44 u45 u46 u47 u48 u49 u50 u51 u52 u53:Value),a'={tmps:=#[Pp b o,I n,u2,u3,u4,u5,u6,u7,u8,u9,u10,u11,u12,u13,u14,u15,u16,u17,u18,u19,u20,u21,u22,u23,u24,u25,u26,u27,u28,u29,u30,u31,u32,u33,u34,u35,u36,u37,u38,u39,u40,u41,u42,u43,u44,u45,u46,u47,u48,u49,u50,u51,u52,u53],defers:=[]})/\Vg w w' b o 36/\zxv w' b o t'/\(∀i j,t i j=true->t' i j=true)/\(∀i j,i<n->j<n->t' i j=true->Fl.fw n t i j=true));obtain⟨μ,hμ⟩:=U (α:=Act->World->Nat) (λa' w'=>Fl.gC n (λi j=>isYes (w'.cell? (Y b (o+i*6+j)))));have HJ:=A hJ;have y0:=A hμ;refine zuz 0 Qw μ ?_ ?_
 ·rw[hJ];exact⟨t,⟨_,_,_,_,_,_,_,_,_,_,_,_,_,_,_,_,_,_,_,_,_,_,_,_,_,_,_,_,_,_,_,_,_,_,_,_,_,_,_,_,_,_,_,_,_,_,_,_,_,_,_,_,rfl⟩,Vg.refl _ _ _ _,HT,λ_ _ h=>h,λi j _ _ h=>mW _ _ _ _ h⟩
 intro a' W p0;rw[hJ]at p0;obtain⟨t',⟨u2,u3,u4,u5,u6,u7,u8,u9,u10,u11,u12,u13,u14,u15,u16,u17,u18,u19,u20,u21,u22,u23,u24,u25,u26,u27,u28,u29,u30,u31,u32,u33,u34,u35,u36,u37,u38,u39,u40,u41,u42,u43,u44,u45,u46,u47,u48,u49,u50,u51,u52,u53,rfl⟩,hs,hT',i0,j0⟩:=p0;have HS:=A hs;have h0:=A hT';have k0:=A i0;have b0:=A j0
 have L0:(n:Int)<=6:=by omega
 clear hs hT' i0 j0 hJ hμ
 go_wp2_with fail
 go_loopw [8] (λi wr=>wr=W/\∃k:Nat,k<=n/\i=I k/\∀x y z,x<k->y<n->z<n->t' x y=true->t' y z=true->t' x z=true) (λi _=>n - (intOf i).toNat)
 case atStart=>exact⟨rfl,0,by omega,rfl,λx y z hx=>by omega⟩
 case round=>
  obtain⟨f0,k1,M0,rfl,q0⟩:=hrel;have r0:=A q0;rw[f0];clear q0 f0 wr
  by_cases l0:k1<n
  ·have z0:(k1:Int)<(n:Int):=by omega
   go_wp2_with fail
   go_loopw [12] (λi wr2=>wr2=W/\∃k:Nat,k<=n/\i=I k/\∀y z,y<k->z<n->t' k1 y=true->t' y z=true->t' k1 z=true) (λi _=>n - (intOf i).toNat)
   case atStart=>exact⟨rfl,0,by omega,rfl,λy z hy=>by omega⟩
   case round=>
    obtain⟨f0,k2,N0,rfl,s0⟩:=hrel;have t0:=A s0;rw[f0];clear s0 f0 wr
    by_cases g0:k2<n
    ·have A0:(k2:Int)<(n:Int):=by omega
     go_wp2_with fail
     go_loopw [16] (λi wr3=>wr3=W/\∃k:Nat,k<=n/\i=I k/\∀z,z<k->t' k1 k2=true->t' k2 z=true->t' k1 z=true) (λi _=>n - (intOf i).toNat)
     case atStart=>exact⟨rfl,0,by omega,rfl,λz hz=>by omega⟩
     case round=>
      obtain⟨f0,k3,O0,rfl,u0⟩:=hrel;have v0:=A u0;rw[f0];clear u0 f0 wr
      by_cases m0:k3<n
      ·have B0:(k3:Int)<(n:Int):=by omega
       have q12:=h0 k1 k2 (by omega) (by omega);have q23:=h0 k2 k3 (by omega) (by omega);have q13:=h0 k1 k3 (by omega) (by omega);have qz:∀j,W.frozen? (Y b j)=false:=λj=>(HS.z j).trans (HZ j);obtain⟨x12,c0⟩:∃x,x=t' k1 k2:=⟨_,rfl⟩;obtain⟨x23,d0⟩:∃x,x=t' k2 k3:=⟨_,rfl⟩;obtain⟨x13,e0⟩:∃x,x=t' k1 k3:=⟨_,rfl⟩;rw[<-c0]at q12;rw[<-d0]at q23;rw[<-e0]at q13;have C0:=A c0;have D0:=A d0;have E0:=A e0
       have F0:O ((x12=true->x23=true->x13=true)->∀z,z<k3+1->t' k1 k2=true->t' k2 z=true->t' k1 z=true):=λh z hz h1 h2=>by
        by_cases G0:z=k3
        ·subst G0;rw[<-e0];exact h (by rw[c0];exact h1) (by rw[d0];exact h2)
        exact v0 z (by omega) h1 h2
       clear c0 d0 e0
       cases x12<;>cases x23<;>cases x13
       case true.true.false=>
        have H0:O (∀a',(∃(u2 u3 u4 u5 u6 u7 u8 u9 u10 u11 u12 u13 u14 u15 u16 u17 u18 u19 u20 u21 u22 u23 u24 u25 u26 u27 u28 u29 u30 u31 u32 u33 u34 u35 u36 u37 u38 u39 u40 u41 u42 u43 u44 u45 u46 u47 u48 u49 u50 u51 u52 u53:Value),a'={tmps:=#[Pp b o,I n,u2,u3,u4,u5,u6,u7,u8,u9,u10,u11,u12,u13,u14,u15,u16,u17,u18,u19,u20,u21,u22,u23,u24,u25,u26,u27,u28,u29,u30,u31,u32,u33,u34,u35,u36,u37,u38,u39,u40,u41,u42,u43,u44,u45,u46,u47,u48,u49,u50,u51,u52,u53],defers:=[]})->∀a0,Qw a' (W.setCell (Y b (o+k1*6+k3)) (.bool true))/\μ a' (W.setCell (Y b (o+k1*6+k3)) (.bool true))<μ a0 W):=λa' ha' a0=>by
         have x0:=h0.set k1 k3 (by omega) (by omega) true;refine⟨?_,?_⟩
         ·rw[HJ.out]
          refine⟨_,ha',HS.trans (Vg.set _ _ _ _ _ _ (by omega)),x0,λi j h=>?_,λi j hi hj h=>?_⟩
          ·show (if i=k1/\j=k3 then true else t' i j)=true
           split
           ·rfl
           exact k0 i j h
          have h':(if i=k1/\j=k3 then true else t' i j)=true:=h
          by_cases n0:i=k1/\j=k3
          ·rw[n0.1,n0.2]
           exact iK _ _ k2 _ _ g0 (b0 _ _ l0 g0 C0.symm) (b0 _ _ g0 m0 D0.symm)
          rw[Z n0]at h';exact b0 i j hi hj h'
         rw[y0.out];show Fl.gC n _<Fl.gC n _;rw[za2 x0 hn,za2 h0 hn];exact Fl.lC n t' k1 k3 l0 m0 E0.symm
        go_wp2_with fail
        go_step3
        exact⟨rfl,H0 _ ⟨_,_,_,_,_,_,_,_,_,_,_,_,_,_,_,_,_,_,_,_,_,_,_,_,_,_,_,_,_,_,_,_,_,_,_,_,_,_,_,_,_,_,_,_,_,_,_,_,_,_,_,_,rfl⟩ _⟩
       all_goals
        have I0:O (∀z,z<k3+1->t' k1 k2=true->t' k2 z=true->t' k1 z=true):=F0 (by decide);go_wp2
        go_roundw
        case rel=>exact⟨by first|rfl|trivial,k3+1,by omega,by go_num,I0⟩
        case measure=>simp[intOf];omega
      have B0:¬(k3:Int)<(n:Int):=(by omega);go_wp2
      go_roundw
      case rel=>
       refine⟨by first|rfl|trivial,k2+1,by omega,by go_num,λy z hy hz h1 h2=>?_⟩
       by_cases J0:y=k2
       ·subst J0;exact v0 z (by omega) h1 h2
       exact t0 y z (by omega) hz h1 h2
      case measure=>simp[intOf];omega
    have A0:¬(k2:Int)<(n:Int):=(by omega);go_wp2
    go_roundw
    case rel=>
     refine⟨by first|rfl|trivial,k1+1,by omega,by go_num,λx y z hx hy hz h1 h2=>?_⟩
     by_cases K0:x=k1
     ·subst K0;exact t0 y z (by omega) hz h1 h2
     exact r0 x y z (by omega) hy hz h1 h2
    case measure=>simp[intOf];omega
  have z0:¬(k1:Int)<(n:Int):=(by omega);have o0:O (∀i j,i<n->j<n->t' i j=Fl.fw n t i j):=lK n t t' (λa b c ha hb hc h1 h2=>r0 a b c (by omega) hb hc h1 h2) (λi j _ _ h=>k0 i j h) b0.out
  go_wp2_with fail
  simp only[Exit.jump]
  go_end0
  exact⟨rfl,HS,t',h0,o0⟩
def ynx(h:t a k=false):cJ n t a b k=false:=by simp[cJ,h]
def ynw(h:t b k=false):cJ n t a b k=false:=by simp[cJ,h]
def ynv{j:Nat}(hj:j<n)(h1:t a j=true)(h2:t b j=true)(h3:t k j=false):cJ n t a b k=false:=by
 rw[Bool.eq_false_iff];intro h;have:=((eX n t a b k).1 h).2.2 j hj h1 h2
 rw[h3]at this;cases this
def za3(n a b:Nat)(t:Fl.cG)(f:FuncId)(cap:Array Value)(w:World)(hn:n<=6)(ha:a<n)(hb:b<n)(B0:∀args W,(callFunc f args).run prog W=.ok (.enter f args) W)
  (hf:∀x y:Nat,x<n->y<n->F f (#[I x,I y]++cap) w (Rq (.bool (t x y)) w)):
  F 181 #[I n,I a,I b,.func (.func f) #[] cap] w (Rq (I (join n t a b)) w):=by
 have HF:=A hf
 have C0:(n:Int)<=6:=by omega
 clear hf
 go_enter func181,ntmps181
 go_wp2_with fail
 go_step3
 go_wp2_with fail
 go_step3
 go_wp2_with fail
 go_loopw [12] (λi wr=>wr=w/\∃k:Nat,k<=n/\i=I k/\∀j,j<k->cJ n t a b j=false) (λi _=>n - (intOf i).toNat)
 case atStart=>exact⟨rfl,0,by omega,rfl,λj hj=>by omega⟩
 case round=>
  obtain⟨b0,k,hk,rfl,hc⟩:=hrel;have HC:=A hc;rw[b0];clear hc b0 wr
  by_cases c0:k<n
  ·have hI:(k:Int)<(n:Int):=by omega
   have h0:O (cJ n t a b k=false->∀j,j<k+1->cJ n t a b j=false):=λh j hj=>by
    by_cases u0:j=k
    ·subst u0;exact h
    exact HC j (by omega)
   obtain⟨xa,i0⟩:∃x,x=t a k:=⟨_,rfl⟩;obtain⟨xb,j0⟩:∃x,x=t b k:=⟨_,rfl⟩;have n0:=A i0;have o0:=A j0;have k0:=HF a k ha c0;have l0:=HF b k hb c0;rw[<-i0]at k0;rw[<-j0]at l0;have HCA':O _:=k0;have HCB':O _:=l0;clear i0 j0 k0 l0
   go_wp2_with fail
   refine Calls.mono HCA' ?_;rintro e w1 ⟨rfl,a0⟩;rw[a0];clear a0 HCA'
   cases xa with
   |false=>
    have HN:O (∀j,j<k+1->cJ n t a b j=false):=h0 (ynx n0.symm);go_wp2
    go_roundw
    case rel=>exact⟨by first|rfl|trivial,k+1,by omega,by go_num,HN⟩
    case measure=>simp[intOf];omega
   |true=>
    go_wp2_with fail
    refine Calls.mono HCB' ?_;rintro e w1 ⟨rfl,a0⟩;rw[a0];clear a0 HCB'
    cases xb with
    |false=>
     have HN:O (∀j,j<k+1->cJ n t a b j=false):=h0 (ynw o0.symm);go_wp2
     go_roundw
     case rel=>exact⟨by first|rfl|trivial,k+1,by omega,by go_num,HN⟩
     case measure=>simp[intOf];omega
    |true=>
     go_wp2_with fail
     go_loopw [28] (λi wr=>wr=w/\∃d:Nat,d<=n/\i=I d/\∀j,j<d->t a j=true->t b j=true->t k j=true) (λi _=>n - (intOf i).toNat)
     case atStart=>exact⟨rfl,0,by omega,rfl,λj hj=>by omega⟩
     case round=>
      obtain⟨b0,d,hd,rfl,p0⟩:=hrel;have q0:=A p0;rw[b0];clear p0 b0 wr
      by_cases d0:d<n
      ·have v0:(d:Int)<(n:Int):=by omega
       obtain⟨ya,e0⟩:∃x,x=t a d:=⟨_,rfl⟩;obtain⟨yb,f0⟩:∃x,x=t b d:=⟨_,rfl⟩;obtain⟨yc,g0⟩:∃x,x=t k d:=⟨_,rfl⟩;have C1:=HF a d ha d0;have C2:=HF b d hb d0;have C3:=HF k d c0 d0;rw[<-e0]at C1;rw[<-f0]at C2;rw[<-g0]at C3;have r0:=A C1;have s0:=A C2;have t0:=A C3;have x0:=A e0;have y0:=A f0;have z0:=A g0
       have m0:O ((ya=true->yb=true->yc=true)->∀j,j<d+1->t a j=true->t b j=true->t k j=true):=λh j hj h1 h2=>by
        by_cases A0:j=d
        ·subst A0;rw[<-g0];exact h (by rw[e0];exact h1) (by rw[f0];exact h2)
        exact q0 j (by omega) h1 h2
       clear C1 C2 C3 e0 f0 g0
       go_wp2_with fail
       refine Calls.mono r0 ?_;rintro e w1 ⟨rfl,a0⟩;rw[a0];clear a0 r0
       cases ya with
       |false=>
        have HN:O (∀j,j<d+1->t a j=true->t b j=true->t k j=true):=m0 (by simp);go_wp2
        go_roundw
        case rel=>exact⟨by first|rfl|trivial,d+1,by omega,by go_num,HN⟩
        case measure=>simp[intOf];omega
       |true=>
        go_wp2_with fail
        refine Calls.mono s0 ?_;rintro e w1 ⟨rfl,a0⟩;rw[a0];clear a0 s0
        cases yb with
        |false=>
         have HN:O (∀j,j<d+1->t a j=true->t b j=true->t k j=true):=m0 (by simp);go_wp2
         go_roundw
         case rel=>exact⟨by first|rfl|trivial,d+1,by omega,by go_num,HN⟩
         case measure=>simp[intOf];omega
        |true=>
         go_wp2_with fail
         refine Calls.mono t0 ?_;rintro e w1 ⟨rfl,a0⟩;rw[a0];clear a0 t0
         cases yc with
         |true=>
          have HN:O (∀j,j<d+1->t a j=true->t b j=true->t k j=true):=m0 (by simp);go_wp2
          go_roundw
          case rel=>exact⟨by first|rfl|trivial,d+1,by omega,by go_num,HN⟩
          case measure=>simp[intOf];omega
         |false=>
          have HN:O (∀j,j<k+1->cJ n t a b j=false):=h0 (ynv d0 x0.symm y0.symm z0.symm);go_wp2;exact⟨⟨by first|rfl|trivial,k+1,by omega,by go_num,HN⟩,by simp[intOf];omega⟩
      have v0:¬(d:Int)<(n:Int):=(by omega);have HJ:O (join n t a b=(k:Int)):=gR c0 ((eX n t a b k).2 ⟨n0.symm,o0.symm,λj hj h1 h2=>q0 j (by omega) h1 h2⟩) HC.out
      go_wp2_with fail
      go_ret;exact⟨by rw[HJ.out];rfl,rfl⟩
  have hI:¬(k:Int)<(n:Int):=(by omega);have HJ:O (join n t a b= -1):=ig (λj hj=>HC j (by omega))
  go_wp2_with fail
  go_ret;exact⟨by rw[HJ.out];rfl,rfl⟩
structure Xh(w w':World)(b o n:Nat):Prop where
 g:w.grownBy w' (some b)
 c:∀j,j<o\/o+n<=j->w'.cell? (Y b j)=w.cell? (Y b j)
 z:∀j,w'.frozen? (Y b j)=w.frozen? (Y b j)
def Xh.refl(w:World)(b o n:Nat):Xh w w b o n:=⟨grownBy.refl _ _,λ_ _=>rfl,λ_=>rfl⟩
def Xh.trans{w w1 w2:World}{b o n:Nat}(h:Xh w w1 b o n)(k:Xh w1 w2 b o n):Xh w w2 b o n:=
 ⟨⟨k.g.os.trans h.g.os,k.g.tape.trans h.g.tape,k.g.output.trans h.g.output,Nat.le_trans h.g.size k.g.size,λi hi a0=>(k.g.block i (Qj hi h.g.size) a0).trans (h.g.block i hi a0)⟩,λj hj=>(k.c j hj).trans (h.c j hj),λj=>(k.z j).trans (h.z j)⟩
def Xh.set(w:World)(b o n j:Nat)(v:Value)(hj:o<=j/\j<o+n):Xh w (w.setCell (Y b j) v) b o n:=
 ⟨(Vg.set w b o n j v hj).g,(Vg.set w b o n j v hj).c,(Vg.set w b o n j v hj).z⟩
def Xh.alloc{w:World}{b o n:Nat}(x:Obj)(hb:b<w.heap.size):Xh w (w.alloc x) b o n:=
 have hq:(w.alloc x).heap[b]?=w.heap[b]?:=((Below.refl w.heap.size w).alloc lE x).block b hb
 ⟨grownBy_alloc _ _ _,λj _=>Qc (a:=(Y b j)) hq,λj=>Qd (a:=(Y b j)) hq⟩
def Xh.block{w w':World}{b o n:Nat}(h:Xh w w' b o n)(k:Nat)(hk:k<w.heap.size)(a0:k≠b):w'.heap[k]?=w.heap[k]?:=h.g.block k hk (by simpa using a0)
def ym0(cb Lb x y:Nat)(b:Bool)(w:World)(hx:x<6)(hy:y<6)(hc:w.cell? (Y cb 0)=some (M Lb))(ht:w.cell? (Y Lb (1+x*6+y))=some (.bool b)):
  F 179 #[I x,I y,M cb] w (Rq (.bool b) w):=by
 have a0:(x:Int)<6:=by omega
 have b0:(y:Int)<6:=by omega
 go_enter func179,ntmps179
 go_wp2;go_ret;exact⟨rfl,rfl⟩
def yv8(cb Lb x y:Nat)(b:Bool)(w:World)(hx:x<6)(hy:y<6)(hc:w.cell? (Y cb 0)=some (M Lb))(ht:w.cell? (Y Lb (1+y*6+x))=some (.bool b)):
  F 180 #[I x,I y,M cb] w (Rq (.bool b) w):=by
 have a0:(x:Int)<6:=by omega
 have b0:(y:Int)<6:=by omega
 go_enter func180,ntmps180
 go_wp2;go_ret;exact⟨rfl,rfl⟩
def yv9(n:Nat)(t:Fl.cG)(i j:Nat):bE n t i j=(!((i !=j) && t i j && t j i) && (!decide (join n t i j<0) && !decide (fB n t i j<0))):=by
 unfold bE
 congr 2
 ·simp only[<-decide_not];congr 1;simp
 simp only[<-decide_not];congr 1;simp
def yi3(Lb n:Nat)(t:Fl.cG)(w:World)(e:Ending)(w':World):Prop:=
 Xh w w' Lb 37 36/\((e=.returned (.bool true)/\∀i j,i<n->j<n->bE n t i j=true/\w'.cell? (Y Lb (37+i*6+j))=some (I (join n t i j)))\/(e=.returned (.bool false)/\∃i j,i<n/\j<n/\bE n t i j=false))
structure zu5(Lb n:Nat)(t:Fl.cG)(w:World)(k1 k2:Nat)(wr:World):Prop where
 tu:Xh w wr Lb 37 36
 cb:wr.cell? (Y w.heap.size 0)=some (M Lb)
 ex:∀k,37<=k->k<73->∃v,wr.cell? (Y Lb k)=some v
 dn:∀i j,(i<k1/\j<n)\/(i=k1/\j<k2)->bE n t i j=true/\wr.cell? (Y Lb (37+i*6+j))=some (I (join n t i j))
def zu5.next{k2:Nat}(h:zu5 Lb n t w k1 k2 wr)(hL:Lb<w.heap.size)(hn:n<=6)(h1:k1<n)(h2:k2<n)(hp:bE n t k1 k2=true):zu5 Lb n t w k1 (k2+1) (wr.setCell (Y Lb (37+k1*6+k2)) (I (join n t k1 k2))):=by
 obtain⟨v,hv⟩:=h.ex (37+k1*6+k2) (by omega) (by omega);refine⟨h.tu.trans (Xh.set _ _ _ _ _ _ (by omega)),?_,λk hk b0=>?_,λi j hij=>?_⟩
 ·refine(Qg _ _ _ _ ?_).trans h.cb
  intro hh;injection hh with h3;omega
 ·by_cases a0:k=37+k1*6+k2
  ·exact⟨_,by rw[a0];exact cell?_setCell_same' _ _ _ (by simp[hv])⟩
  obtain⟨u,hu⟩:=h.ex k hk b0;exact⟨u,(Qg _ _ _ _ (by intro hh;injection hh with _ h3;exact a0 (by omega))).trans hu⟩
 by_cases he:i=k1/\j=k2
 ·obtain⟨rfl,rfl⟩:=he
  exact⟨hp,cell?_setCell_same' _ _ _ (by simp[hv])⟩
 have hd:=h.dn i j (by omega);refine⟨hd.1,(Qg _ _ _ _ ?_).trans hd.2⟩;intro hh;injection hh with _ h3;apply he;omega
def zu5.row(h:zu5 Lb n t w k1 n wr):zu5 Lb n t w (k1+1) 0 wr:=⟨h.tu,h.cb,h.ex,λi j a0=>h.dn i j (by omega)⟩
def yyz(Lb n:Nat)(t:Fl.cG)(w:World)(hn:n<=6)(j0:w.cell? (Y Lb 0)=some (I n))(ht:zxv w Lb 1 t)(hj:∀k,37<=k->k<73->∃v,w.cell? (Y Lb k)=some v)(hz:∀j,w.frozen? (Y Lb j)=false):
  F 170 #[M Lb] w (yi3 Lb n t w):=by
 have E0:∀(fn:Fn) (first cap:Array Value) (w:World),(Instr.makeFunc fn first cap).run prog w=.ok (.func fn first cap) w:=λ_ _ _ _=>rfl;have k0:Lb<w.heap.size:=Qe w _ j0;have HT:=A ht;have HJ:=A hj;have HZ:=A hz;have r0:=A j0
 have F0:(n:Int)<=6:=by omega
 have c0:∀o,D (w.alloc o) Lb 0 (I n):=λo=>(Qf _ _ _ k0).trans j0;clear ht hj hz j0
 go_enter func170,ntmps170
 go_wp2_with fail
 go_step3
 go_wp2_with fail
 go_step3
 go_wp2_with fail
 clear c0
 go_loopw [5,17] (λv i wr=>v=.bool true/\∃k:Nat,k<=n/\i=I k/\zu5 Lb n t w k 0 wr) (λ_ i _=>n - (intOf i).toNat)
 case atStart=>exact⟨rfl,0,by omega,rfl,Xh.alloc _ k0,cell?_alloc_new _ _ _ _,λk hk s0=>(by obtain⟨v,hv⟩:=HJ k hk s0;exact⟨v,(Qf _ _ _ k0).trans hv⟩),λi j hij=>by omega⟩
 case round=>
  obtain⟨rfl,k1,G0,rfl,t0⟩:=hrel;have g0:=A t0;clear t0
  by_cases a0:k1<n
  ·have z0:(k1:Int)<(n:Int):=by omega
   have cb1:=g0.cb;have c01:D wr Lb 0 (I n):=(g0.tu.c 0 (by omega)).trans r0.out
   go_wp2_with fail
   clear cb1 c01;obtain⟨wo,A0⟩:=U (wr);subst A0
   go_loopw [5,24] (λv i wr2=>v=.bool true/\∃k:Nat,k<=n/\i=I k/\zu5 Lb n t w k1 k wr2) (λ_ i _=>n - (intOf i).toNat)
   case atStart=>exact⟨rfl,0,by omega,rfl,g0⟩
   case round=>
    obtain⟨rfl,k2,s0,rfl,u0⟩:=hrel;have d0:=A u0;clear u0
    by_cases b0:k2<n
    ·have B0:(k2:Int)<(n:Int):=by omega
     have cb2:=d0.cb;have c02:D wr Lb 0 (I n):=(d0.tu.c 0 (by omega)).trans r0.out;have l0:O (∀i j,i<6->j<6->D wr Lb (1+i*6+j) (.bool (t i j))):=λi j hi hj=>(d0.tu.c (1+i*6+j) (by omega)).trans (HT i j hi hj);have q12:=l0 k1 k2 (by omega) (by omega);have q21:=l0 k2 k1 (by omega) (by omega)
     have m0:O (F 181 #[I n,I k1,I k2,.func (.func 179) #[] #[M w.heap.size]] wr (Rq (I (join n t k1 k2)) wr)):=
      za3 n k1 k2 t 179 #[M w.heap.size] wr hn a0 b0 (λargs W=>by kernel_rfl) (λx y hx hy=>ym0 w.heap.size Lb x y (t x y) wr (by omega) (by omega) cb2 (l0 x y (by omega) (by omega)))
     have n0:O (F 181 #[I n,I k1,I k2,.func (.func 180) #[] #[M w.heap.size]] wr (Rq (I (fB n t k1 k2)) wr)):=
      za3 n k1 k2 (λi j=>t j i) 180 #[M w.heap.size] wr hn a0 b0 (λargs W=>by kernel_rfl) (λx y hx hy=>yv8 w.heap.size Lb x y (t y x) wr (by omega) (by omega) cb2 (l0 y x (by omega) (by omega)))
     obtain⟨jn,h0⟩:=U (join n t k1 k2);obtain⟨mt,o0⟩:=U (fB n t k1 k2);obtain⟨x12,e0⟩:∃x,x=t k1 k2:=⟨_,rfl⟩;obtain⟨x21,f0⟩:∃x,x=t k2 k1:=⟨_,rfl⟩;rw[<-h0]at m0;rw[<-o0]at n0;rw[<-e0]at q12;rw[<-f0]at q21;have hP:=yv9 n t k1 k2;rw[<-h0,<-o0,<-e0,<-f0]at hP;have HP:=A hP;have H0:=A h0;obtain⟨ve,I0⟩:=d0.ex (37+k1*6+k2) (by omega) (by omega);have J0:∀j,wr.frozen? (Y Lb j)=false:=λj=>(d0.tu.z j).trans (HZ j)
     have C0:O (bE n t k1 k2=true->zu5 Lb n t w k1 (k2+1) (wr.setCell (Y Lb (37+k1*6+k2)) (I jn))):=λhp=>by rw[h0];exact d0.next k0 hn a0 b0 hp
     clear hP h0 o0 e0 f0;obtain⟨p0,q0⟩|⟨p0,q0⟩:(((k1:Int) !=(k2:Int))=false/\(k1 !=k2)=false)\/(((k1:Int) !=(k2:Int))=true/\(k1 !=k2)=true):=by
      by_cases h:k1=k2
      ·left;rw[h];simp
      right;exact⟨bne_iff_ne.2 (by omega),bne_iff_ne.2 h⟩
     all_goals
      have v0:=A q0;clear q0
     rotate_left
     cases x12
     rotate_left
     cases x21
     rotate_left
     all_goals
      go_wp2_with fail
      refine m0.mono ?_;rintro e w1 ⟨rfl,i0⟩;rw[i0];clear i0 w1
      go_wp2_with fail
      refine n0.mono ?_;rintro e w1 ⟨rfl,i0⟩;rw[i0];clear i0 w1 m0 n0
     ·have HB:O (bE n t k1 k2=false):=by show _=_;rw[HP.out];rw[v0.out];rfl
      go_wp2_with fail
      try rw[Exit.noGoto_ret]
      go_ret;exact⟨d0.tu,.inr ⟨rfl,k1,k2,a0,b0,HB⟩⟩
     all_goals
      by_cases x0:jn<0
      ·have HB:O (bE n t k1 k2=false):=by show _=_;rw[HP.out];simp[x0]
       go_wp2_with fail
       try rw[Exit.noGoto_ret]
       go_ret;exact⟨d0.tu,.inr ⟨rfl,k1,k2,a0,b0,HB⟩⟩
      by_cases y0:mt<0
      ·have HB:O (bE n t k1 k2=false):=by show _=_;rw[HP.out];simp[y0]
       go_wp2_with fail
       try rw[Exit.noGoto_ret]
       go_ret;exact⟨d0.tu,.inr ⟨rfl,k1,k2,a0,b0,HB⟩⟩
      have HG:O (zu5 Lb n t w k1 (k2+1) (wr.setCell (Y Lb (37+k1*6+k2)) (I jn))):=C0 (by rw[HP.out,v0.out];simp[x0,y0]);go_wp2
      go_roundw
      case rel=>exact⟨by first|rfl|trivial,k2+1,by omega,by go_num,HG⟩
      case measure=>simp[intOf];omega
    have B0:¬(k2:Int)<(n:Int):=(by omega)
    obtain rfl:k2=n:=by omega
    have D0:O (zu5 Lb k2 t w (k1+1) 0 wr):=d0.row;go_wp2
    go_roundw
    case rel=>exact⟨by first|rfl|trivial,k1+1,by omega,by go_num,D0⟩
    case measure=>simp[intOf];omega
  have z0:¬(k1:Int)<(n:Int):=(by omega)
  go_wp2_with fail
  try rw[Exit.noGoto_ret]
  go_ret;exact⟨g0.tu,.inl ⟨rfl,λi j hi hj=>g0.dn i j (.inl ⟨by omega,hj⟩)⟩⟩
def zc0(Lb n:Nat)(t:Fl.cG)(w:World)(hn:n<=6)(i0:0<n)(j0:w.cell? (Y Lb 0)=some (I n))(ht:zxv w Lb 1 t)(hl:w.cell? (Y Lb 73)=some (I 0))(hz:∀j,w.frozen? (Y Lb j)=false):
  F 171 #[M Lb] w λe w'=>e=.returned (.tuple #[])/\Xh w w' Lb 73 1/\w'.cell? (Y Lb 73)=some (I (Fl.dZ t n)):=by
 have HT:=A ht;have HZ:=A hz
 have n0:(n:Int)<=6:=by omega
 have HL:=A hl;clear ht hz hl
 go_enter func171,ntmps171
 go_wp2_with fail
 clear j0
 go_loopw [7] (λi wr=>∃k:Nat,k<=n/\i=I k/\Xh w wr Lb 73 1/\D wr Lb 73 (I (Fl.dZ t k))) (λi _=>n - (intOf i).toNat)
 case atStart=>exact⟨0,by omega,rfl,Xh.refl _ _ _ _,HL⟩
 case round=>
  obtain⟨k,hk,rfl,d0,cq⟩:=hrel;have a0:=A d0;clear d0
  by_cases o0:k<n
  ·have hI:(k:Int)<(n:Int):=by omega
   have k0:=Fl.fV t i0 k (by omega);have q:=(a0.c (1+k*6+Fl.dZ t k) (by omega)).trans (HT k (Fl.dZ t k) (by omega) (by omega));have hz':∀j,wr.frozen? (Y Lb j)=false:=λj=>(a0.z j).trans (HZ j);obtain⟨lo,hlo'⟩:∃lo,lo=Fl.dZ t k:=⟨_,rfl⟩;rw[<-hlo']at cq k0 q;have b0:Fl.dZ t (k+1)=if t k lo then k else lo:=(by rw[hlo'];rfl);have e0:=A b0;obtain⟨xk,c0⟩:∃x,x=t k lo:=⟨_,rfl⟩;rw[<-c0]at q;have f0:=A c0;have l0:(lo:Int)<6:=(by omega);have m0:(k:Int)<6:=(by omega);clear b0 hlo' c0
   go_wp2_with fail
   refine wp_region_still_lit (by kernel_rfl) (by kernel_rfl) ?_
   iterate 11 still_step
   refine wpStill_nil ?_
   change Exit.then _ _ _ _ wr.drew
   have g0:D wr.drew Lb 73 (I lo):=cq;have h0:O (Xh w wr.drew Lb 73 1):=⟨⟨a0.g.os,a0.g.tape,a0.g.output,a0.g.size,a0.g.block⟩,a0.c,a0.z⟩;have p0:∀j,wr.drew.frozen? (Y Lb j)=false:=hz';clear cq q hz' a0;generalize wr.drew=W at*
   cases xk with
   |true=>
    have HN:O (Fl.dZ t (k+1)=k):=(by show _=_;rw[e0.out,<-f0.out];rfl);have HS:O (Xh w (W.setCell (Y Lb 73) (I k)) Lb 73 1/\D (W.setCell (Y Lb 73) (I k)) Lb 73 (I k)):=⟨h0.trans (Xh.set _ _ _ _ _ _ (by omega)),cell?_setCell_same' _ _ _ (by simp[g0])⟩;go_wp2
    go_roundw
    case rel=>exact⟨k+1,by omega,by go_num,HS.1,by rw[HN.out];exact HS.2⟩
    case measure=>simp[intOf];omega
   |false=>
    have HN:O (Fl.dZ t (k+1)=lo):=(by show _=_;rw[e0.out,<-f0.out];rfl);go_wp2
    go_roundw
    case rel=>exact⟨k+1,by omega,by go_num,h0,by rw[HN.out];exact g0⟩
    case measure=>simp[intOf];omega
  obtain rfl:k=n:=by omega
  have hI:¬(k:Int)<(k:Int):=(by omega)
  go_wp2_with fail
  go_end0
  exact⟨rfl,a0,cq⟩
def znx(t:Fl.cG):Vs:=(range 36).map λk=> .bool (t (k / 6) (k % 6))
def yp6(t:Fl.cG)(i j:Nat)(hi:i<6)(hj:j<6):(znx t)[i*6+j]?=some (.bool (t i j)):=by
 have e1:(i*6+j) / 6=i:=by omega
 have e2:(i*6+j) % 6=j:=by omega
 unfold znx;rw[getElem?_map,getElem?_range (by omega)];simp only[Option.map_some,e1,e2]
def znw(n:Nat)(t:Fl.cG):Vs:=[I n]++znx t++replicate 36 (I 0)++[I 0]
def zh8(w:World)(g o:Nat)(ty:TypeId)(cs:Vs)(d:TypeDesc)(hc:∀j v,cs[j]?=some v->w.cell? (Y g (o+j))=some v)
  (hu:P.underlying ty=some d) (hd:(match d with| .struct _| .array _ _=>true|_=>false)=true) (hi:(P.info? ty).map (·.size)=some cs.length):
  (Instr.loadAt ty (Pp g o)).run P w=.ok (.agg cs.toArray) w:=by
 have hl:(loadCells (Y g o) cs.length).run P w=.ok cs.toArray w:=
  run_loadCells_list (P:=P) w (Y g o) cs (λj v hv=>by
   have a0:((Y g o):Addr).add j=(Y g (o+j)):=by unfold Addr.add;split<;>simp_all
   rw[a0];exact hc j v hv)
 cases hq:P.info? ty with
 |none=>simp[hq]at hi
 |some i=>
  have hs:i.size=cs.length:=(by simpa [hq] using hi);have b0:(isAgg ty).run P w=.ok true w:=by
   unfold isAgg;rw[Sem.run_bind,run_underlying hu w]
   cases d<;>simp_all
  simp only[Instr.loadAt,Instr.sureAddr,Sem.run_bind,Sem.run_pure,Result.andThen];unfold loadVar;simp[Sem.run_bind,b0,sizeOf,typeInfo,hq,hs,hl,Result.andThen]
def Tryz.infoTab:(Tryz.prog.info? 122).map (·.size)=some 36:=by kernel_rfl
def zh9(t:Fl.cG):(znx t).length=36:=by simp[znx]
def yi4(n:Nat)(t:Fl.cG)(w:World):(Instr.build 247 #[(0,.int .i64 n),(1,.agg (znx t).toArray)]).run prog w=.ok (.agg (znw n t).toArray) w:=by kernel_rfl
def ym1(n:Nat)(t:Fl.cG):(znw n t)[0]?=some (.int .i64 n)/\(∀i j,i<6->j<6->(znw n t)[1+i*6+j]?=some (.bool (t i j)))/\(∀k,37<=k->k<73->∃v,(znw n t)[k]?=some v)/\(znw n t)[73]?=some (.int .i64 0):=by
 have hl:(znx t).length=36:=zh9 t;refine⟨rfl,λi j hi hj=>?_,λk hk hk2=>?_,?_⟩
 ·unfold znw
  rw[append_assoc,append_assoc,singleton_append,Nat.add_assoc,Nat.add_comm 1,getElem?_cons_succ,getElem?_append_left (by omega)];exact yp6 t i j hi hj
 ·have:k<(znw n t).length:=by simp[znw,hl];omega
  exact⟨_,Qb this⟩
 rfl
def ze3{o:Oper}{a:Act}(x:Operand)(ty:TypeId)(ho:o.op=.load ty x)(g q:Nat)(hx:a.eval x=.pointer (some ⟨g,q,none⟩))(cs:List Value)(d:TypeDesc)(hc:∀j v,cs[j]?=some v->w.cell? ⟨g,q+j,none⟩=some v)
  (hu:P.underlying ty=some d) (hd:(match d with| .struct _| .array _ _=>true|_=>false)=true) (hi:(P.info? ty).map (·.size)=some cs.length):(execOp a.eval o).run P w=.ok (.value (.agg cs.toArray)) w:=by
 unfold execOp;simp only[ho,Sem.run_bind,hx,zh8 w g q ty cs d hc hu hd hi,Result.andThen_ok,Sem.run_pure]
def znv{o:Oper}{a:Act}(t:TypeId)(parts:Array (Nat×Operand))(ho:o.op=.build t parts)(arr:Array Value)(vals:Array (Nat×Value))(hv:(parts.map λ(i,x)=>(i,a.eval x))=vals)
  (fp:(Instr.build t vals).run P w=.ok (.agg arr) w):(execOp a.eval o).run P w=.ok (.value (.agg arr)) w:=by
 unfold execOp;simp only[ho,Sem.run_bind,hv,fp,Result.andThen_ok,Sem.run_pure]
namespace Fl
def ko(n:Nat)(t r:cG)(h:∀i j,i<n->j<n->t i j=r i j):∀k,k<=n->∀i j,i<n->j<n->fw k t i j=fw k r i j
 |0,_,i,j,hi,hj=>h i j hi hj
 |k+1,hk,i,j,hi,hj=>by
  have ih:=ko n t r h k (by omega);simp only[fw,fd,ih i j hi hj,ih i k hi (by omega),ih k j (by omega) hj]
def ic(n:Nat)(t r:cG)(hn:0<n)(h:∀i j,i<n->j<n->t i j=r i j):∀k,k<=n->dZ t k=dZ r k
 |0,_=>rfl
 |k+1,hk=>by
  have ih:=ic n t r hn h k (by omega);simp only[dZ,ih,h k (dZ r k) (by omega) (fV r hn k (by omega))]
end Fl
def yi5(n:Nat)(t:Fl.cG)(w:World)(e:Ending)(w':World):Prop:=
 Below w.heap.size w w'/\((br n (Fl.fw n t)=true/\e=.returned (.tuple #[ptr w.heap.size,.bool true])/\w.heap.size<w'.heap.size/\∀r:Fl.cG,(∀i j,i<n->j<n->Fl.fw n t i j=r i j)->mV n r->Un w' w.heap.size n r)\/(br n (Fl.fw n t)=false/\e=.returned (.tuple #[.pointer none,.bool false])))
def zp8(h:Below lo w0 w)(hg:w.grownBy w' (some b))(hb:lo<=b)(hz:lo<=w.heap.size):Below lo w0 w':=
 h.grown hg hz (λk hk=>by simp only[Option.some.injEq]at hk;omega)
def yr0(R n:Nat)(t:Fl.cG)(w:World)(hn:n<=6)(c3:w.cell? ⟨R,3,none⟩=some (.int .i64 n))(ht:zxv w R 4 t):
  Calls prog 155 #[.pointer (some ⟨R,3,none⟩)] w (yi5 n t w):=by
 have HT:=A ht;have D0:R<w.heap.size:=Qe w _ c3
 have E0:∀j v,(znx t)[j]?=some v->w.drew.cell? ⟨R,4+j,none⟩=some v:=λj v hv=>by
  have hj:j<36:=(by rw[<-zh9 t];exact(List.getElem?_eq_some_iff.1 hv).1);have h1:=yp6 t (j / 6) (j % 6) (by omega) (by omega);rw[show j / 6*6+j % 6=j by omega]at h1;rw[h1]at hv;simp only[Option.some.injEq]at hv;have h2:=ht (j / 6) (j % 6) (by omega) (by omega);rw[show 4+j / 6*6+j % 6=4+j by omega,hv]at h2;exact h2
 have t0:=A E0;obtain⟨tl,r0⟩:=U (znx t);obtain⟨ll,u0⟩:=U (znw n t)
 have F0:O (∀W:World,(Instr.build 247 #[(0,.int .i64 n),(1,.agg tl.toArray)]).run prog W=.ok (.agg ll.toArray) W):=λW=>by rw[r0,u0];exact yi4 n t W
 have G0:=A r0;have H0:=A u0;rw[<-r0]at t0;clear ht E0 r0 u0
 go_enter func155,ntmps155
 go_wp2_with fail
 refine wp_region_still_tail 9 (by kernel_rfl) (by kernel_rfl) ?_;simp only[take_succ_cons,take_zero,drop_succ_cons,drop_zero]
 iterate 7 still_step
 refine Xm rfl (.agg tl.toArray) (ze3 _ 122 rfl R 4 rfl tl _ t0.out underlying122 rfl (by rw[G0.out,zh9];exact Tryz.infoTab)) ?_;refine Xm rfl (.agg ll.toArray) (znv 247 _ rfl ll.toArray _ (by kernel_rfl) (F0 _)) ?_;refine wpStill_nil ?_
 go_wp2_with fail
 obtain⟨W,hW⟩:=U ((w.alloc (.cells ll.toArray 247)).drew);obtain⟨Lb,h0⟩:=U (w.heap.size)
 have hB:Below w.heap.size w W:=by rw[hW];exact(bA).drew
 have i0:∀k v,ll[k]?=some v->W.cell? ⟨Lb,k,none⟩=some v:=λk v hv=>by
  rw[hW,h0];show (w.alloc (.cells ll.toArray 247)).cell? _=_;rw[cell?_alloc_new];simpa using hv
 have v0:∀k,W.frozen? ⟨Lb,k,none⟩=false:=λk=>by
  rw[hW,h0];show (w.alloc (.cells ll.toArray 247)).frozen? _=_;rw[frozen?,heap_alloc_new];simp
 have cH:W.heap.size=w.heap.size+1:=by rw[hW];simp
 obtain⟨k0,k1,k2,k3⟩:=ym1 n t;rw[<-H0.out]at k0 k1 k2 k3;have I0:O (zxv W Lb 1 t):=λi j hi hj=>i0 _ _ (k1 i j hi hj);have a0:W.cell? ⟨Lb,0,none⟩=some (.int .i64 n):=i0 _ _ k0
 have J0:O (∀k,37<=k->k<73->∃v,W.cell? ⟨Lb,k,none⟩=some v):=λk hk x0=>by obtain⟨v,hv⟩:=k2 k hk x0;exact⟨v,i0 _ _ hv⟩
 have j0:O (W.cell? ⟨Lb,73,none⟩=some (.int .i64 0)):=i0 _ _ k3;have K0:=A v0;have HB:=A hB;have d3:W.cell? ⟨R,3,none⟩=some (.int .i64 n):=(hB.cell (p:=⟨R,3,none⟩) D0).trans c3;have L0:=A a0;have e0:=A h0
 have hsz':W.heap.size=Lb+1:=by omega
 have M0:=A hsz';have N0:O (Calls prog 169 #[.pointer (some ⟨Lb,1,none⟩),.int .i64 n] W.drew λe w'=>e=.returned (.tuple #[])/\Vg W.drew w' Lb 1 36/\∃t',zxv w' Lb 1 t'/\(∀i j,i<n->j<n->t' i j=Fl.fw n t i j)):=yv7 Lb 1 n t W.drew hn I0 v0;rw[<-hW,<-h0];clear hW h0 hB i0 v0 cH hsz' k0 k1 k2 k3 c3 D0 F0 t0 G0 H0 HT;refine wp_region_still_tail 7 (by kernel_rfl) (by kernel_rfl) ?_;simp only[take_succ_cons,take_zero,drop_succ_cons,drop_zero]
 iterate 7 still_step
 refine wpStill_nil ?_;clear d3 a0
 go_wp2_with fail
 refine N0.mono ?_;rintro e W2 ⟨rfl,f0,t',ht',y0⟩;have V0:=A f0;have O0:=A ht';have W0:=A y0;have b0:W2.cell? ⟨Lb,0,none⟩=some (.int .i64 n):=(f0.c 0 (by omega)).trans L0.out;have P0:O (Below w.heap.size w W2):=by
  refine zp8 HB.drew f0.g (by rw[e0.out];exact Nat.le_refl _) ?_;have:=M0.out;have:=e0.out;simp;omega
 have Q0:O (∀k,W2.frozen? ⟨Lb,k,none⟩=false):=λk=>(f0.z k).trans (K0 k);have X0:O (W2.cell? ⟨Lb,73,none⟩=some (.int .i64 0)):=(f0.c 73 (by omega)).trans j0.out
 have Y0:O (∀k,37<=k->k<73->∃v,W2.cell? ⟨Lb,k,none⟩=some v):=λk hk x0=>by obtain⟨v,hv⟩:=J0 k hk x0;exact⟨v,(f0.c k (by omega)).trans hv⟩
 have Z0:O (W2.heap.size=Lb+1):=by show _=_;rw[f0.s];exact M0
 have l0:O (br n t'=br n (Fl.fw n t)):=gV y0;clear f0 ht' y0 N0 V0 I0 J0 j0 K0 L0
 by_cases z0:n=0
 ·have b1:((n:Int)==0)=true:=by rw[z0];rfl
  have A0:O (br n (Fl.fw n t)=false):=(by show _=_;rw[z0];rfl);clear z0;go_wp2
  go_ret2
  exact⟨P0,.inr ⟨A0,rfl⟩⟩
 have b1:((n:Int)==0)=false:=by rw[Qh];omega
 have B0:0<n:=by omega
 have R0:O (Calls prog 170 #[.pointer (some ⟨Lb,0,none⟩)] W2 (yi3 Lb n t' W2)):=yyz Lb n t' W2 hn b0 O0 Y0 Q0.out;have a1:=A b0
 go_wp2_with fail
 refine R0.mono ?_;rintro e W3 ⟨g0,m0⟩;have S0:O (Below w.heap.size w W3):=by
  refine zp8 P0 g0.g (by rw[e0.out];exact Nat.le_refl _) ?_;have:=Z0.out;have:=e0.out;omega
 clear b0 R0;rcases m0 with⟨rfl,aH⟩|⟨rfl,i,j,hi,hj,n0⟩
 ·have c1:O (br n (Fl.fw n t)=true):=by
   show _=_;rw[<-l0.out];exact(eP n t').2 ⟨B0,λi j hi hj=>(aH i j hi hj).1⟩
  have o0:O (zxv W3 Lb 1 t'):=λi j hi hj=>(g0.c (1+i*6+j) (by omega)).trans (O0 i j hi hj);have s0:W3.cell? ⟨Lb,0,none⟩=some (.int .i64 n):=(g0.c 0 (by omega)).trans a1.out;have T0:O (∀k,W3.frozen? ⟨Lb,k,none⟩=false):=λk=>(g0.z k).trans (Q0 k);have d1:O (∀i j,i<n->j<n->W3.cell? ⟨Lb,37+i*6+j,none⟩=some (.int .i64 (join n t' i j))):=λi j hi hj=>(aH i j hi hj).2;have U0:O (Calls prog 171 #[.pointer (some ⟨Lb,0,none⟩)] W3 λe w'=>e=.returned (.tuple #[])/\Xh W3 w' Lb 73 1/\w'.cell? ⟨Lb,73,none⟩=some (.int .i64 (Fl.dZ t' n))):=zc0 Lb n t' W3 hn B0 s0 o0 ((g0.c 73 (by omega)).trans X0) T0.out;have e1:=A s0;have f1:Lb<W3.heap.size:=Qe W3 _ s0;clear g0 aH s0
  go_wp2_with fail
  refine U0.mono ?_;rintro e W4 ⟨rfl,c0,p0⟩;have q0:O (Below w.heap.size w W4/\w.heap.size<W4.heap.size/\∀r:Fl.cG,(∀i j,i<n->j<n->Fl.fw n t i j=r i j)->mV n r->Un W4 w.heap.size n r):=by
   rw[<-e0.out];refine⟨?_,by have:=c0.g.size;omega,λr hr C0=>?_⟩
   ·rw[e0.out]
    exact zp8 S0 c0.g (by rw[e0.out];exact Nat.le_refl _) (by have:=e0.out;omega)
   have d0:∀i j,i<n->j<n->t' i j=r i j:=λi j hi hj=>(W0 i j hi hj).trans (hr i j hi hj);refine⟨λj=>(c0.z j).trans (T0 j),(c0.c 0 (by omega)).trans e1,λi j hi hj=>?_,λi j hi hj=>?_,?_⟩
   ·rw[<-d0 i j hi hj,show 1+6*i+j=1+i*6+j by omega]
    exact(c0.c _ (by omega)).trans (o0 i j (by omega) (by omega))
   ·rw[<-iJ d0 hi hj,show 37+6*i+j=37+i*6+j by omega]
    exact(c0.c _ (by omega)).trans (d1 i j hi hj)
   rw[p0,Fl.ic n t' r B0 d0 n (Nat.le_refl _),gF C0]
  clear c0 p0 U0;go_wp2
  go_ret2
  exact⟨q0.1,.inl ⟨c1,by rw[<-e0.out];rfl,q0.2⟩⟩
 have A0:O (br n (Fl.fw n t)=false):=by
  show _=_;rw[<-l0.out,Bool.eq_false_iff];intro h;have:=((eP n t').1 h).2 i j hi hj
  rw[n0]at this;cases this
 clear g0 n0;go_wp2
 go_ret2
 exact⟨S0,.inr ⟨A0,rfl⟩⟩
end Go.Proofs.YtjmcibbdedlcoaaGreatDoor
