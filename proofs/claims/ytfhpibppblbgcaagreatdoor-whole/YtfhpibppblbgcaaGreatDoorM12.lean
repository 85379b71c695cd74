import Derived.Test.YtfhpibppblbgcaaGreatDoorM05
set_option linter.all false
set_option maxRecDepth 100000
set_option maxHeartbeats 40000000
namespace Go.Proofs.YtfhpibppblbgcaaGreatDoor
open Go.RowKit Go.Proofs.Tryz
variable{lo base R Pb lm vm cm:Nat}{w0 w w':World}{r r':Fl.RS}{e:Ending}{v v':Value}
def ym4(b o:Nat)(n:Int)(w:World)(h:w.cell? (Aq b o)=some (Iq n)):Cq 134 #[.pointer (some (Aq b o))] w λe w'=>e=.returned (Iq n)/\w'=w:=by
 go_enter func134,ntmps134
 go_wp2;go_ret;exact⟨rfl,rfl⟩
def add_any(b o n:Nat)(v:Value)(w:World)(hn:n<6)(h:w.cell? (Aq b o)=some (Iq n))(hz:∀j,w.frozen? (Aq b j)=false)(hc:w.cell? (Aq b (o+1+n*6+n))=some v):Cq 135 #[.pointer (some (Aq b o))] w λe w'=>e=.returned (Iq n)/\w'=(w.setCell (Aq b (o+1+n*6+n)) (.bool true)).setCell (Aq b o) (Iq (n+1)):=by
 go_enter func135,ntmps135
 have a0:(w.setCell (Aq b (o+1+n*6+n)) (.bool true)).cell? (Aq b o)=some (Iq n):=by
  refine(Qg _ _ _ _ ?_).trans h;intro hh;injection hh with _ h2;omega
 go_wp2;go_ret;exact⟨rfl,rfl⟩
def yq0(b o i j:Nat)(v:Value)(w:World)(hi:i<6)(hj:j<6)(hz:∀j,w.frozen? (Aq b j)=false)(hc:w.cell? (Aq b (o+1+i*6+j))=some v):Cq 136 #[.pointer (some (Aq b o)),Iq i,Iq j] w λe w'=>e=.returned (.tuple #[])/\w'=w.setCell (Aq b (o+1+i*6+j)) (.bool true):=by
 have a0:(i:Int)<6:=by omega
 have b0:(j:Int)<6:=by omega
 go_enter func136,ntmps136
 go_wp2
 go_end0
 exact⟨rfl,rfl⟩
def zg0(names:List (List UInt8))(x:List UInt8)(aq:Int)(w:World)(e:Ending)(w':World):Prop:=
 Bq w w'/\(0<=Fl.ai names x->e=.returned (Iq (Fl.ai names x)))/\(Fl.ai names x<0->e=.panicked (Ze 4 aq))
def zqw(R lm:Nat)(aq:Int)(names:List (List UInt8))(x:List UInt8)(w:World)(hx:x.length<=100000)(hm:Yu w lm names)(c40:w.cell? (Aq R 40)=some (.map (some lm)))(c1:w.cell? (Aq R 1)=some (Iq aq)):
  Cq 137 #[Pq R,.string ⟨x.toArray⟩] w (zg0 names x aq w):=by
 have a0:=hm.look x hx;obtain⟨pl,b0⟩:=nmE (Fl.ai names x);rw[<-b0]at a0;unfold zg0;rw[<-b0];have HR:=Yd R 4 aq w c1;have c0:=Zz HR;clear b0 hm HR c1
 by_cases h0:0<=pl
 ·rw[show decide (0<=pl)=true by simpa using h0,show max 0 pl=pl by omega]at a0
  go_enter func137,ntmps137
  go_wp2_with (go_at_call 61;refine(Xc _ _ _).mono ?_;rintro e w' ⟨rfl,rfl⟩)
  go_ret;exact⟨Below.refl _ _,λ_=>rfl,λh=>by omega⟩
 rw[show decide (0<=pl)=false by simpa using h0]at a0
 go_enter func137,ntmps137
 go_wp2_with fail
 refine c0.mono ?_;rintro e w' ⟨rfl,hb⟩;exact⟨rfl,hb,λh=>by omega,λ_=>rfl⟩
def zv9(lo base R Pb lm vm cm:Nat)(w0 w':World):Prop:=Below lo w0 w'/\∀b,b<base->b≠R->b≠Pb->b≠lm->b≠vm->b≠cm->w'.heap[b]?=w0.heap[b]?
def Zn.gone{aq:Int}{m:Xt}(h:Zn lo base R Pb lm vm cm w0 w r aq m)(hb:Bq w w'):zv9 lo base R Pb lm vm cm w0 w':=⟨(h.below hb).bel,(h.below hb).fx⟩
def Zd(lo base R Pb lm vm cm:Nat)(w0:World)(aq:Int)(aV:Nat×Fl.RS)(e:Ending)(w':World):Prop:=
 (aV.1=0/\e=.returned (.tuple #[])/\∃m',Zn lo base R Pb lm vm cm w0 w' aV.2 aq m')\/(aV.1≠0/\e=.panicked (Ze aV.1 aq)/\zv9 lo base R Pb lm vm cm w0 w')
def Zd.fS{aq:Int}{aV:Nat×Fl.RS}{m':Xt}(hr:aV=(0,r'))(he:e=.returned (.tuple #[]))(h:Zn lo base R Pb lm vm cm w0 w' r' aq m'):Zd lo base R Pb lm vm cm w0 aq aV e w':=by
 subst hr;exact .inl ⟨rfl,he,m',h⟩
def Zd.eh{aq:Int}{aV:Nat×Fl.RS}{n:Nat}(hr:aV=(n,r'))(hn:n≠0)(he:e=.panicked (Ze n aq))(h:zv9 lo base R Pb lm vm cm w0 w'):Zd lo base R Pb lm vm cm w0 aq aV e w':=by
 subst hr;exact .inr ⟨hn,he,h⟩
def Zf.one{B:Nat}{ws:List (List UInt8)}(h:Zf B w v ws)(a0:ws≠[]):∃b off cap,v=.slice (some (Aq b off)) ws.length cap/\ws.length<=cap/\cap<=maxLen/\b<B/\(∀x∈ws,x.length<=100000)/\∀i,i<ws.length->w.cell? (Aq b (off+i))=some (.string ⟨(ws.getD i []).toArray⟩):=by
 obtain⟨ao,cap,h1,h2,h3,h4,h5,h6⟩:=h;obtain⟨b,off,rfl,hb,hc⟩:=h6 a0;exact⟨b,off,cap,h1,h2,h3,hb,h5,hc⟩
section
variable{aq:Int}{m:Xt}
def yy7(Pb lm vm cm:Nat)(aq:Int)(r:Fl.RS)(m:Xt)(i j:Nat)(hi:i<6)(hj:j<6):Vq Pb lm vm cm aq r m (4+i*6+j)=.bool (m.t i j):=by
 have e:(4+i*6+j - 4) / 6=i:=by omega
 have e2:(4+i*6+j - 4) % 6=j:=by omega
 unfold Vq;rw[if_neg (show ¬4+i*6+j=0 by omega),if_neg (show ¬4+i*6+j=1 by omega),if_neg (show ¬4+i*6+j=2 by omega),if_neg (show ¬4+i*6+j=3 by omega),if_neg (show ¬4+i*6+j=40 by omega),if_neg (show ¬4+i*6+j=41 by omega),if_neg (show ¬4+i*6+j=42 by omega),if_neg (show ¬4+i*6+j=43 by omega),if_neg (show ¬4+i*6+j=44 by omega),e,e2]
def Zn.ag(h:Zn lo base R Pb lm vm cm w0 w r aq m)(hb:r.ae=false)(x:List UInt8)(hl:r.au.length<6){w1:World}(e1:w1=(w.setCell (Aq R (4+r.au.length*6+r.au.length)) (.bool true)).setCell (Aq R 3) (Iq (r.au.length+1)))
  (hg:w1.grownBy w' (some lm)) (hn:Yu w' lm (r.au++[x])):∃m',Zn lo base R Pb lm vm cm w0 w' {r with au:=r.au++[x]} aq m':=by
 obtain⟨b1,b2,b3,b4,b5,b6⟩:=h.bL;obtain⟨l1,l2,l3,l4,l5⟩:=h.cV;obtain⟨n1,n2,n3,n4,n5,n6,n7,n8,n9,n10⟩:=h.nd
 have g0:w1.heap.size=w.heap.size:=by rw[e1,Zy,Zy]
 have hz:=hg.size
 have q1:∀b,b≠R->w1.heap[b]?=w.heap[b]?:=λb a0=>by rw[e1,Zx _ _ _ _ _ a0,Zx _ _ _ _ _ a0]
 have q:∀b,b≠R->b≠lm->b<w.heap.size->w'.heap[b]?=w.heap[b]?:=λb a0 c0 h0=>(hg.block b (by omega) (by simpa using c0)).trans (q1 b a0);have hc:=(h.cR.set (j:=4+r.au.length*6+r.au.length) (by omega) (.bool true)).set (j:=3) (by omega) (Iq (r.au.length+1));rw[<-e1]at hc;have d0:=hc.block (w':=w') (hg.block R (by omega) (by simpa using n2));refine⟨{m with t:=λi j=>if i=r.au.length/\j=r.au.length then true else m.t i j},?_⟩;refine{ok:= ?ok,bel:= ?bel,fx:=λb f1 f2 f3 f4 f5 f6=>(q b f2 f4 (by omega)).trans (h.fx b f1 f2 f3 f4 f5 f6),cV:=h.cV,bL:=⟨b1,b2,b3,b4,b5,by omega⟩,nd:=h.nd,cR:= ?cR,cP:=h.cP.block (q _ (Ne.symm n1) n5 (by omega)),nl:=hn,nv:=h.nv.block (q _ (Ne.symm n3) (Ne.symm n8) (by omega)),nc:=h.nc.block (q _ (Ne.symm n4) (Ne.symm n9) (by omega)),tab:= ?tab,re:= ?re}
 case ok=>
  exact{cn:=h.ok.cn,lv:=by simp;omega,ce:=h.ok.ce,ch:=h.ok.ch,lo:=h.ok.lo,st:=h.ok.st,fr:=h.ok.fr,cl:=h.ok.cl,hl:=h.ok.hl,cD:=h.ok.cD,dy:=h.ok.dy,head:=h.ok.head,below:=λp hp=>by have:=h.ok.below p hp;simp;omega,bD:=λy hy=>by have:=h.ok.bD y hy;simp;omega,bF:=λy hy=>by have:=h.ok.bF y hy;simp;omega,fT:=λhh=>by rw[hb]at hh;cases hh}
 case bel=>
  have e0:Below lo w0 w1:=(by rw[e1];exact(h.bel.setCell l1 _).setCell l1 _);exact e0.grown hg (by have:=h.bel.size;omega) (λk hk=>by simp only[Option.some.injEq]at hk;omega)
 case cR=>
  refine d0.congr λj hj=>?_
  by_cases h3:j=3
  ·subst h3;simp[Vq]
  rw[if_neg h3]
  by_cases h4:j=4+r.au.length*6+r.au.length
  ·rw[if_pos h4,h4,yy7 _ _ _ _ _ _ _ _ _ hl hl];simp
  rw[if_neg h4];unfold Vq
  by_cases hs:j=0\/j=1\/j=2\/j=40\/j=41\/j=42\/j=43\/j=44
  ·rcases hs with rfl|rfl|rfl|rfl|rfl|rfl|rfl|rfl<;>rfl
  rw[if_neg (show ¬j=0 by omega),if_neg (show ¬j=1 by omega),if_neg (show ¬j=2 by omega),if_neg h3,if_neg (show ¬j=40 by omega),if_neg (show ¬j=41 by omega),if_neg (show ¬j=42 by omega),if_neg (show ¬j=43 by omega),if_neg (show ¬j=44 by omega)];rw[if_neg (show ¬j=0 by omega),if_neg (show ¬j=1 by omega),if_neg (show ¬j=2 by omega),if_neg h3,if_neg (show ¬j=40 by omega),if_neg (show ¬j=41 by omega),if_neg (show ¬j=42 by omega),if_neg (show ¬j=43 by omega),if_neg (show ¬j=44 by omega)];simp only;rw[if_neg (by omega)]
 case tab=>
  intro i j hi hj;simp only[List.length_append,List.length_singleton]
  by_cases hn':i=r.au.length/\j=r.au.length
  ·rw[if_pos hn',hn'.1,hn'.2];simp[Fl.eQ]
  rw[if_neg hn',h.tab i j hi hj]
  by_cases b0:i<r.au.length
  ·simp[b0,show i<r.au.length+1 by omega]
  by_cases f0:i=r.au.length
  ·subst f0
   have:Fl.eQ r.aM r.aG r.au.length j=false:=by
    simp only[Fl.eQ,Bool.or_eq_false_iff,List.any_eq_false];refine⟨by simp;omega,λp hp=>?_⟩;have:=h.ok.below p hp;simp;omega
   rw[this];simp
  simp[b0,show ¬i<r.au.length+1 by omega]
 case re=>
  have hr:=h.re.kept (w':=w') (by omega) (λb hw=>q b (by have:=h.re.wh b hw;omega) (by have:=h.re.wh b hw;omega) (h.re.wh b hw).2);exact{wh:=hr.wh,oc:=hr.oc,tc:=hr.tc,oh:=hr.oh,th:=hr.th,pb:=hr.pb,tb:=hr.tb,fa:=hr.fa,oo:=hr.oo,to:=hr.to,la:=λhh=>by rw[show ({r with au:=r.au++[x]}:Fl.RS).ae=r.ae from rfl,hb]at hh;cases hh}
end
section
variable{aq:Int}{m:Xt}
def ym5(h:Zn lo base R Pb lm vm cm w0 w r aq m)(x0:r.ae=false)(B:Nat)(v:Value)(k x:List UInt8)(hB:B<=w.heap.size)(hw:Zf B w v [x])(l0:∀b,v.ownBlock=some b->base<=b):
  Cq 104 #[Pq R,v] w (Zd lo base R Pb lm vm cm w0 aq (r.head [k,x])):=by
 obtain⟨b,off,cap,rfl,e0,A0,B0,m0,a0⟩:=hw.one (by simp);have hx:x.length<=100000:=m0 x (by simp);have C0:base<=b:=l0 b rfl;have n0:Cl w b off (.string ⟨x.toArray⟩):=a0 0 (by simp);have c40:Cl w R 40 (.map (some lm)):=h.cR.c 40 (by omega);have D0:=h.ok.lv;obtain⟨mx,tb,o0,p0,-⟩:=h.drew.nl.io x hx;obtain⟨aV,b0⟩:=nmE (r.head [k,x]);rw[<-b0]
 have c0:Hid (aV=if 0<=Fl.ai r.au x then(4,r) else if r.au.length=6 then(5,r) else(0,{r with au:=r.au++[x]})):=by show _=_;rw[b0];rfl
 have HH:=Zz h;have q0:=Zz p0;simp only[List.length_cons,List.length_nil,Nat.zero_add]at e0⊢;clear h hw m0 a0 b0 p0 l0
 go_enter func104,ntmps104
 go_wp2_with fail
 refine wp_region_still_lit (by kernel_rfl) (by kernel_rfl) ?_
 iterate 7 still_step
 refine Xh rfl (.tuple #[Iq mx,.bool tb]) (Jx _ _ 92 rfl (.map (some lm)) (.string ⟨x.toArray⟩) _ rfl rfl o0) ?_
 iterate 5 still_step
 refine wpStill_nil ?_
 change Exit.then _ _ _ _ w.drew
 have HW:Hid (Zn lo base R Pb lm vm cm w0 w.drew r aq m):=HH.below dA;have hc0':Cl w.drew b off (.string ⟨x.toArray⟩):=n0;generalize w.drew=W at*;clear HH o0 n0 c40;have bL:=HW.bL;have cV:=HW.cV
 cases tb with
 |true=>
  have h0:0<=Fl.ai r.au x:=(by have:=q0.out;simpa using this);have HR:Hid (aV=(4,r)):=(by show _=_;rw[c0.out,if_pos h0]);clear h0;have f0:Hid (Cq 61 #[Pq R,.bool false,Iq 4] W λe w'=>e=.panicked (Ze 4 aq)/\Bq W w'):=Yd R 4 aq W (HW.cR.c 1 (by omega))
  go_wp2_with fail
  refine f0.mono ?_;rintro e w' ⟨rfl,hb'⟩;exact⟨rfl,Zd.eh HR (by decide) rfl (HW.gone hb')⟩
 |false=>
  have h0:¬0<=Fl.ai r.au x:=(by have:=q0.out;simpa using this);have HR:Hid (aV=if r.au.length=6 then(5,r) else(0,{r with au:=r.au++[x]})):=(by show _=_;rw[c0.out,if_neg h0]);have y0:Hid (Fl.ai r.au x<0):=(by show _<_;omega);clear h0;have c3:Cl W R 3 (Iq r.au.length):=HW.cR.c 3 (by omega);have r0:Hid (Cq 134 #[.pointer (some (Aq R 3))] W λe w'=>e=.returned (Iq r.au.length)/\w'=W):=ym4 R 3 _ W c3;have g0:Hid (∀n,Cq 61 #[Pq R,.bool true,Iq n] W λe w'=>e=.returned (.tuple #[])/\w'=W):=λn=>Xc R n W
  go_wp2_with fail
  refine(g0 _).mono ?_;rintro e w' ⟨rfl,hw'⟩;rw[hw'];clear hw'
  go_wp2_with fail
  refine r0.mono ?_;rintro e w' ⟨rfl,hw'⟩;rw[hw'];clear hw' r0
  by_cases h6:r.au.length=6
  ·have i0:Hid (aV=(5,r)):=by show _=_;rw[HR.out,if_pos h6]
   have b6:¬(r.au.length:Int)<6:=(by omega);have f0:Hid (Cq 61 #[Pq R,.bool false,Iq 5] W λe w'=>e=.panicked (Ze 5 aq)/\Bq W w'):=Yd R 5 aq W (HW.cR.c 1 (by omega))
   go_wp2_with fail
   refine f0.mono ?_;rintro e w' ⟨rfl,hb'⟩;exact⟨rfl,Zd.eh i0 (by decide) rfl (HW.gone hb')⟩
  have i0:Hid (aV=(0,{r with au:=r.au++[x]})):=(by show _=_;rw[HR.out,if_neg h6]);have b6:(r.au.length:Int)<6:=(by omega)
  go_wp2_with fail
  refine(g0 _).mono ?_;rintro e w' ⟨rfl,hw'⟩;rw[hw'];clear hw' g0
  go_wp2_with fail
  have s0:r.au.length<6:=(by omega);have c40:Cl W R 40 (.map (some lm)):=HW.cR.c 40 (by omega);obtain⟨W1,d0⟩:=nmE ((W.drew.setCell (Aq R (3+1+r.au.length*6+r.au.length)) (.bool true)).setCell (Aq R 3) (Iq (r.au.length+1)));have t0:Hid (Cq 135 #[.pointer (some (Aq R 3))] W.drew λe w'=>e=.returned (Iq r.au.length)/\w'=W1):=by
   have:=add_any R 3 r.au.length _ W.drew s0 c3 HW.cR.z (HW.cR.c (3+1+r.au.length*6+r.au.length) (by omega));rw[<-d0]at this;exact this
  have E0:=HW.nd
  have q1:∀k,k≠R->W1.heap[k]?=W.heap[k]?:=λk hk=>by rw[d0,Zx _ _ _ _ _ hk,Zx _ _ _ _ _ hk];rfl
  have k40:W1.cell? (Aq R 40)=some (.map (some lm)):=by
   rw[d0];refine(Qg _ _ _ _ (by intro hh;injection hh with _ h2;omega)).trans ((Qg _ _ _ _ (by intro hh;injection hh with _ h2;omega)).trans c40)
  have kb:W1.cell? (Aq b off)=some (.string ⟨x.toArray⟩):=by
   exact(Qc (a:=(Aq b off)) (q1 b (by omega))).trans hc0'
  obtain⟨W2,z0,u0,j0⟩:=(HW.nl.block (q1 lm (by omega))).put x hx y0 (by omega);obtain⟨m',hm'⟩:=HW.drew.ag x0 x s0 d0 j0 u0;have j40:Cl W2 R 40 (.map (some lm)):=hm'.cR.c 40 (by omega);have jb:W2.cell? (Aq b off)=some (.string ⟨x.toArray⟩):=by
   exact j0.cell kb (by simp;omega)
  have HM:=Zz hm';clear d0 q1 u0 j0 hm';refine ziy (λW=>Cl W R 40 (.map (some lm))/\Cl W b off (.string ⟨x.toArray⟩)) [0,1,2,3,4,5,6,7,8,9] 10 11 [] (by kernel_rfl) (by kernel_rfl) rfl [_,_,_,_,_,_,_,_,_,_] _ _ rfl rfl rfl (λc a d v w h=>by cases d<;>exact h) ⟨c40,hc0'⟩ (λops hG=>?_);clear hG
  repeat refine yv4 rfl (kE (by rintro _ ⟨k0,k1⟩;go_simp<;>rfl) (by go_simp<;>rfl) ?_)
  refine yn2 ?_
  go_wp2_with fail
  refine t0.mono ?_;rintro e w2 ⟨rfl,v0⟩;rw[v0];clear v0 t0
  go_wp2_with fail
  refine⟨⟨k40,kb⟩,?_⟩
  go_wp2_with fail
  refine⟨⟨j40,jb⟩,?_⟩
  go_end0
  exact Zd.fS i0 rfl HM.out
end
section
variable{aq:Int}{m:Xt}
def ym6(aM aG:List Nat)(a b:Nat)(h:aM.length=aG.length)(i j:Nat):Fl.eQ (aM++[a]) (aG++[b]) i j=(Fl.eQ aM aG i j||(a==i && b==j)):=by
 unfold Fl.eQ;rw[List.zip_append h];simp[Bool.or_assoc]
def zvz(Pb lm vm cm:Nat)(aq:Int)(r r':Fl.RS)(m m':Xt)(j:Nat)(e1:r'.ae=r.ae)(e2:r'.au.length=r.au.length)(e3:m'.ov=m.ov)(e4:r'.ap=r.ap)(h:j<45)(ht:∀a b,a<6->b<6->j=4+a*6+b->m'.t a b=m.t a b):Vq Pb lm vm cm aq r' m' j=Vq Pb lm vm cm aq r m j:=by
 unfold Vq;rw[e1,e2,e3,e4]
 by_cases hs:j=0\/j=1\/j=2\/j=3\/j=40\/j=41\/j=42\/j=43\/j=44
 ·rcases hs with rfl|rfl|rfl|rfl|rfl|rfl|rfl|rfl|rfl<;>rfl
 rw[ht ((j - 4) / 6) ((j - 4) % 6) (by omega) (by omega) (by omega)]
def Zn.pair(h:Zn lo base R Pb lm vm cm w0 w r aq m)(hb:r.ae=false)(i j:Nat)(hi:i<r.au.length)(hj:j<r.au.length):Zn lo base R Pb lm vm cm w0 (w.setCell (Aq R (4+i*6+j)) (.bool true)) {r with aM:=r.aM++[i],aG:=r.aG++[j]} aq {m with t:=λa b=>if a=i/\b=j then true else m.t a b}:=by
 obtain⟨b1,b2,b3,b4,b5,b6⟩:=h.bL;obtain⟨l1,l2,l3,l4,l5⟩:=h.cV;obtain⟨n1,n2,n3,n4,n5,n6,n7,n8,n9,n10⟩:=h.nd;have hl:=h.ok.lv;have hz:(w.setCell (Aq R (4+i*6+j)) (.bool true)).heap.size=w.heap.size:=Zy _ _ _;have q:∀b,b≠R->(w.setCell (Aq R (4+i*6+j)) (.bool true)).heap[b]?=w.heap[b]?:=λb b0=>Zx _ _ _ _ _ b0;have hc:=h.cR.set (j:=4+i*6+j) (by omega) (.bool true);refine{ok:= ?ok,bel:=h.bel.setCell l1 _,fx:=λb f1 f2 f3 f4 f5 f6=>(q b f2).trans (h.fx b f1 f2 f3 f4 f5 f6),cV:=h.cV,bL:=⟨b1,b2,b3,b4,b5,by omega⟩,nd:=h.nd,cR:= ?cR,cP:=h.cP.block (q _ (Ne.symm n1)),nl:=h.nl.block (q _ (Ne.symm n2)),nv:=h.nv.block (q _ (Ne.symm n3)),nc:=h.nc.block (q _ (Ne.symm n4)),tab:= ?tab,re:= ?re}
 case ok=>
  exact{
      cn:=h.ok.cn,lv:=h.ok.lv,ce:=h.ok.ce,ch:=h.ok.ch,lo:=h.ok.lo,st:=h.ok.st,fr:=h.ok.fr,cl:=h.ok.cl,hl:=h.ok.hl,cD:=by simp[h.ok.cD],dy:=h.ok.dy,head:=h.ok.head,below:=λp hp=>by
       rw[List.zip_append h.ok.cD,List.mem_append]at hp;rcases hp with hp|hp
       ·exact h.ok.below p hp
       simp at hp;subst hp;exact⟨hi,hj⟩
      bD:=h.ok.bD,bF:=h.ok.bF,fT:=λhh=>by rw[show ({r with aM:=r.aM++[i],aG:=r.aG++[j]}:Fl.RS).ae=r.ae from rfl,hb]at hh;cases hh}
 case cR=>
  refine hc.congr λk hk=>?_
  by_cases h4:k=4+i*6+j
  ·rw[if_pos h4,h4,yy7 _ _ _ _ _ _ _ _ _ (by omega) (by omega)];simp
  rw[if_neg h4];exact(zvz Pb lm vm cm aq r {r with aM:=r.aM++[i],aG:=r.aG++[j]} m {m with t:=λa b=>if a=i/\b=j then true else m.t a b} k rfl rfl rfl rfl hk (λa b ha hb he=>if_neg (by rintro⟨rfl,rfl⟩;exact h4 he))).symm
 case tab=>
  intro a b ha hb';show (if a=i/\b=j then true else m.t a b)=_;rw[ym6 _ _ _ _ h.ok.cD]
  by_cases a0:a=i/\b=j
  ·rw[if_pos a0];simp[a0.1,a0.2,hi]
  rw[if_neg a0,h.tab a b ha hb']
  have:(i==a && j==b)=false:=by simp;omega
  rw[this,Bool.or_false]
 case re=>
  have hr:=h.re.kept (w':=w.setCell (Aq R (4+i*6+j)) (.bool true)) (by omega) (λb hw=>q b (by have:=h.re.wh b hw;omega));exact{wh:=hr.wh,oc:=hr.oc,tc:=hr.tc,oh:=hr.oh,th:=hr.th,pb:=hr.pb,tb:=hr.tb,fa:=hr.fa,oo:=hr.oo,to:=hr.to,la:=λhh=>by rw[show ({r with aM:=r.aM++[i],aG:=r.aG++[j]}:Fl.RS).ae=r.ae from rfl,hb]at hh;cases hh}
def yq1(h:Zn lo base R Pb lm vm cm w0 w r aq m)(A0:r.ae=false)(B:Nat)(v:Value)(n l:List UInt8)(hB:B<=w.heap.size)(hw:Zf B w v [n,l])(u0:∀b,v.ownBlock=some b->base<=b):
  Cq 105 #[Pq R,v] w (Zd lo base R Pb lm vm cm w0 aq (r.head [Fl.bM,n,l])):=by
 obtain⟨b,off,cap,rfl,o0,G0,H0,p0,b0⟩:=hw.one (by simp);have I0:base<=b:=u0 b rfl;have hn:n.length<=100000:=p0 n (by simp);have hl:l.length<=100000:=p0 l (by simp);have q0:Cl w b off (.string ⟨n.toArray⟩):=b0 0 (by simp);have r0:Cl w b (off+1) (.string ⟨l.toArray⟩):=b0 1 (by simp);obtain⟨aV,c0⟩:=nmE (r.head [Fl.bM,n,l]);rw[<-c0];have d0:Hid (aV=if Fl.ai r.au n<0\/Fl.ai r.au l<0 then(4,r) else(0,{r with aM:=r.aM++[(Fl.ai r.au n).toNat],aG:=r.aG++[(Fl.ai r.au l).toNat]})):=by
  show _=_;rw[c0];simp[Fl.RS.head]
 have HH:=Zz h;have v0:Hid (∀W x,x.length<=100000->Zn lo base R Pb lm vm cm w0 W r aq m->Cq 137 #[Pq R,.string ⟨x.toArray⟩] W (zg0 r.au x aq W)):=λW x hx hW=>zqw R lm aq r.au x W hx hW.nl (hW.cR.c 40 (by omega)) (hW.cR.c 1 (by omega));simp only[List.length_cons,List.length_nil,Nat.zero_add]at o0⊢;clear h hw p0 b0 c0 u0
 go_enter func105,ntmps105
 go_wp2_with fail
 refine zix (λW=>Cl W b off (.string ⟨n.toArray⟩)/\Cl W b (off+1) (.string ⟨l.toArray⟩)) [(true,0),(true,1),(true,2),(true,3),(true,4),(true,5),(true,6),(true,8),(true,9),(true,10),(true,11),(false,7),(false,12),(false,13)] (by kernel_rfl) (by kernel_rfl) rfl [(_,_),(_,_),(_,_),(_,_),(_,_),(_,_),(_,_),(_,_),(_,_),(_,_),(_,_),(_,_),(_,_),(_,_)] rfl (λc a d v w h=>by cases d<;>exact h) ⟨q0,r0⟩ (λops=>?_)
 repeat refine ysx rfl (kE (by rintro _ ⟨k0,k1⟩;go_simp<;>rfl) (by go_simp<;>rfl) ?_)
 refine zkw ?_;have HW:Hid (Zn lo base R Pb lm vm cm w0 w.drew r aq m):=HH.drew;have bL:=HW.bL;have cV:=HW.cV;have s0:Cl w.drew b off (.string ⟨n.toArray⟩):=q0;have x0:Cl w.drew b (off+1) (.string ⟨l.toArray⟩):=r0;generalize w.drew=W at*;clear q0 r0 HH
 go_wp2_with fail
 refine(v0 W n hn HW).mono ?_;rintro e W1 ⟨j0,h0,a0⟩;have B0:Bq W W1:=j0;have m0:Hid (Zn lo base R Pb lm vm cm w0 W1 r aq m):=HW.below j0;have hbz:b<W.heap.size:=Qe W _ s0;have e0:Cl W1 b off (.string ⟨n.toArray⟩):=(j0.cell (p:=(Aq b off)) hbz).trans s0;have e1:Cl W1 b (off+1) (.string ⟨l.toArray⟩):=(j0.cell (p:=(Aq b (off+1))) hbz).trans x0;have y0:Hid (zv9 lo base R Pb lm vm cm w0 W1):=⟨m0.bel,m0.fx⟩;clear s0 x0 j0 B0;obtain⟨i,hi⟩:=nmE (Fl.ai r.au n);rw[<-hi]at h0 a0
 by_cases C0:0<=i
 case neg=>
  obtain rfl:=a0 (by omega);have HR:aV=(4,r):=(by rw[d0.out,if_pos (.inl (by omega))]);exact⟨rfl,Zd.eh HR (by decide) rfl y0⟩
 obtain rfl:=h0 C0;have J0:i<r.au.length:=by
  rcases Fl.aR r.au n with h|h
  ·omega
  omega
 have HI:=Zz hi;clear h0 a0 hi y0
 go_wp2_with fail
 refine⟨⟨e0,e1⟩,?_⟩;refine zkw ?_
 go_wp2_with fail
 refine(v0 W1 l hl m0).mono ?_;rintro e W2 ⟨n0,h0,a0⟩;have i0:Hid (Zn lo base R Pb lm vm cm w0 W2 r aq m):=m0.below n0;have l0:b<W1.heap.size:=Qe W1 _ e0;have f0:Cl W2 b off (.string ⟨n.toArray⟩):=(n0.cell (p:=(Aq b off)) l0).trans e0;have f1:Cl W2 b (off+1) (.string ⟨l.toArray⟩):=(n0.cell (p:=(Aq b (off+1))) l0).trans e1;clear e0 e1 n0;obtain⟨j,hj⟩:=nmE (Fl.ai r.au l);rw[<-hj]at h0 a0
 by_cases D0:0<=j
 case neg=>
  obtain rfl:=a0 (by omega);have HR:aV=(4,r):=(by rw[d0.out,if_pos (.inr (by omega))]);exact⟨rfl,Zd.eh HR (by decide) rfl ⟨i0.bel,i0.fx⟩⟩
 obtain rfl:=h0 D0;have K0:j<r.au.length:=by
  rcases Fl.aR r.au l with h|h
  ·omega
  omega
 have HR:Hid (aV=(0,{r with aM:=r.aM++[i.toNat],aG:=r.aG++[j.toNat]})):=by
  show _=_;rw[d0.out,if_neg (by rw[<-HI.out,<-hj];omega),<-HI.out,<-hj]
 have L0:=i0.ok.lv;have HP:Hid (∃m',Zn lo base R Pb lm vm cm w0 (W2.setCell (Aq R (3+1+i.toNat*6+j.toNat)) (.bool true)) {r with aM:=r.aM++[i.toNat],aG:=r.aG++[j.toNat]} aq m'):=⟨_,i0.pair A0 i.toNat j.toNat (by omega) (by omega)⟩;have z0:Hid (Cq 136 #[.pointer (some (Aq R 3)),Iq i,Iq j] W2 λe w'=>e=.returned (.tuple #[])/\w'=W2.setCell (Aq R (3+1+i.toNat*6+j.toNat)) (.bool true)):=by
  have:=yq0 R 3 i.toNat j.toNat _ W2 (by omega) (by omega) i0.cR.z (i0.cR.c (3+1+i.toNat*6+j.toNat) (by omega));rw[show ((i.toNat:Nat):Int)=i by omega,show ((j.toNat:Nat):Int)=j by omega]at this;exact this
 have g0:∀W,W=W2.setCell (Aq R (3+1+i.toNat*6+j.toNat)) (.bool true)->Cl W b off (.string ⟨n.toArray⟩)/\Cl W b (off+1) (.string ⟨l.toArray⟩):=λW hW=>by
  have hq:W.heap[b]?=W2.heap[b]?:=(by rw[hW];exact Zx _ _ _ _ _ (by omega));exact⟨(Qc (a:=(Aq b off)) hq).trans f0,(Qc (a:=(Aq b (off+1))) hq).trans f1⟩
 have HG:=Zz g0;clear h0 a0 hj g0
 go_wp2_with fail
 refine⟨⟨f0,f1⟩,?_⟩;refine zkw ?_
 go_wp2_with fail
 refine z0.mono ?_;rintro e W3 ⟨rfl,t0⟩;have E0:=HG W3 t0
 have F0:Hid (∃m',Zn lo base R Pb lm vm cm w0 W3 {r with aM:=r.aM++[i.toNat],aG:=r.aG++[j.toNat]} aq m'):=by rw[t0];exact HP
 clear t0 HP HG z0
 go_wp2_with fail
 refine⟨E0,?_⟩;refine yn3 ?_
 go_end0
 obtain⟨m',hm'⟩:=F0.out;exact Zd.fS HR rfl hm'
end
section
variable{aq:Int}{m:Xt}
structure ButAt(T base:Nat)(w':World)(r:Fl.RS)(m:Xt)(who':Nat->Nat):Prop where
 oc:T≠3->w'.ownsRow base 3 1 m.bD r.aZ.length (Yi r.aZ)/\∀b,m.bD.ownBlock=some b->who' b=3
 oh:T≠4->w'.ownsRow base 3 1 m.bF r.aY.length (Yi r.aY)/\∀b,m.bF.ownBlock=some b->who' b=4
 pb:T≠1->Yn 3 (λb=>who' b=0) base w' m.bv r.bC (Va m.gs)/\∀b,m.bv.ownBlock=some b->who' b=1
 fa:(T<10\/10+3*r.fr.length<=T)->Vh who' base w' (3 - r.fr.length) [] r.fr m.gs
 oo:T≠2->w'.ownsRow base 250 1 m.ov r.fr.length ((m.gs.map λg=>ptr g.ob).reverse)/\∀b,m.ov.ownBlock=some b->who' b=2
 la:r.ae=true->∃Lb,m.pl=ptr Lb/\who' Lb=0/\Ur w' Lb r.au.length r.tab
def zu8.ot(h:zu8 base w r m)(T:Nat)(hT:T≠0/\T≠5)(who':Nat->Nat)(q:∀b,m.aC b≠5->m.aC b≠T->who' b=m.aC b/\w'.heap[b]?=w.heap[b]?):ButAt T base w' r m who':=by
 have q0:∀b,m.aC b=0->who' b=0/\w'.heap[b]?=w.heap[b]?:=λb hb=>by
  have:=q b (by rw[hb];decide) (by rw[hb];exact Ne.symm hT.1);rw[hb]at this;exact this
 refine{oc:=λa0=>?_,oh:=λa0=>?_,pb:=λa0=>?_,fa:=λa0=>?_,oo:=λa0=>?_,la:=λhg=>?_}
 ·have q3:∀b,m.bD.ownBlock=some b->who' b=3/\w'.heap[b]?=w.heap[b]?:=λb hb=>by
   have:=q b (by rw[h.tc b hb];decide) (by rw[h.tc b hb];exact Ne.symm a0);rw[h.tc b hb]at this;exact this
  exact⟨Yw h.oc (λb hv=>(q3 b hv).2),λb hb=>(q3 b hb).1⟩
 ·have q3:∀b,m.bF.ownBlock=some b->who' b=4/\w'.heap[b]?=w.heap[b]?:=λb hb=>by
   have:=q b (by rw[h.th b hb];decide) (by rw[h.th b hb];exact Ne.symm a0);rw[h.th b hb]at this;exact this
  exact⟨Yw h.oh (λb hv=>(q3 b hv).2),λb hb=>(q3 b hb).1⟩
 ·have q3:∀b,m.bv.ownBlock=some b->who' b=1/\w'.heap[b]?=w.heap[b]?:=λb hb=>by
   have:=q b (by rw[h.tb b hb];decide) (by rw[h.tb b hb];exact Ne.symm a0);rw[h.tb b hb]at this;exact this
  exact⟨h.pb.kept (λb hb=>(q0 b hb).1) (λb hb=>(q0 b hb).2) (λb hv=>(q3 b hv).2),λb hb=>(q3 b hb).1⟩
 ·exact h.fa.kept (λb hb=>by
   rcases hb with hb|hb
   ·have:=q0 b hb;rw[hb];exact this
   exact q b (by omega) (by omega))
 ·have q3:∀b,m.ov.ownBlock=some b->who' b=2/\w'.heap[b]?=w.heap[b]?:=λb hb=>by
   have:=q b (by rw[h.to b hb];decide) (by rw[h.to b hb];exact Ne.symm a0);rw[h.to b hb]at this;exact this
  exact⟨Yw h.oo (λb hv=>(q3 b hv).2),λb hb=>(q3 b hb).1⟩
 obtain⟨Lb,l1,l2,l3⟩:=h.la hg;exact⟨Lb,l1,(q0 Lb l2).1,l3.block (q0 Lb l2).2⟩
def retag{aC:Nat->Nat}{T:Nat}{z z':Nat}(a0:∀b,aC b≠5->base<=b/\b<z)(hv:∀b,v.ownBlock=some b->aC b=T)(hT:T≠5)(hw:v'.ownBlock=v.ownBlock\/∃g,v'.ownBlock=some g/\z<=g)(b0:∀b,v'.ownBlock=some b->base<=b/\b<z')(hz:z<=z'):
  (∀b,(if v'.ownBlock=some b then T else aC b)≠5->base<=b/\b<z')/\(∀b,aC b≠5->aC b≠T->(if v'.ownBlock=some b then T else aC b)=aC b):=by
 refine⟨λb hb=>?_,λb h5 hbT=>?_⟩
 ·by_cases hv':v'.ownBlock=some b
  ·exact b0 b hv'
  rw[if_neg hv']at hb;have:=a0 b hb;omega
 rw[if_neg];intro hv';rcases hw with hw|⟨g,hg,c0⟩
 ·exact hbT (hv b (hw.symm.trans hv'))
 rw[hg]at hv';simp only[Option.some.injEq]at hv';have:=a0 b h5;omega
def Zn.cell(h:Zn lo base R Pb lm vm cm w0 w r aq m)(hb:r.ae=false)(x:List UInt8)(lv:Nat)(e0:lv<r.au.length)(h0:r.cells.length<6)
  (hz:w.heap.size<=w'.heap.size) (hq:∀b,b<w.heap.size->b≠vm->b≠Pb->m.bD.ownBlock≠some b->w'.heap[b]?=w.heap[b]?) (d0:Below lo w0 w') (f0:Zb w' Pb 5 (rw_ [m.pl,v',m.bF,Iq r.am.length,m.bv]))
  (g0:Yu w' vm ((r.cells++[x])++r.am)) (c0:w'.ownsRow base 3 1 v' (r.aZ.length+1) (Yi (r.aZ++[lv]))) (hw:v'.ownBlock=m.bD.ownBlock\/∃g,v'.ownBlock=some g/\w.heap.size<=g):
  ∃m',Zn lo base R Pb lm vm cm w0 w' {r with cells:=r.cells++[x],aZ:=r.aZ++[lv]} aq m':=by
 obtain⟨b1,b2,b3,b4,b5,b6⟩:=h.bL;obtain⟨n1,n2,n3,n4,n5,n6,n7,n8,n9,n10⟩:=h.nd;obtain⟨i0,j0,k0,l0⟩:=h.ok.head hb
 have b0:∀b,b<base->m.bD.ownBlock≠some b:=λb m0 hv=>by have:=(h.re.oc.lt b hv).1;omega
 have ht:=retag (z':=w'.heap.size) h.re.wh h.re.tc (by decide) hw (λb hv=>⟨(c0.lt b hv).1,(c0.lt b hv).2⟩) hz;have a0:=h.re.ot (w':=w') 3 (by decide) (λb=>if v'.ownBlock=some b then 3 else m.aC b) (λb h5 h3=>⟨ht.2 b h5 h3,hq b (h.re.wh b h5).2 (by have:=h.re.wh b h5;omega) (by have:=h.re.wh b h5;omega) (λhv=>h3 (h.re.tc b hv))⟩);refine⟨{m with bD:=v',aC:=λb=>if v'.ownBlock=some b then 3 else m.aC b},?_⟩;refine{ok:= ?ok,bel:=d0,fx:=λb f1 f2 f3 f4 f5 f6=>(hq b (by omega) f5 f3 (b0 b f1)).trans (h.fx b f1 f2 f3 f4 f5 f6),cV:=h.cV,bL:=⟨b1,b2,b3,b4,b5,by omega⟩,nd:=h.nd,cR:= ?cR,cP:=f0,nl:=h.nl.block (hq _ (by omega) n8 (Ne.symm n5) (b0 _ b3)),nv:=g0,nc:=h.nc.block (hq _ (by omega) (Ne.symm n10) (Ne.symm n7) (b0 _ b5)),tab:=h.tab,re:= ?re}
 case ok=>
  exact{
      cn:=h.ok.cn,lv:=h.ok.lv,ce:=by simp;omega,ch:=h.ok.ch,lo:=h.ok.lo,st:=h.ok.st,fr:=h.ok.fr,cl:=by simp[h.ok.cl],hl:=h.ok.hl,cD:=h.ok.cD,dy:=h.ok.dy,head:=h.ok.head,below:=h.ok.below,bD:=λy hy=>by
       simp only[List.mem_append,List.mem_singleton]at hy;rcases hy with hy|rfl
       ·exact h.ok.bD y hy
       exact e0
      bF:=h.ok.bF,fT:=λhh=>by rw[show ({r with cells:=r.cells++[x],aZ:=r.aZ++[lv]}:Fl.RS).ae=r.ae from rfl,hb]at hh;cases hh}
 case cR=>
  refine(h.cR.block (hq _ (by omega) n3 n1 (b0 _ b1))).congr λk hk=>?_;exact(zvz Pb lm vm cm aq r {r with cells:=r.cells++[x],aZ:=r.aZ++[lv]} m {m with bD:=v',aC:=λb=>if v'.ownBlock=some b then 3 else m.aC b} k rfl rfl rfl rfl hk (λa b ha hb he=>rfl)).symm
 case re=>
  exact{wh:=ht.1,oc:=by simpa using c0,tc:=λb hv=>if_pos hv,oh:=(a0.oh (by decide)).1,th:=(a0.oh (by decide)).2,pb:=(a0.pb (by decide)).1,tb:=(a0.pb (by decide)).2,fa:=a0.fa (.inl (by decide)),oo:=(a0.oo (by decide)).1,to:=(a0.oo (by decide)).2,la:=λhh=>by rw[show ({r with cells:=r.cells++[x],aZ:=r.aZ++[lv]}:Fl.RS).ae=r.ae from rfl,hb]at hh;cases hh}
def Zn.channel(h:Zn lo base R Pb lm vm cm w0 w r aq m)(hb:r.ae=false)(x:List UInt8)(lv:Nat)(e0:lv<r.au.length)(h0:r.aj.length<3)
  (hz:w.heap.size<=w'.heap.size) (hq:∀b,b<w.heap.size->b≠cm->b≠Pb->m.bF.ownBlock≠some b->w'.heap[b]?=w.heap[b]?) (d0:Below lo w0 w') (f0:Zb w' Pb 5 (rw_ [m.pl,m.bD,v',Iq r.am.length,m.bv]))
  (g0:Yu w' cm (r.aj++[x])) (c0:w'.ownsRow base 3 1 v' (r.aY.length+1) (Yi (r.aY++[lv]))) (hw:v'.ownBlock=m.bF.ownBlock\/∃g,v'.ownBlock=some g/\w.heap.size<=g):
  ∃m',Zn lo base R Pb lm vm cm w0 w' {r with aj:=r.aj++[x],aY:=r.aY++[lv]} aq m':=by
 obtain⟨b1,b2,b3,b4,b5,b6⟩:=h.bL;obtain⟨n1,n2,n3,n4,n5,n6,n7,n8,n9,n10⟩:=h.nd
 have b0:∀b,b<base->m.bF.ownBlock≠some b:=λb i0 hv=>by have:=(h.re.oh.lt b hv).1;omega
 have ht:=retag (z':=w'.heap.size) h.re.wh h.re.th (by decide) hw (λb hv=>⟨(c0.lt b hv).1,(c0.lt b hv).2⟩) hz;have a0:=h.re.ot (w':=w') 4 (by decide) (λb=>if v'.ownBlock=some b then 4 else m.aC b) (λb h5 h3=>⟨ht.2 b h5 h3,hq b (h.re.wh b h5).2 (by have:=h.re.wh b h5;omega) (by have:=h.re.wh b h5;omega) (λhv=>h3 (h.re.th b hv))⟩);refine⟨{m with bF:=v',aC:=λb=>if v'.ownBlock=some b then 4 else m.aC b},?_⟩;refine{ok:= ?ok,bel:=d0,fx:=λb f1 f2 f3 f4 f5 f6=>(hq b (by omega) f6 f3 (b0 b f1)).trans (h.fx b f1 f2 f3 f4 f5 f6),cV:=h.cV,bL:=⟨b1,b2,b3,b4,b5,by omega⟩,nd:=h.nd,cR:= ?cR,cP:=f0,nl:=h.nl.block (hq _ (by omega) n9 (Ne.symm n5) (b0 _ b3)),nv:=h.nv.block (hq _ (by omega) n10 (Ne.symm n6) (b0 _ b4)),nc:=g0,tab:=h.tab,re:= ?re}
 case ok=>
  exact{
      cn:=h.ok.cn,lv:=h.ok.lv,ce:=h.ok.ce,ch:=by simp;omega,lo:=h.ok.lo,st:=h.ok.st,fr:=h.ok.fr,cl:=h.ok.cl,hl:=by simp[h.ok.hl],cD:=h.ok.cD,dy:=h.ok.dy,head:=h.ok.head,below:=h.ok.below,bF:=λy hy=>by
       simp only[List.mem_append,List.mem_singleton]at hy;rcases hy with hy|rfl
       ·exact h.ok.bF y hy
       exact e0
      bD:=h.ok.bD,fT:=λhh=>by rw[show ({r with aj:=r.aj++[x],aY:=r.aY++[lv]}:Fl.RS).ae=r.ae from rfl,hb]at hh;cases hh}
 case cR=>
  refine(h.cR.block (hq _ (by omega) n4 n1 (b0 _ b1))).congr λk hk=>?_;exact(zvz Pb lm vm cm aq r {r with aj:=r.aj++[x],aY:=r.aY++[lv]} m {m with bF:=v',aC:=λb=>if v'.ownBlock=some b then 4 else m.aC b} k rfl rfl rfl rfl hk (λa b ha hb he=>rfl)).symm
 case re=>
  exact{wh:=ht.1,oc:=(a0.oc (by decide)).1,tc:=(a0.oc (by decide)).2,oh:=by simpa using c0,th:=λb hv=>if_pos hv,pb:=(a0.pb (by decide)).1,tb:=(a0.pb (by decide)).2,fa:=a0.fa (.inl (by decide)),oo:=(a0.oo (by decide)).1,to:=(a0.oo (by decide)).2,la:=λhh=>by rw[show ({r with aj:=r.aj++[x],aY:=r.aY++[lv]}:Fl.RS).ae=r.ae from rfl,hb]at hh;cases hh}
end
section
variable{aq:Int}{m:Xt}
def yy8(r:Fl.RS)(n l:List UInt8)(aq:Int)(w:World)(e:Ending)(w':World):Prop:=
 Bq w w'/\((0<=Fl.ai r.au l/\Fl.ai r.cells n<0/\Fl.ai r.aj n<0)->e=.returned (Iq (Fl.ai r.au l)))/\((Fl.ai r.au l<0\/0<=Fl.ai r.cells n\/0<=Fl.ai r.aj n)->e=.panicked (Ze 4 aq))
def zm9(h:Zn lo base R Pb lm vm cm w0 w r aq m)(s0:r.ae=false)(b off cap:Nat)(n l:List UInt8)(hn:n.length<=100000)(hl:l.length<=100000)(t0:2<=cap)(j0:w.cell? (Aq b off)=some (.string ⟨n.toArray⟩))(k0:w.cell? (Aq b (off+1))=some (.string ⟨l.toArray⟩)):
  Cq 138 #[Pq R,.slice (some (Aq b off)) 2 cap] w (yy8 r n l aq w):=by
 have c41:Cl w R 41 (.map (some vm)):=h.cR.c 41 (by omega);have c42:Cl w R 42 (.map (some cm)):=h.cR.c 42 (by omega);obtain⟨mx,tb,l0,g0,-⟩:=h.drew.nv.io n hn;obtain⟨mx2,tb2,b0,c0,-⟩:=h.drew.drew.nc.io n hn;rw[(h.ok.head s0).1,List.append_nil]at g0;have HH:=Zz h;have m0:=Zz g0;have d0:=Zz c0;clear h g0 c0
 go_enter func138,ntmps138
 go_wp2_with fail
 refine wp_region_still_lit (by kernel_rfl) (by kernel_rfl) ?_
 iterate 7 still_step
 refine Xh rfl (.tuple #[Iq mx,.bool tb]) (Jx _ _ 92 rfl (.map (some vm)) (.string ⟨n.toArray⟩) _ rfl rfl l0) ?_
 iterate 5 still_step
 refine wpStill_nil ?_
 change Exit.then _ _ _ _ w.drew
 have u0:Cl w.drew b off (.string ⟨n.toArray⟩):=j0;have n0:Cl w.drew b (off+1) (.string ⟨l.toArray⟩):=k0;have d42:Cl w.drew R 42 (.map (some cm)):=c42;have HW:Hid (Zn lo base R Pb lm vm cm w0 w.drew r aq m):=HH.drew;have o0:Hid (Bq w w.drew):=dA;clear l0 j0 k0 c41 c42 HH;generalize w.drew=W at*
 go_wp2_with fail
 refine wp_region_still_lit (by kernel_rfl) (by kernel_rfl) ?_
 iterate 7 still_step
 refine Xh rfl (.tuple #[Iq mx2,.bool tb2]) (Jx _ _ 92 rfl (.map (some cm)) (.string ⟨n.toArray⟩) _ rfl rfl b0) ?_
 iterate 5 still_step
 refine wpStill_nil ?_
 change Exit.then _ _ _ _ W.drew
 have e1:Cl W.drew b (off+1) (.string ⟨l.toArray⟩):=n0;have e0:Hid (Zn lo base R Pb lm vm cm w0 W.drew r aq m):=HW.drew;have f0:Hid (Bq w W.drew):=o0.drew;clear b0 u0 n0 d42 HW o0;generalize W.drew=W2 at*;have y0:=f0.size;have v0:Hid (Cq 137 #[Pq R,.string ⟨l.toArray⟩] W2 (zg0 r.au l aq W2)):=zqw R lm aq r.au l W2 hl e0.nl (e0.cR.c 40 (by omega)) (e0.cR.c 1 (by omega));have h0:Hid (Cq 61 #[Pq R,.bool false,Iq 4] W2 λe w'=>e=.panicked (Ze 4 aq)/\Bq W2 w'):=Yd R 4 aq W2 (e0.cR.c 1 (by omega));have p0:Hid (Cq 61 #[Pq R,.bool true,Iq 4] W2 λe w'=>e=.returned (.tuple #[])/\w'=W2):=Xc R 4 W2
 cases tb with
 |true=>
  have h1:0<=Fl.ai r.cells n:=(by have:=m0.out;simpa using this)
  cases tb2
  all_goals
   go_wp2_with fail
   refine h0.mono ?_;rintro e w' ⟨rfl,hb'⟩;exact⟨rfl,f0.trans (hb'.mono (by omega)),λh=>by omega,λ_=>rfl⟩
 |false=>
  have h1:¬0<=Fl.ai r.cells n:=(by have:=m0.out;simpa using this)
  cases tb2 with
  |true=>
   have h2:0<=Fl.ai r.aj n:=(by have:=d0.out;simpa using this)
   go_wp2_with fail
   refine h0.mono ?_;rintro e w' ⟨rfl,hb'⟩;exact⟨rfl,f0.trans (hb'.mono (by omega)),λh=>by omega,λ_=>rfl⟩
  |false=>
   have h2:¬0<=Fl.ai r.aj n:=(by have:=d0.out;simpa using this)
   go_wp2_with fail
   refine p0.mono ?_;rintro e w' ⟨rfl,hw'⟩;rw[hw'];clear hw' p0 h0
   go_wp2_with fail
   refine v0.mono ?_;rintro e W3 ⟨q0,i0,a0⟩;have r0:Hid (Bq w W3):=f0.trans (q0.mono (by omega));clear q0;obtain⟨j,hj⟩:=nmE (Fl.ai r.au l);rw[<-hj]at i0 a0;have HJ:=Zz hj;clear hj
   by_cases x0:0<=j
   ·obtain rfl:=i0 x0
    clear i0 a0;go_wp2;go_ret;exact⟨r0,λ_=>by rw[<-HJ.out];rfl,λh=>by rw[<-HJ.out]at h;omega⟩
   obtain rfl:=a0 (by omega);exact⟨rfl,r0,λh=>by rw[<-HJ.out]at h;omega,λ_=>rfl⟩
end
section
variable{aq:Int}{m:Xt}
def Tryz.infoIntP:(Tryz.prog.info? 3).map (λi=>(i.zero,i.size,i.bytes))=some (some (Iq 0),1,8):=by kernel_rfl
def yi4(h:Zn lo base R Pb lm vm cm w0 w r aq m)(l0:r.ae=false)(B:Nat)(v:Value)(n l:List UInt8)(hB:B<=w.heap.size)(hw:Zf B w v [n,l])(N0:∀b,v.ownBlock=some b->base<=b/\m.aC b=5):
  Cq 106 #[Pq R,v] w (Zd lo base R Pb lm vm cm w0 aq (r.head [Fl.cN,n,l])):=by
 obtain⟨b,off,cap,rfl,y0,i1,j1,z0,a0⟩:=hw.one (by simp);obtain⟨l1,m1⟩:=N0 b rfl;have hn:n.length<=100000:=z0 n (by simp);have hl:l.length<=100000:=z0 l (by simp);have u0:Cl w b off (.string ⟨n.toArray⟩):=a0 0 (by simp);have O0:Cl w b (off+1) (.string ⟨l.toArray⟩):=a0 1 (by simp);obtain⟨aV,h0⟩:=nmE (r.head [Fl.cN,n,l]);rw[<-h0];have m0:Hid (aV=if Fl.ai r.au l<0\/0<=Fl.ai r.cells n\/0<=Fl.ai r.aj n then(4,r) else if r.cells.length=6 then(5,r) else(0,{r with cells:=r.cells++[n],aZ:=r.aZ++[(Fl.ai r.au l).toNat]})):=by
  show _=_;rw[h0];simp[Fl.RS.head,Fl.cN,Fl.bM]
 have HH:=Zz h;simp only[List.length_cons,List.length_nil,Nat.zero_add]at y0⊢;have P0:Hid (Cq 138 #[Pq R,.slice (some (Aq b off)) 2 cap] w (yy8 r n l aq w)):=zm9 h l0 b off cap n l hn hl (by omega) u0 O0;clear h hw z0 a0 h0 N0
 go_enter func106,ntmps106
 go_wp2_with fail
 refine P0.mono ?_;rintro e W ⟨A0,B0,j0⟩;have HW:Hid (Zn lo base R Pb lm vm cm w0 W r aq m):=HH.below A0;have hbz:b<w.heap.size:=Qe w _ u0;have d0:Cl W b off (.string ⟨n.toArray⟩):=(A0.cell (p:=(Aq b off)) hbz).trans u0;clear u0 O0 A0 HH P0;obtain⟨j,hj⟩:=nmE (Fl.ai r.au l);have HJ:=Zz hj;rw[<-hj]at B0 j0;clear hj
 by_cases v0:j<0\/0<=Fl.ai r.cells n\/0<=Fl.ai r.aj n
 ·obtain rfl:=j0 v0
  have HR:aV=(4,r):=(by rw[m0.out,<-HJ.out,if_pos v0]);exact⟨rfl,Zd.eh HR (by decide) rfl ⟨HW.bel,HW.fx⟩⟩
 obtain rfl:=B0 (by omega)
 have Q0:Hid (aV=if r.cells.length=6 then(5,r) else(0,{r with cells:=r.cells++[n],aZ:=r.aZ++[j.toNat]})):=by show _=_;rw[m0.out,<-HJ.out,if_neg v0]
 have o1:0<=j:=by omega
 have q1:j<r.au.length:=by
  have:=HJ.out;rcases Fl.aR r.au l with h|h<;>omega
 have V0:Hid (Fl.ai (r.cells++r.am) n<0):=by
  show _<_;rw[(HW.ok.head l0).1,List.append_nil];omega
 clear B0 j0 v0;have C0:=HW.ok.cl;have W0:=Zz C0;have r1:=HW.ok.ce;have s1:=HW.ok.lv;obtain⟨ca,ccap,D0⟩:∃ca ccap,m.bD=.slice ca r.aZ.length ccap:=by
  rcases HW.re.oc.2 with⟨h1,h2⟩|⟨g,cp,cur,h1,_⟩
  ·exact⟨none,0,by rw[h1,h2]⟩
  exact⟨_,cp,h1⟩
 have E0:=Zz D0;have c0:Cl W R 0 (Pq Pb):=HW.cR.c 0 (by omega)
 have p1:W.cell? (Aq Pb 1)=some (.slice ca r.aZ.length ccap):=by rw[<-D0];exact HW.cP.c 1 (by omega)
 have R0:Hid (Cq 61 #[Pq R,.bool false,Iq 5] W λe w'=>e=.panicked (Ze 5 aq)/\Bq W w'):=Yd R 5 aq W (HW.cR.c 1 (by omega));have S0:Hid (Cq 61 #[Pq R,.bool true,Iq 5] W λe w'=>e=.returned (.tuple #[])/\w'=W):=Xc R 5 W;have bL:=HW.bL;have cV:=HW.cV;clear D0
 by_cases h6:r.cells.length=6
 ·have b6:¬(r.aZ.length:Int)<6:=by omega
  have F0:Hid (aV=(5,r)):=(by show _=_;rw[Q0.out,if_pos h6]);clear C0
  go_wp2_with fail
  rw[show decide ((r.aZ.length:Int)<6)=false from decide_eq_false (by omega)];refine R0.mono ?_;rintro e w' ⟨rfl,hb'⟩;exact⟨rfl,Zd.eh F0 (by decide) rfl (HW.gone hb')⟩
 have b6:(r.aZ.length:Int)<6:=by omega
 have F0:Hid (aV=(0,{r with cells:=r.cells++[n],aZ:=r.aZ++[j.toNat]})):=by show _=_;rw[Q0.out,if_neg h6]
 clear C0
 go_wp2_with fail
 refine S0.mono ?_;rintro e w' ⟨rfl,hw'⟩;rw[hw'];clear hw' S0 R0;have c41:Cl W R 41 (.map (some vm)):=HW.cR.c 41 (by omega);obtain⟨W2,G0,H0,x0⟩:=HW.drew.nv.put n hn V0 (by have:=HW.ok.lo;simp;omega);rw[show (r.cells++r.am).length=r.aZ.length by rw[(HW.ok.head l0).1,List.append_nil,W0.out]]at G0;rw[show (r.cells++r.am)++[n]=(r.cells++[n])++r.am by rw[(HW.ok.head l0).1];simp]at H0;obtain⟨n1,n2,n3,n4,n5,n6,n7,n8,n9,n10⟩:=HW.nd;have t1:W.heap.size<=W2.heap.size:=x0.size;have q2:∀k,k<W.heap.size->k≠vm->W2.heap[k]?=W.heap[k]?:=λk hk I0=>x0.block k hk (by simpa using I0);have d0':Cl W2 R 0 (Pq Pb):=(Qc (a:=(Aq R 0)) (q2 R (by omega) n3)).trans c0;have d1':Cl W2 Pb 1 (.slice ca r.aZ.length ccap):=(Qc (a:=(Aq Pb 1)) (q2 Pb (by omega) n6)).trans p1;have T0:=Zz q2;have U0:=Zz H0;have J0:Hid (W2.ownsRow base 3 1 (.slice ca r.aZ.length ccap) r.aZ.length (Yi r.aZ)):=by
  show World.ownsRow _ _ _ _ _ _ _;rw[<-E0.out];refine Yw HW.re.oc (λb' hb'=>q2 b' (HW.re.oc.lt b' hb').2 ?_);have:=(HW.re.oc.lt b' hb').1;omega
 have fP:∀j,W2.frozen? (Aq Pb j)=false:=λj=>(Qd (a:=(Aq Pb j)) (q2 Pb (by omega) n6)).trans (HW.cP.z j);have X0:Hid (Below lo w0 W2):=HW.bel.drew.grown x0 (by have:=HW.bel.size;simp;omega) (λk hk=>by simp only[Option.some.injEq]at hk;omega);clear x0 H0 q2
 go_wp2_with fail
 go_still_tail 15,(by kernel_rfl)
 clear p1 c0 d0 c41
 go_wp2_with fail
 refine Zi (λW=>Cl W R 0 (Pq Pb)/\Cl W Pb 1 (.slice ca r.aZ.length ccap)) [12,13,14,15] [16] [] ⟨d0',d1'⟩ (by kernel_rfl) (λc a d v w h=>by cases d<;>exact h) (λops hG=>?_);clear hG
 iterate 12 refine Zw rfl (by rintro _ ⟨k0,k1⟩;go_simp<;>rfl) (by go_simp<;>rfl) ?_
 refine Zt ?_
 go_wp2_with fail
 obtain⟨W3,n0⟩:=nmE ((W2.alloc (.cells #[Iq j] 3)).drew);obtain⟨tb,K0⟩:=nmE (W2.heap.size)
 have o0:Bq W2 W3:=by rw[n0];exact(bA).drew
 have u1:W2.heap.size+1=W3.heap.size:=by rw[n0];simp
 have t0:∀i u,([Iq j]:List Value)[i]?=some u->W3.cell? (((Aq tb 0):Addr).add i)=some u:=by rw[n0,K0];exact Xv
 have e0:Cl W3 R 0 (Pq Pb):=(o0.cell (p:=(Aq R 0)) (by show R<_;omega)).trans d0';have e1:Cl W3 Pb 1 (.slice ca r.aZ.length ccap):=(o0.cell (p:=(Aq Pb 1)) (by show Pb<_;omega)).trans d1';have L0:Hid (W3.ownsRow base 3 1 (.slice ca r.aZ.length ccap) r.aZ.length (Yi r.aZ)):=Yw J0 (λb hb=>o0.block b (J0.lt b hb).2);have p0:=Zz o0;rw[<-n0,<-K0];clear n0 K0 o0 d0' d1' J0;refine⟨⟨e0,e1⟩,?_⟩;refine Zt ?_;obtain⟨i0,Y0,Z0,a1,b1⟩:=info_parts Tryz.infoIntP
 go_wp2_with (at_builtin;refine Zj _ rfl (.tmp 44) (.tmp 46) 36 rfl base 3 i0 (Iq 0) 1 8 underlying36 Y0 Z0 a1 b1 rfl (by decide) _ _ _ rfl L0 (Aq tb 0) 1 1 [Iq j] rfl rfl (by decide) t0 ?c2 ?c3 ?c4 ?c5 ?_)
 case c2=>intro u hu;simp at hu;subst hu;rfl
 case c3=>unfold maxLen;omega
 case c4=>omega
 case c5=>omega
 intro v' W4 b0 q0 r0;obtain⟨va,vcap,rfl⟩:∃va vcap,v'=.slice va (r.aZ.length+1) vcap:=by
  rcases b0.2 with⟨h1,h2⟩|⟨g,cp,cur,h1,_⟩
  ·omega
  exact⟨_,cp,h1⟩
 have f0:∀k,(Value.slice ca r.aZ.length ccap).ownBlock=some k->base<=k/\k<W2.heap.size+1:=λk hk=>by have:=L0.lt k hk;omega
 have s0:∀k,k<base->W4.heap[k]?=W3.heap[k]?:=λk hk=>q0.block k (by omega) (λhh=>by have:=(f0 k hh.symm).1;omega);have g0:Cl W4 R 0 (Pq Pb):=(Qc (a:=(Aq R 0)) (s0 R (by omega))).trans e0;have g1:Cl W4 Pb 1 (.slice ca r.aZ.length ccap):=(Qc (a:=(Aq Pb 1)) (s0 Pb (by omega))).trans e1;have gz:∀j,W4.frozen? (Aq Pb j)=false:=λj=>(Qd (a:=(Aq Pb j)) (s0 Pb (by omega))).trans ((p0.frozen (p:=(Aq Pb j)) (by show Pb<_;omega)).trans (fP j));have M0:Hid (∃m',Zn lo base R Pb lm vm cm w0 (W4.setCell (Aq Pb 1) (.slice va (r.aZ.length+1) vcap)) {r with cells:=r.cells++[n],aZ:=r.aZ++[j.toNat]} aq m'):=by
  have v1:(W4.setCell (Aq Pb 1) (.slice va (r.aZ.length+1) vcap)).heap.size=W4.heap.size:=Zy _ _ _;have x1:=q0.size
  have aK:∀k,k<W.heap.size->k≠vm->(Value.slice ca r.aZ.length ccap).ownBlock≠some k->W4.heap[k]?=W.heap[k]?:=λk hk hv I0=>
   (q0.block k (by omega) (λhh=>I0 hh.symm)).trans ((p0.block k (by omega)).trans (T0 k hk hv))
  refine HW.cell (v':=.slice va (r.aZ.length+1) vcap) l0 n j.toNat (by omega) (by omega) (by omega) (λk hk hv hp hc=>?_) ?_ ?_ ?_ ?_ ?_
  ·rw[Zx _ _ _ _ _ hp]
   exact aK k hk hv (by rw[<-E0.out];exact hc)
  ·have c1:Below lo w0 W4:=(X0.trans (p0.mono (by omega))).grown q0 (by have:=HW.bel.size;omega) (λk hk=>by have:=(f0 k hk).1;omega)
   exact c1.setCell (by show lo<=Pb;omega) _
  ·have f1:=(HW.cP.block (w':=W4) (aK Pb (by omega) n6 (λhh=>by have:=(f0 Pb hh).1;omega))).set (j:=1) (by omega) (.slice va (r.aZ.length+1) vcap)
   refine f1.congr λk hk=>?_;rcases(show k=0\/k=1\/k=2\/k=3\/k=4 by omega) with rfl|rfl|rfl|rfl|rfl<;>rfl
  ·refine(U0.block (w':=W4) ((s0 vm (by omega)).trans (p0.block vm (by omega)))).block (Zx _ _ _ _ _ (Ne.symm n6))
  ·have e1:Yi (r.aZ++[j.toNat])=Yi r.aZ++[Iq j]:=by simp[Yi];omega
   rw[e1];exact ownsRow_setCell_below b0 (by show Pb<base;omega) _
  rw[E0.out];rcases r0 with hh|hh
  ·exact .inl hh
  exact .inr ⟨_,hh,by omega⟩
 clear b0 q0 r0 s0 e0 e1 t0 L0 p0 U0 T0 f0 fP
 go_wp2_with fail
 refine⟨⟨g0,g1⟩,?_⟩;refine Zt ?_
 go_wp2_with fail
 refine⟨⟨g0,g1⟩,?_⟩;refine Zt ?_
 go_wp2_with fail
 refine⟨⟨g0,g1⟩,?_⟩;refine Xp ?_
 go_wp2_with fail
 refine Zu ?_
 go_end0
 obtain⟨m',hm'⟩:=M0.out;exact Zd.fS F0 rfl hm'
end
section
variable{aq:Int}{m:Xt}
def yvw(h:Zn lo base R Pb lm vm cm w0 w r aq m)(L0:r.ae=false)(B:Nat)(v:Value)(n l:List UInt8)(hB:B<=w.heap.size)(hw:Zf B w v [n,l])(M0:∀b,v.ownBlock=some b->base<=b/\m.aC b=5):
  Cq 107 #[Pq R,v] w (Zd lo base R Pb lm vm cm w0 aq (r.head [Fl.bu,n,l])):=by
 obtain⟨b,off,cap,rfl,x0,i1,j1,y0,a0⟩:=hw.one (by simp);obtain⟨l1,m1⟩:=M0 b rfl;have hn:n.length<=100000:=y0 n (by simp);have hl:l.length<=100000:=y0 l (by simp);have s0:Cl w b off (.string ⟨n.toArray⟩):=a0 0 (by simp);have N0:Cl w b (off+1) (.string ⟨l.toArray⟩):=a0 1 (by simp);obtain⟨aV,h0⟩:=nmE (r.head [Fl.bu,n,l]);rw[<-h0];have l0:Hid (aV=if Fl.ai r.au l<0\/0<=Fl.ai r.cells n\/0<=Fl.ai r.aj n then(4,r) else if r.aj.length=3 then(5,r) else(0,{r with aj:=r.aj++[n],aY:=r.aY++[(Fl.ai r.au l).toNat]})):=by
  show _=_;rw[h0];simp[Fl.RS.head,Fl.bu,Fl.bM,Fl.cN]
 have HH:=Zz h;simp only[List.length_cons,List.length_nil,Nat.zero_add]at x0⊢;have O0:Hid (Cq 138 #[Pq R,.slice (some (Aq b off)) 2 cap] w (yy8 r n l aq w)):=zm9 h L0 b off cap n l hn hl (by omega) s0 N0;clear h hw y0 a0 h0 M0
 go_enter func107,ntmps107
 go_wp2_with fail
 refine O0.mono ?_;rintro e W ⟨z0,A0,j0⟩;have HW:Hid (Zn lo base R Pb lm vm cm w0 W r aq m):=HH.below z0;have hbz:b<w.heap.size:=Qe w _ s0;have d0:Cl W b off (.string ⟨n.toArray⟩):=(z0.cell (p:=(Aq b off)) hbz).trans s0;clear s0 N0 z0 HH O0;obtain⟨j,hj⟩:=nmE (Fl.ai r.au l);have HJ:=Zz hj;rw[<-hj]at A0 j0;clear hj
 by_cases u0:j<0\/0<=Fl.ai r.cells n\/0<=Fl.ai r.aj n
 ·obtain rfl:=j0 u0
  have HR:aV=(4,r):=(by rw[l0.out,<-HJ.out,if_pos u0]);exact⟨rfl,Zd.eh HR (by decide) rfl ⟨HW.bel,HW.fx⟩⟩
 obtain rfl:=A0 (by omega)
 have P0:Hid (aV=if r.aj.length=3 then(5,r) else(0,{r with aj:=r.aj++[n],aY:=r.aY++[j.toNat]})):=by show _=_;rw[l0.out,<-HJ.out,if_neg u0]
 have o1:0<=j:=by omega
 have q1:j<r.au.length:=by
  have:=HJ.out;rcases Fl.aR r.au l with h|h<;>omega
 have V0:Hid (Fl.ai r.aj n<0):=by
  show _<_;omega
 clear A0 j0 u0;have B0:=HW.ok.hl;have W0:=Zz B0;have r1:=HW.ok.ch;have s1:=HW.ok.lv;obtain⟨ca,ccap,C0⟩:∃ca ccap,m.bF=.slice ca r.aY.length ccap:=by
  rcases HW.re.oh.2 with⟨h1,h2⟩|⟨g,cp,cur,h1,_⟩
  ·exact⟨none,0,by rw[h1,h2]⟩
  exact⟨_,cp,h1⟩
 have D0:=Zz C0;have c0:Cl W R 0 (Pq Pb):=HW.cR.c 0 (by omega)
 have p1:W.cell? (Aq Pb 2)=some (.slice ca r.aY.length ccap):=by rw[<-C0];exact HW.cP.c 2 (by omega)
 have Q0:Hid (Cq 61 #[Pq R,.bool false,Iq 5] W λe w'=>e=.panicked (Ze 5 aq)/\Bq W w'):=Yd R 5 aq W (HW.cR.c 1 (by omega));have R0:Hid (Cq 61 #[Pq R,.bool true,Iq 5] W λe w'=>e=.returned (.tuple #[])/\w'=W):=Xc R 5 W;have bL:=HW.bL;have cV:=HW.cV;clear C0
 by_cases h6:r.aj.length=3
 ·have b6:¬(r.aY.length:Int)<3:=by omega
  have E0:Hid (aV=(5,r)):=(by show _=_;rw[P0.out,if_pos h6]);clear B0
  go_wp2_with fail
  rw[show decide ((r.aY.length:Int)<3)=false from decide_eq_false (by omega)];refine Q0.mono ?_;rintro e w' ⟨rfl,hb'⟩;exact⟨rfl,Zd.eh E0 (by decide) rfl (HW.gone hb')⟩
 have b6:(r.aY.length:Int)<3:=by omega
 have E0:Hid (aV=(0,{r with aj:=r.aj++[n],aY:=r.aY++[j.toNat]})):=by show _=_;rw[P0.out,if_neg h6]
 clear B0
 go_wp2_with fail
 refine R0.mono ?_;rintro e w' ⟨rfl,hw'⟩;rw[hw'];clear hw' R0 Q0;have c41:Cl W R 42 (.map (some cm)):=HW.cR.c 42 (by omega);obtain⟨W2,F0,S0,v0⟩:=HW.drew.nc.put n hn V0 (by omega);rw[<-W0.out]at F0;obtain⟨n1,n2,n3,n4,n5,n6,n7,n8,n9,n10⟩:=HW.nd;have t1:W.heap.size<=W2.heap.size:=v0.size;have q2:∀k,k<W.heap.size->k≠cm->W2.heap[k]?=W.heap[k]?:=λk hk G0=>v0.block k hk (by simpa using G0);have d0':Cl W2 R 0 (Pq Pb):=(Qc (a:=(Aq R 0)) (q2 R (by omega) n4)).trans c0;have d1':Cl W2 Pb 2 (.slice ca r.aY.length ccap):=(Qc (a:=(Aq Pb 2)) (q2 Pb (by omega) n7)).trans p1;have T0:=Zz q2;have U0:=Zz S0;have H0:Hid (W2.ownsRow base 3 1 (.slice ca r.aY.length ccap) r.aY.length (Yi r.aY)):=by
  show World.ownsRow _ _ _ _ _ _ _;rw[<-D0.out];refine Yw HW.re.oh (λb' hb'=>q2 b' (HW.re.oh.lt b' hb').2 ?_);have:=(HW.re.oh.lt b' hb').1;omega
 have fP:∀j,W2.frozen? (Aq Pb j)=false:=λj=>(Qd (a:=(Aq Pb j)) (q2 Pb (by omega) n7)).trans (HW.cP.z j);have X0:Hid (Below lo w0 W2):=HW.bel.drew.grown v0 (by have:=HW.bel.size;simp;omega) (λk hk=>by simp only[Option.some.injEq]at hk;omega);clear v0 S0 q2
 go_wp2_with fail
 go_still_tail 15,(by kernel_rfl)
 clear p1 c0 d0 c41
 go_wp2_with fail
 refine Zi (λW=>Cl W R 0 (Pq Pb)/\Cl W Pb 2 (.slice ca r.aY.length ccap)) [12,13,14,15] [16] [] ⟨d0',d1'⟩ (by kernel_rfl) (λc a d v w h=>by cases d<;>exact h) (λops hG=>?_);clear hG
 iterate 12 refine Zw rfl (by rintro _ ⟨k0,k1⟩;go_simp<;>rfl) (by go_simp<;>rfl) ?_
 refine Zt ?_
 go_wp2_with fail
 obtain⟨W3,m0⟩:=nmE ((W2.alloc (.cells #[Iq j] 3)).drew);obtain⟨tb,I0⟩:=nmE (W2.heap.size)
 have n0:Bq W2 W3:=by rw[m0];exact(bA).drew
 have u1:W2.heap.size+1=W3.heap.size:=by rw[m0];simp
 have t0:∀i u,([Iq j]:List Value)[i]?=some u->W3.cell? (((Aq tb 0):Addr).add i)=some u:=by rw[m0,I0];exact Xv
 have e0:Cl W3 R 0 (Pq Pb):=(n0.cell (p:=(Aq R 0)) (by show R<_;omega)).trans d0';have e1:Cl W3 Pb 2 (.slice ca r.aY.length ccap):=(n0.cell (p:=(Aq Pb 2)) (by show Pb<_;omega)).trans d1';have J0:Hid (W3.ownsRow base 3 1 (.slice ca r.aY.length ccap) r.aY.length (Yi r.aY)):=Yw H0 (λb hb=>n0.block b (H0.lt b hb).2);have o0:=Zz n0;rw[<-m0,<-I0];clear m0 I0 n0 d0' d1' H0;refine⟨⟨e0,e1⟩,?_⟩;refine Zt ?_;obtain⟨i0,Y0,Z0,a1,b1⟩:=info_parts Tryz.infoIntP
 go_wp2_with (at_builtin;refine Zj _ rfl (.tmp 44) (.tmp 46) 36 rfl base 3 i0 (Iq 0) 1 8 underlying36 Y0 Z0 a1 b1 rfl (by decide) _ _ _ rfl J0 (Aq tb 0) 1 1 [Iq j] rfl rfl (by decide) t0 ?c2 ?c3 ?c4 ?c5 ?_)
 case c2=>intro u hu;simp at hu;subst hu;rfl
 case c3=>unfold maxLen;omega
 case c4=>omega
 case c5=>omega
 intro v' W4 b0 p0 q0;obtain⟨va,vcap,rfl⟩:∃va vcap,v'=.slice va (r.aY.length+1) vcap:=by
  rcases b0.2 with⟨h1,h2⟩|⟨g,cp,cur,h1,_⟩
  ·omega
  exact⟨_,cp,h1⟩
 have f0:∀k,(Value.slice ca r.aY.length ccap).ownBlock=some k->base<=k/\k<W2.heap.size+1:=λk hk=>by have:=J0.lt k hk;omega
 have r0:∀k,k<base->W4.heap[k]?=W3.heap[k]?:=λk hk=>p0.block k (by omega) (λhh=>by have:=(f0 k hh.symm).1;omega);have g0:Cl W4 R 0 (Pq Pb):=(Qc (a:=(Aq R 0)) (r0 R (by omega))).trans e0;have g1:Cl W4 Pb 2 (.slice ca r.aY.length ccap):=(Qc (a:=(Aq Pb 2)) (r0 Pb (by omega))).trans e1;have gz:∀j,W4.frozen? (Aq Pb j)=false:=λj=>(Qd (a:=(Aq Pb j)) (r0 Pb (by omega))).trans ((o0.frozen (p:=(Aq Pb j)) (by show Pb<_;omega)).trans (fP j));have K0:Hid (∃m',Zn lo base R Pb lm vm cm w0 (W4.setCell (Aq Pb 2) (.slice va (r.aY.length+1) vcap)) {r with aj:=r.aj++[n],aY:=r.aY++[j.toNat]} aq m'):=by
  have v1:(W4.setCell (Aq Pb 2) (.slice va (r.aY.length+1) vcap)).heap.size=W4.heap.size:=Zy _ _ _;have x1:=p0.size
  have aK:∀k,k<W.heap.size->k≠cm->(Value.slice ca r.aY.length ccap).ownBlock≠some k->W4.heap[k]?=W.heap[k]?:=λk hk hv G0=>
   (p0.block k (by omega) (λhh=>G0 hh.symm)).trans ((o0.block k (by omega)).trans (T0 k hk hv))
  refine HW.channel (v':=.slice va (r.aY.length+1) vcap) L0 n j.toNat (by omega) (by omega) (by omega) (λk hk hv hp hc=>?_) ?_ ?_ ?_ ?_ ?_
  ·rw[Zx _ _ _ _ _ hp]
   exact aK k hk hv (by rw[<-D0.out];exact hc)
  ·have c1:Below lo w0 W4:=(X0.trans (o0.mono (by omega))).grown p0 (by have:=HW.bel.size;omega) (λk hk=>by have:=(f0 k hk).1;omega)
   exact c1.setCell (by show lo<=Pb;omega) _
  ·have f1:=(HW.cP.block (w':=W4) (aK Pb (by omega) n7 (λhh=>by have:=(f0 Pb hh).1;omega))).set (j:=2) (by omega) (.slice va (r.aY.length+1) vcap)
   refine f1.congr λk hk=>?_;rcases(show k=0\/k=1\/k=2\/k=3\/k=4 by omega) with rfl|rfl|rfl|rfl|rfl<;>rfl
  ·refine(U0.block (w':=W4) ((r0 cm (by omega)).trans (o0.block cm (by omega)))).block (Zx _ _ _ _ _ (Ne.symm n7))
  ·have e1:Yi (r.aY++[j.toNat])=Yi r.aY++[Iq j]:=by simp[Yi];omega
   rw[e1];exact ownsRow_setCell_below b0 (by show Pb<base;omega) _
  rw[D0.out];rcases q0 with hh|hh
  ·exact .inl hh
  exact .inr ⟨_,hh,by omega⟩
 clear b0 p0 q0 r0 e0 e1 t0 J0 o0 U0 T0 f0 fP
 go_wp2_with fail
 refine⟨⟨g0,g1⟩,?_⟩;refine Zt ?_
 go_wp2_with fail
 refine⟨⟨g0,g1⟩,?_⟩;refine Zt ?_
 go_wp2_with fail
 refine⟨⟨g0,g1⟩,?_⟩;refine Xp ?_
 go_wp2_with fail
 refine Zu ?_
 go_end0
 obtain⟨m',hm'⟩:=K0.out;exact Zd.fS E0 rfl hm'
end
end Go.Proofs.YtfhpibppblbgcaaGreatDoor
