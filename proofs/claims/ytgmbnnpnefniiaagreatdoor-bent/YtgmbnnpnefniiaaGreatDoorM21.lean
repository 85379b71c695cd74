import Derived.Test.YtgmbnnpnefniiaaGreatDoorM11
import Derived.Test.YtgmbnnpnefniiaaGreatDoorM18
set_option linter.all false
set_option maxRecDepth 100000
set_option maxHeartbeats 40000000
namespace Go.Proofs.YtgmbnnpnefniiaaGreatDoor
open Go.Proofs.Tryz List World Value Fl
variable{w w' w0:World}{Pb Lq d x k Xb:Nat}{rb:Nat->Nat}{aB hv bv lv wv lvn:Value}{p:Fl.aY}{ls vs:Is}{a b c:Int}{acc:List Fl.ar}{lvs:Vs}
section
open Go.RowKit
structure zyv(w:World)(Pb Lq:Nat)(rb:Nat->Nat)(aB hv bv:Value)(p:Fl.aY):Prop where
 hz:Pb<w.heap.size
 p0:w.cell? (O Pb 0)=some (I p.n)
 p1:w.cell? (O Pb 1)=some (Sq Lq 0 p.n p.n)
 p2:w.cell? (O Pb 2)=some aB
 p3:w.cell? (O Pb 3)=some hv
 p4:w.cell? (O Pb 4)=some (I p.ap)
 p5:w.cell? (O Pb 5)=some bv
 ci:Zw w.heap.size w aB (p.cells.map λ(y:Nat)=>(y:Int))
 hi:Zw w.heap.size w hv (p.ai.map λ(y:Nat)=>(y:Int))
 lq:Yj 0 w Lq rb p.n p.leq
 bs:Zh 4 (λb=>b<w.heap.size) w bv p.aZ
 lv:p.Lv
 ok:p.Ok
section
def zyv.below(h:zyv w Pb Lq rb aB hv bv p)(hb:D w w'):zyv w' Pb Lq rb aB hv bv p:=by
 have hz:=hb.size;have q:∀i,w'.cell? (O Pb i)=w.cell? (O Pb i):=λi=>hb.cell h.hz;exact{hz:=Qj h.hz hz,p0:=(q _).trans h.p0,p1:=(q _).trans h.p1,p2:=(q _).trans h.p2,p3:=(q _).trans h.p3,p4:=(q _).trans h.p4,p5:=(q _).trans h.p5,ci:=(h.ci.below hb).mono hz,hi:=(h.hi.below hb).mono hz,lq:=h.lq.kept (λb _ a0=>hb.block b a0),bs:=h.bs.kept (λb a0=>Qj a0 hz) (λb a0=>hb.block b a0) 4 _ _,lv:=h.lv,ok:=h.ok}
def zr3(t:cY)(k j:Nat):Bool:=(range j).all λi=>t k i
def yj9(t:cY)(k j:Nat):zr3 t k (j+1)=(zr3 t k j && t k j):=by
 unfold zr3;rw[range_succ,all_append];simp
def zi5(h:zyv w Pb Lq rb aB hv bv p):E 18 #[F Pb] w (Rq (I (Fl.aE p)) w):=by
 have HL:=Z h.lq;have p0:=h.p0;have p1:=h.p1;have a0:Y (Fl.aE p=((cG (λk=>zr3 p.leq k p.n) p.n).toNat:Int)):=rfl;generalize Fl.aE p=aX at*;obtain⟨n,hn⟩:=J (p.n)
 have l0:(n:Int)<=6:=by have:=h.lv.n6;omega
 rw[<-hn]at HL p0 p1 a0;generalize p.leq=t at*;clear h hn
 go_enter func18,ntmps18
 go_wp2_with fail
 go_loopw [3] (λi wr=>wr=w/\∃k:Nat,k<=n/\i=I k/\∀x,x<k->zr3 t x n=false) (λi _=>n - (intOf i).toNat)
 case atStart=>exact⟨rfl,0,Nat.zero_le _,rfl,λx hx=>by omega⟩
 case round=>
  obtain⟨b0,k,hk,rfl,dt⟩:=hrel;have d0:=Z dt;rw[b0];clear dt b0 wr
  by_cases e0:k<n
  ·have g0:(k:Int)<(n:Int):=by omega
   have ck:=HL.c k e0;have f0:=Z e0
   go_wp2_with fail
   go_loopw [4,5] (λls i wr=>wr=w/\∃j:Nat,j<=n/\i=I j/\ls=.bool (zr3 t k j)) (λ_ i _=>n - (intOf i).toNat)
   case atStart=>exact⟨rfl,0,Nat.zero_le _,rfl,rfl⟩
   case round=>
    obtain⟨b0,j,hj,rfl,rfl⟩:=hrel;rw[b0];clear b0 wr
    by_cases h0:j<n
    ·have i0:(j:Int)<(n:Int):=by omega
     have z3:=HL.r k j f0 h0;have HS:=Z (yj9 t k j);generalize zr3 t k j=lj at*;generalize t k j=u3 at*
     cases lj<;>cases u3
     all_goals
      go_wp2
      go_roundw
      case rel=>exact⟨by first|rfl|trivial,j+1,by omega,by go_num,by rw[HS.out];rfl⟩
      case measure=>simp[intOf];omega
    have i0:¬(j:Int)<(n:Int):=(by omega)
    obtain rfl:j=n:=by omega
    cases c0:zr3 t k j with
    |true=>
     have HE:Y (aX=(k:Int)):=(by show _=_;rw[a0.out,zk6 _ _ _ f0 c0 d0.out];simp);clear c0;go_wp2;go_ret;exact⟨by rw[HE.out];rfl,rfl⟩
    |false=>
     have j0:Y (∀x,x<k+1->zr3 t x j=false):=λx hx=>by
      by_cases k0:x=k
      ·subst k0;exact c0
      exact d0 x (by omega)
     clear c0;go_wp2
     go_roundw
     case rel=>exact⟨by first|rfl|trivial,k+1,by omega,by go_num,j0⟩
     case measure=>simp[intOf];omega
  have g0:¬(k:Int)<(n:Int):=(by omega);have HE:Y (aX=0):=(by show _=_;rw[a0.out,zp5 _ _ (λx hx=>d0 x (by omega))];rfl);go_wp2;go_ret;exact⟨by rw[HE.out];rfl,rfl⟩
def vars_at(p:Fl.aY)(ls:Is):(Fl.vars p ls).length=p.cells.length+ls.length/\(∀v,v<p.cells.length->(Fl.vars p ls).getD v 0=(p.cells.map λ(y:Nat)=>(y:Int)).getD v 0)/\∀v,p.cells.length<=v->(Fl.vars p ls).getD v 0=ls.getD (v - p.cells.length) 0:=by
 unfold Fl.vars;refine⟨by simp,λv hv=>?_,λv hv=>?_⟩
 ·rw[Qa,getElem?_append_left (by simpa using hv),Qa]
 rw[Qa,getElem?_append_right (by simpa using hv),length_map,Qa]
def yox(h:zyv w Pb Lq rb aB hv bv p)(hl:Zw w.heap.size w lv ls)(na:Option Addr)(nn nc:Nat){v:Nat}(c0:v<(Fl.vars p ls).length)(h4:ls.length<=4):
  E 43 #[F Pb,.agg #[lv,A na nn nc],I v] w (Rw (I ((Fl.vars p ls).getD v 0)) w):=by
 obtain⟨ca,cc,rfl,k1,-,a0⟩:=h.ci;obtain⟨la,lc,rfl,j1,-,b0⟩:=hl;have hz:=h.hz;have p2:=h.p2;have h6:=h.ok.ce;obtain⟨vl,vc,vs⟩:=vars_at p ls;simp only[length_map]at p2 k1;obtain⟨m,hm⟩:=J (p.cells.length);obtain⟨n,hn⟩:=J (ls.length);rw[<-hm]at p2 vc vs vl h6 k1;rw[<-hn]at j1 vl h4⊢
 have e0:(m:Int)<=6:=by omega
 have f0:(n:Int)<=4:=by omega
 have k1I:(m:Int)<=(cc:Int):=by omega
 have j1I:(n:Int)<=(lc:Int):=by omega
 by_cases h1:v<m
 ·have d0:(v:Int)<(m:Int):=by omega
  obtain⟨b,off,rfl,hb,hc⟩:=a0 (by intro hh;simp at hh;rw[hh]at hm;simp at hm;omega);have c1:=hc v (by simp;omega);rw[<-vc v h1]at c1;generalize (Fl.vars p ls).getD v 0=y at*;clear h a0 b0 hc vl vc vs hm hn j1 k1 c0
  go_enter func43,ntmps43
  go_wp2;go_ret;exact⟨rfl,bA⟩
 have d0:¬(v:Int)<(m:Int):=by omega
 obtain⟨i,hi⟩:=J (v - m)
 have HV:Y ((v:Int) - (m:Int)=(i:Int)):=by show _=_;omega
 have g0:(i:Int)<(n:Int):=by omega
 have h0:(v:Int)<2147483648:=by omega
 have i0:(i:Int)<2147483648:=by omega
 obtain⟨b,off,rfl,hb,hc⟩:=b0 (by intro hh;rw[hh]at hn;simp at hn;omega);have c1:=hc i (by omega);have e:=vs v (by omega);rw[<-hi]at e;rw[<-e]at c1;generalize (Fl.vars p ls).getD v 0=y at*;clear h a0 b0 hc vl vc vs hm hn j1 k1 hi e c0
 go_enter func43,ntmps43
 go_wp2_with (rw[HV.out])
 go_ret;exact⟨rfl,bA⟩
def atV(a:Fl.dK):Value:=.agg #[.bool a.var,I a.v]
def zo6(h:zyv w Pb Lq rb aB hv bv p)(hl:Zw w.heap.size w lv ls)(na:Option Addr)(nn nc:Nat)(h4:ls.length<=4){a:Fl.dK}(ho:zsy (Fl.vars p ls) a):
  E 61 #[F Pb,.agg #[lv,A na nn nc],atV a] w (Rw (I (Fl.bQ p (Fl.vars p ls) a)) w):=by
 obtain⟨la,lc,rfl,-⟩:=id hl;have HL:Y (∀W,D w W->a.var=true->E 43 #[F Pb,.agg #[A la ls.length lc,A na nn nc],I a.v] W (Rw (I ((Fl.vars p ls).getD a.v 0)) W)):=λW hW hv=>yox (h.below hW) ((hl.below hW).mono hW.size) na nn nc (ho hv) h4;have HB:Y (∀W,D w W->E 18 #[F Pb] W (Rq (I (Fl.aE p)) W)):=λW hW=>zi5 (h.below hW);have a0:Y (∀o o',D w ((w.alloc o).alloc o')):=λo o'=>bA.alloc (by simp) _;unfold Fl.bQ atV;generalize (Fl.vars p ls).getD a.v 0=y at*;generalize ls.length=n at*;clear h hl ho
 cases hv:a.var
 ·have e:(if false=true then y else Fl.aE p)=Fl.aE p:=rfl
  rw[e];clear e HL
  go_enter func61,ntmps61
  go_wp2_with fail
  refine(HB _ (a0 _ _)).mono ?_;rintro e W ⟨rfl,rfl⟩;go_wp2;go_ret;exact⟨rfl,a0 _ _⟩
 have e:(if true=true then y else Fl.aE p)=y:=rfl;rw[e];clear e HB
 go_enter func61,ntmps61
 go_wp2_with fail
 refine(HL _ (a0 _ _) hv).mono ?_;rintro e W ⟨rfl,hb⟩;have b0:=Z ((a0 _ _).trans (hb.mono (by simp;omega)));clear hb;go_wp2;go_ret;exact⟨rfl,b0⟩
end
end
namespace Fl
def fM{p:aY}(lv:p.Lv)(ha:0<=a/\a<p.n)(hb:0<=b/\b<p.n)(hc:0<=c/\c<p.n)(h1:aO p a c=true)(h2:aO p b c=true):aO p (jn p a b) c=true:=by
 obtain⟨k,h3,h4,-,-,h5⟩:=lv.fh.jK a.toNat b.toNat (by omega) (by omega)
 have e:(jn p a b).toNat=k:=by unfold jn;rw[h4];simp
 unfold aO;rw[e];exact h5 _ (by omega) h1 h2
def kR{p:aY}(lv:p.Lv)(hc:0<=c/\c<p.n):aO p (aE p) c=true:=by
 unfold aO aE;rw[Qm];exact(iy lv.fh).2 _ (by omega)
def fL(p:aY)(a b:Is):Prop:=∀i,i<p.cells.length+p.ap->aO p (a.getD i 0) (b.getD i 0)=true
section
variable{p:aY}{va vb:Is}
def iR(lv:p.Lv)(hl:fL p va vb)(oa:bC p va){a:dK}(ho:zsy va a):aO p (bQ p va a) (bQ p vb a)=true:=by
 unfold bQ
 cases hv:a.var
 ·exact dR lv lv.aE
 exact hl a.v (by rw[<-oa.1];exact ho hv)
def jf(lv:p.Lv)(hl:fL p va vb)(oa:bC p va)(ob:bC p vb){e:dZ}(ha:cg va.length e)(hb:cg vb.length e):aO p (aA p va e) (aA p vb e)=true:=by
 have ia:=zp7 ha;have ib:=zp7 hb;have h1:=iR lv hl oa ia.1;have r1:=dC lv oa ia.1;have r2:=dC lv ob ib.1;unfold aA
 split
 ·exact h1
 rename_i h0;have h2:=iR lv hl oa (ia.2 (by omega));have r3:=dC lv oa (ia.2 (by omega));have r4:=dC lv ob (ib.2 (by omega));have r5:=lv.jn r2 r4;have u:=im lv r2 r4;exact fM lv r1 r3 r5 (dj lv r1 r2 r5 h1 u.1) (dj lv r3 r4 r5 h2 u.2)
def jA(lv:p.Lv){d:Int}(ha:0<=a/\a<p.n)(hb:0<=b/\b<p.n)(hc:0<=c/\c<p.n)(hd:0<=d/\d<p.n)(h1:aO p a c=true)(h2:aO p b d=true):aO p (jn p a b) (jn p c d)=true:=by
 have r:=lv.jn hc hd;have u:=im lv hc hd;exact fM lv ha hb r (dj lv ha hc r h1 u.1) (dj lv hb hd r h2 u.2)
def gp(lv:p.Lv)(hl:fL p va vb)(oa:bC p va)(ob:bC p vb):∀(d:Nat) (l:List aa) (u u':Int),aM va.length p.ai.length d l->(0<=u/\u<p.n)->(0<=u'/\u'<p.n)->aO p u u'=true->∀m∈bO p va d l u,∃m'∈bO p vb d l u',m'.1=m.1/\aO p m.2 m'.2=true/\(0<=m'.2/\m'.2<p.n)
 |0,_,_,_,_,_,_,_,m,hm=>by cases hm
 |d+1,l,u,u',hs,hu,hu',huu,m,hm=>by
  have aL:va.length=vb.length:=oa.1.trans ob.1.symm;obtain⟨s,b0,hm⟩:=mem_flatMap.1 (show m∈l.flatMap (cX (bO p va d) p va u) from hm);obtain⟨s1,s2,s3,s4⟩:=hs s b0;have s2':cg vb.length s.e:=(by rw[<-aL];exact s2);have hv:=jf lv hl oa ob s2 s2';have ra:=eW lv oa s2;have rb:=eW lv ob s2';have hj:=jA lv hu ra hu' rb huu hv;have ja:=lv.jn hu ra;have jb:=lv.jn hu' rb
  suffices h:∃m'∈cX (bO p vb d) p vb u' s,m'.1=m.1/\aO p m.2 m'.2=true/\(0<=m'.2/\m'.2<p.n) by
   obtain⟨m',h1,h2⟩:=h;exact⟨m',mem_flatMap.2 ⟨s,b0,h1⟩,h2⟩
  unfold cX at hm⊢
  split at hm
  ·rename_i a0
   rw[mem_singleton]at hm;rw[G a0];exact⟨_,mem_singleton.2 rfl,by rw[hm],by rw[hm];exact hj,jb⟩
  rename_i a0;rw[U a0]
  split at hm
  ·rename_i c0
   rw[G c0];rcases mem_append.1 hm with hm|hm
   ·obtain⟨m',h1,h2⟩:=gp lv hl oa ob d _ _ _ s3 ja jb hj m hm
    exact⟨m',mem_append_left _ h1,h2⟩
   obtain⟨m',h1,h2⟩:=gp lv hl oa ob d _ _ _ s4 ja jb hj m hm;exact⟨m',mem_append_right _ h1,h2⟩
  cases hm
def iQ(lv:p.Lv)(ho:p.Ok)(ob:bC p vb)(hf:∀m∈bO p vb 4 p.aZ (aE p),dm p m.1=true->ef p vb m=true):∀(f:Nat) (vs:Is),bC p vs->fL p vs vb->fL p (raise p f vs) vb
 |0,vs,_,h=>h
 |f+1,vs,oz,h=>by
  unfold raise
  split
  ·rename_i vs' hr
   unfold jT at hr
   split at hr
   ·rename_i m hm
    injection hr with hr;subst hr;have hp:=find?_some hm;have fg:=mem_of_find?_eq_some hm;rw[Qk]at hp;have a0:=lv.aE;have b0:=zr6 lv oz 4 p.aZ (aE p).toNat (by rw[oz.1];exact ho.aZ) (by omega) m (by rw[show (((aE p).toNat:Nat):Int)=aE p by omega];exact fg);have h1:=(iG lv oz b0 hp.1 (by simpa using hp.2)).1;refine iQ lv ho ob hf f _ h1 (λi hi=>?_);obtain⟨m',g1,g2,g3,g4⟩:=gp lv h oz ob 4 p.aZ (aE p) (aE p) (by rw[oz.1];exact ho.aZ) a0 a0 (dR lv a0) m fg;have g5:=hf m' g1 (by rw[g2];exact hp.1);have hl:=hp.1;unfold dm at hl;rw[Qk,Qn,Qn]at hl;unfold ef at g5;rw[U (by rw[g2];omega),g2]at g5;obtain⟨-,k,hk,ek⟩:=b0;have hi':i<vs.length:=(by rw[oz.1];exact hi);have e0:=oz.2 i hi';have c0:=ob.2 i (by rw[ob.1];exact hi);rw[Qa,getElem?_set]
    by_cases d0:m.1.x=i
    ·rw[d0]at g5⊢
     rw[G rfl,G hi'];exact fM lv e0 (by omega) c0 (h i hi) (dj lv (by omega) g4 c0 g3 g5)
    rw[U d0,<-Qa];exact h i hi
   cases hr
  exact h
def il(lv:p.Lv)(ho:p.Ok):∀(f:Nat) (vs:Is),bC p vs->kh p vs<f->jT p (raise p f vs)=none
 |0,vs,_,h=>absurd h (by omega)
 |f+1,vs,oz,h=>by
  unfold raise
  cases hr:jT p vs with
  |none=>exact hr
  |some vs'=>
   simp only;unfold jT at hr
   split at hr
   ·rename_i m hm
    injection hr with hr;subst hr;have hp:=find?_some hm;have fg:=mem_of_find?_eq_some hm;rw[Qk]at hp;have a0:=lv.aE;have b0:=zr6 lv oz 4 p.aZ (aE p).toNat (by rw[oz.1];exact ho.aZ) (by omega) m (by rw[show (((aE p).toNat:Nat):Int)=aE p by omega];exact fg);obtain⟨h1,h2⟩:=iG lv oz b0 hp.1 (by simpa using hp.2);exact il lv ho f _ h1 (by omega)
   cases hr
def kQ(lv:p.Lv)(ob:bC p (vars p ls)):fL p (start p) (vars p ls):=λi hi=>by
 have hb:=ob.2 i (by rw[ob.1];exact hi);unfold start
 by_cases hc:i<p.cells.length
 ·have e:(vars p (replicate p.ap (aE p))).getD i 0=(vars p ls).getD i 0:=by
   unfold vars;rw[Qa,Qa,getElem?_append_left (by simpa using hc),getElem?_append_left (by simpa using hc)]
  rw[e];exact dR lv hb
 have e:(vars p (replicate p.ap (aE p))).getD i 0=aE p:=by
  unfold vars;rw[Qa,getElem?_append_right (by simp;omega),getElem?_replicate,G (by simp;omega)];rfl
 rw[e];exact kR lv hb
end
end Fl
namespace Fl
def fK(p:aY)(v:Int)(s:aa)(ls:Is):Bool×Is:=
 if s.kind=3/\p.cells.length<=s.x then
  if jn p (ls.getD (s.x - p.cells.length) 0) v≠ls.getD (s.x - p.cells.length) 0 then(true,ls.set (s.x - p.cells.length) (jn p (ls.getD (s.x - p.cells.length) 0) v)) else(false,ls)
 else(false,ls)
def cB(Wx:List aa->Int->Is->Bool×Is)(p:aY)(u:Int)(st:Bool×Is)(s:aa):Bool×Is:=
 let v:=jn p u (aA p (vars p st.2) s.e)
 let a:=fK p v s st.2
 let b:=Wx s.aZ v a.2
 let c:=Wx s.aU v b.2
 (st.1||a.1||b.1||c.1,c.2)
def rz(p:aY):Nat->List aa->Int->Is->Bool×Is
 |0,_,_,ls=>(false,ls)
 |d+1,l,u,ls=>l.foldl (cB (rz p d) p u) (false,ls)
def jM(Wx:List aa->Int->Is->Bool×Is)(p:aY)(u:Int)(m:Bool)(ls:Is)(s:aa):cB Wx p u (m,ls) s=(m||(cB Wx p u (false,ls) s).1,(cB Wx p u (false,ls) s).2):=by
 unfold cB;simp only[Bool.false_or,Bool.or_assoc]
def jy(Wx:List aa->Int->Is->Bool×Is)(p:aY)(u:Int):∀(l:List aa) (m:Bool) (ls:Is),l.foldl (cB Wx p u) (m,ls)=(m||(l.foldl (cB Wx p u) (false,ls)).1,(l.foldl (cB Wx p u) (false,ls)).2)
 |[],m,ls=>by simp
 |s::l,m,ls=>by
  rw[foldl_cons,foldl_cons,jM,jy Wx p u l (m||_),jy Wx p u l (cB Wx p u (false,ls) s).1];simp only[Bool.or_assoc]
def mW(p:aY)(d:Nat)(s:aa)(l:List aa)(u:Int)(ls:Is):rz p (d+1) (s::l) u ls=((cB (rz p d) p u (false,ls) s).1||(rz p (d+1) l u (cB (rz p d) p u (false,ls) s).2).1,(rz p (d+1) l u (cB (rz p d) p u (false,ls) s).2).2):=by
 show (s::l).foldl _ _=_;rw[foldl_cons,jy];rfl
def nV(p:aY)(vs:Is)(d:Nat)(l:List aa)(u:Int):Prop:=∀m∈bO p vs d l u,dm p m.1=true->ef p vs m=true
def nG(p:aY)(vs:Is)(d:Nat)(s:aa)(u:Int):Prop:=∀m∈cX (bO p vs d) p vs u s,dm p m.1=true->ef p vs m=true
def rk(p:aY)(ls:Is):Nat:=(ls.map (gK p)).sum
structure Rz(p:aY)(ls:Is)(T C:Is->Prop)(r:Bool×Is):Prop where
 ok:bC p (vars p r.2)
 ge:fL p (vars p ls) (vars p r.2)
 no:r.1=false->r.2=ls
 dn:rk p r.2<=rk p ls
 st:r.1=true->rk p r.2<rk p ls
 lo:∀vb,bC p vb->fL p (vars p ls) vb->T vb->fL p (vars p r.2) vb
 cl:r.1=false->C (vars p ls)
def fL.refl{p:aY}(lv:p.Lv){a:Is}(ok:bC p a):fL p a a:=λi hi=>dR lv (ok.2 i (by rw[ok.1];exact hi))
def fL.trans{p:aY}(lv:p.Lv){a b c:Is}(oa:bC p a)(ob:bC p b)(oc:bC p c)(h1:fL p a b)(h2:fL p b c):fL p a c:=λi hi=>dj lv (oa.2 i (by rw[oa.1];exact hi)) (ob.2 i (by rw[ob.1];exact hi)) (oc.2 i (by rw[oc.1];exact hi)) (h1 i hi) (h2 i hi)
def Rz.same{p:aY}(lv:p.Lv)(ok:bC p (vars p ls)){T C:Is->Prop}(h:C (vars p ls)):Rz p ls T C (false,ls):=⟨ok,fL.refl lv ok,λ_=>rfl,lE,λh=>(by cases h),λ_ _ h _=>h,λ_=>h⟩
def Rz.comp{p:aY}(lv:p.Lv)(ok:bC p (vars p ls)){T1 C1 T2 C2:Is->Prop}{r1 r2:Bool×Is}(h1:Rz p ls T1 C1 r1)(h2:Rz p r1.2 T2 C2 r2):Rz p ls (λvb=>T1 vb/\T2 vb) (λvs=>C1 vs/\C2 vs) (r1.1||r2.1,r2.2):=by
 refine⟨h2.ok,fL.trans lv ok h1.ok h2.ok h1.ge h2.ge,λh=>?_,Nat.le_trans h2.dn h1.dn,λh=>?_,λvb ob hb hT=>h2.lo vb ob (h1.lo vb ob hb hT.1) hT.2,λh=>?_⟩
 ·simp only[Bool.or_eq_false_iff]at h
  exact(h2.no h.2).trans (h1.no h.1)
 ·simp only[Bool.or_eq_true]at h
  have a1:=h1.dn;have a2:=h2.dn;rcases h with h|h
  ·have:=h1.st h;simp only;omega
  have:=h2.st h;simp only;omega
 simp only[Bool.or_eq_false_iff]at h;have:=h2.cl h.2;rw[h1.no h.1]at this;exact⟨h1.cl h.1,this⟩
def Rz.nU{p:aY}{T C T' C':Is->Prop}{r:Bool×Is}(h:Rz p ls T C r)(hT:∀vb,bC p vb->fL p (vars p ls) vb->T' vb->T vb)(hC:C (vars p ls)->C' (vars p ls)):Rz p ls T' C' r:=
 ⟨h.ok,h.ge,h.no,h.dn,h.st,λvb ob hb ht=>h.lo vb ob hb (hT vb ob hb ht),λh0=>hC (h.cl h0)⟩
def gW(p:aY)(ls:Is)(hx:p.cells.length<=x)(v:Int):vars p (ls.set (x - p.cells.length) v)=(vars p ls).set x v:=by
 unfold vars;rw[set_append_right _ _ (by simpa using hx),length_map]
def je(p:aY)(ls:Is)(hx:p.cells.length<=x):(vars p ls).getD x 0=ls.getD (x - p.cells.length) 0:=by
 unfold vars;rw[Qa,getElem?_append_right (by simpa using hx),length_map,Qa]
def fJ(p:aY)(ls:Is):(vars p ls).length=p.cells.length+ls.length:=by simp[vars]
section
variable{p:aY}
def lI(lv:p.Lv)(ok:bC p (vars p ls)){v:Int}(hv:0<=v/\v<p.n){s:aa}(hk:eh (vars p ls).length p.ai.length s):
  Rz p ls (λvb=>dm p s=true->aO p v (vb.getD s.x 0)=true) (λvs=>dm p s=true->aO p v (vs.getD s.x 0)=true) (fK p v s ls):=by
 unfold fK
 by_cases h3:s.kind=3/\p.cells.length<=s.x
 ·rw[G h3]
  have hx:s.x<(vars p ls).length:=by rcases hk with e|e|e|e<;>omega
  have e0:=hx;rw[fJ]at e0;have hr:=ok.2 s.x hx;have eg:=je p ls h3.2;rw[<-eg];have u:=im lv hr hv;have hj:=lv.jn hr hv
  split
  ·rename_i a0
   have f0:p.leq v.toNat ((vars p ls).getD s.x 0).toNat=false:=by
    cases hc:p.leq v.toNat ((vars p ls).getD s.x 0).toNat with
    |false=>rfl
    |true=>
     refine absurd ?_ a0;have h1:=fM lv hr hv hr (dR lv hr) hc;have h2:=lv.fh.kC _ _ (by omega) (by omega) h1 u.1;omega
   have g0:=jr lv hr hv f0;have c0:=iH ok s.x hj;have d0:rk p (ls.set (s.x - p.cells.length) (jn p ((vars p ls).getD s.x 0) v))<rk p ls:=by
    refine iI _ _ (by omega) ?_;have e:ls[s.x - p.cells.length]'(by omega)=(vars p ls).getD s.x 0:=by
     rw[eg,Qa,Qb (by omega)];rfl
    rw[e];exact g0
   have hg:∀i,i<p.cells.length+p.ap->(((vars p ls).set s.x (jn p ((vars p ls).getD s.x 0) v)).getD i 0=if s.x=i then jn p ((vars p ls).getD s.x 0) v else(vars p ls).getD i 0):=λi hi=>by
    rw[Qa,getElem?_set]
    by_cases b0:s.x=i
    ·rw[G b0,G b0,G hx];rfl
    rw[U b0,U b0,Qa]
   refine⟨by rw[gW p ls h3.2];exact c0,λi hi=>?_,λh=>(by cases h),Nat.le_of_lt d0,λ_=>d0,λvb ob hb hT i hi=>?_,λh=>(by cases h)⟩
   ·simp only
    rw[gW p ls h3.2,hg i hi];have ri:=ok.2 i (by rw[ok.1];exact hi)
    split
    ·rename_i e;rw[<-e];exact u.1
    exact dR lv ri
   simp only;rw[gW p ls h3.2,hg i hi]
   split
   ·rename_i e
    rw[<-e];have h0:=hb s.x (by rw[e];exact hi);have i0:=hT (by unfold dm;rw[decide_eq_true h3.1,decide_eq_true h3.2];rfl);exact fM lv hr hv (ob.2 s.x (by rw[ob.1,e];exact hi)) h0 i0
   exact hb i hi
  rename_i a0;have a0:=Decidable.of_not_not a0;refine Rz.same lv ok (λ_=>?_);have h2:=u.2;rw[a0]at h2;exact h2
 rw[U h3];refine Rz.same lv ok (λhl=>?_);unfold dm at hl;rw[Qk,Qn,Qn]at hl;exact absurd hl h3
def TC(p:aY)(d:Nat)(l:List aa)(u:Int)(vb:Is):Prop:=∃u':Int,(0<=u'/\u'<p.n)/\aO p u u'=true/\nV p vb d l u'
def lH(lv:p.Lv)(ok:bC p (vars p ls)){s:aa}{u:Int}(hu:0<=u/\u<p.n)(hk:eh (vars p ls).length p.ai.length s)(he:cg (vars p ls).length s.e)(e0:s.Fit)
  (Wx:List aa->Int->Is->Bool×Is) (hK:∀part,part=s.aZ\/part=s.aU->∀(ls':Is) (v:Int),(0<=v/\v<p.n)->bC p (vars p ls')->Rz p ls' (TC p d part v) (λvs=>nV p vs d part v) (Wx part v ls')):
  Rz p ls (λvb=>∃u':Int,(0<=u'/\u'<p.n)/\aO p u u'=true/\nG p vb d s u') (λvs=>nG p vs d s u) (cB Wx p u (false,ls) s):=by
 have f0:=eW lv ok he;have hv:=lv.jn hu f0;have h1:=lI lv ok hv hk;have h2:=hK s.aZ (.inl rfl) _ _ hv h1.ok;have h3:=hK s.aU (.inr rfl) _ _ hv h2.ok;have h4:=(h1.comp lv ok h2).comp lv ok h3;refine(show Rz p ls _ _ (cB Wx p u (false,ls) s) from by unfold cB;simp only[Bool.false_or];exact h4).nU (λvb ob hb hT=>?_) (λhC=>?_)
 ·obtain⟨u',hu',h0,hT⟩:=hT
  have aL:=ok.1.trans ob.1.symm;have he':cg vb.length s.e:=(by rw[<-aL];exact he);have g0:=eW lv ob he';have hj':=lv.jn hu' g0;have c0:=jA lv hu f0 hu' g0 h0 (jf lv hb ok ob he he');unfold nG cX at hT;refine⟨⟨λhl=>?_,?_⟩,?_⟩
  ·have a0:=hl
   unfold dm at a0;rw[Qk,Qn,Qn]at a0;rw[G (.inl a0.1)]at hT;have h5:=hT _ (mem_singleton.2 rfl) hl;unfold ef at h5;rw[U (by simp only;omega)]at h5
   have hx:s.x<(vars p ls).length:=by rcases hk with e|e|e|e<;>omega
   exact dj lv hv hj' (ob.2 s.x (by omega)) c0 h5
  ·refine⟨_,hj',c0,λm hm hl=>?_⟩
   by_cases b0:s.kind=3\/s.kind=4
   ·rw[(e0.2 b0).1]at hm
    cases d<;>cases hm
   have d0:s.kind=5\/s.kind=6:=by rcases hk with e|e|e|e<;>omega
   rw[U b0,G d0]at hT;exact hT m (mem_append_left _ hm) hl
  refine⟨_,hj',c0,λm hm hl=>?_⟩
  by_cases b0:s.kind=3\/s.kind=4
  ·rw[(e0.2 b0).2]at hm
   cases d<;>cases hm
  have d0:s.kind=5\/s.kind=6:=by rcases hk with e|e|e|e<;>omega
  rw[U b0,G d0]at hT;exact hT m (mem_append_right _ hm) hl
 obtain⟨⟨c1,c2⟩,c3⟩:=hC;intro m hm hl;unfold cX at hm
 split at hm
 ·rename_i b0
  rw[mem_singleton]at hm;subst hm;have a0:=hl;unfold dm at a0;rw[Qk,Qn,Qn]at a0;unfold ef;rw[U (by simp only at a0⊢;omega)];exact c1 hl
 split at hm
 ·rcases mem_append.1 hm with hm|hm
  ·exact c2 m hm hl
  exact c3 m hm hl
 cases hm
def ky(lv:p.Lv):∀(d:Nat) (l:List aa) (u:Int) (ls:Is),bC p (vars p ls)->aM (vars p ls).length p.ai.length d l->cK d l->(0<=u/\u<p.n)->Rz p ls (TC p d l u) (λvs=>nV p vs d l u) (rz p d l u ls)
 |0,_,_,ls,ok,_,_,_=>Rz.same lv ok (λm hm=>by cases hm)
 |d+1,[],_,ls,ok,_,_,_=>Rz.same lv ok (λm hm=>by cases hm)
 |d+1,s::l,u,ls,ok,hs,hp,hu=>by
  obtain⟨s1,s2,s3,s4⟩:=hs s (by simp);obtain⟨f1,f2,f3⟩:=hp s (by simp);have aL:∀ls',bC p (vars p ls')->(vars p ls').length=(vars p ls).length:=λls' h=>h.1.trans ok.1.symm
  have h1:=lH lv ok hu s1 s2 f1 (rz p d) (λpart a0 ls' v hv ok'=>by
   rcases a0 with rfl|rfl
   ·exact ky lv d _ v ls' ok' (by rw[aL ls' ok'];exact s3) f2 hv
   exact ky lv d _ v ls' ok' (by rw[aL ls' ok'];exact s4) f3 hv)
  rw[mW];have h2:=ky lv (d+1) l u (cB (rz p d) p u (false,ls) s).2 h1.ok (by rw[aL _ h1.ok];exact λs' h'=>hs s' (by simp[h'])) (λs' h'=>hp s' (by simp[h'])) hu;refine(h1.comp lv ok h2).nU (λvb ob hb hT=>?_) (λhC=>?_)
  ·obtain⟨u',hu',b0,hT⟩:=hT
   exact⟨⟨u',hu',b0,λm hm=>hT m (mem_flatMap.2 ⟨s,by simp,hm⟩)⟩,⟨u',hu',b0,λm hm=>by
    obtain⟨s',a1,a2⟩:=mem_flatMap.1 (show m∈l.flatMap (cX (bO p vb d) p vb u') from hm)
    exact hT m (mem_flatMap.2 ⟨s',by simp[a1],a2⟩)⟩⟩
  intro m hm;obtain⟨s',a1,a2⟩:=mem_flatMap.1 (show m∈(s::l).flatMap (cX (bO p (vars p ls) d) p (vars p ls) u) from hm);rcases mem_cons.1 a1 with rfl|a1
  ·exact hC.1 m a2
  exact hC.2 m (mem_flatMap.2 ⟨s',a1,a2⟩)
def fL.kC(lv:p.Lv){a b:Is}(oa:bC p a)(ob:bC p b)(h1:fL p a b)(h2:fL p b a):a=b:=by
 refine ext_getElem (oa.1.trans ob.1.symm) (λi hi hj=>?_);have ra:=oa.2 i hi;have rb:=ob.2 i hj;rw[oa.1]at hi;have h3:=lv.fh.kC _ _ (by omega) (by omega) (h1 i hi) (h2 i hi);rw[Qa,Qb (by rw[oa.1];exact hi)]at ra h3;rw[Qa,Qb hj]at rb h3;simp only[Option.getD_some]at ra rb h3;omega
def jz(lv:p.Lv)(ho:p.Ok):nV p (bJ p) 4 p.aZ (aE p):=λm hm hl=>by
 have hd:=il lv ho 25 (start p) (zwy lv) (mq lv ho (zwy lv));unfold jT at hd
 split at hd
 ·cases hd
 rename_i hn;have:=find?_eq_none.1 hn m hm;rw[hl]at this
 have h9:ef p (raise p 25 (start p)) m=true:=by simpa using this
 exact h9
def ny(lv:p.Lv)(ho:p.Ok)(ok:bC p (vars p ls))(h1:fL p (start p) (vars p ls))(h2:fL p (vars p ls) (bJ p))(h3:nV p (vars p ls) 4 p.aZ (aE p)):vars p ls=bJ p/\ls=(bJ p).drop p.cells.length:=by
 have e:=fL.kC lv ok (gY lv ho).1 h2 (iQ lv ho ok h3 25 (start p) (zwy lv) h1);refine⟨e,?_⟩;rw[<-e];unfold vars;rw[drop_append_of_le_length (by simp),drop_of_length_le (by simp),nil_append]
def mV(lv:p.Lv)(ho:p.Ok)(hp:cK 4 p.aZ)(ok:bC p (vars p ls))(h1:fL p (start p) (vars p ls))(h2:fL p (vars p ls) (bJ p)){r:Bool×Is}(hr:rz p 4 p.aZ (aE p) ls=r):
  bC p (vars p r.2)/\fL p (start p) (vars p r.2)/\fL p (vars p r.2) (bJ p)/\(r.1=true->rk p r.2<rk p ls)/\(r.1=false->r.2=(bJ p).drop p.cells.length):=by
 have h:=ky lv 4 p.aZ (aE p) ls ok (by rw[ok.1];exact ho.aZ) hp lv.aE;rw[hr]at h;have of:=(gY lv ho).1;have h4:=h.lo (bJ p) of h2 ⟨aE p,lv.aE,dR lv lv.aE,jz lv ho⟩;have h5:=fL.trans lv (zwy lv) ok h.ok h1 h.ge;refine⟨h.ok,h5,h4,h.st,λh0=>?_⟩;have e:=h.no h0;rw[e];exact(ny lv ho ok h1 h2 (h.cl h0)).2
end
end Fl
section
open Go.RowKit
section
def zb7(h:zyv w Pb Lq rb aB hv bv p)(ha:0<=a/\a<p.n)(hb:0<=b/\b<p.n):
  E 41 #[F Pb,I a,I b] w (Rq (I (Fl.jn p a b)) w):=by
 obtain⟨x,rfl⟩:∃x:Nat,a=(x:Int):=⟨a.toNat,by omega⟩;obtain⟨y,rfl⟩:∃y:Nat,b=(y:Int):=⟨b.toNat,by omega⟩;exact yz9 h.lq Pb x y h.lv.n6 (by omega) (by omega) h.p0 h.p1
def zt4(h:zyv w Pb Lq rb aB hv bv p)(hl:Zw w.heap.size w lv ls)(na:Option Addr)(nn nc:Nat)(h4:ls.length<=4)(ok:Fl.bC p (Fl.vars p ls)){e:Fl.dZ}(ho:Fl.cg (Fl.vars p ls).length e):
  E 40 #[F Pb,.agg #[lv,A na nn nc],exV e] w λr w'=>r=.returned (I (Fl.aA p (Fl.vars p ls) e))/\D w w':=by
 obtain⟨la,lc,rfl,-⟩:=id hl;have hi:=zp7 ho;have HA:Y (∀W,D w W->∀a:Fl.dK,zsy (Fl.vars p ls) a->E 61 #[F Pb,.agg #[A la ls.length lc,A na nn nc],.agg #[.bool a.var,I a.v]] W (Rw (I (Fl.bQ p (Fl.vars p ls) a)) W)):=λW hW a ha=>zo6 (h.below hW) ((hl.below hW).mono hW.size) na nn nc h4 ha;have HJ:Y (∀W,D w W->0<=e.op->E 41 #[F Pb,I (Fl.bQ p (Fl.vars p ls) e.a),I (Fl.bQ p (Fl.vars p ls) e.b)] W λe' w'=>e'=.returned (I (Fl.jn p (Fl.bQ p (Fl.vars p ls) e.a) (Fl.bQ p (Fl.vars p ls) e.b)))/\w'=W):=λW hW h0=>zb7 (h.below hW) (Fl.dC h.lv ok hi.1) (Fl.dC h.lv ok (hi.2 h0));have f0:Y (∀o o',D w ((w.alloc o).alloc o')):=λo o'=>bA.alloc (by simp) _;have HR:Y (Fl.aA p (Fl.vars p ls) e=if e.op<0 then Fl.bQ p (Fl.vars p ls) e.a else Fl.jn p (Fl.bQ p (Fl.vars p ls) e.a) (Fl.bQ p (Fl.vars p ls) e.b)):=rfl;generalize Fl.aA p (Fl.vars p ls) e=aX at*;unfold exV;generalize ls.length=n at*;have HI:=Z hi;generalize Fl.vars p ls=vs at*;clear h hl ho ok hi
 go_enter func40,ntmps40
 go_wp2_with fail
 refine(HA _ (f0 _ _) e.a HI.1).mono ?_;obtain⟨W0,a0⟩:=J ((w.alloc (.cells #[A la n lc,A na nn nc] 30)).alloc (.cells #[I e.op,.bool e.a.var,I e.a.v,.bool e.b.var,I e.b.v] 89))
 have g0:Y (At W0 [((O w.heap.size 0),A la n lc),((O w.heap.size 1),A na nn nc),((O (w.heap.size+1) 0),I e.op),((O (w.heap.size+1) 3),.bool e.b.var),((O (w.heap.size+1) 4),I e.b.v)]):=by rw[a0];exact⟨⟨by simp;omega,by simp⟩,⟨by simp;omega,by simp⟩,⟨by simp,by simp⟩,⟨by simp,by simp⟩,⟨by simp,by simp⟩,trivial⟩
 have d0:Y (D w W0):=by show Below _ _ _;rw[a0];exact f0 _ _
 rw[<-a0];rintro e1 W1 ⟨rfl,e0⟩;have b0:=Z (d0.trans (e0.mono d0.size));obtain⟨⟨-,c0⟩,⟨-,c1⟩,⟨-,c2⟩,⟨-,c3⟩,⟨-,c4⟩,-⟩:=g0.below e0;clear a0 e0 g0 d0
 by_cases i0:e.op<0
 ·have Qu:=Z (HR.trans (G i0))
  clear HA HJ HI HR;go_wp2;go_ret;exact⟨by rw[Qu.out];rfl,b0⟩
 have Qu:=Z (HR.trans (U i0))
 have h0:0<=e.op:=by omega
 clear HR
 go_wp2_with fail
 refine(HA _ b0 e.b (HI.2 h0)).mono ?_;rintro e2 W2 ⟨rfl,j0⟩;have k0:=Z (b0.trans (j0.mono b0.size));clear j0 HA c0 c1 c2 c3 c4
 go_wp2_with fail
 refine(HJ _ k0 h0).mono ?_;rintro e3 W3 ⟨rfl,rfl⟩;clear HJ HI;go_wp2;go_ret;exact⟨by rw[Qu.out];rfl,k0⟩
end
structure zzz(w0 w:World)(Pb Lq:Nat)(rb:Nat->Nat)(aB hv bv:Value)(p:Fl.aY)(lv:Value)(ls:Is):Prop where
 pr:zyv w0 Pb Lq rb aB hv bv p
 be:D w0 w
 ow:w.ownsRow w0.heap.size 3 1 lv ls.length (ls.map (int .i64))
 ok:Fl.bC p (Fl.vars p ls)
structure Yi(w w':World)(lv:Value):Prop where
 os:w'.os=w.os
 tp:w'.tape=w.tape
 ou:w'.output=w.output
 sz:w.heap.size<=w'.heap.size
 bl:∀c,c<w.heap.size->some c≠lv.ownBlock->w'.heap[c]?=w.heap[c]?
section
variable{w'':World}
def Yi.aD(h:D w w'):Yi w w' lv:=⟨h.os,h.tape,h.output,h.size,λc hc _=>h.block c hc⟩
def Yi.trans(h:Yi w w' lv)(h':Yi w' w'' lv):Yi w w'' lv:=⟨h'.os.trans h.os,h'.tp.trans h.tp,h'.ou.trans h.ou,Nat.le_trans h.sz h'.sz,λc h1 h2=>(h'.bl c (Qj h1 h.sz) h2).trans (h.bl c h1 h2)⟩
def zzz.below(h:zzz w0 w Pb Lq rb aB hv bv p lv ls)(hb:D w w'):zzz w0 w' Pb Lq rb aB hv bv p lv ls:=⟨h.pr,h.be.trans (hb.mono h.be.size),zx4 h.ow hb,h.ok⟩
def zzz.nP(h:zzz w0 w Pb Lq rb aB hv bv p lv ls):zyv w Pb Lq rb aB hv bv p:=h.pr.below h.be
def zzz.ints(h:zzz w0 w Pb Lq rb aB hv bv p lv ls):Zw w.heap.size w lv ls:=Zw.dp h.ow
def zzz.len(h:zzz w0 w Pb Lq rb aB hv bv p lv ls):ls.length=p.ap/\ls.length<=4:=by
 have h1:=h.ok.1;have h2:=h.pr.ok.lo;rw[Fl.fJ]at h1;omega
def zzz.cell(h:zzz w0 w Pb Lq rb aB hv bv p lv ls){i:Nat}(hi:i<ls.length):∃g c,lv=Sq g 0 ls.length c/\ls.length<=c/\w0.heap.size<=g/\g<w.heap.size/\w.cell? (O g i)=some (I (ls.getD i 0))/\w.frozen? (O g i)=false/\
  ∀v:Int,Fl.bC p (Fl.vars p (ls.set i v))->zzz w0 (w.setCell (O g i) (I v)) Pb Lq rb aB hv bv p lv (ls.set i v)/\Yi w (w.setCell (O g i) (I v)) lv:=by
 obtain⟨h1,h2⟩:=id h.ow;rcases h2 with⟨-,h0⟩|⟨g,c,cur,rfl,hb,hg,a0,b0,c0,ht⟩
 ·omega
 have d0:=(Array.getElem?_eq_some_iff.1 hg).1;have hc:w.cell? (O g i)=some (I (ls.getD i 0)):=by
  have h3:=h.ow.cells rfl i (I (ls.getD i 0)) (by simp[Qa,hi])
  have h4:((O g 0):Addr).add i=(O g i):=by unfold Addr.add;split<;>simp_all
  rw[h4]at h3;exact h3
 refine⟨g,c,rfl,a0,hb,d0,hc,by simp[frozen?,hg],λv ok=>⟨⟨h.pr,h.be.setCell hb _,?_,ok⟩,rfl,rfl,rfl,by rw[Zy];exact Nat.le_refl _,λk _ hk=>Zx _ _ _ _ _ (λe=>hk (by rw[e];rfl))⟩⟩;refine⟨by simp,.inr ⟨g,c,cur.setIfInBounds i (I v),by rw[length_set],hb,zzv hg i _,by rw[length_set];exact a0,b0,by simpa using c0,?_⟩⟩;rw[length_set,Array.toList_setIfInBounds,take_set,ht,map_set]
end
def zkw(w0 w:World)(Pb Lq:Nat)(rb:Nat->Nat)(aB hv bv:Value)(p:Fl.aY)(lv:Value)(r:Bool×Is)(e:Ending)(w':World):Prop:=e=.returned (.bool r.1)/\zzz w0 w' Pb Lq rb aB hv bv p lv r.2/\Yi w w' lv
def ysz(w0:World)(Pb Lq:Nat)(rb:Nat->Nat)(aB hv bv:Value)(p:Fl.aY)(lv:Value)(d:Nat):Prop:=
 ∀(W:World) (ls:Is) (v:Value) (l:List Fl.aa) (u:Int),zzz w0 W Pb Lq rb aB hv bv p lv ls->Zh d (λb=>b<w0.heap.size) w0 v l->Fl.aM (Fl.vars p ls).length p.ai.length d l->Fl.cK d l->(0<=u/\u<p.n)->
  E 19 #[F Pb,.agg #[lv,K],v,I u] W (zkw w0 W Pb Lq rb aB hv bv p lv (Fl.rz p d l u ls))
def ye2{α β:Type}(f:β->α->β)(b:β){l:List α}(h:k<l.length)(x:α)(hx:l.getD k x=l[k]):(l.take (k+1)).foldl f b=f ((l.take k).foldl f b) (l.getD k x):=by
 rw[take_succ_eq_append_getElem h,foldl_append,hx];rfl
def At.step{W W':World}{lv:Value}(h:Yi W W' lv):∀{l:List (Addr×Value)},(∀q∈l,some q.1.block≠lv.ownBlock)->At W l->At W' l
 |[],_,_=>trivial
 |q::l,hl,⟨⟨h1,h2⟩,h3⟩=>⟨⟨Qj h1 h.sz,(Qc (a:=q.1) (h.bl _ h1 (hl q (by simp)))).trans h2⟩,At.step h (λq hq=>hl q (by simp[hq])) h3⟩
section
def yp3(d:Nat)(IH:ysz w0 Pb Lq rb aB hv bv p lv d):ysz w0 Pb Lq rb aB hv bv p lv (d+1):=by
 intro w ls v l u hw hs ho hp hu;obtain⟨sa,sc,rfl,s1,s2,s3,s4⟩:=hs;have z0:=Z IH;have HW:=Z hw;have HU:=Z hu;have o1:Y (∀ls',Fl.bC p (Fl.vars p ls')->(Fl.vars p ls').length=(Fl.vars p ls).length):=λls' h=>h.1.trans hw.ok.1.symm;obtain⟨n,hn⟩:=J (l.length)
 have R1:(n:Int)<=16:=by omega
 have m2:(n:Int)<=(sc:Int):=by omega
 have S1:Y (∀k,k<n->∃b bo oo,sa=some (O b 0)/\b<w0.heap.size/\(∀j,j<10->M w0 b (k*10+j) ((Xj (l.getD k noS) bo oo).getD j undef))/\Zh d (λb=>b<w0.heap.size) w0 bo (l.getD k noS).aZ/\Zh d (λb=>b<w0.heap.size) w0 oo (l.getD k noS).aU/\Fl.eh (Fl.vars p ls).length p.ai.length (l.getD k noS)/\Fl.cg (Fl.vars p ls).length (l.getD k noS).e/\Fl.aM (Fl.vars p ls).length p.ai.length d (l.getD k noS).aZ/\Fl.aM (Fl.vars p ls).length p.ai.length d (l.getD k noS).aU/\(l.getD k noS).Fit/\Fl.cK d (l.getD k noS).aZ/\Fl.cK d (l.getD k noS).aU):=λk hk=>by
  have hk':k<l.length:=(by omega);obtain⟨b,e,hb,hc⟩:=s4 (by intro e;rw[e]at hk';cases hk');obtain⟨bo,oo,g1,g2,g3⟩:=hc k hk';have hm:l.getD k noS∈l:=(by rw[Qa,Qb hk'];exact getElem_mem hk');obtain⟨e1,e2,e3,e4⟩:=ho _ hm;obtain⟨f1,f2,f3⟩:=hp _ hm;exact⟨b,bo,oo,e,hb,g1,g2,g3,e1,e2,e3,e4,f1,f2,f3⟩
 have T1:Y (∀k,k<n->(l.take (k+1)).foldl (Fl.cB (Fl.rz p d) p u) (false,ls)=Fl.cB (Fl.rz p d) p u ((l.take k).foldl (Fl.cB (Fl.rz p d) p u) (false,ls)) (l.getD k noS)):=λk hk=>ye2 _ _ (by omega) _ (by rw[Qa,Qb (by omega)];rfl)
 have p1:Y (Fl.rz p (d+1) l u ls=(l.take n).foldl (Fl.cB (Fl.rz p d) p u) (false,ls)):=by show _=_;rw[hn,take_length];rfl
 generalize Fl.rz p (d+1) l u ls=aX at*
 obtain⟨la,ln,lc,rfl⟩:∃a b c,lv=A a b c:=by obtain⟨a,c,e,-⟩:=hw.ints;exact⟨a,_,c,e⟩
 obtain⟨ca,cc,C1,u0⟩:∃ca cc,aB=A ca p.cells.length cc/\p.cells.length<=cc:=by obtain⟨a,c,e,h1,-⟩:=hw.pr.ci;rw[length_map]at e h1;exact⟨a,c,e,h1⟩
 rw[<-hn];obtain⟨nc,K0⟩:=J (p.cells.length)
 have n2:(nc:Int)<=6:=by have:=hw.pr.ok.ce;omega
 have G0:=Z K0
 have U1:Y (aB=A ca nc cc):=by show _=_;rw[C1,K0]
 clear hw hu ho hp s1 s2 s3 s4 IH hn u0 C1 K0
 go_enter func19,ntmps19
 go_wp2_with fail
 obtain⟨W0,N0⟩:=J (w.alloc (.cells #[A la ln lc,K] 30));rw[<-N0]
 have D1:w.heap.size<W0.heap.size:=by rw[N0];simp
 have E1:Y (D w W0):=by show Below _ _ _;rw[N0];exact bA
 have V1:Y (∀V,Yi W0 V (A la ln lc)->M V w.heap.size 0 (A la ln lc)/\M V w.heap.size 1 K):=λV hV=>by
  have q:V.heap[w.heap.size]?=W0.heap[w.heap.size]?:=hV.bl _ D1 (λhh=>by have:=(HW.ow.lt _ hh.symm).2;omega);exact⟨cQ q (by rw[N0];simp),cQ q (by rw[N0];simp)⟩
 clear N0
 go_loopw [9,10] (λm i wr=>∃(k:Nat) (q:Bool×Is),k<=n/\i=I k/\(l.take k).foldl (Fl.cB (Fl.rz p d) p u) (false,ls)=q/\m=.bool q.1/\zzz w0 wr Pb Lq rb aB hv bv p (A la ln lc) q.2/\Yi W0 wr (A la ln lc)) (λ_ i _=>n - (intOf i).toNat)
 case atStart=>exact⟨0,(false,ls),Nat.zero_le _,rfl,rfl,rfl,HW.below E1,Yi.aD (Below.refl _ _)⟩
 case round=>
  obtain⟨k,⟨m,cur⟩,hk,rfl,hq,rfl,F1,cZ⟩:=hrel;have p0:=Z F1;have Q0:=Z cZ;have HQ:=Z hq;clear F1 cZ hq
  by_cases G1:k<n
  ·have X1:(k:Int)<(n:Int):=by omega
   obtain⟨b,bo,oo,rfl,hbz,u0,U0,V0,k1,k2,k3,k4,f1,f2,f3⟩:=S1 k G1;have HF:=T1 k G1;rw[HQ.out]at HF;obtain⟨s,hs⟩:=J (l.getD k noS);rw[<-hs]at u0 U0 V0 k1 k2 k3 k4 f1 f2 f3 HF;obtain⟨ba,bn,bc,rfl⟩:=U0.slice;obtain⟨oa,on,oc,rfl⟩:=V0.slice;have X0:=p0.be.size;have qq:∀j,wr.cell? (O b j)=w0.cell? (O b j):=λj=>p0.be.cell (p:=(O b j)) hbz;have c0:M wr b (k*10) (I s.kind):=(qq _).trans (u0 0 (by omega));have c1:M wr b (k*10+1) (I s.x):=(qq _).trans (u0 1 (by omega));have c2:M wr b (k*10+2) (I s.aq):=(qq _).trans (u0 2 (by omega));have c3:M wr b (k*10+3) (I s.e.op):=(qq _).trans (u0 3 (by omega));have c4:M wr b (k*10+4) (.bool s.e.a.var):=(qq _).trans (u0 4 (by omega));have c5:M wr b (k*10+5) (I s.e.a.v):=(qq _).trans (u0 5 (by omega));have c6:M wr b (k*10+6) (.bool s.e.b.var):=(qq _).trans (u0 6 (by omega));have c7:M wr b (k*10+7) (I s.e.b.v):=(qq _).trans (u0 7 (by omega));have c8:M wr b (k*10+8) (A ba bn bc):=(qq _).trans (u0 8 (by omega));have c9:M wr b (k*10+9) (A oa on oc):=(qq _).trans (u0 9 (by omega));have Y0:=p0.ok;have aL:=o1 cur Y0;have k2':Fl.cg (Fl.vars p cur).length s.e:=(by rw[aL];exact k2);have q1:=Fl.eW p0.pr.lv Y0 k2';have H1:=p0.pr.lv.jn HU q1;have I1:Y (∀V,D wr V->E 40 #[F Pb,.agg #[A la ln lc,K],.agg #[I s.e.op,.bool s.e.a.var,I s.e.a.v,.bool s.e.b.var,I s.e.b.v]] V (Rw (I (Fl.aA p (Fl.vars p cur) s.e)) V)):=λV hV=>zt4 (p0.below hV).nP (p0.below hV).ints none 0 0 (p0.len).2 Y0 k2';have J1:Y (∀V,D w0 V->∀x y:Int,(0<=x/\x<p.n)->(0<=y/\y<p.n)->E 41 #[F Pb,I x,I y] V (Rq (I (Fl.jn p x y)) V)):=λV hV x y hx hy=>zb7 (p0.pr.below hV) hx hy;have h0:Y (Fl.eh (Fl.vars p cur).length p.ai.length s/\Fl.aM (Fl.vars p cur).length p.ai.length d s.aZ/\Fl.aM (Fl.vars p cur).length p.ai.length d s.aU/\Fl.cK d s.aZ/\Fl.cK d s.aU/\Zh d (λb=>b<w0.heap.size) w0 (A ba bn bc) s.aZ/\Zh d (λb=>b<w0.heap.size) w0 (A oa on oc) s.aU):=(by rw[aL];exact⟨k1,k3,k4,f2,f3,U0,V0⟩);have A0:Y ((0<=Fl.aA p (Fl.vars p cur) s.e/\Fl.aA p (Fl.vars p cur) s.e<p.n)/\(0<=Fl.jn p u (Fl.aA p (Fl.vars p cur) s.e)/\Fl.jn p u (Fl.aA p (Fl.vars p cur) s.e)<p.n)):=⟨q1,H1⟩;have t1:Y ((l.take (k+1)).foldl (Fl.cB (Fl.rz p d) p u) (false,ls)=((m||(Fl.fK p (Fl.jn p u (Fl.aA p (Fl.vars p cur) s.e)) s cur).1||(Fl.rz p d s.aZ (Fl.jn p u (Fl.aA p (Fl.vars p cur) s.e)) (Fl.fK p (Fl.jn p u (Fl.aA p (Fl.vars p cur) s.e)) s cur).2).1||(Fl.rz p d s.aU (Fl.jn p u (Fl.aA p (Fl.vars p cur) s.e)) (Fl.rz p d s.aZ (Fl.jn p u (Fl.aA p (Fl.vars p cur) s.e)) (Fl.fK p (Fl.jn p u (Fl.aA p (Fl.vars p cur) s.e)) s cur).2).2).1),(Fl.rz p d s.aU (Fl.jn p u (Fl.aA p (Fl.vars p cur) s.e)) (Fl.rz p d s.aZ (Fl.jn p u (Fl.aA p (Fl.vars p cur) s.e)) (Fl.fK p (Fl.jn p u (Fl.aA p (Fl.vars p cur) s.e)) s cur).2).2).2)):=id HF
   have v0:w.heap.size<wr.heap.size:=Qj D1 Q0.sz;have o2:b<wr.heap.size:=Qj hbz X0;have q2:Pb<wr.heap.size:=Qj p0.pr.hz X0;generalize Fl.aA p (Fl.vars p cur) s.e=ev at*;generalize hvv:Fl.jn p u ev=vv at t1 A0⊢;have Y1:=Z hvv;clear hvv;clear u0 U0 V0 k1 k2 k3 k4 f1 f2 f3 HF Y0 aL k2' q1 H1 qq hs;obtain⟨x0,x1⟩:=V1 wr Q0.out
   go_wp2_with fail
   obtain⟨W1,Z0⟩:=J (wr.alloc (.cells #[I s.kind,I s.x,I s.aq,I s.e.op,.bool s.e.a.var,I s.e.a.v,.bool s.e.b.var,I s.e.b.v,A ba bn bc,A oa on oc] 91));rw[<-Z0];have H0:Y (D wr W1):=(by show Below _ _ _;rw[Z0];exact bA)
   have K1:Y (∀V,D w0 V->M V Pb 2 (A ca nc cc)):=λV hV=>by rw[<-U1.out];exact(p0.pr.below hV).p2
   have L1:Y (At W1 [((O wr.heap.size 0),I s.kind),((O wr.heap.size 1),I s.x),((O wr.heap.size 8),A ba bn bc),((O wr.heap.size 9),A oa on oc),((O w.heap.size 0),A la ln lc),((O w.heap.size 1),K)]):=by
    have y0:=cT H0 v0 x0;have y1:=cT H0 v0 x1;refine⟨⟨?_,?_⟩,⟨?_,?_⟩,⟨?_,?_⟩,⟨?_,?_⟩,⟨Qj v0 H0.size,y0⟩,⟨Qj v0 H0.size,y1⟩,trivial⟩
    all_goals rw[Z0];simp
   clear Z0 c0 c1 c2 c3 c4 c5 c6 c7 c8 c9 x0 x1;refine(I1 _ H0).mono ?_;rintro e1 W2 ⟨rfl,u1⟩;have v1:Y _:=L1.below u1;have d1:Y (D wr W2):=H0.trans (u1.mono H0.size);clear u1 L1 H0 I1;have i1:Y (D w0 W2):=p0.be.trans (d1.mono X0)
   go_wp2_with fail
   refine(J1 _ i1 u ev HU A0.1).mono ?_;rintro e2 W ⟨rfl,rfl⟩;rw[Y1.out];have q0:Y (zzz w0 W Pb Lq rb aB hv bv p (A la ln lc) cur):=p0.below d1.out;have n0:Y (Yi W0 W (A la ln lc)):=Q0.trans (Yi.aD d1)
   have j1:Y (∀c,w.heap.size<=c->some c≠(A la ln lc).ownBlock):=λc hc hh=>by have:=(HW.ow.lt c hh.symm).2;omega
   obtain⟨⟨-,a0⟩,⟨-,a1⟩,⟨-,a8⟩,⟨-,a9⟩,⟨-,y0⟩,⟨-,y1⟩,-⟩:=v1.out;have pc:=K1 W i1.out;clear K1 p0 Q0 d1 X0
   have O0:Y (∀(f:Bool) (a2:Is),Fl.fK p vv s cur=(f,a2)->(l.take (k+1)).foldl (Fl.cB (Fl.rz p d) p u) (false,ls)=((m||f||(Fl.rz p d s.aZ vv a2).1||(Fl.rz p d s.aU vv (Fl.rz p d s.aZ vv a2).2).1),(Fl.rz p d s.aU vv (Fl.rz p d s.aZ vv a2).2).2)):=λf a2 hq=>by rw[t1.out,hq]
   have o0:=Z q0.ok
   have C0:Y (∀V,Yi W V (A la ln lc)->At V [((O wr.heap.size 8),A ba bn bc),((O wr.heap.size 9),A oa on oc),((O w.heap.size 0),A la ln lc),((O w.heap.size 1),K)]):=λV hV=>At.step hV (λq hq=>by
    simp only[mem_cons,not_mem_nil,or_false]at hq;rcases hq with rfl|rfl|rfl|rfl
    ·exact j1 wr.heap.size (Nat.le_of_lt v0)
    ·exact j1 wr.heap.size (Nat.le_of_lt v0)
    ·exact j1 w.heap.size lE
    exact j1 w.heap.size lE) (by obtain⟨-,-,q8,q9,r0,r1,-⟩:=v1.out;exact⟨q8,q9,r0,r1,trivial⟩)
   clear t1 v1
   by_cases L0:s.kind=3/\nc<=s.x
   ·have R0:((s.kind:Int)==3)=true:=by rw[L0.1];rfl
    have M1:(nc:Int)<=(s.x:Int):=(by omega);obtain⟨i,hi⟩:=J (s.x - nc);have z1:(s.x:Int) - (nc:Int)=(i:Int):=(by omega)
    have l1:s.x<(Fl.vars p cur).length:=by rcases h0.1 with e|e|e|e<;>omega
    have N1:i<cur.length:=(by rw[Fl.fJ,<-G0.out]at l1;omega);have Z1:(s.x:Int)<11:=by
     have h1:=q0.len.2;have h2:=q0.pr.ok.ce;rw[Fl.fJ]at l1;omega
    have t2:(i:Int)<11:=(by omega);have E0:Y (i=s.x - nc/\s.kind=3/\nc<=s.x/\s.x<(Fl.vars p cur).length):=⟨hi,L0.1,L0.2,l1⟩;clear hi L0 l1
    go_wp2_with fail
    refine Zf [(3,40)] (by kernel_rfl) (by kernel_rfl) (by kernel_rfl) (λops hG=>?_);have g1:=hG (3,40) (by simp);simp only at g1;clear hG
    iterate 13 still_step
    refine wpStill_nil ?_;clear g1 ops
    go_wp2_with fail
    refine Zf [] (by kernel_rfl) (by kernel_rfl) (by kernel_rfl) (λops _=>?_)
    iterate 9 still_step
    refine wpStill_nil ?_;obtain⟨WD,A1⟩:=J (W.drew.drew);have I0:Y (D W WD):=(by rw[A1];exact dA.drew);rw[<-A1];clear A1 a0 a1 a8 a9 y0 y1 pc z1 M1 Z1;have s0:Y (zzz w0 WD Pb Lq rb aB hv bv p (A la ln lc) cur):=q0.below I0.out;obtain⟨g,c,e,-,-,-,J0,O1,S0⟩:=s0.cell N1;obtain⟨-,-,⟨-,y0⟩,⟨-,y1⟩,-⟩:=C0 WD (Yi.aD I0);injection e with e1 e2 e3;subst e1;have u2:(i:Int)<(ln:Int):=(by omega);have F0:=s0.ok.2 s.x E0.2.2.2;rw[Fl.je p cur (by rw[<-G0.out];exact E0.2.2.1),<-G0.out,<-E0.1]at F0;have M0:=Z S0;have T0:Y (Fl.fK p vv s cur=if Fl.jn p (cur.getD i 0) vv≠cur.getD i 0 then(true,cur.set i (Fl.jn p (cur.getD i 0) vv)) else(false,cur)):=by
     show _=_;unfold Fl.fK;rw[G ⟨E0.2.1,by rw[<-G0.out];exact E0.2.2.1⟩,<-G0.out,<-E0.1]
    have d2:Y (∀v:Int,(0<=v/\v<p.n)->Fl.bC p (Fl.vars p (cur.set i v))):=λv hv=>by
     rw[E0.1,G0.out,Fl.gW p cur (by rw[<-G0.out];exact E0.2.2.1)];exact Fl.iH s0.ok _ hv
    generalize cur.getD i 0=fZ at*;have P1:=Z (J1 WD (i1.trans (I0.mono i1.size)) fZ vv F0 A0.2);have m1:=Z (s0.pr.lv.jn F0 A0.2);clear S0 e2 e3 F0 N1
    go_wp2_with fail
    refine P1.mono ?_;rintro e4 W9 ⟨rfl,rfl⟩;obtain⟨up,Q1⟩:=J (Fl.jn p fZ vv);rw[<-Q1]at T0 m1⊢;clear Q1 P1 q0
    by_cases P0:up=fZ
    ·have B1:(up !=fZ)=false:=by rw[P0];simp
     have m0:Y ((l.take (k+1)).foldl (Fl.cB (Fl.rz p d) p u) (false,ls)=((m||(Fl.rz p d s.aZ vv cur).1||(Fl.rz p d s.aU vv (Fl.rz p d s.aZ vv cur).2).1),(Fl.rz p d s.aU vv (Fl.rz p d s.aZ vv cur).2).2)):=(by show _=_;rw[O0 false cur (by rw[T0.out,U (by simpa using P0)]),Bool.or_false]);have b0:=Z s0.out;have i0:Y (Yi W W9 (Sq g 0 ln lc)):=Yi.aD I0.out;obtain⟨⟨-,z8⟩,-⟩:=C0 W9 i0.out;clear s0 I0 T0 O0 M0 m1 P0
     go_wp2_with fail
     obtain⟨W3,B0⟩:=J (W9);obtain⟨a2,D0⟩:=J (cur);rw[<-B0,<-D0]at b0;rw[<-B0]at i0⊢;rw[<-D0]at m0;clear y0 y1 z8 J0 O1 B0 D0 E0;refine(z0 W3 a2 (A ba bn bc) s.aZ vv b0 h0.2.2.2.2.2.1 (by rw[b0.ok.1,<-o0.1];exact h0.2.1) h0.2.2.2.1 A0.2).mono ?_;rintro e5 W4 ⟨rfl,d0,j0⟩;have e0:=Z (i0.trans j0);generalize Fl.rz p d s.aZ vv a2=r1 at d0 m0⊢;have f0:=Z d0;obtain⟨-,⟨-,z9⟩,⟨-,y0⟩,⟨-,y1⟩,-⟩:=C0 W4 e0.out;clear d0 j0 b0 i0
     go_wp2_with fail
     refine(z0 W4 r1.2 (A oa on oc) s.aU vv f0 h0.2.2.2.2.2.2 (by rw[f0.ok.1,<-o0.1];exact h0.2.2.1) h0.2.2.2.2.1 A0.2).mono ?_;rintro e6 W5 ⟨rfl,g0,k0⟩;have t0:=Z ((n0.trans e0).trans k0);generalize Fl.rz p d s.aU vv r1.2=r2 at g0 m0⊢;have l0:=Z g0;obtain⟨b1,s1⟩:=r1;obtain⟨b2,s2⟩:=r2;simp only at m0 l0;clear g0 k0 f0 e0 z9 y0 y1 C0 h0 z0 n0
     cases m<;>cases b1<;>cases b2
     all_goals
      go_wp2
      go_roundw
      case rel=>exact⟨k+1,(_,_),by omega,by go_num,m0,rfl,l0,t0⟩
      case measure=>simp[intOf];omega
    have B1:(up !=fZ)=true:=(by rw[bne_iff_ne];exact P0);obtain⟨a2,D0⟩:=J (cur.set i up);have m0:Y ((l.take (k+1)).foldl (Fl.cB (Fl.rz p d) p u) (false,ls)=((true||(Fl.rz p d s.aZ vv a2).1||(Fl.rz p d s.aU vv (Fl.rz p d s.aZ vv a2).2).1),(Fl.rz p d s.aU vv (Fl.rz p d s.aZ vv a2).2).2)):=(by show _=_;rw[O0 true a2 (by rw[T0.out,G (by simpa using P0),D0]),Bool.or_true]);have h9:=M0 up (d2 up m1);have b0:=Z h9.1;have i0:Y (Yi W (W9.setCell (O g i) (I up)) (Sq g 0 ln lc)):=(Yi.aD I0).trans h9.2;obtain⟨⟨-,z8⟩,-⟩:=C0 W9 (Yi.aD I0);have i2:g<w.heap.size:=(HW.ow.lt g rfl).2;have j2:g≠w.heap.size:=(by omega);have l2:g≠wr.heap.size:=(by omega);clear s0 I0 T0 O0 M0 m1 P0 h9
    go_wp2_with fail
    obtain⟨W3,B0⟩:=J (W9.setCell (O g i) (I up));rw[<-B0,<-D0]at b0;rw[<-B0]at i0⊢;clear y0 y1 z8 J0 O1 i2 j2 l2 B0 D0 E0;refine(z0 W3 a2 (A ba bn bc) s.aZ vv b0 h0.2.2.2.2.2.1 (by rw[b0.ok.1,<-o0.1];exact h0.2.1) h0.2.2.2.1 A0.2).mono ?_;rintro e5 W4 ⟨rfl,d0,j0⟩;have e0:=Z (i0.trans j0);generalize Fl.rz p d s.aZ vv a2=r1 at d0 m0⊢;have f0:=Z d0;obtain⟨-,⟨-,z9⟩,⟨-,y0⟩,⟨-,y1⟩,-⟩:=C0 W4 e0.out;clear d0 j0 b0 i0
    go_wp2_with fail
    refine(z0 W4 r1.2 (A oa on oc) s.aU vv f0 h0.2.2.2.2.2.2 (by rw[f0.ok.1,<-o0.1];exact h0.2.2.1) h0.2.2.2.2.1 A0.2).mono ?_;rintro e6 W5 ⟨rfl,g0,k0⟩;have t0:=Z ((n0.trans e0).trans k0);generalize Fl.rz p d s.aU vv r1.2=r2 at g0 m0⊢;have l0:=Z g0;obtain⟨b1,s1⟩:=r1;obtain⟨b2,s2⟩:=r2;simp only at m0 l0;clear g0 k0 f0 e0 z9 y0 y1 C0 h0 z0 n0
    cases m<;>cases b1<;>cases b2
    all_goals
     go_wp2
     go_roundw
     case rel=>exact⟨k+1,(_,_),by omega,by go_num,m0,rfl,l0,t0⟩
     case measure=>simp[intOf];omega
   have m0:Y ((l.take (k+1)).foldl (Fl.cB (Fl.rz p d) p u) (false,ls)=((m||(Fl.rz p d s.aZ vv cur).1||(Fl.rz p d s.aU vv (Fl.rz p d s.aZ vv cur).2).1),(Fl.rz p d s.aU vv (Fl.rz p d s.aZ vv cur).2).2)):=by
    show _=_;rw[O0 false cur (by unfold Fl.fK;rw[U (by rw[<-G0.out];exact L0)]),Bool.or_false]
   have b0:=Z (q0.below dA);have i0:Y (Yi W W.drew (A la ln lc)):=Yi.aD dA;obtain⟨a2,D0⟩:=J (cur);obtain⟨W3,B0⟩:=J (W.drew);rw[<-B0,<-D0]at b0;rw[<-B0]at i0;rw[<-D0]at m0;have n1:=Z B0.symm;clear B0 D0 O0 q0
   by_cases hk:s.kind=3
   ·have R0:((s.kind:Int)==3)=true:=by rw[hk];rfl
    have M1:¬(nc:Int)<=(s.x:Int):=(by omega);clear L0 hk
    go_wp2_with fail
    refine Zf [(3,40)] (by kernel_rfl) (by kernel_rfl) (by kernel_rfl) (λops hG=>?_);have g1:=hG (3,40) (by simp);simp only at g1;clear hG
    iterate 13 still_step
    refine wpStill_nil ?_;clear g1 ops
    go_wp2_with fail
    rw[n1.out];clear a0 a1 a8 a9 y0 y1 pc n1;refine(z0 W3 a2 (A ba bn bc) s.aZ vv b0 h0.2.2.2.2.2.1 (by rw[b0.ok.1,<-o0.1];exact h0.2.1) h0.2.2.2.1 A0.2).mono ?_;rintro e5 W4 ⟨rfl,d0,j0⟩;have e0:=Z (i0.trans j0);generalize Fl.rz p d s.aZ vv a2=r1 at d0 m0⊢;have f0:=Z d0;obtain⟨-,⟨-,z9⟩,⟨-,y0⟩,⟨-,y1⟩,-⟩:=C0 W4 e0.out;clear d0 j0 b0 i0
    go_wp2_with fail
    refine(z0 W4 r1.2 (A oa on oc) s.aU vv f0 h0.2.2.2.2.2.2 (by rw[f0.ok.1,<-o0.1];exact h0.2.2.1) h0.2.2.2.2.1 A0.2).mono ?_;rintro e6 W5 ⟨rfl,g0,k0⟩;have t0:=Z ((n0.trans e0).trans k0);generalize Fl.rz p d s.aU vv r1.2=r2 at g0 m0⊢;have l0:=Z g0;obtain⟨b1,s1⟩:=r1;obtain⟨b2,s2⟩:=r2;simp only at m0 l0;clear g0 k0 f0 e0 z9 y0 y1 C0 h0 z0 n0
    cases m<;>cases b1<;>cases b2
    all_goals
     go_wp2
     go_roundw
     case rel=>exact⟨k+1,(_,_),by omega,by go_num,m0,rfl,l0,t0⟩
     case measure=>simp[intOf];omega
   have R0:((s.kind:Int)==3)=false:=beq_eq_false_iff_ne.2 (by omega);clear L0 hk
   go_wp2_with fail
   refine Zf [(3,40)] (by kernel_rfl) (by kernel_rfl) (by kernel_rfl) (λops hG=>?_);have g1:=hG (3,40) (by simp);simp only at g1;clear hG
   iterate 13 still_step
   refine wpStill_nil ?_;clear g1 ops
   go_wp2_with fail
   rw[n1.out];clear a0 a1 a8 a9 y0 y1 pc n1;refine(z0 W3 a2 (A ba bn bc) s.aZ vv b0 h0.2.2.2.2.2.1 (by rw[b0.ok.1,<-o0.1];exact h0.2.1) h0.2.2.2.1 A0.2).mono ?_;rintro e5 W4 ⟨rfl,d0,j0⟩;have e0:=Z (i0.trans j0);generalize Fl.rz p d s.aZ vv a2=r1 at d0 m0⊢;have f0:=Z d0;obtain⟨-,⟨-,z9⟩,⟨-,y0⟩,⟨-,y1⟩,-⟩:=C0 W4 e0.out;clear d0 j0 b0 i0
   go_wp2_with fail
   refine(z0 W4 r1.2 (A oa on oc) s.aU vv f0 h0.2.2.2.2.2.2 (by rw[f0.ok.1,<-o0.1];exact h0.2.2.1) h0.2.2.2.2.1 A0.2).mono ?_;rintro e6 W5 ⟨rfl,g0,k0⟩;have t0:=Z ((n0.trans e0).trans k0);generalize Fl.rz p d s.aU vv r1.2=r2 at g0 m0⊢;have l0:=Z g0;obtain⟨b1,s1⟩:=r1;obtain⟨b2,s2⟩:=r2;simp only at m0 l0;clear g0 k0 f0 e0 z9 y0 y1 C0 h0 z0 n0
   cases m<;>cases b1<;>cases b2
   all_goals
    go_wp2
    go_roundw
    case rel=>exact⟨k+1,(_,_),by omega,by go_num,m0,rfl,l0,t0⟩
    case measure=>simp[intOf];omega
  have X1:¬(k:Int)<(n:Int):=(by omega)
  obtain rfl:k=n:=by omega
  have HE:Y (zkw w0 w Pb Lq rb aB hv bv p (A la ln lc) aX (.returned (.bool m)) wr):=by
   rw[p1.out,HQ.out];exact⟨rfl,p0,(Yi.aD E1).trans Q0⟩
  go_wp2;go_ret;exact HE
end
def zd1{w0:World}{Pb Lq:Nat}{rb:Nat->Nat}{aB hv bv lv:Value}{p:Fl.aY}:∀d,ysz w0 Pb Lq rb aB hv bv p lv d
 |0=>λw ls v l u hw hs ho hp hu=>by
  obtain⟨rfl,rfl⟩:=hs
  obtain⟨la,ln,lc,rfl⟩:∃a b c,lv=A a b c:=by obtain⟨a,c,e,-⟩:=hw.ints;exact⟨a,_,c,e⟩
  have HW:=Z hw;have HE:Y (∀V,D w V->zkw w0 w Pb Lq rb aB hv bv p (A la ln lc) (Fl.rz p 0 [] u ls) (.returned (.bool false)) V):=λV hV=>⟨rfl,HW.below hV,Yi.aD hV⟩;clear hw hp ho hu HW
  go_enter func19,ntmps19
  go_wp2_with fail
  go_loopw [9,10] (λm i wr=>m=.bool false/\i=I 0/\D w wr) (λ_ _ _=>0)
  case atStart=>exact⟨rfl,rfl,bA⟩
  case round=>
   obtain⟨rfl,rfl,hb⟩:=hrel;have HB:=Z hb;clear hb;go_wp2;go_ret;exact HE _ HB.out
 |d+1=>yp3 d (zd1 d)
structure Yc(w0 w:World)(Xb:Nat)(lv wv:Value)(ls:Is)(acc:List Fl.ar)(lvs:Vs):Prop where
 x0:w0.heap.size<=Xb
 hz:Xb<w.heap.size
 c0:w.cell? (O Xb 0)=some lv
 c1:w.cell? (O Xb 1)=some wv
 fz:∀j,w.frozen? (O Xb j)=false
 hl:lvs.length=acc.length
 ow:w.ownsRow (Xb+1) 73 6 wv acc.length (flat acc lvs)
 li:∀p,p∈(lv,ls)::Yu acc lvs->Vw w p.1 p.2 K wv/\(p.2≠[]->∀b,p.1.ownBlock=some b->Xb<b/\Xk w b)
 be:D w0 w
 le:acc.length<=100001/\∀p,p∈Yu acc lvs->(p.2=[]->p.1=K)/\p.2.length<=16
section
variable{W1 W2:World}{wv':Value}{nd:Fl.ar}
def Yc.below(h:Yc w0 w Xb lv wv ls acc lvs)(hb:D w w'):Yc w0 w' Xb lv wv ls acc lvs:=by
 have hx:=h.hz;exact⟨h.x0,Qj hx hb.size,cT hb hx h.c0,cT hb hx h.c1,λj=>(hb.frozen (p:=(O Xb j)) hx).trans (h.fz j),h.hl,zx4 h.ow hb,λp hp=>⟨(h.li p hp).1.below hb,λhn b hbb=>⟨((h.li p hp).2 hn b hbb).1,((h.li p hp).2 hn b hbb).2.of (hb.block b ((h.li p hp).2 hn b hbb).2.lt)⟩⟩,h.be.trans (hb.mono h.be.size),h.le⟩
def Yc.ints(h:Yc w0 w Xb lv wv ls acc lvs):Zw w.heap.size w lv ls:=(h.li (lv,ls) (by simp)).1.1
def Yc.nodes(h:Yc w0 w Xb lv wv ls acc lvs):Zl w.heap.size w wv acc:=
 Uy h.ow h.hl (λi hi=>(h.li _ (by simp only[mem_cons];right;exact Vj acc lvs i h.hl hi)).1.1)
def Yc.push(h:Yc w0 w Xb lv wv ls acc lvs)(hb:D w W1)(hi:Zw w.heap.size w lvn nd.ae)(hn:acc.length<=100000)(hq:(nd.ae=[]->lvn=K)/\nd.ae.length<=16)(hf:nd.ae≠[]->∀b,lvn.ownBlock=some b->Xb<b/\some b≠wv.ownBlock/\Xk w b)
  (ho:W2.ownsRow (Xb+1) 73 6 wv' (acc.length+1) (flat acc lvs++Zc nd lvn)) (hg:W1.grownBy W2 wv.ownBlock) (hw:wv'.ownBlock=wv.ownBlock\/wv'.ownBlock=some W1.heap.size):
  Yc w0 (W2.setCell (O Xb 1) wv') Xb lv wv' ls (acc++[nd]) (lvs++[lvn]):=by
 have x0:=h.x0;have hz:=h.hz;have cD:=hb.size;have d0:=hg.size
 have b0:∀c,wv.ownBlock=some c->Xb<c/\c<w.heap.size:=λc hc=>by have:=h.ow.lt c hc;omega
 have ne:some Xb≠wv.ownBlock:=λhh=>by have:=b0 Xb hh.symm;omega
 have c0:M W2 Xb 0 lv:=hg.cell (cT hb hz h.c0) ne;have c1:M W2 Xb 1 wv:=hg.cell (cT hb hz h.c1) ne;have hk:∀p,p∈(lv,ls)::Yu (acc++[nd]) (lvs++[lvn])->Vw W2 p.1 p.2 K wv'/\(p.2≠[]->∀b,p.1.ownBlock=some b->Xb<b/\Xk W2 b):=by
  intro p hp;rw[Jw _ _ _ _ h.hl,<-cons_append,mem_append,mem_singleton]at hp;rcases hp with hp|hp
  ·obtain⟨k1,k2⟩:=h.li p hp
   exact⟨(k1.below hb).second hg hw,λhn b a0=>⟨(k2 hn b a0).1,(k2 hn b a0).2.of ((hg.block b (Qj (k2 hn b a0).2.lt cD) (by rw[<-a0];exact(k1.2 hn).2)).trans (hb.block b (k2 hn b a0).2.lt))⟩⟩
  subst hp;refine⟨Vw.second (nv:=wv) ⟨Jx hi hb,λhn=>?_⟩ hg hw,λhn b a0=>⟨(hf hn b a0).1,(hf hn b a0).2.2.of ((hg.block b (Qj (hf hn b a0).2.2.lt cD) (hf hn b a0).2.1).trans (hb.block b (hf hn b a0).2.2.lt))⟩⟩;obtain⟨ao,cap,e,-,-,h3⟩:=hi;obtain⟨b,off,e2,-,-⟩:=h3 hn;have h5:lvn.ownBlock=some b:=(by rw[e,e2];rfl);refine⟨by rw[h5];simp[ownBlock],by rw[h5];exact(hf hn b h5).2.1⟩
 refine⟨x0,by rw[Zy];omega,(Qg _ _ _ _ (by intro hh;injection hh with _ h5;omega)).trans c0,cell?_setCell_same' _ _ _ (by rw[c1];rfl),λj=>by rw[frozen?_setCell];exact(Qd (w:=W1) (hg.block Xb (by omega) ne)).trans ((hb.frozen (p:=(O Xb j)) hz).trans (h.fz j)),by simp[h.hl],?_,λp hp=>⟨(hk p hp).1.set (λhx hh=>by have:=((hk p hp).2 hx Xb hh).1;omega),λhn b a0=>⟨((hk p hp).2 hn b a0).1,((hk p hp).2 hn b a0).2.of (Zx _ _ _ _ _ (by have:=((hk p hp).2 hn b a0).1;omega))⟩⟩,?_,by simp;omega,λp hp=>?_⟩
 ·rw[zwv _ _ _ _ h.hl,length_append,length_singleton];exact ownsRow_setCell_below ho (by simp) wv'
 ·exact((h.be.trans (hb.mono (by omega))).grown hg (by omega) (λk hk=>by have:=b0 k hk;omega)).setCell (by show w0.heap.size<=Xb;omega) _
 rw[Jw _ _ _ _ h.hl,mem_append,mem_singleton]at hp;rcases hp with hp|rfl
 ·exact h.le.2 p hp
 exact hq
end
def Vn(X:Value×Is->Prop)(w0 w:World)(Xb:Nat)(lv wv:Value)(ls:Is)(acc:List Fl.ar)(lvs:Vs)(r:Int×List Fl.ar)(e:Ending)(w':World):Prop:=e=.returned (I r.1)/\∃wv' lvs',Yc w0 w' Xb lv wv' ls r.2 lvs'/\Yg w w' Xb Xb wv wv'/\Ut X w acc lvs r.2 lvs'
def put1_at{nd:Fl.ar}(hk:k<acc.length)(he:bS (Fl.nth acc k) nd=true)(hn:∀j,j<k->bS (Fl.nth acc j) nd=false):Fl.ep acc nd=((k:Int),acc):=by
 unfold Fl.ep;rw[cI (λi=>bS (Fl.nth acc i) nd) _ k hn hk he]
def put1_no{nd:Fl.ar}(hn:∀j,j<acc.length->bS (Fl.nth acc j) nd=false):Fl.ep acc nd=((acc.length:Int),acc++[nd]):=by
 unfold Fl.ep;rw[dh (λi=>bS (Fl.nth acc i) nd) _ hn]
section
variable{nd:Fl.ar}
def zq0(h:Yc w0 w Xb lv wv ls acc lvs)(hi:Zw w.heap.size w lvn nd.ae)(hq:(nd.ae=[]->lvn=K)/\nd.ae.length<=16)(hb:nd.ae≠[]->∀b,lvn.ownBlock=some b->Xb<b/\some b≠wv.ownBlock/\Xk w b)(hn:acc.length<=100000):
  E 44 #[F Xb,ndV nd lvn] w (Vn (λp=>p=(lvn,nd.ae)) w0 w Xb lv wv ls acc lvs (Fl.ep acc nd)):=by
 have hz:=h.hz;obtain⟨la,lc,rfl,-⟩:=id hi;obtain⟨ln,K0⟩:=J (nd.ae.length);have L0:=hq.2;rw[<-K0]at hi hb hq⊢;obtain⟨lvn,m0⟩:=J (A la ln lc);have i0:=Z m0
 have HI:Y (Zw w.heap.size w lvn nd.ae):=by rw[m0];exact hi
 have n0:Y (nd.ae≠[]->∀b,lvn.ownBlock=some b->Xb<b/\some b≠wv.ownBlock/\Xk w b):=by rw[m0];exact hb
 have HH:=Z h;have M0:=Z (And.intro hn (And.intro hq.1 L0));obtain⟨W0,k0⟩:=J (w.alloc (.cells #[I nd.kind,I nd.ak,I nd.a,I nd.b,I nd.c,A la ln lc] 73))
 have o0:Y (D w W0):=by show Below _ _ _;rw[k0];exact bA
 have f0:w.heap.size<W0.heap.size:=by rw[k0];simp
 have x0:Y (∀V,D W0 V->M V w.heap.size 0 (I nd.kind)/\M V w.heap.size 1 (I nd.ak)/\M V w.heap.size 2 (I nd.a)/\M V w.heap.size 3 (I nd.b)/\M V w.heap.size 4 (I nd.c)/\M V w.heap.size 5 (A la ln lc)):=λV hV=>by
  have q:∀j,V.cell? (O w.heap.size j)=W0.cell? (O w.heap.size j):=λj=>hV.cell (p:=(O w.heap.size j)) f0;refine⟨(q 0).trans ?_,(q 1).trans ?_,(q 2).trans ?_,(q 3).trans ?_,(q 4).trans ?_,(q 5).trans ?_⟩
  all_goals rw[k0];simp
 have HX:Y (∀V,D W0 V->Yc w0 V Xb lv wv ls acc lvs):=λV hV=>h.below (o0.trans (hV.mono (Nat.le_of_lt f0)))
 have y0:Y (∀V,D W0 V->∀k,k<acc.length->∃g c lo ll lk,wv=Sq g 0 acc.length c/\g<w.heap.size/\(∀V',D V V'->M V' g (k*6) (I (Fl.nth acc k).kind)/\M V' g (k*6+1) (I (Fl.nth acc k).ak)/\M V' g (k*6+2) (I (Fl.nth acc k).a)/\M V' g (k*6+3) (I (Fl.nth acc k).b)/\M V' g (k*6+4) (I (Fl.nth acc k).c)/\M V' g (k*6+5) (A lo ll lk))/\∀V',D V V'->E 47 #[.agg #[I (Fl.nth acc k).kind,I (Fl.nth acc k).ak,I (Fl.nth acc k).a,I (Fl.nth acc k).b,I (Fl.nth acc k).c,A lo ll lk],.agg #[I nd.kind,I nd.ak,I nd.a,I nd.b,I nd.c,A la ln lc]] V' (Rw (.bool (bS (Fl.nth acc k) nd)) V')):=λV hV k hk=>by
  have b1:=HX V hV;obtain⟨ao,cap,e,h1,h2,h3⟩:=b1.nodes;obtain⟨g,off,e2,hg,hc⟩:=h3 (by intro e;rw[e]at hk;cases hk);obtain⟨lv',z0,d0,d1,d2,d3,d4,d5⟩:=hc k hk;obtain⟨lo,lk,e5,-⟩:=id z0;have A0:=HH.ow;obtain⟨g2,c2,cur,e3,-,f1,-⟩:=A0.2.resolve_left (by rintro⟨-,h0⟩;omega);have e4:=e.symm.trans e3;rw[e2]at e4;injection e4 with e4 e6 e7;injection e4 with e4;injection e4 with e8 e9 e10;subst e9;have B0:g<w.heap.size:=(by rw[e8];exact(Array.getElem?_eq_some_iff.1 f1).1);refine⟨g,cap,lo,(Fl.nth acc k).ae.length,lk,by rw[e,e2],B0,λV' hV'=>?_,λV' hV'=>?_⟩
  ·have q:∀j,V'.cell? (O g j)=V.cell? (O g j):=λj=>hV'.cell (p:=(O g j)) hg
   rw[e5]at d5;simp only[Nat.zero_add]at d0 d1 d2 d3 d4 d5;exact⟨(q _).trans d0,(q _).trans d1,(q _).trans d2,(q _).trans d3,(q _).trans d4,(q _).trans d5⟩
  rw[e5]at z0;have g1:Zw V.heap.size V (A la ln lc) nd.ae:=by
   rw[<-i0.out];exact Jx HI (o0.trans (hV.mono (Nat.le_of_lt f0)))
  exact zl5 (Fl.nth acc k) nd _ _ V'.heap.size V' lE ((z0.below hV').mono hV'.size) ((g1.below hV').mono hV'.size)
 obtain⟨wa,wn,wc,C0⟩:∃a b c,wv=A a b c:=by obtain⟨a,c,e,-⟩:=h.nodes;exact⟨a,_,c,e⟩
 obtain⟨an,D0⟩:=J (acc.length)
 have j1:wn=an:=by obtain⟨a,c,e,-⟩:=h.nodes;rw[C0]at e;injection e with e1 e2 e3;rw[e2,D0]
 subst j1
 have B1:(wn:Int)<=100000:=by omega
 have g0:=Z D0;have N0:=Z C0
 have E0:Y (∀V,D W0 V->M V Xb 1 (A wa wn wc)):=λV hV=>by rw[<-N0.out];exact(HX V hV).c1
 clear hi hb h hq L0 m0 K0 C0 D0 hn;unfold ndV
 go_enter func44,ntmps44
 go_wp2_with fail
 rw[<-k0];clear k0
 go_loopw [5] (λi wr=>D W0 wr/\∃k:Nat,k<=wn/\i=I k/\∀j,j<k->bS (Fl.nth acc j) nd=false) (λi _=>wn - (intOf i).toNat)
 case atStart=>exact⟨Below.refl _ _,0,Nat.zero_le _,rfl,λj hj=>by omega⟩
 case round=>
  obtain⟨O0,k,hk,rfl,dt⟩:=hrel;have b0:=Z O0;have p0:=Z dt;clear dt O0;have x1:=E0 wr b0.out
  by_cases P0:k<wn
  ·have k1:(k:Int)<(wn:Int):=by omega
   obtain⟨g,c,lo,ll,lk,ewv,B0,Q0,R0⟩:=y0 wr b0 k (by rw[<-g0.out];exact P0);have e9:=N0.symm.trans ewv;injection e9 with e1 e2 e3;subst e1;have HQ:=Z R0;have S0:=Z Q0
   have T0:Y (∀V,D wr V->M V Xb 1 (Sq g 0 wn wc)/\M V g (k*6) (I (Fl.nth acc k).kind)/\M V g (k*6+1) (I (Fl.nth acc k).ak)/\M V g (k*6+2) (I (Fl.nth acc k).a)/\M V g (k*6+3) (I (Fl.nth acc k).b)/\M V g (k*6+4) (I (Fl.nth acc k).c)/\M V g (k*6+5) (A lo ll lk)/\M V w.heap.size 0 (I nd.kind)/\M V w.heap.size 1 (I nd.ak)/\M V w.heap.size 2 (I nd.a)/\M V w.heap.size 3 (I nd.b)/\M V w.heap.size 4 (I nd.c)/\M V w.heap.size 5 (A la ln lc)):=λV hV=>by
    obtain⟨q0,q1,q2,q3,q4,q5⟩:=S0 V hV;have U0:=b0.trans (hV.mono b0.size);obtain⟨r0,r1,r2,r3,r4,r5⟩:=x0 V U0;exact⟨E0 V U0,q0,q1,q2,q3,q4,q5,r0,r1,r2,r3,r4,r5⟩
   have V0:Y (∀e,bS (Fl.nth acc k) nd=e->((e=true->Fl.ep acc nd=((k:Int),acc))/\(e=false->∀j,j<k+1->bS (Fl.nth acc j) nd=false))):=λe he=>⟨λh=>put1_at (by rw[<-g0.out];exact P0) (he.trans h) p0,λh j hj=>by
    by_cases l1:j=k
    ·rw[l1,he,h]
    exact p0 j (by omega)⟩
   generalize hres:bS (Fl.nth acc k) nd=aX at*;have s0:=Z (V0 aX rfl);generalize Fl.nth acc k=nk at*;clear Q0 R0 S0 hres ewv e2 e3 V0 y0 B0
   go_wp2_with fail
   clear x1;refine Zk T0 dA [8] [] [] (by kernel_rfl) (λ_ _ _ _ h=>h) (λops _=>?_)
   iterate 8 refine Zv rfl (by intros;go_simp<;>rfl) (by go_simp<;>rfl) ?_
   refine Zm ?_
   go_wp2_with fail
   refine(HQ _ dA).mono ?_;rintro e1 W1 ⟨rfl,X0⟩;have F0:Y (D wr W1):=dA.trans X0;clear X0 HQ
   go_wp2_with fail
   refine⟨T0 _ F0,?_⟩;refine Zv rfl (by intros;go_simp<;>rfl) (by go_simp<;>rfl) ?_;refine Zs ?_;have j0:Y (D w W1):=(o0.trans (b0.mono (Nat.le_of_lt f0))).trans (F0.mono (Nat.le_trans (Nat.le_of_lt f0) b0.size))
   cases aX
   ·have m1:=Z (s0.2 rfl)
    clear s0;go_wp2
    go_roundw
    case rel=>exact⟨b0.trans (F0.mono b0.size),k+1,by omega,by go_num,m1⟩
    case measure=>simp[intOf];omega
   have HE:Y (Vn (λp=>p=(lvn,nd.ae)) w0 w Xb lv wv ls acc lvs (Fl.ep acc nd) (.returned (I (k:Int))) W1):=by
    rw[s0.1 rfl];exact⟨rfl,wv,lvs,HH.below j0,Yg.aD j0,Ut.refl _ _ _ _⟩
   clear s0;go_wp2;go_ret;rw[i0.out]at HE;exact HE
  have k1:¬(k:Int)<(wn:Int):=(by omega)
  obtain rfl:k=wn:=by omega
  have u0:=Z (HX wr b0);have ee:acc.length<=100000:=(by rw[<-g0.out];omega);have j0:Y (D w wr):=o0.trans (b0.mono (Nat.le_of_lt f0));have C1:w.heap.size<wr.heap.size:=Qj f0 b0.size
  have Y0:some Xb≠wv.ownBlock:=λhh=>by have:=(HH.ow.lt Xb hh.symm).1;omega
  have n1:some w.heap.size≠wv.ownBlock:=λhh=>by have:=(HH.ow.lt _ hh.symm).2;omega
  have o1:Y (∀V:World,(M V Xb 1 wv/\M V w.heap.size 0 (I nd.kind)/\M V w.heap.size 1 (I nd.ak)/\M V w.heap.size 2 (I nd.a)/\M V w.heap.size 3 (I nd.b)/\M V w.heap.size 4 (I nd.c)/\M V w.heap.size 5 (A la ln lc))->(M V Xb 1 wv/\M V w.heap.size 0 (I nd.kind)/\M V w.heap.size 1 (I nd.ak)/\M V w.heap.size 2 (I nd.a)/\M V w.heap.size 3 (I nd.b)/\M V w.heap.size 4 (I nd.c)/\M V w.heap.size 5 (A la ln lc))):=λV h=>h
  have G0:Y (∀V:World,(∀b,b<=w.heap.size->some b≠wv.ownBlock->V.heap[b]?=wr.heap[b]?)->M V Xb 1 wv/\M V w.heap.size 0 (I nd.kind)/\M V w.heap.size 1 (I nd.ak)/\M V w.heap.size 2 (I nd.a)/\M V w.heap.size 3 (I nd.b)/\M V w.heap.size 4 (I nd.c)/\M V w.heap.size 5 (A la ln lc)):=λV hV=>by
   obtain⟨t0,t1,t2,t3,t4,t5⟩:=x0 wr b0.out;have qx:=Qc (a:=(O Xb 1)) (hV Xb (by omega) Y0);have qn:∀j,V.cell? (O w.heap.size j)=wr.cell? (O w.heap.size j):=λj=>Qc (a:=(O w.heap.size j)) (hV _ lE n1);exact⟨qx.trans u0.c1,(qn 0).trans t0,(qn 1).trans t1,(qn 2).trans t2,(qn 3).trans t3,(qn 4).trans t4,(qn 5).trans t5⟩
  have H0:Y (Fl.ep acc nd=((acc.length:Int),acc++[nd])):=put1_no (by rw[<-g0.out];exact p0);clear y0 p0 E0 x0
  go_wp2_with fail
  clear x1;refine Zk o1 (G0 _ (λb _ _=>rfl)) [6,7,8] [10] [] (by kernel_rfl) (λ_ _ _ _ h=>h) (λops _=>?_)
  iterate 6 refine Zv rfl (by intros;go_simp<;>rfl) (by go_simp<;>rfl) ?_
  refine Zm ?_
  go_wp2_with fail
  obtain⟨W3,l0⟩:=J ((wr.alloc (.cells #[I nd.kind,I nd.ak,I nd.a,I nd.b,I nd.c,A la ln lc] 73)).drew);rw[<-l0];have c0:Y (D wr W3):=(by show Below _ _ _;rw[l0];exact bA.drew);have tc:∀j u,(Zc nd (A la ln lc))[j]?=some u->W3.cell? (((O wr.heap.size 0):Addr).add j)=some u:=(by rw[l0];exact zf4 (w:=wr) (l:=Zc nd (A la ln lc)));have D1:wr.heap.size+1=W3.heap.size:=(by rw[l0];simp);have Z0:=G0 W3 (λb hb _=>c0.block b (by omega));have a1:Y (W3.ownsRow (Xb+1) 73 6 wv acc.length (flat acc lvs)):=zx4 u0.ow c0.out;obtain⟨i1,p1,s1,u1,v1⟩:=info_parts Tryz.infoNodeW;clear l0;refine⟨Z0,?_⟩;refine Zm ?_
  go_wp2_with (at_builtin;refine Ap underlying28 p1 s1 u1 v1 rfl a1 rfl (Zc nd (A la ln lc)) rfl rfl tc (by intro u hu;simp[Zc]at hu;rcases hu with rfl|rfl|rfl|rfl|rfl|rfl<;>rfl) (by unfold maxLen;omega) (by omega) (by omega) ?_)
  intro v' W4 a0 e0 I0;rw[<-g0.out]at a0;obtain⟨g4,k4,rfl⟩:∃g4 k4,v'=Sq g4 0 (k+1) k4:=by
   rcases a0.2 with⟨h1,h2⟩|⟨g4,cp,cur,h1,_⟩
   ·omega
   exact⟨g4,cp,h1⟩
  have J0:=G0 W4 (λb hb y1=>(e0.block b (by omega) y1).trans (c0.block b (by omega)));have HE:Y (Vn (λp=>p=(lvn,nd.ae)) w0 w Xb lv wv ls acc lvs (Fl.ep acc nd) (.returned (I (k:Int))) (W4.setCell (O Xb 1) (Sq g4 0 (k+1) k4))):=by
   rw[H0.out];have z1:Zw wr.heap.size wr (A la ln lc) nd.ae:=(by rw[<-i0.out];exact Jx HI j0);refine⟨by rw[<-g0.out],_,lvs++[A la ln lc],Yc.push u0 c0 z1 M0.1 M0.2 (by rw[<-i0.out];exact λhn b v0=>⟨(n0 hn b v0).1,(n0 hn b v0).2.1,(n0 hn b v0).2.2.of (j0.block b (n0 hn b v0).2.2.lt)⟩) (by rw[<-g0.out];exact a0) e0 I0,?_⟩;have A1:Yg wr (W4.setCell (O Xb 1) (Sq g4 0 (k+1) k4)) Xb Xb wv (Sq g4 0 (k+1) k4):=by
    refine⟨e0.os.trans c0.os,e0.tape.trans c0.tape,e0.output.trans c0.out.output,by rw[Zy];exact Nat.le_trans c0.size e0.size,λc h1 h2 h3 h4=>?_,?_⟩
    ·exact(Zx _ _ _ _ _ h2).trans ((e0.block c (by omega) h4).trans (c0.block c h1))
    rcases I0 with e|e
    ·exact .inl e
    exact .inr ⟨_,e,c0.size⟩
   refine⟨(Yg.aD j0).trans A1,λp hp=>?_⟩;rw[Jw _ _ _ _ HH.hl,mem_append,mem_singleton]at hp;rcases hp with hp|hp
   ·exact .inl hp
   exact .inr (.inl (by rw[hp,i0.out]))
  have fzx:W4.frozen? (O Xb 1)=false:=(Qd (w:=wr) ((e0.block Xb (by omega) Y0).trans (c0.block Xb (by omega)))).trans (u0.fz 1);have cx1:=J0.1;clear a0 e0 I0 a1 tc Z0
  go_wp2_with fail
  refine⟨J0,?_⟩;refine Zm ?_
  go_wp2_with fail
  refine⟨J0,?_⟩;refine Zv rfl (by intros;go_simp<;>rfl) (by go_simp<;>rfl) ?_;refine Xx ?_
  go_wp2_with fail
  refine Zs ?_;go_wp2;go_ret;rw[i0.out]at HE;exact HE
end
end
namespace Fl
def bE:Nat->List aa->Nat
 |0,_=>0
 |d+1,l=>(l.map λs=>1+bE d s.aZ+bE d s.aU).sum
def fF(d:Nat):bE d []=0:=by cases d<;>rfl
def eR(d:Nat)(s:aa)(l:List aa):bE (d+1) (s::l)=1+bE d s.aZ+bE d s.aU+bE (d+1) l:=by
 show ((s::l).map λs=>1+bE d s.aZ+bE d s.aU).sum=_;rw[map_cons,sum_cons];rfl
def jd(d:Nat)(s:aa):∀l,bE (d+1) (l++[s])=bE (d+1) l+(1+bE d s.aZ+bE d s.aU)
 |[]=>by show bE (d+1) [s]=_;rw[eR,fF];omega
 |x::l=>by rw[cons_append,eR,jd d s l,eR];omega
def fI:∀(d:Nat) (l:List aa),bE d l<=bE (d+1) l
 |0,l=>by rw[bE];exact Nat.zero_le _
 |d+1,[]=>by rw[fF];exact Nat.zero_le _
 |d+1,s::l=>by
  have h1:=fI d s.aZ;have h2:=fI d s.aU;have h3:=fI (d+1) l;rw[eR,eR];omega
def gn(d:Nat):List Frame->Nat
 |[]=>0
 |f::fs=>1+bE d f.first+bE d f.fu+gn d fs
def RS.Cn(r:RS):Prop:=r.am<=16/\∀d,bE d r.bK+gn d r.fr<=r.am
def dQ(d:Nat)(l:List aa)(s:aa):bE d (l++[s])<=bE d l+(1+bE d s.aZ+bE d s.aU):=by
 cases d with
 |zero=>rw[bE,bE];omega
 |succ d=>
  rw[jd];have h1:=fI d s.aZ;have h2:=fI d s.aU;omega
def RS.Cn.put{r:RS}(h:r.Cn)(a0:¬16<=r.am){s:aa}(h1:s.aZ=[])(h2:s.aU=[]):(r.put s).Cn:=by
 unfold RS.put
 split
 ·rename_i hf
  refine⟨by show r.am+1<=16;omega,λd=>?_⟩;have h3:=h.2 d;have h4:=dQ d r.bK s;rw[h1,h2,fF]at h4;rw[hf]at h3⊢;show bE d (r.bK++[s])+gn d []<=r.am+1;omega
 rename_i f fs hf;refine⟨by show r.am+1<=16;omega,λd=>?_⟩;have h3:=h.2 d;have h4:=dQ d f.fu s;have h5:=dQ d f.first s;rw[h1,h2,fF]at h4 h5;rw[hf]at h3;unfold gn at h3;show bE d r.bK+gn d ((if f.cU then{f with fu:=f.fu++[s]} else{f with first:=f.first++[s]})::fs)<=r.am+1
 cases f.cU
 ·simp only[Bool.false_eq_true,if_false]
  unfold gn;simp only;omega
 simp only[if_true];unfold gn;simp only;omega
def RS.Cn.bG{r:RS}(h:r.Cn):r.bG.Cn:=by
 unfold RS.bG
 split
 ·exact h
 ·rename_i f hf
  refine⟨h.1,λd=>?_⟩;have h3:=h.2 d;rw[hf]at h3;have h4:=dQ d r.bK f.done;unfold gn at h3⊢;show bE d (r.bK++[f.done])+0<=r.am;unfold gn at h3;simp only[Frame.done]at h4⊢;omega
 rename_i f g fs hf;refine⟨h.1,λd=>?_⟩;have h3:=h.2 d;rw[hf]at h3;have h4:=dQ d g.fu f.done;have h5:=dQ d g.first f.done;unfold gn at h3;unfold gn at h3;show bE d r.bK+gn d ((if g.cU then{g with fu:=g.fu++[f.done]} else{g with first:=g.first++[f.done]})::fs)<=r.am;simp only[Frame.done]at h4 h5⊢
 cases g.cU
 ·simp only[Bool.false_eq_true,if_false]
  unfold gn;simp only;omega
 simp only[if_true];unfold gn;simp only;omega
def RS.Cn.bF{r:RS}(h:r.Cn):r.bF.Cn:=by
 unfold RS.bF
 split
 ·exact h
 rename_i f fs hf;refine⟨h.1,λd=>?_⟩;have h3:=h.2 d;rw[hf]at h3;exact h3
def RS.Cn.same{r r':RS}(h:r.Cn)(e:r'.bK=r.bK/\r'.fr=r.fr/\r'.am=r.am):r'.Cn:=⟨by rw[e.2.2];exact h.1,λd=>by rw[e.1,e.2.1,e.2.2];exact h.2 d⟩
def RS.kP(r:RS)(n:L){r':RS}(h:r.bu n=some (x,r')):r'.bK=r.bK/\r'.fr=r.fr/\r'.am=r.am:=by
 unfold RS.bu at h
 split at h
 ·simp only[Ql,Prod.mk.injEq]at h;rw[<-h.2];exact⟨rfl,rfl,rfl⟩
 split at h
 ·simp only[Ql,Prod.mk.injEq]at h;rw[<-h.2];exact⟨rfl,rfl,rfl⟩
 split at h
 ·cases h
 simp only[Ql,Prod.mk.injEq]at h;rw[<-h.2];exact⟨rfl,rfl,rfl⟩
def RS.Cn.bh{r:RS}(h:r.Cn){a:Nat}(w:List L):(r.bh a w).2.Cn:=by
 unfold RS.bh
 split
 ·split
  ·exact h
  split
  ·split
   ·exact h.bF
   exact h
  exact h.bG
 ·split
  ·exact h
  split
  ·exact h
  rename_i hh;refine⟨by show r.am+1<=16;omega,λd=>?_⟩;have h3:=h.2 d;show bE d r.bK+(1+bE d []+bE d []+gn d r.fr)<=r.am+1;rw[fF];omega
 ·split
  ·exact h
  split
  ·split
   ·exact h
   split
   ·exact h
   exact h.put (by assumption) rfl rfl
  split
  ·exact h
  split
  ·exact h
  rename_i hh
  split
  ·exact h
  have h1:=r.kP _ hh;exact(h.same h1).put (by rw[h1.2.2];assumption) rfl rfl
 exact h
def RS.mU(r:RS)(w:List L):(r.head w).2.bK=r.bK/\(r.head w).2.fr=r.fr/\(r.head w).2.am=r.am:=by
 unfold RS.head
 repeat' split
 all_goals exact⟨rfl,rfl,rfl⟩
def RS.Cn.row{r:RS}(h:r.Cn)(w:List L)(a:Nat):(r.row w a).2.Cn:=by
 unfold RS.row
 split
 ·exact h
 split
 ·exact h.same (r.mU w)
 exact h.bh w
def kz:∀(ls:List L) (r:RS) (i:Nat),r.Cn->(rows r i ls).2.2.Cn
 |[],r,i,h=>h
 |[l],r,i,h=>by
  rw[rows]
  split
  ·split<;>exact h
  exact h
 |l::m::ls,r,i,h=>by
  rw[rows]
  split
  ·exact h
  split
  ·exact h
  exact kz (m::ls) _ (i+1) (h.row _ _)
def nF:RS.zero.Cn:=⟨by decide,λd=>by show bE d []+0<=0;rw[fF];omega⟩
def jw(s:L)(d:Nat):bE d (ab s).2.2.aZ<=16:=by
 unfold ab
 split
 ·have h:=nF.2 d
  have h1:=nF.1;show bE d RS.zero.bK<=16;omega
 have h:=kz (aK 10 s) RS.zero 0 nF;have h1:=h.2 d;have h2:=h.1;show bE d (rows RS.zero 0 (aK 10 s)).2.2.bK<=16;omega
def dV(ws:List ar)(n:ar):(ep ws n).2.length<=ws.length+1:=by
 unfold ep
 split
 ·simp
 simp
def jc(p:aY)(vs:Is)(ws:List ar)(e:dZ):(fe p vs ws e).2.length<=ws.length+3:=by
 unfold fe dW
 split
 ·have:=dV ws ⟨if e.a.var then 1 else 0,bQ p vs e.a,e.a.v,0,0,[]⟩
  omega
 have h1:=dV ws ⟨if e.a.var then 1 else 0,bQ p vs e.a,e.a.v,0,0,[]⟩;generalize ep ws ⟨if e.a.var then 1 else 0,bQ p vs e.a,e.a.v,0,0,[]⟩=Qz at*;have h2:=dV Qz.2 ⟨if e.b.var then 1 else 0,bQ p vs e.b,e.b.v,0,0,[]⟩;generalize ep Qz.2 ⟨if e.b.var then 1 else 0,bQ p vs e.b,e.b.v,0,0,[]⟩=B at*;have h3:=dV B.2 ⟨2,aA p vs e,e.op,Qz.1,B.1,[]⟩;omega
def gV{W:List ar->aa->Int×List ar}{d:Nat}(hW:∀ws s,(W ws s).2.length<=ws.length+6*(1+bE d s.aZ+bE d s.aU)):∀(l:List aa) (ws:List ar),(dS W ws l).2.length<=ws.length+6*bE (d+1) l
 |[],ws=>by rw[dS];simp
 |s::l,ws=>by
  have h1:=hW ws s;have h2:=gV hW l (W ws s).2;rw[dS,eR];show (dS W (W ws s).2 l).2.length<=_;omega
def jZ{p:aY}{Wx:List ar->List aa->Int->Int×List ar}(IH:∀(ws:List ar) (l:List aa) (u:Int),(Wx ws l u).2.length<=ws.length+6*bE d l+1)(u:Int)(ws:List ar)(s:aa):(gg Wx p vs u ws s).2.length<=ws.length+6*(1+bE d s.aZ+bE d s.aU):=by
 unfold gg;simp only;have h0:=jc p vs ws s.e;generalize fe p vs ws s.e=v at*;generalize jn p u (aA p vs s.e)=Wz;have h1:=IH v.2 s.aZ Wz;generalize Wx v.2 s.aZ Wz=B1 at*
 split
 ·have h2:=IH B1.2 s.aU Wz
  generalize Wx B1.2 s.aU Wz=B2 at*;have h3:=dV B2.2 ⟨5,u,v.1,B1.1,B2.1,[]⟩;omega
 split
 ·have h3:=dV B1.2 ⟨6,u,v.1,B1.1,0,[]⟩
  omega
 have h3:=dV v.2 ⟨s.kind,u,s.x,v.1,0,[]⟩;omega
def eQ(p:aY)(vs:Is):∀(d:Nat) (ws:List ar) (l:List aa) (u:Int),(bL p vs d ws l u).2.length<=ws.length+6*bE d l+1
 |0,ws,l,u=>by
  unfold bL;have:=dV ws ⟨7,u,0,0,0,[]⟩;omega
 |d+1,ws,l,u=>by
  unfold bL;have h1:=gV (W:=gg (bL p vs d) p vs u) (jZ (eQ p vs d) u) l ws;generalize dS (gg (bL p vs d) p vs u) ws l=r at*;have h2:=dV r.2 ⟨7,u,0,0,0,r.1⟩;omega
def iO(p:aY)(vs:Is)(d:Nat)(u:Int)(ws:List ar)(s:aa):(gg (bL p vs d) p vs u ws s).2.length<=ws.length+6*(1+bE d s.aZ+bE d s.aU):=jZ (eQ p vs d) u ws s
def Sh(n:ar):Prop:=(0<=n.ak/\n.ak<6)/\
  (((n.kind=0\/n.kind=1)/\(0<=n.a/\n.a<2147483648)/\n.b=0/\n.c=0/\n.ae=[])\/
   (n.kind=2/\(0<=n.a/\n.a<2147483648)/\n.ae=[])\/
   ((n.kind=3\/n.kind=4)/\(0<=n.a/\n.a<2147483648)/\n.c=0/\n.ae=[])\/
   (n.kind=5/\n.ae=[])\/(n.kind=6/\n.c=0/\n.ae=[])\/
   (n.kind=7/\n.a=0/\n.b=0/\n.c=0/\n.ae.length<=16))
def nE{x:Int}(h:0<=x/\x<2147483648):cf x=true:=by
 unfold cf;rw[decide_eq_true h.1,decide_eq_true h.2];rfl
def Sh.bT{n:ar}(h:Sh n)(hp:∀i∈prem n,0<=i/\i<2147483648):bT n=true:=by
 obtain⟨kind,ak,a,b,c,ae⟩:=n;obtain⟨hl,h⟩:=h;unfold Fl.bT dM;rcases h with⟨h0,ha,hb,hc,a0⟩|⟨h0,ha,a0⟩|⟨h0,ha,hc,a0⟩|⟨h0,a0⟩|⟨h0,hc,a0⟩|⟨h0,ha,hb,hc,a0⟩
 ·simp only at h0 ha hb hc a0 hl
  subst hb hc a0;rcases h0 with rfl|rfl<;>simp[aP,cf]<;>omega
 ·simp only at h0 ha a0 hl
  subst h0 a0;have h1:=hp b (by simp[prem]);have h2:=hp c (by simp[prem]);simp[aP,cf];omega
 ·simp only at h0 ha hc a0 hl
  subst hc a0;have h1:=hp b (by rcases h0 with rfl|rfl<;>simp[prem]);rcases h0 with rfl|rfl<;>simp[aP,cf]<;>omega
 ·simp only at h0 a0 hl
  subst h0 a0;have h1:=hp a (by simp[prem]);have h2:=hp b (by simp[prem]);have h3:=hp c (by simp[prem]);simp[aP,cf];omega
 ·simp only at h0 hc a0 hl
  subst h0 hc a0;have h1:=hp a (by simp[prem]);have h2:=hp b (by simp[prem]);simp[aP,cf];omega
 simp only at h0 ha hb hc a0 hl;subst h0 ha hb hc;have h1:=all_eq_true.2 (λx hx=>nE (hp x (by simpa [prem] using hx)));rw[h1];simp[aP,cf];omega
def Ds(ws:List ar):Prop:=∀k,k<ws.length->Sh (nth ws k)/\(∀i∈prem (nth ws k),0<=i/\i<(k:Int))/\∀i,i<k->nth ws i≠nth ws k
def ik(l:List ar)(k:Int):Prop:=∃j,k<(j:Nat)/\j<l.length/\k∈prem (nth l j)
def ik.ext{l t:List ar}{k:Int}(h:ik l k):ik (l++t) k:=by
 obtain⟨j,h1,h2,h3⟩:=h;exact⟨j,h1,by simp;omega,by rw[iB h2];exact h3⟩
structure Kp(ws:List ar)(r:Int×List ar):Prop where
 ext:∃t,r.2=ws++t
 nR:0<=r.1/\r.1<r.2.length
 ds:Ds r.2
 us:∀k:Nat,ws.length<=k->k<r.2.length->(k:Int)=r.1\/ik r.2 k
def Kp.len{ws:List ar}{r:Int×List ar}(h:Kp ws r):ws.length<=r.2.length:=by
 obtain⟨t,e⟩:=h.ext;rw[e];simp
def Kp.comp{ws:List ar}{r r':Int×List ar}(h:Kp ws r)(h':Kp r.2 r')(hu:ik r'.2 r.1):Kp ws r':=by
 obtain⟨t,e⟩:=h.ext;obtain⟨t',e'⟩:=h'.ext;refine⟨⟨t++t',by rw[e',e,append_assoc]⟩,h'.nR,h'.ds,λk h1 h2=>?_⟩
 by_cases h3:r.2.length<=k
 ·exact h'.us k h3 h2
 rcases h.us k h1 (by omega) with h4|h4
 ·exact .inr (by rw[h4];exact hu)
 exact .inr (by rw[e'];exact h4.ext)
section
variable{p:aY}
end
end Fl
end Go.Proofs.YtgmbnnpnefniiaaGreatDoor
