import Derived.Test.YtgmbnnpnefniiaaGreatDoorM04
import Derived.Laws.AppendOwnNone
import Derived.Laws.BitsAllLaws
set_option linter.all false
set_option maxRecDepth 100000
set_option maxHeartbeats 40000000
namespace Go.Proofs.YtgmbnnpnefniiaaGreatDoor
open Go.Proofs.Tryz List World Value Fl
variable{w w' w1 wr:World}{base k n Fb Pb Lb a b B cap p i q j nb no N f q':Nat}{e:TypeId}{v aB cS bv vv lv:Value}{xs vs:Is}{S:Nat->Prop}{s:L}{ao:Option Addr}{x Wj c m:Int}
section
open Go.RowKit
def zx4{xs:Vs}(h:w.ownsRow base e k v n xs)(hb:D w w'):w'.ownsRow base e k v n xs:=by
 have og:w.grownBy w' none:=⟨hb.os,hb.tape,hb.output,hb.size,λk hk _=>hb.block k hk⟩;exact h.kept og (by cases v.ownBlock<;>simp)
def mvC:List (Value×Int)->Vs
 |[]=>[]
 |q::l=>q.1:: I q.2::mvC l
def zf3:∀(l m:List (Value×Int)),mvC (l++m)=mvC l++mvC m
 |[],_=>rfl
 |_::l,m=>by simp only[cons_append,mvC,zf3 l m]
def MvR(S:Nat->Prop)(w:World):List (Value×Int)->List (Fl.aa×Int)->Prop
 |[],[]=>True
 |q::qs,m::ms=>(q.2=m.2/\zf2 S w q.1 m.1)/\MvR S w qs ms
 |_,_=>False
def MvR.len{S:Nat->Prop}{w:World}:∀{qs:List (Value×Int)} {ms:List (Fl.aa×Int)},MvR S w qs ms->qs.length=ms.length
 |[],[],_=>rfl
 |_::_,_::_,h=>by simp only[length_cons,MvR.len h.2]
def MvR.append{S:Nat->Prop}{w:World}:∀{qs:List (Value×Int)} {ms:List (Fl.aa×Int)} {qs':List (Value×Int)} {ms':List (Fl.aa×Int)},MvR S w qs ms->MvR S w qs' ms'->MvR S w (qs++qs') (ms++ms')
 |[],[],_,_,_,h=>h
 |_::_,_::_,_,_,h,h'=>⟨h.1,MvR.append h.2 h'⟩
def MvR.kept{S:Nat->Prop}{w w':World}(hw:∀b,S b->w'.heap[b]?=w.heap[b]?):∀{qs:List (Value×Int)} {ms:List (Fl.aa×Int)},MvR S w qs ms->MvR S w' qs ms
 |[],[],_=>trivial
 |_::_,_::_,h=>⟨⟨h.1.1,h.1.2.kept (λ_ h=>h) hw⟩,MvR.kept hw h.2⟩
def MvR.one{S:Nat->Prop}{w:World}:∀{qs:List (Value×Int)} {ms:List (Fl.aa×Int)},MvR S w qs ms->∀u∈mvC qs,u.oneCell'=true
 |[],[],_,_,h=>by cases h
 |q::_,_::_,h,u,hu=>by
  simp only[mvC,mem_cons]at hu;rcases hu with rfl|rfl|hu
  ·obtain⟨sb,e,-⟩:=h.1.2;rw[e];rfl
  ·rfl
  exact MvR.one h.2 u hu
def MvR.get{S:Nat->Prop}{w:World}:∀{qs:List (Value×Int)} {ms:List (Fl.aa×Int)},MvR S w qs ms->∀(i:Nat) (m:Fl.aa×Int),ms[i]?=some m->∃q,qs[i]?=some q/\q.2=m.2/\zf2 S w q.1 m.1
 |[],[],_,_,_,h=>by cases h
 |q::_,_::_,h,0,m,hm=>by cases hm;exact⟨q,rfl,h.1.1,h.1.2⟩
 |_::_,_::_,h,i+1,m,hm=>by
  obtain⟨q,h1,h2⟩:=MvR.get h.2 i m (by simpa using hm);exact⟨q,by simpa using h1,h2⟩
def zoz(S:Nat->Prop)(base:Nat)(w:World)(v:Value)(ms:List (Fl.aa×Int)):Prop:=
 ∃qs,w.ownsRow base 901017 2 v ms.length (mvC qs)/\MvR S w qs ms/\(ms=[]->v=K)
def zoz.nil(S:Nat->Prop)(base:Nat)(w:World):zoz S base w K []:=⟨[],ownsRow_nil _ _ _ _,trivial,λ_=>rfl⟩
def zoz.aE{ms:List (Fl.aa×Int)}(h:zoz S base w v ms)(hb:D w w')(hS:∀b,S b->b<w.heap.size):zoz S base w' v ms:=by
 obtain⟨qs,h1,h2,h3⟩:=h;exact⟨qs,zx4 h1 hb,h2.kept (λb hs=>hb.block b (hS b hs)),h3⟩
def zoz.lt{S:Nat->Prop}{base:Nat}{w:World}{v:Value}{ms:List (Fl.aa×Int)}(h:zoz S base w v ms):∀g,v.ownBlock=some g->base<=g:=by
 obtain⟨qs,h1,-⟩:=h;exact λg hg=>(h1.lt g hg).1
def zoz.push{v':Value}{ms ms':List (Fl.aa×Int)}{qs qs':List (Value×Int)}(hS:∀b,S b->b<base)(hb:base<=w.heap.size)(h1:w.ownsRow base 901017 2 v ms.length (mvC qs))(h2:MvR S w qs ms)(h3:MvR S w qs' ms')(a0:ms'≠[])
  (ho:w'.ownsRow base 901017 2 v' (ms.length+ms'.length) (mvC qs++mvC qs')) (hg:w.grownBy w' v.ownBlock):zoz S base w' v' (ms++ms'):=by
 have hk:∀b,S b->w'.heap[b]?=w.heap[b]?:=λb hs=>hg.block b (by have:=hS b hs;omega) (λhh=>by have:=(h1.lt b hh.symm).1;have:=hS b hs;omega);refine⟨qs++qs',by rw[length_append,zf3];exact ho,(h2.kept hk).append (h3.kept hk),λh=>?_⟩;exact absurd (append_eq_nil_iff.1 h).2 a0
section
def zf4{l:Vs}:∀j u,l[j]?=some u->(w.alloc (.cells l.toArray e)).cell? (((O w.heap.size 0):Addr).add j)=some u:=by
 intro j u hj
 have h2:((O w.heap.size 0):Addr).add j=(O w.heap.size j):=by unfold Addr.add;split<;>simp_all
 rw[h2,cell?_alloc_new];simpa using hj
end
namespace Fl
def Small:Nat->List aa->Prop
 |0,l=>l=[]
 |d+1,l=>l.length<=16/\∀s∈l,Small d s.aZ/\Small d s.aU
end Fl
def Yz.small{S:Nat->Prop}{w:World}:∀(d:Nat) (v:Value) (l:List Fl.aa),Yz d S w v l->Fl.Small d l
 |0,_,_,h=>h.1
 |d+1,v,l,h=>by
  obtain⟨ao,cap,-,-,-,a0,hc⟩:=h;refine⟨a0,λs hs=>?_⟩;obtain⟨i,hi,rfl⟩:=getElem_of_mem hs;obtain⟨b,off,-,-,h1⟩:=hc (by intro e;rw[e]at hi;cases hi);obtain⟨p,-,sb,vp,fv,ev,-,-,-,-,h2,h3⟩:=h1 i hi;rw[Qa,Qb hi]at h2 h3;exact⟨Yz.small d _ _ h2,Yz.small d _ _ h3⟩
def yw3{p:Fl.aY}(h:p.Lv)(ok:Fl.bC p vs){e:dZ}(ho:cg vs.length e):∃k:Nat,k<p.n/\aA p vs e=(k:Int):=by
 have hv:=zp7 ho;obtain⟨a,ha,ea⟩:=zmw h ok.2 hv.1;unfold aA
 by_cases h0:e.op<0
 ·rw[G h0];exact⟨a,ha,ea⟩
 rw[U h0];obtain⟨b,hb,eb⟩:=zmw h ok.2 (hv.2 (by omega));obtain⟨k,h1,h2⟩:=h.join ha hb;exact⟨k,h1,by unfold Fl.jn;rw[ea,eb];exact h2⟩
section
variable{p:Fl.aY}
end
def zr6{p:Fl.aY}{vs:Is}(h:p.Lv)(ok:Fl.bC p vs):∀(d:Nat) (l:List Fl.aa) (u:Nat),aM vs.length p.ai.length d l->u<p.n->∀m∈bO p vs d l u,PlOk p vs m.1/\∃k:Nat,k<p.n/\m.2=(k:Int)
 |0,_,_,_,_,m,hm=>by cases hm
 |d+1,l,u,ho,hu,m,hm=>by
  obtain⟨s,hs,hm⟩:=mem_flatMap.1 (show m∈l.flatMap (cX (bO p vs d) p vs u) from hm);obtain⟨hk,he,h1,h2⟩:=ho s hs;obtain⟨vl,b0,evl⟩:=yw3 h ok he;obtain⟨lv,a0,elv⟩:=h.join hu b0;have ej:Fl.jn p u (aA p vs s.e)=(lv:Int):=(by unfold Fl.jn;rw[evl];exact elv);unfold cX at hm;rw[ej]at hm
  split at hm
  ·rename_i c0
   rw[mem_singleton]at hm;subst hm;refine⟨?_,lv,a0,rfl⟩;rcases hk with h|h|h|h
   ·exact .inl h
   ·exact .inr h
   ·omega
   omega
  split at hm
  ·rcases mem_append.1 hm with hm|hm
   ·exact zr6 h ok d _ lv h1 a0 m hm
   exact zr6 h ok d _ lv h2 a0 m hm
  cases hm
def m0:Fl.aa×Int:=(noS,0)
section
variable{p:Fl.aY}
end
end
namespace Fl
def jJ{α:Type}{f g:α->Bool}:∀(l:List α),(∀x∈l,f x=true->g x=true)->(l.filter f).length<=(l.filter g).length
 |[],_=>Nat.le_refl _
 |a::l,h=>by
  have ih:=jJ l (λx hx=>h x (by simp[hx]));have h0:=h a (by simp);rw[filter_cons,filter_cons]
  cases hf:f a
  ·cases g a<;>simp<;>omega
  rw[h0 hf];simp;exact ih
def jI{α:Type}{f g:α->Bool}:∀(l:List α) (y:α),y∈l->(∀x∈l,f x=true->g x=true)->g y=true->f y=false->(l.filter f).length<(l.filter g).length
 |[],_,hy,_,_,_=>by cases hy
 |a::l,y,hy,h,hg,hf=>by
  rcases mem_cons.1 hy with rfl|hy
  ·have:=jJ l (λx hx=>h x (by simp[hx]))
   rw[filter_cons,filter_cons,hg,hf];simp;omega
  have ih:=jI l y hy (λx hx=>h x (by simp[hx])) hg hf;have h0:=h a (by simp);rw[filter_cons,filter_cons]
  cases a0:f a
  ·cases g a<;>simp<;>omega
  rw[h0 a0];simp;exact ih
def gK(p:aY)(v:Int):Nat:=((range p.n).filter λy=>p.leq v.toNat y).length
def ly(p:aY)(v:Int):gK p v<=p.n:=by
 unfold gK;have:=length_filter_le (λy=>p.leq v.toNat y) (range p.n);rw[length_range]at this;exact this
def jr{p:aY}(h:p.Lv){a b:Int}(ha:0<=a/\a<p.n)(hb:0<=b/\b<p.n)(hn:p.leq b.toNat a.toNat=false):gK p (Fl.jn p a b)<gK p a:=by
 obtain⟨k,h1,h2,h3,h4,h5⟩:=h.fh.jK a.toNat b.toNat (by omega) (by omega)
 have e:(Fl.jn p a b).toNat=k:=by unfold Fl.jn;rw[h2];simp
 unfold gK;rw[e];refine jI _ a.toNat (by simp;omega) (λx hx hk=>?_) (h.fh.refl _ (by omega)) ?_
 ·rw[mem_range]at hx
  exact h.fh.trans a.toNat k x (by omega) h1 hx h3 hk
 cases hc:p.leq k a.toNat
 ·rfl
 have:=h.fh.trans b.toNat k a.toNat (by omega) h1 (by omega) h4 hc
 rw[hn]at this;cases this
def kh(p:aY)(vs:Is):Nat:=((vs.drop p.cells.length).map (gK p)).sum
def iI{f:Int->Nat}{v:Int}:∀(l:Is) (i:Nat) (h:i<l.length),f v<f l[i]->((l.set i v).map f).sum<(l.map f).sum
 |a::l,0,_,hv=>by simp at hv⊢;omega
 |a::l,i+1,h,hv=>by
  have ih:=iI l i (by simpa using h) (by simpa using hv);rw[set_cons_succ,map_cons,map_cons,sum_cons,sum_cons];omega
def lu{f:Int->Nat}{c:Nat}:∀(l:Is),(∀x,f x<=c)->(l.map f).sum<=l.length*c
 |[],_=>by simp
 |a::l,h=>by
  have:=lu l h;have:=h a;simp[Nat.succ_mul];omega
def mq{p:aY}(h:p.Lv)(ho:p.Ok)(hv:bC p vs):kh p vs<25:=by
 have h1:=lu (f:=gK p) (c:=6) (vs.drop p.cells.length) (λx=>Nat.le_trans (ly p x) h.n6)
 have h2:(vs.drop p.cells.length).length<=4:=by rw[length_drop,hv.1];have:=ho.lo;omega
 unfold kh;omega
def iH{p:aY}(hv:bC p vs)(x:Nat){v:Int}(h:0<=v/\v<p.n):bC p (vs.set x v):=by
 refine⟨by rw[length_set];exact hv.1,λi hi=>?_⟩;rw[length_set]at hi;rw[Qa,getElem?_set]
 split
 ·split
  ·exact h
  omega
 have:=hv.2 i hi;rw[Qa]at this;exact this
def iG{p:aY}(h:p.Lv)(hv:bC p vs){m:aa×Int}(hm:PlOk p vs m.1/\∃k:Nat,k<p.n/\m.2=(k:Int))(hl:dm p m.1=true)(hf:ef p vs m=false):
  bC p (vs.set m.1.x (jn p (vs.getD m.1.x 0) m.2))/\kh p (vs.set m.1.x (jn p (vs.getD m.1.x 0) m.2))<kh p vs:=by
 obtain⟨hp,k,hk,ek⟩:=hm;unfold dm at hl;rw[Qk,Qn,Qn]at hl
 have hx:m.1.x<vs.length:=by rcases hp with h|h<;>omega
 have a0:=hv.2 m.1.x hx
 have b0:0<=m.2/\m.2<p.n:=by rw[ek];omega
 refine⟨iH hv _ (h.jn a0 b0),?_⟩;unfold ef aO at hf;rw[U (by omega)]at hf;have h1:=jr h a0 b0 hf;unfold kh;rw[drop_set,U (by omega)]
 have hi:m.1.x - p.cells.length<(vs.drop p.cells.length).length:=by rw[length_drop];omega
 refine iI _ _ hi ?_;have e:(vs.drop p.cells.length)[m.1.x - p.cells.length]=vs.getD m.1.x 0:=by
  rw[getElem_drop,Qa];have e2:p.cells.length+(m.1.x - p.cells.length)=m.1.x:=(by omega);simp only[e2];rw[Qb hx];rfl
 rw[e];exact h1
end Fl
open Go.RowKit
def zdz{P:Program}{Q:Exit->Act->World->Prop}{a:Act}{c':Code}(l:Nat)(Qw:Act->World->Prop)(μ:Act->World->Nat)(hJ:Qw a w)
  (pass:∀a w,Qw a w->c'.wp P (Exit.jump l (λa' w'=>Qw a' w'/\μ a' w'<μ a w) Q) a w):(Code.scope ((Code.label l).seq c')).wp P Q a w:=by
 refine wp_scope_jumps l Qw μ (rest:=.seq .skip c') (by simp[findLabel]) ?_ (λa w h=>?_)
 ·apply wp_seq
  apply wp_label
  refine wp_mono (pass a w hJ) (λe a w h=>?_)
  cases e<;>first|exact h|exact⟨h.1,h.2.1⟩
 apply wp_seq
 apply wp_skip
 exact pass a w h
def vAddr(vv:Value)(i:Nat):Addr:=match vv with
 | .slice (some a) _ _=>⟨a.block,a.off+i,none⟩
 |_=>(O 0 0)
def intAt(w:World)(a:Addr):Int:=match w.cell? a with
 |some (.int _ z)=>z
 |_=>0
def zmv(w:World)(vv:Value)(n:Nat):Is:=(range n).map λi=>intAt w (vAddr vv i)
def yiy(h:Zw B w vv vs):zmv w vv vs.length=vs:=by
 refine ext_getElem (by simp[zmv]) (λi h1 h2=>?_);obtain⟨b,off,cap,rfl,-,-,-,hc⟩:=zmx h h2;simp only[zmv,getElem_map,getElem_range,vAddr,intAt,hc];rw[Qa,Qb h2];rfl
structure SepB(w:World)(b Fb Pb Lb:Nat)(cS:Value)(S:Nat->Prop):Prop where
 f:Fb≠b
 p:Pb≠b
 l:Lb≠b
 s:∀c,S c->c≠b
 c:∀b' o n cap,0<n->cS=Sq b' o n cap->b'≠b
 z:∀j,w.frozen? (O b j)=false
 hb:b<w.heap.size
def SepB.below(h:SepB w b Fb Pb Lb cS S)(hb:D w w'):SepB w' b Fb Pb Lb cS S:=
 ⟨h.f,h.p,h.l,h.s,h.c,λj=>(hb.frozen (p:=(O b j)) h.hb).trans (h.z j),Qj h.hb hb.size⟩
def SepB.set(h:SepB w b Fb Pb Lb cS S)(j:Nat)(v:Value):SepB (w.setCell (O b j) v) b Fb Pb Lb cS S:=
 ⟨h.f,h.p,h.l,h.s,h.c,λi=>by rw[frozen?_setCell];exact h.z i,by rw[Zy];exact h.hb⟩
section
variable{p:Fl.aY}{off:Nat}
def FnIn.set(h:FnIn w Fb Pb Lb aB cS bv (Sq b off n cap) S p vs)(hs:SepB w b Fb Pb Lb cS S){x:Nat}(hx:x<vs.length){v:Int}(hv:0<=v/\v<p.n):FnIn (w.setCell (O b (off+x)) (I v)) Fb Pb Lb aB cS bv (Sq b off n cap) S p (vs.set x v):=by
 have q:∀c j,c≠b->(w.setCell (O b (off+x)) (I v)).cell? (O c j)=w.cell? (O c j):=λc j hc=>Qc (a:=(O c j)) (Zx _ _ _ _ _ hc);have hz:=Zy w (O b (off+x)) (I v)
 exact{
  hF:=by rw[hz];exact h.hF
  c0:=(q _ _ hs.f).trans h.c0
  c1:=(q _ _ hs.f).trans h.c1
  lv:=⟨by rw[hz];exact h.lv.hz,(q _ _ hs.p).trans h.lv.p0,h.lv.la.block (Zx _ _ _ _ _ hs.l),h.lv.lv⟩
  p1:=(q _ _ hs.p).trans h.p1
  p2:=(q _ _ hs.p).trans h.p2
  p4:=(q _ _ hs.p).trans h.p4
  ce:=h.ce
  ch:=by
   obtain⟨ao,cp,e,h1,h2,h3⟩:=h.ch;refine⟨ao,cp,e,h1,h2,λhn=>?_⟩;obtain⟨b',o',ea,hb',hc⟩:=h3 hn;have b0:b'≠b:=hs.c b' o' _ _ (length_pos_iff.2 hn) (by rw[e,ea]);exact⟨b',o',ea,by rw[hz];exact hb',λi hi=>(q _ _ b0).trans (hc i hi)⟩
  vi:=by
   obtain⟨ao,cp,e,h1,h2,h3⟩:=h.vi;obtain⟨b',o',ea,hb',hc⟩:=h3 (by intro e;rw[e]at hx;cases hx);injection e with e1 e2 e3;subst e2;subst e3;rw[ea]at e1;injection e1 with e1;injection e1 with e4 e5;subst e4;subst e5;refine⟨_,_,by rw[length_set],by rw[length_set];exact h1,by rw[length_set];exact h2,λ_=>⟨b,off,rfl,by rw[hz];exact hb',λi hi=>?_⟩⟩;rw[length_set]at hi;rw[Qa,getElem?_set]
   by_cases a0:x=i
   ·subst a0
    rw[G rfl,G hx];exact cell?_setCell_same' _ _ _ (by rw[hc x hx];rfl)
   rw[U a0];refine(Qg _ _ _ _ (by intro hh;injection hh with _ h5;omega)).trans ?_;rw[<-Qa];exact hc i hi
  bo:=Yz.kept (λ_ h=>h) (λc hc=>Zx _ _ _ _ _ (hs.s c hc)) _ _ _ h.bo
  hS:=λc hc=>by rw[hz];exact h.hS c hc
  ok:=Fl.iH h.ok x hv
  pk:=h.pk}
end
section
variable{p:Fl.aY}
end
def ziy(s:L)(k:Nat)(h:k<s.length):s.drop k=s.getD k 0::s.drop (k+1):=by
 rw[drop_eq_getElem_cons h,Qa,Qb h];rfl
def zw9(s:L)(p i a:Nat):Prop:=i<=4/\p+i<=s.length/\a<128 ^ i/\num s p=dN p s.length i a (128 ^ i) (s.drop (p+i))
def zw9.start(s:L)(p:Nat)(h:p<=s.length):zw9 s p 0 0:=⟨by omega,by omega,by simp,by simp[num]⟩
def zw9.small(h:zw9 s p i a):a<268435456/\128 ^ i<=268435456:=by
 have h1:128 ^ i<=128 ^ 4:=Nat.pow_le_pow_right (by omega) h.1
 have h2:(128:Nat) ^ 4=268435456:=by decide
 have:=h.2.2.1;omega
def zw9.stop(h:zw9 s p i a)(a0:¬p+i<s.length)(lo hi:Int):dH s p lo hi=(0,-1,(s.length:Int)):=by
 obtain⟨h1,h2,h3,h4⟩:=h;unfold dH;rw[h4,drop_of_length_le (by omega)];simp[dN]
def zw9.next(h:zw9 s p i a)(a0:p+i<s.length)(hi:i<4)(hc:¬(s.getD (p+i) 0).toNat<128):zw9 s p (i+1) (a+(s.getD (p+i) 0).toNat % 128*128 ^ i):=by
 obtain⟨h1,h2,h3,h4⟩:=h
 have hm:(s.getD (p+i) 0).toNat % 128<=127:=by omega
 have hp:(s.getD (p+i) 0).toNat % 128*128 ^ i<=127*128 ^ i:=Nat.mul_le_mul_right _ hm;have h5:128 ^ (i+1)=128 ^ i*128:=Nat.pow_succ ..;have h6:128 ^ (i+1)<=128 ^ 4:=Nat.pow_le_pow_right (by omega) hi
 have h7:(128:Nat) ^ 4=268435456:=by decide
 refine⟨by omega,by omega,by omega,?_⟩;rw[h4,ziy s (p+i) a0];simp only[dN];rw[U (by omega),U hc,show p+(i+1)=p+i+1 from by omega,h5]
def zw9.full(h:zw9 s p 4 a)(a0:p+4<s.length)(hc:¬(s.getD (p+4) 0).toNat<128)(lo hi:Int):dH s p lo hi=(0,-1,(p:Int)):=by
 obtain⟨h1,h2,h3,h4⟩:=h;have hg:num s p=(0,-1,(p:Int)):=by
  rw[h4,ziy s (p+4) a0];unfold dN;exact G (by omega)
 unfold dH;rw[hg];rfl
def zw9.last(h:zw9 s p i a)(a0:p+i<s.length)(hc:(s.getD (p+i) 0).toNat<128)(lo hi:Int)(bB:0<=lo)(b0:hi<2147483648):
  dH s p lo hi=if(0<(s.getD (p+i) 0).toNat\/i=0)/\lo<=((a+(s.getD (p+i) 0).toNat*128 ^ i:Nat):Int)/\((a+(s.getD (p+i) 0).toNat*128 ^ i:Nat):Int)<=hi then(((a+(s.getD (p+i) 0).toNat*128 ^ i:Nat):Int),((p+i+1:Nat):Int),0) else(0,-1,(p:Int)):=by
 obtain⟨h1,h2,h3,h4⟩:=h;generalize hx:(s.getD (p+i) 0).toNat=x at*;have hm:=Nat.mod_eq_of_lt hc;generalize hv:a+x*128 ^ i=v at*;have hg:num s p=if(x=0/\0<i)\/2147483648<=v then(0,-1,(p:Int)) else((v:Int),((p+i+1:Nat):Int),0):=by
  rw[h4,ziy s (p+i) a0];simp only[dN,hx,hm,hv]
  by_cases hq:(x=0/\0<i)\/2147483648<=v
  ·rw[G (by omega),G hq]
  rw[U (by omega),U hq,G hc]
 unfold dH;rw[hg]
 by_cases hq:(x=0/\0<i)\/2147483648<=v
 ·rw[G hq,G (by simp),U (by omega)]
 rw[U hq];rw[U (show ¬(((p+i+1:Nat):Int)<0) by omega)]
 by_cases hr:(v:Int)<lo\/hi<(v:Int)
 ·rw[G hr,U (by omega)]
 rw[U hr,G (by omega)]
def or_add(a c i:Nat)(h:a<128 ^ i):a|||(c<<<(7*i))=a+c*128 ^ i:=by
 have h2:(128:Nat) ^ i=2 ^ (7*i):=by rw[Nat.pow_mul]
 rw[h2]at h⊢;rw[Nat.or_comm,<-Nat.shiftLeft_add_eq_or_of_lt h,Nat.shiftLeft_eq];omega
def ydz(a c i:Nat)(hc:c<256)(hi:i<=4)(ha:a<128 ^ i):bits .or .u64 (a:Int) (IntKind.u64.wrap (IntKind.u64.wrap (bits .and .u8 (c:Int) 127)*2 ^ (7*i)))=((a+c % 128*128 ^ i:Nat):Int):=by
 have h1:128 ^ i<=128 ^ 4:=Nat.pow_le_pow_right (by omega) hi
 have h2:(128:Nat) ^ 4=268435456:=by decide
 have h3:c % 128*128 ^ i<=127*268435456:=Nat.mul_le_mul (by omega) (by omega);have e1:bits .and .u8 (c:Int) 127=((c % 128:Nat):Int):=by
  have:=u8_and_nat c 127 hc (by omega);rw[nat_mask7]at this;exact this
 have e2:IntKind.u64.wrap ((c % 128:Nat):Int)=((c % 128:Nat):Int):=by rw[IntKind.wrap_u64];omega
 have e3:((c % 128:Nat):Int)*2 ^ (7*i)=((c % 128*128 ^ i:Nat):Int):=by
  rw[Int.natCast_mul,Int.natCast_pow,Int.pow_mul];rfl
 have e4:IntKind.u64.wrap ((c % 128*128 ^ i:Nat):Int)=((c % 128*128 ^ i:Nat):Int):=by rw[IntKind.wrap_u64];omega
 rw[e1,e2,e3,e4,u64_or_nat a (c % 128*128 ^ i) (by omega) (by omega)]
 have h4:c % 128*128 ^ i=(c % 128)<<<(7*i):=by rw[Nat.shiftLeft_eq,Nat.pow_mul]
 rw[<-or_add a (c % 128) i ha,h4]
def zv2(r:Int×Int×Int)(b:Nat)(w:World)(e:Ending)(w':World):Prop:=
 Mv w w' b/\(r.2.1<0->e=.panicked (Za 8 r.2.2))/\(¬r.2.1<0->e=.returned (I r.1)/\w'.cell? (O b 1)=some (I r.2.1))
def zl0{r:Int×Int×Int}{v:Nat}(hr:r=((v:Int),(q:Int),0))(m:Mv w w' b)(c:w'.cell? (O b 1)=some (I (q:Int))):zv2 r b w (.returned (I (v:Int))) w':=by
 subst hr;exact⟨m,λh=>by simp only at h;omega,λ_=>⟨rfl,c⟩⟩
def Js{r:Int×Int×Int}{pl:Int}(hr:r=(0,-1,pl))(m:Mv w w' b):zv2 r b w (.panicked (Za 8 pl)) w':=by
 subst hr;exact⟨m,λ_=>rfl,λh=>absurd (show (-1:Int)<0 by decide) h⟩
def NumLoop(s:L)(p lo hi i a:Nat):Prop:=zw9 s p i a\/(i=5/\dH s p lo hi=(0,-1,(p:Int)))
def zt5(h:Dr w b ao cap s p)(lo hi:Nat)(u0:hi<2147483648)(bB:lo<2147483648):
  E 104 #[F b,I lo,I hi] w λe w'=>zv2 (dH s p lo hi) b w e w':=by
 have c0:=h.c0;have c1:=h.c1;have hs:=h.hs;have hp:=h.hp;have HD:=Z h;clear h
 go_enter func104,ntmps104
 go_wp2_with fail
 go_loopw [8,16] (λn k wr=>∃i a:Nat,n=.int .u64 a/\k=I i/\NumLoop s p lo hi i a/\Mv w wr b/\M wr b 1 (I ((p+i:Nat):Int))) (λ_ k _=>5 - (intOf k).toNat)
 case atStart=>exact⟨0,0,rfl,rfl,.inl (zw9.start s p hp),Mv.refl _ _,c1⟩
 case round=>
  obtain⟨i,a,rfl,rfl,hl,hm,d0⟩:=hrel;have HM:=Z hm;have HC:=Z d0;clear hm d0;rcases hl with hl|⟨rfl,hl⟩
  ·have p0:=hl.1
   have ha:=hl.small.1;have hx:=hl.small.2;have q0:=hl.2.1;have HL:=Z hl;clear hl;have h0:=Z (HD.move HM HC q0)
   by_cases k0:p+i<s.length
   ·obtain⟨c,hc⟩:=J ((s.getD (p+i) 0).toNat)
    have l0:c<256:=(by rw[hc];exact(s.getD (p+i) 0).toNat_lt);have HN:Y (E 102 #[F b] wr λe w'=>e=.returned (.int .u8 c)/\Mv wr w' b/\M w' b 1 (I ((p+i+1:Nat):Int))):=(by rw[hc];exact zd9 h0 k0);have i0:=Z hc;clear hc;obtain⟨v,hv⟩:=J (a+c % 128*128 ^ i);have v0:bits .or .u64 (a:Int) (IntKind.u64.wrap (IntKind.u64.wrap (bits .and .u8 (c:Int) 127)*2 ^ (7*i)))=(v:Int):=(by rw[hv];exact ydz a c i l0 p0 HL.2.2.1);have x0:v<274877906944:=by
     have h3:c % 128*128 ^ i<=127*268435456:=Nat.mul_le_mul (by omega) (by omega);omega
    have HV:=Z hv;clear hv
    by_cases hc:128<=c
    ·go_wp2_with (go_at_call 102;refine(HN.out).mono ?_;rintro e w1 ⟨rfl,a0,d0⟩)
     go_roundw
     case rel=>
      refine⟨i+1,v,rfl,by go_num,?_,HM.trans a0,d0⟩
      by_cases h4:i<4
      ·left;rw[HV.out,i0.out];exact HL.next k0 h4 (by have:=i0.out;omega)
      right
      have:i=4:=by omega
      subst this;exact⟨rfl,HL.full k0 (by have:=i0.out;omega) _ _⟩
     case measure=>simp[intOf];omega
    have m0:(v:Int)=((a+(s.getD (p+i) 0).toNat*128 ^ i:Nat):Int):=by
     rw[HV.out,i0.out,Nat.mod_eq_of_lt (by have:=i0.out;omega)]
    have e0:=HL.last k0 (by have:=i0.out;omega) lo hi (by omega) (by omega);rw[<-m0,<-i0.out]at e0;have HG:=Z e0;clear m0 e0
    by_cases n0:c=0
    ·have b0:¬(0:Int)<(c:Int):=by omega
     have r0:=Z n0;clear n0
     by_cases o0:i=0
     ·have bi:((i:Int)==0)=true:=beq_iff_eq.2 (by omega)
      have s0:=Z o0;clear o0
      by_cases j0:(lo:Int)<=(v:Int)
      ·by_cases f0:(v:Int)<=(hi:Int)
       ·go_wp2_with (first|(go_at_call 102;refine(HN.out).mono ?_;rintro e w1 ⟨rfl,a0,d0⟩)|(go_at_call 101;refine(zx3 _ _ _).mono ?_;rintro e w2 ⟨rfl,rfl⟩))
        go_ret;exact zl0 (HG.trans (G ⟨.inr s0,j0,f0⟩)) (HM.trans a0) d0
       have bd:decide (v<=hi)=false:=decide_eq_false (by omega);have bd2:decide ((v:Int)<=(hi:Int))=false:=decide_eq_false f0
       go_wp2_with (first|(go_at_call 102;refine(HN.out).mono ?_;rintro e w1 ⟨rfl,a0,d0⟩)|(go_at_call 101;refine(Vp _ _ _).mono ?_;rintro e w2 ⟨rfl,g0⟩))
       exact⟨rfl,Js (HG.trans (U (by omega))) ((HM.trans a0).trans (Mv.aD g0 (a0.lt h0.lt)))⟩
      go_wp2_with (first|(go_at_call 102;refine(HN.out).mono ?_;rintro e w1 ⟨rfl,a0,d0⟩)|(go_at_call 101;refine(Vp _ _ _).mono ?_;rintro e w2 ⟨rfl,g0⟩))
      exact⟨rfl,Js (HG.trans (U (by omega))) ((HM.trans a0).trans (Mv.aD g0 (a0.lt h0.lt)))⟩
     have bi:((i:Int)==0)=false:=beq_eq_false_iff_ne.2 (by omega)
     go_wp2_with (first|(go_at_call 102;refine(HN.out).mono ?_;rintro e w1 ⟨rfl,a0,d0⟩)|(go_at_call 101;refine(Vp _ _ _).mono ?_;rintro e w2 ⟨rfl,g0⟩))
     exact⟨rfl,Js (HG.trans (U (by have:=r0.out;omega))) ((HM.trans a0).trans (Mv.aD g0 (a0.lt h0.lt)))⟩
    have b0:¬(c:Int)<=0:=(by omega)
    by_cases j0:(lo:Int)<=(v:Int)
    ·by_cases f0:(v:Int)<=(hi:Int)
     ·go_wp2_with (first|(go_at_call 102;refine(HN.out).mono ?_;rintro e w1 ⟨rfl,a0,d0⟩)|(go_at_call 101;refine(zx3 _ _ _).mono ?_;rintro e w2 ⟨rfl,rfl⟩))
      go_ret;exact zl0 (HG.trans (G ⟨.inl (by omega),j0,f0⟩)) (HM.trans a0) d0
     have bd:decide (v<=hi)=false:=decide_eq_false (by omega);have bd2:decide ((v:Int)<=(hi:Int))=false:=decide_eq_false f0
     go_wp2_with (first|(go_at_call 102;refine(HN.out).mono ?_;rintro e w1 ⟨rfl,a0,d0⟩)|(go_at_call 101;refine(Vp _ _ _).mono ?_;rintro e w2 ⟨rfl,g0⟩))
     exact⟨rfl,Js (HG.trans (U (by omega))) ((HM.trans a0).trans (Mv.aD g0 (a0.lt h0.lt)))⟩
    go_wp2_with (first|(go_at_call 102;refine(HN.out).mono ?_;rintro e w1 ⟨rfl,a0,d0⟩)|(go_at_call 101;refine(Vp _ _ _).mono ?_;rintro e w2 ⟨rfl,g0⟩))
    exact⟨rfl,Js (HG.trans (U (by omega))) ((HM.trans a0).trans (Mv.aD g0 (a0.lt h0.lt)))⟩
   go_wp2_with (go_at_call 102;refine(ziz h0 k0).mono ?_;rintro e w1 ⟨rfl,a0⟩)
   exact⟨rfl,Js (HL.stop k0 _ _) (HM.trans a0)⟩
  go_wp2_with (go_at_call 101;refine(Vp _ _ _).mono ?_;rintro e w1 ⟨rfl,t0⟩)
  exact⟨rfl,Js hl (HM.trans (Mv.aD t0 (HM.lt HD.lt)))⟩
def zoy{a b:ByteArray}(h:a=b):Ending.returned (.string a)=.returned (.string b):=by rw[h]
def zj1{W:World}(hb:D W w1):(∀b o,b<W.heap.size->w1.cell? (O b o)=W.cell? (O b o))/\(∀b o,b<W.heap.size->w1.frozen? (O b o)=W.frozen? (O b o)):=
 ⟨λb o h=>hb.cell (p:=(O b o)) h,λb o h=>hb.frozen (p:=(O b o)) h⟩
def Uw(x y:L):(⟨x.toArray⟩:ByteArray)++⟨y.toArray⟩=⟨(x++y).toArray⟩:=ByteArray.mk_append_mk x y
def zj2:cf x=true ↔ 0<=x/\x<2147483648:=by simp[cf]
def zl1{i:Int}(h:dM Wj i x=true):0<=x/\x<2147483648:=by
 unfold dM at h;rw[Qk]at h;exact zj2.1 h.1
def ot{k:Int}(h:aP k≠ -2):0<=k/\k<=7:=by
 unfold aP at h;repeat' split at h<;>omega
def ynx{k:Int}(h:aP k<0)(h2:aP k≠ -2):aP k= -1:=by have:=eY k;omega
def zdy(s:ByteArray)(k:Nat)(h:k<s.size):s.data.toList.drop k=s[k]::s.data.toList.drop (k+1):=by
 rw[drop_eq_getElem_cons (by simpa using h)];rfl
def zu6{r:Int×Int×Int}{a b:Int}(h:r=(a,b,c)):Ending.returned (.tuple #[I a,I b,I c])=.returned (.tuple #[I r.1,I r.2.1,I r.2.2]):=by
 subst h;rfl
def zr7(s:ByteArray)(p q a x:Nat):Prop:=p<=q/\q<=p+4/\q<=s.size/\a<2147483648/\x=128 ^ (q - p)/\num s.data.toList p=dN p s.size (q - p) a x (s.data.toList.drop q)
def zdx{s:ByteArray}{x:Nat}(h:zr7 s p q a x)(a0:q<s.size)(hb:(s[q].toNat=0/\p<q)\/2147483648<=a+s[q].toNat % 128*x\/(q=p+4/\128<=s[q].toNat)):num s.data.toList p=(0,-1,(p:Int)):=by
 obtain⟨h1,h2,h3,h4,h5,h6⟩:=h;rw[h6,zdy s q a0];simp only[dN];rw[G (by omega)]
def zix{s:ByteArray}{x:Nat}(h:zr7 s p q a x)(a0:q<s.size)(hb:¬((s[q].toNat=0/\p<q)\/2147483648<=a+s[q].toNat % 128*x\/(q=p+4/\128<=s[q].toNat)))(hc:s[q].toNat<128):num s.data.toList p=(((a+s[q].toNat % 128*x:Nat):Int),((q+1:Nat):Int),0):=by
 obtain⟨h1,h2,h3,h4,h5,h6⟩:=h;rw[h6,zdy s q a0];simp only[dN];rw[U (by omega),G hc]
 congr 2;omega
def ydy{s:ByteArray}{x:Nat}(h:zr7 s p q a x)(a0:q<s.size)(hb:¬((s[q].toNat=0/\p<q)\/2147483648<=a+s[q].toNat % 128*x\/(q=p+4/\128<=s[q].toNat)))(hc:¬s[q].toNat<128):zr7 s p (q+1) (a+s[q].toNat % 128*x) (x*128):=by
 obtain⟨h1,h2,h3,h4,h5,h6⟩:=h
 have b0:q≠p+4:=by intro e;exact hb (Or.inr (Or.inr ⟨e,by omega⟩))
 refine⟨by omega,by omega,by omega,by omega,?_,?_⟩
 ·rw[h5,show q+1 - p=(q - p)+1 from by omega,Nat.pow_succ]
 rw[h6,zdy s q a0];simp only[dN];rw[U (by omega),U hc,show q+1 - p=(q - p)+1 from by omega]
def ydx{s:ByteArray}{x:Nat}(h:zr7 s p q a x)(a0:¬q<s.size):num s.data.toList p=(0,-1,(s.size:Int)):=by
 obtain⟨h1,h2,h3,h4,h5,h6⟩:=h;rw[h6,drop_of_length_le (by simp;omega)];rfl
def ydw{s:ByteArray}{x:Nat}(h:zr7 s p q a x):x<=268435456:=by
 rw[h.2.2.2.2.1];exact Nat.le_trans (Nat.pow_le_pow_right (by omega) (show q - p<=4 from by have:=h.2.1;omega)) (by decide)
def ydv(s:ByteArray)(p:Nat)(w:World)(hs:s.size<=4611686018427387904)(hp:p<=s.size):
  E 35 #[.string s,I p] w (Rq (.tuple #[I (num s.data.toList p).1,I (num s.data.toList p).2.1,I (num s.data.toList p).2.2]) w):=by
 go_enter func35,ntmps35
 go_wp2
 go_loop [7,8,9] (λv u i=>∃q a x:Nat,zr7 s p q a x/\v=I a/\u=I x/\i=I q) (λ_ _ i=>s.size - (intOf i).toNat)
 case atStart=>exact⟨p,0,1,⟨by omega,by omega,hp,by omega,by simp,by simp[num]⟩,rfl,rfl,rfl⟩
 case round=>
  obtain⟨q,a,x,hr,rfl,rfl,rfl⟩:=hrel;have hx:=ydw hr;have ha:=hr.2.2.2.1;have c0:=hr.1;have d0:=hr.2.1;have HR:=Z hr;clear hr
  by_cases a0:q<s.size
  ·have hc:=s[q].toNat_lt
   have e0:(0:Int)<=(s[q].toNat:Int) % 128*(x:Int):=Int.mul_nonneg (by omega) (by omega);have f0:(s[q].toNat:Int) % 128*(x:Int)<=127*268435456:=Int.mul_le_mul (by omega) (by omega) (by omega) (by omega);have b0:(((s[q].toNat % 128*x:Nat)):Int)=(s[q].toNat:Int) % 128*(x:Int):=(by simp);have HM:=Z b0;clear b0
   by_cases h1:s[q].toNat=0
   ·have b1:((s[q].toNat:Int)==0)=true:=beq_iff_eq.2 (by omega)
    by_cases h2:p<q
    ·go_wp2
     go_ret3
     exact⟨zu6 (zdx HR a0 (by first|omega|(have:=H4.out;omega))),rfl⟩
    have g0:q=p:=(by omega);subst g0;clear e0 f0 c0 d0 h2;have h3:¬(2147483648:Int)<=(a:Int):=(by omega);go_wp2
    go_ret3
    exact⟨zu6 (by rw[zix HR a0 (by have hz:s[q].toNat % 128*x=0:=(by rw[h1];simp);omega) (by omega)];simp[h1]),rfl⟩
   have b1:((s[q].toNat:Int)==0)=false:=beq_eq_false_iff_ne.2 (by omega)
   by_cases h3:(2147483648:Int)<=(a:Int)+(s[q].toNat:Int) % 128*(x:Int)
   ·go_wp2
    go_ret3
    exact⟨zu6 (zdx HR a0 (by have:=HM.out;omega)),rfl⟩
   by_cases h4:q=p+4
   ·have b4:((q:Int)==(p:Int)+4)=true:=beq_iff_eq.2 (by omega)
    have H4:=Z h4;clear h4
    by_cases h5:128<=s[q].toNat
    ·go_wp2
     go_ret3
     exact⟨zu6 (zdx HR a0 (by first|omega|(have:=H4.out;omega))),rfl⟩
    go_wp2
    go_ret3
    exact⟨zu6 (by rw[zix HR a0 (by have:=HM.out;omega) (by omega)];simp),rfl⟩
   have b4:((q:Int)==(p:Int)+4)=false:=beq_eq_false_iff_ne.2 (by omega)
   by_cases h5:128<=s[q].toNat
   ·go_wp2
    go_round
    case rel=>exact⟨q+1,_,_,ydy HR a0 (by have:=HM.out;omega) (by omega),by simp,by simp,by go_num⟩
    case measure=>simp[intOf];omega
   go_wp2
   go_ret3
   exact⟨zu6 (by rw[zix HR a0 (by have:=HM.out;omega) (by omega)];simp),rfl⟩
  go_wp2
  go_ret3
  exact⟨zu6 (ydx HR a0),rfl⟩
def Tryz.infoInt:(Tryz.prog.info? 3).map (λi=>(i.zero,i.size,i.bytes))=some (some (I 0),1,8):=by kernel_rfl
def num_l(s:ByteArray)(p:Nat)(w:World)(hs:s.size<=4611686018427387904)(hp:p<=s.size)(v n b:Int)(h:num s.toList p=(v,n,b)):
  E 35 #[.string s,I p] w (Rq (.tuple #[I v,I n,I b]) w):=by
 have:=ydv s p w hs hp;rw[<-ByteArray.toList_eq,h]at this;exact this
def yw4{r:Is×Int×Int}{l:Is}{a b:Int}(h:r=(l,a,b)):Ending.returned (.tuple #[v,I a,I b])=.returned (.tuple #[v,I r.2.1,I r.2.2]):=by
 subst h;rfl
def zvx{x:Value}:∀j u,[x][j]?=some u->(w.alloc (.cells #[x] e)).cell? (((O w.heap.size 0):Addr).add j)=some u:=by
 intro j u hj
 match j,hj with
 |0,hj=>simp at hj;subst hj;simp[Addr.add]
def zj3(s:ByteArray)(p n k q:Nat)(xs:Is):Prop:=k<=n/\q<=s.size/\xs.length=k/\bW s.toList p n=dv s.toList (n - k) q xs
def yc0{s:ByteArray}(h:zj3 s p n k q xs)(hk:k<n){v b:Int}(hn:num s.toList q=(v,m,b))(hm:m<0):bW s.toList p n=([],-1,b):=by
 obtain⟨h1,h2,h3,h4⟩:=h;rw[h4,show n - k=(n - k - 1)+1 from by omega];simp only[dv,hn,G hm]
def yix{s:ByteArray}(h:zj3 s p n k q xs)(hk:k<n){v b:Int}(hn:num s.toList q=(v,m,b))(hm:¬m<0):zj3 s p n (k+1) m.toNat (xs++[v]):=by
 obtain⟨h1,h2,h3,h4⟩:=h
 have hl:q<=s.toList.length:=by rw[ByteArray.toList_eq];simpa using h2
 have a0:=cA s.toList q hl;rw[hn]at a0
 have hz:s.toList.length=s.size:=by rw[ByteArray.toList_eq];simp
 rw[hz]at a0;refine⟨by omega,by simp only at a0;omega,by simp[h3],?_⟩;rw[h4,show n - k=(n - (k+1))+1 from by omega];simp only[dv,hn,U hm]
def yiw(s:ByteArray)(p n:Nat)(w:World)(hs:s.size<=4611686018427387904)(hp:p<=s.size)(hn:n<=1000):
  E 36 #[.string s,I p,I n] w λe w'=>∃v,e=.returned (.tuple #[v,I (bW s.toList p n).2.1,I (bW s.toList p n).2.2])/\w'.ownsRow w.heap.size 3 1 v (bW s.toList p n).1.length ((bW s.toList p n).1.map (int .i64))/\D w w':=by
 obtain⟨i0,hi,j0,k0,l0⟩:=info_parts Tryz.infoInt
 go_enter func36,ntmps36
 go_wp2
 go_loopw [1,9,10] (λt v i wr=>∃(k q:Nat) (xs:Is),zj3 s p n k q xs/\t=I q/\i=I k/\wr.ownsRow w.heap.size 3 1 v xs.length (xs.map (int .i64))/\D w wr) (λ_ _ i _=>n - (intOf i).toNat)
 case atStart=>exact⟨0,p,[],⟨by omega,hp,rfl,rfl⟩,rfl,rfl,ownsRow_nil _ _ _ _,Below.refl _ _⟩
 case round=>
  obtain⟨k,q,xs,hr,rfl,rfl,b0,c0⟩:=hrel;have HR:=Z hr;have q0:=hr.1;have m0:=hr.2.1;have r0:xs.length<=1000:=(by have:=hr.2.2.1;omega);have n0:=c0.size;clear hr
  by_cases h0:k<n
  ·obtain⟨v,m,b,f0⟩:∃v m b,num s.toList q=(v,m,b):=⟨_,_,_,rfl⟩
   have HC:=num_l s q wr hs m0 v m b f0;have HN:=Z f0;have g0:=Z HC;clear f0 HC
   by_cases hm:m<0
   ·go_wp2_with (go_at_call 35;refine(g0.out).mono ?_;rintro e w' ⟨rfl,rfl⟩)
    have a0:=yc0 HR h0 HN hm
    go_ret3
    exact⟨_,yw4 a0,by rw[a0];exact ownsRow_nil _ _ _ _,c0⟩
   go_wp2_with (first|(go_at_call 35;refine(g0.out).mono ?_;rintro e w' ⟨rfl,rfl⟩)|(at_builtin;refine wpList_append_own _ rfl _ _ 27 rfl w.heap.size 3 i0 (I 0) 1 8 underlying27 hi j0 k0 l0 rfl (by decide) _ _ _ rfl (b0.alloc _) (O _ 0) 1 1 [I v] rfl rfl zvx ?c2 ?c3 ?c4 ?c5 ?_))
   case c2=>intro u hu;simp at hu;subst hu;rfl
   case c3=>unfold maxLen;omega
   case c4=>omega
   case c5=>simp;omega
   intro v' w1 hown' d0 _;have e0:=yix HR h0 HN (by omega);have HS:=Z e0;have o0:D w w1:=(c0.alloc n0 _).grown d0 (by simp;omega) (λg hg=>(b0.lt g hg).1);have p0:w1.ownsRow w.heap.size 3 1 v' (xs++[v]).length ((xs++[v]).map (int .i64)):=(by simpa using hown');clear e0 hown' d0 b0 g0;go_wp2
   go_roundw
   case rel=>exact⟨k+1,m.toNat,xs++[v],HS,by rw[Int.toNat_of_nonneg (by omega)],by go_num,p0,o0⟩
   case measure=>simp[intOf];omega
  have hkn':k=n:=(by omega);have a0:bW s.toList p n=(xs,(q:Int),0):=by
   have:=HR.2.2.2;rw[this,hkn',Nat.sub_self];rfl
  have HF:=Z a0;clear a0 hkn';go_wp2
  go_ret3
  exact⟨_,yw4 HF,by rw[HF.out];exact b0,c0⟩
def Fl.lr(s:L)(p:Nat)(h:p<=s.length):dH s p 0 2147483647=num s p:=by
 have h1:=cA s p h;unfold dH;generalize num s p=r at*;obtain⟨x,y,z⟩:=r;simp only at h1⊢;rcases h1 with h1|h1
 ·rw[G (by omega),h1.1,h1.2.1]
 rw[U (by omega),U (by omega),h1.2.2.2.2]
def zox(s:L)(p n k q:Nat)(xs:Is):Prop:=k<=n/\q<=s.length/\xs.length=k/\bW s p n=dv s (n - k) q xs
def zox.dP(h:zox s p n k q xs)(hk:k<n){v b:Int}(hn:num s q=(v,m,b))(hm:m<0):bW s p n=([],-1,b):=by
 obtain⟨h1,h2,h3,h4⟩:=h;rw[h4,show n - k=(n - k - 1)+1 from by omega];simp only[dv,hn,G hm]
def zox.step(h:zox s p n k q xs)(hk:k<n){v b:Int}(hn:num s q=(v,m,b))(hm:¬m<0):zox s p n (k+1) m.toNat (xs++[v]):=by
 obtain⟨h1,h2,h3,h4⟩:=h;have a0:=cA s q h2;rw[hn]at a0;refine⟨by omega,by simp only at a0;omega,by simp[h3],?_⟩;rw[h4,show n - k=(n - (k+1))+1 from by omega];simp only[dv,hn,U hm]
def yw5(r:Is×Int×Int)(b:Nat)(w:World)(e:Ending)(w':World):Prop:=
 Mv w w' b/\(r.2.1<0->e=.panicked (Za 8 r.2.2))/\(¬r.2.1<0->∃lv,e=.returned lv/\w'.ownsRow w.heap.size 3 1 lv r.1.length (r.1.map (int .i64))/\w'.cell? (O b 1)=some (I r.2.1))
def yw6{r:Is×Int×Int}{pl:Int}(hr:r=([],-1,pl))(m:Mv w w' b):yw5 r b w (.panicked (Za 8 pl)) w':=by
 subst hr;exact⟨m,λ_=>rfl,λh=>absurd (show (-1:Int)<0 by decide) h⟩
def zsx(h:Dr w b ao cap s p):
  E 104 #[F b,I 0,I 2147483647] w λe w'=>zv2 (num s p) b w e w':=by
 rw[<-lr s p h.hp];exact zt5 h 0 2147483647 (by omega) (by omega)
def own_ne{size:Nat}{xs:Vs}(h:w.ownsRow base e size v n xs)(hb:b<base):v.ownBlock=none\/v.ownBlock≠some b:=by
 right;intro hh;have:=(h.lt b hh).1;omega
def zl2(h:Dr w b ao cap s p)(n:Nat)(hn:n<=200):
  E 103 #[F b,I n,I 2147483647] w λe w'=>yw5 (bW s p n) b w e w':=by
 obtain⟨i0,hi,k0,l0,m0⟩:=info_parts Tryz.infoInt;have HD:=Z h;clear h
 go_enter func103,ntmps103
 go_wp2_with fail
 go_loopw [7,9] (λv i wr=>∃(k q:Nat) (xs:Is),zox s p n k q xs/\i=I k/\wr.ownsRow w.heap.size 3 1 v xs.length (xs.map (int .i64))/\Mv w wr b/\M wr b 1 (I (q:Int))) (λ_ i _=>n - (intOf i).toNat)
 case atStart=>exact⟨0,p,[],⟨by omega,HD.hp,rfl,rfl⟩,rfl,ownsRow_nil _ _ _ _,Mv.refl _ _,HD.c1⟩
 case round=>
  obtain⟨k,q,xs,hr,rfl,a0,hm,e0⟩:=hrel;have HR:=Z hr;have n0:=Z (HD.move hm e0 hr.2.1);have s0:=hr.1;have t0:xs.length<=200:=(by have:=hr.2.2.1;omega);have hlb:=HD.lt;have u0:=hm.g.size;have HM:=Z hm;have HO:=Z a0;have o0:=Z e0;clear hr hm a0 e0
  by_cases j0:k<n
  ·obtain⟨x,m,y,d0⟩:∃x m y,num s q=(x,m,y):=⟨_,_,_,rfl⟩
   have b0:=zsx n0.out;rw[d0]at b0;have HN:=Z d0;have h0:=Z b0;clear d0 b0
   by_cases hm:m<0
   ·go_wp2_with (go_at_call 104;refine(h0.out).mono ?_;rintro e w1 ⟨f0,he,_⟩;obtain rfl:=he hm)
    exact⟨rfl,yw6 (HR.dP j0 HN hm) (HM.trans f0)⟩
   go_wp2_with (first|(go_at_call 104;refine(h0.out).mono ?_;rintro e w1 ⟨f0,_,he⟩;obtain⟨rfl,e0⟩:=he hm;have a0:=HO.kept f0.g (own_ne HO hlb))|(at_builtin;refine wpList_append_own _ rfl _ _ 27 rfl w.heap.size 3 i0 (I 0) 1 8 underlying27 hi k0 l0 m0 rfl (by decide) _ _ _ rfl (a0.alloc _) (O _ 0) 1 1 [I x] rfl rfl zvx ?c2 ?c3 ?c4 ?c5 ?_))
   case c2=>intro u hu;simp at hu;subst hu;rfl
   case c3=>unfold maxLen;omega
   case c4=>omega
   case c5=>have:=f0.g.size;simp;omega
   intro v' w2 hown' c0 _;have HS:=Z (HR.step j0 HN (by omega));have p0:=((HM.trans f0).alloc hlb _).dY c0 hlb (λg hg=>(a0.lt g hg).1);have q0:w2.cell? (O b 1)=some (I ((m.toNat:Nat):Int)):=by
    rw[Int.toNat_of_nonneg (by omega)];refine c0.cell ((grownBy_alloc w1 _ none).cell e0 (by simp)) ?_;intro hh;have:=(a0.lt b hh.symm).1;omega
   have r0:w2.ownsRow w.heap.size 3 1 v' (xs++[x]).length ((xs++[x]).map (int .i64)):=(by simpa using hown');clear hown' c0 a0 h0 f0 e0;go_wp2
   go_roundw
   case rel=>exact⟨k+1,m.toNat,xs++[x],HS,by go_num,r0,p0,q0⟩
   case measure=>simp[intOf];omega
  have hkn':k=n:=(by omega);have g0:bW s p n=(xs,(q:Int),0):=by
   have:=HR.2.2.2;rw[this,hkn',Nat.sub_self];rfl
  have HF:=Z g0;clear g0 hkn';go_wp2;go_ret;exact⟨HM,λh=>absurd h (by rw[HF.out];simp only;omega),λ_=>⟨_,rfl,by rw[HF.out];exact HO.out,by rw[HF.out];exact o0.out⟩⟩
def Yr:Array Value:=#[
 .string ⟨#[110,117,109]⟩,I 1,.bool false,.func (.func 95) #[] #[],.string ⟨#[118,97,114]⟩,I 1,.bool false,.func (.func 95) #[] #[],.string ⟨#[111,112]⟩,I 3,.bool false,.func (.func 97) #[] #[],.string ⟨#[115,101,116]⟩,I 2,.bool false,.func (.func 96) #[] #[],.string ⟨#[111,117,116]⟩,I 2,.bool false,.func (.func 96) #[] #[],.string ⟨#[105,102]⟩,I 3,.bool false,.func (.func 98) #[] #[],.string ⟨#[119,104,105,108,101]⟩,I 2,.bool false,.func (.func 99) #[] #[],.string ⟨#[98,108,111,99,107]⟩,I 0,.bool true,.func (.func 100) #[] #[]]
def Tryz.infoRules:(Tryz.prog.info? 171).map (·.size)=some Yr.size:=by kernel_rfl
def ziw:Yr.all (·.oneCell')=true:=by kernel_rfl
def zl3:(32:Nat)=Yr.size:=by kernel_rfl
def zl4(w:World):E 72 #[] w λe w'=>e=.returned (.agg Yr)/\w'=w.alloc (.cells Yr 171):=by
 go_enter func72,ntmps72
 go_wp2_with (first|(refine Ux rfl 171 _ rfl Yr (by kernel_rfl) ?_)|(refine zz0 rfl _ _ 171 rfl _ _ Yr rfl rfl Tryz.infoRules zl3 ziw ?_))
 refine bodyPost_ret ?_ rfl ⟨rfl,rfl⟩;exact znv results72 _ _ (O w.heap.size 0) _ rfl (run_loadVar_new w 171 Yr 8 170 underlying171 Tryz.infoRules)
def ynw(rb ro nb n:Nat)(w:World)(hn:n<=3)(a0:rb<w.heap.size)(h:w.cell? (O rb (ro+1))=some (I n)):E 127 #[Pp rb ro,F nb] w λe w'=>e=.returned (Sq w.heap.size 0 n 3)/\w'=(w.alloc (.cells #[Pp nb 2,Pp nb 3,Pp nb 4] 241)).drew:=by
 have h2:∀o,(w.alloc o).cell? (O rb (ro+1))=some (I n):=λo=>by rw[cell?_alloc_past _ _ _ a0];exact h
 go_enter func127,ntmps127
 go_wp2_with fail
 go_region
 go_wp2;go_ret;exact⟨rfl,rfl⟩
def zvw(n:ar)(lv:Value)(B:Nat)(w:World)(hB:B<=w.heap.size)(hl:Zw B w lv n.ae):
  E 46 #[Vt n lv] w λe w'=>∃v,e=.returned v/\Zw w'.heap.size w' v (prem n)/\D w w':=by
 unfold Vt;obtain⟨ao,cap,rfl,hc,hm,hx⟩:=hl;have HL:Y (Zw B w (A ao n.ae.length cap) n.ae):=⟨ao,cap,rfl,hc,hm,hx⟩;clear hx;obtain⟨k,l,a,b,c,ls⟩:=n;simp only at HL⊢
 by_cases k2:k=2
 ·subst k2
  go_enter func46,ntmps46
  go_wp2;go_ret;exact⟨_,rfl,Zw.gC _ _ (prem ⟨2,l,a,b,c,ls⟩) _ _ _ rfl rfl (by simp[prem,maxLen]),(bA).alloc (by simp) _⟩
 by_cases k3:k=3
 ·subst k3
  go_enter func46,ntmps46
  go_wp2;go_ret;exact⟨_,rfl,Zw.gC _ _ (prem ⟨3,l,a,b,c,ls⟩) _ _ _ rfl rfl (by simp[prem,maxLen]),(bA).alloc (by simp) _⟩
 by_cases k4:k=4
 ·subst k4
  go_enter func46,ntmps46
  go_wp2;go_ret;exact⟨_,rfl,Zw.gC _ _ (prem ⟨4,l,a,b,c,ls⟩) _ _ _ rfl rfl (by simp[prem,maxLen]),(bA).alloc (by simp) _⟩
 by_cases k5:k=5
 ·subst k5
  go_enter func46,ntmps46
  go_wp2;go_ret;exact⟨_,rfl,Zw.gC _ _ (prem ⟨5,l,a,b,c,ls⟩) _ _ _ rfl rfl (by simp[prem,maxLen]),(bA).alloc (by simp) _⟩
 by_cases k6:k=6
 ·subst k6
  go_enter func46,ntmps46
  go_wp2;go_ret;exact⟨_,rfl,Zw.gC _ _ (prem ⟨6,l,a,b,c,ls⟩) _ _ _ rfl rfl (by simp[prem,maxLen]),(bA).alloc (by simp) _⟩
 by_cases k7:k=7
 ·subst k7
  go_enter func46,ntmps46
  go_wp2;go_ret;exact⟨_,rfl,(HL.mono hB).below (bA)|>.mono (by simp),bA⟩
 have b2:=beq_eq_false_iff_ne.2 k2;have b3:=beq_eq_false_iff_ne.2 k3;have b4:=beq_eq_false_iff_ne.2 k4;have b5:=beq_eq_false_iff_ne.2 k5;have b6:=beq_eq_false_iff_ne.2 k6;have b7:=beq_eq_false_iff_ne.2 k7
 have hp:prem ⟨k,l,a,b,c,ls⟩=[]:=by simp[prem,k2,k3,k4,k5,k6,k7]
 have HP:=Z hp;clear hp k2 k3 k4 k5 k6 k7
 go_enter func46,ntmps46
 go_wp2;go_ret;exact⟨_,rfl,by rw[HP.out];exact Zw.nil _ _,bA⟩
def eq_not{x y:ar}(h:¬x=y):bS x y=false:=by
 rw[Bool.eq_false_iff];intro hh;exact h ((dG x y).1 hh)
def Below.cE(h:Below B w w')(m:Nat):Below B w (w'.drewN m):=by
 induction m with
 |zero=>exact h
 |succ m ih=>exact ih.drew
def ynv(k l a b c k' l' a' b' c':Int)(n n':Nat)(ao ao':Option Addr)(cap cap':Nat)(w:World)(h:¬(k=k'/\l=l'/\a=a'/\b=b'/\c=c'/\n=n')):
  E 47 #[.agg #[I k,I l,I a,I b,I c,A ao n cap],.agg #[I k',I l',I a',I b',I c',A ao' n' cap']] w
   (Rw (.bool false) w):=by
 by_cases h1:k=k'
 ·have e1:(k !=k')=false:=by simp[h1]
  by_cases h2:l=l'
  ·have e2:(l !=l')=false:=by simp[h2]
   by_cases h3:a=a'
   ·have e3:(a !=a')=false:=by simp[h3]
    by_cases h4:b=b'
    ·have e4:(b !=b')=false:=by simp[h4]
     by_cases h5:c=c'
     ·have e5:(c !=c')=false:=by simp[h5]
      have e6:((n:Int) !=(n':Int))=true:=(by rw[bne_iff_ne];intro hh;exact h ⟨h1,h2,h3,h4,h5,by omega⟩);clear h h1 h2 h3 h4 h5
      go_enter func47,ntmps47
      go_wp2;go_ret;exact⟨rfl,(bA).alloc (by simp) _⟩
     have e5:(c !=c')=true:=(by rw[bne_iff_ne];exact h5);clear h h1 h2 h3 h4 h5
     go_enter func47,ntmps47
     go_wp2;go_ret;exact⟨rfl,(bA).alloc (by simp) _⟩
    have e4:(b !=b')=true:=(by rw[bne_iff_ne];exact h4);clear h h1 h2 h3 h4
    go_enter func47,ntmps47
    go_wp2;go_ret;exact⟨rfl,(bA).alloc (by simp) _⟩
   have e3:(a !=a')=true:=(by rw[bne_iff_ne];exact h3);clear h h1 h2 h3
   go_enter func47,ntmps47
   go_wp2;go_ret;exact⟨rfl,(bA).alloc (by simp) _⟩
  have e2:(l !=l')=true:=(by rw[bne_iff_ne];exact h2);clear h h1 h2
  go_enter func47,ntmps47
  go_wp2;go_ret;exact⟨rfl,(bA).alloc (by simp) _⟩
 have e1:(k !=k')=true:=by rw[bne_iff_ne];exact h1
 clear h h1
 go_enter func47,ntmps47
 go_wp2;go_ret;exact⟨rfl,(bA).alloc (by simp) _⟩
def ym0(k l a b c:Int)(xs ys:Is)(n:Nat)(hx:xs.length=n)(hy:ys.length=n)(hm:n<=9223372036854775807)(ao ao':Option Addr)(cap cap':Nat)(w:World)
  (c0:∀o o',xs≠[]->∃p q,ao=some (O p q)/\∀i,i<n->((w.alloc o).alloc o').cell? (O p (q+i))=some (I (xs.getD i 0)))
  (d0:∀o o',ys≠[]->∃p q,ao'=some (O p q)/\∀i,i<n->((w.alloc o).alloc o').cell? (O p (q+i))=some (I (ys.getD i 0))):
  E 47 #[.agg #[I k,I l,I a,I b,I c,A ao n cap],.agg #[I k,I l,I a,I b,I c,A ao' n cap']] w
   (Rw (.bool (xs==ys)) w):=by
 have HX:=Z c0;have HY:=Z d0;have e0:=Z hx;have f0:=Z hy;clear c0 d0 hx hy
 go_enter func47,ntmps47
 go_wp2
 go_loopw [5] (λi wr=>∃(j:Nat),j<=n/\i=I j/\(∃m,wr=((w.alloc (.cells #[I k,I l,I a,I b,I c,A ao n cap] 73)).alloc (.cells #[I k,I l,I a,I b,I c,A ao' n cap'] 73)).drewN m)/\∀i,i<j->xs.getD i 0=ys.getD i 0) (λi _=>n - (intOf i).toNat)
 case atStart=>exact⟨0,by omega,rfl,⟨0,rfl⟩,λi hi=>by omega⟩
 case round=>
  obtain⟨j,hj,rfl,⟨m,rfl⟩,a0⟩:=hrel;have HS:=Z a0;clear a0
  by_cases g0:j<n
  ·obtain⟨p,q,rfl,hc⟩:=HX (.cells #[I k,I l,I a,I b,I c,A ao n cap] 73) (.cells #[I k,I l,I a,I b,I c,A ao' n cap'] 73) (by intro h;have:=e0.out;rw[h]at this;simp at this;omega)
   obtain⟨p',q',rfl,hc'⟩:=HY (.cells #[I k,I l,I a,I b,I c,Sq p q n cap] 73) (.cells #[I k,I l,I a,I b,I c,A ao' n cap'] 73) (by intro h;have:=f0.out;rw[h]at this;simp at this;omega);have j0:=hc j g0;have hcj':=hc' j g0;obtain⟨x,hx⟩:=J (xs.getD j 0);obtain⟨y,hy⟩:=J (ys.getD j 0);rw[<-hx]at j0;rw[<-hy]at hcj';have h0:=Z hx;have i0:=Z hy;have l0:(j:Int)<(n:Int):=(by omega);clear hc hc' hx hy HX HY
   go_wp2_with fail
   go_quiet (fail)
   go_wp2
   ·have b0:(x !=y)=true:=by assumption
    go_ret;refine⟨Zr ?_,by repeat (first|exact(bA).alloc (by simp) _|apply Below.cE)⟩;rw[eq_comm,Qh];intro hh;rw[bne_iff_ne]at b0;apply b0;rw[h0.out,i0.out,hh]
   have b0:(x !=y)=false:=(by assumption)
   go_roundw
   case rel=>exact⟨j+1,by omega,by go_num,⟨_,rfl⟩,λi hi=>by
    by_cases k0:i<j
    ·exact HS i k0
    have:i=j:=by omega
    subst this;rw[<-h0.out,<-i0.out];simpa using b0⟩
   case measure=>simp[intOf];omega
  have aT:xs=ys:=by
   have h1:=e0.out;have h2:=f0.out;have h3:=HS.out;apply ext_getElem (by omega)
   intro i hi hi';have:=h3 i (by omega);simpa [Qa,hi,hi'] using this
  have HE:=Z aT;clear aT;go_wp2;go_ret;exact⟨Zr (by rw[HE.out];simp),Below.cE ((bA).alloc (by simp) _) _⟩
def zl5(x y:ar)(lv lv':Value)(B:Nat)(w:World)(hB:B<=w.heap.size)(hx:Zw B w lv x.ae)(hy:Zw B w lv' y.ae):
  E 47 #[Vt x lv,Vt y lv'] w (Rw (.bool (bS x y)) w):=by
 obtain⟨k,l,a,b,c,xs⟩:=x;obtain⟨k',l',a',b',c',ys⟩:=y;unfold Vt;simp only at hx hy⊢
 by_cases h:k=k'/\l=l'/\a=a'/\b=b'/\c=c'/\xs.length=ys.length
 ·obtain⟨rfl,rfl,rfl,rfl,rfl,aL⟩:=h
  have he:bS ⟨k,l,a,b,c,xs⟩ ⟨k,l,a,b,c,ys⟩=(xs==ys):=(by simp[bS]);rw[he];have c0:∀o o',Below B w ((w.alloc o).alloc o'):=λo o'=>((Below.refl _ _).alloc hB _).alloc (by simp;omega) _;obtain⟨ao,cap,rfl,_,hm,_⟩:=id hx;obtain⟨ao',cap',rfl,_,hm',_⟩:=id hy;rw[<-aL];refine ym0 k l a b c xs ys xs.length rfl aL.symm (by unfold maxLen at hm;omega) ao ao' cap cap' w ?_ ?_
  ·intro o o' b0
   obtain⟨ao2,cap2,hv,_,_,hc⟩:=hx.below (c0 o o');obtain⟨p,q,ha,_,a0⟩:=hc b0;simp only[slice.injEq]at hv;exact⟨p,q,hv.1.trans ha,a0⟩
  intro o o' b0;obtain⟨ao2,cap2,hv,_,_,hc⟩:=hy.below (c0 o o');obtain⟨p,q,ha,_,a0⟩:=hc b0;simp only[slice.injEq]at hv;exact⟨p,q,hv.1.trans ha,λi hi=>a0 i (by omega)⟩
 obtain⟨ao,cap,rfl,_⟩:=hx;obtain⟨ao',cap',rfl,_⟩:=hy;rw[eq_not (by intro hh;simp only[ar.mk.injEq]at hh;obtain⟨a1,a2,a3,a4,a5,a6⟩:=hh;exact h ⟨a1,a2,a3,a4,a5,by rw[a6]⟩)];exact ynv k l a b c k' l' a' b' c' _ _ ao ao' cap cap' w h
def yr2(k l a b c Wj:Int)(n:Nat)(ao:Option Addr)(cap:Nat)(w:World)(hn:n<=9223372036854775807)
  (H:Y (∀w,E 48 #[I k] w (Rq (I Wj) w))) (h:Wj= -2\/l<0\/2147483648<=l\/16<n):
  E 45 #[.agg #[I k,I l,I a,I b,I c,A ao n cap]] w (Rw (.bool false) w):=by
 by_cases h0:Wj= -2
 ·have b0:(Wj== -2)=true:=by simp[h0]
  clear h0 h
  go_enter func45,ntmps45
  go_wp2_with (go_at_call 48;refine(H _).mono ?_;rintro e w' ⟨rfl,rfl⟩)
  go_ret;exact⟨rfl,bA⟩
 have b0:(Wj== -2)=false:=by simp[h0]
 by_cases h1:l<0
 ·clear h0 h
  go_enter func45,ntmps45
  go_wp2_with (go_at_call 48;refine(H _).mono ?_;rintro e w' ⟨rfl,rfl⟩)
  go_ret;exact⟨rfl,bA⟩
 by_cases h2:2147483648<=l
 ·clear h0 h
  go_enter func45,ntmps45
  go_wp2_with (go_at_call 48;refine(H _).mono ?_;rintro e w' ⟨rfl,rfl⟩)
  go_ret;exact⟨rfl,bA⟩
 have h3:(16:Int)<(n:Int):=by omega
 clear h0 h
 go_enter func45,ntmps45
 go_wp2_with (go_at_call 48;refine(H _).mono ?_;rintro e w' ⟨rfl,rfl⟩)
 go_ret;exact⟨rfl,bA⟩
def ziv{i:Int}(hF:Wj<=i)(h:(x<0\/2147483648<=x)\/(x !=0)=true):dM Wj i x=false:=by
 unfold dM cf;rcases h with(h|h)|h
 ·rw[decide_eq_false (by omega:¬0<=x)];simp
 ·rw[decide_eq_false (by omega:¬x<2147483648)];simp
 rw[decide_eq_false (by omega:¬i<Wj)];rw[bne_iff_ne]at h;simp[h]
def zh0{i:Int}(h:2147483648<=x):dM Wj i x=false:=by
 unfold dM cf;rw[decide_eq_false (by omega:¬x<2147483648)];simp
def zh1{i:Int}(h:x<0):dM Wj i x=false:=by
 unfold dM cf;rw[decide_eq_false (by omega:¬0<=x)];simp
def zf5{i:Int}(h0:0<=x)(h1:x<2147483648)(h:i<Wj\/(x !=0)=false):dM Wj i x=true:=by
 unfold dM cf;rw[decide_eq_true h0,decide_eq_true h1];rcases h with h|h
 ·simp[h]
 have:x=0:=by simpa using h
 simp[this]
def zdw{i:Int}(h0:0<=x)(h1:x<2147483648)(h:¬Wj<=i):dM Wj i x=true:=zf5 h0 h1 (Or.inl (by omega))
def zdv(h:x<0\/2147483648<=x):cf x=false:=by
 unfold cf;rcases h with h|h
 ·rw[decide_eq_false (by omega:¬0<=x)];simp
 rw[decide_eq_false (by omega:¬x<2147483648)];simp
def yw7(h:0<=x/\x<2147483648):cf x=true:=by
 unfold cf;rw[decide_eq_true h.1,decide_eq_true h.2];rfl
def mo(h:j<xs.length):xs.getD j 0∈xs:=by
 rw[Qa,Qb h];exact getElem_mem h
def zc0{p:Int->Bool}(h:j<xs.length)(hp:p (xs.getD j 0)=false):xs.all p=false:=by
 rw[Bool.eq_false_iff];intro hh;rw[all_eq_true.1 hh _ (mo h)]at hp;exact absurd hp (by simp)
def yw8{p:Int->Bool}(h:∀t,t<xs.length->p (xs.getD t 0)=true):xs.all p=true:=by
 rw[all_eq_true];intro x hx;obtain⟨i,hi,rfl⟩:=getElem_of_mem hx;have:=h i hi;rwa [Qa,Qb hi]at this
def abc(a b c:Int)(j:Nat):Int:=if j=0 then a else if j=1 then b else c
def ym1(k l a b c Wj:Int)(xs:Is)(n:Nat)(ao:Option Addr)(cap:Nat)(w:World)(hx:xs.length=n)(hF: -2<Wj)(j0:Wj<=3)(k0:¬l<0)(l0:¬2147483648<=l)(hn:n<=16)
  (H:Y (∀w,E 48 #[I k] w (Rq (I Wj) w)))
  (d0:∀o o',xs≠[]->∃p q,ao=some (O p q)/\∀i,i<n->((w.alloc o).alloc o').cell? (O p (q+i))=some (I (xs.getD i 0))):
  E 45 #[.agg #[I k,I l,I a,I b,I c,A ao n cap]] w
   (Rw (.bool (dM Wj 0 a && (dM Wj 1 b && (dM Wj 2 c && (xs.all cf && (decide (Wj= -1)||decide (xs=[]))))))) w):=by
 have HX:=Z d0;have a0:=Z hx;clear d0 hx;have b0:(Wj== -2)=false:=beq_eq_false_iff_ne.2 (by omega)
 have g0:¬(16:Int)<(n:Int):=by omega
 go_enter func45,ntmps45
 go_wp2_with (go_at_call 48;refine(H _).mono ?_;rintro e w' ⟨rfl,rfl⟩)
 go_loop [5] (λi=>∃j:Nat,j<=3/\i=I j/\∀t:Nat,t<j->dM Wj t (abc a b c t)=true) (λi=>3 - (intOf i).toNat)
 case atStart=>exact⟨0,by omega,rfl,λt ht=>by omega⟩
 case round=>
  obtain⟨j,hj,rfl,aT⟩:=hrel;have HA:=Z aT;clear aT;rcases(show j=0\/j=1\/j=2\/j=3 from by omega) with rfl|rfl|rfl|rfl
  ·go_wp2
   ·have hb:dM Wj 0 a=false:=ziv (by assumption) (by assumption)
    go_ret;exact⟨Zr (by rw[hb];simp),(bA).alloc (by simp) _⟩
   ·have hb:dM Wj 0 a=true:=zf5 (by assumption) (by assumption) (Or.inr (And.right (a:=0<=a/\a<2147483648) (by assumption)))
    go_round
    case rel=>exact⟨1,by omega,rfl,λt ht=>by
     by_cases h:t<0
     ·exact HA t h
     have:t=0:=by omega
     subst this;simpa [abc] using hb⟩
    case measure=>simp[intOf]
   ·have hb:dM Wj 0 a=true:=zdw (by assumption) (by assumption) (by assumption)
    go_round
    case rel=>exact⟨1,by omega,rfl,λt ht=>by
     by_cases h:t<0
     ·exact HA t h
     have:t=0:=by omega
     subst this;simpa [abc] using hb⟩
    case measure=>simp[intOf]
   ·have hb:dM Wj 0 a=false:=zh0 (by assumption)
    go_ret;exact⟨Zr (by rw[hb];simp),(bA).alloc (by simp) _⟩
   have hb:dM Wj 0 a=false:=zh1 (by assumption);go_ret;exact⟨Zr (by rw[hb];simp),(bA).alloc (by simp) _⟩
  ·go_wp2
   ·have hb:dM Wj 1 b=false:=ziv (by assumption) (by assumption)
    go_ret;exact⟨Zr (by rw[hb];simp),(bA).alloc (by simp) _⟩
   ·have hb:dM Wj 1 b=true:=zf5 (by assumption) (by assumption) (Or.inr (And.right (a:=0<=b/\b<2147483648) (by assumption)))
    go_round
    case rel=>exact⟨2,by omega,rfl,λt ht=>by
     by_cases h:t<1
     ·exact HA t h
     have:t=1:=by omega
     subst this;simpa [abc] using hb⟩
    case measure=>simp[intOf]
   ·have hb:dM Wj 1 b=true:=zdw (by assumption) (by assumption) (by assumption)
    go_round
    case rel=>exact⟨2,by omega,rfl,λt ht=>by
     by_cases h:t<1
     ·exact HA t h
     have:t=1:=by omega
     subst this;simpa [abc] using hb⟩
    case measure=>simp[intOf]
   ·have hb:dM Wj 1 b=false:=zh0 (by assumption)
    go_ret;exact⟨Zr (by rw[hb];simp),(bA).alloc (by simp) _⟩
   have hb:dM Wj 1 b=false:=zh1 (by assumption);go_ret;exact⟨Zr (by rw[hb];simp),(bA).alloc (by simp) _⟩
  ·go_wp2
   ·have hb:dM Wj 2 c=false:=ziv (by assumption) (by assumption)
    go_ret;exact⟨Zr (by rw[hb];simp),(bA).alloc (by simp) _⟩
   ·have hb:dM Wj 2 c=true:=zf5 (by assumption) (by assumption) (Or.inr (And.right (a:=0<=c/\c<2147483648) (by assumption)))
    go_round
    case rel=>exact⟨3,by omega,rfl,λt ht=>by
     by_cases h:t<2
     ·exact HA t h
     have:t=2:=by omega
     subst this;simpa [abc] using hb⟩
    case measure=>simp[intOf]
   ·have hb:dM Wj 2 c=true:=zdw (by assumption) (by assumption) (by assumption)
    go_round
    case rel=>exact⟨3,by omega,rfl,λt ht=>by
     by_cases h:t<2
     ·exact HA t h
     have:t=2:=by omega
     subst this;simpa [abc] using hb⟩
    case measure=>simp[intOf]
   ·have hb:dM Wj 2 c=false:=zh0 (by assumption)
    go_ret;exact⟨Zr (by rw[hb];simp),(bA).alloc (by simp) _⟩
   have hb:dM Wj 2 c=false:=zh1 (by assumption);go_ret;exact⟨Zr (by rw[hb];simp),(bA).alloc (by simp) _⟩
  have q0:dM Wj 0 a=true:=HA 0 (by omega);have q1:dM Wj 1 b=true:=HA 1 (by omega);have q2:dM Wj 2 c=true:=HA 2 (by omega);have HQ:Y ((dM Wj 0 a && (dM Wj 1 b && (dM Wj 2 c && (xs.all cf && (decide (Wj= -1)||decide (xs=[]))))))=(xs.all cf && (decide (Wj= -1)||decide (xs=[])))):=(by rw[q0,q1,q2];simp[Hid]);clear q0 q1 q2;go_wp2
  go_loop [6] (λi=>∃j:Nat,j<=n/\i=I j/\∀t:Nat,t<j->cf (xs.getD t 0)=true) (λi=>n - (intOf i).toNat)
  case atStart=>exact⟨0,by omega,rfl,λt ht=>by omega⟩
  case round=>
   obtain⟨j,hj,rfl,aT⟩:=hrel;have HB:=Z aT;clear aT
   by_cases h0:j<n
   ·obtain⟨p,q,rfl,hc⟩:=HX (.cells #[I k,I l,I a,I b,I c,A ao n cap] 73) (.cells #[I a,I b,I c] 3) (by intro h;have:=a0.out;rw[h]at this;simp at this;omega)
    have i0:=hc j h0;obtain⟨x,hx⟩:=J (xs.getD j 0);rw[<-hx]at i0;have c0:=Z hx;have m0:(j:Int)<(n:Int):=(by omega);clear hc hx HX;go_wp2
    ·have hb:xs.all cf=false:=zc0 (j:=j) (by have:=a0.out;omega) (by rw[<-c0.out];exact zdv (by assumption))
     go_ret;exact⟨Zr (by rw[HQ.out,hb];simp),(bA).alloc (by simp) _⟩
    ·have hb:cf x=true:=yw7 (by assumption)
     go_round
     case rel=>exact⟨j+1,by omega,by go_num,λt ht=>by
      by_cases h:t<j
      ·exact HB t h
      have:t=j:=by omega
      subst this;rw[<-c0.out];exact hb⟩
     case measure=>simp[intOf];omega
    have hb:xs.all cf=false:=zc0 (j:=j) (by have:=a0.out;omega) (by rw[<-c0.out];exact zdv (Or.inl (by assumption)));go_ret;exact⟨Zr (by rw[HQ.out,hb];simp),(bA).alloc (by simp) _⟩
   have hb:xs.all cf=true:=yw8 (λt ht=>HB t (by have:=a0.out;omega));have e0:=Z hb;clear hb;go_wp2
   ·have f0:Wj= -1:=by assumption
    go_ret;have q0:dM Wj 0 a=true:=HA 0 (by omega);have q1:dM Wj 1 b=true:=HA 1 (by omega);have q2:dM Wj 2 c=true:=HA 2 (by omega);rw[f0]at q0 q1 q2;exact⟨Zr (by rw[q0,q1,q2,e0.out];rfl),(bA).alloc (by simp) _⟩
   have f0:¬Wj= -1:=(by assumption);go_ret;refine⟨Zr ?_,(bA).alloc (by simp) _⟩;have q0:dM Wj 0 a=true:=HA 0 (by omega);have q1:dM Wj 1 b=true:=HA 1 (by omega);have q2:dM Wj 2 c=true:=HA 2 (by omega);rw[q0,q1,q2,e0.out,Bool.true_and,Bool.true_and,Bool.true_and,Bool.true_and,Bool.eq_iff_iff];have:=a0.out;simp only[Bool.or_eq_true,beq_iff_eq,Qn];rw[<-length_eq_zero_iff];omega
def yiv(x:ar)(lv:Value)(B:Nat)(w:World)(hB:B<=w.heap.size)(hx:Zw B w lv x.ae):
  E 45 #[Vt x lv] w (Rw (.bool (bT x)) w):=by
 obtain⟨k,l,a,b,c,xs⟩:=x;unfold Vt;simp only at hx⊢;obtain⟨ao,cap,rfl,_,hm,_⟩:=id hx;unfold maxLen at hm;have H:Y (∀w,E 48 #[I k] w (Rq (I (aP k)) w)):=λw=>zs9 k w;have hf:=eY k
 by_cases h:aP k= -2\/l<0\/2147483648<=l\/16<xs.length
 ·have he:bT ⟨k,l,a,b,c,xs⟩=false:=by
   unfold bT cf;rcases h with h|h|h|h
   ·simp[h]
   ·simp only[decide_eq_false (by omega:¬0<=l)];simp
   ·simp only[decide_eq_false (by omega:¬l<2147483648)];simp
   simp only[decide_eq_false (by omega:¬xs.length<=16)];simp
  rw[he];exact yr2 k l a b c _ _ ao cap w (by omega) H h
 have h1:aP k≠ -2:=by omega
 have h2:0<=l:=by omega
 have h3:l<2147483648:=by omega
 have h4:xs.length<=16:=by omega
 have he:bT ⟨k,l,a,b,c,xs⟩=(dM (aP k) 0 a && (dM (aP k) 1 b && (dM (aP k) 2 c && (xs.all cf && (decide (aP k= -1)||decide (xs=[])))))):=by
  unfold bT;simp only[decide_eq_true h1,yw7 ⟨h2,h3⟩,decide_eq_true h4,Bool.true_and]
 rw[he];have b0:∀o o',Below B w ((w.alloc o).alloc o'):=λo o'=>((Below.refl _ _).alloc hB _).alloc (by simp;omega) _;refine ym1 k l a b c _ xs xs.length ao cap w rfl (by omega) hf.2 (by omega) (by omega) h4 H ?_;intro o o' c0;obtain⟨ao2,cap2,hv,_,_,hc⟩:=hx.below (b0 o o');obtain⟨p,q,ha,_,a0⟩:=hc c0;simp only[slice.injEq]at hv;exact⟨p,q,hv.1.trans ha,a0⟩
structure Ug(w:World)(nb no:Nat)(nd:ar)(lv:Value):Prop where
 c0:w.cell? (O nb no)=some (I nd.kind)
 c1:w.cell? (O nb (no+1))=some (I nd.ak)
 c2:w.cell? (O nb (no+2))=some (I nd.a)
 c3:w.cell? (O nb (no+3))=some (I nd.b)
 c4:w.cell? (O nb (no+4))=some (I nd.c)
 c5:w.cell? (O nb (no+5))=some lv
 hl:Zw w.heap.size w lv nd.ae
def Ug.below{w w':World}{nb no:Nat}{nd:ar}{lv:Value}(h:Ug w nb no nd lv)(hb:D w w'):Ug w' nb no nd lv:=by
 have hn:nb<w.heap.size:=Qe w _ h.c0;have q:∀o,w'.cell? (O nb o)=w.cell? (O nb o):=λo=>hb.cell (p:=(O nb o)) hn;exact⟨(q _).trans h.c0,(q _).trans h.c1,(q _).trans h.c2,(q _).trans h.c3,(q _).trans h.c4,(q _).trans h.c5,(h.hl.below hb).mono hb.size⟩
def byF(k:Int):FuncId:=
 if k=2 then 97 else if k=3 then 96 else if k=4 then 96 else if k=5 then 98 else if k=6 then 99 else if k=7 then 100 else 95
def Vg(ps:Is)(w:World)(e:Ending)(w':World):Prop:=∃pv,e=.returned pv/\Zw w'.heap.size w' pv ps/\D w w'
def by1(v:Value)(w:World):E 95 #[v] w (Vg [] w):=by
 go_enter func95,ntmps95
 go_wp2;go_ret;exact⟨_,rfl,Zw.nil _ _,Below.refl _ _⟩
def Vg.fresh(w:World)(xs:Is)(e:TypeId)(hl:xs.length<=maxLen):Vg xs w (.returned (Sq w.heap.size 0 xs.length xs.length)) (w.alloc (.cells (xs.map (int .i64)).toArray e)):=
 ⟨_,rfl,Zw.fresh xs e hl _ (by simp),bA⟩
def Vg.jR(w:World)(xs:Is)(e:TypeId)(hl:xs.length<=maxLen):Vg xs w (.returned (Sq w.heap.size 0 xs.length xs.length)) (w.alloc (.cells (xs.map (int .i64)).toArray e)).drew:=by
 obtain⟨pv,h1,h2,h3⟩:=Vg.fresh w xs e hl;exact⟨pv,h1,h2.below (dA),h3.drew⟩
def by2{nd:ar}(h:Ug w nb no nd lv):E 96 #[Pp nb no] w (Vg [nd.b] w):=by
 have c3:=h.c3
 go_enter func96,ntmps96
 go_wp2;go_ret;exact Vg.fresh _ [nd.b] _ (by simp[maxLen])
def by3{nd:ar}(h:Ug w nb no nd lv):E 97 #[Pp nb no] w (Vg [nd.b,nd.c] w):=by
 have c3:=h.c3;have c4:=h.c4
 go_enter func97,ntmps97
 go_wp2_with fail
 go_still_tail 8,(by kernel_rfl)
 go_wp2;go_ret;exact Vg.jR _ [nd.b,nd.c] _ (by simp[maxLen])
def by4{nd:ar}(h:Ug w nb no nd lv):E 98 #[Pp nb no] w (Vg [nd.a,nd.b,nd.c] w):=by
 have c2:=h.c2;have c3:=h.c3;have c4:=h.c4
 go_enter func98,ntmps98
 go_wp2_with fail
 go_still_tail 12,(by kernel_rfl)
 go_wp2;go_ret;exact Vg.jR _ [nd.a,nd.b,nd.c] _ (by simp[maxLen])
def by5{nd:ar}(h:Ug w nb no nd lv):E 99 #[Pp nb no] w (Vg [nd.a,nd.b] w):=by
 have c2:=h.c2;have c3:=h.c3
 go_enter func99,ntmps99
 go_wp2_with fail
 go_still_tail 8,(by kernel_rfl)
 go_wp2;go_ret;exact Vg.jR _ [nd.a,nd.b] _ (by simp[maxLen])
def by6{nd:ar}(h:Ug w nb no nd lv):E 100 #[Pp nb no] w (Vg nd.ae w):=by
 have c5:=h.c5;have HL:=Z h.hl;obtain⟨ao,cap,rfl,_⟩:=h.hl;clear h
 go_enter func100,ntmps100
 go_wp2;go_ret;exact⟨_,rfl,HL,Below.refl _ _⟩
def zf6{nd:ar}(h:Ug w nb no nd lv):E (byF nd.kind) #[Pp nb no] w (Vg (prem nd) w):=by
 unfold byF prem
 by_cases h2:nd.kind=2
 ·rw[G h2,G h2];exact by3 h
 rw[U h2,U h2]
 by_cases h3:nd.kind=3
 ·rw[G h3,G (Or.inl h3)];exact by2 h
 rw[U h3]
 by_cases h4:nd.kind=4
 ·rw[G h4,G (Or.inr h4)];exact by2 h
 rw[U h4,U (show ¬(nd.kind=3\/nd.kind=4) from λh=>h.elim h3 h4)]
 by_cases h5:nd.kind=5
 ·rw[G h5,G h5];exact by4 h
 rw[U h5,U h5]
 by_cases h6:nd.kind=6
 ·rw[G h6,G h6];exact by5 h
 rw[U h6,U h6]
 by_cases h7:nd.kind=7
 ·rw[G h7,G h7];exact by6 h
 rw[U h7,U h7];exact by1 _ _
def zow(k:Int)(v:Value)(w:World):(callFunc (byF k) #[v]).run prog w=.ok (.enter (byF k) #[v]) w:=by
 unfold byF
 repeat' split
 all_goals kernel_rfl
def zr8(rb ro f k:Nat)(np:Value)(ps:Is)(w:World)(hf:w.cell? (O rb (ro+3))=some (.func (.func f) #[] #[]))(n0:(callFunc f #[np]).run prog w=.ok (.enter f #[np]) w)(hc:E f #[np] w (Vg ps w)):
  E 122 #[Pp rb ro,np,I k] w (Rw (.bool (!ps.any (λx=>decide ((k:Int)<=x)))) w):=by
 have HC:=Z hc;clear hc
 go_enter func122,ntmps122
 go_wp2_with fail
 refine(HC.out).mono ?_;rintro e w1 ⟨pv,rfl,hp,d0⟩;obtain⟨pao,pcap,rfl,_,j0,e0⟩:=hp;unfold maxLen at j0;have k0:=Z e0;have f0:=Z d0;clear e0 d0
 go_wp2_with fail
 go_loop [16] (λi=>∃j:Nat,j<=ps.length/\i=I j/\∀t,t<j->¬(k:Int)<=ps.getD t 0) (λi=>ps.length - (intOf i).toNat)
 case atStart=>exact⟨0,by omega,rfl,λt ht=>by omega⟩
 case round=>
  obtain⟨j,hj,rfl,g0⟩:=hrel;have h0:=Z g0;clear g0
  by_cases b0:j<ps.length
  ·obtain⟨pb,po,rfl,o0,a0⟩:=k0 (by intro h;rw[h]at b0;simp at b0)
   have l0:=a0 j b0;obtain⟨x,hx⟩:=J (ps.getD j 0);rw[<-hx]at l0;have i0:=Z hx;have p0:(j:Int)<(ps.length:Int):=(by omega);clear a0 hx
   by_cases m0:(k:Int)<=x
   ·have c0:Y ((!ps.any (λx=>decide ((k:Int)<=x)))=false):=by
     show (!ps.any (λx=>decide ((k:Int)<=x)))=false;rw[Bool.not_eq_false',any_eq_true];exact⟨x,by rw[i0.out];exact mo b0,by simpa using m0⟩
    go_wp2;go_ret;exact⟨Zr c0.symm,f0⟩
   go_wp2
   go_round
   case rel=>exact⟨j+1,by omega,by go_num,λt ht=>by
    by_cases h:t<j
    ·exact h0 t h
    have:t=j:=by omega
    subst this;rw[<-i0.out];omega⟩
   case measure=>simp[intOf];omega
  have c0:Y ((!ps.any (λx=>decide ((k:Int)<=x)))=true):=by
   show (!ps.any (λx=>decide ((k:Int)<=x)))=true;rw[Bool.not_eq_true',any_eq_false];intro x hx;obtain⟨i,hi,rfl⟩:=getElem_of_mem hx;have:=h0 i (by omega);rw[Qa,Qb hi]at this;simpa using this
  go_wp2;go_ret;exact⟨Zr c0.symm,f0⟩
structure Nd(w:World)(N:Nat)(kd lev a b c:Int)(l:Value):Prop where
 c0:w.cell? (O N 0)=some (I kd)
 c1:w.cell? (O N 1)=some (I lev)
 c2:w.cell? (O N 2)=some (I a)
 c3:w.cell? (O N 3)=some (I b)
 c4:w.cell? (O N 4)=some (I c)
 c5:w.cell? (O N 5)=some l
 f:∀j,w.frozen? (O N j)=false
section
variable{kd lev a b:Int}{l:Value}
def Nd.lt(h:Nd w N kd lev a b c l):N<w.heap.size:=Qe w _ h.c0
def Nd.new(w:World)(kd lev a b c:Int)(l:Value)(e:TypeId):Nd (w.alloc (.cells #[I kd,I lev,I a,I b,I c,l] e)) w.heap.size kd lev a b c l:=by
 refine⟨?_,?_,?_,?_,?_,?_,λj=>by simp⟩<;>(rw[cell?_alloc_new];rfl)
def Nd.grown(h:Nd w N kd lev a b c l){row:Option Nat}(g:w.grownBy w' row)(a0:some N≠row):Nd w' N kd lev a b c l:=
 ⟨g.cell h.c0 a0,g.cell h.c1 a0,g.cell h.c2 a0,g.cell h.c3 a0,g.cell h.c4 a0,g.cell h.c5 a0,λj=>(Qd (w:=w) (a:=(O N j)) (g.block N h.lt a0)).trans (h.f j)⟩
def Nd.drewN(h:Nd w N kd lev a b c l)(n:Nat):Nd (w.drewN n) N kd lev a b c l:=⟨h.c0,h.c1,h.c2,h.c3,h.c4,h.c5,h.f⟩
def Nd.drew(h:Nd w N kd lev a b c l):Nd w.drew N kd lev a b c l:=⟨h.c0,h.c1,h.c2,h.c3,h.c4,h.c5,h.f⟩
def Yl(a0:i≠j):(w.setCell (O N i) v).cell? (O N j)=w.cell? (O N j):=by
 apply Qg;intro hh;injection hh with _ h2;exact a0 h2
def Ub{u:Value}(h:w.cell? (O N i)=some u):(w.setCell (O N i) v).cell? (O N i)=some v:=cell?_setCell_same' _ _ _ (by simp[h])
def Nd.nO(h:Nd w N kd lev a b c l)(x:Int):Nd (w.setCell (O N 1) (I x)) N kd x a b c l:=
 ⟨(Yl (by decide)).trans h.c0,Ub h.c1,(Yl (by decide)).trans h.c2,(Yl (by decide)).trans h.c3,(Yl (by decide)).trans h.c4,(Yl (by decide)).trans h.c5,λj=>(frozen?_setCell _ _ _ _).trans (h.f j)⟩
def Nd.nN(h:Nd w N kd lev a b c l)(x:Int):Nd (w.setCell (O N 2) (I x)) N kd lev x b c l:=
 ⟨(Yl (by decide)).trans h.c0,(Yl (by decide)).trans h.c1,Ub h.c2,(Yl (by decide)).trans h.c3,(Yl (by decide)).trans h.c4,(Yl (by decide)).trans h.c5,λj=>(frozen?_setCell _ _ _ _).trans (h.f j)⟩
def Nd.nM(h:Nd w N kd lev a b c l)(x:Int):Nd (w.setCell (O N 3) (I x)) N kd lev a x c l:=
 ⟨(Yl (by decide)).trans h.c0,(Yl (by decide)).trans h.c1,(Yl (by decide)).trans h.c2,Ub h.c3,(Yl (by decide)).trans h.c4,(Yl (by decide)).trans h.c5,λj=>(frozen?_setCell _ _ _ _).trans (h.f j)⟩
def Nd.kg(h:Nd w N kd lev a b c l)(x:Int):Nd (w.setCell (O N 4) (I x)) N kd lev a b x l:=
 ⟨(Yl (by decide)).trans h.c0,(Yl (by decide)).trans h.c1,(Yl (by decide)).trans h.c2,(Yl (by decide)).trans h.c3,Ub h.c4,(Yl (by decide)).trans h.c5,λj=>(frozen?_setCell _ _ _ _).trans (h.f j)⟩
def Nd.mJ(h:Nd w N kd lev a b c l)(x:Value):Nd (w.setCell (O N 5) x) N kd lev a b c x:=
 ⟨(Yl (by decide)).trans h.c0,(Yl (by decide)).trans h.c1,(Yl (by decide)).trans h.c2,(Yl (by decide)).trans h.c3,(Yl (by decide)).trans h.c4,Ub h.c5,λj=>(frozen?_setCell _ _ _ _).trans (h.f j)⟩
def Nd.gq(h:Nd w N kd lev a b c l){ls:Is}(hl:Zw w.heap.size w l ls):Ug w N 0 ⟨kd,lev,a,b,c,ls⟩ l:=⟨h.c0,h.c1,h.c2,h.c3,h.c4,h.c5,hl⟩
end
def Yb(w:World)(N i:Nat)(v:Value):w.grownBy (w.setCell (O N i) v) (some N):=
 ⟨rfl,rfl,rfl,by simp[setCell],λk hk a0=>Below.heap_setCell _ _ _ _ (by intro h;exact a0 (by rw[h]))⟩
def Mv.eI(h:Mv w w1 b)(hb:b<w.heap.size)(hN:w.heap.size<=N)(i:Nat)(v:Value):Mv w (w1.setCell (O N i) v) b:=
 h.dY (Yb w1 N i v) hb (λk e=>by injection e with e;omega)
def Vf(k:Nat):Nat:=if k=0 then 1 else if k=1 then 1 else if k=2 then 3 else if k=3 then 2 else if k=4 then 2 else if k=5 then 3 else if k=6 then 2 else 0
def ypy(k:Nat):Vf k<=3:=by unfold Vf;(repeat' split)<;>omega
def yr3(k:Nat)(h:k<8)(h7:k≠7):aP (k:Int)=(Vf k:Int):=by
 have:k=0\/k=1\/k=2\/k=3\/k=4\/k=5\/k=6:=by omega
 rcases this with rfl|rfl|rfl|rfl|rfl|rfl|rfl<;>rfl
def zty(s:L)(p:Nat)(h:p<=s.length)(hq:¬(num s p).2.1<0):∃v q:Nat,num s p=((v:Int),(q:Int),0)/\p<q/\q<=s.length/\v<2147483648:=by
 have h1:=cA s p h;generalize num s p=r at*;obtain⟨a,b,c⟩:=r;simp only at h1 hq;rcases h1 with h1|h1
 ·omega
 obtain⟨h2,h3,h4,h5,rfl⟩:=h1;exact⟨a.toNat,b.toNat,by rw[Int.toNat_of_nonneg h4,Int.toNat_of_nonneg (by omega)],by omega,by omega,by omega⟩
def zov(s:L)(p:Nat)(lo hi:Int)(h:p<=s.length)(hq:¬(dH s p lo hi).2.1<0):∃v q:Nat,dH s p lo hi=((v:Int),(q:Int),0)/\num s p=((v:Int),(q:Int),0)/\p<q/\q<=s.length/\lo<=(v:Int)/\(v:Int)<=hi:=by
 unfold dH at*
 by_cases h1:(num s p).2.1<0
 ·rw[G h1]at hq;exact absurd (show (-1:Int)<0 by decide) hq
 rw[U h1]at hq⊢
 by_cases h2:(num s p).1<lo\/hi<(num s p).1
 ·rw[G h2]at hq;exact absurd (show (-1:Int)<0 by decide) hq
 rw[U h2];obtain⟨v,q,h3,h4,h5,h6⟩:=zty s p h h1;rw[h3]at h2⊢;simp only at h2⊢;exact⟨v,q,rfl,rfl,h4,h5,by omega,by omega⟩
section
variable{x v:Nat}
def yy6(a0:p<s.length)(hx:x=(s.getD p 0).toNat)(b0:x<8)(hn:(num s (p+1)).2.1<0):one s p k=(fE,-1,(num s (p+1)).2.2):=by
 unfold one;rw[U (by omega)];simp only[<-hx];rw[U (by unfold aP;repeat' split<;>omega),G hn]
def zbv(b0:p<s.length)(hx:x=(s.getD p 0).toNat)(a0:x<8)(h7:x≠7)(hn:num s (p+1)=((v:Int),(q:Int),0)):
  one s p k=if(bW s q (Vf x)).2.1<0 then(fE,-1,(bW s q (Vf x)).2.2) else bt p k ⟨x,v,(bW s q (Vf x)).1.getD 0 0,(bW s q (Vf x)).1.getD 1 0,(bW s q (Vf x)).1.getD 2 0,[]⟩ (bW s q (Vf x)).2.1:=by
 unfold one;rw[U (by omega)];simp only[<-hx,hn];rw[yr3 x a0 h7,U (by omega),U (by omega),U (by omega)];simp only[Qm]
def yw9(a0:p<s.length)(hx:7=(s.getD p 0).toNat)(hn:num s (p+1)=((v:Int),(q:Int),0))(hm:(dH s q 0 16).2.1<0)(hq:q<=s.length):
  one s p k=(fE,-1,(dH s q 0 16).2.2):=by
 have b0:=cA s q hq;unfold one;rw[U (by omega)];simp only[<-hx,hn];rw[U (by decide),U (by omega),G (by decide)];simp only[Qm];unfold dH at*
 by_cases h1:(num s q).2.1<0
 ·rw[G h1,G h1]
 rw[U h1]at hm;rw[U h1,U h1]
 by_cases h2:(num s q).1<0\/16<(num s q).1
 ·rw[G h2,G (by omega)]
 rw[U h2]at hm;exact absurd hm h1
def yh0(b0:p<s.length)(hx:7=(s.getD p 0).toNat)(hn:num s (p+1)=((v:Int),(q:Int),0)){m q2:Nat}(hm:num s q=((m:Int),(q2:Int),0))(a0:m<=16):
  one s p k=if(bW s q2 m).2.1<0 then(fE,-1,(bW s q2 m).2.2) else bt p k ⟨7,v,0,0,0,(bW s q2 m).1⟩ (bW s q2 m).2.1:=by
 unfold one;rw[U (by omega)];simp only[<-hx,hn];rw[U (by decide),U (by omega),G (by decide)];simp only[Qm,hm];rw[U (by omega),U (by omega)];rfl
end
def Xp(w:World)(b ro:Nat):Prop:=∀k:Nat,k<8->w.cell? (O b (ro+k*4+1))=some (I (Vf k:Nat))/\w.cell? (O b (ro+k*4+2))=some (.bool (k==7))/\w.cell? (O b (ro+k*4+3))=some (.func (.func (byF k)) #[] #[])
def Xp.move{ro:Nat}(h:Xp w b ro)(m:Mv w w' b)(a0:1<=ro):Xp w' b ro:=λk hk=>by
 obtain⟨h1,h2,h3⟩:=h k hk;exact⟨(m.o _ (by omega)).trans h1,(m.o _ (by omega)).trans h2,(m.o _ (by omega)).trans h3⟩
structure zz3(s:L)(q f:Nat)(w wr:World)(b N PB x v j q':Nat)(xs:Is):Prop where
 hn:zox s q f j q' xs
 hm:Mv w wr b
 hc:wr.cell? (O b 1)=some (I (q':Int))
 nd:Nd wr N x v (xs.getD 0 0) (xs.getD 1 0) (xs.getD 2 0) K
 rs:Nd wr w.heap.size 0 0 0 0 0 K
 p0:wr.cell? (O PB 0)=some (Pp N 2)
 p1:wr.cell? (O PB 1)=some (Pp N 3)
 p2:wr.cell? (O PB 2)=some (Pp N 4)
 hN:w.heap.size<N
 hP:N<PB
def zz3.ptr{PB x v:Nat}(h:zz3 s q f w wr b N PB x v j q' xs)(hj:j<3):wr.cell? (O PB j)=some (Pp N (2+j)):=by
 have:j=0\/j=1\/j=2:=by omega
 rcases this with rfl|rfl|rfl
 ·exact h.p0
 ·exact h.p1
 exact h.p2
def zz3.cell{s:L}{q f:Nat}{w wr:World}{b N PB x v j q':Nat}{xs:Is}(h:zz3 s q f w wr b N PB x v j q' xs)(hj:j<3):wr.cell? (O N (2+j))=some (I (xs.getD j 0)):=by
 have:j=0\/j=1\/j=2:=by omega
 rcases this with rfl|rfl|rfl
 ·exact h.nd.c2
 ·exact h.nd.c3
 exact h.nd.c4
def zz3.next{PB x v:Nat}(h:zz3 s q f w wr b N PB x v j q' xs)(hb:b<w.heap.size)(d0:j<f)(hj:j<3){y m:Nat}(hn:num s q'=((y:Int),(m:Int),0))(m1:Mv wr w1 b)(c1:w1.cell? (O b 1)=some (I (m:Int))):
  zz3 s q f w (w1.setCell (O N (2+j)) (I y)) b N PB x v (j+1) m (xs++[(y:Int)]):=by
 have hN:=h.hN;have hP:=h.hP;have g1:=m1.g;have g2:=Yb w1 N (2+j) (I y)
 have hnb:some N≠some b:=by simp;omega
 have a0:some PB≠some b:=by simp;omega
 have e0:some w.heap.size≠some b:=by simp;omega
 have b0:some PB≠some N:=by simp;omega
 have f0:some w.heap.size≠some N:=by simp;omega
 refine⟨by have:=h.hn.step d0 hn (by omega);simpa using this,(h.hm.trans m1).eI hb (by omega) _ _,g2.cell c1 (by simp;omega),?_,(h.rs.grown g1 e0).grown g2 f0,g2.cell (g1.cell h.p0 a0) b0,g2.cell (g1.cell h.p1 a0) b0,g2.cell (g1.cell h.p2 a0) b0,hN,hP⟩;have c0:=h.nd.grown g1 hnb;have aL:=h.hn.2.2.1
 have:j=0\/j=1\/j=2:=by omega
 rcases this with rfl|rfl|rfl
 ·match xs,aL with
  |[],_=>exact c0.nN _
 ·match xs,aL with
  |[a],_=>exact c0.nM _
 match xs,aL with
 |[a,b'],_=>exact c0.kg _
def zy7(l:List ar)(k j:Nat):Bool:=(range j).any (λj=>decide (k<j) && (prem (nth l j)).any (·==(k:Int)))
def ywz(l:List ar)(k:Nat):zy7 l k (k+1)=false:=by
 unfold zy7;rw[any_eq_false];intro x hx
 have:¬k<x:=by simp at hx;omega
 simp[this]
def yr4(l:List ar)(k j:Nat)(h:k<j):zy7 l k (j+1)=(zy7 l k j||(prem (nth l j)).any (·==(k:Int))):=by
 unfold zy7;rw[range_succ,any_append];simp[h]
def zjy(ns:List ar)(v:Value)(B:Nat)(w:World)(hB:B<=w.heap.size)(hv:Zl B w v ns):
  E 21 #[v] w (Rw (I (aJ ns)) w):=by
 obtain⟨ao,cap,rfl,hc,hm,hx⟩:=hv;unfold maxLen at hm;have HX:Y (Zl B w (A ao ns.length cap) ns):=⟨ao,cap,rfl,hc,hm,hx⟩;clear hx
 go_enter func21,ntmps21
 go_wp2
 go_loopw [3] (λi wr=>∃k:Nat,k<=ns.length/\i=I k/\(∀j,j<k->dP ns j=false)/\D w wr) (λi _=>ns.length - (intOf i).toNat)
 case atStart=>exact⟨0,by omega,rfl,λj hj=>by omega,Below.refl _ _⟩
 case round=>
  obtain⟨k,hk,rfl,dt,m0⟩:=hrel;have HN:=Z dt;clear dt;have U0:=m0.size
  by_cases e0:k<ns.length
  ·obtain⟨b,off,rfl⟩:∃b off,ao=some (O b off):=by
    obtain⟨ao',cap',hv',_,_,hx'⟩:=HX.out;obtain⟨b,off,ha,_⟩:=hx' (by intro h;rw[h]at e0;simp at e0);simp only[slice.injEq]at hv';exact⟨b,off,hv'.1.trans ha⟩
   obtain⟨V0,lv,h0,h1,h2,h3,h4,h5,h6⟩:=(HX.below (m0.mono hB)).at e0;have HS:=Z (yiv _ _ B _ (by omega) h0);clear h0
   go_wp2_with fail
   refine(HS.out).mono ?_;rintro e w1 ⟨rfl,G0⟩;clear HS h1 h2 h3 h4 h5 h6;have d0:=m0.trans (G0.mono U0);have W0:=d0.size
   by_cases p0:bT (nth ns k)=true
   ·rw[p0]
    obtain⟨_,lv1,h0,h1,h2,h3,h4,h5,h6⟩:=(HX.below (d0.mono hB)).at e0;have HP:=Z (zvw _ _ B _ (by omega) h0);have X0:=Z p0;clear h0 p0
    go_wp2_with fail
    refine(HP.out).mono ?_;rintro e w2 ⟨pv,rfl,z0,H0⟩;clear HP h1 h2 h3 h4 h5 h6;have l0:=d0.trans (H0.mono W0);obtain⟨pao,pcap,rfl,_,A0,q0⟩:=z0;generalize hps:prem (nth ns k)=ps at*;have I0:=Z hps;have r0:=Z q0;clear hps q0 H0 G0 m0 d0;unfold maxLen at A0;go_wp2
    go_loop [6] (λi=>∃j:Nat,j<=ps.length/\i=I j/\∀t,t<j->¬(k:Int)<=ps.getD t 0) (λi=>ps.length - (intOf i).toNat)
    case atStart=>exact⟨0,by omega,rfl,λt ht=>by omega⟩
    case round=>
     obtain⟨j,hj,rfl,J0⟩:=hrel;have B0:=Z J0;clear J0
     by_cases f0:j<ps.length
     ·obtain⟨pb,po,rfl,Y0,a0⟩:=r0 (by intro h;rw[h]at f0;simp at f0)
      have C0:=a0 j f0;obtain⟨x,hx⟩:=J (ps.getD j 0);rw[<-hx]at C0;have x0:=Z hx;have Z0:(j:Int)<(ps.length:Int):=(by omega);clear a0 hx
      by_cases a1:(k:Int)<=x
      ·have b0:dP ns k=true:=by
        have h1:(prem (nth ns k)).any (λp=>decide ((k:Int)<=p))=true:=by
         rw[I0.out,any_eq_true];exact⟨x,by rw[x0.out];exact mo f0,by simpa using a1⟩
        simp[dP,h1]
       have HF:Y (aJ ns=(k:Int)):=(by unfold aJ;rw[cI _ _ k HN e0 b0];rfl);clear b0;go_wp2;go_ret;exact⟨Vm HF.symm,l0⟩
      go_wp2
      go_round
      case rel=>exact⟨j+1,by omega,by go_num,λt ht=>by
       by_cases h:t<j
       ·exact B0 t h
       have:t=j:=by omega
       subst this;rw[<-x0.out];omega⟩
      case measure=>simp[intOf];omega
     have s0:(prem (nth ns k)).any (λp=>decide ((k:Int)<=p))=false:=by
      rw[I0.out,any_eq_false];intro x hx;obtain⟨i,hi,rfl⟩:=getElem_of_mem hx;have:=B0 i (by omega);rw[Qa,Qb hi]at this;simpa using this
     have b1:=Z s0;clear s0 B0 r0;go_wp2
     go_loopw [7] (λi wr=>∃j:Nat,j<=k/\i=I j/\(∀t,t<j->bS (nth ns t) (nth ns k)=false)/\D w wr) (λi _=>k - (intOf i).toNat)
     case atStart=>exact⟨0,by omega,rfl,λt ht=>by omega,l0⟩
     case round=>
      clear l0;obtain⟨i,hi,rfl,K0,n0⟩:=hrel;have L0:=Z K0;clear K0;have M0:=n0.size
      by_cases c1:i<k
      ·obtain⟨_,li,i0,i1,i2,i3,i4,i5,i6⟩:=(HX.below (n0.mono hB)).at (show i<ns.length from by omega)
       obtain⟨_,lk,k0,k1,k2,k3,k4,k5,k6⟩:=(HX.below (n0.mono hB)).at e0
       have HE:Y (∀wz,Below B wr wz->E 47 #[Vt (nth ns i) li,Vt (nth ns k) lk] wz (Rw (.bool (bS (nth ns i) (nth ns k))) wz)):=
        λwz hz=>zl5 _ _ _ _ B _ (by have:=hz.size;omega) (i0.below hz) (k0.below hz)
       clear i0 k0;have n1:(i:Int)<(k:Int):=(by omega);have o1:(i:Int)<(ns.length:Int):=(by omega);have d1:(k:Int)<(ns.length:Int):=(by omega)
       by_cases t0:bS (nth ns i) (nth ns k)=true
       ·rw[t0]at HE
        have b0:dP ns k=true:=by
         have h2:(range k).any (λi=>bS (nth ns i) (nth ns k))=true:=by
          rw[any_eq_true];exact⟨i,by simpa using c1,t0⟩
         simp[dP,h2]
        have HF:Y (aJ ns=(k:Int)):=(by unfold aJ;rw[cI _ _ k HN e0 b0];rfl);clear b0 t0
        go_wp2_with fail
        go_region_with (go_at_call 47;refine(HE _ dA).mono ?_;rintro e w4 ⟨rfl,g0⟩)
        all_goals
         go_wp2;go_ret;exact⟨Vm HF.symm,n0.trans (dA.trans (g0.mono M0))⟩
       have heq':bS (nth ns i) (nth ns k)=false:=(by simpa using t0);rw[heq']at HE;have e1:=Z heq';clear t0 heq'
       go_wp2_with fail
       go_region_with (go_at_call 47;refine(HE _ dA).mono ?_;rintro e w4 ⟨rfl,g0⟩)
       all_goals
        go_wp2
        go_roundw
        case rel=>exact⟨i+1,by omega,by go_num,λt ht=>by
         by_cases h:t<i
         ·exact L0 t h
         have:t=i:=by omega
         subst this;exact e1.out,n0.trans (dA.trans (g0.mono M0))⟩
        case measure=>simp[intOf];omega
      have b0:dP ns k=false:=by
       have h2:(range k).any (λi=>bS (nth ns i) (nth ns k))=false:=by
        rw[any_eq_false];intro x hx;rw[L0 x (by simp at hx;omega)];simp
       simp[dP,X0.out,b1.out,h2]
      have f1:=Z b0;clear b0;go_wp2
      go_roundw
      case rel=>exact⟨k+1,by omega,by go_num,λj hj=>by
       by_cases h:j<k
       ·exact HN j h
       have:j=k:=by omega
       subst this;exact f1.out,n0⟩
      case measure=>simp[intOf];omega
   have D0:bT (nth ns k)=false:=(by simpa using p0);rw[D0];have b0:dP ns k=true:=(by simp[dP,D0]);have c0:aJ ns=(k:Int):=(by unfold aJ;rw[cI _ _ k HN e0 b0]);have HF:=Z c0;clear p0 D0 b0 c0;go_wp2;go_ret;exact⟨Vm HF.symm,d0⟩
  have j0:(range ns.length).find? (dP ns)=none:=dh _ _ (λj hj=>HN j (by omega));have N0:=Z j0;clear j0 HN;go_wp2
  go_loopw [9] (λi wr=>∃k:Nat,(k=0\/k+1<=ns.length)/\i=I k/\(∀j,j<k->(!Fl.used ns j)=false)/\D w wr) (λi _=>ns.length - (intOf i).toNat)
  case atStart=>exact⟨0,Or.inl rfl,rfl,λj hj=>by omega,m0⟩
  case round=>
   clear m0 hk e0;rename_i kk0 _ _;obtain⟨k2,p1,rfl,v0,g0⟩:=hrel;have E0:=Z v0;clear v0;have q1:=g0.size
   by_cases d1:(k2:Int)<(ns.length:Int) - 1
   ·go_wp2
    go_loopw [10,11] (λu i wr=>∃j:Nat,k2<j/\j<=ns.length/\i=I j/\u=.bool (zy7 ns k2 j)/\D w wr) (λ_ i _=>ns.length - (intOf i).toNat)
    case atStart=>exact⟨k2+1,by omega,by omega,by go_num,by rw[ywz],g0⟩
    case round=>
     clear g0;obtain⟨j,g1,r1,rfl,rfl,o0⟩:=hrel;have j1:=o0.size
     by_cases f0:j<ns.length
     ·obtain⟨b,off,rfl⟩:∃b off,ao=some (O b off):=by
       obtain⟨ao',cap',hv',_,_,hx'⟩:=HX.out;obtain⟨b,off,ha,_⟩:=hx' (by intro h;rw[h]at f0;simp at f0);simp only[slice.injEq]at hv';exact⟨b,off,hv'.1.trans ha⟩
      obtain⟨V0,lv,h0,h1,h2,h3,h4,h5,h6⟩:=(HX.below (o0.mono hB)).at f0;have HP:Y (E 46 #[Vt (nth ns j) lv] wr λe w'=>∃v,e=.returned v/\Zw w'.heap.size w' v (prem (nth ns j))/\D wr w'):=zvw _ _ B _ (by omega) h0;clear h0;have Z0:(j:Int)<(ns.length:Int):=(by omega);have v0:zy7 ns k2 (j+1)=(zy7 ns k2 j||(prem (nth ns j)).any (·==(k2:Int))):=yr4 ns k2 j g1;generalize hu0:zy7 ns k2 j=u0 at*
      go_wp2_with fail
      refine(HP.out).mono ?_;rintro e w6 ⟨pv,rfl,z0,O0⟩;clear HP h1 h2 h3 h4 h5 h6 hu0;have F0:D w w6:=o0.trans (O0.mono j1);obtain⟨pao,pcap,rfl,_,A0,q0⟩:=z0;generalize hps:prem (nth ns j)=ps at*;have l1:=Z v0;have r0:=Z q0;clear hps q0 O0 o0 v0;unfold maxLen at A0;go_wp2
      go_loop [10,13] (λu i=>∃t:Nat,t<=ps.length/\i=I t/\u=.bool (u0||(ps.take t).any (·==(k2:Int)))) (λ_ i=>ps.length - (intOf i).toNat)
      case atStart=>exact⟨0,by omega,rfl,by simp⟩
      case round=>
       obtain⟨t,ht,rfl,rfl⟩:=hrel
       by_cases y0:t<ps.length
       ·obtain⟨pb,po,rfl,Y0,a0⟩:=r0 (by intro h;rw[h]at y0;simp at y0)
        have C0:=a0 t y0;have P0:(ps.take (t+1)).any (·==(k2:Int))=((ps.take t).any (·==(k2:Int))||(ps.getD t 0==(k2:Int))):=by
         rw[dT _ t y0,any_append];simp
        have Q0:=Z P0;obtain⟨x,hx⟩:=J (ps.getD t 0);rw[<-hx]at C0;have x0:=Z hx;have s1:(t:Int)<(ps.length:Int):=(by omega);clear a0 hx P0;generalize hac:(u0||(ps.take t).any (·==(k2:Int)))=acc at*;have R0:=Z hac;clear hac
        cases acc
        ·go_wp2
         go_round
         case rel=>exact⟨t+1,by omega,by go_num,by rw[Q0.out,<-Bool.or_assoc,R0.out,<-x0.out];simp⟩
         case measure=>simp[intOf];omega
        go_wp2
        go_round
        case rel=>exact⟨t+1,by omega,by go_num,by rw[Q0.out,<-Bool.or_assoc,R0.out];simp⟩
        case measure=>simp[intOf];omega
       have aT:ps.take t=ps:=take_of_length_le (by omega);have m1:=Z aT;clear aT r0;go_wp2
       go_roundw
       case rel=>exact⟨j+1,by omega,by omega,by go_num,by rw[l1.out,m1.out],F0⟩
       case measure=>simp[intOf];omega
     have S0:zy7 ns k2 j=used ns k2:=(by rw[show j=ns.length by omega];rfl);generalize hu0:zy7 ns k2 j=u0 at*;have T0:=Z S0;clear S0 hu0
     cases u0
     ·have c0:aJ ns=(k2:Int):=by
       unfold aJ;rw[N0.out];simp only;rw[cI (λk=> !Fl.used ns k) _ k2 E0 (by omega) (by rw[<-T0.out];rfl)]
      have HF:=Z c0;clear c0;go_wp2;go_ret;exact⟨Vm HF.symm,o0⟩
     go_wp2
     go_roundw
     case rel=>exact⟨k2+1,Or.inr (by omega),by go_num,λj hj=>by
      by_cases h:j<k2
      ·exact E0 j h
      have:j=k2:=by omega
      subst this;rw[<-T0.out];rfl,o0⟩
     case measure=>simp[intOf];omega
   have c0:aJ ns= -1:=by
    unfold aJ;rw[N0.out];simp only;rw[dh (λk=> !Fl.used ns k) _ (λj hj=>E0 j (by omega))]
   have HF:=Z c0;clear c0;go_wp2;go_ret;exact⟨Vm HF.symm,g0⟩
end Go.Proofs.YtgmbnnpnefniiaaGreatDoor
