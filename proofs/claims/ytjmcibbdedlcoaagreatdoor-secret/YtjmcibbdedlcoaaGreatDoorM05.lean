import Derived.Test.YtjmcibbdedlcoaaGreatDoorM04
import Derived.Laws.AppendOwnNone
import Derived.Laws.BitsAllLaws
set_option linter.all false
set_option maxRecDepth 100000
set_option maxHeartbeats 40000000
namespace Go.Proofs.YtjmcibbdedlcoaaGreatDoor
open Go.Proofs.Tryz List World Value Fl
variable{S:Nat->Prop}{w w':World}{v bC bH bv vv:Value}{i Fb Pb Lb base k n a b B cap p q:Nat}{vs xs:Is}{e:TypeId}{ops:Array Oper}{rest:List Oper}{o:Oper}{Q:Exit->Act->World->Prop}{s:K}{ao:Option Addr}{m:Int}
namespace Fl
def lH(l:K)(h:(bY l 9).2=true):(bY l 9).1<=999999999:=by
 unfold bY at h⊢
 split at h
 ·rename_i hd
  rw[G hd];simp only[fy,Qk,Qn]at h;have hl:l.length<=9:=h.2.1;show val (l.take 9)<=999999999;rw[take_of_length_le hl,ma];have h1:=ii l 0 hd;have h2:10 ^ l.length<=10 ^ 9:=Nat.pow_le_pow_right (by decide) hl;omega
 cases h
def RS.nv(r:RS):Nat:=r.cells.length+r.ak.length
def RS.jQ(r:RS)(s:K){a:dI}(h:r.atom s=some a):dU r.nv a:=by
 unfold RS.atom at h;have hc:=aO r.cells s;have hl:=aO r.ak s;unfold dU RS.nv
 split at h
 ·rename_i hn
  simp only[Ql]at h;subst h;simp only[Bool.false_eq_true,if_false];exact lH s hn
 split at h
 ·simp only[Ql]at h;subst h
  simp only[if_true];omega
 split at h
 ·simp only[Ql]at h;subst h
  simp only[if_true];omega
 cases h
def RS.kt(r:RS)(ws:List K){e:da}(h:r.value ws=some e):bI r.nv e:=by
 match ws,h with
 |[a],h=>
  simp only[RS.value,Option.map_eq_some_iff]at h;obtain⟨x,hx,rfl⟩:=h;exact⟨(show (-1:Int)<= -1 by decide),(show (-1:Int)<=4 by decide),r.jQ a hx,by unfold dU kz;simp⟩
 |[a,o,b],h=>
  simp only[RS.value,Option.bind_eq_some_iff,Option.map_eq_some_iff]at h;obtain⟨x,hx,y,hy,rfl⟩:=h;have ho:=aO cC o;have hs:cC.length=5:=rfl;exact⟨by simp only;omega,by simp only;omega,r.jQ a hx,r.jQ b hy⟩
structure kH(nv nc d:Nat)(f:Frame):Prop where
 kd:f.kind=5\/(f.kind=6/\f.cA=false)
 no:f.cA=false->f.fN=[]
 ex:bI nv f.e
 fi:aY nv nc d f.first
 el:aY nv nc d f.fN
def kH.mono{nv nv' nc d:Nat}(h:nv<=nv'){f:Frame}(hf:kH nv nc d f):kH nv' nc d f:=⟨hf.kd,hf.no,hf.ex.mono h,hf.fi.mono h,hf.el.mono h⟩
def iF(nv nc:Nat):Nat->List Frame->Prop
 |_,[]=>True
 |d,f::fs=>kH nv nc (d+1) f/\iF nv nc (d+1) fs
def iF.mono{nv nv' nc:Nat}(h:nv<=nv'):∀{d:Nat} {fs:List Frame},iF nv nc d fs->iF nv' nc d fs
 |_,[],_=>trivial
 |_,_::_,hf=>⟨hf.1.mono h,iF.mono h hf.2⟩
def aY.snoc{nv nc d:Nat}{l:List aa}{s:aa}(h:aY nv nc (d+1) l)(hs:eJ nv nc s/\bI nv s.e/\aY nv nc d s.aZ/\aY nv nc d s.aP):aY nv nc (d+1) (l++[s]):=λx hx=>by
 rcases mem_append.1 hx with h1|h1
 ·exact h x h1
 simp only[mem_singleton]at h1;subst h1;exact hs
def aY.nil(nv nc d:Nat):aY nv nc d []:=by
 cases d with
 |zero=>rfl
 |succ d=>exact λs hs=>(by cases hs)
def kH.snoc{nv nc d:Nat}{f:Frame}{s:aa}(h:kH nv nc (d+1) f)(hs:eJ nv nc s/\bI nv s.e/\aY nv nc d s.aZ/\aY nv nc d s.aP):kH nv nc (d+1) (if f.cA then{f with fN:=f.fN++[s]} else{f with first:=f.first++[s]}):=by
 cases hd:f.cA with
 |true=>
  simp only[if_true];refine⟨?_,λq=>(by cases q),h.ex,h.fi,h.el.snoc hs⟩;rcases h.kd with h5|⟨_,h6⟩
  ·exact .inl h5
  rw[hd]at h6;cases h6
 |false=>
  simp only[Bool.false_eq_true,if_false];refine⟨?_,λ_=>h.no hd,h.ex,h.fi.snoc hs,h.el⟩;rcases h.kd with h5|⟨h6,_⟩
  ·exact .inl h5
  exact .inr ⟨h6,rfl⟩
structure RS.fm(r:RS):Prop where
 ce:r.cells.length<=6
 ch:r.aj.length<=3
 lo:r.ak.length<=4
 cl:r.aT.length=r.cells.length
 hl:r.aS.length=r.aj.length
 fr:r.fr.length<=3
 head:r.ae=false->r.ak=[]/\r.ct=[]/\r.fr=[]
 ct:aY r.nv r.aj.length 4 r.ct
 pq:iF r.nv r.aj.length (3 - r.fr.length) r.fr
def mU:RS.zero.fm:=⟨by decide,by decide,by decide,rfl,rfl,by decide,λ_=>⟨rfl,rfl,rfl⟩,aY.nil _ _ _,trivial⟩
def RS.fm.iE{r r':RS}(h:r.fm)(hb:r.ae=false)(e1:r'.ct=r.ct)(e2:r'.fr=r.fr)(e3:r'.ak=r.ak)(ce:r'.cells.length<=6)(ch:r'.aj.length<=3)(cl:r'.aT.length=r'.cells.length)(hl:r'.aS.length=r'.aj.length):r'.fm:=by
 obtain⟨h1,h2,h3⟩:=h.head hb;refine⟨ce,ch,by rw[e3];exact h.lo,cl,hl,by rw[e2];exact h.fr,λ_=>⟨by rw[e3];exact h1,by rw[e1];exact h2,by rw[e2];exact h3⟩,?_,?_⟩
 ·rw[e1,h2];exact aY.nil _ _ _
 rw[e2,h3];trivial
def RS.fm.nM{r:RS}(h:r.fm)(hb:r.ae=false)(w:List K)(h0:(r.head w).1=0):(r.head w).2.fm:=by
 match w,h0 with
 |[],h0=>cases h0
 |[k],h0=>
  simp only[RS.head]at h0⊢
  split at h0
  ·rename_i hl;rw[G hl];exact h.iE hb rfl rfl rfl h.ce h.ch h.cl h.hl
  cases h0
 |[k,n],h0=>
  simp only[RS.head]at h0⊢
  split at h0
  ·cases h0
  rename_i h1;rw[Z h1]
  split at h0
  ·cases h0
  rename_i h2;rw[Z h2];exact h.iE hb rfl rfl rfl h.ce h.ch h.cl h.hl
 |[k,n,l],h0=>
  simp only[RS.head]at h0⊢
  split at h0
  ·rename_i hk;rw[G hk]
   split at h0
   ·cases h0
   rename_i h1;rw[Z h1];exact h.iE hb rfl rfl rfl h.ce h.ch h.cl h.hl
  rename_i hk;rw[Z hk]
  split at h0
  ·cases h0
  rename_i h1;rw[Z h1]
  split at h0
  ·rename_i hc;rw[G hc]
   split at h0
   ·cases h0
   rename_i h6;rw[Z h6];exact h.iE hb rfl rfl rfl (by have:=h.ce;simp;omega) h.ch (by have:=h.cl;simp;omega) h.hl
  rename_i hc;rw[Z hc]
  split at h0
  ·cases h0
  rename_i h3;rw[Z h3];exact h.iE hb rfl rfl rfl h.ce (by have:=h.ch;simp;omega) h.cl (by have:=h.hl;simp;omega)
 |_::_::_::_::_,h0=>cases h0
def RS.fm.put{r:RS}(h:r.fm)(hb:r.ae=true){s:aa}(hk:eJ r.nv r.aj.length s)(he:bI r.nv s.e)(h1:s.aZ=[])(h2:s.aP=[]):(r.put s).fm:=by
 unfold RS.put;have hs:∀d,eJ r.nv r.aj.length s/\bI r.nv s.e/\aY r.nv r.aj.length d s.aZ/\aY r.nv r.aj.length d s.aP:=λd=>⟨hk,he,by rw[h1];exact aY.nil _ _ _,by rw[h2];exact aY.nil _ _ _⟩
 cases hf:r.fr with
 |nil=>exact⟨h.ce,h.ch,h.lo,h.cl,h.hl,Nat.zero_le _,λhh=>(by have:r.ae=false:=hh;rw[hb]at this;cases this),h.ct.snoc (hs 3),trivial⟩
 |cons f fs=>
  have hh:=h.pq;rw[hf]at hh;have hl:=h.fr;rw[hf]at hl;exact⟨h.ce,h.ch,h.lo,h.cl,h.hl,hl,λhh=>(by have:r.ae=false:=hh;rw[hb]at this;cases this),h.ct,hh.1.snoc (hs _),hh.2⟩
def RS.fm.local{r:RS}(h:r.fm)(hb:r.ae=true)(n:K)(hl:r.ak.length<4):({r with ak:=r.ak++[n]}:RS).fm:=by
 have e:r.nv<=({r with ak:=r.ak++[n]}:RS).nv:=by simp[RS.nv]
 exact⟨h.ce,h.ch,by simp;omega,h.cl,h.hl,h.fr,λhh=>(by have:r.ae=false:=hh;rw[hb]at this;cases this),h.ct.mono e,h.pq.mono e⟩
def RS.fm.nL{r:RS}(h:r.fm)(hb:r.ae=true)(at_:Nat)(w:List K)(h0:(r.bS at_ w).1=0):(r.bS at_ w).2.fm/\(r.bS at_ w).2.ae=true:=by
 have hn:∀x:RS,x.ae=true->∀P:Prop,x.ae=false->P:=λx h1 P h2=>by rw[h1]at h2;cases h2
 match w,h0 with
 |[],h0=>cases h0
 |[k],h0=>
  simp only[RS.bS]at h0⊢
  cases hf:r.fr with
  |nil=>rw[hf]at h0;cases h0
  |cons f fs=>
   rw[hf]at h0;simp only at h0⊢;have hh:=h.pq;rw[hf]at hh;have hl:=h.fr;rw[hf]at hl
   split at h0
   ·rename_i hk;rw[G hk]
    split at h0
    ·rename_i hq;rw[G hq]
     unfold RS.cX;rw[hf];refine⟨⟨h.ce,h.ch,h.lo,h.cl,h.hl,hl,hn _ hb _,h.ct,?_⟩,hb⟩;exact⟨⟨.inl hq.1,λq=>(by cases q),hh.1.ex,hh.1.fi,hh.1.el⟩,hh.2⟩
    cases h0
   rename_i hk;rw[Z hk];unfold RS.bB;rw[hf]
   have a0:∀d,aY r.nv r.aj.length d f.first->aY r.nv r.aj.length d f.fN->eJ r.nv r.aj.length f.done/\bI r.nv f.done.e/\aY r.nv r.aj.length d f.done.aZ/\aY r.nv r.aj.length d f.done.aP:=λd h1 h2=>by
    refine⟨?_,hh.1.ex,h1,h2⟩;rcases hh.1.kd with h5|⟨h6,h7⟩
    ·exact .inr (.inr (.inl h5))
    exact .inr (.inr (.inr ⟨h6,hh.1.no h7⟩))
   cases fs with
   |nil=>
    exact⟨⟨h.ce,h.ch,h.lo,h.cl,h.hl,by simp,hn _ hb _,h.ct.snoc (a0 3 hh.1.fi hh.1.el),trivial⟩,hb⟩
   |cons g gs=>
    simp only[length_cons]at hl hh;have e1:3 - (gs.length+1+1)+1=3 - (gs.length+1):=(by omega);have hg:=hh.2.1;have hd:=a0 _ hh.1.fi hh.1.el;refine⟨⟨h.ce,h.ch,h.lo,h.cl,h.hl,by simp;omega,hn _ hb _,h.ct,?_⟩,hb⟩;simp only[length_cons];rw[<-e1];exact⟨hg.snoc hd,hh.2.2⟩
 |[k,a],h0=>
  simp only[RS.bS]at h0⊢
  cases hv:r.value [a] with
  |none=>rw[hv]at h0;cases h0
  |some e=>
   rw[hv]at h0;simp only at h0⊢
   split at h0
   ·cases h0
   rename_i hq;rw[Z hq];have e1:3 - (r.fr.length+1)+1=3 - r.fr.length:=(by omega);refine⟨⟨h.ce,h.ch,h.lo,h.cl,h.hl,by simp[RS.opens];omega,hn _ hb _,h.ct,?_⟩,hb⟩;simp only[RS.opens,length_cons];refine⟨⟨?_,λ_=>rfl,r.kt _ hv,aY.nil _ _ _,aY.nil _ _ _⟩,by rw[e1];exact h.pq⟩;show (if(k==jo)=true then 5 else 6)=5\/((if(k==jo)=true then 5 else 6)=6/\false=false)
   cases (k==jo)<;>simp
 |k::n::v1::v,h0=>
  simp only[RS.bS]at h0⊢
  cases hv:r.value (v1::v) with
  |none=>rw[hv]at h0;cases h0
  |some e=>
   rw[hv]at h0;simp only at h0⊢;have he:=r.kt _ hv
   have b0:∀(x:RS) (s:aa),x.ae=true->(x.put s).ae=true:=λx s hx=>by unfold RS.put;split<;>exact hx
   split at h0
   ·rename_i hk;rw[G hk]
    split at h0
    ·cases h0
    rename_i hp;rw[Z hp]
    split at h0
    ·cases h0
    rename_i h6;rw[Z h6];have hc:=aO r.aj n;exact⟨h.put hb (.inr (.inl ⟨rfl,by simp only;omega⟩)) he rfl rfl,b0 _ _ hb⟩
   rename_i hk;rw[Z hk]
   split at h0
   ·cases h0
   rename_i hp;rw[Z hp]
   cases ht:r.bj n with
   |none=>rw[ht]at h0;cases h0
   |some p=>
    obtain⟨x,r'⟩:=p;rw[ht]at h0;simp only at h0⊢
    split at h0
    ·cases h0
    rename_i h6;rw[Z h6];have hc:=aO r.cells n;have c0:=aO r.ak n;unfold RS.bj at ht
    split at ht
    ·simp only[Ql,Prod.mk.injEq]at ht
     obtain⟨rfl,rfl⟩:=ht;exact⟨h.put hb (.inl ⟨rfl,by simp only[RS.nv];omega⟩) he rfl rfl,b0 _ _ hb⟩
    split at ht
    ·simp only[Ql,Prod.mk.injEq]at ht
     obtain⟨rfl,rfl⟩:=ht;exact⟨h.put hb (.inl ⟨rfl,by simp only[RS.nv];omega⟩) he rfl rfl,b0 _ _ hb⟩
    split at ht
    ·cases ht
    rename_i h4;simp only[Ql,Prod.mk.injEq]at ht;obtain⟨rfl,rfl⟩:=ht;have hF:=h.local hb n (by have:=h.lo;omega);exact⟨hF.put hb (.inl ⟨rfl,by simp[RS.nv]⟩) (he.mono (by simp[RS.nv])) rfl rfl,b0 _ _ hb⟩
def RS.fm.mT{r:RS}(h:r.fm)(w:List K)(at_:Nat)(h0:(r.row w at_).1=0):(r.row w at_).2.fm:=by
 unfold RS.row at h0⊢
 split at h0
 ·cases h0
 rename_i h1;rw[Z h1]
 split at h0
 ·rename_i h2;rw[G h2]
  refine h.nM ?_ w h0;rw[h2]at h1
  cases hb:r.ae with
  |false=>rfl
  |true=>exact absurd hb.symm h1
 rename_i h2;rw[Z h2];refine(h.nL ?_ at_ w h0).1
 cases hb:r.ae with
 |true=>rfl
 |false=>exact absurd ((by simpa using h2:du (w.getD 0 [])=false).trans hb.symm) h1
def jP:∀(ls:List K) (r:RS) (i:Nat),r.fm->(rows r i ls).1=0->(rows r i ls).2.2.fm/\(rows r i ls).2.2.ae=true/\(rows r i ls).2.2.fr=[]/\(rows r i ls).2.1=0
 |[],r,i,h,h0=>by cases h0
 |[l],r,i,h,h0=>by
  rw[rows]at h0⊢
  split at h0
  ·rename_i h1;rw[G h1]
   split at h0
   ·rename_i h2;rw[G h2];exact⟨h,h2.1,h2.2,rfl⟩
   cases h0
  cases h0
 |l::m::ls,r,i,h,h0=>by
  rw[rows]at h0⊢
  split at h0
  ·cases h0
  rename_i h1;rw[Z h1]
  split at h0
  ·rename_i h2;exact absurd h0 h2
  rename_i h2;rw[Z h2];exact jP (m::ls) _ (i+1) (h.mT _ _ (by simpa using h2)) h0
structure aV.Ok(p:aV):Prop where
 ce:p.cells.length<=6
 ch:p.aj.length<=3
 lo:p.ak<=4
 aZ:aY (p.cells.length+p.ak) p.aj.length 4 p.aZ
def dO(s:K)(h0:(aq s).1=0):(aq s).2.2.Ok/\(aq s).2.1=0/\s.length<=1200:=by
 unfold aq at h0⊢
 by_cases hs:1200<s.length
 ·rw[G hs]at h0;cases h0
 rw[Z hs]at h0⊢;obtain⟨h1,h2,h3,h4⟩:=jP _ RS.zero 0 mU h0;refine⟨⟨?_,?_,h1.lo,?_⟩,h4,by omega⟩
 ·show (rows RS.zero 0 (aC 10 s)).2.2.aT.length<=6;rw[h1.cl];exact h1.ce
 ·show (rows RS.zero 0 (aC 10 s)).2.2.aS.length<=3;rw[h1.hl];exact h1.ch
 have:=h1.ct;unfold RS.nv at this;show aY ((rows RS.zero 0 (aC 10 s)).2.2.aT.length+_) ((rows RS.zero 0 (aC 10 s)).2.2.aS.length) 4 _;rw[h1.cl,h1.hl];exact this
end Fl
open Go.RowKit
structure Vd(w:World)(Fb Pb Lb:Nat)(bC bH bv vv:Value)(S:Nat->Prop)(p:Fl.aV)(vs:Is):Prop where
 hF:Fb<w.heap.size
 c0:w.cell? (Y Fb 0)=some (M Pb)
 c1:w.cell? (Y Fb 1)=some vv
 lv:LvIn w Pb Lb p
 p1:w.cell? (Y Pb 1)=some bC
 p2:w.cell? (Y Pb 2)=some bH
 p4:w.cell? (Y Pb 4)=some bv
 ce:∃ao cap,bC=J ao p.cells.length cap
 ch:Zw w.heap.size w bH (p.aj.map λ(y:Nat)=>(y:Int))
 vi:Zw w.heap.size w vv vs
 bo:Zl 4 S w bv p.aZ
 hS:∀b,S b->b<w.heap.size
 ok:Fl.di p vs
 pk:p.Ok
def Vd.below{w w':World}{Fb Pb Lb:Nat}{bC bH bv vv:Value}{S:Nat->Prop}{p:Fl.aV}{vs:Is}(h:Vd w Fb Pb Lb bC bH bv vv S p vs)(hb:E w w'):Vd w' Fb Pb Lb bC bH bv vv S p vs where
 hF:=Qj h.hF hb.size
 c0:=cT hb h.hF h.c0
 c1:=cT hb h.hF h.c1
 lv:=h.lv.below hb
 p1:=cT hb h.lv.hz.1 h.p1
 p2:=cT hb h.lv.hz.1 h.p2
 p4:=cT hb h.lv.hz.1 h.p4
 ce:=h.ce
 ch:=(h.ch.below hb).mono hb.size
 vi:=(h.vi.below hb).mono hb.size
 bo:=Zl.kept (λ_ h=>h) (λb hs=>hb.block b (h.hS b hs)) _ _ _ h.bo
 hS:=λb hs=>Qj (h.hS b hs) hb.size
 ok:=h.ok
 pk:=h.pk
def zsw(S:Nat->Prop)(w:World)(v:Value)(s:Fl.aa):Prop:=
 ∃sb,v=M sb/\S sb/\w.cell? (Y sb 0)=some (I s.kind)/\w.cell? (Y sb 1)=some (I s.ap)/\w.cell? (Y sb 2)=some (I s.x)
def zsw.kept{S':Nat->Prop}{s:Fl.aa}(h:zsw S w v s)(hS:∀b,S b->S' b)(hw:∀b,S b->w'.heap[b]?=w.heap[b]?):zsw S' w' v s:=by
 obtain⟨sb,e,h1,h2,h3,h4⟩:=h;have q:∀j,w'.cell? (Y sb j)=w.cell? (Y sb j):=λj=>Qc (a:=(Y sb j)) (hw sb h1);exact⟨sb,e,hS _ h1,(q 0).trans h2,(q 1).trans h3,(q 2).trans h4⟩
def yw1{p:Fl.aV}(h:p.Lv)(hi:i<p.aj.length):∃k:Nat,k<p.n/\(p.aj.map λ(y:Nat)=>(y:Int)).getD i 0=(k:Int):=
 ⟨p.aj[i],h.ch _ (getElem_mem hi),by rw[Qa,getElem?_map,Qb hi];rfl⟩
def yp0{p:Fl.aV}(h:Fl.di p vs)(hi:i<vs.length):∃k:Nat,k<p.n/\vs.getD i 0=(k:Int):=⟨(vs.getD i 0).toNat,by have:=h.2 i hi;omega,by have:=h.2 i hi;omega⟩
section
variable{p:Fl.aV}
def zsv(h:Vd w Fb Pb Lb bC bH bv vv S p vs){e:Fl.da}(he:zy7 S w v e)(ho:Fl.bI vs.length e):
  F 166 #[M Fb,v] w λr w'=>r=.returned (I (Fl.aB p vs e))/\E w w':=by
 have hF:=h.hF;have c0:=h.c0;have c1:=h.c1;have HS:O (∀W,E w W->D W Fb 0 (M Pb)/\D W Fb 1 vv):=λW hW=>⟨(h.below hW).c0,(h.below hW).c1⟩
 have HC:O (∀W,E w W->F 178 #[M Pb,v,vv] W λr w'=>r=.returned (I (Fl.aB p vs e))/\E W w'):=λW hW=>
  ys9 (h.below hW).lv (h.below hW).vi h.ok.2 (h.below hW).hS (he.kept (λ_ h=>h) (λb hb=>hW.block b (h.hS b hb))) (zu8 ho)
 generalize Fl.aB p vs e=aX at*;clear h he ho
 go_enter func166,ntmps166
 go_wp2_with fail
 refine Zm HS dA [9] [] [] (by kernel_rfl) (λ_ _ _ _ h=>h) (λops _=>?_)
 iterate 9 refine Zv rfl (by intros;go_simp<;>rfl) (by go_simp<;>rfl) ?_
 refine Zs ?_
 go_wp2_with fail
 refine(HC _ dA).mono ?_;rintro e1 W1 ⟨rfl,a0⟩;have b0:O (E w W1):=dA.trans a0;clear a0
 go_wp2_with fail
 refine⟨HS _ b0,?_⟩;refine Zv rfl (by intros;go_simp<;>rfl) (by go_simp<;>rfl) ?_;refine Zu ?_;go_wp2;go_ret;exact⟨rfl,b0⟩
def yy5(h:Vd w Fb Pb Lb bC bH bv vv S p vs){s:Fl.aa}(hs:zsw S w v s)(hx:s.x<=100):
  F 98 #[M Fb,v] w λr w'=>r=.returned (.bool (Fl.bU p s))/\E w w':=by
 obtain⟨sb,rfl,e0,k0,-,k2⟩:=hs;have hF:=h.hF;have c0:=h.c0;have p1:=h.p1;have hP:=h.lv.hz.1;have j0:p.cells.length<=6:=h.pk.ce;have cH:sb<w.heap.size:=h.hS sb e0;obtain⟨ao,cap,rfl⟩:=h.ce;obtain⟨nc,b0⟩:=U (p.cells.length)
 have HE:O (Fl.bU p s=(decide (s.kind=3) && decide (nc<=s.x))):=by show _=_;unfold Fl.bU;rw[b0]
 rw[<-b0]at p1 j0;obtain⟨aX,a0⟩:=U (Fl.bU p s);rw[<-a0]at HE⊢;obtain⟨kd,f0⟩:=U (s.kind);obtain⟨xx,g0⟩:=U (s.x);rw[<-f0]at k0 HE;rw[<-g0]at k2 HE hx;clear h b0 a0 f0 g0 e0
 have l0:(nc:Int)<=6:=by omega
 by_cases h3:kd=3
 ·have b3:((kd:Int)==3)=true:=by rw[h3];rfl
  rw[decide_eq_true h3,Bool.true_and]at HE;clear h3
  by_cases h0:nc<=xx
  ·have d0:(nc:Int)<=(xx:Int):=by omega
   rw[decide_eq_true h0]at HE
   go_enter func98,ntmps98
   go_wp2_with fail
   refine zlx [(5,10)] (by kernel_rfl) (by kernel_rfl) rfl (λops hG=>?_);have g1:=hG (5,10) (by simp);simp only at g1;clear hG
   iterate 21 still_step
   refine wpStill_nil ?_;go_wp2;go_ret;exact⟨cbE HE,dA⟩
  have d0:¬(nc:Int)<=(xx:Int):=(by omega);have i0:(xx:Int)<(nc:Int):=(by omega);rw[decide_eq_false h0]at HE
  go_enter func98,ntmps98
  go_wp2_with fail
  refine zlx [(5,10)] (by kernel_rfl) (by kernel_rfl) rfl (λops hG=>?_);have g1:=hG (5,10) (by simp);simp only at g1;clear hG
  iterate 21 still_step
  refine wpStill_nil ?_;go_wp2;go_ret;exact⟨cbE HE,dA⟩
 have b3:((kd:Int)==3)=false:=beq_eq_false_iff_ne.2 (by omega);rw[decide_eq_false h3,Bool.false_and]at HE;clear h3
 go_enter func98,ntmps98
 go_wp2_with fail
 refine zlx [(5,10)] (by kernel_rfl) (by kernel_rfl) rfl (λops hG=>?_);have g1:=hG (5,10) (by simp);simp only at g1;clear hG
 iterate 21 still_step
 refine wpStill_nil ?_;go_wp2;go_ret;exact⟨cbE HE,dA⟩
def PlOk(p:Fl.aV)(vs:Is)(s:Fl.aa):Prop:=(s.kind=3/\s.x<vs.length)\/(s.kind=4/\s.x<p.aj.length)
def zby(h:Vd w Fb Pb Lb bC bH bv vv S p vs){s:Fl.aa}(hs:zsw S w v s)(lvl:Nat)(hl:lvl<p.n)(hk:PlOk p vs s):
  F 99 #[M Fb,.agg #[v,I lvl]] w λr w'=>r=.returned (.bool (Fl.bp p vs (s,(lvl:Int))))/\E w w':=by
 obtain⟨sb,rfl,f0,k0,-,k2⟩:=hs;have hF:=h.hF;have c0:=h.c0;have c1:=h.c1;have p0:=h.lv.p0;have p2:=h.p2;have hP:=h.lv.hz.1;have cH:sb<w.heap.size:=h.hS sb f0;obtain⟨W0,a0⟩:=U (w.alloc (.cells #[M sb,I lvl] 206))
 have e0:O (E w W0):=by show Below _ _ _;rw[a0];exact bA
 have t0:W0.cell? (Y w.heap.size 0)=some (M sb):=by rw[a0];simp
 have t1:W0.cell? (Y w.heap.size 1)=some (I lvl):=by rw[a0];simp
 have key:∀(k:Nat) (b off:Nat),k<p.n->b<w.heap.size->D w b (off+s.x) (I (k:Nat))->
   O (∀W,E W0 W->D W Fb 0 (M Pb)/\D W Pb 0 (M Lb)/\D W w.heap.size 0 (M sb)/\D W w.heap.size 1 (I lvl)/\D W sb 2 (I s.x)/\D W b (off+s.x) (I (k:Nat)))/\
   O (∀W,E W0 W->F 141 #[M Lb,I lvl,I (k:Nat)] W (Rq (.bool (p.leq lvl k)) W)):=λk b off b0 hb hc=>by
  have h0:W0.heap.size=w.heap.size+1:=(by rw[a0];simp);refine⟨λW hW=>?_,λW hW=>?_⟩
  ·have d0:E w W:=e0.trans (hW.mono (by omega))
   exact⟨cT d0 hF c0,cT d0 hP p0,cT hW (by show w.heap.size<_;omega) t0,cT hW (by show w.heap.size<_;omega) t1,cT d0 cH k2,cT d0 hb hc⟩
  have d0:E w W:=e0.trans (hW.mono (by omega));exact yj4 (h.lv.below d0).la h.lv.lv.n6 lvl k hl b0
 rcases hk with⟨e3,hx⟩|⟨e4,hx⟩
 ·obtain⟨b,off,cap,rfl,q1,q2,q3,q4⟩:=zs0 h.vi hx
  obtain⟨k,b0,ek⟩:=yp0 h.ok hx;rw[ek]at q4;obtain⟨HS,HC⟩:=key k b off b0 q3 q4;have HR:O (Fl.bp p vs (s,(lvl:Int))=p.leq lvl k):=(by show _=_;unfold Fl.bp Fl.aR;simp only;rw[Z (by omega),ek];rfl);have g0:(s.x:Int)<(vs.length:Int):=(by omega);generalize p.leq lvl k=aX at*;have b4:((s.kind:Int)==4)=false:=beq_eq_false_iff_ne.2 (by omega);rw[HR.out];generalize s.x=xx at*;generalize s.kind=kd at*;clear h f0 key HR e3 hx ek b0 q1 q2 hl
  go_enter func99,ntmps99
  go_wp2_with fail
  rw[<-a0];clear a0 c0 c1 p0 p2 k2 q4 k0 t0 t1;refine Zm HS dA [17] [] [] (by kernel_rfl) (λ_ _ _ _ h=>h) (λops _=>?_)
  iterate 17 refine Zv rfl (by intros;go_simp<;>rfl) (by go_simp<;>rfl) ?_
  refine Zs ?_
  go_wp2_with fail
  refine(HC _ dA).mono ?_;rintro e1 W1 ⟨rfl,rfl⟩
  go_wp2_with fail
  refine⟨HS _ dA,?_⟩;refine Zv rfl (by intros;go_simp<;>rfl) (by go_simp<;>rfl) ?_;refine Zu ?_;go_wp2;go_ret;exact⟨rfl,e0.drew⟩
 obtain⟨b,off,cap,rfl,q1,q2,q3,q4⟩:=zs0 h.ch (i:=s.x) (by simpa using hx);obtain⟨k,b0,ek⟩:=yw1 h.lv.lv hx;rw[ek]at q4;obtain⟨HS,HC⟩:=key k b off b0 q3 q4
 have HR:O (Fl.bp p vs (s,(lvl:Int))=p.leq lvl k):=by show _=_;unfold Fl.bp Fl.aR;simp only;rw[G e4,ek];rfl
 have g0:(s.x:Int)<((p.aj.map λ(y:Nat)=>(y:Int)).length:Int):=by simp;omega
 generalize p.leq lvl k=aX at*
 have b4:((s.kind:Int)==4)=true:=by rw[e4];rfl
 rw[HR.out];generalize s.x=xx at*;generalize s.kind=kd at*;generalize (p.aj.map λ(y:Nat)=>(y:Int)).length=ln at*;clear h f0 key HR e4 hx ek b0 q1 q2 hl
 go_enter func99,ntmps99
 go_wp2_with fail
 rw[<-a0];clear a0 c0 c1 p0 p2 k2 q4 k0 t0 t1;refine Zm HS dA [17] [] [] (by kernel_rfl) (λ_ _ _ _ h=>h) (λops _=>?_)
 iterate 17 refine Zv rfl (by intros;go_simp<;>rfl) (by go_simp<;>rfl) ?_
 refine Zs ?_
 go_wp2_with fail
 refine(HC _ dA).mono ?_;rintro e1 W1 ⟨rfl,rfl⟩
 go_wp2_with fail
 refine⟨HS _ dA,?_⟩;refine Zv rfl (by intros;go_simp<;>rfl) (by go_simp<;>rfl) ?_;refine Zu ?_;go_wp2;go_ret;exact⟨rfl,e0.drew⟩
end
def Tryz.infoMove:(Tryz.prog.info? 206).map (λi=>(i.zero,i.size,i.bytes))=some (some (.agg #[.pointer none,I 0]),2,16):=by kernel_rfl
def zjy{xs:Vs}(h:w.ownsRow base e k v n xs)(hb:E w w'):w'.ownsRow base e k v n xs:=by
 have og:w.grownBy w' none:=⟨hb.os,hb.tape,hb.output,hb.size,λk hk _=>hb.block k hk⟩;exact h.kept og (by cases v.ownBlock<;>simp)
def mvC:List (Value×Int)->Vs
 |[]=>[]
 |q::l=>q.1:: I q.2::mvC l
def yp1:∀(l:List (Value×Int)),(mvC l).length=l.length*2
 |[]=>rfl
 |_::l=>by simp only[mvC,length_cons,yp1 l];omega
def zf6:∀(l m:List (Value×Int)),mvC (l++m)=mvC l++mvC m
 |[],_=>rfl
 |_::l,m=>by simp only[cons_append,mvC,zf6 l m]
def yw2:∀(l:List (Value×Int)) (i:Nat) (q:Value×Int),l[i]?=some q->(mvC l)[i*2]?=some q.1/\(mvC l)[i*2+1]?=some (I q.2)
 |[],_,_,h=>by cases h
 |q::l,0,q',h=>by cases h;exact⟨rfl,rfl⟩
 |q::l,i+1,q',h=>by
  have:=yw2 l i q' (by simpa using h);rw[show (i+1)*2=i*2+1+1 from by omega];exact this
def MvR(S:Nat->Prop)(w:World):List (Value×Int)->List (Fl.aa×Int)->Prop
 |[],[]=>True
 |q::qs,m::ms=>(q.2=m.2/\zsw S w q.1 m.1)/\MvR S w qs ms
 |_,_=>False
def MvR.len{S:Nat->Prop}{w:World}:∀{qs:List (Value×Int)} {ms:List (Fl.aa×Int)},MvR S w qs ms->qs.length=ms.length
 |[],[],_=>rfl
 |_::_,_::_,h=>by simp only[length_cons,MvR.len h.2]
def MvR.append{S:Nat->Prop}{w:World}:∀{qs:List (Value×Int)} {ms:List (Fl.aa×Int)} {qs':List (Value×Int)} {ms':List (Fl.aa×Int)},MvR S w qs ms->MvR S w qs' ms'->MvR S w (qs++qs') (ms++ms')
 |[],[],_,_,_,h=>h
 |_::_,_::_,_,_,h,h'=>⟨h.1,MvR.append h.2 h'⟩
def MvR.kept{S:Nat->Prop}{w w':World}(hw:∀b,S b->w'.heap[b]?=w.heap[b]?):∀{qs:List (Value×Int)} {ms:List (Fl.aa×Int)},MvR S w qs ms->MvR S w' qs ms
 |[],[],_=>trivial
 |_::_,_::_,h=>⟨⟨h.1.1,h.1.2.kept (λ_ h=>h) hw⟩,MvR.kept hw h.2⟩
def MvR.one{S:Nat->Prop}{w:World}:∀{qs:List (Value×Int)} {ms:List (Fl.aa×Int)},MvR S w qs ms->∀u∈mvC qs,u.oneCell'=true
 |[],[],_,_,h=>by cases h
 |q::_,_::_,h,u,hu=>by
  simp only[mvC,mem_cons]at hu;rcases hu with rfl|rfl|hu
  ·obtain⟨sb,e,-⟩:=h.1.2;rw[e];rfl
  ·rfl
  exact MvR.one h.2 u hu
def MvR.get{S:Nat->Prop}{w:World}:∀{qs:List (Value×Int)} {ms:List (Fl.aa×Int)},MvR S w qs ms->∀(i:Nat) (m:Fl.aa×Int),ms[i]?=some m->∃q,qs[i]?=some q/\q.2=m.2/\zsw S w q.1 m.1
 |[],[],_,_,_,h=>by cases h
 |q::_,_::_,h,0,m,hm=>by cases hm;exact⟨q,rfl,h.1.1,h.1.2⟩
 |_::_,_::_,h,i+1,m,hm=>by
  obtain⟨q,h1,h2⟩:=MvR.get h.2 i m (by simpa using hm);exact⟨q,by simpa using h1,h2⟩
def Up(S:Nat->Prop)(base:Nat)(w:World)(v:Value)(ms:List (Fl.aa×Int)):Prop:=
 ∃qs,w.ownsRow base 206 2 v ms.length (mvC qs)/\MvR S w qs ms/\(ms=[]->v=Zq)
def Up.nil(S:Nat->Prop)(base:Nat)(w:World):Up S base w Zq []:=⟨[],ownsRow_nil _ _ _ _,trivial,λ_=>rfl⟩
def Up.aI{ms:List (Fl.aa×Int)}(h:Up S base w v ms)(hb:E w w')(hS:∀b,S b->b<w.heap.size):Up S base w' v ms:=by
 obtain⟨qs,h1,h2,h3⟩:=h;exact⟨qs,zjy h1 hb,h2.kept (λb hs=>hb.block b (hS b hs)),h3⟩
def Up.lt{S:Nat->Prop}{base:Nat}{w:World}{v:Value}{ms:List (Fl.aa×Int)}(h:Up S base w v ms):∀g,v.ownBlock=some g->base<=g:=by
 obtain⟨qs,h1,-⟩:=h;exact λg hg=>(h1.lt g hg).1
def Up.push{v':Value}{ms ms':List (Fl.aa×Int)}{qs qs':List (Value×Int)}(hS:∀b,S b->b<base)(hb:base<=w.heap.size)(h1:w.ownsRow base 206 2 v ms.length (mvC qs))(h2:MvR S w qs ms)(h3:MvR S w qs' ms')(a0:ms'≠[])
  (ho:w'.ownsRow base 206 2 v' (ms.length+ms'.length) (mvC qs++mvC qs')) (hg:w.grownBy w' v.ownBlock):Up S base w' v' (ms++ms'):=by
 have hk:∀b,S b->w'.heap[b]?=w.heap[b]?:=λb hs=>hg.block b (by have:=hS b hs;omega) (λhh=>by have:=(h1.lt b hh.symm).1;have:=hS b hs;omega);refine⟨qs++qs',by rw[length_append,zf6];exact ho,(h2.kept hk).append (h3.kept hk),λh=>?_⟩;exact absurd (append_eq_nil_iff.1 h).2 a0
section
def zry{a:Act}(a0:o.guard=none)(s x:Operand)
  (ho:o.op=.call {callee:=.builtin .append,args:=#[s,x],argTypes:=#[203,203]})  {base':Nat} (hS:∀b,S b->b<base) (hb:base<=w.heap.size)
  {v2:Value} {ms ms':List (Fl.aa×Int)} (hs:a.eval s=v) (hx:a.eval x=v2) (h1:Up S base w v ms) (h2:Up S base' w v2 ms') (hl:ms.length+ms'.length<=4000000)
  (h:∀v' w',Up S base w' v' (ms++ms')->w.grownBy w' v.ownBlock->wpList prog ops Q rest (a.put o.dst v') w'):wpList prog ops Q (o::rest) a w:=by
 obtain⟨i0,b0,c0,d0,e0⟩:=info_parts Tryz.infoMove;obtain⟨qs,k1,k2,k3⟩:=h1;obtain⟨qs',m1,m2,m3⟩:=h2
 by_cases he:ms'=[]
 ·subst he
  refine wpList_append_own_none a0 s x 203 ho base 206 i0 2 underlying203 b0 v _ _ hs k1 (hx.trans (m3 rfl)) (h v w (by rw[append_nil];exact⟨qs,k1,k2,k3⟩) ?_);exact grownBy.refl _ _
 rcases id m1.2 with⟨rfl,h0⟩|⟨g,cap,cur,rfl,hg,-⟩
 ·exact absurd (Qi h0) he
 refine Uw _ a0 s x 203 ho base 206 i0 (.agg #[.pointer none,I 0]) 2 16 underlying203 b0 c0 d0 e0 rfl (by decide) v _ _ hs k1 (Y g 0) ms'.length cap (mvC qs') hx (by rw[yp1,m2.len]) (by have:ms'.length≠0:=λh=>he (Qi h);omega) (λj u hj=>m1.cells (g:=g) rfl j u hj) m2.one (by unfold maxLen;omega) (by omega) hb (λv' w' o1 o2 _=>h v' w' (Up.push hS hb k1 k2 m2 he o1 o2) o2)
def yw3{l:Vs}:∀j u,l[j]?=some u->(w.alloc (.cells l.toArray e)).cell? (((Y w.heap.size 0):Addr).add j)=some u:=by
 intro j u hj
 have h2:((Y w.heap.size 0):Addr).add j=(Y w.heap.size j):=by unfold Addr.add;split<;>simp_all
 rw[h2,cell?_alloc_new];simpa using hj
def zi2{a:Act}(b0:o.guard=none)(s x:Operand)
  (ho:o.op=.call {callee:=.builtin .append,args:=#[s,x],argTypes:=#[203,203]})   (hS:∀b,S b->b<base) (hb:base<=w.heap.size)
   {ms:List (Fl.aa×Int)} (pv:Value) (st:Fl.aa) (lv:Int) (hs:a.eval s=v) (hx:a.eval x=Sq w.heap.size 0 1 1) (h1:Up S base w v ms) (h2:zsw S w pv st) (hl:ms.length<=4000000)
  (h:∀v' w',Up S base w' v' (ms++[(st,lv)])->(w.alloc (.cells #[pv,I lv] 206)).grownBy w' v.ownBlock->wpList prog ops Q rest (a.put o.dst v') w'):wpList prog ops Q (o::rest) a (w.alloc (.cells #[pv,I lv] 206)):=by
 obtain⟨i0,c0,d0,e0,f0⟩:=info_parts Tryz.infoMove;have a0:E w (w.alloc (.cells #[pv,I lv] 206)):=bA;obtain⟨qs,k1,k2,k3⟩:=h1.aI a0 (λb hs=>by have:=hS b hs;omega);have h3:MvR S (w.alloc (.cells #[pv,I lv] 206)) [(pv,lv)] [(st,lv)]:=⟨⟨rfl,h2.kept (λ_ h=>h) (λb hs=>a0.block b (by have:=hS b hs;omega))⟩,trivial⟩
 have hz:base<=(w.alloc (.cells #[pv,I lv] 206)).heap.size:=by simp;omega
 refine Uw _ b0 s x 203 ho base 206 i0 (.agg #[.pointer none,I 0]) 2 16 underlying203 c0 d0 e0 f0 rfl (by decide) v _ _ hs k1 (Y w.heap.size 0) 1 1 [pv,I lv] hx rfl (by decide) yw3 (h3.one) (by unfold maxLen;omega) (by omega) hz (λv' w' o1 o2 _=>h v' w' (Up.push hS hz k1 k2 h3 (by simp) o1 o2) o2)
end
namespace Fl
def Small:Nat->List aa->Prop
 |0,l=>l=[]
 |d+1,l=>l.length<=16/\∀s∈l,Small d s.aZ/\Small d s.aP
def gu{f:aa->List (aa×Int)}{c:Nat}:∀(l:List aa),(∀s∈l,(f s).length<=c)->(l.flatMap f).length<=l.length*c
 |[],_=>by simp
 |s::l,h=>by
  have h1:=h s (by simp);have h2:=gu l (λx hx=>h x (by simp[hx]));rw[flatMap_cons,length_append,length_cons,Nat.succ_mul];omega
def gE{p:aV}{Wx:List aa->Int->List (aa×Int)}{c:Nat}(s:aa)(u:Int)(h1:∀u,(Wx s.aZ u).length<=c)(h2:∀u,(Wx s.aP u).length<=c):(aK Wx p vs u s).length<=1+2*c:=by
 unfold aK
 split
 ·simp
 split
 ·rw[length_append]
  have:=h1 (jn p u (aB p vs s.e));have:=h2 (jn p u (aB p vs s.e));omega
 simp
def eD(p:aV)(vs:Is):∀(d:Nat) (l:List aa) (u:Int),Small d l->(bx p vs d l u).length<=48 ^ d
 |0,_,_,_=>by simp[bx]
 |d+1,l,u,h=>by
  have hp:0<48 ^ d:=Nat.pow_pos (by decide)
  have h1:∀s∈l,(aK (bx p vs d) p vs u s).length<=3*48 ^ d:=λs hs=>by
   have:=gE (p:=p) (vs:=vs) (c:=48 ^ d) s u (λu=>eD p vs d _ u (h.2 s hs).1) (λu=>eD p vs d _ u (h.2 s hs).2);omega
  have h2:=gu l h1;have h3:l.length*(3*48 ^ d)<=16*(3*48 ^ d):=Nat.mul_le_mul_right _ h.1;rw[Nat.pow_succ];show (l.flatMap _).length<=_;omega
def lG{f:aa->List (aa×Int)}{l:List aa}(h:k<l.length):(l.take (k+1)).flatMap f=(l.take k).flatMap f++f (l.getD k noS):=by
 rw[take_succ_eq_append_getElem h,flatMap_append,Qa,Qb h];simp
end Fl
def Zl.small{S:Nat->Prop}{w:World}:∀(d:Nat) (v:Value) (l:List Fl.aa),Zl d S w v l->Fl.Small d l
 |0,_,_,h=>h.1
 |d+1,v,l,h=>by
  obtain⟨ao,cap,-,-,-,a0,hc⟩:=h;refine⟨a0,λs hs=>?_⟩;obtain⟨i,hi,rfl⟩:=getElem_of_mem hs;obtain⟨b,off,-,-,h1⟩:=hc (by intro e;rw[e]at hi;cases hi);obtain⟨p,-,sb,vp,fv,ev,-,-,-,-,h2,h3⟩:=h1 i hi;rw[Qa,Qb hi]at h2 h3;exact⟨Zl.small d _ _ h2,Zl.small d _ _ h3⟩
def zw9(S:Nat->Prop)(w:World)(ms:List (Fl.aa×Int))(e:Ending)(w':World):Prop:=∃v,e=.returned v/\Up S w.heap.size w' v ms/\E w w'
def zu9{p:Fl.aV}(h:p.Lv)(ok:Fl.di p vs){e:Fl.da}(ho:Fl.bI vs.length e):∃k:Nat,k<p.n/\Fl.aB p vs e=(k:Int):=by
 have hv:=zu8 ho;obtain⟨a,ha,ea⟩:=zx2 h ok.2 hv.1;unfold Fl.aB
 by_cases h0:e.op<0
 ·rw[G h0];exact⟨a,ha,ea⟩
 rw[Z h0];obtain⟨b,hb,eb⟩:=zx2 h ok.2 (hv.2 (by omega));obtain⟨k,h1,h2⟩:=h.join ha hb;exact⟨k,h1,by unfold Fl.jn;rw[ea,eb];exact h2⟩
section
variable{p:Fl.aV}
def yw4(d:Nat)(hd:d<=3)(IH:∀W,E w W->∀(v:Value) (l:List Fl.aa) (u:Nat),Zl d S W v l->Fl.aY vs.length p.aj.length d l->u<p.n->F 140 #[M Fb,v,I u] W (zw9 S W (Fl.bx p vs d l u)))
  (h:Vd w Fb Pb Lb bC bH bv vv S p vs) (v:Value) (l:List Fl.aa) (u:Nat) (hl:Zl (d+1) S w v l) (ho:Fl.aY vs.length p.aj.length (d+1) l) (hu:u<p.n):
  F 140 #[M Fb,v,I u] w (zw9 S w (Fl.bx p vs (d+1) l u)):=by
 have D0:=Zl.small _ _ _ hl;have L0:48 ^ d<=110592:=by
  have:d=0\/d=1\/d=2\/d=3:=by omega
  rcases this with rfl|rfl|rfl|rfl<;>decide
 have l0:∀s∈l,(Fl.aK (Fl.bx p vs d) p vs u s).length<=221185:=λs hs=>by
  have:=Fl.gE (p:=p) (vs:=vs) (c:=48 ^ d) s u (λu=>Fl.eD p vs d _ u (D0.2 s hs).1) (λu=>Fl.eD p vs d _ u (D0.2 s hs).2);omega
 have H1:=D0.1
 have m0:O (∀k,((l.take k).flatMap (Fl.aK (Fl.bx p vs d) p vs u)).length<=3538960):=λk=>by
  have h1:=Fl.gu (l.take k) (λs hs=>l0 s (mem_of_mem_take hs));have h2:(l.take k).length<=16:=(by rw[length_take];omega);have h3:(l.take k).length*221185<=16*221185:=Nat.mul_le_mul_right _ h2;omega
 have M0:O (Fl.bx p vs (d+1) l u=(l.take l.length).flatMap (Fl.aK (Fl.bx p vs d) p vs u)):=by show _=_;rw[take_length];rfl
 obtain⟨ao,cap,rfl,t1,u1,-,n0⟩:=id hl;have o0:=A n0;have HH:=A h;have N0:=A IH;have HO:=A ho
 have I1:(l.length:Int)<=16:=by omega
 unfold maxLen at u1;clear h IH ho n0 hl l0 L0 D0
 go_enter func140,ntmps140
 go_wp2
 go_loopw [7,13] (λv i wr=>∃(k:Nat),k<=l.length/\i=I k/\Up S w.heap.size wr v ((l.take k).flatMap (Fl.aK (Fl.bx p vs d) p vs u))/\E w wr) (λ_ i _=>l.length - (intOf i).toNat)
 case atStart=>exact⟨0,by omega,rfl,Up.nil _ _ _,Below.refl _ _⟩
 case round=>
  obtain⟨k,hk,rfl,E0,a0⟩:=hrel
  by_cases h0:k<l.length
  ·obtain⟨b,off,rfl,X0,i0⟩:=o0 (by intro e;rw[e]at h0;cases h0)
   obtain⟨pv,Y0,dx⟩:=i0 k h0;obtain⟨s,hs⟩:=U (l.getD k noS);have dK:s∈l:=(by rw[hs,Qa,Qb h0];exact getElem_mem h0);have q0:O ((l.take (k+1)).flatMap (Fl.aK (Fl.bx p vs d) p vs u)=(l.take k).flatMap (Fl.aK (Fl.bx p vs d) p vs u)++Fl.aK (Fl.bx p vs d) p vs u s):=(by rw[hs];exact Fl.lG h0);rw[<-hs]at dx;obtain⟨sb,vp,fv,ev,rfl,O0,e0,t0,Z0,a1⟩:=dx;obtain⟨j0,b0,u0,v0⟩:=HO s dK;have ee:b<w.heap.size:=HH.hS b X0;have cH:sb<w.heap.size:=HH.hS sb O0;have P0:=a0.size;have q:∀j,wr.cell? (Y sb j)=w.cell? (Y sb j):=λj=>a0.cell (p:=(Y sb j)) cH;have f0:D wr b (off+k) (M sb):=cT a0 ee Y0;have s0:D wr sb 0 (I s.kind):=(q 0).trans (e0.c 0 (by omega));have k5:D w sb 5 ev:=e0.c 5 (by omega);have s3:D wr sb 3 vp:=(q 3).trans (e0.c 3 (by omega));have s4:D wr sb 4 fv:=(q 4).trans (e0.c 4 (by omega));have s5:D wr sb 5 ev:=(q 5).trans (e0.c 5 (by omega));have v1:O (zsw S w (M sb) s):=⟨sb,rfl,O0,e0.c 0 (by omega),e0.c 1 (by omega),e0.c 2 (by omega)⟩;have HR:O (Vd wr Fb Pb Lb bC bH bv vv S p vs):=HH.below a0;obtain⟨vl,Q0,evl⟩:=zu9 HH.lv.lv HH.ok b0;obtain⟨lv,b1,elv⟩:=HH.lv.lv.join hu Q0;have F0:O (Fl.jn p u (Fl.aB p vs s.e)=(lv:Int)):=(by show _=_;unfold Fl.jn;rw[evl];exact elv);have c0:=HR.c0;have p0:=HR.lv.p0;have hF:=HR.hF;have hP:=HR.lv.hz.1;have HS:O (∀W,E wr W->D W Fb 0 (M Pb)/\D W Pb 0 (M Lb)/\D W sb 3 vp):=λW hW=>⟨cT hW hF c0,cT hW hP p0,cT hW (by show sb<_;omega) s3⟩
   have c1:O (∀W,E wr W->F 166 #[M Fb,vp] W λr w'=>r=.returned (I (vl:Nat))/\E W w'):=λW hW=>by
    have x1:E w W:=a0.trans (hW.mono P0);have:=zsv (HR.below hW) (t0.kept (λ_ h=>h) (λb hb=>x1.block b (HH.hS b hb))) b0;rw[evl]at this;exact this
   have HJ:O (∀W,E wr W->F 100 #[M Lb,I u,I vl] W λr w'=>r=.returned (I (lv:Nat))/\w'=W):=λW hW=>by
    have:=zn4 (HR.lv.below hW).la HH.lv.lv.n6 u vl hu Q0;rw[elv]at this;exact this
   have G0:O (∀W,E w W->Zl d S W fv s.aZ/\Zl d S W ev s.aP):=λW hW=>⟨Zl.kept (λ_ h=>h) (λb hb=>hW.block b (HH.hS b hb)) _ _ _ Z0,Zl.kept (λ_ h=>h) (λb hb=>hW.block b (HH.hS b hb)) _ _ _ a1⟩;have H0:O (Fl.aY vs.length p.aj.length d s.aZ/\Fl.aY vs.length p.aj.length d s.aP):=⟨u0,v0⟩;have k0:=A HH.hS;have d1:=A E0;have y1:(k:Int)<(l.length:Int):=(by omega);have f1:=A h0;clear i0 Y0 X0 e0 t0 Z0 a1 u0 v0 b0 dK E0 evl elv q hs O0 h0
   go_wp2_with fail
   refine Zm HS dA [13,14] [] [] (by kernel_rfl) (λ_ _ _ _ h=>h) (λops _=>?_)
   iterate 13 refine Zv rfl (by intros;go_simp<;>rfl) (by go_simp<;>rfl) ?_
   refine Zs ?_
   go_wp2_with fail
   refine(c1 _ dA).mono ?_;rintro e1 W9 ⟨rfl,g1⟩;have g0:O (E wr W9):=dA.trans g1;clear g1
   go_wp2_with fail
   refine⟨HS _ g0,?_⟩;refine Zs ?_
   go_wp2_with fail
   refine(HJ _ g0).mono ?_;rintro e2 W1 ⟨rfl,rfl⟩
   go_wp2_with fail
   refine⟨HS _ g0,?_⟩;refine Zv rfl (by intros;go_simp<;>rfl) (by go_simp<;>rfl) ?_;refine Zu ?_;have x0:O (E w W1):=a0.trans (g0.mono P0);have I0:w.heap.size<=W1.heap.size:=x0.size;have y0:O (Up S w.heap.size W1 u7 ((l.take k).flatMap (Fl.aK (Fl.bx p vs d) p vs u))):=d1.aI g0 (λb hb=>Qj (k0 b hb) P0);have r0:D W1 sb 0 (I s.kind):=cT g0 (by show sb<_;omega) s0;have r4:D W1 sb 4 fv:=cT g0 (by show sb<_;omega) s4;have r5:D W1 sb 5 ev:=cT g0 (by show sb<_;omega) s5;have z1:O (∀W,E w W->D W sb 5 ev):=λW hW=>cT hW cH k5;clear s0 s3 s4 s5 c0 p0 f0 k5 c1 HJ HS g0 HR d1 hF hP Q0 o0 HH
   have A1:(s.kind=3\/s.kind=4)\/(s.kind=5\/s.kind=6):=by rcases j0 with h|h|h|h<;>omega
   clear j0;rcases A1 with i1|j1
   ·have HM:O (Fl.aK (Fl.bx p vs d) p vs u s=[(s,(lv:Int))]):=by show _=_;unfold Fl.aK;rw[G i1,F0.out]
    have B1:=m0 k;rcases i1 with h3|h4
    all_goals
     first|(rw[h3]at r0;clear h3)|(rw[h4]at r0;clear h4)
     go_wp2_with (at_builtin;refine zi2 rfl (.tmp 39) (.tmp 43) rfl k0 I0 (M sb) s (lv:Int) rfl rfl y0 (v1.kept (λ_ h=>h) (λb hb=>x0.block b (k0 b hb))) (by omega) ?_)
     intro v' W2 z0 k1;have C1:E w W2:=(x0.alloc I0 _).grown k1 (by simp;omega) (λg hg=>y0.lt g hg);have d0:Up S w.heap.size W2 v' ((l.take (k+1)).flatMap (Fl.aK (Fl.bx p vs d) p vs u)):=(by rw[q0.out,HM.out];exact z0);have J0:=A d0;clear z0 d0 k1 HM y0 q0 B1 r0 r4 r5 G0 H0 F0;go_wp2
     go_roundw
     case rel=>exact⟨k+1,by have:=f1.out;omega,by go_num,J0,C1⟩
     case measure=>simp[intOf];omega
   obtain⟨m1,R0⟩:=U (Fl.bx p vs d s.aZ lv);obtain⟨m2,S0⟩:=U (Fl.bx p vs d s.aP lv);have HM:O (Fl.aK (Fl.bx p vs d) p vs u s=m1++m2):=(by show _=_;unfold Fl.aK;rw[Z (by omega),G j1,F0.out,R0,S0]);have l1:O (((l.take k).flatMap (Fl.aK (Fl.bx p vs d) p vs u)).length+(m1.length+m2.length)<=3538960):=by
    have:=m0 (k+1);rw[q0.out,HM.out,length_append,length_append]at this;exact this
   have D1:O (∀W,E w W->F 140 #[M Fb,fv,I lv] W (zw9 S W m1)):=λW hW=>by rw[R0];exact N0 W hW fv s.aZ lv (G0 W hW).1 H0.1 b1
   have E1:O (∀W,E w W->F 140 #[M Fb,ev,I lv] W (zw9 S W m2)):=λW hW=>by rw[S0];exact N0 W hW ev s.aP lv (G0 W hW).2 H0.2 b1
   generalize hms:(l.take k).flatMap (Fl.aK (Fl.bx p vs d) p vs u)=ms at*;clear R0 S0 G0 H0 F0 N0 r5;rcases j1 with h5|h6
   all_goals
    first|(rw[h5]at r0;clear h5)|(rw[h6]at r0;clear h6)
    go_wp2_with fail
    refine(D1 _ x0).mono ?_;rintro e W2 ⟨v2,rfl,hA,hB⟩;have HA:=A hA;have T0:O (E w W2):=x0.trans (hB.mono I0);have n1:w.heap.size<=W2.heap.size:=T0.size;have U0:O (Up S w.heap.size W2 u7 ms):=y0.aI hB (λb hb=>Qj (k0 b hb) I0);have o1:ms.length+m1.length<=4000000:=(by have:=l1.out;omega);clear hA hB y0
    go_wp2_with (at_builtin;refine zry rfl (.tmp 48) (.tmp 55) rfl k0 n1 rfl rfl U0 HA o1 ?_)
    intro v3 W3 d0 A0;have K0:O (E w W3):=T0.grown A0 (by omega) (λg hg=>U0.lt g hg);have p1:w.heap.size<=W3.heap.size:=K0.size;have J0:=A d0;have r5:D W3 sb 5 ev:=z1 _ K0.out;clear d0 A0 U0 HA T0 n1 o1 r4
    go_wp2_with fail
    refine(E1 _ K0).mono ?_;rintro e W4 ⟨v4,rfl,hA,hB⟩;have HA:=A hA;have V0:O (E w W4):=K0.trans (hB.mono p1);have q1:w.heap.size<=W4.heap.size:=V0.size;have W0:O (Up S w.heap.size W4 v3 (ms++m1)):=J0.aI hB (λb hb=>Qj (k0 b hb) p1);have r1:(ms++m1).length+m2.length<=4000000:=(by have:=l1.out;rw[length_append];omega);clear hA hB J0 r5
    go_wp2_with (at_builtin;refine zry rfl (.tmp 57) (.tmp 64) rfl k0 q1 rfl rfl W0 HA r1 ?_)
    intro v5 W5 B0 C0;have F1:E w W5:=V0.grown C0 (by omega) (λg hg=>W0.lt g hg);have G1:O (Up S w.heap.size W5 v5 ((l.take (k+1)).flatMap (Fl.aK (Fl.bx p vs d) p vs u))):=(by rw[q0.out,HM.out];exact B0);clear B0 C0 HM W0 q0 HA V0 q1 r1 r0;go_wp2
    go_roundw
    case rel=>exact⟨k+1,by have:=f1.out;omega,by go_num,G1,F1⟩
    case measure=>simp[intOf];omega
  have s1:k=l.length:=(by omega);have HF:O (Up S w.heap.size wr u7 ((l.take l.length).flatMap (Fl.aK (Fl.bx p vs d) p vs u))):=(by rw[<-s1];exact E0);clear E0 s1;go_wp2;go_ret;exact⟨_,rfl,by rw[M0.out];exact HF.out,a0⟩
def yw5(u:Nat):F 140 #[M Fb,Zq,I u] w (zw9 S w []):=by
 go_enter func140,ntmps140
 go_wp2
 go_loopw [7,13] (λv i wr=>i=I 0/\v=Zq/\wr=w) (λ_ i _=>0)
 case atStart=>exact⟨rfl,rfl,rfl⟩
 case round=>
  obtain⟨rfl,rfl,rfl⟩:=hrel;go_wp2;go_ret;exact⟨_,rfl,Up.nil _ _ _,Below.refl _ _⟩
def zi4:∀(d:Nat),d<=4->∀(w:World),Vd w Fb Pb Lb bC bH bv vv S p vs->∀(v:Value) (l:List Fl.aa) (u:Nat),Zl d S w v l->Fl.aY vs.length p.aj.length d l->u<p.n->
  F 140 #[M Fb,v,I u] w (zw9 S w (Fl.bx p vs d l u))
 |0,_,w,_,v,l,u,hl,_,_=>by
  obtain⟨rfl,rfl⟩:=hl;exact yw5 u
 |d+1,hd,w,h,v,l,u,hl,ho,hu=>yw4 d (by omega) (λW hW v l u a b c=>zi4 d (by omega) W (h.below hW) v l u a b c) h v l u hl ho hu
def zbx(h:Vd w Fb Pb Lb bC bH bv vv S p vs):F 97 #[M Fb] w (zw9 S w (Fl.bx p vs 4 p.aZ (aI p))):=by
 have hF:=h.hF;have hP:=h.lv.hz.1;have HS:O (∀W,E w W->D W Fb 0 (M Pb)/\D W Pb 4 bv/\D W Pb 0 (M Lb)):=λW hW=>⟨(h.below hW).c0,(h.below hW).p4,(h.below hW).lv.p0⟩;obtain⟨lw,a0⟩:=U (eY p.n p.leq)
 have HL:O (∀W,E w W->F 96 #[M Lb] W (Rq (I lw) W)):=λW hW=>by rw[a0];exact zsx (h.below hW).lv.la
 have b0:lw<p.n:=by have:=h.lv.lv.aI;unfold aI at this;omega
 have e1:aI p=(lw:Int):=by unfold aI;rw[a0]
 have d0:Fl.aY vs.length p.aj.length 4 p.aZ:=by rw[h.ok.1];exact h.pk.aZ
 have HC:O (∀W,E w W->F 140 #[M Fb,bv,I lw] W (zw9 S W (Fl.bx p vs 4 p.aZ (aI p)))):=λW hW=>by
  rw[e1];exact zi4 4 (by omega) W (h.below hW) bv p.aZ lw (h.below hW).bo d0 b0
 generalize Fl.bx p vs 4 p.aZ (aI p)=aX at*;have e0:=h.hS;have f0:=A e0;clear h a0 e1 d0 b0 e0
 go_enter func97,ntmps97
 go_wp2_with fail
 refine Zm HS dA [15,16] [] [] (by kernel_rfl) (λ_ _ _ _ h=>h) (λops _=>?_)
 iterate 15 refine Zv rfl (by intros;go_simp<;>rfl) (by go_simp<;>rfl) ?_
 refine Zs ?_
 go_wp2_with fail
 refine(HL _ dA).mono ?_;rintro e1 W1 ⟨rfl,rfl⟩
 go_wp2_with fail
 refine⟨HS _ dA,?_⟩;refine Zs ?_
 go_wp2_with fail
 refine(HC _ dA).mono ?_;rintro e2 W2 ⟨v2,rfl,hA,hB⟩;have HB:O (E w W2):=dA.trans hB;have HA:=A hA;clear hA hB
 go_wp2_with fail
 refine⟨HS _ HB,?_⟩;refine Zv rfl (by intros;go_simp<;>rfl) (by go_simp<;>rfl) ?_;refine Zu ?_;go_wp2;go_ret;exact⟨_,rfl,HA,HB⟩
end
def zx3{p:Fl.aV}{vs:Is}(h:p.Lv)(ok:Fl.di p vs):∀(d:Nat) (l:List Fl.aa) (u:Nat),Fl.aY vs.length p.aj.length d l->u<p.n->∀m∈Fl.bx p vs d l u,PlOk p vs m.1/\∃k:Nat,k<p.n/\m.2=(k:Int)
 |0,_,_,_,_,m,hm=>by cases hm
 |d+1,l,u,ho,hu,m,hm=>by
  obtain⟨s,hs,hm⟩:=mem_flatMap.1 (show m∈l.flatMap (Fl.aK (Fl.bx p vs d) p vs u) from hm);obtain⟨hk,he,h1,h2⟩:=ho s hs;obtain⟨vl,b0,evl⟩:=zu9 h ok he;obtain⟨lv,a0,elv⟩:=h.join hu b0;have ej:Fl.jn p u (Fl.aB p vs s.e)=(lv:Int):=(by unfold Fl.jn;rw[evl];exact elv);unfold Fl.aK at hm;rw[ej]at hm
  split at hm
  ·rename_i c0
   rw[mem_singleton]at hm;subst hm;refine⟨?_,lv,a0,rfl⟩;rcases hk with h|h|h|h
   ·exact .inl h
   ·exact .inr h
   ·omega
   omega
  split at hm
  ·rcases mem_append.1 hm with hm|hm
   ·exact zx3 h ok d _ lv h1 a0 m hm
   exact zx3 h ok d _ lv h2 a0 m hm
  cases hm
def m0:Fl.aa×Int:=(noS,0)
def zf7{α:Type}{f:α->Bool}{l:List α}(h:∀t,(ht:t<l.length)->f l[t]=false):l.find? f=none:=by
 rw[find?_eq_none];intro x hx;obtain⟨i,hi,rfl⟩:=getElem_of_mem hx;rw[h i hi];simp
def zjx{α:Type}{f:α->Bool}:∀{l:List α} {k:Nat} (hk:k<l.length),(∀t,(ht:t<k)->f (l[t]'(by omega))=false)->f l[k]=true->l.find? f=some l[k]
 |a::l,0,_,_,h=>by simp only[getElem_cons_zero]at h⊢;rw[find?_cons,h]
 |a::l,k+1,hk,hb,h=>by
  have h0:=hb 0 (by omega);simp only[getElem_cons_zero]at h0;rw[find?_cons,h0];simp only[getElem_cons_succ];exact zjx (by simpa using hk) (λt ht=>by have:=hb (t+1) (by omega);simpa using this) (by simpa using h)
section
variable{p:Fl.aV}
def yy6(h:Vd w Fb Pb Lb bC bH bv vv S p vs):F 52 #[M Fb] w (Rw (I (cY p vs)) w):=by
 have E0:Fl.aY vs.length p.aj.length 4 p.aZ:=by rw[h.ok.1];exact h.pk.aZ
 obtain⟨lw,c0,elw⟩:∃lw:Nat,lw<p.n/\aI p=(lw:Int):=⟨(aI p).toNat,by have:=h.lv.lv.aI;omega,by have:=h.lv.lv.aI;omega⟩;have q0:=zx3 h.lv.lv h.ok 4 p.aZ lw E0 c0;have r0:(Fl.bx p vs 4 p.aZ lw).length<=48 ^ 4:=Fl.eD p vs 4 p.aZ lw (Zl.small _ _ _ h.bo);rw[<-elw]at q0 r0;have HC:O (F 97 #[M Fb] w (zw9 S w (Fl.bx p vs 4 p.aZ (aI p)))):=zbx h;have HD:O (cY p vs=match (Fl.bx p vs 4 p.aZ (aI p)).find? (λm=> !Fl.bp p vs m) with|some m=>m.1.ap|none=>0):=rfl;obtain⟨ms,F0⟩:=U (Fl.bx p vs 4 p.aZ (aI p));rw[<-F0]at q0 r0 HC HD;have I0:=A q0;have hle':ms.length<=5308416:=r0;have HH:=A h;obtain⟨aX,l0⟩:=U (cY p vs);rw[<-l0]at HD⊢;clear h E0 c0 elw q0 r0 F0 l0
 go_enter func52,ntmps52
 go_wp2_with fail
 refine HC.mono ?_;rintro e W1 ⟨v,rfl,x0,m0⟩;have J0:=A x0;have n0:=A m0;obtain⟨ao,cap,K0,L0⟩:∃ao cap,v=J ao ms.length cap/\ms.length<=cap:=by
  obtain⟨qs,h1,-,-⟩:=x0;rcases h1.2 with⟨rfl,h0⟩|⟨g,cap,cur,rfl,-,-,hc,-⟩
  ·exact⟨none,0,by rw[h0],by omega⟩
  exact⟨_,cap,rfl,hc⟩
 subst K0;clear HC x0 m0
 go_wp2_with fail
 go_loopw [8] (λi wr=>∃(k:Nat),k<=ms.length/\i=I k/\(∀t,(ht:t<k)->(ht':t<ms.length)->Fl.bp p vs ms[t]=true)/\E W1 wr) (λi _=>ms.length - (intOf i).toNat)
 case atStart=>exact⟨0,by omega,rfl,λt ht=>absurd ht (by omega),Below.refl _ _⟩
 case round=>
  obtain⟨k,hk,rfl,b0,o0⟩:=hrel
  by_cases c0:k<ms.length
  ·obtain⟨qs,h1,h2,-⟩:=J0.aI o0 (λb hb=>Qj (HH.hS b hb) n0.size)
   obtain⟨mk,d0⟩:=U (ms[k]'c0);obtain⟨q,y0,z0,s0⟩:=h2.get k mk (by rw[d0];exact Qb c0);obtain⟨A0,lk,B0,elk⟩:=I0 mk (by rw[d0];exact getElem_mem c0);obtain⟨c1,c2⟩:=yw2 qs k q y0;rcases id h1.2 with⟨e0,h0⟩|⟨g,cap',cur,e0,G0,H0,-⟩
   ·omega
   injection e0 with e0 e00 e01;subst e0;subst e01;have a0:=h1.cells (g:=g) rfl _ _ c1;have a1:=h1.cells (g:=g) rfl _ _ c2
   have ad:∀j,((Y g 0):Addr).add j=(Y g j):=λj=>by unfold Addr.add;split<;>simp_all
   rw[ad]at a0 a1;obtain⟨sb,eq1,M0,k0,k1,k2⟩:=id s0;rw[eq1]at a0;rw[z0,elk]at a1;have N0:(k:Int)<(ms.length:Int):=(by omega);have C0:O (E w wr):=n0.trans (o0.mono n0.size);have u0:=C0.size;have cH:sb<wr.heap.size:=Qj (HH.hS sb M0) u0
   have g0:O (∀W,E wr W->F 99 #[M Fb,.agg #[M sb,I lk]] W λr w'=>r=.returned (.bool (Fl.bp p vs mk))/\E W w'):=λW hW=>by
    have h5:=zby (HH.below (C0.trans (hW.mono u0))) (s0.kept (λ_ h=>h) (λb hb=>hW.block b (Qj (HH.hS b hb) u0))) lk B0 A0;rw[eq1,<-elk]at h5;rw[elk]at h5;rw[show mk=(mk.1,(lk:Int)) from by rw[<-elk]];exact h5
   have D0:O (∀W,E wr W->D W sb 1 (I mk.1.ap)):=λW hW=>cT hW cH k1;have p0:=A b0;obtain⟨W2,f0⟩:=U (wr.alloc (.cells #[M sb,I lk] 206));have i0:O (E wr W2):=(by show Below _ _ _;rw[f0];exact bA);have t0:W2.cell? (Y wr.heap.size 0)=some (M sb):=(by rw[f0];simp);have O0:wr.heap.size<W2.heap.size:=(by rw[f0];simp);have P0:=A c0
   cases hf:Fl.bp p vs mk
   ·have HR:O (aX=mk.1.ap):=by
     have h5:=HD.out;rw[zjx (f:=λm=> !Fl.bp p vs m) c0 (λt ht=>by show (!Fl.bp p vs _)=false;rw[p0 t ht (by omega)];rfl) (by show (!Fl.bp p vs _)=true;rw[<-d0];exact congrArg (λb=> !b) hf)]at h5;rw[d0];exact h5
    rw[hf]at g0;generalize mk.1.ap=ln at*;clear b0 hf d0 h1 h2 y0 z0 s0 A0 c1 c2 G0 H0 ad k0 k1 k2 eq1 elk B0
    go_wp2_with fail
    rw[<-f0];refine(g0 _ i0).mono ?_;rintro e W3 ⟨rfl,j0⟩;have v0:O (E wr W3):=i0.trans (j0.mono i0.size);have t3:D W3 wr.heap.size 0 (M sb):=cT j0 O0 t0;have l3:D W3 sb 1 (I ln):=D0 _ v0.out;clear j0 f0 a0 a1 t0 D0 g0;go_wp2;go_ret;exact⟨by first|(rw[HR.out];done)|(have h6:=HR.out;subst h6;rfl)|(rw[HR.out];rfl),C0.trans (v0.mono u0)⟩
   have HN:O (∀t,(ht:t<k+1)->(ht':t<ms.length)->Fl.bp p vs ms[t]=true):=λt ht ht'=>by
    by_cases Q0:t=k
    ·subst Q0;rw[<-d0];exact hf
    exact p0 t (by omega) ht'
   rw[hf]at g0;clear b0 hf d0 h1 h2 y0 z0 s0 A0 c1 c2 G0 H0 ad k0 k1 k2 eq1 elk B0
   go_wp2_with fail
   rw[<-f0];refine(g0 _ i0).mono ?_;rintro e W3 ⟨rfl,j0⟩;have v0:O (E wr W3):=i0.trans (j0.mono i0.size);have R0:E W1 W3:=o0.trans (v0.mono o0.size);clear j0 f0 a0 a1 t0 D0 g0;go_wp2
   go_roundw
   case rel=>exact⟨k+1,by have:=P0.out;omega,by go_num,λt ht S0=>HN t ht S0,R0⟩
   case measure=>simp[intOf];omega
  have HR:O (aX=0):=by
   have h5:=HD.out;rw[zf7 (f:=λm=> !Fl.bp p vs m) (λt ht=>by show (!Fl.bp p vs _)=false;rw[b0 t (by omega) ht];rfl)]at h5;exact h5
  clear b0;go_wp2;go_ret;exact⟨by rw[HR.out];rfl,n0.trans (o0.mono n0.size)⟩
end
end Go.Proofs.YtjmcibbdedlcoaaGreatDoor
namespace Go.Proofs.YtjmcibbdedlcoaaGreatDoor
open Go.Proofs.Tryz List World Value Fl
variable{S:Nat->Prop}{w w':World}{v bC bH bv vv:Value}{i Fb Pb Lb base k n a b B cap p q:Nat}{vs xs:Is}{e:TypeId}{ops:Array Oper}{rest:List Oper}{o:Oper}{Q:Exit->Act->World->Prop}{s:K}{ao:Option Addr}{m:Int}
namespace Fl
def lp{α:Type}{f g:α->Bool}:∀(l:List α),(∀x∈l,f x=true->g x=true)->(l.filter f).length<=(l.filter g).length
 |[],_=>Nat.le_refl _
 |a::l,h=>by
  have ih:=lp l (λx hx=>h x (by simp[hx]));have h0:=h a (by simp);rw[filter_cons,filter_cons]
  cases hf:f a
  ·cases g a<;>simp<;>omega
  rw[h0 hf];simp;exact ih
def lh{α:Type}{f g:α->Bool}:∀(l:List α) (y:α),y∈l->(∀x∈l,f x=true->g x=true)->g y=true->f y=false->(l.filter f).length<(l.filter g).length
 |[],_,hy,_,_,_=>by cases hy
 |a::l,y,hy,h,hg,hf=>by
  rcases mem_cons.1 hy with rfl|hy
  ·have:=lp l (λx hx=>h x (by simp[hx]))
   rw[filter_cons,filter_cons,hg,hf];simp;omega
  have ih:=lh l y hy (λx hx=>h x (by simp[hx])) hg hf;have h0:=h a (by simp);rw[filter_cons,filter_cons]
  cases a0:f a
  ·cases g a<;>simp<;>omega
  rw[h0 a0];simp;exact ih
def iD(p:aV)(v:Int):Nat:=((range p.n).filter λy=>p.leq v.toNat y).length
def mS(p:aV)(v:Int):iD p v<=p.n:=by
 unfold iD;have:=length_filter_le (λy=>p.leq v.toNat y) (range p.n);rw[length_range]at this;exact this
def mR{p:aV}(h:p.Lv){a b:Int}(ha:0<=a/\a<p.n)(hb:0<=b/\b<p.n)(hn:p.leq b.toNat a.toNat=false):iD p (Fl.jn p a b)<iD p a:=by
 obtain⟨k,h1,h2,h3,h4,h5⟩:=h.fA.lu a.toNat b.toNat (by omega) (by omega)
 have e:(Fl.jn p a b).toNat=k:=by unfold Fl.jn;rw[h2];simp
 unfold iD;rw[e];refine lh _ a.toNat (by simp;omega) (λx hx hk=>?_) (h.fA.refl _ (by omega)) ?_
 ·rw[mem_range]at hx
  exact h.fA.trans a.toNat k x (by omega) h1 hx h3 hk
 cases hc:p.leq k a.toNat
 ·rfl
 have:=h.fA.trans b.toNat k a.toNat (by omega) h1 (by omega) h4 hc
 rw[hn]at this;cases this
def iC(p:aV)(vs:Is):Nat:=((vs.drop p.cells.length).map (iD p)).sum
def lg{f:Int->Nat}{v:Int}:∀(l:Is) (i:Nat) (h:i<l.length),f v<f l[i]->((l.set i v).map f).sum<(l.map f).sum
 |a::l,0,_,hv=>by simp at hv⊢;omega
 |a::l,i+1,h,hv=>by
  have ih:=lg l i (by simpa using h) (by simpa using hv);rw[set_cons_succ,map_cons,map_cons,sum_cons,sum_cons];omega
def mQ{f:Int->Nat}{c:Nat}:∀(l:Is),(∀x,f x<=c)->(l.map f).sum<=l.length*c
 |[],_=>by simp
 |a::l,h=>by
  have:=mQ l h;have:=h a;simp[Nat.succ_mul];omega
def lf{p:aV}(h:p.Lv)(ho:p.Ok)(hv:di p vs):iC p vs<25:=by
 have h1:=mQ (f:=iD p) (c:=6) (vs.drop p.cells.length) (λx=>Nat.le_trans (mS p x) h.n6)
 have h2:(vs.drop p.cells.length).length<=4:=by rw[length_drop,hv.1];have:=ho.lo;omega
 unfold iC;omega
def mP{p:aV}(hv:di p vs)(x:Nat){v:Int}(h:0<=v/\v<p.n):di p (vs.set x v):=by
 refine⟨by rw[length_set];exact hv.1,λi hi=>?_⟩;rw[length_set]at hi;rw[Qa,getElem?_set]
 split
 ·split
  ·exact h
  omega
 have:=hv.2 i hi;rw[Qa]at this;exact this
def iU{p:aV}(h:p.Lv)(hv:di p vs){m:aa×Int}(hm:PlOk p vs m.1/\∃k:Nat,k<p.n/\m.2=(k:Int))(hl:bU p m.1=true)(hf:bp p vs m=false):
  di p (vs.set m.1.x (jn p (vs.getD m.1.x 0) m.2))/\iC p (vs.set m.1.x (jn p (vs.getD m.1.x 0) m.2))<iC p vs:=by
 obtain⟨hp,k,hk,ek⟩:=hm;unfold bU at hl;rw[Qk,Qn,Qn]at hl
 have hx:m.1.x<vs.length:=by rcases hp with h|h<;>omega
 have a0:=hv.2 m.1.x hx
 have b0:0<=m.2/\m.2<p.n:=by rw[ek];omega
 refine⟨mP hv _ (h.jn a0 b0),?_⟩;unfold bp aR at hf;rw[Z (by omega)]at hf;have h1:=mR h a0 b0 hf;unfold iC;rw[drop_set,Z (by omega)]
 have hi:m.1.x - p.cells.length<(vs.drop p.cells.length).length:=by rw[length_drop];omega
 refine lg _ _ hi ?_;have e:(vs.drop p.cells.length)[m.1.x - p.cells.length]=vs.getD m.1.x 0:=by
  rw[getElem_drop,Qa];have e2:p.cells.length+(m.1.x - p.cells.length)=m.1.x:=(by omega);simp only[e2];rw[Qb hx];rfl
 rw[e];exact h1
end Fl
open Go.RowKit
def zuz{P:Program}{a:Act}{c':Code}(l:Nat)(Qw:Act->World->Prop)(μ:Act->World->Nat)(hJ:Qw a w)
  (pass:∀a w,Qw a w->c'.wp P (Exit.jump l (λa' w'=>Qw a' w'/\μ a' w'<μ a w) Q) a w):(Code.scope ((Code.label l).seq c')).wp P Q a w:=by
 refine wp_scope_jumps l Qw μ (rest:=.seq .skip c') (by simp[findLabel]) ?_ (λa w h=>?_)
 ·apply wp_seq
  apply wp_label
  refine wp_mono (pass a w hJ) (λe a w h=>?_)
  cases e<;>first|exact h|exact⟨h.1,h.2.1⟩
 apply wp_seq
 apply wp_skip
 exact pass a w h
def vAddr(vv:Value)(i:Nat):Addr:=match vv with
 | .slice (some a) _ _=>⟨a.block,a.off+i,none⟩
 |_=>(Y 0 0)
def intAt(w:World)(a:Addr):Int:=match w.cell? a with
 |some (.int _ z)=>z
 |_=>0
def zpv(w:World)(vv:Value)(n:Nat):Is:=(range n).map λi=>intAt w (vAddr vv i)
def zbw(h:Zw B w vv vs):zpv w vv vs.length=vs:=by
 refine ext_getElem (by simp[zpv]) (λi h1 h2=>?_);obtain⟨b,off,cap,rfl,-,-,-,hc⟩:=zs0 h h2;simp only[zpv,getElem_map,getElem_range,vAddr,intAt,hc];rw[Qa,Qb h2];rfl
structure zrx(w:World)(b Fb Pb Lb:Nat)(bH:Value)(S:Nat->Prop):Prop where
 f:Fb≠b
 p:Pb≠b
 l:Lb≠b
 s:∀c,S c->c≠b
 c:∀b' o n cap,0<n->bH=Sq b' o n cap->b'≠b
 z:∀j,w.frozen? (Y b j)=false
 hb:b<w.heap.size
def zrx.below(h:zrx w b Fb Pb Lb bH S)(hb:E w w'):zrx w' b Fb Pb Lb bH S:=
 ⟨h.f,h.p,h.l,h.s,h.c,λj=>(hb.frozen (p:=(Y b j)) h.hb).trans (h.z j),Qj h.hb hb.size⟩
def zrx.set(h:zrx w b Fb Pb Lb bH S)(j:Nat)(v:Value):zrx (w.setCell (Y b j) v) b Fb Pb Lb bH S:=
 ⟨h.f,h.p,h.l,h.s,h.c,λi=>by rw[frozen?_setCell];exact h.z i,by rw[Zy];exact h.hb⟩
section
variable{p:Fl.aV}{off:Nat}
def Vd.set(h:Vd w Fb Pb Lb bC bH bv (Sq b off n cap) S p vs)(hs:zrx w b Fb Pb Lb bH S){x:Nat}(hx:x<vs.length){v:Int}(hv:0<=v/\v<p.n):Vd (w.setCell (Y b (off+x)) (I v)) Fb Pb Lb bC bH bv (Sq b off n cap) S p (vs.set x v):=by
 have q:∀c j,c≠b->(w.setCell (Y b (off+x)) (I v)).cell? (Y c j)=w.cell? (Y c j):=λc j hc=>Qc (a:=(Y c j)) (Zx _ _ _ _ _ hc);have hz:=Zy w (Y b (off+x)) (I v)
 exact{
  hF:=by rw[hz];exact h.hF
  c0:=(q _ _ hs.f).trans h.c0
  c1:=(q _ _ hs.f).trans h.c1
  lv:=⟨by rw[hz];exact h.lv.hz,(q _ _ hs.p).trans h.lv.p0,h.lv.la.block (Zx _ _ _ _ _ hs.l),h.lv.lv⟩
  p1:=(q _ _ hs.p).trans h.p1
  p2:=(q _ _ hs.p).trans h.p2
  p4:=(q _ _ hs.p).trans h.p4
  ce:=h.ce
  ch:=by
   obtain⟨ao,cp,e,h1,h2,h3⟩:=h.ch;refine⟨ao,cp,e,h1,h2,λhn=>?_⟩;obtain⟨b',o',ea,hb',hc⟩:=h3 hn;have b0:b'≠b:=hs.c b' o' _ _ (length_pos_iff.2 hn) (by rw[e,ea]);exact⟨b',o',ea,by rw[hz];exact hb',λi hi=>(q _ _ b0).trans (hc i hi)⟩
  vi:=by
   obtain⟨ao,cp,e,h1,h2,h3⟩:=h.vi;obtain⟨b',o',ea,hb',hc⟩:=h3 (by intro e;rw[e]at hx;cases hx);injection e with e1 e2 e3;subst e2;subst e3;rw[ea]at e1;injection e1 with e1;injection e1 with e4 e5;subst e4;subst e5;refine⟨_,_,by rw[length_set],by rw[length_set];exact h1,by rw[length_set];exact h2,λ_=>⟨b,off,rfl,by rw[hz];exact hb',λi hi=>?_⟩⟩;rw[length_set]at hi;rw[Qa,getElem?_set]
   by_cases a0:x=i
   ·subst a0
    rw[G rfl,G hx];exact cell?_setCell_same' _ _ _ (by rw[hc x hx];rfl)
   rw[Z a0];refine(Qg _ _ _ _ (by intro hh;injection hh with _ h5;omega)).trans ?_;rw[<-Qa];exact hc i hi
  bo:=Zl.kept (λ_ h=>h) (λc hc=>Zx _ _ _ _ _ (hs.s c hc)) _ _ _ h.bo
  hS:=λc hc=>by rw[hz];exact h.hS c hc
  ok:=Fl.mP h.ok x hv
  pk:=h.pk}
end
def zlw(w:World)(base b Fb Pb Lb:Nat)(bC bH bv vv:Value)(S:Nat->Prop)(p:Fl.aV)(vs:Is)(e:Ending)(w':World):Prop:=e=.returned (.tuple #[])/\Vd w' Fb Pb Lb bC bH bv vv S p (raise p 25 vs)/\zrx w' b Fb Pb Lb bH S/\Below base w w'
section
variable{p:Fl.aV}
def zf8(h:Vd w Fb Pb Lb bC bH bv vv S p vs)(hs:zrx w b Fb Pb Lb bH S)(Y0:∀b' o n cap,vv=Sq b' o n cap->b'=b)(Z0:base<=b):F 51 #[M Fb] w (zlw w base b Fb Pb Lb bC bH bv vv S p vs):=by
 have HH:=A h;have A1:=A hs;have B1:=A Y0;clear h hs Y0
 go_enter func51,ntmps51
 obtain⟨Qw,hJ⟩:=U (α:=Act->World->Prop) (λa' w'=>∃(vs':Is) (f:Nat),(∃(u1 u2 u3 u4 u5 u6 u7 u8 u9 u10 u11 u12 u13 u14 u15 u16 u17 u18 u19 u20 u21 u22 u23 u24 u25 u26 u27 u28 u29 u30 u31 u32 u33 u34 u35 u36 u37 u38 u39 u40 u41 u42 u43 u44 u45 u46 u47 u48 u49 u50:Value),a'={tmps:=#[M Fb,u1,u2,u3,u4,u5,u6,u7,u8,u9,u10,u11,u12,u13,u14,u15,u16,u17,u18,u19,u20,u21,u22,u23,u24,u25,u26,u27,u28,u29,u30,u31,u32,u33,u34,u35,u36,u37,u38,u39,u40,u41,u42,u43,u44,u45,u46,u47,u48,u49,u50],defers:=[]})/\Vd w' Fb Pb Lb bC bH bv vv S p vs'/\zrx w' b Fb Pb Lb bH S/\Below base w w'/\vs'.length=vs.length/\Fl.iC p vs'<f/\raise p f vs'=raise p 25 vs);obtain⟨μ,hμ⟩:=U (α:=Act->World->Nat) (λa' w'=>Fl.iC p (zpv w' vv vs.length));have HJ:=A hJ;have C1:=A hμ;refine zuz 0 Qw μ ?_ ?_
 ·rw[hJ];exact⟨vs,25,⟨_,_,_,_,_,_,_,_,_,_,_,_,_,_,_,_,_,_,_,_,_,_,_,_,_,_,_,_,_,_,_,_,_,_,_,_,_,_,_,_,_,_,_,_,_,_,_,_,_,_,rfl⟩,HH,A1,Below.refl _ _,rfl,Fl.lf HH.lv.lv HH.pk HH.ok,rfl⟩
 intro a' W b1;rw[hJ]at b1;obtain⟨vs',f,⟨u1,u2,u3,u4,u5,u6,u7,u8,u9,u10,u11,u12,u13,u14,u15,u16,u17,u18,u19,u20,u21,u22,u23,u24,u25,u26,u27,u28,u29,u30,u31,u32,u33,u34,u35,u36,u37,u38,u39,u40,u41,u42,u43,u44,u45,u46,u47,u48,u49,u50,rfl⟩,d0,R0,d1,bt,i1,j1⟩:=b1;clear hJ hμ
 have l1:Fl.aY vs'.length p.aj.length 4 p.aZ:=by rw[d0.ok.1];exact d0.pk.aZ
 obtain⟨lw,n0,elw⟩:∃lw:Nat,lw<p.n/\aI p=(lw:Int):=⟨(aI p).toNat,by have:=d0.lv.lv.aI;omega,by have:=d0.lv.lv.aI;omega⟩;have K0:=zx3 d0.lv.lv d0.ok 4 p.aZ lw l1 n0;have L0:(Fl.bx p vs' 4 p.aZ lw).length<=48 ^ 4:=Fl.eD p vs' 4 p.aZ lw (Zl.small _ _ _ d0.bo);rw[<-elw]at K0 L0;have HC:O (F 97 #[M Fb] W (zw9 S W (Fl.bx p vs' 4 p.aZ (aI p)))):=zbx d0;have HD:O (jR p vs'=match (Fl.bx p vs' 4 p.aZ (aI p)).find? (λm=>Fl.bU p m.1 && !Fl.bp p vs' m) with|some m=>some (vs'.set m.1.x (Fl.jn p (vs'.getD m.1.x 0) m.2))|none=>none):=rfl;obtain⟨ms,m1⟩:=U (Fl.bx p vs' 4 p.aZ (aI p));rw[<-m1]at K0 L0 HC HD;have D1:=A K0;have hle':ms.length<=5308416:=L0;have HW:=A d0;have M0:=A R0;have C0:O (Fl.iC p vs'<f/\raise p f vs'=raise p 25 vs):=⟨i1,j1⟩;have n1:=A d1;have o1:=A bt;have p1:base<=W.heap.size:=Nat.le_of_lt (Nat.lt_of_le_of_lt Z0 R0.hb);clear l1 n0 elw K0 L0 m1 d0 R0 d1 bt i1 j1
 go_wp2_with fail
 refine HC.mono ?_;rintro e W1 ⟨v,rfl,S0,D0⟩;have E1:=A S0;have E0:=A D0;obtain⟨ao,cap,F1,G1⟩:∃ao cap,v=J ao ms.length cap/\ms.length<=cap:=by
  obtain⟨qs,h1,-,-⟩:=S0;rcases h1.2 with⟨rfl,h0⟩|⟨g,cap,cur,rfl,-,-,hc,-⟩
  ·exact⟨none,0,by rw[h0],by omega⟩
  exact⟨_,cap,rfl,hc⟩
 subst F1;clear HC S0 D0
 go_wp2_with fail
 go_loopw [8] (λi wr=>∃(k:Nat),k<=ms.length/\i=I k/\(∀t,(ht:t<k)->(ht':t<ms.length)->(Fl.bU p ms[t].1 && !Fl.bp p vs' ms[t])=false)/\E W1 wr) (λi _=>ms.length - (intOf i).toNat)
 case atStart=>exact⟨0,by omega,rfl,λt ht=>absurd ht (by omega),Below.refl _ _⟩
 case round=>
  obtain⟨k,hk,rfl,g0,q0⟩:=hrel
  by_cases n0:k<ms.length
  ·obtain⟨qs,h1,h2,-⟩:=E1.aI q0 (λb hb=>Qj (HW.hS b hb) E0.size)
   obtain⟨mk,y0⟩:=U (ms[k]'n0);obtain⟨q,r1,s1,N0⟩:=h2.get k mk (by rw[y0];exact Qb n0);obtain⟨O0,lk,T0,elk⟩:=D1 mk (by rw[y0];exact getElem_mem n0);obtain⟨c1,c2⟩:=yw2 qs k q r1;rcases id h1.2 with⟨e0,h0⟩|⟨g,cap',cur,e0,H1,I1,-⟩
   ·omega
   injection e0 with e0 e00 e01;subst e0;subst e01;have a0:=h1.cells (g:=g) rfl _ _ c1;have a1:=h1.cells (g:=g) rfl _ _ c2
   have ad:∀j,((Y g 0):Addr).add j=(Y g j):=λj=>by unfold Addr.add;split<;>simp_all
   rw[ad]at a0 a1;obtain⟨sb,eq1,J1,k0,k1,k2⟩:=id N0;rw[eq1]at a0;rw[s1,elk]at a1;have K1:(k:Int)<(ms.length:Int):=(by omega);have P0:O (E W wr):=E0.trans (q0.mono E0.size);have z0:=P0.size;have cH:sb<wr.heap.size:=Qj (HW.hS sb J1) z0;have F0:mk.1.x<=100:=by
    have h5:=HW.ok.1;have h6:=HW.pk.ce;have h7:=HW.pk.lo;have h8:=HW.pk.ch;rcases O0 with h|h<;>omega
   have i0:O (∀V,E wr V->F 98 #[M Fb,M sb] V λr w'=>r=.returned (.bool (Fl.bU p mk.1))/\E V w'):=λV hV=>by
    have h5:=yy5 (HW.below (P0.trans (hV.mono z0))) (N0.kept (λ_ h=>h) (λb hb=>hV.block b (Qj (HW.hS b hb) z0))) F0;rw[eq1]at h5;exact h5
   have r0:O (∀V,E wr V->F 99 #[M Fb,.agg #[M sb,I lk]] V λr w'=>r=.returned (.bool (Fl.bp p vs' mk))/\E V w'):=λV hV=>by
    have h5:=zby (HW.below (P0.trans (hV.mono z0))) (N0.kept (λ_ h=>h) (λb hb=>hV.block b (Qj (HW.hS b hb) z0))) lk T0 O0;rw[eq1,<-elk]at h5;rw[elk]at h5;rw[show mk=(mk.1,(lk:Int)) from by rw[<-elk]];exact h5
   have HX:O (∀V,E wr V->D V sb 2 (I mk.1.x)):=λV hV=>cT hV cH k2;have s0:=A g0;obtain⟨W2,f0⟩:=U (wr.alloc (.cells #[M sb,I lk] 206));have j0:O (E wr W2):=(by show Below _ _ _;rw[f0];exact bA);have v1:wr.heap.size<W2.heap.size:=(by rw[f0];simp);have A0:O (∀V,E W2 V->D V wr.heap.size 0 (M sb)/\D V wr.heap.size 1 (I lk)):=λV hV=>⟨cT hV v1 (by rw[f0];simp),cT hV v1 (by rw[f0];simp)⟩;have x1:=A n0;have G0:=A O0
   have H0:O ((Fl.bU p mk.1 && !Fl.bp p vs' mk)=false->∀t,(ht:t<k+1)->(ht':t<ms.length)->(Fl.bU p ms[t].1 && !Fl.bp p vs' ms[t])=false):=λhh t ht ht'=>by
    by_cases L1:t=k
    ·subst L1;rw[<-y0];exact hh
    exact s0 t (by omega) ht'
   have l0:O ((Fl.bU p mk.1 && !Fl.bp p vs' mk)=true->jR p vs'=some (vs'.set mk.1.x (Fl.jn p (vs'.getD mk.1.x 0) mk.2))):=λhh=>by
    have h5:=HD.out;rw[zjx (f:=λm=>Fl.bU p m.1 && !Fl.bp p vs' m) n0 (λt ht=>s0 t ht (by omega)) (by show (Fl.bU p _ && !Fl.bp p vs' _)=true;rw[<-y0];exact hh),<-y0]at h5;exact h5
   have o0:O (mk.2=(lk:Int)/\lk<p.n):=⟨elk,T0⟩;clear g0 y0 h1 h2 r1 s1 N0 O0 c1 c2 H1 I1 ad k0 k1 k2 eq1 elk T0
   cases cq:Fl.bU p mk.1
   ·have HN:O (∀t,(ht:t<k+1)->(ht':t<ms.length)->(Fl.bU p ms[t].1 && !Fl.bp p vs' ms[t])=false):=H0 (by rw[cq];rfl)
    rw[cq]at i0;clear cq H0 l0 r0 HX G0 o0
    go_wp2_with fail
    rw[<-f0];refine(i0 _ j0).mono ?_;rintro e W3 ⟨rfl,b0⟩;have M1:E W1 W3:=q0.trans ((j0.trans (b0.mono j0.size)).mono q0.size);clear b0 f0 a0 a1 A0 i0;go_wp2
    go_roundw
    case rel=>exact⟨k+1,by have:=x1.out;omega,by go_num,HN,M1⟩
    case measure=>simp[intOf];omega
   cases hf:Fl.bp p vs' mk
   ·have m0:=l0 (by rw[cq,hf];rfl)
    have I0:mk.1.x<vs'.length:=by
     have h5:=cq;unfold Fl.bU at h5;rw[Qk,Qn]at h5;rcases G0.out with h|h
     ·exact h.2
     omega
    obtain⟨b',off,cap2,J0,q1,q2,q3,q4⟩:=zs0 HW.vi I0;have N1:=B1 b' off _ _ J0;subst N1;obtain⟨vx,U0,evx⟩:=yp0 HW.ok I0;rw[evx]at q4;obtain⟨jv,O1,ejv⟩:=HW.lv.lv.join U0 o0.2;have EJ:Fl.jn p (vs'.getD mk.1.x 0) mk.2=(jv:Int):=(by unfold Fl.jn;rw[evx,o0.1];exact ejv);have Q0:=Fl.iU HW.lv.lv HW.ok (m:=mk) ⟨G0,lk,o0.2,o0.1⟩ cq hf;rw[EJ]at Q0 m0;obtain⟨xx,V0⟩:=U (mk.1.x);rw[<-V0]at Q0 m0 I0 q4
    have P1:O (∀V,E W V->∀a'',(∃(u1 u2 u3 u4 u5 u6 u7 u8 u9 u10 u11 u12 u13 u14 u15 u16 u17 u18 u19 u20 u21 u22 u23 u24 u25 u26 u27 u28 u29 u30 u31 u32 u33 u34 u35 u36 u37 u38 u39 u40 u41 u42 u43 u44 u45 u46 u47 u48 u49 u50:Value),a''=({tmps:=#[M Fb,u1,u2,u3,u4,u5,u6,u7,u8,u9,u10,u11,u12,u13,u14,u15,u16,u17,u18,u19,u20,u21,u22,u23,u24,u25,u26,u27,u28,u29,u30,u31,u32,u33,u34,u35,u36,u37,u38,u39,u40,u41,u42,u43,u44,u45,u46,u47,u48,u49,u50],defers:=[]}:Act))->∀a0,Qw a'' (V.setCell (Y b' (off+xx)) (I jv))/\μ a'' (V.setCell (Y b' (off+xx)) (I jv))<μ a0 W):=λV hV a'' ha a0=>by
     have f1:=HW.below hV;rw[J0]at f1;have f2:=f1.set (M0.below hV) I0 (v:=(jv:Int)) (by omega);rw[<-J0]at f2;refine⟨?_,?_⟩
     ·rw[HJ.out]
      obtain⟨f',rfl⟩:∃f',f=f'+1:=⟨f - 1,by have:=C0.1;omega⟩;refine⟨vs'.set xx jv,f',ha,f2,(M0.below hV).set _ _,(n1.trans (hV.mono p1)).setCell Z0 _,by rw[length_set];exact o1.out,by have:=C0.1;omega,?_⟩;have h5:=C0.2;rw[raise,m0]at h5;exact h5
     rw[C1.out];show Fl.iC p (zpv _ vv vs.length)<Fl.iC p (zpv W vv vs.length);have e1:=zbw f2.vi;rw[length_set]at e1;rw[<-o1.out,zbw HW.vi,e1];exact Q0.2
    have Q1:O (∀V,E W V->F 100 #[M Lb,I vx,I lk] V λr w'=>r=.returned (I (jv:Nat))/\w'=V):=λV hV=>by
     have h5:=zn4 (HW.below hV).lv.la HW.lv.lv.n6 vx lk U0 o0.2;rw[ejv]at h5;exact h5
    have W0:O (∀V,E W V->D V Fb 1 (Sq b' off vs'.length cap2)/\D V Fb 0 (M Pb)/\D V Pb 0 (M Lb)/\D V b' (off+xx) (I vx)/\V.frozen? (Y b' (off+xx))=false):=λV hV=>⟨by rw[<-J0];exact(HW.below hV).c1,(HW.below hV).c0,(HW.below hV).lv.p0,cT hV q3 q4,(M0.below hV).z _⟩;have S1:(xx:Int)<(vs'.length:Int):=(by omega);rw[<-V0]at HX;rw[cq]at i0;rw[hf]at r0;clear cq hf H0 l0 G0 o0 m0 I0 J0 q1 q2 q4 evx U0 ejv O1 EJ Q0 V0 HD s0
    go_wp2_with fail
    rw[<-f0];refine(i0 _ j0).mono ?_;rintro e W3 ⟨rfl,b0⟩;have u0:O (E wr W3):=j0.trans (b0.mono j0.size);have v0:=A b0;obtain⟨t0,t1⟩:=A0 _ b0;clear b0 f0 a0 a1 i0
    go_wp2_with fail
    refine(r0 _ u0).mono ?_;rintro e W4 ⟨rfl,x0⟩;have y1:O (E wr W4):=u0.trans (x0.mono u0.size);have B0:O (E W W4):=P0.trans (y1.mono z0);have z1:O (∀V,E W4 V->D V wr.heap.size 0 (M sb)/\D V wr.heap.size 1 (I lk)):=λV hV=>A0 V (v0.trans ((x0.trans (hV.mono x0.size)).mono v0.size))
    have HS:O (∀V,E W4 V->D V Fb 1 (Sq b' off vs'.length cap2)/\D V Fb 0 (M Pb)/\D V Pb 0 (M Lb)/\D V b' (off+xx) (I vx)/\D V wr.heap.size 1 (I lk)):=λV hV=>by
     obtain⟨g1,g2,g3,g4,-⟩:=W0 V (B0.trans (hV.mono B0.size));exact⟨g1,g2,g3,g4,(z1 V hV).2⟩
    have t4:=(z1 _ (Below.refl _ _)).1;have x4:D W4 sb 2 (I xx):=HX _ y1.out;have fz:W4.drew.frozen? (Y b' (off+xx))=false:=(W0 _ B0.drew).2.2.2.2;have cz:D W4.drew b' (off+xx) (I vx):=(W0 _ B0.drew).2.2.2.1;clear x0 t0 t1 r0 A0 HX v0
    go_wp2_with fail
    refine Zm HS dA [21] [23] [] (by kernel_rfl) (λ_ _ _ _ h=>h) (λops _=>?_)
    iterate 21 refine Zv rfl (by intros;go_simp<;>rfl) (by go_simp<;>rfl) ?_
    refine Zs ?_
    go_wp2_with fail
    refine(Q1 _ B0.drew).mono ?_;rintro e5 W5 ⟨rfl,rfl⟩
    go_wp2_with fail
    refine⟨HS _ dA,?_⟩;refine Zv rfl (by intros;go_simp<;>rfl) (by go_simp<;>rfl) ?_;refine Xs ?_
    go_wp2_with fail
    refine Zu ?_
    go_wp2_with fail
    go_step3
    exact⟨rfl,P1 _ B0.drew _ ⟨_,_,_,_,_,_,_,_,_,_,_,_,_,_,_,_,_,_,_,_,_,_,_,_,_,_,_,_,_,_,_,_,_,_,_,_,_,_,_,_,_,_,_,_,_,_,_,_,_,_,rfl⟩ _⟩
   have HN:O (∀t,(ht:t<k+1)->(ht':t<ms.length)->(Fl.bU p ms[t].1 && !Fl.bp p vs' ms[t])=false):=H0 (by rw[cq,hf];rfl);rw[cq]at i0;rw[hf]at r0;clear cq hf H0 l0 HX G0 o0
   go_wp2_with fail
   rw[<-f0];refine(i0 _ j0).mono ?_;rintro e W3 ⟨rfl,b0⟩;have u0:O (E wr W3):=j0.trans (b0.mono j0.size);obtain⟨t0,t1⟩:=A0 _ b0;clear b0 f0 a0 a1 A0 i0
   go_wp2_with fail
   refine(r0 _ u0).mono ?_;rintro e W4 ⟨rfl,x0⟩;have R1:E W1 W4:=q0.trans ((u0.trans (x0.mono u0.size)).mono q0.size);clear x0 t0 t1 r0;go_wp2
   go_roundw
   case rel=>exact⟨k+1,by have:=x1.out;omega,by go_num,HN,R1⟩
   case measure=>simp[intOf];omega
  have HR:O (raise p f vs'=vs'):=by
   have h5:=HD.out;rw[zf7 (f:=λm=>Fl.bU p m.1 && !Fl.bp p vs' m) (λt ht=>g0 t (by omega) ht)]at h5;obtain⟨f',rfl⟩:∃f',f=f'+1:=⟨f - 1,by have:=C0.1;omega⟩;show raise p (f'+1) vs'=vs';unfold raise;rw[h5]
  have HE:O (zlw w base b Fb Pb Lb bC bH bv vv S p vs (.returned (.tuple #[])) wr):=by
   have X0:E W wr:=E0.trans (q0.mono E0.size);refine⟨rfl,?_,M0.below X0,n1.trans (X0.mono p1)⟩;rw[<-C0.2,HR.out];exact HW.below X0
  clear g0 HR
  go_wp2_with fail
  simp only[Exit.jump]
  go_end0
  exact HE
end
def zh4(s:K)(k:Nat)(h:k<s.length):s.drop k=s.getD k 0::s.drop (k+1):=by
 rw[drop_eq_getElem_cons h,Qa,Qb h];rfl
def zv1(s:K)(p i a:Nat):Prop:=i<=4/\p+i<=s.length/\a<128 ^ i/\num s p=ep p s.length i a (128 ^ i) (s.drop (p+i))
def zv1.start(s:K)(p:Nat)(h:p<=s.length):zv1 s p 0 0:=⟨by omega,by omega,by simp,by simp[num]⟩
def zv1.small(h:zv1 s p i a):a<268435456/\128 ^ i<=268435456:=by
 have h1:128 ^ i<=128 ^ 4:=Nat.pow_le_pow_right (by omega) h.1
 have h2:(128:Nat) ^ 4=268435456:=by decide
 have:=h.2.2.1;omega
def zv1.stop(h:zv1 s p i a)(a0:¬p+i<s.length)(lo hi:Int):ed s p lo hi=(0,-1,(s.length:Int)):=by
 obtain⟨h1,h2,h3,h4⟩:=h;unfold ed;rw[h4,drop_of_length_le (by omega)];simp[ep]
def zv1.next(h:zv1 s p i a)(a0:p+i<s.length)(hi:i<4)(hc:¬(s.getD (p+i) 0).toNat<128):zv1 s p (i+1) (a+(s.getD (p+i) 0).toNat % 128*128 ^ i):=by
 obtain⟨h1,h2,h3,h4⟩:=h
 have hm:(s.getD (p+i) 0).toNat % 128<=127:=by omega
 have hp:(s.getD (p+i) 0).toNat % 128*128 ^ i<=127*128 ^ i:=Nat.mul_le_mul_right _ hm;have h5:128 ^ (i+1)=128 ^ i*128:=Nat.pow_succ ..;have h6:128 ^ (i+1)<=128 ^ 4:=Nat.pow_le_pow_right (by omega) hi
 have h7:(128:Nat) ^ 4=268435456:=by decide
 refine⟨by omega,by omega,by omega,?_⟩;rw[h4,zh4 s (p+i) a0];simp only[ep];rw[Z (by omega),Z hc,show p+(i+1)=p+i+1 from by omega,h5]
def zv1.full(h:zv1 s p 4 a)(a0:p+4<s.length)(hc:¬(s.getD (p+4) 0).toNat<128)(lo hi:Int):ed s p lo hi=(0,-1,(p:Int)):=by
 obtain⟨h1,h2,h3,h4⟩:=h;have hg:num s p=(0,-1,(p:Int)):=by
  rw[h4,zh4 s (p+4) a0];unfold ep;exact G (by omega)
 unfold ed;rw[hg];rfl
def zv1.last(h:zv1 s p i a)(a0:p+i<s.length)(hc:(s.getD (p+i) 0).toNat<128)(lo hi:Int)(cq:0<=lo)(b0:hi<2147483648):
  ed s p lo hi=if(0<(s.getD (p+i) 0).toNat\/i=0)/\lo<=((a+(s.getD (p+i) 0).toNat*128 ^ i:Nat):Int)/\((a+(s.getD (p+i) 0).toNat*128 ^ i:Nat):Int)<=hi then(((a+(s.getD (p+i) 0).toNat*128 ^ i:Nat):Int),((p+i+1:Nat):Int),0) else(0,-1,(p:Int)):=by
 obtain⟨h1,h2,h3,h4⟩:=h;generalize hx:(s.getD (p+i) 0).toNat=x at*;have hm:x % 128=x:=Nat.mod_eq_of_lt hc;generalize hv:a+x*128 ^ i=v at*;have hg:num s p=if(x=0/\0<i)\/2147483648<=v then(0,-1,(p:Int)) else((v:Int),((p+i+1:Nat):Int),0):=by
  rw[h4,zh4 s (p+i) a0];simp only[ep,hx,hm,hv]
  by_cases hq:(x=0/\0<i)\/2147483648<=v
  ·rw[G (by omega),G hq]
  rw[Z (by omega),Z hq,G hc]
 unfold ed;rw[hg]
 by_cases hq:(x=0/\0<i)\/2147483648<=v
 ·rw[G hq,G (by simp),Z (by omega)]
 rw[Z hq];rw[Z (show ¬(((p+i+1:Nat):Int)<0) by omega)]
 by_cases hr:(v:Int)<lo\/hi<(v:Int)
 ·rw[G hr,Z (by omega)]
 rw[Z hr,G (by omega)]
def or_add(a c i:Nat)(h:a<128 ^ i):a|||(c<<<(7*i))=a+c*128 ^ i:=by
 have h2:(128:Nat) ^ i=2 ^ (7*i):=by rw[Nat.pow_mul]
 rw[h2]at h⊢;rw[Nat.or_comm,<-Nat.shiftLeft_add_eq_or_of_lt h,Nat.shiftLeft_eq];omega
def ye3(a c i:Nat)(hc:c<256)(hi:i<=4)(ha:a<128 ^ i):bits .or .u64 (a:Int) (IntKind.u64.wrap (IntKind.u64.wrap (bits .and .u8 (c:Int) 127)*2 ^ (7*i)))=((a+c % 128*128 ^ i:Nat):Int):=by
 have h1:128 ^ i<=128 ^ 4:=Nat.pow_le_pow_right (by omega) hi
 have h2:(128:Nat) ^ 4=268435456:=by decide
 have h3:c % 128*128 ^ i<=127*268435456:=Nat.mul_le_mul (by omega) (by omega);have e1:bits .and .u8 (c:Int) 127=((c % 128:Nat):Int):=by
  have:=u8_and_nat c 127 hc (by omega);rw[nat_mask7]at this;exact this
 have e2:IntKind.u64.wrap ((c % 128:Nat):Int)=((c % 128:Nat):Int):=by rw[IntKind.wrap_u64];omega
 have e3:((c % 128:Nat):Int)*2 ^ (7*i)=((c % 128*128 ^ i:Nat):Int):=by
  rw[Int.natCast_mul,Int.natCast_pow,Int.pow_mul];rfl
 have e4:IntKind.u64.wrap ((c % 128*128 ^ i:Nat):Int)=((c % 128*128 ^ i:Nat):Int):=by rw[IntKind.wrap_u64];omega
 rw[e1,e2,e3,e4,u64_or_nat a (c % 128*128 ^ i) (by omega) (by omega)]
 have h4:c % 128*128 ^ i=(c % 128)<<<(7*i):=by rw[Nat.shiftLeft_eq,Nat.pow_mul]
 rw[<-or_add a (c % 128) i ha,h4]
def zv7(r:Int×Int×Int)(b:Nat)(w:World)(e:Ending)(w':World):Prop:=
 Mv w w' b/\(r.2.1<0->e=.panicked (Zf 8 r.2.2))/\(¬r.2.1<0->e=.returned (I r.1)/\w'.cell? (Y b 1)=some (I r.2.1))
def zlv{r:Int×Int×Int}{v:Nat}(hr:r=((v:Int),(q:Int),0))(m:Mv w w' b)(c:w'.cell? (Y b 1)=some (I (q:Int))):zv7 r b w (.returned (I (v:Int))) w':=by
 subst hr;exact⟨m,λh=>by simp only at h;omega,λ_=>⟨rfl,c⟩⟩
def Jj{r:Int×Int×Int}{pl:Int}(hr:r=(0,-1,pl))(m:Mv w w' b):zv7 r b w (.panicked (Zf 8 pl)) w':=by
 subst hr;exact⟨m,λ_=>rfl,λh=>absurd (show (-1:Int)<0 by decide) h⟩
def NumLoop(s:K)(p lo hi i a:Nat):Prop:=zv1 s p i a\/(i=5/\ed s p lo hi=(0,-1,(p:Int)))
def zt9(h:Dr w b ao cap s p)(lo hi:Nat)(u0:hi<2147483648)(cq:lo<2147483648):
  F 81 #[M b,I lo,I hi] w λe w'=>zv7 (ed s p lo hi) b w e w':=by
 have c0:=h.c0;have c1:=h.c1;have hs:=h.hs;have hp:=h.hp;have HD:=A h;clear h
 go_enter func81,ntmps81
 go_wp2_with fail
 go_loopw [8,16] (λn k wr=>∃i a:Nat,n=.int .u64 a/\k=I i/\NumLoop s p lo hi i a/\Mv w wr b/\D wr b 1 (I ((p+i:Nat):Int))) (λ_ k _=>5 - (intOf k).toNat)
 case atStart=>exact⟨0,0,rfl,rfl,.inl (zv1.start s p hp),Mv.refl _ _,c1⟩
 case round=>
  obtain⟨i,a,rfl,rfl,hl,hm,d0⟩:=hrel;have HM:=A hm;have HC:=A d0;clear hm d0;rcases hl with hl|⟨rfl,hl⟩
  ·have p0:=hl.1
   have ha:=hl.small.1;have hx:=hl.small.2;have q0:=hl.2.1;have HL:=A hl;clear hl;have h0:O (Dr wr b ao cap s (p+i)):=HD.move HM HC q0
   by_cases k0:p+i<s.length
   ·obtain⟨c,hc⟩:=U ((s.getD (p+i) 0).toNat)
    have l0:c<256:=(by rw[hc];exact(s.getD (p+i) 0).toNat_lt);have HN:O (F 79 #[M b] wr λe w'=>e=.returned (.int .u8 c)/\Mv wr w' b/\D w' b 1 (I ((p+i+1:Nat):Int))):=(by rw[hc];exact zdy h0 k0);have i0:=A hc;clear hc;obtain⟨v,hv⟩:=U (a+c % 128*128 ^ i);have v0:bits .or .u64 (a:Int) (IntKind.u64.wrap (IntKind.u64.wrap (bits .and .u8 (c:Int) 127)*2 ^ (7*i)))=(v:Int):=(by rw[hv];exact ye3 a c i l0 p0 HL.2.2.1);have x0:v<274877906944:=by
     have h3:c % 128*128 ^ i<=127*268435456:=Nat.mul_le_mul (by omega) (by omega);omega
    have HV:=A hv;clear hv
    by_cases hc:128<=c
    ·go_wp2_with (go_at_call 79;refine(HN.out).mono ?_;rintro e w1 ⟨rfl,a0,d0⟩)
     go_roundw
     case rel=>
      refine⟨i+1,v,rfl,by go_num,?_,HM.trans a0,d0⟩
      by_cases h4:i<4
      ·left;rw[HV.out,i0.out];exact HL.next k0 h4 (by have:=i0.out;omega)
      right
      have:i=4:=by omega
      subst this;exact⟨rfl,HL.full k0 (by have:=i0.out;omega) _ _⟩
     case measure=>simp[intOf];omega
    have m0:(v:Int)=((a+(s.getD (p+i) 0).toNat*128 ^ i:Nat):Int):=by
     rw[HV.out,i0.out,Nat.mod_eq_of_lt (by have:=i0.out;omega)]
    have e0:=HL.last k0 (by have:=i0.out;omega) lo hi (by omega) (by omega);rw[<-m0,<-i0.out]at e0;have HG:=A e0;clear m0 e0
    by_cases n0:c=0
    ·have b0:¬(0:Int)<(c:Int):=by omega
     have r0:=A n0;clear n0
     by_cases o0:i=0
     ·have bi:((i:Int)==0)=true:=beq_iff_eq.2 (by omega)
      have s0:=A o0;clear o0
      by_cases j0:(lo:Int)<=(v:Int)
      ·by_cases f0:(v:Int)<=(hi:Int)
       ·go_wp2_with (first|(go_at_call 79;refine(HN.out).mono ?_;rintro e w1 ⟨rfl,a0,d0⟩)|(go_at_call 78;refine(zxw _ _ _).mono ?_;rintro e w2 ⟨rfl,rfl⟩))
        go_ret;exact zlv (HG.trans (G ⟨.inr s0,j0,f0⟩)) (HM.trans a0) d0
       have bd:decide (v<=hi)=false:=decide_eq_false (by omega);have bd2:decide ((v:Int)<=(hi:Int))=false:=decide_eq_false f0
       go_wp2_with (first|(go_at_call 79;refine(HN.out).mono ?_;rintro e w1 ⟨rfl,a0,d0⟩)|(go_at_call 78;refine(Vm _ _ _).mono ?_;rintro e w2 ⟨rfl,g0⟩))
       exact⟨rfl,Jj (HG.trans (Z (by omega))) ((HM.trans a0).trans (Mv.cS g0 (a0.lt h0.lt)))⟩
      go_wp2_with (first|(go_at_call 79;refine(HN.out).mono ?_;rintro e w1 ⟨rfl,a0,d0⟩)|(go_at_call 78;refine(Vm _ _ _).mono ?_;rintro e w2 ⟨rfl,g0⟩))
      exact⟨rfl,Jj (HG.trans (Z (by omega))) ((HM.trans a0).trans (Mv.cS g0 (a0.lt h0.lt)))⟩
     have bi:((i:Int)==0)=false:=beq_eq_false_iff_ne.2 (by omega)
     go_wp2_with (first|(go_at_call 79;refine(HN.out).mono ?_;rintro e w1 ⟨rfl,a0,d0⟩)|(go_at_call 78;refine(Vm _ _ _).mono ?_;rintro e w2 ⟨rfl,g0⟩))
     exact⟨rfl,Jj (HG.trans (Z (by have:=r0.out;omega))) ((HM.trans a0).trans (Mv.cS g0 (a0.lt h0.lt)))⟩
    have b0:¬(c:Int)<=0:=(by omega)
    by_cases j0:(lo:Int)<=(v:Int)
    ·by_cases f0:(v:Int)<=(hi:Int)
     ·go_wp2_with (first|(go_at_call 79;refine(HN.out).mono ?_;rintro e w1 ⟨rfl,a0,d0⟩)|(go_at_call 78;refine(zxw _ _ _).mono ?_;rintro e w2 ⟨rfl,rfl⟩))
      go_ret;exact zlv (HG.trans (G ⟨.inl (by omega),j0,f0⟩)) (HM.trans a0) d0
     have bd:decide (v<=hi)=false:=decide_eq_false (by omega);have bd2:decide ((v:Int)<=(hi:Int))=false:=decide_eq_false f0
     go_wp2_with (first|(go_at_call 79;refine(HN.out).mono ?_;rintro e w1 ⟨rfl,a0,d0⟩)|(go_at_call 78;refine(Vm _ _ _).mono ?_;rintro e w2 ⟨rfl,g0⟩))
     exact⟨rfl,Jj (HG.trans (Z (by omega))) ((HM.trans a0).trans (Mv.cS g0 (a0.lt h0.lt)))⟩
    go_wp2_with (first|(go_at_call 79;refine(HN.out).mono ?_;rintro e w1 ⟨rfl,a0,d0⟩)|(go_at_call 78;refine(Vm _ _ _).mono ?_;rintro e w2 ⟨rfl,g0⟩))
    exact⟨rfl,Jj (HG.trans (Z (by omega))) ((HM.trans a0).trans (Mv.cS g0 (a0.lt h0.lt)))⟩
   go_wp2_with (go_at_call 79;refine(zh3 h0 k0).mono ?_;rintro e w1 ⟨rfl,a0⟩)
   exact⟨rfl,Jj (HL.stop k0 _ _) (HM.trans a0)⟩
  go_wp2_with (go_at_call 78;refine(Vm _ _ _).mono ?_;rintro e w1 ⟨rfl,t0⟩)
  exact⟨rfl,Jj hl (HM.trans (Mv.cS t0 (HM.lt HD.lt)))⟩
def pD{k:Int}(h:aJ k≠ -2):0<=k/\k<=7:=by
 unfold aJ at h;repeat' split at h<;>omega
def Tryz.infoInt:(Tryz.prog.info? 3).map (λi=>(i.zero,i.size,i.bytes))=some (some (I 0),1,8):=by kernel_rfl
def zx4{x:Value}:∀j u,[x][j]?=some u->(w.alloc (.cells #[x] e)).cell? (((Y w.heap.size 0):Addr).add j)=some u:=by
 intro j u hj
 match j,hj with
 |0,hj=>simp at hj;subst hj;simp[Addr.add]
def Fl.mO(s:K)(p:Nat)(h:p<=s.length):ed s p 0 2147483647=num s p:=by
 have h1:=ei s p h;unfold ed;generalize num s p=r at*;obtain⟨x,y,z⟩:=r;simp only at h1⊢;rcases h1 with h1|h1
 ·rw[G (by omega),h1.1,h1.2.1]
 rw[Z (by omega),Z (by omega),h1.2.2.2.2]
def zqy(s:K)(p n k q:Nat)(xs:Is):Prop:=k<=n/\q<=s.length/\xs.length=k/\cW s p n=db s (n - k) q xs
def zqy.eQ(h:zqy s p n k q xs)(hk:k<n){v b:Int}(hn:num s q=(v,m,b))(hm:m<0):cW s p n=([],-1,b):=by
 obtain⟨h1,h2,h3,h4⟩:=h;rw[h4,show n - k=(n - k - 1)+1 from by omega];simp only[db,hn,G hm]
def zqy.step(h:zqy s p n k q xs)(hk:k<n){v b:Int}(hn:num s q=(v,m,b))(hm:¬m<0):zqy s p n (k+1) m.toNat (xs++[v]):=by
 obtain⟨h1,h2,h3,h4⟩:=h;have a0:=ei s q h2;rw[hn]at a0;refine⟨by omega,by simp only at a0;omega,by simp[h3],?_⟩;rw[h4,show n - k=(n - (k+1))+1 from by omega];simp only[db,hn,Z hm]
def yw6(r:Is×Int×Int)(b:Nat)(w:World)(e:Ending)(w':World):Prop:=
 Mv w w' b/\(r.2.1<0->e=.panicked (Zf 8 r.2.2))/\(¬r.2.1<0->∃lv,e=.returned lv/\w'.ownsRow w.heap.size 3 1 lv r.1.length (r.1.map (int .i64))/\w'.cell? (Y b 1)=some (I r.2.1))
def yw7{r:Is×Int×Int}{pl:Int}(hr:r=([],-1,pl))(m:Mv w w' b):yw6 r b w (.panicked (Zf 8 pl)) w':=by
 subst hr;exact⟨m,λ_=>rfl,λh=>absurd (show (-1:Int)<0 by decide) h⟩
def zr0(h:Dr w b ao cap s p):
  F 81 #[M b,I 0,I 2147483647] w λe w'=>zv7 (num s p) b w e w':=by
 rw[<-mO s p h.hp];exact zt9 h 0 2147483647 (by omega) (by omega)
def own_ne{size:Nat}{xs:Vs}(h:w.ownsRow base e size v n xs)(hb:b<base):v.ownBlock=none\/v.ownBlock≠some b:=by
 right;intro hh;have:=(h.lt b hh).1;omega
def zk0(h:Dr w b ao cap s p)(n:Nat)(hn:n<=200):
  F 80 #[M b,I n,I 2147483647] w λe w'=>yw6 (cW s p n) b w e w':=by
 obtain⟨i0,hi,k0,l0,m0⟩:=info_parts Tryz.infoInt;have HD:=A h;clear h
 go_enter func80,ntmps80
 go_wp2_with fail
 go_loopw [7,9] (λv i wr=>∃(k q:Nat) (xs:Is),zqy s p n k q xs/\i=I k/\wr.ownsRow w.heap.size 3 1 v xs.length (xs.map (int .i64))/\Mv w wr b/\D wr b 1 (I (q:Int))) (λ_ i _=>n - (intOf i).toNat)
 case atStart=>exact⟨0,p,[],⟨by omega,HD.hp,rfl,rfl⟩,rfl,ownsRow_nil _ _ _ _,Mv.refl _ _,HD.c1⟩
 case round=>
  obtain⟨k,q,xs,hr,rfl,a0,hm,e0⟩:=hrel;have HR:=A hr;have n0:O (Dr wr b ao cap s q):=HD.move hm e0 hr.2.1;have s0:=hr.1;have t0:xs.length<=200:=(by have:=hr.2.2.1;omega);have hlb:=HD.lt;have u0:=hm.g.size;have HM:=A hm;have HO:=A a0;have o0:=A e0;clear hr hm a0 e0
  by_cases j0:k<n
  ·obtain⟨x,m,y,d0⟩:∃x m y,num s q=(x,m,y):=⟨_,_,_,rfl⟩
   have b0:=zr0 n0.out;rw[d0]at b0;have HN:=A d0;have h0:=A b0;clear d0 b0
   by_cases hm:m<0
   ·go_wp2_with (go_at_call 81;refine(h0.out).mono ?_;rintro e w1 ⟨f0,he,_⟩;obtain rfl:=he hm)
    exact⟨rfl,yw7 (HR.eQ j0 HN hm) (HM.trans f0)⟩
   go_wp2_with (first|(go_at_call 81;refine(h0.out).mono ?_;rintro e w1 ⟨f0,_,he⟩;obtain⟨rfl,e0⟩:=he hm;have a0:=HO.kept f0.g (own_ne HO hlb))|(at_builtin;refine wpList_append_own _ rfl _ _ 22 rfl w.heap.size 3 i0 (I 0) 1 8 underlying22 hi k0 l0 m0 rfl (by decide) _ _ _ rfl (a0.alloc _) (Y _ 0) 1 1 [I x] rfl rfl zx4 ?c2 ?c3 ?c4 ?c5 ?_))
   case c2=>intro u hu;simp at hu;subst hu;rfl
   case c3=>unfold maxLen;omega
   case c4=>omega
   case c5=>have:=f0.g.size;simp;omega
   intro v' w2 hown' c0 _;have HS:O (zqy s p n (k+1) m.toNat (xs++[x])):=HR.step j0 HN (by omega);have p0:Mv w w2 b:=((HM.trans f0).alloc hlb _).dH c0 hlb (λg hg=>(a0.lt g hg).1);have q0:w2.cell? (Y b 1)=some (I ((m.toNat:Nat):Int)):=by
    rw[Int.toNat_of_nonneg (by omega)];refine c0.cell ((grownBy_alloc w1 _ none).cell e0 (by simp)) ?_;intro hh;have:=(a0.lt b hh.symm).1;omega
   have r0:w2.ownsRow w.heap.size 3 1 v' (xs++[x]).length ((xs++[x]).map (int .i64)):=(by simpa using hown');clear hown' c0 a0 h0 f0 e0;go_wp2
   go_roundw
   case rel=>exact⟨k+1,m.toNat,xs++[x],HS,by go_num,r0,p0,q0⟩
   case measure=>simp[intOf];omega
  have hkn':k=n:=(by omega);have g0:cW s p n=(xs,(q:Int),0):=by
   have:=HR.2.2.2;rw[this,hkn',Nat.sub_self];rfl
  have HF:=A g0;clear g0 hkn';go_wp2;go_ret;exact⟨HM,λh=>absurd h (by rw[HF.out];simp only;omega),λ_=>⟨_,rfl,by rw[HF.out];exact HO.out,by rw[HF.out];exact o0.out⟩⟩
def Zc:Array Value:=#[
 .string ⟨#[110,117,109]⟩,I 1,.bool false,.func (.func 72) #[] #[],.string ⟨#[118,97,114]⟩,I 1,.bool false,.func (.func 72) #[] #[],.string ⟨#[111,112]⟩,I 3,.bool false,.func (.func 74) #[] #[],.string ⟨#[115,101,116]⟩,I 2,.bool false,.func (.func 73) #[] #[],.string ⟨#[111,117,116]⟩,I 2,.bool false,.func (.func 73) #[] #[],.string ⟨#[105,102]⟩,I 3,.bool false,.func (.func 75) #[] #[],.string ⟨#[119,104,105,108,101]⟩,I 2,.bool false,.func (.func 76) #[] #[],.string ⟨#[98,108,111,99,107]⟩,I 0,.bool true,.func (.func 77) #[] #[]]
def Tryz.infoRules:(Tryz.prog.info? 134).map (·.size)=some Zc.size:=by kernel_rfl
def zn5:Zc.all (·.oneCell')=true:=by kernel_rfl
def zqx:(32:Nat)=Zc.size:=by kernel_rfl
def zqw(w:World):F 42 #[] w λe w'=>e=.returned (.agg Zc)/\w'=w.alloc (.cells Zc 134):=by
 go_enter func42,ntmps42
 go_wp2_with (first|(refine Uq rfl 134 _ rfl Zc (by kernel_rfl) ?_)|(refine zz3 rfl _ _ 134 rfl _ _ Zc rfl rfl Tryz.infoRules zqx zn5 ?_))
 refine bodyPost_ret (v:=.agg Zc) ?_ rfl ⟨rfl,rfl⟩;exact zmv (p:=0) (ty:=134) results42 _ _ (Y w.heap.size 0) _ rfl (run_loadVar_new w 134 Zc 8 133 underlying134 Tryz.infoRules)
def zf9(rb ro nb n:Nat)(w:World)(hn:n<=3)(a0:rb<w.heap.size)(h:w.cell? (Y rb (ro+1))=some (I n)):F 110 #[Pp rb ro,M nb] w λe w'=>e=.returned (Sq w.heap.size 0 n 3)/\w'=(w.alloc (.cells #[Pp nb 2,Pp nb 3,Pp nb 4] 232)).drew:=by
 have h2:∀o,(w.alloc o).cell? (Y rb (ro+1))=some (I n):=λo=>by rw[cell?_alloc_past _ _ _ a0];exact h
 go_enter func110,ntmps110
 go_wp2_with fail
 go_region
 go_wp2;go_ret;exact⟨rfl,rfl⟩
def Below.ks(h:Below B w w')(m:Nat):Below B w (w'.drewN m):=by
 induction m with
 |zero=>exact h
 |succ m ih=>exact ih.drew
def oG{j:Nat}(h:j<xs.length):xs.getD j 0∈xs:=by
 rw[Qa,Qb h];exact getElem_mem h
end Go.Proofs.YtjmcibbdedlcoaaGreatDoor
