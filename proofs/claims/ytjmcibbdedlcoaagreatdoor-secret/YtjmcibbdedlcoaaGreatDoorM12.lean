import Derived.Test.YtjmcibbdedlcoaaGreatDoorM08
import Derived.Test.YtjmcibbdedlcoaaGreatDoorM11
set_option linter.all false
set_option maxRecDepth 100000
set_option maxHeartbeats 40000000
namespace Go.Proofs.YtjmcibbdedlcoaaGreatDoor
open Go.Proofs.Tryz List World Value Fl
variable{k a c z:Int}{ls vs st:Is}{b d i x Jb q0 P0 q cap:Nat}{s:K}{w wr w':World}{sv sv' nv':Value}{acc:List Fl.ar}{lvs:Vs}{ao:Option Addr}
namespace Fl
def gh{ws t:List ar}{k:Nat}(h:k<ws.length):nth (ws++t) k=nth ws k:=by
 unfold nth;rw[Qa,Qa,getElem?_append_left h]
def dR{ws t:List ar}(h:0<=k/\k<ws.length):nd (ws++t) k=nd ws k:=gh (by omega)
def jw{α:Type}{f g:α->Bool}:∀{l:List α},(∀k∈l,f k=g k)->l.all f=l.all g
 |[],_=>rfl
 |a::l,h=>by rw[all_cons,all_cons,h a (by simp),jw (λk hk=>h k (by simp[hk]))]
def iZ{p:aV}{ws t:List ar}{n:ar}(hk:0<=n.kind/\n.kind<=7)(h:∀i∈prem n,0<=i/\i<(ws.length:Int)):follows p ls (ws++t) n=follows p ls ws n:=by
 unfold follows bT
 congr 1
 by_cases k0:n.kind=0
 ·rw[G k0,G k0]
 rw[Z k0,Z k0]
 by_cases k1:n.kind=1
 ·rw[G k1,G k1]
 rw[Z k1,Z k1]
 by_cases k2:n.kind=2
 ·rw[G k2,G k2]
  have hp:prem n=[n.b,n.c]:=(by unfold prem;rw[G k2]);rw[hp]at h;rw[dR (h n.b (by simp)),dR (h n.c (by simp))]
 rw[Z k2,Z k2]
 by_cases k3:n.kind=3
 ·rw[G k3,G k3]
  have hp:prem n=[n.b]:=(by unfold prem;rw[Z k2,G (.inl k3)]);rw[hp]at h;unfold dG;rw[dR (h n.b (by simp))]
 rw[Z k3,Z k3]
 by_cases k4:n.kind=4
 ·rw[G k4,G k4]
  have hp:prem n=[n.b]:=(by unfold prem;rw[Z k2,G (.inr k4)]);rw[hp]at h;unfold dG;rw[dR (h n.b (by simp))]
 rw[Z k4,Z k4]
 by_cases k5:n.kind=5
 ·rw[G k5,G k5]
  have hp:prem n=[n.a,n.b,n.c]:=(by unfold prem;rw[Z k2,Z (by omega),G k5]);rw[hp]at h;unfold cE;rw[dR (h n.a (by simp)),dR (h n.b (by simp)),dR (h n.c (by simp))]
 rw[Z k5,Z k5]
 by_cases k6:n.kind=6
 ·rw[G k6,G k6]
  have hp:prem n=[n.a,n.b]:=(by unfold prem;rw[Z k2,Z (by omega),Z k5,G k6]);rw[hp]at h;unfold cE;rw[dR (h n.a (by simp)),dR (h n.b (by simp))]
 rw[Z k6,Z k6]
 have hp:prem n=n.aU:=by unfold prem;rw[Z k2,Z (by omega),Z k5,Z k6,G (by omega)]
 rw[hp]at h
 exact jw λk hk=>by rw[dR (h k hk)]
def ji(p:aV)(ls:Is)(ws:List ar):Prop:=
 ∀k,k<ws.length->(0<=(nth ws k).kind/\(nth ws k).kind<=7)/\follows p ls ws (nth ws k)=true/\∀i∈prem (nth ws k),0<=i/\i<(k:Int)
def ji.nil(p:aV)(ls:Is):ji p ls []:=λk hk=>by simp at hk
def ji.push{p:aV}{ws:List ar}(h:ji p ls ws){n:ar}(hk:0<=n.kind/\n.kind<=7)(hf:follows p ls ws n=true)(hp:∀i∈prem n,0<=i/\i<(ws.length:Int)):ji p ls (ws++[n]):=λk b0=>by
 by_cases a0:k<ws.length
 ·rw[gh a0]
  obtain⟨h1,h2,h3⟩:=h k a0;exact⟨h1,by rw[iZ h1 (λi hi=>by have:=h3 i hi;omega)];exact h2,h3⟩
 have c0:k=ws.length:=by simp at b0;omega
 subst c0
 have e:nth (ws++[n]) ws.length=n:=by unfold nth;simp[Qa]
 rw[e];exact⟨hk,by rw[iZ hk hp];exact hf,hp⟩
structure lB(p:aV)(ls:Is)(ws:List ar)(r:Int×List ar):Prop where
 iV:ji p ls r.2
 ext:∃t,r.2=ws++t
 iT:0<=r.1/\r.1<r.2.length
 new:r.2=ws\/r.1=(r.2.length:Int) - 1
def lB.len{p:aV}{ws:List ar}{r:Int×List ar}(h:lB p ls ws r):ws.length<=r.2.length:=by
 obtain⟨t,e⟩:=h.ext;rw[e];simp
def lB.nd{p:aV}{ls:Is}{ws:List ar}{r:Int×List ar}(h:lB p ls ws r){k:Int}(hk:0<=k/\k<ws.length):nd r.2 k=nd ws k:=by
 obtain⟨t,e⟩:=h.ext;rw[e];exact dR hk
def fH{p:aV}{ws:List ar}(h:ji p ls ws){n:ar}(hk:0<=n.kind/\n.kind<=7)(hf:follows p ls ws n=true)(hp:∀i∈prem n,0<=i/\i<(ws.length:Int)):lB p ls ws (cI ws n)/\nd (cI ws n).2 (cI ws n).1=n/\((cI ws n).2.length=ws.length->∀i∈prem n,i<(cI ws n).1):=by
 unfold cI
 split
 ·rename_i i hi
  have h1:eh (nth ws i) n=true:=find?_some (p:=λi=>eh (nth ws i) n) hi;have h2:i<ws.length:=(by have:=mem_of_find?_eq_some hi;simpa using this);have h3:=(dg _ _).1 h1;refine⟨⟨h,⟨[],by simp⟩,⟨by simp,by simp;omega⟩,.inl rfl⟩,?_,λ_ j hj=>?_⟩
  ·show nth ws (i:Int).toNat=n
   rw[Qm];exact h3
  rw[<-h3]at hj;exact((h i h2).2.2 j hj).2
 refine⟨⟨h.push hk hf hp,⟨[n],rfl⟩,⟨by simp,by simp;omega⟩,.inr (by simp)⟩,?_,λe=>?_⟩
 ·show nth (ws++[n]) (ws.length:Int).toNat=n
  rw[Qm];unfold nth;simp[Qa]
 simp at e
def lB.comp{p:aV}{ws:List ar}{r r':Int×List ar}(h:lB p ls ws r)(h':lB p ls r.2 r')(hn:r'.2.length=r.2.length->r.1<r'.1):lB p ls ws r':=by
 obtain⟨t,e⟩:=h.ext;obtain⟨t',e'⟩:=h'.ext;refine⟨h'.iV,⟨t++t',by rw[e',e,append_assoc]⟩,h'.iT,?_⟩;rcases h'.new with h1|h1
 ·have h2:=hn (by rw[h1])
  have h3:=h'.iT;rcases h.new with h4|h4
  ·exact .inl (h1.trans h4)
  rw[h1]at h3;omega
 exact .inr h1
def eV{p:aV}(lv:p.Lv)(ha:0<=a/\a<p.n):aR p a a=true:=lv.fA.refl _ (by omega)
def eO{p:aV}(lv:p.Lv){b:Int}(ha:0<=a/\a<p.n)(hb:0<=b/\b<p.n):aR p a (jn p a b)=true/\aR p b (jn p a b)=true:=by
 obtain⟨k,h1,h2,h3,h4,-⟩:=lv.fA.lu a.toNat b.toNat (by omega) (by omega)
 have e:(jn p a b).toNat=k:=by unfold jn;rw[h2];simp
 unfold aR;rw[e];exact⟨h3,h4⟩
def aL{p:aV}(lv:p.Lv){b:Int}(ha:0<=a/\a<p.n)(hb:0<=b/\b<p.n)(hc:0<=c/\c<p.n)(h1:aR p a b=true)(h2:aR p b c=true):aR p a c=true:=lv.fA.trans _ _ _ (by omega) (by omega) (by omega) h1 h2
def gN{ws t:List ar}{a:dI}(h:0<=k/\k<ws.length):dP (ws++t) k a=dP ws k a:=by unfold dP;rw[dR h]
def ji.prem{p:aV}{ls:Is}{ws:List ar}(h:ji p ls ws){k:Int}(hk:0<=k/\k<ws.length):∀i∈Go.Proofs.YtjmcibbdedlcoaaGreatDoor.prem (nd ws k),0<=i/\i<(ws.length:Int):=λi hi=>by
 have h1:=(h k.toNat (by omega)).2.2 i hi;omega
def eU{p:aV}{ws t:List ar}(h:ji p ls ws)(hk:0<=k/\k<ws.length)(e:da):dj (ws++t) k e=dj ws k e:=by
 unfold dj
 by_cases h0:e.op<0
 ·rw[G h0,G h0,gN hk]
 rw[Z h0,Z h0,dR hk]
 by_cases h2:(nd ws k).kind=2
 ·have hp:Go.Proofs.YtjmcibbdedlcoaaGreatDoor.prem (nd ws k)=[(nd ws k).b,(nd ws k).c]:=by unfold Go.Proofs.YtjmcibbdedlcoaaGreatDoor.prem;rw[G h2]
  have h3:=h.prem hk;rw[hp]at h3;rw[gN (h3 _ (by simp)),gN (h3 _ (by simp))]
 rw[decide_eq_false h2,Bool.false_and,Bool.false_and]
section
variable{p:aV}
def ju(lv:p.Lv)(ok:di p vs)(hv:vars p ls=vs){ws:List ar}(h:ji p ls ws){a:dI}(ho:zt8 vs a):
  lB p ls ws (bR p vs ws a)/\nd (bR p vs ws a).2 (bR p vs ws a).1=⟨if a.var then 1 else 0,bZ p vs a,a.v,0,0,[]⟩:=by
 obtain⟨k,hk,ek⟩:=zx2 lv ok.2 ho;have h1:=fH (n:=⟨if a.var then 1 else 0,bZ p vs a,a.v,0,0,[]⟩) h (by cases a.var<;>simp) ?_ ?_
 ·exact⟨h1.1,h1.2.1⟩
 ·unfold follows bT
  rw[Qk];refine⟨by simp only[Qn];omega,?_⟩
  cases a0:a.var
  ·simp
  have b0:=ho a0;have h3:=ok.2 a.v b0;have e:bZ p vs a=vs.getD a.v 0:=(by unfold bZ;rw[a0];rfl);rw[hv,e];simp only[if_true,show ¬(1:Int)=0 by omega,if_false,Qk,Qn,Qm];exact⟨by omega,eV lv h3⟩
 intro i hi;unfold Go.Proofs.YtjmcibbdedlcoaaGreatDoor.prem at hi
 cases a0:a.var<;>rw[a0]at hi<;>simp at hi
structure pM(p:aV)(ls vs:Is)(ws:List ar)(e:da)(r:Int×List ar):Prop where
 pu:lB p ls ws r
 ro:dk (nd r.2 r.1).kind=0
 le:(nd r.2 r.1).ag=aB p vs e
 ex:dj r.2 r.1 e=true
def it{ws:List ar}{a:dI}{l b:Int}{li:Is}(h:nd ws k=⟨if a.var then 1 else 0,l,a.v,b,c,li⟩):dP ws k a=true:=by
 unfold dP;rw[h]
 cases a.var<;>simp
def cD(lv:p.Lv)(ok:di p vs){a:dI}(ho:zt8 vs a):0<=bZ p vs a/\bZ p vs a<p.n:=by
 obtain⟨k,hk,ek⟩:=zx2 lv ok.2 ho;omega
def dW(lv:p.Lv)(ok:di p vs){e:da}(ho:bI vs.length e):0<=aB p vs e/\aB p vs e<p.n:=by
 obtain⟨k,hk,ek⟩:=zu9 lv ok ho;omega
def nJ(lv:p.Lv)(ok:di p vs)(hv:vars p ls=vs){ws:List ar}(h:ji p ls ws){e:da}(ho:bI vs.length e):pM p ls vs ws e (dQ p vs ws e):=by
 have hi:=zu8 ho;unfold dQ
 by_cases h0:e.op<0
 ·rw[G h0]
  obtain⟨h1,h2⟩:=ju lv ok hv h hi.1;refine⟨h1,by rw[h2];cases e.a.var<;>simp[dk],by rw[h2];unfold aB;rw[G h0],?_⟩;unfold dj;rw[G h0];exact it h2
 rw[Z h0];obtain⟨h1,h2⟩:=ju lv ok hv h hi.1;obtain⟨h3,h4⟩:=ju lv ok hv h1.iV (hi.2 (by omega));have ha:=cD lv ok hi.1;have hb:=cD lv ok (hi.2 (by omega));have hl:=h3.len;have c0:=h1.iT;have b0:=h3.iT;have ea:nd (bR p vs (bR p vs ws e.a).2 e.b).2 (bR p vs ws e.a).1=⟨if e.a.var then 1 else 0,bZ p vs e.a,e.a.v,0,0,[]⟩:=(h3.nd c0).trans h2
 have ev:aB p vs e=jn p (bZ p vs e.a) (bZ p vs e.b):=by unfold aB;rw[Z h0]
 have hp:∀i∈Go.Proofs.YtjmcibbdedlcoaaGreatDoor.prem (⟨2,aB p vs e,e.op,(bR p vs ws e.a).1,(bR p vs (bR p vs ws e.a).2 e.b).1,[]⟩:ar),0<=i/\i<((bR p vs (bR p vs ws e.a).2 e.b).2.length:Int):=λi hi=>by
  simp only[Go.Proofs.YtjmcibbdedlcoaaGreatDoor.prem,if_true,mem_cons,not_mem_nil,or_false]at hi;rcases hi with rfl|rfl
  ·omega
  exact b0
 have d0:=dW lv ok ho;have hj:=eO lv ha hb
 obtain⟨g1,g2,g3⟩:=fH (n:=⟨2,aB p vs e,e.op,(bR p vs ws e.a).1,(bR p vs (bR p vs ws e.a).2 e.b).1,[]⟩) h3.iV (by simp) (by
  unfold follows bT;simp only[show ¬(2:Int)=0 by omega,show ¬(2:Int)=1 by omega,if_true,if_false,Qk,Qn];rw[ea,h4,ev];refine⟨by rw[<-ev];exact d0.2,by have:=ho.2.1;omega,?_,?_,hj.1,hj.2⟩
  ·cases e.a.var<;>simp[dk]
  cases e.b.var<;>simp[dk]) hp
 have g4:=g1.len;have a0:=h1.comp (h3.comp g1 (λhh=>g3 hh _ (by simp[Go.Proofs.YtjmcibbdedlcoaaGreatDoor.prem]))) (λhh=>g3 (by omega) _ (by simp[Go.Proofs.YtjmcibbdedlcoaaGreatDoor.prem]));refine⟨a0,by rw[g2];simp[dk],by rw[g2],?_⟩;unfold dj;rw[Z h0,g2];simp only[decide_true,Bool.true_and,Qk];exact⟨it ((g1.nd (by omega)).trans ea),it ((g1.nd b0).trans h4)⟩
end
def ir{p:aV}{ws t:List ar}{nv nc:Nat}(h:ji p ls ws)(hK:∀(k:Int) (l:List aa),(0<=k/\k<ws.length)->aY nv nc d l->cO d (ws++t) k l=cO d ws k l)(hk:0<=k/\k<ws.length){s:aa}(hs:eJ nv nc s)(h1:aY nv nc d s.aZ)(h2:aY nv nc d s.aP):
  eI (cO d (ws++t)) (ws++t) k s=eI (cO d ws) ws k s:=by
 unfold eI;rw[dR hk]
 by_cases a0:(nd ws k).kind=(s.kind:Int)
 ·have hp:=h.prem hk
  congr 1
  by_cases k5:s.kind=5
  ·simp only[k5,if_true]
   have hq:Go.Proofs.YtjmcibbdedlcoaaGreatDoor.prem (nd ws k)=[(nd ws k).a,(nd ws k).b,(nd ws k).c]:=(by unfold Go.Proofs.YtjmcibbdedlcoaaGreatDoor.prem;rw[Z (by omega),Z (by omega),G (by omega)]);rw[hq]at hp;rw[eU h (hp _ (by simp)),hK _ _ (hp _ (by simp)) h1,hK _ _ (hp _ (by simp)) h2]
  by_cases k6:s.kind=6
  ·simp only[k6,show ¬(6:Nat)=5 by omega,if_true,if_false]
   have hq:Go.Proofs.YtjmcibbdedlcoaaGreatDoor.prem (nd ws k)=[(nd ws k).a,(nd ws k).b]:=(by unfold Go.Proofs.YtjmcibbdedlcoaaGreatDoor.prem;rw[Z (by omega),Z (by omega),Z (by omega),G (by omega)]);rw[hq]at hp;rw[eU h (hp _ (by simp)),hK _ _ (hp _ (by simp)) h1]
  simp only[k5,k6,if_false];have hq:Go.Proofs.YtjmcibbdedlcoaaGreatDoor.prem (nd ws k)=[(nd ws k).b]:=by
   unfold Go.Proofs.YtjmcibbdedlcoaaGreatDoor.prem;rw[Z (by rcases hs with e|e|e|e<;>omega),G (by rcases hs with e|e|e|e<;>omega)]
  rw[hq]at hp;rw[eU h (hp _ (by simp))]
 rw[decide_eq_false a0,Bool.false_and,Bool.false_and]
def oG{α:Type}{l:List α}{x:α}(h:i<l.length):l.getD i x∈l:=by
 rw[Qa,Qb h];exact getElem_mem h
def eB{p:aV}{ls:Is}{ws t:List ar}{nv nc:Nat}(h:ji p ls ws):∀(d:Nat) (k:Int) (l:List aa),(0<=k/\k<ws.length)->aY nv nc d l->cO d (ws++t) k l=cO d ws k l
 |0,k,l,hk,_=>by unfold cO;rw[dR hk]
 |d+1,k,l,hk,hs=>by
  unfold cO;rw[dR hk]
  by_cases h7:(nd ws k).kind=7
  ·by_cases hl:(nd ws k).aU.length=l.length
   ·have hp:=h.prem hk
    have hq:Go.Proofs.YtjmcibbdedlcoaaGreatDoor.prem (nd ws k)=(nd ws k).aU:=(by unfold Go.Proofs.YtjmcibbdedlcoaaGreatDoor.prem;rw[Z (by omega),Z (by omega),Z (by omega),Z (by omega),G h7]);rw[hq]at hp
    have e:((range l.length).all λi=>eI (cO d (ws++t)) (ws++t) ((nd ws k).aU.getD i 0) (l.getD i noS))=(range l.length).all λi=>eI (cO d ws) ws ((nd ws k).aU.getD i 0) (l.getD i noS):=jw λi hi=>by
     rw[mem_range]at hi;obtain⟨g1,-,g3,g4⟩:=hs _ (oG (x:=noS) hi);exact ir h (λk l hk hs=>eB h d k l hk hs) (hp _ (oG (by omega))) g1 g3 g4
    rw[e]
   rw[decide_eq_false hl];simp
  rw[decide_eq_false h7];simp
section
variable{p:aV}
structure pn(p:aV)(ls:Is)(ws:List ar)(u:Int)(d:Nat)(s:aa)(r:Int×List ar):Prop where
 pu:lB p ls ws r
 kd:(nd r.2 r.1).kind=(s.kind:Int)
 le:(nd r.2 r.1).ag=u
 on:eI (cO d r.2) r.2 r.1 s=true
structure pm(p:aV)(ls:Is)(ws:List ar)(u:Int)(d:Nat)(l:List aa)(r:Int×List ar):Prop where
 pu:lB p ls ws r
 kd:(nd r.2 r.1).kind=7
 le:(nd r.2 r.1).ag=u
 al:cO d r.2 r.1 l=true
def gq(lv:p.Lv)(hi:i<p.aj.length):0<=(p.aj.map λ(y:Nat)=>(y:Int)).getD i 0/\(p.aj.map λ(y:Nat)=>(y:Int)).getD i 0<p.n:=by
 obtain⟨k,hk,e⟩:=yw1 lv hi;omega
def mF(lv:p.Lv)(ok:di p vs)(hv:vars p ls=vs)
  (IH:∀(ws:List ar) (l:List aa) (u:Int),ji p ls ws->aY vs.length p.aj.length d l->(0<=u/\u<p.n)->(∀m∈bx p vs d l u,bp p vs m=true)->pm p ls ws u d l (aD p vs d ws l u))
  {ws:List ar} (h:ji p ls ws) {u:Int} (hu:0<=u/\u<p.n) {s:aa} (hk:eJ vs.length p.aj.length s) (he:bI vs.length s.e) (h1:aY vs.length p.aj.length d s.aZ) (h2:aY vs.length p.aj.length d s.aP)
  (hm:∀m∈aK (bx p vs d) p vs u s,bp p vs m=true):pn p ls ws u d s (dh (aD p vs d) p vs u ws s):=by
 have a0:=nJ lv ok hv h he;have d0:=dW lv ok he;have hj:=lv.jn hu d0;have b0:=eO lv hu d0;have vr:=a0.pu.iT;unfold dh;simp only;generalize dQ p vs ws s.e=v at*;generalize hL:jn p u (aB p vs s.e)=L at*
 by_cases k5:s.kind=5
 ·rw[G k5]
  have c0:aK (bx p vs d) p vs u s=bx p vs d s.aZ L++bx p vs d s.aP L:=(by unfold aK;rw[Z (by omega),G (.inl k5),hL]);rw[c0]at hm;have b1:=IH v.2 s.aZ L a0.pu.iV h1 hj (λm hm'=>hm m (mem_append_left _ hm'));generalize aD p vs d v.2 s.aZ L=B1 at*;have b2:=IH B1.2 s.aP L b1.pu.iV h2 hj (λm hm'=>hm m (mem_append_right _ hm'));generalize aD p vs d B1.2 s.aP L=B2 at*;have r1:=b1.pu.iT;have r2:=b2.pu.iT;have l1:=b1.pu.len;have l2:=b2.pu.len;have e1:nd B2.2 v.1=nd v.2 v.1:=(b2.pu.nd (by omega)).trans (b1.pu.nd vr);have e2:nd B2.2 B1.1=nd B1.2 B1.1:=b2.pu.nd r1
  obtain⟨g1,g2,g3⟩:=fH (n:=⟨5,u,v.1,B1.1,B2.1,[]⟩) b2.pu.iV (by simp) (by
   unfold follows bT cE;simp only[show ¬(5:Int)=0 by omega,show ¬(5:Int)=1 by omega,show ¬(5:Int)=2 by omega,show ¬(5:Int)=3 by omega,show ¬(5:Int)=4 by omega,if_true,if_false,Qk,Qn];rw[e1,e2,a0.ro,a0.le,b1.kd,b1.le,b2.kd,b2.le]
   exact⟨hu.2,⟨rfl,by simp[dk],b0.2,b0.1⟩,rfl,by simp[dk],b0.2,b0.1⟩) (λi hi=>by
   simp only[Go.Proofs.YtjmcibbdedlcoaaGreatDoor.prem,show ¬(5:Int)=2 by omega,show ¬((5:Int)=3\/(5:Int)=4) by omega,if_true,if_false,mem_cons,not_mem_nil,or_false]at hi
   rcases hi with rfl|rfl|rfl<;>omega)
  have m1:v.1∈Go.Proofs.YtjmcibbdedlcoaaGreatDoor.prem (⟨5,u,v.1,B1.1,B2.1,[]⟩:ar):=(by simp[Go.Proofs.YtjmcibbdedlcoaaGreatDoor.prem]);have m2:B1.1∈Go.Proofs.YtjmcibbdedlcoaaGreatDoor.prem (⟨5,u,v.1,B1.1,B2.1,[]⟩:ar):=(by simp[Go.Proofs.YtjmcibbdedlcoaaGreatDoor.prem]);have m3:B2.1∈Go.Proofs.YtjmcibbdedlcoaaGreatDoor.prem (⟨5,u,v.1,B1.1,B2.1,[]⟩:ar):=(by simp[Go.Proofs.YtjmcibbdedlcoaaGreatDoor.prem]);have l3:=g1.len;have q2:=b2.pu.comp g1 (λhh=>g3 hh _ m3);have q1:=b1.pu.comp q2 (λhh=>g3 (by omega) _ m2);have q0:=a0.pu.comp q1 (λhh=>g3 (by omega) _ m1);generalize cI B2.2 ⟨5,u,v.1,B1.1,B2.1,[]⟩=r at*;refine⟨q0,by rw[g2,k5];rfl,by rw[g2],?_⟩;unfold eI;rw[g2];simp only[k5,if_true,Qk,Qn];obtain⟨t0,x0⟩:=q1.ext;obtain⟨t1,x1⟩:=q2.ext;obtain⟨t2,x2⟩:=g1.ext;refine⟨rfl,?_,?_,?_⟩
  ·rw[x0,eU a0.pu.iV vr];exact a0.ex
  ·rw[x1,eB b1.pu.iV d _ _ r1 h1];exact b1.al
  rw[x2,eB b2.pu.iV d _ _ r2 h2];exact b2.al
 by_cases k6:s.kind=6
 ·rw[Z k5,G k6]
  have c0:aK (bx p vs d) p vs u s=bx p vs d s.aZ L++bx p vs d s.aP L:=(by unfold aK;rw[Z (by omega),G (.inr k6),hL]);rw[c0]at hm;have b1:=IH v.2 s.aZ L a0.pu.iV h1 hj (λm hm'=>hm m (mem_append_left _ hm'));generalize aD p vs d v.2 s.aZ L=B1 at*;have r1:=b1.pu.iT;have l1:=b1.pu.len;have e1:nd B1.2 v.1=nd v.2 v.1:=b1.pu.nd vr
  obtain⟨g1,g2,g3⟩:=fH (n:=⟨6,u,v.1,B1.1,0,[]⟩) b1.pu.iV (by simp) (by
   unfold follows bT cE;simp only[show ¬(6:Int)=0 by omega,show ¬(6:Int)=1 by omega,show ¬(6:Int)=2 by omega,show ¬(6:Int)=3 by omega,show ¬(6:Int)=4 by omega,show ¬(6:Int)=5 by omega,if_true,if_false,Qk,Qn];rw[e1,a0.ro,a0.le,b1.kd,b1.le]
   exact⟨hu.2,rfl,by simp[dk],b0.2,b0.1⟩) (λi hi=>by
   simp only[Go.Proofs.YtjmcibbdedlcoaaGreatDoor.prem,show ¬(6:Int)=2 by omega,show ¬((6:Int)=3\/(6:Int)=4) by omega,show ¬(6:Int)=5 by omega,if_true,if_false,mem_cons,not_mem_nil,or_false]at hi
   rcases hi with rfl|rfl<;>omega)
  have m1:v.1∈Go.Proofs.YtjmcibbdedlcoaaGreatDoor.prem (⟨6,u,v.1,B1.1,0,[]⟩:ar):=(by simp[Go.Proofs.YtjmcibbdedlcoaaGreatDoor.prem]);have m2:B1.1∈Go.Proofs.YtjmcibbdedlcoaaGreatDoor.prem (⟨6,u,v.1,B1.1,0,[]⟩:ar):=(by simp[Go.Proofs.YtjmcibbdedlcoaaGreatDoor.prem]);have l3:=g1.len;have q1:=b1.pu.comp g1 (λhh=>g3 hh _ m2);have q0:=a0.pu.comp q1 (λhh=>g3 (by omega) _ m1);generalize cI B1.2 ⟨6,u,v.1,B1.1,0,[]⟩=r at*;refine⟨q0,by rw[g2,k6];rfl,by rw[g2],?_⟩;unfold eI;rw[g2];simp only[k6,show ¬(6:Nat)=5 by omega,if_true,if_false,Qk,Qn];obtain⟨t0,x0⟩:=q1.ext;obtain⟨t1,x1⟩:=g1.ext;refine⟨rfl,?_,?_⟩
  ·rw[x0,eU a0.pu.iV vr];exact a0.ex
  rw[x1,eB b1.pu.iV d _ _ r1 h1];exact b1.al
 rw[Z k5,Z k6]
 have e0:s.kind=3\/s.kind=4:=by rcases hk with e|e|e|e<;>omega
 have c0:aK (bx p vs d) p vs u s=[(s,L)]:=by unfold aK;rw[G e0,hL]
 rw[c0]at hm;have hf:=hm (s,L) (by simp);unfold bp at hf;simp only at hf
 obtain⟨g1,g2,g3⟩:=fH (n:=⟨s.kind,u,s.x,v.1,0,[]⟩) a0.pu.iV (by simp only;omega) (by
  unfold follows bT;rcases e0 with k3|k4
  ·have hx:s.x<vs.length:=by rcases hk with e|e|e|e<;>omega
   have hr:=ok.2 s.x hx;rw[Z (by omega)]at hf;rw[show ((s.kind:Nat):Int)=3 by omega];simp only[dG,show ¬(3:Int)=0 by omega,show ¬(3:Int)=1 by omega,show ¬(3:Int)=2 by omega,if_true,if_false,Qk,Qn,Qm];rw[hv,a0.ro,a0.le];exact⟨hu.2,by omega,rfl,aL lv d0 hj hr b0.2 hf,aL lv hu hj hr b0.1 hf⟩
  ·have hx:s.x<p.aj.length:=by rcases hk with e|e|e|e<;>omega
   have hr:=gq lv hx;rw[G k4]at hf;rw[show ((s.kind:Nat):Int)=4 by omega];simp only[dG,show ¬(4:Int)=0 by omega,show ¬(4:Int)=1 by omega,show ¬(4:Int)=2 by omega,show ¬(4:Int)=3 by omega,if_true,if_false,Qk,Qn,Qm];rw[a0.ro,a0.le]
   exact⟨hu.2,by simp;omega,rfl,aL lv d0 hj hr b0.2 hf,aL lv hu hj hr b0.1 hf⟩) (λi hi=>by
  have e:Go.Proofs.YtjmcibbdedlcoaaGreatDoor.prem (⟨s.kind,u,s.x,v.1,0,[]⟩:ar)=[v.1]:=(by unfold Go.Proofs.YtjmcibbdedlcoaaGreatDoor.prem;simp only;rw[Z (by omega),G (by omega)]);rw[e]at hi;simp only[mem_singleton]at hi
  omega)
 have m1:v.1∈Go.Proofs.YtjmcibbdedlcoaaGreatDoor.prem (⟨s.kind,u,s.x,v.1,0,[]⟩:ar):=by unfold Go.Proofs.YtjmcibbdedlcoaaGreatDoor.prem;simp only;rw[Z (by omega),G (by omega)];simp
 have q0:=a0.pu.comp g1 (λhh=>g3 hh _ m1);generalize cI v.2 ⟨s.kind,u,s.x,v.1,0,[]⟩=r at*;refine⟨q0,by rw[g2],by rw[g2],?_⟩;unfold eI;rw[g2];simp only[k5,k6,if_false,Qk,Qn];obtain⟨t0,x0⟩:=g1.ext;refine⟨trivial,trivial,?_⟩;rw[x0,eU a0.pu.iV vr];exact a0.ex
structure pL(p:aV)(ls:Is)(ws:List ar)(u:Int)(d:Nat)(l:List aa)(r:Is×List ar):Prop where
 iV:ji p ls r.2
 ext:∃t,r.2=ws++t
 len:r.1.length=l.length
 all:∀i,i<l.length->(0<=r.1.getD i 0/\r.1.getD i 0<r.2.length)/\(nd r.2 (r.1.getD i 0)).kind=((l.getD i noS).kind:Int)/\(nd r.2 (r.1.getD i 0)).ag=u/\eI (cO d r.2) r.2 (r.1.getD i 0) (l.getD i noS)=true
 new:r.2=ws\/((r.2.length:Int) - 1)∈r.1
def lY{nv nc d:Nat}{u:Int}{W:List ar->aa->Int×List ar}:∀(l:List aa) (ws:List ar),ji p ls ws->aY nv nc (d+1) l->(∀s∈l,∀ws,ji p ls ws->pn p ls ws u d s (W ws s))->pL p ls ws u d l (bK W ws l)
 |[],ws,h,_,_=>⟨h,⟨[],by simp[bK]⟩,rfl,λi hi=>by simp at hi,.inl rfl⟩
 |s::l,ws,h,hs,hW=>by
  have h1:=hW s (by simp) ws h;have h2:=lY l (W ws s).2 h1.pu.iV (λs hs'=>hs s (by simp[hs'])) (λs hs'=>hW s (by simp[hs']));obtain⟨t1,e1⟩:=h1.pu.ext;obtain⟨t2,e2⟩:=h2.ext;have r1:=h1.pu.iT;have hl:(W ws s).2.length<=(bK W (W ws s).2 l).2.length:=(by rw[e2];simp);refine⟨h2.iV,⟨t1++t2,by show (bK W (W ws s).2 l).2=_;rw[e2,e1,append_assoc]⟩,by show ((W ws s).1::(bK W (W ws s).2 l).1).length=_;rw[length_cons,length_cons,h2.len],λi hi=>?_,?_⟩
  ·cases i with
   |zero=>
    show (0<=(W ws s).1/\(W ws s).1<((bK W (W ws s).2 l).2.length:Int))/\(nd (bK W (W ws s).2 l).2 (W ws s).1).kind=(s.kind:Int)/\(nd (bK W (W ws s).2 l).2 (W ws s).1).ag=u/\eI (cO d (bK W (W ws s).2 l).2) (bK W (W ws s).2 l).2 (W ws s).1 s=true;obtain⟨g1,-,g3,g4⟩:=hs s (by simp);refine⟨by omega,?_,?_,?_⟩
    ·rw[e2,dR r1];exact h1.kd
    ·rw[e2,dR r1];exact h1.le
    rw[e2,ir h1.pu.iV (λk l hk hs=>eB h1.pu.iV d k l hk hs) r1 g1 g3 g4];exact h1.on
   |succ i=>exact h2.all i (by simpa using hi)
  rcases h2.new with n2|n2
  ·rcases h1.pu.new with n1|n1
   ·exact .inl (n2.trans n1)
   refine .inr ?_;show (((bK W (W ws s).2 l).2.length:Int) - 1)∈(W ws s).1::(bK W (W ws s).2 l).1;rw[n2,<-n1];simp
  exact .inr (mem_cons_of_mem _ n2)
def jZ(lv:p.Lv)(ok:di p vs)(hv:vars p ls=vs):∀(d:Nat) (ws:List ar) (l:List aa) (u:Int),ji p ls ws->aY vs.length p.aj.length d l->(0<=u/\u<p.n)->(∀m∈bx p vs d l u,bp p vs m=true)->pm p ls ws u d l (aD p vs d ws l u)
 |0,ws,l,u,h,hs,hu,_=>by
  have hs:l=[]:=hs
  obtain⟨g1,g2,g3⟩:=fH (n:=⟨7,u,0,0,0,[]⟩) h (by simp) (by
   unfold follows bT;simp only[show ¬(7:Int)=0 by omega,show ¬(7:Int)=1 by omega,show ¬(7:Int)=2 by omega,show ¬(7:Int)=3 by omega,show ¬(7:Int)=4 by omega,show ¬(7:Int)=5 by omega,show ¬(7:Int)=6 by omega,if_false,Qk,Qn,all_nil]
   exact⟨hu.2,trivial⟩) (λi hi=>by simp[Go.Proofs.YtjmcibbdedlcoaaGreatDoor.prem]at hi)
  unfold aD;refine⟨g1,by rw[g2],by rw[g2],?_⟩;unfold cO;rw[g2,hs];simp
 |d+1,ws,l,u,h,hs,hu,hm=>by
  have hL:=lY (p:=p) (ls:=ls) (d:=d) (u:=u) (W:=dh (aD p vs d) p vs u) l ws h hs (λs hs' ws' h'=>by
   obtain⟨a1,a2,a3,a4⟩:=hs s hs'
   exact mF lv ok hv (jZ lv ok hv d) h' hu a1 a2 a3 a4 (λm hm'=>hm m (mem_flatMap.2 ⟨s,hs',hm'⟩)))
  unfold aD;generalize bK (dh (aD p vs d) p vs u) ws l=r at*
  have a0:∀i,i<l.length->dk ((l.getD i noS).kind:Int)=1:=λi hi=>by
   rcases(hs _ (oG (x:=noS) hi)).1 with e|e|e|e<;>unfold dk<;>rw[Z (by omega),G (by omega)]
  have dK:∀k∈r.1,∃i,i<l.length/\k=r.1.getD i 0:=λk hk=>by
   obtain⟨i,hi,e⟩:=getElem_of_mem hk;exact⟨i,by rw[<-hL.len];exact hi,by rw[Qa,Qb hi];exact e.symm⟩
  have b0:Go.Proofs.YtjmcibbdedlcoaaGreatDoor.prem (⟨7,u,0,0,0,r.1⟩:ar)=r.1:=(by simp[Go.Proofs.YtjmcibbdedlcoaaGreatDoor.prem])
  obtain⟨g1,g2,g3⟩:=fH (n:=⟨7,u,0,0,0,r.1⟩) hL.iV (by simp) (by
   unfold follows bT;simp only[show ¬(7:Int)=0 by omega,show ¬(7:Int)=1 by omega,show ¬(7:Int)=2 by omega,show ¬(7:Int)=3 by omega,show ¬(7:Int)=4 by omega,show ¬(7:Int)=5 by omega,show ¬(7:Int)=6 by omega,if_false,Qk,Qn,all_eq_true];refine⟨hu.2,λk hk=>?_⟩;obtain⟨i,hi,rfl⟩:=dK k hk;obtain⟨a1,a2,a3,a4⟩:=hL.all i hi;rw[a2,a3]
   exact⟨a0 i hi,eV lv hu⟩) (λk hk=>by
   rw[b0]at hk;obtain⟨i,hi,rfl⟩:=dK k hk
   exact(hL.all i hi).1)
  rw[b0]at g3;obtain⟨t1,e1⟩:=hL.ext;obtain⟨t2,e2⟩:=g1.ext;have gr:=g1.iT;generalize cI r.2 ⟨7,u,0,0,0,r.1⟩=q at*;refine⟨⟨g1.iV,⟨t1++t2,by rw[e2,e1,append_assoc]⟩,gr,?_⟩,by rw[g2],by rw[g2],?_⟩
  ·rcases g1.new with n|n
   ·rcases hL.new with n2|n2
    ·exact .inl (n.trans n2)
    exfalso
    have h5:=g3 (by rw[n]) _ n2;rw[n]at gr;omega
   exact .inr n
  unfold cO;rw[g2];simp only[decide_true,Bool.true_and,Qk,Qn,all_eq_true,mem_range];refine⟨hL.len,λi hi=>?_⟩;obtain⟨a1,a2,a3,a4⟩:=hL.all i hi;obtain⟨b1,-,b3,b4⟩:=hs _ (oG (x:=noS) hi);rw[e2,ir hL.iV (λk l hk hs=>eB hL.iV d k l hk hs) a1 b1 b3 b4];exact a4
end
end Fl
namespace Fl
structure RS.Lv(r:RS):Prop where
 le:r.au.length<=6
 ce:∀y∈r.aT,y<r.au.length
 ch:∀y∈r.aS,y<r.au.length
def pU:RS.zero.Lv:=⟨by decide,λ_ h=>(by cases h),λ_ h=>(by cases h)⟩
def RS.Lv.same{r r':RS}(h:r.Lv)(e:r'.au=r.au/\r'.aT=r.aT/\r'.aS=r.aS):r'.Lv:=⟨by rw[e.1];exact h.le,by rw[e.1,e.2.1];exact h.ce,by rw[e.1,e.2.2];exact h.ch⟩
def RS.mD(r:RS)(s:aa):(r.put s).au=r.au/\(r.put s).aT=r.aT/\(r.put s).aS=r.aS:=by
 unfold RS.put;split<;>exact⟨rfl,rfl,rfl⟩
def RS.nI(r:RS):r.bB.au=r.au/\r.bB.aT=r.aT/\r.bB.aS=r.aS:=by
 unfold RS.bB;split<;>exact⟨rfl,rfl,rfl⟩
def RS.mC(r:RS):r.cX.au=r.au/\r.cX.aT=r.aT/\r.cX.aS=r.aS:=by
 unfold RS.cX;split<;>exact⟨rfl,rfl,rfl⟩
def RS.lA(r:RS)(n:K){r':RS}(h:r.bj n=some (x,r')):r'.au=r.au/\r'.aT=r.aT/\r'.aS=r.aS:=by
 unfold RS.bj at h
 split at h
 ·simp only[Ql,Prod.mk.injEq]at h;rw[<-h.2];exact⟨rfl,rfl,rfl⟩
 split at h
 ·simp only[Ql,Prod.mk.injEq]at h;rw[<-h.2];exact⟨rfl,rfl,rfl⟩
 split at h
 ·cases h
 simp only[Ql,Prod.mk.injEq]at h;rw[<-h.2];exact⟨rfl,rfl,rfl⟩
def RS.nH(r:RS)(a:Nat)(w:List K):(r.bS a w).2.au=r.au/\(r.bS a w).2.aT=r.aT/\(r.bS a w).2.aS=r.aS:=by
 unfold RS.bS
 split
 ·split
  ·exact⟨rfl,rfl,rfl⟩
  split
  ·split
   ·exact r.mC
   exact⟨rfl,rfl,rfl⟩
  exact r.nI
 ·split
  ·exact⟨rfl,rfl,rfl⟩
  split
  ·exact⟨rfl,rfl,rfl⟩
  exact⟨rfl,rfl,rfl⟩
 ·split
  ·exact⟨rfl,rfl,rfl⟩
  split
  ·split
   ·exact⟨rfl,rfl,rfl⟩
   split
   ·exact⟨rfl,rfl,rfl⟩
   exact r.mD _
  split
  ·exact⟨rfl,rfl,rfl⟩
  split
  ·exact⟨rfl,rfl,rfl⟩
  rename_i h
  split
  ·exact⟨rfl,rfl,rfl⟩
  have h1:=r.lA _ h;have h2:=RS.mD;exact⟨(h2 _ _).1.trans h1.1,(h2 _ _).2.1.trans h1.2.1,(h2 _ _).2.2.trans h1.2.2⟩
 exact⟨rfl,rfl,rfl⟩
def RS.Lv.head{r:RS}(h:r.Lv)(w:List K):(r.head w).2.Lv:=by
 unfold RS.head
 split
 ·split
  ·exact h.same ⟨rfl,rfl,rfl⟩
  exact h
 ·split
  ·exact h
  split
  ·exact h
  rename_i h6;have hl:=h.le;exact⟨by simp;omega,λy hy=>by have:=h.ce y hy;simp;omega,λy hy=>by have:=h.ch y hy;simp;omega⟩
 ·rename_i k n l
  have hp:=aO r.au l
  split
  ·split
   ·exact h
   exact h.same ⟨rfl,rfl,rfl⟩
  split
  ·exact h
  rename_i hn;have h0:¬ai r.au l<0:=λq=>hn (.inl q)
  split
  ·split
   ·exact h
   refine⟨h.le,λy hy=>?_,h.ch⟩;rcases mem_append.1 hy with h1|h1
   ·exact h.ce y h1
   simp only[mem_singleton]at h1;show y<r.au.length;omega
  split
  ·exact h
  refine⟨h.le,h.ce,λy hy=>?_⟩;rcases mem_append.1 hy with h1|h1
  ·exact h.ch y h1
  simp only[mem_singleton]at h1;show y<r.au.length;omega
 exact h
def RS.Lv.row{r:RS}(h:r.Lv)(w:List K)(a:Nat):(r.row w a).2.Lv:=by
 unfold RS.row
 split
 ·exact h
 split
 ·exact h.head w
 exact h.same (r.nH a w)
def lX:∀(ls:List K) (r:RS) (i:Nat),r.Lv->(rows r i ls).2.2.Lv
 |[],r,i,h=>h
 |[l],r,i,h=>by
  rw[rows]
  split
  ·split<;>exact h
  exact h
 |l::m::ls,r,i,h=>by
  rw[rows]
  split
  ·exact h
  split
  ·exact h
  exact lX (m::ls) _ (i+1) (h.row _ _)
def iY(s:K):(aq s).2.2.n<=6/\(∀y∈(aq s).2.2.cells,y<(aq s).2.2.n)/\∀y∈(aq s).2.2.aj,y<(aq s).2.2.n:=by
 unfold aq
 split
 ·exact⟨pU.le,pU.ce,pU.ch⟩
 have h:=lX (aC 10 s) RS.zero 0 pU;exact⟨h.le,h.ce,h.ch⟩
end Fl
namespace Fl
def RS.Tb(r' r:RS):Prop:=r'.au=r.au/\r'.aI=r.aI/\r'.aF=r.aF
def RS.mB(r:RS)(s:aa):(r.put s).Tb r:=by
 unfold RS.put;split<;>exact⟨rfl,rfl,rfl⟩
def RS.nG(r:RS):r.bB.Tb r:=by
 unfold RS.bB;split<;>exact⟨rfl,rfl,rfl⟩
def RS.nx(r:RS):r.cX.Tb r:=by
 unfold RS.cX;split<;>exact⟨rfl,rfl,rfl⟩
def RS.my(r:RS)(n:K){r':RS}(h:r.bj n=some (x,r')):r'.Tb r:=by
 unfold RS.bj at h
 split at h
 ·simp only[Ql,Prod.mk.injEq]at h;rw[<-h.2];exact⟨rfl,rfl,rfl⟩
 split at h
 ·simp only[Ql,Prod.mk.injEq]at h;rw[<-h.2];exact⟨rfl,rfl,rfl⟩
 split at h
 ·cases h
 simp only[Ql,Prod.mk.injEq]at h;rw[<-h.2];exact⟨rfl,rfl,rfl⟩
def RS.nF(r:RS)(a:Nat)(w:List K):(r.bS a w).2.Tb r:=by
 unfold RS.bS
 split
 ·split
  ·exact⟨rfl,rfl,rfl⟩
  split
  ·split
   ·exact r.nx
   exact⟨rfl,rfl,rfl⟩
  exact r.nG
 ·split
  ·exact⟨rfl,rfl,rfl⟩
  split
  ·exact⟨rfl,rfl,rfl⟩
  exact⟨rfl,rfl,rfl⟩
 ·split
  ·exact⟨rfl,rfl,rfl⟩
  split
  ·split
   ·exact⟨rfl,rfl,rfl⟩
   split
   ·exact⟨rfl,rfl,rfl⟩
   exact r.mB _
  split
  ·exact⟨rfl,rfl,rfl⟩
  split
  ·exact⟨rfl,rfl,rfl⟩
  rename_i h
  split
  ·exact⟨rfl,rfl,rfl⟩
  have h1:=r.my _ h;have h2:=RS.mB;exact⟨(h2 _ _).1.trans h1.1,(h2 _ _).2.1.trans h1.2.1,(h2 _ _).2.2.trans h1.2.2⟩
 exact⟨rfl,rfl,rfl⟩
def RS.Lt(r:RS):Prop:=r.ae=true->br r.au.length r.tab=true
def RS.Lt.head{r:RS}(h:r.ae=false)(w:List K):(r.head w).2.Lt:=by
 have h0:∀r':RS,r'.ae=r.ae->r'.Lt:=λr' e hb=>by rw[e,h]at hb;cases hb
 unfold RS.head
 split
 ·split
  ·rename_i hl
   exact λ_=>hl
  exact h0 _ rfl
 ·split
  ·exact h0 _ rfl
  split
  ·exact h0 _ rfl
  exact h0 _ rfl
 ·split
  ·split
   ·exact h0 _ rfl
   exact h0 _ rfl
  split
  ·exact h0 _ rfl
  split
  ·split
   ·exact h0 _ rfl
   exact h0 _ rfl
  split
  ·exact h0 _ rfl
  exact h0 _ rfl
 exact h0 _ rfl
def RS.Lt.row{r:RS}(h:r.Lt)(w:List K)(a:Nat):(r.row w a).2.Lt:=by
 unfold RS.row
 split
 ·exact h
 rename_i a0
 split
 ·rename_i hh
  refine RS.Lt.head ?_ w
  cases hb:r.ae with
  |false=>rfl
  |true=>exact absurd (hh.trans hb.symm) a0
 rename_i hh;have hb:r.ae=true:=by
  cases hb:r.ae with
  |true=>rfl
  |false=>exact absurd ((Bool.eq_false_iff.2 hh).trans hb.symm) a0
 obtain⟨e1,e2,e3⟩:=r.nF a w;intro _;have h5:=h hb;unfold RS.tab at h5⊢;rw[e1,e2,e3];exact h5
def lW:∀(ls:List K) (r:RS) (i:Nat),r.Lt->(rows r i ls).2.2.Lt
 |[],r,i,h=>h
 |[l],r,i,h=>by
  rw[rows]
  split
  ·split<;>exact h
  exact h
 |l::m::ls,r,i,h=>by
  rw[rows]
  split
  ·exact h
  split
  ·exact h
  exact lW (m::ls) _ (i+1) (h.row _ _)
def eN(s:K)(h0:(aq s).1=0):(aq s).2.2.Lv:=by
 obtain⟨h1,h2,h3⟩:=iY s;refine⟨h1,?_,h2,h3⟩;unfold aq at h0⊢
 by_cases hs:1200<s.length
 ·rw[G hs]at h0;cases h0
 rw[Z hs]at h0⊢;obtain⟨-,hb,-,-⟩:=jP _ RS.zero 0 mU h0;exact RS.fA (lW (aC 10 s) RS.zero 0 (λh=>by cases h) hb)
end Fl
def zt1{p:Fl.aV}(h:p.Lv):Fl.di p (Fl.start p):=by
 unfold Fl.start Fl.vars;refine⟨by simp,λi hi=>?_⟩;rw[Qa]
 by_cases hc:i<p.cells.length
 ·rw[getElem?_append_left (by simpa using hc),getElem?_map,Qb hc]
  have:=h.ce _ (getElem_mem hc);simp only[Option.map_some,Option.getD_some];omega
 rw[getElem?_append_right (by simp;omega),getElem?_replicate];have:=h.aI;simp at hi;rw[G (by simp;omega)];exact this
namespace Fl
def km{p:aV}(lv:p.Lv)(ho:p.Ok):∀(f:Nat) (vs:Is),di p vs->di p (raise p f vs)/\(raise p f vs).take p.cells.length=vs.take p.cells.length
 |0,vs,h=>⟨h,rfl⟩
 |f+1,vs,h=>by
  unfold raise
  split
  ·rename_i vs' hr
   unfold jR at hr
   split at hr
   ·rename_i m hm
    injection hr with hr;subst hr;have hp:=find?_some (p:=λm=>bU p m.1 && !bp p vs m) hm;have dK:=mem_of_find?_eq_some hm;rw[Qk]at hp;have a0:=lv.aI;have b0:=zx3 lv h 4 p.aZ (aI p).toNat (by rw[h.1];exact ho.aZ) (by omega) m (by rw[show (((aI p).toNat:Nat):Int)=aI p by omega];exact dK);have h1:=(iU lv h b0 hp.1 (by simpa using hp.2)).1;obtain⟨g1,g2⟩:=km lv ho f _ h1;refine⟨g1,g2.trans ?_⟩;have hl:=hp.1;unfold bU at hl;rw[Qk,Qn,Qn]at hl;rw[take_set,set_eq_of_length_le (by rw[length_take];omega)]
   cases hr
  exact⟨h,rfl⟩
def jt{p:aV}(lv:p.Lv)(ho:p.Ok):di p (bJ p)/\vars p ((bJ p).drop p.cells.length)=bJ p:=by
 obtain⟨h1,h2⟩:=km lv ho 25 (start p) (zt1 lv);refine⟨h1,?_⟩;have e:(start p).take p.cells.length=p.cells.map (λ(x:Nat)=>(x:Int)):=by
  unfold start vars;rw[take_append_of_le_length (by simp),take_of_length_le (by simp)]
 show p.cells.map (λ(x:Nat)=>(x:Int))++(bJ p).drop p.cells.length=bJ p;rw[<-e,<-h2];exact take_append_drop _ _
def aa.Fit(s:aa):Prop:=0<s.ap/\(s.kind=3\/s.kind=4->s.aZ=[]/\s.aP=[])
def dB:Nat->List aa->Prop
 |0,_=>True
 |d+1,l=>∀s∈l,s.Fit/\dB d s.aZ/\dB d s.aP
def gM{p:aV}{vs:Is}:∀(d:Nat) (l:List aa) (u:Int),dB d l->∀m∈bx p vs d l u,0<m.1.ap
 |0,_,_,_,m,hm=>by cases hm
 |d+1,l,u,h,m,hm=>by
  obtain⟨s,hs,hm⟩:=mem_flatMap.1 (show m∈l.flatMap (aK (bx p vs d) p vs u) from hm);obtain⟨h1,h2,h3⟩:=h s hs;unfold aK at hm
  split at hm
  ·rw[mem_singleton]at hm
   rw[hm];exact h1.1
  split at hm
  ·rcases mem_append.1 hm with hm|hm
   ·exact gM d _ _ h2 m hm
   exact gM d _ _ h3 m hm
  cases hm
def ny{p:aV}(hl:dB 4 p.aZ)(h:cY p vs=0):∀m∈bx p vs 4 p.aZ (aI p),bp p vs m=true:=λm hm=>by
 unfold cY at h
 split at h
 ·rename_i m' hm'
  have:=gM 4 p.aZ (aI p) hl m' (mem_of_find?_eq_some hm');omega
 rename_i hn;rw[find?_eq_none]at hn;have:=hn m hm;simpa using this
def ki{l:Is}{v:Int}(h:v∈l):∃i,i<l.length/\l.getD i 0=v:=by
 obtain⟨i,hi,e⟩:=getElem_of_mem h;exact⟨i,hi,by rw[Qa,Qb hi];exact e⟩
def kh{p:aV}(lv:p.Lv)(ho:p.Ok)(hl:dB 4 p.aZ)(h0:(bF p).1=0):check p (bF p).2.1 (bF p).2.2=(0,-1)/\cO 4 (bF p).2.2 (((bF p).2.2.length:Int) - 1) p.aZ=true:=by
 unfold bF at h0⊢
 by_cases hd:0<cY p (bJ p)
 ·rw[G hd]at h0;simp only at h0;omega
 rw[Z hd];obtain⟨hv,b0⟩:=jt lv ho;have hB:=jZ lv hv b0 4 [] p.aZ (aI p) (ji.nil _ _) (by rw[hv.1];exact ho.aZ) lv.aI (ny hl (by omega));simp only;generalize aD p (bJ p) 4 [] p.aZ (aI p)=r at*;have hr:r.1=(r.2.length:Int) - 1:=by
  rcases hB.pu.new with n|n
  ·have:=hB.pu.iT
   rw[n]at this;simp at this;omega
  exact n
 have a0:cO 4 r.2 ((r.2.length:Int) - 1) p.aZ=true:=by rw[<-hr];exact hB.al
 refine⟨?_,a0⟩;unfold check;rw[Z,ey _ _ (λj hj=>by rw[(hB.pu.iV j hj).2.1];rfl)]
 ·simp only
  rw[a0];rfl
 rintro(h|h)
 ·exact h (by rw[length_drop,hv.1];omega)
 obtain⟨v,hm,hc⟩:=any_eq_true.1 h;obtain⟨i,hi,e⟩:=ki (mem_of_mem_drop hm);have:=hv.2 i hi;have:=of_decide_eq_true hc;omega
structure RS.Pos(r:RS):Prop where
 ct:∀d,dB d r.ct
 fr:∀f∈r.fr,(0<f.ap/\(f.kind=5\/f.kind=6))/\(∀d,dB d f.first)/\∀d,dB d f.fN
def Frame.fit{f:Frame}(h:0<f.ap/\(f.kind=5\/f.kind=6)):f.done.Fit:=⟨h.1,λhk=>by have e:f.done.kind=f.kind:=rfl;omega⟩
def dB.snoc{l:List aa}(h:∀d,dB d l){s:aa}(hs:s.Fit)(h1:∀d,dB d s.aZ)(h2:∀d,dB d s.aP):∀d,dB d (l++[s])
 |0=>trivial
 |d+1=>λx hx=>by
  rcases mem_append.1 hx with hx|hx
  ·exact h (d+1) x hx
  rw[mem_singleton]at hx;rw[hx];exact⟨hs,h1 d,h2 d⟩
def dB.nil:∀d,dB d []
 |0=>trivial
 |d+1=>λx hx=>by cases hx
def pj:RS.zero.Pos:=⟨dB.nil,λf hf=>by cases hf⟩
def RS.Pos.put{r:RS}(h:r.Pos){s:aa}(hs:s.Fit)(h1:∀d,dB d s.aZ)(h2:∀d,dB d s.aP):(r.put s).Pos:=by
 unfold RS.put
 split
 ·exact⟨dB.snoc h.ct hs h1 h2,h.fr⟩
 rename_i f fs hf;have a0:=h.fr;rw[hf]at a0;have h0:=a0 f (by simp);refine⟨h.ct,λg hg=>?_⟩;rcases mem_cons.1 hg with rfl|hg
 ·split
  ·exact⟨h0.1,h0.2.1,dB.snoc h0.2.2 hs h1 h2⟩
  exact⟨h0.1,dB.snoc h0.2.1 hs h1 h2,h0.2.2⟩
 exact a0 g (by simp[hg])
def RS.Pos.bB{r:RS}(h:r.Pos):r.bB.Pos:=by
 unfold RS.bB
 split
 ·exact h
 ·rename_i f hf
  have a0:=h.fr;rw[hf]at a0;have h0:=a0 f (by simp);exact⟨dB.snoc (s:=f.done) h.ct (Frame.fit h0.1) h0.2.1 h0.2.2,λg hg=>by cases hg⟩
 rename_i f g fs hf;have a0:=h.fr;rw[hf]at a0;have h0:=a0 f (by simp);have h9:=a0 g (by simp);refine⟨h.ct,λg' hg=>?_⟩;rcases mem_cons.1 hg with rfl|hg
 ·split
  ·exact⟨h9.1,h9.2.1,dB.snoc (s:=f.done) h9.2.2 (Frame.fit h0.1) h0.2.1 h0.2.2⟩
  exact⟨h9.1,dB.snoc (s:=f.done) h9.2.1 (Frame.fit h0.1) h0.2.1 h0.2.2,h9.2.2⟩
 exact a0 g' (by simp[hg])
def RS.Pos.cX{r:RS}(h:r.Pos):r.cX.Pos:=by
 unfold RS.cX
 split
 ·exact h
 rename_i f fs hf;have a0:=h.fr;rw[hf]at a0;have h0:=a0 f (by simp);refine⟨h.ct,λg hg=>?_⟩;rcases mem_cons.1 hg with rfl|hg
 ·exact h0
 exact a0 g (by simp[hg])
def RS.Pos.same{r r':RS}(h:r.Pos)(e:r'.ct=r.ct/\r'.fr=r.fr):r'.Pos:=⟨by rw[e.1];exact h.ct,by rw[e.2];exact h.fr⟩
def RS.mz(r:RS)(n:K){r':RS}(h:r.bj n=some (x,r')):r'.ct=r.ct/\r'.fr=r.fr/\r'.ae=r.ae:=by
 unfold RS.bj at h
 split at h
 ·simp only[Ql,Prod.mk.injEq]at h;rw[<-h.2];exact⟨rfl,rfl,rfl⟩
 split at h
 ·simp only[Ql,Prod.mk.injEq]at h;rw[<-h.2];exact⟨rfl,rfl,rfl⟩
 split at h
 ·cases h
 simp only[Ql,Prod.mk.injEq]at h;rw[<-h.2];exact⟨rfl,rfl,rfl⟩
def RS.Pos.bS{r:RS}(h:r.Pos){a:Nat}(ha:0<a)(w:List K):(r.bS a w).2.Pos:=by
 unfold RS.bS
 split
 ·split
  ·exact h
  split
  ·split
   ·exact h.cX
   exact h
  exact h.bB
 ·split
  ·exact h
  split
  ·exact h
  refine⟨h.ct,λg hg=>?_⟩;rcases mem_cons.1 hg with rfl|hg
  ·exact⟨⟨ha,by show (if _ then 5 else 6)=5\/(if _ then 5 else 6)=6;split<;>simp⟩,dB.nil,dB.nil⟩
  exact h.fr g hg
 ·split
  ·exact h
  split
  ·split
   ·exact h
   split
   ·exact h
   exact h.put ⟨ha,λ_=>⟨rfl,rfl⟩⟩ dB.nil dB.nil
  split
  ·exact h
  split
  ·exact h
  rename_i hh
  split
  ·exact h
  have h1:=r.mz _ hh;exact(h.same ⟨h1.1,h1.2.1⟩).put ⟨ha,λ_=>⟨rfl,rfl⟩⟩ dB.nil dB.nil
 exact h
def RS.iq(r:RS)(w:List K):(r.head w).2.ct=r.ct/\(r.head w).2.fr=r.fr:=by
 unfold RS.head
 repeat' split
 all_goals exact⟨rfl,rfl⟩
def RS.Pos.row{r:RS}(h:r.Pos)(w:List K){a:Nat}(ha:0<a):(r.row w a).2.Pos:=by
 unfold RS.row
 split
 ·exact h
 split
 ·exact h.same (r.iq w)
 exact h.bS ha w
def kg:∀(ls:List K) (r:RS) (i:Nat),r.Pos->(rows r i ls).2.2.Pos
 |[],r,i,h=>h
 |[l],r,i,h=>by
  rw[rows]
  split
  ·split<;>exact h
  exact h
 |l::m::ls,r,i,h=>by
  rw[rows]
  split
  ·exact h
  split
  ·exact h
  exact kg (m::ls) _ (i+1) (h.row _ (by omega))
def jJ(s:K)(d:Nat):dB d (aq s).2.2.aZ:=by
 unfold aq
 split
 ·exact pj.ct d
 exact(kg (aC 10 s) RS.zero 0 pj).ct d
end Fl
open Go.RowKit
section
variable{n q1 q2:Nat}
def yu5(hh:dV s=3)(h3:3<=s.length)(hb:(ed s 3 0 4).2.1<0):Fl.decode s=(([],[]),false,(ed s 3 0 4).2.2):=by
 have a0:=ei s 3 h3;unfold Fl.decode;rw[hh,Z (by decide)];simp only;unfold ed at*
 by_cases h1:(num s 3).2.1<0
 ·rw[G h1,G h1]
 rw[Z h1]at hb;rw[Z h1,Z h1]
 by_cases h2:(num s 3).1<0\/4<(num s 3).1
 ·rw[G h2,G (by omega)];rfl
 rw[Z h2]at hb;exact absurd hb h1
def zpz(hh:dV s=3)(hn:num s 3=((n:Int),(q1:Int),0))(a0:n<=4):
  Fl.decode s=(let l:=cW s q1 n
   if l.2.1<0 then(([],[]),false,l.2.2) else
   let m:=num s l.2.1.toNat
   if m.2.1<0 then(([],[]),false,m.2.2) else
   if m.1<1\/200<m.1 then(([],[]),false,l.2.1) else
   let r:=cF s m.1.toNat 0 m.2.1.toNat [] []
   if 0<=r.2.2.2 then(([],[]),false,r.2.2.2) else
   if r.2.2.1<s.length then(([],[]),false,r.2.2.1) else
   if 0<=bf r.1 then(([],[]),false,r.2.1.getD (bf r.1).toNat 0) else((l.1,r.1),true,0)):=by
 unfold Fl.decode;rw[hh,Z (by decide)];simp only[hn];rw[Z (by omega),Z (by omega)];rfl
def yu6(hh:dV s=3)(hn:num s 3=((n:Int),(q1:Int),0))(a0:n<=4)(hl:(cW s q1 n).2.1<0):Fl.decode s=(([],[]),false,(cW s q1 n).2.2):=by
 rw[zpz hh hn a0];simp only;rw[G hl]
def yu7(hh:dV s=3)(hn:num s 3=((n:Int),(q1:Int),0))(a0:n<=4)(hl:cW s q1 n=(ls,(q2:Int),z))(b0:q2<=s.length)(hm:(ed s q2 1 200).2.1<0):Fl.decode s=(([],[]),false,(ed s q2 1 200).2.2):=by
 rw[zpz hh hn a0];simp only[hl,Qm];rw[Z (by omega)];unfold ed at*
 by_cases h1:(num s q2).2.1<0
 ·rw[G h1,G h1]
 rw[Z h1]at hm;rw[Z h1,Z h1]
 by_cases h2:(num s q2).1<1\/200<(num s q2).1
 ·rw[G h2,G h2]
 rw[Z h2]at hm;exact absurd hm h1
def zr5(s:K)(ls:Is)(Jb q0:Nat):(Is×List Fl.ar)×Bool×Int:=
 let r:=cF s Jb 0 q0 [] []
 if 0<=r.2.2.2 then(([],[]),false,r.2.2.2) else
 if r.2.2.1<s.length then(([],[]),false,r.2.2.1) else
 if 0<=bf r.1 then(([],[]),false,r.2.1.getD (bf r.1).toNat 0) else((ls,r.1),true,0)
def yr3(hh:dV s=3)(hn:num s 3=((n:Int),(q1:Int),0))(a0:n<=4)(hl:cW s q1 n=(ls,(q2:Int),z))(hm:num s q2=((Jb:Int),(q0:Int),0))(h1:1<=Jb)(h2:Jb<=200):Fl.decode s=zr5 s ls Jb q0:=by
 rw[zpz hh hn a0];simp only[hl,Qm,hm];rw[Z (by omega),Z (by omega),Z (by omega)];rfl
end
section
variable{lv:Value}{k:Nat}{nv:Value}
def PL.pi(h:PL s Jb q0 w b P0 lv ls wr k q sv nv st acc lvs)(hk:k<Jb)(hb:(one s q k).2.1<0):zr5 s ls Jb q0=(([],[]),false,(one s q k).2.2):=by
 have a0:=kM s q k h.hq;have hr:cF s Jb 0 q0 [] []=(acc,st,(q:Int),(one s q k).2.2):=by
  rw[h.fp,show Jb - k=(Jb - (k+1))+1 from by omega];simp only[cF];rw[G hb]
 unfold zr5;simp only[hr];rw[G (by omega)]
def PL.bB(h:PL s Jb q0 w b P0 lv ls wr k q sv nv st acc lvs)(hk:¬k<Jb):zr5 s ls Jb q0=if q<s.length then(([],[]),false,(q:Int)) else if 0<=bf acc then(([],[]),false,st.getD (bf acc).toNat 0) else((ls,acc),true,0):=by
 have a0:k=Jb:=by have:=h.hk;omega
 have hr:cF s Jb 0 q0 [] []=(acc,st,(q:Int),-1):=by
  rw[h.fp,a0,Nat.sub_self];rfl
 unfold zr5;simp only[hr];rw[Z (by decide)]
 by_cases h1:q<s.length
 ·rw[G (by omega),G h1]
 rw[Z (by omega),Z h1]
end
structure PC(w:World)(b P0:Nat)(lv:Value)(wr:World)(q:Nat)(s34 nc1:Value)(fam:List (Value×Is))(sv nv:Value)(n1 n2:Nat)(xs ys:Vs):Prop where
 hl:Li (P0+1) wr fam sv nv n1 n2 xs ys
 c0:wr.cell? (Y P0 0)=some lv
 c1:wr.cell? (Y P0 1)=some nc1
 d0:wr.cell? (Y w.heap.size 0)=some Zq
 d1:wr.cell? (Y w.heap.size 1)=some Zq
 f0:∀j,wr.frozen? (Y w.heap.size j)=false
 f1:∀j,wr.frozen? (Y P0 j)=false
 fb:∀j,wr.frozen? (Y b j)=false
 fr:Fr w wr b
 a1:wr.cell? (Y b 1)=some (I (q:Int))
 kO:wr.cell? (Y b 34)=some s34
 hR:w.heap.size<P0
 hP:P0<wr.heap.size
 hb:b<w.heap.size
section
variable{lv:Value}{s34 nc1:Value}{fam:List (Value×Is)}{nv:Value}{n1 n2:Nat}{xs ys:Vs}
def PC.own(h:PC w b P0 lv wr q s34 nc1 fam sv nv n1 n2 xs ys){row:Option Nat}(g:wr.grownBy w' row)(a0:∀k,row=some k->P0+1<=k){n1' n2':Nat}{xs' ys':Vs}{fam':List (Value×Is)}(hl:Li (P0+1) w' fam' sv' nv' n1' n2' xs' ys'):PC w b P0 lv w' q s34 nc1 fam' sv' nv' n1' n2' xs' ys':=by
 have hR:=h.hR;have hb:=h.hb;have hP:=h.hP
 have ne:∀k,k<=P0->some k≠row:=λk hk e=>by have:=a0 k e.symm;omega
 have fz:∀(N j:Nat),N<wr.heap.size->N<=P0->w'.frozen? (Y N j)=wr.frozen? (Y N j):=λN j hN hk=>Qd (w:=wr) (a:=(Y N j)) (g.block N hN (ne N hk));exact⟨hl,g.cell h.c0 (ne _ lE),g.cell h.c1 (ne _ lE),g.cell h.d0 (ne _ (by show w.heap.size<=P0;omega)),g.cell h.d1 (ne _ (by show w.heap.size<=P0;omega)),λj=>(fz _ j (by omega) (by omega)).trans (h.f0 j),λj=>(fz _ j hP (by omega)).trans (h.f1 j),λj=>(fz _ j (by omega) (by omega)).trans (h.fb j),h.fr.dH g hb (λk e=>by have:=a0 k e;omega),g.cell h.a1 (ne _ (by show b<=P0;omega)),g.cell h.kO (ne _ (by show b<=P0;omega)),hR,Qj hP g.size,hb⟩
def PC.alloc(h:PC w b P0 lv wr q s34 nc1 fam sv nv n1 n2 xs ys)(o:Obj):PC w b P0 lv (wr.alloc o) q s34 nc1 fam sv nv n1 n2 xs ys:=
 h.own (grownBy_alloc wr o none) (λk e=>by cases e) (h.hl.stay (Xi.alloc _ _ _))
def PC.drew(h:PC w b P0 lv wr q s34 nc1 fam sv nv n1 n2 xs ys):PC w b P0 lv wr.drew q s34 nc1 fam sv nv n1 n2 xs ys:=
 h.own (w':=wr.drew) (row:=none) ⟨rfl,rfl,rfl,lE,λ_ _ _=>rfl⟩ (λk e=>by cases e) (h.hl.stay (w':=wr.drew) ⟨lE,λ_ _ _=>rfl⟩)
def PC.below(h:PC w b P0 lv wr q s34 nc1 fam sv nv n1 n2 xs ys)(hb:E wr w'):PC w b P0 lv w' q s34 nc1 fam sv nv n1 n2 xs ys:=
 h.own (row:=none) ⟨hb.os,hb.tape,hb.output,hb.size,λk hk _=>hb.block k hk⟩ (λk e=>by cases e) (h.hl.stay (Xi.below hb))
def PC.first(h:PC w b P0 lv wr q s34 nc1 fam sv nv n1 n2 xs ys){sv':Value}{n1':Nat}{xs':Vs}(ho:w'.ownsRow (P0+1) 3 1 sv' n1' xs')(hg:wr.grownBy w' sv.ownBlock)(hw:sv'.ownBlock=sv.ownBlock\/sv'.ownBlock=some wr.heap.size):PC w b P0 lv w' q s34 nc1 fam sv' nv n1' n2 xs' ys:=
 h.own hg (λk e=>(h.hl.hs.lt k e).1) (h.hl.first ho hg hw)
def PC.second(h:PC w b P0 lv wr q s34 nc1 fam sv nv n1 n2 xs ys){nv':Value}{n2':Nat}{ys':Vs}(ho:w'.ownsRow (P0+1) 188 6 nv' n2' ys')(hg:wr.grownBy w' nv.ownBlock)(hw:nv'.ownBlock=nv.ownBlock\/nv'.ownBlock=some wr.heap.size):PC w b P0 lv w' q s34 nc1 fam sv nv' n1 n2' xs ys':=
 h.own hg (λk e=>(h.hl.hn.lt k e).1) (h.hl.second ho hg hw)
def PC.add(h:PC w b P0 lv wr q s34 nc1 fam sv nv n1 n2 xs ys){lvn:Value}{l:Is}{N:Nat}(hi:Zw wr.heap.size wr lvn l)(hf:∀b,lvn.ownBlock=some b->N<=b)(a0:∀b,sv.ownBlock=some b->b<N)(b0:∀b,nv.ownBlock=some b->b<N)(hN:P0+1<=N):PC w b P0 lv wr q s34 nc1 (fam++[(lvn,l)]) sv nv n1 n2 xs ys:=
 ⟨h.hl.add hi hf a0 b0 hN,h.c0,h.c1,h.d0,h.d1,h.f0,h.f1,h.fb,h.fr,h.a1,h.kO,h.hR,h.hP,h.hb⟩
def PC.move(h:PC w b P0 lv wr q s34 nc1 fam sv nv n1 n2 xs ys)(m:Mv wr w' b){q':Nat}(c:w'.cell? (Y b 1)=some (I (q':Int))):PC w b P0 lv w' q' s34 nc1 fam sv nv n1 n2 xs ys:=by
 have hR:=h.hR;have hb:=h.hb;have hP:=h.hP
 have n1:some P0≠some b:=by simp;omega
 have n2:some w.heap.size≠some b:=by simp;omega
 have fz:∀(N j:Nat),N<wr.heap.size->some N≠some b->w'.frozen? (Y N j)=wr.frozen? (Y N j):=λN j hN a0=>Qd (w:=wr) (a:=(Y N j)) (m.g.block N hN a0);exact⟨h.hl.stay (Xi.grown m.g (λk e=>by injection e with e;omega)),m.g.cell h.c0 n1,m.g.cell h.c1 n1,m.g.cell h.d0 n2,m.g.cell h.d1 n2,λj=>(fz _ j (by omega) n2).trans (h.f0 j),λj=>(fz _ j hP n1).trans (h.f1 j),λj=>(m.f j).trans (h.fb j),h.fr.trans m.fr,c,(m.o 34 (by decide)).trans h.kO,hR,Qj hP m.g.size,hb⟩
def PC.mH(h:PC w b P0 lv wr q s34 nc1 fam sv nv n1 n2 xs ys)(u:Value):PC w b P0 lv (wr.setCell (Y b 34) u) q u nc1 fam sv nv n1 n2 xs ys:=by
 have hR:=h.hR;have hb:=h.hb;have g:=Xr wr b 34 u
 have n1:some P0≠some b:=by simp;omega
 have n2:some w.heap.size≠some b:=by simp;omega
 exact⟨h.hl.stay (Xi.grown g (λk e=>by injection e with e;omega)),g.cell h.c0 n1,g.cell h.c1 n1,g.cell h.d0 n2,g.cell h.d1 n2,λj=>(frozen?_setCell _ _ _ _).trans (h.f0 j),λj=>(frozen?_setCell _ _ _ _).trans (h.f1 j),λj=>(frozen?_setCell _ _ _ _).trans (h.fb j),h.fr.trans (Fr.mH _ _ _),(Yi (by decide)).trans h.a1,Ju h.kO,hR,by simpa [setCell] using h.hP,hb⟩
def PC.oQ(h:PC w b P0 lv wr q s34 nc1 fam sv nv n1 n2 xs ys)(u:Value):PC w b P0 lv (wr.setCell (Y P0 1) u) q s34 u fam sv nv n1 n2 xs ys:=by
 have hR:=h.hR;have hb:=h.hb;have g:=Xr wr P0 1 u
 have n1:some b≠some P0:=by simp;omega
 have n2:some w.heap.size≠some P0:=by simp;omega
 exact⟨h.hl.stay (Xi.grown g (λk e=>by injection e with e;omega)),(Yi (by decide)).trans h.c0,Ju h.c1,g.cell h.d0 n2,g.cell h.d1 n2,λj=>(frozen?_setCell _ _ _ _).trans (h.f0 j),λj=>(frozen?_setCell _ _ _ _).trans (h.f1 j),λj=>(frozen?_setCell _ _ _ _).trans (h.fb j),h.fr.dH g hb (λk e=>by injection e with e;omega),g.cell h.a1 n1,g.cell h.kO n1,hR,by simpa [setCell] using h.hP,hb⟩
end
section
variable{lv:Value}{k:Nat}{nv:Value}
def PL.pc(h:PL s Jb q0 w b P0 lv ls wr k q sv nv st acc lvs):PC w b P0 lv wr q sv nv ((lv,ls)::Vy acc lvs) sv nv k k (st.map (int .i64)) (flat acc lvs):=
 ⟨h.hl,h.c0,h.c1,h.d0,h.d1,h.f0,h.f1,h.fb,h.fr,h.a1,h.kO,h.hR,h.hP,h.hb⟩
def PL.step(h:PL s Jb q0 w b P0 lv ls wr k q sv nv st acc lvs)(b0:k<Jb){nd:Fl.ar}{af:Nat}(ho:one s q k=(nd,(af:Int),z))(a0:af<=s.length){lvn:Value}
  (hc:PC w b P0 lv w' af sv' nv' (((lv,ls)::Vy acc lvs)++[(lvn,nd.aU)]) sv' nv' (k+1) (k+1) (st.map (int .i64)++[I (q:Int)]) (flat acc lvs++Yk nd lvn)):
  PL s Jb q0 w b P0 lv ls w' (k+1) af sv' nv' (st++[(q:Int)]) (acc++[nd]) (lvs++[lvn]):=by
 have bt:lvs.length=acc.length:=by rw[h.fg,h.gv]
 have aQ:gx k nd:=by
  have:=lD s q k h.hq (by rw[ho];simp only;omega);rw[ho]at this;exact this
 refine⟨by omega,a0,by simp[h.dx],by simp[h.fg],by simp[h.gv],?_,jL h.aQ (by rw[h.fg];exact aQ),?_,hc.c0,hc.c1,hc.d0,hc.d1,hc.f0,hc.f1,hc.fb,hc.fr,hc.a1,hc.kO,hc.hR,hc.hP,hc.hb⟩
 ·rw[h.fp,show Jb - k=(Jb - (k+1))+1 from by omega];simp only[cF,ho,Qm];rw[Z (by omega)]
 rw[zu2 _ _ _ _ bt,zq7 _ _ _ _ bt,map_append];exact hc.hl
end
def yyw{o:Obj}{e:TypeId}{x:Value}:∀j u,[x][j]?=some u->((w.alloc o).alloc (.cells #[x] e)).cell? (((Y (w.heap.size+1) 0):Addr).add j)=some u:=by
 intro j u hj;have:=zx4 (w:=w.alloc o) (e:=e) j u hj
 rwa [size_alloc]at this
def Tryz.infoNode:(Tryz.prog.info? 188).map (λi=>(i.zero,i.size,i.bytes))=some (some (.agg #[I 0,I 0,I 0,I 0,I 0,Zq]),6,64):=by kernel_rfl
def Xi.mono{base base':Nat}(h:Xi base w w')(hb:base<=base'):Xi base' w w':=⟨h.size,λk hk a0=>h.block k (by omega) a0⟩
def zk9(r:(Is×List Fl.ar)×Bool×Int)(b:Nat)(w:World)(e:Ending)(w':World):Prop:=
 w.grownBy w' (some b)/\(r.2.1=false->e=.panicked (Zf 8 r.2.2))/\(r.2.1=true->∃lv nv,e=.returned (.agg #[lv,nv])/\∀w'',Xi w.heap.size w' w''->Zw w''.heap.size w'' lv r.1.1/\Yz w''.heap.size w'' nv r.1.2)
def Ve{r:(Is×List Fl.ar)×Bool×Int}{pl:Int}(hr:r=(([],[]),false,pl))(m:w.grownBy w' (some b)):zk9 r b w (.panicked (Zf 8 pl)) w':=by
 subst hr;exact⟨m,λ_=>rfl,λh=>by cases h⟩
def zi9(h:∀t,t<i->dq s t=true)(hi:i<3)(hb:dq s i=false):Fl.decode s=(([],[]),false,(i:Int)):=by
 have he:dV s=i:=by
  unfold dV
  have:i=0\/i=1\/i=2:=by omega
  rcases this with rfl|rfl|rfl
  ·rw[G hb]
  ·rw[Z (by rw[h 0 (by omega)];decide),G hb]
  rw[Z (by rw[h 0 (by omega)];decide),Z (by rw[h 1 (by omega)];decide),G hb]
 unfold Fl.decode;rw[he,G hi]
def ymz(h:¬i<s.length):dq s i=false:=by unfold dq;rw[decide_eq_false h];rfl
def ymy(h:i<s.length):dq s i=((s.getD i 0).toNat==(([70,80,49]:K).getD i 0).toNat):=by
 unfold dq;rw[decide_eq_true h,Bool.true_and,Bool.eq_iff_iff,beq_iff_eq,beq_iff_eq];exact⟨λh=>by rw[h],λh=>UInt8.toNat_inj.1 h⟩
structure PB(w wr:World)(b P0:Nat)(lv:Value):Prop where
 c0:wr.cell? (Y P0 0)=some lv
 c1:wr.cell? (Y P0 1)=some Zq
 d0:wr.cell? (Y w.heap.size 0)=some Zq
 d1:wr.cell? (Y w.heap.size 1)=some Zq
 f0:∀j,wr.frozen? (Y w.heap.size j)=false
 f1:∀j,wr.frozen? (Y P0 j)=false
 fb:∀j,wr.frozen? (Y b j)=false
 m:Mv w wr b
 kO:wr.cell? (Y b 34)=some Zq
 hR:w.heap.size<P0
 hP:P0<wr.heap.size
 hb:b<w.heap.size
def PB.move{lv:Value}(h:PB w wr b P0 lv)(m:Mv wr w' b):PB w w' b P0 lv:=by
 have hR:=h.hR;have hb:=h.hb;have hP:=h.hP
 have n1:some P0≠some b:=by simp;omega
 have n2:some w.heap.size≠some b:=by simp;omega
 have fz:∀(N j:Nat),N<wr.heap.size->some N≠some b->w'.frozen? (Y N j)=wr.frozen? (Y N j):=λN j hN a0=>Qd (w:=wr) (a:=(Y N j)) (m.g.block N hN a0);exact⟨m.g.cell h.c0 n1,m.g.cell h.c1 n1,m.g.cell h.d0 n2,m.g.cell h.d1 n2,λj=>(fz _ j (by omega) n2).trans (h.f0 j),λj=>(fz _ j hP n1).trans (h.f1 j),λj=>(m.f j).trans (h.fb j),h.m.trans m,(m.o 34 (by decide)).trans h.kO,hR,Qj hP m.g.size,hb⟩
def PB.pK{lv:Value}(h:PB w wr b P0 lv)(u:Value):PB w (wr.setCell (Y P0 0) u) b P0 u:=by
 have hR:=h.hR;have hb:=h.hb;have g:=Xr wr P0 0 u
 have n1:some w.heap.size≠some P0:=by simp;omega
 have n2:some b≠some P0:=by simp;omega
 exact⟨Ju h.c0,(Yi (by decide)).trans h.c1,g.cell h.d0 n1,g.cell h.d1 n1,λj=>(frozen?_setCell _ _ _ _).trans (h.f0 j),λj=>(frozen?_setCell _ _ _ _).trans (h.f1 j),λj=>(frozen?_setCell _ _ _ _).trans (h.fb j),h.m.fZ hb (by omega) _ _,g.cell h.kO n2,hR,by simpa [setCell] using h.hP,hb⟩
def PB.pl{lv:Value}(h:PB w wr b P0 lv)(hq:q0<=s.length)(a1:wr.cell? (Y b 1)=some (I (q0:Int)))(hi:Zw wr.heap.size wr lv ls)(a0:∀bb,lv.ownBlock=some bb->P0+1<=bb):
  PL s Jb q0 w b P0 lv ls wr 0 q0 Zq Zq [] [] []:=by
 refine⟨by omega,hq,rfl,rfl,rfl,rfl,λi hi=>by simp at hi,⟨ownsRow_nil _ _ _ _,ownsRow_nil _ _ _ _,λp hp=>?_⟩,h.c0,h.c1,h.d0,h.d1,h.f0,h.f1,h.fb,h.m.fr,a1,h.kO,h.hR,h.hP,h.hb⟩;simp only[Vy,mem_singleton]at hp;subst hp;refine⟨⟨hi,λhx=>?_⟩,λ_ bb hb=>a0 bb hb⟩;obtain⟨bb,hb,_⟩:=zr4 hi hx;rw[hb];exact⟨by simp[ownBlock],by simp[ownBlock]⟩
def Dr.nz{p:Nat}(h:Dr w b ao cap s p)(m:Fr w w' b)(c:w'.cell? (Y b 1)=some (I q))(hq:q<=s.length):Dr w' b ao cap s q:=by
 refine⟨(m.o 0 (by decide) (by decide)).trans h.c0,c,(m.f 1).trans h.f1,λb0=>?_,hq,h.hs⟩;obtain⟨bb,bo,ha,a0,hc⟩:=h.hb b0;exact⟨bb,bo,ha,a0,λi hi=>m.g.cell (hc i hi) (by simpa using a0)⟩
def Yf.nz(h:Yf w b 2)(m:Fr w w' b):Yf w' b 2:=λk hk=>by
 obtain⟨h1,h2,h3⟩:=h k hk;exact⟨(m.o _ (by omega) (by omega)).trans h1,(m.o _ (by omega) (by omega)).trans h2,(m.o _ (by omega) (by omega)).trans h3⟩
def ymx(h:Dr w b ao cap s 0)(hr:Yf w b 2)(V1:w.cell? (Y b 34)=some Zq)(X1:∀j,w.frozen? (Y b j)=false):
  F 44 #[M b] w λe w'=>zk9 (Fl.decode s) b w e w':=by
 obtain⟨i0,F2,D1,G2,H2⟩:=info_parts Tryz.infoInt;obtain⟨i1,Y1,Z1,a2,b2⟩:=info_parts Tryz.infoNode;have hlb:=h.lt;have hs:=h.hs;have HD:=A h;have HR:=A hr;have I2:=A V1;have J2:=A X1;clear h hr V1 X1
 go_enter func44,ntmps44
 go_wp2_with fail
 obtain⟨W0,F0⟩:=U (w.alloc (.cells #[Zq,Zq] 89));rw[<-F0]
 have I0:O (Mv w W0 b):=by rw[F0];exact(Mv.refl w b).alloc hlb _
 have d2:O (W0.cell? (Y b 1)=some (I 0)):=by show _=_;rw[F0,cell?_alloc_past _ _ _ hlb];exact HD.c1
 have f2:O (W0.cell? (Y w.heap.size 0)=some Zq/\W0.cell? (Y w.heap.size 1)=some Zq/\∀j,W0.frozen? (Y w.heap.size j)=false):=by rw[F0];exact⟨by simp,by simp,λj=>by simp⟩
 have D1:W0.heap.size=w.heap.size+1:=by rw[F0];simp
 clear F0
 go_loopw [7] (λi wr=>∃j:Nat,j<=3/\i=I j/\(∀t,t<j->dq s t=true)/\Mv W0 wr b/\wr.cell? (Y b 1)=some (I (j:Int))/\j<=s.length) (λi _=>3 - (intOf i).toNat)
 case atStart=>exact⟨0,by omega,rfl,λt ht=>by omega,Mv.refl _ _,d2,by omega⟩
 case round=>
  obtain⟨i,K2,rfl,g2,hm,J0,K0⟩:=hrel;have C0:=A g2;have HM:=A hm;have E1:=A J0;have G0:O (Dr wr b ao cap s i):=HD.move (I0.trans hm) J0 K0;have F1:O (Dr wr.drew b ao cap s i):=G0.move ((Mv.refl wr b).drew) J0 K0;clear g2 hm
  by_cases hi:i<3
  ·by_cases t0:i<s.length
   ·obtain⟨c,hc⟩:=U ((s.getD i 0).toNat)
    have HN:O (F 79 #[M b] wr.drew λe w'=>e=.returned (.int .u8 c)/\Mv wr.drew w' b/\w'.cell? (Y b 1)=some (I ((i+1:Nat):Int))):=(by rw[hc];exact zdy F1 t0);have h2:O (dq s i=(c==(([70,80,49]:K).getD i 0).toNat)):=(by show _=_;rw[ymy t0,hc]);clear hc;have h3:i=0\/i=1\/i=2:=(by omega);clear J0
    have L2:O (dq s i=true->∀t,t<i+1->dq s t=true):=λh t ht=>by
     by_cases h':t<i
     ·exact C0 t h'
     obtain rfl:t=i:=by omega
     exact h
    have bq:∀h,((c:Int)==(((⟨#[70,80,49]⟩:ByteArray)[i]'h).toNat:Int))=dq s i:=λh=>by
     rw[h2.out,Bool.eq_iff_iff,beq_iff_eq,beq_iff_eq];rcases h3 with rfl|rfl|rfl<;>exact Int.ofNat_inj
    clear h2
    cases hv:dq s i with
    |true=>
     have HG:=A (L2 hv);simp only[hv]at bq;clear hv;rcases h3 with rfl|rfl|rfl
     all_goals
      have c1:=E1.out;simp at c1
      go_wp2_with fail
      refine zu0 [0,1,3,4,6] [2,5,7] (by kernel_rfl) (by kernel_rfl) rfl [_,_,_,_,_] [_,_,_] rfl rfl (λc a d v w h=>by cases d<;>exact h) ?_;refine Jl (λL HL=>?_)
      repeat refine Jm rfl (kE (by intro w' _;go_simp<;>rfl) (by go_simp<;>rfl) ?_)
      refine HL _ ?_;clear HL
      go_wp2_with (first|(go_at_call 79;refine(HN.out).mono ?_;rintro e w1 ⟨rfl,o0,D0⟩)|(go_at_call 78;refine(zxw _ _ _).mono ?_;rintro e w2 ⟨rfl,rfl⟩))
      all_goals
       try go_wp2
       go_roundw
       case rel=>exact⟨_,by omega,by go_num,HG,(HM.drew).trans o0,D0,by omega⟩
       case measure=>simp[intOf]
    |false=>
     have HB:O (Fl.decode s=(([],[]),false,(i:Int))):=zi9 C0 hi hv;simp only[hv]at bq;clear hv;rcases h3 with rfl|rfl|rfl
     all_goals
      have c1:=E1.out;simp at c1
      go_wp2_with fail
      refine zu0 [0,1,3,4,6] [2,5,7] (by kernel_rfl) (by kernel_rfl) rfl [_,_,_,_,_] [_,_,_] rfl rfl (λc a d v w h=>by cases d<;>exact h) ?_;refine Jl (λL HL=>?_)
      repeat refine Jm rfl (kE (by intro w' _;go_simp<;>rfl) (by go_simp<;>rfl) ?_)
      refine HL _ ?_;clear HL
      go_wp2_with (first|(go_at_call 79;refine(HN.out).mono ?_;rintro e w1 ⟨rfl,o0,D0⟩)|(go_at_call 78;refine(Vm _ _ _).mono ?_;rintro e w2 ⟨rfl,M2⟩;exact⟨rfl,Ve HB (((I0.trans HM).drew.trans o0).fU M2 hlb).g⟩))
   have HB:O (Fl.decode s=(([],[]),false,(i:Int))):=zi9 C0 hi (ymz t0);have L0:i=s.length:=(by omega);have HE:O (F 79 #[M b] wr.drew λe w'=>e=.panicked (Zf 8 (i:Int))/\Mv wr.drew w' b):=by
    have:=zh3 F1 t0;rw[<-L0]at this;exact this
   clear L0;have V2:(i:Int)<3:=(by omega)
   go_wp2_with fail
   refine zu0 [0,1,3,4,6] [2,5,7] (by kernel_rfl) (by kernel_rfl) rfl [_,_,_,_,_] [_,_,_] rfl rfl (λc a d v w h=>by cases d<;>exact h) ?_;refine Jl (λL HL=>?_)
   repeat refine Jm rfl (kE (by intro w' _;go_simp<;>rfl) (by go_simp<;>rfl) ?_)
   refine HL _ ?_;clear HL
   go_wp2_with (go_at_call 79;refine(HE.out).mono ?_;rintro e w1 ⟨rfl,o0⟩;exact⟨rfl,Ve HB ((I0.trans HM).drew.trans o0).g⟩)
  have hi3':i=3:=(by omega);subst hi3';have M0:O (dV s=3):=by
   show dV s=3;unfold dV;rw[Z (by rw[C0 0 (by omega)];decide),Z (by rw[C0 1 (by omega)];decide),Z (by rw[C0 2 (by omega)];decide)]
  clear J0 F1 hi K2
  go_wp2_with fail
  obtain⟨WP,A0⟩:=U (wr.alloc (.cells #[Zq,Zq] 89));rw[<-A0];obtain⟨P0,H0⟩:=U (wr.heap.size);rw[<-H0];have G1:O (PB w WP b P0 Zq):=by
   have l1:Mv w wr b:=I0.trans HM.out;have X2:=HM.g.size;have n2:some w.heap.size≠some b:=(by simp;omega);obtain⟨r0,r1,r2⟩:=f2.out;have e0:wr.cell? (Y w.heap.size 0)=some Zq:=HM.g.cell r0 n2;have e1:wr.cell? (Y w.heap.size 1)=some Zq:=HM.g.cell r1 n2;have e2:∀j,wr.frozen? (Y w.heap.size j)=false:=λj=>(Qd (w:=W0) (a:=(Y w.heap.size j)) (HM.g.block w.heap.size (by omega) n2)).trans (r2 j);have g:wr.grownBy WP none:=(by rw[A0];exact grownBy_alloc _ _ _);have fz:∀(N j:Nat),N<wr.heap.size->WP.frozen? (Y N j)=wr.frozen? (Y N j):=λN j hN=>Qd (w:=wr) (a:=(Y N j)) (g.block N hN (by simp));refine⟨by rw[A0,H0];simp,by rw[A0,H0];simp,g.cell e0 (by simp),g.cell e1 (by simp),λj=>(fz _ j (by omega)).trans (e2 j),λj=>by rw[A0,H0];simp,λj=>(fz b j (l1.lt hlb)).trans ((l1.f j).trans (J2 j)),l1.dH g hlb (λk e=>by cases e),g.cell ((l1.o 34 (by decide)).trans I2) (by simp),by omega,by rw[A0,H0];simp,hlb⟩
  have H1:O (Dr WP b ao cap s 3):=(by rw[A0];exact G0.move ((Mv.refl wr b).alloc G0.lt _) (by rw[cell?_alloc_past _ _ _ G0.lt];exact G0.c1) K0);clear A0 H0 HM G0 E1 C0 f2 d2 I0 D1;have i2:O (F 81 #[M b,I 0,I 4] WP λe w'=>zv7 (ed s 3 0 4) b WP e w'):=zt9 H1 0 4 (by omega) (by omega);refine(i2.out).mono ?_;rintro e w1 ⟨o0,b0,aQ⟩
  by_cases N0:(ed s 3 0 4).2.1<0
  ·obtain rfl:=b0 N0
   exact⟨rfl,Ve (yu5 M0 K0 N0) (G1.m.trans o0).g⟩
  obtain⟨rfl,D0⟩:=aQ N0;obtain⟨n,q1,hnb,j2,Y2,O0,_,Z2⟩:=zn7 s 3 0 4 K0 N0;rw[hnb]at D0⊢;simp only at D0⊢;have m1:=A j2;have u0:O (PB w w1 b P0 Zq):=G1.move o0;have I1:O (Dr w1 b ao cap s q1):=H1.move o0 D0 O0;have hn4':n<=4:=(by omega);clear b0 aQ N0 hnb j2 D0 o0 G1 H1 i2
  go_wp2_with fail
  refine(zk0 I1 n (by omega)).mono ?_;rintro e w2 ⟨n1,b0,aQ⟩
  by_cases o1:(cW s q1 n).2.1<0
  ·obtain rfl:=b0 o1
   exact⟨rfl,Ve (yu6 M0 m1 hn4' o1) (u0.m.trans n1).g⟩
  obtain⟨lv,rfl,h0,Q0⟩:=aQ o1;have J1:=fM s q1 n O0;obtain⟨ls,q2,K1,v0⟩:∃(ls:Is) (q2:Nat),cW s q1 n=(ls,(q2:Int),(cW s q1 n).2.2)/\q2<=s.length:=⟨(cW s q1 n).1,(cW s q1 n).2.1.toNat,by rw[Int.toNat_of_nonneg (by omega)],by omega⟩;rw[K1]at h0 Q0;simp only at h0 Q0;obtain⟨lao,lcap,rfl⟩:=Uh h0;have L1:=A K1;have j0:O (PB w w2 b P0 Zq):=u0.move n1;have k2:O (Zw w2.heap.size w2 (J lao ls.length lcap) ls):=Zw.dD h0
  have p1:O (∀bb,(J lao ls.length lcap).ownBlock=some bb->P0+1<=bb):=λbb h=>by have:=(h0.lt bb h).1;have:=u0.hP;omega
  have l2:=A Q0;have k0:=j0.c0;have kf:=j0.f1;have HD2':O (Dr w2 b ao cap s q2):=I1.move n1 Q0 v0;clear b0 aQ o1 J1 K1 h0 Q0 n1 u0 I1
  go_wp2_with fail
  obtain⟨W3,R0⟩:=U (w2.setCell (Y P0 0) (J lao ls.length lcap));rw[<-R0];have g3:w2.grownBy W3 (some P0):=(by rw[R0];exact Xr _ _ _ _);have N2:b≠P0:=(by have:=j0.hR;omega);have l0:O (PB w W3 b P0 (J lao ls.length lcap)):=(by rw[R0];exact j0.pK _);have m2:O (Zw W3.heap.size W3 (J lao ls.length lcap) ls):=(by rw[R0];exact Jz k2 (λ_ h=>by have h9:P0+1<=P0:=p1 P0 h;omega));have o2:O (W3.cell? (Y b 1)=some (I (q2:Int))):=g3.cell l2 (by simpa using N2);have p2:O (Dr W3 b ao cap s q2):=HD.move l0.m o2 v0;clear R0 g3 k0 kf j0 k2 l2 HD2';have s2:O (F 81 #[M b,I 1,I 200] W3 λe w'=>zv7 (ed s q2 1 200) b W3 e w'):=zt9 p2 1 200 (by omega) (by omega);refine(s2.out).mono ?_;rintro e w4 ⟨t1,b0,aQ⟩
  by_cases S0:(ed s q2 1 200).2.1<0
  ·obtain rfl:=b0 S0
   exact⟨rfl,Ve (yu7 M0 m1 hn4' L1 v0 S0) (l0.m.trans t1).g⟩
  obtain⟨rfl,u1⟩:=aQ S0;obtain⟨Jb,q0,t2,u2,a3,M1,O2,T0⟩:=zn7 s q2 1 200 v0 S0;rw[t2]at u1⊢;simp only at u1⊢;have U0:O (Fl.decode s=zr5 s ls Jb q0):=yr3 M0 m1 hn4' L1 u2 (by omega) (by omega);have hM:Jb<=200:=(by omega)
  have a0:O (PL s Jb q0 w b P0 (J lao ls.length lcap) ls w4 0 q0 Zq Zq [] [] []):=
   (l0.move t1).pl M1 u1 (zk5 (base:=P0+1) m2 (λ_=>p1.out) (Xi.grown t1.g (λk e=>by injection e with e;have:=l0.hR;omega))) p1.out
  clear b0 aQ S0 t2 u2 u1 t1 l0 m2 o2 p2 s2 m1 L1 M0 O2 T0 p1
  go_wp2_with fail
  go_loopw [30] (λi wz=>∃(k q:Nat) (sv nv:Value) (st:Is) (acc:List Fl.ar) (lvs:Vs),i=I k/\PL s Jb q0 w b P0 (J lao ls.length lcap) ls wz k q sv nv st acc lvs) (λi _=>Jb - (intOf i).toNat)
  case atStart=>exact⟨0,q0,_,_,[],[],[],rfl,a0⟩
  case round=>
   clear a0;obtain⟨k,q,sv,nv,st,acc,lvs,rfl,v1⟩:=hrel;have a0:=A v1;have b3:=v1.hk;have v2:=v1.hq;clear v1
   by_cases t0:k<Jb
   ·obtain⟨sao,scap,rfl⟩:=Uh a0.hl.hs
    obtain⟨nao,ncap,rfl⟩:=Uh a0.hl.hn;have HP0':O _:=a0.pc;have e34:=a0.kO;have e1:=a0.a1;have d3:(k:Int)<(Jb:Int):=(by omega);have dx:=a0.dx
    go_wp2_with fail
    go_cut [] (λwc=>∃(sao':Option Addr) (scap':Nat),PC w b P0 (J lao ls.length lcap) wc q (J sao' (k+1) scap') (J nao k ncap) (((J lao ls.length lcap),ls)::Vy acc lvs) (J sao' (k+1) scap') (J nao k ncap) (k+1) k (st.map (int .i64)++[I (q:Int)]) (flat acc lvs))
    case first=>
     have y1:O (PC w b P0 (J lao ls.length lcap) wr.drew q (J sao k scap) (J nao k ncap) (((J lao ls.length lcap),ls)::Vy acc lvs) (J sao k scap) (J nao k ncap) k k (st.map (int .i64)) (flat acc lvs)):=a0.pc.drew;have d34:wr.drew.cell? (Y b 34)=some (J sao k scap):=e34;have d1:wr.drew.cell? (Y b 1)=some (I (q:Int)):=e1;have d34a:∀o,(wr.drew.alloc o).cell? (Y b 34)=some (J sao k scap):=λo=>(y1.alloc o).kO;have P2:k<=200:=(by omega);refine zu1 [0,1,2,3,5,6,7] 4 8 4 9 [8,9,10,11,12,13] [9,10,11,12,13] [4,10,11,12,13] (by kernel_rfl) (by kernel_rfl) rfl rfl rfl [_,_,_,_,_,_,_] _ _ _ _ [_,_,_,_,_,_] [_,_,_,_,_] [_,_,_,_,_] rfl rfl rfl rfl rfl rfl rfl rfl (λc a d v w h=>by cases d<;>exact h) ?_;refine Jl (λL HL=>?_)
     repeat refine Jm rfl (kE (by intro w' _;go_simp<;>rfl) (by go_simp<;>rfl) ?_)
     refine HL _ ⟨?ga,?gb⟩
     all_goals
      clear HL;generalize wr.drew=W1 at*;simp only[getElem_toArray,getElem_cons_succ,getElem_cons_zero]
     case' gb=>
      go_wp2_with fail
      refine⟨?_,?_⟩
     all_goals
      go_wp2_with (at_builtin;refine Ap underlying22 F2 D1 G2 H2 rfl (y1.alloc _).hl.hs rfl [I q] rfl rfl zx4 ?c2 ?c3 ?c4 ?c5 ?_)
      case c2=>intro u hu;simp at hu;subst hu;rfl
      case c3=>unfold maxLen;omega
      case c4=>omega
      case c5=>have:=y1.hP;first|omega|(simp;omega)
      intro sv' w3 m0 x2 y2;have z1:=(y1.alloc _).first m0 x2 y2;obtain⟨sao',scap',rfl⟩:=Uh m0;have c34:=z1.kO;have fb:=z1.fb;have Q2:=A z1;clear z1 m0 x2 y2 d34 d1 d34a
      go_wp2_with fail
      go_meet
      case rel=>exact⟨sao',scap',Q2.mH _⟩
    case rest=>
    obtain⟨sao',scap',z2⟩:=hcut;have p0:=A z2;obtain⟨W2,A2⟩:=U (wc);rw[<-A2]at p0⊢;clear z2 A2 e34 e1 HP0'
    go_wp2_with fail
    have B2:O (Dr W2.drew b ao cap s q):=HD.nz p0.drew.fr p0.a1 v2;have C2:O (Yf W2.drew b 2):=HR.nz p0.drew.fr;have N1:O (F 82 #[M b,I k] W2.drew λe w'=>zn8 (one s q k) b W2.drew e w'):=yj7 B2 C2 k (by omega);have ec1:=p0.c1
    by_cases A1:(one s q k).2.1<0
    ·have B0:O (Fl.decode s=(([],[]),false,(one s q k).2.2)):=U0.trans (a0.pi t0 A1)
     refine zu1 [0,2,3] 1 4 1 5 [4,5,6,7,8] [5,6,7,8] [1,6,7,8] (by kernel_rfl) (by kernel_rfl) rfl rfl rfl [_,_,_] _ _ _ _ [_,_,_,_,_] [_,_,_,_] [_,_,_,_] rfl rfl rfl rfl rfl rfl rfl rfl (λc a d v w h=>by cases d<;>exact h) ?_;refine Jl (λL HL=>?_)
     repeat refine Jm rfl (kE (by intro w' _;go_simp<;>rfl) (by go_simp<;>rfl) ?_)
     refine HL _ ⟨?_,?_⟩
     all_goals
      clear HL
      go_wp2_with (go_at_call 82;refine(N1.out).mono ?_;rintro e w5 ⟨O1,b0,_⟩;obtain rfl:=b0 A1;exact⟨rfl,Ve B0 (p0.drew.fr.trans O1.fr).g⟩)
    have P1:=kM s q k v2;obtain⟨nd,af,z,ho,V0⟩:∃(nd:Fl.ar) (af:Nat) (z:Int),one s q k=(nd,(af:Int),z)/\af<=s.length:=⟨(one s q k).1,(one s q k).2.1.toNat,(one s q k).2.2,by rw[Int.toNat_of_nonneg (by omega)],by omega⟩;have HO:=A ho
    have D2:O (F 82 #[M b,I k] W2.drew λe w'=>∃(vao:Option Addr) (vcap:Nat),e=.returned (.agg #[I nd.kind,I nd.ag,I nd.a,I nd.b,I nd.c,J vao nd.aU.length vcap])/\
      PC w b P0 (J lao ls.length lcap) w' af (J sao' (k+1) scap') (J nao k ncap) ((((J lao ls.length lcap),ls)::Vy acc lvs)++[(J vao nd.aU.length vcap,nd.aU)]) (J sao' (k+1) scap') (J nao k ncap) (k+1) k (st.map (int .i64)++[I (q:Int)]) (flat acc lvs)):=by
     refine(N1.out).mono ?_;rintro e w5 ⟨O1,_,aQ⟩;obtain⟨lvn,rfl,B1,cq,Q1⟩:=aQ A1;rw[ho]at B1 Q1⊢;simp only at B1 Q1⊢;obtain⟨vao,vcap,rfl,_⟩:=id B1;refine⟨vao,vcap,rfl,(p0.drew.move O1 Q1).add B1 cq (λbb h=>(p0.drew.hl.hs.lt bb h).2) (λbb h=>(p0.drew.hl.hn.lt bb h).2) p0.drew.hP⟩
    have dc1:W2.drew.cell? (Y P0 1)=some (J nao k ncap):=ec1;have P2:k<=200:=(by omega);clear A1 ho N1 B2 C2 P1 ec1;refine zu1 [0,2,3] 1 4 1 5 [4,5,6,7,8] [5,6,7,8] [1,6,7,8] (by kernel_rfl) (by kernel_rfl) rfl rfl rfl [_,_,_] _ _ _ _ [_,_,_,_,_] [_,_,_,_] [_,_,_,_] rfl rfl rfl rfl rfl rfl rfl rfl (λc a d v w h=>by cases d<;>exact h) ?_;refine Jl (λL HL=>?_)
    repeat refine Jm rfl (kE (by intro w' _;go_simp<;>rfl) (by go_simp<;>rfl) ?_)
    refine HL _ ⟨?gc,?gd⟩
    all_goals
     clear HL;generalize W2.drew=W5 at*;simp only[getElem_toArray,getElem_cons_succ,getElem_cons_zero]
    case gc=>
     go_wp2_with (first|(go_at_call 82;refine(D2.out).mono ?_;rintro e w5 ⟨vao,vcap,rfl,x0⟩;have q1:=x0.c1;have q1a:∀o,(w5.alloc o).cell? (Y P0 1)=some (J nao k ncap):=λo=>(x0.alloc o).c1;have y0:O _:=x0;clear x0)|(at_builtin;refine Ap underlying87 Y1 Z1 a2 b2 rfl (y0.alloc _).hl.hn rfl (Yk nd (J vao nd.aU.length vcap)) rfl rfl (yqv (Yk nd (J vao nd.aU.length vcap))) ?n2 ?n3 ?n4 ?n5 ?_))
     case n2=>intro u hu;simp[Yk]at hu;rcases hu with rfl|rfl|rfl|rfl|rfl|rfl<;>rfl
     case n3=>unfold maxLen;omega
     case n4=>omega
     case n5=>have:=y0.hP;first|omega|(simp;omega)
     intro nv' w6 g0 X0 n0;have z0:=(y0.alloc _).second g0 X0 n0;obtain⟨nao',ncap',rfl⟩:=Uh g0;have x1:=z0.c1;have xf:=z0.f1;have R1:=A z0;clear z0 g0 X0 n0 q1 q1a y0;go_wp2
     go_roundw
     case rel=>exact⟨k+1,af,_,_,_,_,_,by go_num,a0.step t0 HO V0 (R1.oQ _)⟩
     case measure=>simp[intOf];omega
    case gd=>
     go_wp2_with (go_at_call 82;refine(D2.out).mono ?_;rintro e w5 ⟨vao,vcap,rfl,x0⟩;have q1:=x0.c1;have q1a:∀o,(w5.alloc o).cell? (Y P0 1)=some (J nao k ncap):=λo=>(x0.alloc o).c1;have y0:O _:=x0;clear x0)
     refine⟨?_,?_⟩
     all_goals
      go_wp2_with (at_builtin;refine Ap underlying87 Y1 Z1 a2 b2 rfl (y0.alloc _).hl.hn rfl (Yk nd (J vao nd.aU.length vcap)) rfl rfl (yqv (Yk nd (J vao nd.aU.length vcap))) ?n2 ?n3 ?n4 ?n5 ?_)
      case n2=>intro u hu;simp[Yk]at hu;rcases hu with rfl|rfl|rfl|rfl|rfl|rfl<;>rfl
      case n3=>unfold maxLen;omega
      case n4=>omega
      case n5=>have:=y0.hP;first|omega|(simp;omega)
      intro nv' w6 g0 X0 n0;have z0:=(y0.alloc _).second g0 X0 n0;obtain⟨nao',ncap',rfl⟩:=Uh g0;have x1:=z0.c1;have xf:=z0.f1;have R1:=A z0;clear z0 g0 X0 n0 q1 q1a y0;go_wp2
      go_roundw
      case rel=>exact⟨k+1,af,_,_,_,_,_,by go_num,a0.step t0 HO V0 (R1.oQ _)⟩
      case measure=>simp[intOf];omega
   have Y0:=U0.trans (a0.bB t0);have Z0:=A Y0;have e0:wr.cell? (Y b 0)=some (J ao s.length cap):=(a0.fr.o 0 (by decide) (by decide)).trans HD.c0;have e1:=a0.a1;clear Y0
   by_cases E2:q<s.length
   ·have bq:((q:Int)==(s.length:Int))=false:=beq_eq_false_iff_ne.2 (by omega)
    have B0:O (Fl.decode s=(([],[]),false,(q:Int))):=Z0.trans (G E2)
    go_wp2_with fail
    go_still_tail 15,(by kernel_rfl)
    go_wp2_with (go_at_call 78;refine(Vm _ _ _).mono ?_;rintro e w6 ⟨rfl,R2⟩;exact⟨rfl,Ve B0 (a0.pc.drew.below R2).fr.g⟩)
   have S2:q=s.length:=(by omega);have bq:((q:Int)==(s.length:Int))=true:=beq_iff_eq.2 (by omega);have b1:O (Fl.decode s=if 0<=bf acc then(([],[]),false,st.getD (bf acc).toNat 0) else((ls,acc),true,0)):=Z0.trans (Z E2);clear S2
   go_wp2_with fail
   go_still_tail 15,(by kernel_rfl)
   change wpList _ _ _ _ _ wr.drew
   have C1:O (PC w b P0 (J lao ls.length lcap) wr.drew q sv nv (((J lao ls.length lcap),ls)::Vy acc lvs) sv nv k k (st.map (int .i64)) (flat acc lvs)):=a0.pc.drew
   have h1:O (F 83 #[M b,nv] wr.drew (yp5 acc st wr.drew)):=
    ysw acc st nv sv b wr.drew a0.nodes a0.oI (by rw[a0.dx,a0.fg]) (by rw[a0.fg];omega) a0.aQ C1.kO
   have g1:wr.drew.cell? (Y P0 1)=some nv:=C1.c1;obtain⟨nao,ncap,rfl⟩:=Uh a0.hl.hn
   have S1:O (∀w7,Below wr.drew.heap.size wr.drew w7->Zw w7.heap.size w7 (J lao ls.length lcap) ls/\Yz w7.heap.size w7 (J nao k ncap) acc):=λw7 h7=>
    ⟨(a0.ak.below (w':=w7) ⟨h7.os,h7.tape,h7.output,h7.size,h7.block⟩).mono h7.size,(a0.nodes.below (w':=w7) ⟨h7.os,h7.tape,h7.output,h7.size,h7.block⟩).mono h7.size⟩
   generalize wr.drew=W1 at*
   by_cases j1:0<=bf acc
   ·have B0:O (Fl.decode s=(([],[]),false,st.getD (bf acc).toNat 0)):=b1.trans (G j1)
    go_wp2_with (first|(go_at_call 78;refine(zxw _ _ _).mono ?_;rintro e w6 ⟨rfl,n0⟩;rw[n0];clear n0)|(go_at_call 83;refine(h1.out).mono ?_;rintro e w7 ⟨k1,b0,_⟩;obtain rfl:=b0 j1;exact⟨rfl,Ve B0 (C1.below k1).fr.g⟩))
   have B0:O (Fl.decode s=((ls,acc),true,0)):=b1.trans (Z j1);have T2:=A j1;clear j1
   go_wp2_with (first|(go_at_call 78;refine(zxw _ _ _).mono ?_;rintro e w6 ⟨rfl,n0⟩;rw[n0];clear n0)|(go_at_call 83;refine(h1.out).mono ?_;rintro e w7 ⟨k1,_,aQ⟩;obtain rfl:=aQ (by have:=T2.out;omega);have E0:=C1.below k1;obtain⟨hl7,hn7⟩:=S1 w7 k1;have r0:=E0.d0;have r1:=E0.d1;have rf:=E0.f0;have s0:=E0.c0;have s1:=E0.c1;have T1:O _:=E0;have e3:O _:=hl7;have f3:O _:=hn7;clear E0 hl7 hn7 k1 aQ))
   have i3:=T1.hR;have q0:((w7.setCell (Y w.heap.size 0) (J lao ls.length lcap)).setCell (Y w.heap.size 1) (J nao k ncap)).cell? (Y w.heap.size 0)=some (J lao ls.length lcap):=(Yi (by decide)).trans (Ju r0);have q1:((w7.setCell (Y w.heap.size 0) (J lao ls.length lcap)).setCell (Y w.heap.size 1) (J nao k ncap)).cell? (Y w.heap.size 1)=some (J nao k ncap):=Ju ((Yi (by decide)).trans r1);have q0':(w7.setCell (Y w.heap.size 0) (J lao ls.length lcap)).cell? (Y w.heap.size 0)=some (J lao ls.length lcap):=Ju r0;have U2:=(T1.hl.stay (Xi.grown (Xr w7 w.heap.size 0 (J lao ls.length lcap)) (λk e=>by injection e with e;omega))).stay (Xi.grown (Xr _ w.heap.size 1 (J nao k ncap)) (λk e=>by injection e with e;omega));have fg:=a0.fg;have gv:=a0.gv;refine bodyPost_ret (v:=.agg #[J lao ls.length lcap,J nao k ncap]) (by simp[results,results44,go_sem,q0,q1,q0']) rfl ⟨((T1.fr.dH (Xr w7 w.heap.size 0 (J lao ls.length lcap)) hlb (λk e=>by injection e with e;omega)).dH (Xr _ w.heap.size 1 (J nao k ncap)) hlb (λk e=>by injection e with e;omega)).g,λh=>(by rw[B0.out]at h;cases h),λ_=>?_⟩;rw[B0.out];refine⟨_,_,rfl,λw9 dx=>?_⟩;have U1:=U2.stay (dx.mono (by omega));exact⟨(U1.aH (J lao ls.length lcap,ls) (by simp)).1.1,zx0 (by rw[fg];exact U1.hn) (by rw[fg,gv]) (λi hi=>(U1.aH _ (by simp only[mem_cons];right;exact zx1 acc lvs i (by rw[fg,gv]) hi)).1.1)⟩
def Xi.setCell(base:Nat)(w:World)(b i:Nat)(v:Value)(hb:b<base):Xi base w (w.setCell (Y b i) v):=Xi.grown (Xr w b i v) (λk e=>by injection e with e;omega)
def yiw(r:(Is×List Fl.ar)×Bool×Int)(b Qu P:Nat)(w:World)(e:Ending)(w':World):Prop:=
 (r.2.1=false->e=.panicked (Zf 8 r.2.2)/\w.grownBy w' (some b))/\
 (r.2.1=true->∃lv nv w1,e=.returned (.tuple #[])/\w.grownBy w1 (some b)/\w'=(w1.setCell (Y P 0) lv).setCell (Y P 1) nv/\(∃a n c a' n' c',lv=J a n c/\nv=J a' n' c')/\∀w'',Xi w.heap.size w1 w''->Zw w''.heap.size w'' lv r.1.1/\Yz w''.heap.size w'' nv r.1.2)
def yiv{Qu P:Nat}(h:Dr w b ao cap s 0)(hr:Yf w b 2)(d0:w.cell? (Y b 34)=some Zq)(e0:∀j,w.frozen? (Y b j)=false)
  (hd:w.cell? (Y Qu 0)=some (M b)) (f0:w.cell? (Y P 0)=some Zq) (g0:w.cell? (Y P 1)=some Zq) (h0:∀j,w.frozen? (Y P j)=false) (b0:P≠b):
  F 43 #[M Qu,M P] w (yiw (Fl.decode s) b Qu P w):=by
 have HW:O (F 44 #[M b] w λe w'=>zk9 (Fl.decode s) b w e w'):=ymx h hr d0 e0;clear h hr d0 e0;have c0:P<w.heap.size:=Qe w _ f0
 go_enter func43,ntmps43
 go_wp2_with fail
 refine(HW.out).mono ?_;rintro e w1 ⟨hg,a0,aQ⟩
 cases hr:(Fl.decode s).2.1 with
 |false=>
  obtain rfl:=a0 hr;exact⟨rfl,λ_=>⟨rfl,hg⟩,λh=>by rw[hr]at h;cases h⟩
 |true=>
  obtain⟨lv,nv,rfl,dx⟩:=aQ hr;obtain⟨hl,hn⟩:=dx w1 ⟨lE,λ_ _ _=>rfl⟩;obtain⟨la,lc,rfl,_⟩:=id hl;obtain⟨na,nc,rfl,_⟩:=id hn;have q0:D w1 P 0 Zq:=hg.cell f0 (by simpa using b0);have q1:D w1 P 1 Zq:=hg.cell g0 (by simpa using b0);have qf:∀j,w1.frozen? (Y P j)=false:=λj=>(Qd (w:=w) (a:=(Y P j)) (hg.block P c0 (by simpa using b0))).trans (h0 j);have HG:=A hg;have i0:=A dx;have j0:=A hr;clear a0 aQ hl hn dx hg hr;go_wp2
  go_end0
  exact⟨λh=>(by rw[j0.out]at h;cases h),λ_=>⟨_,_,w1,rfl,HG,rfl,⟨_,_,_,_,_,_,rfl,rfl⟩,i0⟩⟩
end Go.Proofs.YtjmcibbdedlcoaaGreatDoor
