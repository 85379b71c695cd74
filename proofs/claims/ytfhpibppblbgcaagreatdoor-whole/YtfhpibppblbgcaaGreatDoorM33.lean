import Derived.Test.YtfhpibppblbgcaaGreatDoorM29
import Derived.Test.YtfhpibppblbgcaaGreatDoorM32
set_option linter.all false
set_option maxRecDepth 100000
set_option maxHeartbeats 40000000
namespace Go.Proofs.YtfhpibppblbgcaaGreatDoor
open Go.Proofs.Tryz
variable{vs:List Int}{d:Nat}{l:List UInt8}
namespace Fl
def cE:Nat->List aa->Nat
 |0,_=>0
 |d+1,l=>(l.map λs=>1+cE d s.aX+cE d s.aJ).sum
def fD(d:Nat):cE d []=0:=by cases d<;>rfl
def ed(d:Nat)(s:aa)(l:List aa):cE (d+1) (s::l)=1+cE d s.aX+cE d s.aJ+cE (d+1) l:=by
 show ((s::l).map λs=>1+cE d s.aX+cE d s.aJ).sum=_;rw[List.map_cons,List.sum_cons];rfl
def jI(d:Nat)(s:aa):∀l,cE (d+1) (l++[s])=cE (d+1) l+(1+cE d s.aX+cE d s.aJ)
 |[]=>by show cE (d+1) [s]=_;rw[ed,fD];omega
 |x::l=>by rw[List.cons_append,ed,jI d s l,ed];omega
def fJ:∀(d:Nat) (l:List aa),cE d l<=cE (d+1) l
 |0,l=>by rw[cE];exact Nat.zero_le _
 |d+1,[]=>by rw[fD];exact Nat.zero_le _
 |d+1,s::l=>by
  have h1:=fJ d s.aX;have h2:=fJ d s.aJ;have h3:=fJ (d+1) l;rw[ed,ed];omega
def gm(d:Nat):List aB->Nat
 |[]=>0
 |f::fs=>1+cE d f.first+cE d f.fm+gm d fs
def RS.Cn(r:RS):Prop:=r.ap<=16/\∀d,cE d r.bC+gm d r.fr<=r.ap
def dN(d:Nat)(l:List aa)(s:aa):cE d (l++[s])<=cE d l+(1+cE d s.aX+cE d s.aJ):=by
 cases d with
 |zero=>rw[cE,cE];omega
 |succ d=>
  rw[jI];have h1:=fJ d s.aX;have h2:=fJ d s.aJ;omega
def RS.Cn.put{r:RS}(h:r.Cn)(a0:¬16<=r.ap){s:aa}(h1:s.aX=[])(h2:s.aJ=[]):(r.put s).Cn:=by
 unfold RS.put
 split
 ·rename_i hf
  refine⟨by show r.ap+1<=16;omega,λd=>?_⟩;have h3:=h.2 d;have h4:=dN d r.bC s;rw[h1,h2,fD]at h4;rw[hf]at h3⊢;show cE d (r.bC++[s])+gm d []<=r.ap+1;omega
 rename_i f fs hf;refine⟨by show r.ap+1<=16;omega,λd=>?_⟩;have h3:=h.2 d;have h4:=dN d f.fm s;have h5:=dN d f.first s;rw[h1,h2,fD]at h4 h5;rw[hf]at h3;unfold gm at h3;show cE d r.bC+gm d ((if f.cI then{f with fm:=f.fm++[s]} else{f with first:=f.first++[s]})::fs)<=r.ap+1
 cases f.cI
 ·simp only[Bool.false_eq_true,if_false]
  unfold gm;simp only;omega
 simp only[if_true];unfold gm;simp only;omega
def RS.Cn.bE{r:RS}(h:r.Cn):r.bE.Cn:=by
 unfold RS.bE
 split
 ·exact h
 ·rename_i f hf
  refine⟨h.1,λd=>?_⟩;have h3:=h.2 d;rw[hf]at h3;have h4:=dN d r.bC f.done;unfold gm at h3⊢;show cE d (r.bC++[f.done])+0<=r.ap;unfold gm at h3;simp only[aB.done]at h4⊢;omega
 rename_i f g fs hf;refine⟨h.1,λd=>?_⟩;have h3:=h.2 d;rw[hf]at h3;have h4:=dN d g.fm f.done;have h5:=dN d g.first f.done;unfold gm at h3;unfold gm at h3;show cE d r.bC+gm d ((if g.cI then{g with fm:=g.fm++[f.done]} else{g with first:=g.first++[f.done]})::fs)<=r.ap;simp only[aB.done]at h4 h5⊢
 cases g.cI
 ·simp only[Bool.false_eq_true,if_false]
  unfold gm;simp only;omega
 simp only[if_true];unfold gm;simp only;omega
def RS.Cn.cd{r:RS}(h:r.Cn):r.cd.Cn:=by
 unfold RS.cd
 split
 ·exact h
 rename_i f fs hf;refine⟨h.1,λd=>?_⟩;have h3:=h.2 d;rw[hf]at h3;exact h3
def RS.Cn.same{r r':RS}(h:r.Cn)(e:r'.bC=r.bC/\r'.fr=r.fr/\r'.ap=r.ap):r'.Cn:=⟨by rw[e.2.2];exact h.1,λd=>by rw[e.1,e.2.1,e.2.2];exact h.2 d⟩
def RS.lY(r:RS)(n:List UInt8){x:Nat}{r':RS}(h:r.bm n=some (x,r')):r'.bC=r.bC/\r'.fr=r.fr/\r'.ap=r.ap:=by
 unfold RS.bm at h
 split at h
 ·simp only[Option.some.injEq,Prod.mk.injEq]at h;rw[<-h.2];exact⟨rfl,rfl,rfl⟩
 split at h
 ·simp only[Option.some.injEq,Prod.mk.injEq]at h;rw[<-h.2];exact⟨rfl,rfl,rfl⟩
 split at h
 ·cases h
 simp only[Option.some.injEq,Prod.mk.injEq]at h;rw[<-h.2];exact⟨rfl,rfl,rfl⟩
def RS.Cn.bQ{r:RS}(h:r.Cn){a:Nat}(w:List (List UInt8)):(r.bQ a w).2.Cn:=by
 unfold RS.bQ
 split
 ·split
  ·exact h
  split
  ·split
   ·exact h.cd
   exact h
  exact h.bE
 ·split
  ·exact h
  split
  ·exact h
  rename_i hh;refine⟨by show r.ap+1<=16;omega,λd=>?_⟩;have h3:=h.2 d;show cE d r.bC+(1+cE d []+cE d []+gm d r.fr)<=r.ap+1;rw[fD];omega
 ·split
  ·exact h
  split
  ·split
   ·exact h
   split
   ·exact h
   exact h.put (by assumption) rfl rfl
  split
  ·exact h
  split
  ·exact h
  rename_i hh
  split
  ·exact h
  have h1:=r.lY _ hh;exact(h.same h1).put (by rw[h1.2.2];assumption) rfl rfl
 exact h
def RS.nr(r:RS)(w:List (List UInt8)):(r.head w).2.bC=r.bC/\(r.head w).2.fr=r.fr/\(r.head w).2.ap=r.ap:=by
 unfold RS.head
 repeat' split
 all_goals exact⟨rfl,rfl,rfl⟩
def RS.Cn.row{r:RS}(h:r.Cn)(w:List (List UInt8))(a:Nat):(r.row w a).2.Cn:=by
 unfold RS.row
 split
 ·exact h
 split
 ·exact h.same (r.nr w)
 exact h.bQ w
def kP:∀(ls:List (List UInt8)) (r:RS) (i:Nat),r.Cn->(rows r i ls).2.2.Cn
 |[],r,i,h=>h
 |[l],r,i,h=>by
  rw[rows]
  split
  ·split<;>exact h
  exact h
 |l::m::ls,r,i,h=>by
  rw[rows]
  split
  ·exact h
  split
  ·exact h
  exact kP (m::ls) _ (i+1) (h.row _ _)
def oO:RS.zero.Cn:=⟨by decide,λd=>by show cE d []+0<=0;rw[fD];omega⟩
def jg(s:List UInt8)(d:Nat):cE d (ak s).2.2.aX<=16:=by
 unfold ak
 split
 ·have h:=oO.2 d
  have h1:=oO.1;show cE d RS.zero.bC<=16;omega
 have h:=kP (aE 10 s) RS.zero 0 oO;have h1:=h.2 d;have h2:=h.1;show cE d (rows RS.zero 0 (aE 10 s)).2.2.bC<=16;omega
def kO:∀(d:Nat) (l:List aa),l.length<=cE (d+1) l
 |d,[]=>Nat.zero_le _
 |d,s::l=>by
  have:=kO d l;rw[ed,List.length_cons];omega
def kN{d:Nat}:∀{l:List aa} {s:aa},s∈l->cE d s.aX+cE d s.aJ<=cE (d+1) l
 |x::l,s,h=>by
  rw[ed];rcases List.mem_cons.1 h with rfl|h
  ·omega
  have:=kN (d:=d) h;omega
def dG(ws:List ar)(n:ar):(cO ws n).2.length<=ws.length+1:=by
 unfold cO
 split
 ·simp
 simp
def mX(p:aS)(vs:List Int)(ws:List ar)(e:dd):(db p vs ws e).2.length<=ws.length+3:=by
 unfold db bP
 split
 ·have:=dG ws ⟨if e.a.var then 1 else 0,bV p vs e.a,e.a.v,0,0,[]⟩
  omega
 have h1:=dG ws ⟨if e.a.var then 1 else 0,bV p vs e.a,e.a.v,0,0,[]⟩;generalize cO ws ⟨if e.a.var then 1 else 0,bV p vs e.a,e.a.v,0,0,[]⟩=A at*;have h2:=dG A.2 ⟨if e.b.var then 1 else 0,bV p vs e.b,e.b.v,0,0,[]⟩;generalize cO A.2 ⟨if e.b.var then 1 else 0,bV p vs e.b,e.b.v,0,0,[]⟩=B at*;have h3:=dG B.2 ⟨2,br p vs e,e.op,A.1,B.1,[]⟩;omega
def jH{W:List ar->aa->Int×List ar}{d:Nat}(hW:∀ws s,(W ws s).2.length<=ws.length+6*(1+cE d s.aX+cE d s.aJ)):∀(l:List aa) (ws:List ar),(bJ W ws l).2.length<=ws.length+6*cE (d+1) l
 |[],ws=>by rw[bJ];simp
 |s::l,ws=>by
  have h1:=hW ws s;have h2:=jH hW l (W ws s).2;rw[bJ,ed];show (bJ W (W ws s).2 l).2.length<=_;omega
def mW{p:aS}{K:List ar->List aa->Int->Int×List ar}(IH:∀(ws:List ar) (l:List aa) (u:Int),(K ws l u).2.length<=ws.length+6*cE d l+1)(u:Int)(ws:List ar)(s:aa):(dt K p vs u ws s).2.length<=ws.length+6*(1+cE d s.aX+cE d s.aJ):=by
 unfold dt;simp only;have h0:=mX p vs ws s.e;generalize db p vs ws s.e=v at*;generalize jn p u (br p vs s.e)=L;have h1:=IH v.2 s.aX L;generalize K v.2 s.aX L=B1 at*
 split
 ·have h2:=IH B1.2 s.aJ L
  generalize K B1.2 s.aJ L=B2 at*;have h3:=dG B2.2 ⟨5,u,v.1,B1.1,B2.1,[]⟩;omega
 split
 ·have h3:=dG B1.2 ⟨6,u,v.1,B1.1,0,[]⟩
  omega
 have h3:=dG v.2 ⟨s.kind,u,s.x,v.1,0,[]⟩;omega
def iT(p:aS)(vs:List Int):∀(d:Nat) (ws:List ar) (l:List aa) (u:Int),(aF p vs d ws l u).2.length<=ws.length+6*cE d l+1
 |0,ws,l,u=>by
  unfold aF;have:=dG ws ⟨7,u,0,0,0,[]⟩;omega
 |d+1,ws,l,u=>by
  unfold aF;have h1:=jH (W:=dt (aF p vs d) p vs u) (d:=d) (mW (iT p vs d) u) l ws;generalize bJ (dt (aF p vs d) p vs u) ws l=r at*;have h2:=dG r.2 ⟨7,u,0,0,0,r.1⟩;omega
def Sh(n:ar):Prop:=(0<=n.ag/\n.ag<6)/\
  (((n.kind=0\/n.kind=1)/\(0<=n.a/\n.a<2147483648)/\n.b=0/\n.c=0/\n.aU=[])\/
   (n.kind=2/\(0<=n.a/\n.a<2147483648)/\n.aU=[])\/
   ((n.kind=3\/n.kind=4)/\(0<=n.a/\n.a<2147483648)/\n.c=0/\n.aU=[])\/
   (n.kind=5/\n.aU=[])\/(n.kind=6/\n.c=0/\n.aU=[])\/
   (n.kind=7/\n.a=0/\n.b=0/\n.c=0/\n.aU.length<=16))
def nA{x:Int}(h:0<=x/\x<2147483648):cq x=true:=by
 unfold cq;rw[decide_eq_true h.1,decide_eq_true h.2];rfl
def Sh.bG{n:ar}(h:Sh n)(hp:∀i∈prem n,0<=i/\i<2147483648):bG n=true:=by
 obtain⟨kind,ag,a,b,c,aU⟩:=n;obtain⟨hl,h⟩:=h;unfold Fl.bG jd;rcases h with⟨h0,ha,hb,hc,a0⟩|⟨h0,ha,a0⟩|⟨h0,ha,hc,a0⟩|⟨h0,a0⟩|⟨h0,hc,a0⟩|⟨h0,ha,hb,hc,a0⟩
 ·simp only at h0 ha hb hc a0 hl
  subst hb hc a0;rcases h0 with rfl|rfl<;>simp[aO,cq]<;>omega
 ·simp only at h0 ha a0 hl
  subst h0 a0;have h1:=hp b (by simp[prem]);have h2:=hp c (by simp[prem]);simp[aO,cq];omega
 ·simp only at h0 ha hc a0 hl
  subst hc a0;have h1:=hp b (by rcases h0 with rfl|rfl<;>simp[prem]);rcases h0 with rfl|rfl<;>simp[aO,cq]<;>omega
 ·simp only at h0 a0 hl
  subst h0 a0;have h1:=hp a (by simp[prem]);have h2:=hp b (by simp[prem]);have h3:=hp c (by simp[prem]);simp[aO,cq];omega
 ·simp only at h0 hc a0 hl
  subst h0 hc a0;have h1:=hp a (by simp[prem]);have h2:=hp b (by simp[prem]);simp[aO,cq];omega
 simp only at h0 ha hb hc a0 hl;subst h0 ha hb hc;have h1:aU.all cq=true:=List.all_eq_true.2 (λx hx=>nA (hp x (by simpa [prem] using hx)));rw[h1];simp[aO,cq];omega
def Ds(ws:List ar):Prop:=∀k,k<ws.length->Sh (nth ws k)/\(∀i∈prem (nth ws k),0<=i/\i<(k:Int))/\∀i,i<k->nth ws i≠nth ws k
def fI(l:List ar)(k:Int):Prop:=∃j,k<(j:Nat)/\j<l.length/\k∈prem (nth l j)
def fI.ext{l t:List ar}{k:Int}(h:fI l k):fI (l++t) k:=by
 obtain⟨j,h1,h2,h3⟩:=h;exact⟨j,h1,by simp;omega,by rw[fE h2];exact h3⟩
structure Kp(ws:List ar)(r:Int×List ar):Prop where
 ext:∃t,r.2=ws++t
 hH:0<=r.1/\r.1<r.2.length
 ds:Ds r.2
 us:∀k:Nat,ws.length<=k->k<r.2.length->(k:Int)=r.1\/fI r.2 k
def Kp.len{ws:List ar}{r:Int×List ar}(h:Kp ws r):ws.length<=r.2.length:=by
 obtain⟨t,e⟩:=h.ext;rw[e];simp
def fX{ws:List ar}(h:Ds ws){n:ar}(hs:Sh n)(hp:∀i∈prem n,0<=i/\i<(ws.length:Int)):Kp ws (cO ws n)/\∀i∈prem n,fI (cO ws n).2 i:=by
 unfold cO
 split
 ·rename_i i hi
  have h1:dI (nth ws i) n=true:=List.find?_some (p:=λi=>dI (nth ws i) n) hi;have h2:i<ws.length:=(by have:=List.mem_of_find?_eq_some hi;simpa using this);have h3:=(dr _ _).1 h1;refine⟨⟨⟨[],by simp⟩,⟨by simp,by simp;omega⟩,h,λk c0 a0=>by simp only at a0;omega⟩,λj hj=>?_⟩;rw[<-h3]at hj;exact⟨i,((h i h2).2.1 j hj).2,h2,hj⟩
 rename_i hn;rw[List.find?_eq_none]at hn
 have e:nth (ws++[n]) ws.length=n:=by unfold nth;simp[Qa]
 refine⟨⟨⟨[n],rfl⟩,⟨by simp,by simp;omega⟩,λk hk=>?_,λk c0 a0=> .inl (by simp only[List.length_append,List.length_cons,List.length_nil]at a0⊢;omega)⟩,λj hj=>⟨ws.length,(hp j hj).2,by simp,by rw[e];exact hj⟩⟩
 by_cases b0:k<ws.length
 ·rw[fE b0]
  obtain⟨a1,a2,a3⟩:=h k b0;exact⟨a1,a2,λi hi=>by rw[fE (by omega)];exact a3 i hi⟩
 have d0:k=ws.length:=by simp at hk;omega
 subst d0;rw[e];refine⟨hs,hp,λi hi=>?_⟩;rw[fE hi];intro hh;exact hn i (by simpa using hi) ((dr _ _).2 hh)
def Kp.comp{ws:List ar}{r r':Int×List ar}(h:Kp ws r)(h':Kp r.2 r')(hu:fI r'.2 r.1):Kp ws r':=by
 obtain⟨t,e⟩:=h.ext;obtain⟨t',e'⟩:=h'.ext;refine⟨⟨t++t',by rw[e',e,List.append_assoc]⟩,h'.hH,h'.ds,λk h1 h2=>?_⟩
 by_cases h3:r.2.length<=k
 ·exact h'.us k h3 h2
 rcases h.us k h1 (by omega) with h4|h4
 ·exact .inr (by rw[h4];exact hu)
 exact .inr (by rw[e'];exact h4.ext)
section
variable{p:aS}
def iS(lv:p.Lv)(ok:dX p vs)(b0:vs.length<=10){ws:List ar}(h:Ds ws){a:dM}(ho:dU vs.length a):Kp ws (bP p vs ws a):=by
 have hi:zt5 vs a:=λhv=>by unfold dU at ho;rwa [if_pos hv]at ho
 have h1:=dm lv ok hi;have h6:=lv.n6;have hv:a.v<=999999999:=by
  unfold dU at ho
  split at ho<;>omega
 unfold bP;refine(fX h ⟨⟨h1.1,by show bV p vs a<6;omega⟩,.inl ⟨by cases a.var<;>simp,⟨by simp,by simp only;omega⟩,rfl,rfl,rfl⟩⟩ (λi hi=>?_)).1;unfold prem at hi
 cases a0:a.var<;>rw[a0]at hi<;>simp at hi
def nk(lv:p.Lv)(ok:dX p vs)(a0:vs.length<=10){ws:List ar}(h:Ds ws){e:dd}(ho:cX vs.length e):Kp ws (db p vs ws e):=by
 have h1:=eu lv ok ho;have h6:=lv.n6;obtain⟨o1,o2,o3,o4⟩:=ho;unfold db
 split
 ·exact iS lv ok a0 h o3
 rename_i h0;have ha:=iS lv ok a0 h o3;generalize bP p vs ws e.a=A at*;have hb:=iS lv ok a0 ha.ds o4;generalize bP p vs A.2 e.b=B at*;have ra:=ha.hH;have rb:=hb.hH;have lb:=hb.len
 have b0:prem (⟨2,br p vs e,e.op,A.1,B.1,[]⟩:ar)=[A.1,B.1]:=by simp[prem]
 obtain⟨g1,g2⟩:=fX (n:=⟨2,br p vs e,e.op,A.1,B.1,[]⟩) hb.ds ⟨⟨h1.1,by show br p vs e<6;omega⟩,.inr (.inl ⟨rfl,⟨by simp only;omega,by simp only;omega⟩,rfl⟩)⟩ (λi hi=>by
  rw[b0]at hi;simp only[List.mem_cons,List.not_mem_nil,or_false]at hi
  rcases hi with rfl|rfl<;>omega)
 rw[b0]at g2;exact ha.comp (hb.comp g1 (g2 _ (by simp))) (g2 _ (by simp))
def mV(lv:p.Lv)(ok:dX p vs)(c0:vs.length<=10)(e0:p.aj.length<=3)
  (IH:∀(ws:List ar) (l:List aa) (u:Int),Ds ws->aT vs.length p.aj.length d l->cE d l<=16->(0<=u/\u<p.n)->Kp ws (aF p vs d ws l u))
  {ws:List ar} (h:Ds ws) {u:Int} (hu:0<=u/\u<p.n) {s:aa} (hk:eG vs.length p.aj.length s) (he:cX vs.length s.e) (h1:aT vs.length p.aj.length d s.aX) (h2:aT vs.length p.aj.length d s.aJ) (hc:cE d s.aX+cE d s.aJ<=16):
  Kp ws (dt (aF p vs d) p vs u ws s):=by
 have b0:=nk lv ok c0 h he;have d0:=eu lv ok he;have hj:=lv.jn hu d0;have h6:=lv.n6;have vr:=b0.hH;unfold dt;simp only;generalize db p vs ws s.e=v at*;generalize jn p u (br p vs s.e)=L at*;have b1:=IH v.2 s.aX L b0.ds h1 (by omega) hj;generalize aF p vs d v.2 s.aX L=B1 at*;have r1:=b1.hH;have l1:=b1.len
 split
 ·have b2:=IH B1.2 s.aJ L b1.ds h2 (by omega) hj
  generalize aF p vs d B1.2 s.aJ L=B2 at*;have r2:=b2.hH;have l2:=b2.len;have a0:prem (⟨5,u,v.1,B1.1,B2.1,[]⟩:ar)=[v.1,B1.1,B2.1]:=(by simp[prem])
  obtain⟨g1,g2⟩:=fX (n:=⟨5,u,v.1,B1.1,B2.1,[]⟩) b2.ds ⟨⟨hu.1,by show u<6;omega⟩,.inr (.inr (.inr (.inl ⟨rfl,rfl⟩)))⟩ (λi hi=>by
   rw[a0]at hi;simp only[List.mem_cons,List.not_mem_nil,or_false]at hi
   rcases hi with rfl|rfl|rfl<;>omega)
  rw[a0]at g2;exact b0.comp (b1.comp (b2.comp g1 (g2 _ (by simp))) (g2 _ (by simp))) (g2 _ (by simp))
 rename_i k5
 split
 ·have a0:prem (⟨6,u,v.1,B1.1,0,[]⟩:ar)=[v.1,B1.1]:=by simp[prem]
  obtain⟨g1,g2⟩:=fX (n:=⟨6,u,v.1,B1.1,0,[]⟩) b1.ds ⟨⟨hu.1,by show u<6;omega⟩,.inr (.inr (.inr (.inr (.inl ⟨rfl,rfl,rfl⟩))))⟩ (λi hi=>by
   rw[a0]at hi;simp only[List.mem_cons,List.not_mem_nil,or_false]at hi
   rcases hi with rfl|rfl<;>omega)
  rw[a0]at g2;exact b0.comp (b1.comp g1 (g2 _ (by simp))) (g2 _ (by simp))
 rename_i k6
 have f0:s.kind=3\/s.kind=4:=by rcases hk with e|e|e|e<;>omega
 have hx:s.x<10:=by rcases hk with e|e|e|e<;>omega
 have a0:prem (⟨s.kind,u,s.x,v.1,0,[]⟩:ar)=[v.1]:=by unfold prem;simp only;rw[if_neg (by omega),if_pos (by omega)]
 obtain⟨g1,g2⟩:=fX (n:=⟨s.kind,u,s.x,v.1,0,[]⟩) b0.ds ⟨⟨hu.1,by show u<6;omega⟩,.inr (.inr (.inl ⟨by simp only;omega,⟨by simp,by simp only;omega⟩,rfl,rfl⟩))⟩ (λi hi=>by
  rw[a0]at hi;simp only[List.mem_singleton]at hi
  omega)
 rw[a0]at g2;exact b0.comp g1 (g2 _ (by simp))
structure oF(ws:List ar)(l:List aa)(r:List Int×List ar):Prop where
 ext:∃t,r.2=ws++t
 len:r.1.length=l.length
 hH:∀k∈r.1,0<=k/\k<(r.2.length:Int)
 ds:Ds r.2
 us:∀k:Nat,ws.length<=k->k<r.2.length->(k:Int)∈r.1\/fI r.2 k
def kM{W:List ar->aa->Int×List ar}:∀(l:List aa) (ws:List ar),Ds ws->(∀s∈l,∀ws,Ds ws->Kp ws (W ws s))->oF ws l (bJ W ws l)
 |[],ws,h,_=>⟨⟨[],by simp[bJ]⟩,rfl,λk hk=>by simp[bJ]at hk,h,λk h1 h2=>by simp only[bJ]at h2;omega⟩
 |s::l,ws,h,hW=>by
  have h1:=hW s (by simp) ws h;have h2:=kM l (W ws s).2 h1.ds (λs hs'=>hW s (by simp[hs']));rw[bJ];generalize bJ W (W ws s).2 l=q at*;generalize W ws s=r at*;obtain⟨t1,e1⟩:=h1.ext;obtain⟨t2,e2⟩:=h2.ext;have r1:=h1.hH;have hl:r.2.length<=q.2.length:=(by rw[e2];simp);refine⟨⟨t1++t2,by rw[e2,e1,List.append_assoc]⟩,by simp[h2.len],λk hk=>?_,h2.ds,λk a1 a2=>?_⟩
  ·rcases List.mem_cons.1 hk with rfl|hk
   ·simp only;omega
   exact h2.hH k hk
  by_cases h3:r.2.length<=k
  ·rcases h2.us k h3 a2 with h4|h4
   ·exact .inl (List.mem_cons_of_mem _ h4)
   exact .inr h4
  rcases h1.us k a1 (by omega) with h4|h4
  ·exact .inl (by rw[h4];simp)
  exact .inr (by show fI q.2 k;rw[e2];exact h4.ext)
def jw(lv:p.Lv)(ok:dX p vs)(a0:vs.length<=10)(b0:p.aj.length<=3):∀(d:Nat) (ws:List ar) (l:List aa) (u:Int),Ds ws->aT vs.length p.aj.length d l->cE d l<=16->(0<=u/\u<p.n)->Kp ws (aF p vs d ws l u)
 |0,ws,l,u,h,hs,hc,hu=>by
  have h6:=lv.n6;unfold aF;exact(fX (n:=⟨7,u,0,0,0,[]⟩) h ⟨⟨hu.1,by show u<6;omega⟩,.inr (.inr (.inr (.inr (.inr ⟨rfl,rfl,rfl,rfl,by simp⟩))))⟩ (λi hi=>by simp[prem]at hi)).1
 |d+1,ws,l,u,h,hs,hc,hu=>by
  have h6:=lv.n6
  have hL:=kM (W:=dt (aF p vs d) p vs u) l ws h (λs hs' ws' h'=>by
   obtain⟨a1,a2,a3,a4⟩:=hs s hs'
   exact mV lv ok a0 b0 (jw lv ok a0 b0 d) h' hu a1 a2 a3 a4 (by have:=kN (d:=d) hs';omega))
  unfold aF;generalize bJ (dt (aF p vs d) p vs u) ws l=r at*;have c0:prem (⟨7,u,0,0,0,r.1⟩:ar)=r.1:=(by simp[prem])
  obtain⟨g1,g2⟩:=fX (n:=⟨7,u,0,0,0,r.1⟩) hL.ds ⟨⟨hu.1,by show u<6;omega⟩,.inr (.inr (.inr (.inr (.inr ⟨rfl,rfl,rfl,rfl,by have:=kO d l;have:=hL.len;simp only;omega⟩))))⟩ (λi hi=>by
   rw[c0]at hi
   exact hL.hH i hi)
  rw[c0]at g2;obtain⟨t1,e1⟩:=hL.ext;obtain⟨t2,e2⟩:=g1.ext;refine⟨⟨t1++t2,by rw[e2,e1,List.append_assoc]⟩,g1.hH,g1.ds,λk a1 a2=>?_⟩
  by_cases h3:r.2.length<=k
  ·exact g1.us k h3 a2
  rcases hL.us k a1 (by omega) with h4|h4
  ·exact .inr (g2 _ h4)
  exact .inr (by rw[e2];exact h4.ext)
end
def lX{p:aS}(lv:p.Lv)(ho:p.Ok)(hc:cE 4 p.aX<=16)(h0:(bH p).1=0):(bx (bH p).2.1 (bH p).2.2).2.1=true:=by
 unfold bH at h0⊢
 by_cases hd:0<cf p (bI p)
 ·rw[if_pos hd]at h0;simp only at h0;omega
 rw[if_neg hd];obtain⟨hv,b0⟩:=iV lv ho;have c0:=ho.ce;have cV:=ho.lo;have h6:=lv.n6;have hB:=jw lv hv (by rw[hv.1];omega) ho.ch 4 [] p.aX (aM p) (λk hk=>by simp at hk) (by rw[hv.1];exact ho.aX) hc lv.aM;have hN:=iT p (bI p) 4 [] p.aX (aM p);simp only;generalize aF p (bI p) 4 [] p.aX (aM p)=r at*;simp only[List.length_nil,Nat.zero_add]at hN;have rr:=hB.hH;have a0:r.1=(r.2.length:Int) - 1:=by
  rcases hB.us (r.2.length - 1) (by simp) (by omega) with h|h
  ·omega
  obtain⟨j,j1,j2,-⟩:=h;omega
 have hD:=hB.ds;unfold bx;rw[if_neg (by rw[List.length_drop,hv.1];omega),if_neg,if_neg]
 ·have h1:bh r.2= -1:=by
   unfold bh
   rw[dO _ _ (λk hk=>by
    obtain⟨d1,d2,d3⟩:=hD k hk;unfold eh;rw[d1.bG (λi hi=>by have:=d2 i hi;omega)];have e1:((prem (nth r.2 k)).any λp=>decide ((k:Int)<=p))=false:=by
     rw[List.any_eq_false];intro i hi;have:=d2 i hi;simp only[decide_eq_true_eq];omega
    have e2:((List.range k).any λi=>dI (nth r.2 i) (nth r.2 k))=false:=by
     rw[List.any_eq_false];intro i hi;rw[List.mem_range]at hi;intro hh;exact d3 i hi ((dr _ _).1 hh)
    rw[e1,e2]
    rfl)]
   simp only
   rw[dO _ _ (λk hk=>by
    rcases hB.us k (by simp) (by omega) with h|h
    ·omega
    obtain⟨j,j1,j2,j3⟩:=h;have:used r.2 k=true:=by
     unfold used;rw[List.any_eq_true];refine⟨j,by rw[List.mem_range];exact j2,?_⟩;rw[Bool.and_eq_true,decide_eq_true_eq,List.any_eq_true];exact⟨by omega,_,j3,by simp⟩
    rw[this]
    rfl)]
  rw[h1]
  decide
 rw[Bool.not_eq_false,List.all_eq_true];intro x hx;obtain⟨i,hi,e⟩:=jR (List.mem_of_mem_drop hx);have:=hv.2 i hi;exact nA (by omega)
def jf{s:List UInt8}(h:(ak s).1=0)(h0:(bH (ak s).2.2).1=0):(bx (bH (ak s).2.2).2.1 (bH (ak s).2.2).2.2).2.1=true:=
 lX (eJ s h) (ee s h).1 (jg s 4) h0
end Fl
namespace Fl
def je{t:List UInt8}(h:(ak l).1=0)(hc:(checked (ak l) (decode t)).1=0):gK (ak l).2.2 (decode t).1.1 (decode t).1.2:=by
 unfold checked at hc;rw[if_neg (by rw[h];simp)]at hc
 split at hc
 ·cases hc
 rename_i hd;exact km (zb5 (by simpa using hd)) hc
def jG(t:List UInt8)(h:(ak l).1=0):(bf (ak l)).1=0\/((bf (ak l)).1=7/\(checked (ak l) (decode t)).1≠0):=by
 by_cases h0:(bH (ak l).2.2).1=0
 ·refine .inl ?_
  unfold bf;rw[if_neg (by rw[h];simp),if_neg (by rw[h0];omega),if_neg (by rw[jf h h0];simp)]
 refine .inr ⟨?_,λhc=>h0 (whole (eJ l h) (ee l h).1 (je h hc))⟩;unfold bf;rw[if_neg (by rw[h];simp),if_pos (by omega)]
end Fl
open Go.RowKit
def yj5(l t:List UInt8)(w:World)(hl:l.length<=1000000000000000000)(ht:t.length<=1000000000000000000)(hk:zmx w):
  Cq 3 #[.string ⟨l.toArray⟩,.string ⟨t.toArray⟩] w λe w'=>e=.returned (.bool true)/\Bq w w':=by
 have HK:Hid (∀W,Bq w W->zmx W):=λW hW=>hk.below hW;obtain⟨s,f0⟩:=nmE (α:=ByteArray) (⟨l.toArray⟩);obtain⟨b,g0⟩:=nmE (α:=ByteArray) (⟨t.toArray⟩)
 have cF:s.size=l.length:=by rw[f0];rfl
 have hbz:b.size=t.length:=by rw[g0];rfl
 rw[<-f0,<-g0];clear hk
 by_cases K0:32768<l.length+t.length
 ·have L0:(32768:Int)<(l.length:Int)+(t.length:Int):=by omega
  clear HK f0 g0
  go_enter func3,ntmps3
  go_wp2;go_ret;exact⟨rfl,Below.refl _ _⟩
 have L0:¬(32768:Int)<(l.length:Int)+(t.length:Int):=by omega
 have r0:Hid (l.length<=32768/\t.length<=32768):=by show _/\_;omega
 have y0:=Zz f0
 have z0:Hid (Cq 4 #[.string s] w (Vl (Fl.ak l) w)):=by rw[f0];exact ykv l w (by omega)
 have k0:Hid (∀W,Bq w W->Cq 5 #[.string s] W (yw3 (Fl.bf (Fl.ak l)) W)):=λW hW=>by
  rw[y0.out];exact yuz (HK W hW).er (by have:=r0.out;omega) (HK W hW).mg (HK W hW).ml
 have l0:Hid (∀W ao cap (x:List UInt8),Bq w W->x.length<=1099511627776->zz0 W ao x->Cq 6 #[.string s,.slice ao x.length cap] W λe w'=>e=.returned (.tuple #[Iq (Fl.checked (Fl.ak l) (Fl.decode x)).1,Iq (Fl.checked (Fl.ak l) (Fl.decode x)).2])/\Bq W w'):=λW ao cap x hW hx hb=>by
  rw[y0.out];exact zew (HK W hW).er (by have:=r0.out;omega) (HK W hW).mg (HK W hW).ml hx hb
 have A0:∀W:World,(convert 9 26 (.string b)).run prog W=.ok (.slice (some (Aq W.heap.size 0)) t.length (grownCap W t.length 0 5)) (Lib.bytesWorld W 5 b):=λW=>by rw[<-hbz];exact Lib.run_convert_string_bytes W 9 26 5 b underlying9 underlying26 underlying5
 have B0:Hid (∀W:World,zz0 (Lib.bytesWorld W 5 b) (some (Aq W.heap.size 0)) t/\Bq W (Lib.bytesWorld W 5 b)):=λW=>by
  rw[g0];exact⟨(yw4 W t).1,(yw4 W t).2.1⟩
 have s0:Hid ((Fl.ak l).1≠0->(Fl.bf (Fl.ak l)).1=(Fl.ak l).1):=λh=>by
  unfold Fl.bf;rw[if_pos h]
 have t0:Hid ((Fl.ak l).1=0->(Fl.bf (Fl.ak l)).1=0\/((Fl.bf (Fl.ak l)).1=7/\(Fl.checked (Fl.ak l) (Fl.decode t)).1≠0)):=λh=>Fl.jG t h;have m0:Hid ((Fl.bf (Fl.ak l)).1=0->Fl.checked (Fl.ak l) (Fl.decode (Fl.bf (Fl.ak l)).2.2)=(0,-1)/\3<=(Fl.bf (Fl.ak l)).2.2.length/\(Fl.bf (Fl.ak l)).2.2.length<=100000):=λh=>⟨Fl.lg h,Fl.lf h,Fl.ld h⟩;clear f0 g0 hl ht;generalize Fl.ak l=q at*;generalize Fl.bf q=aV at*
 go_enter func3,ntmps3
 go_wp2_with fail
 refine z0.mono ?_;rintro e w1 ⟨C0,c0,aQ⟩;have a0:=Zz C0;clear C0 z0
 by_cases h0:q.1=0
 rotate_left
 ·obtain rfl:=c0 h0
  have e1:=s0 h0;have b0:(((q.1:Nat):Int) !=0)=true:=(by rw[bne_iff_ne];omega);clear c0 aQ h0 s0 t0 m0 A0
  go_wp2_with fail
  refine(k0 _ a0).mono ?_;rintro e w2 ⟨i0,va,n,c,rfl,ho⟩;have n0:Hid (Bq w w2):=a0.trans (i0.mono a0.size);clear i0 ho k0 a0;rw[e1];clear e1;go_wp2;go_ret;exact⟨rfl,n0⟩
 obtain⟨Pb,p1,p2,bF,bv,ca,cc,rfl,-,-,-,-,-⟩:=aQ h0;have D0:=t0 h0;clear c0 aQ s0 t0 h0
 go_wp2_with fail
 refine(k0 _ a0).mono ?_;rintro e w2 ⟨i0,va,n,c,rfl,ho⟩;have n0:Hid (Bq w w2):=a0.trans (i0.mono a0.size);have E0:Hid (zz0 w2 va aV.2.2):=(zz0.dE ho).2;obtain rfl:n=aV.2.2.length:=(zz0.dE ho).1;clear i0 ho k0 a0
 go_wp2_with fail
 clear A0;obtain⟨cap,j0⟩:=nmE (grownCap w2 t.length 0 5);obtain⟨d0,o0⟩:=B0 w2;have F0:(Lib.bytesWorld w2 5 b).heap.size=w2.heap.size+1:=Lib.bytesWorld_size _ _ _;obtain⟨WB,u0⟩:=nmE (Lib.bytesWorld w2 5 b);rw[<-j0,<-u0];rw[<-u0]at d0 o0 F0;have p0:Hid (Bq w WB):=n0.trans (o0.mono n0.size);have G0:Hid (zz0 WB va aV.2.2):=E0.below o0;have H0:=Zz (l0 WB (some (Aq w2.heap.size 0)) cap t p0 (by have:=r0.out;omega) d0);clear j0 u0 d0 o0 E0 B0 F0;refine H0.mono ?_;rintro e w3 ⟨rfl,v0⟩;have q0:Hid (Bq w w3):=p0.trans (v0.mono p0.size);have e0:Hid (zz0 w3 va aV.2.2):=G0.below v0;obtain⟨g,hg⟩:=nmE (Fl.checked q (Fl.decode t));rw[<-hg]at D0⊢;clear hg v0 H0 G0 p0;rcases D0 with h7|⟨h7,M0⟩
 ·obtain⟨f1,f2,f3⟩:=m0 h7
  have x0:=Zz (l0 w3 va c aV.2.2 q0 (by omega) e0);rw[f1]at x0;have N0:(0:Int)<(aV.2.2.length:Int):=(by omega);rw[h7];clear f1 f2 f3 l0 m0 e0 h7;generalize aV.2.2.length=bl at*
  go_wp2_with fail
  refine x0.mono ?_;rintro e w4 ⟨rfl,I0⟩;have O0:Hid (Bq w w4):=q0.trans (I0.mono q0.size);clear I0 x0;have J0:0<bl:=(by omega);have P0:decide (0<bl)=true:=decide_eq_true J0;go_wp2;go_ret;refine⟨?_,O0⟩
  first|rfl|simp[J0]
 have b1:(((g.1:Nat):Int) !=0)=true:=by rw[bne_iff_ne];omega
 have b2:(((g.1:Nat):Int)==0)=false:=beq_eq_false_iff_ne.2 (by omega);rw[h7];clear M0 l0 m0 e0 h7;generalize aV.2.2.length=bl at*;go_wp2;go_ret;exact⟨rfl,q0⟩
end Go.Proofs.YtfhpibppblbgcaaGreatDoor
