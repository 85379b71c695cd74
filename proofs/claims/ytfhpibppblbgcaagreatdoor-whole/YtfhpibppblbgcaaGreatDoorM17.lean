import Derived.Test.YtfhpibppblbgcaaGreatDoorM11
set_option linter.all false
set_option maxRecDepth 100000
set_option maxHeartbeats 40000000
namespace Go.Proofs.YtfhpibppblbgcaaGreatDoor
open Go.Proofs.Tryz
variable{k a b c z:Int}{ls vs st:List Int}{d i x M q0 P0 q:Nat}{s:List UInt8}{w wr w':World}{sv sv' nv':Value}{acc:List Fl.ar}{lvs:List Value}
namespace Fl
def fE{ws t:List ar}{k:Nat}(h:k<ws.length):nth (ws++t) k=nth ws k:=by
 unfold nth;rw[Qa,Qa,List.getElem?_append_left h]
def de{ws t:List ar}(h:0<=k/\k<ws.length):nd (ws++t) k=nd ws k:=fE (by omega)
def iY{α:Type}{f g:α->Bool}:∀{l:List α},(∀k∈l,f k=g k)->l.all f=l.all g
 |[],_=>rfl
 |a::l,h=>by rw[List.all_cons,List.all_cons,h a (by simp),iY (λk hk=>h k (by simp[hk]))]
def gF{p:aS}{ws t:List ar}{n:ar}(hk:0<=n.kind/\n.kind<=7)(h:∀i∈prem n,0<=i/\i<(ws.length:Int)):follows p ls (ws++t) n=follows p ls ws n:=by
 unfold follows bS
 congr 1
 by_cases k0:n.kind=0
 ·rw[if_pos k0,if_pos k0]
 rw[if_neg k0,if_neg k0]
 by_cases k1:n.kind=1
 ·rw[if_pos k1,if_pos k1]
 rw[if_neg k1,if_neg k1]
 by_cases k2:n.kind=2
 ·rw[if_pos k2,if_pos k2]
  have hp:prem n=[n.b,n.c]:=(by unfold prem;rw[if_pos k2]);rw[hp]at h;rw[de (h n.b (by simp)),de (h n.c (by simp))]
 rw[if_neg k2,if_neg k2]
 by_cases k3:n.kind=3
 ·rw[if_pos k3,if_pos k3]
  have hp:prem n=[n.b]:=(by unfold prem;rw[if_neg k2,if_pos (.inl k3)]);rw[hp]at h;unfold dS;rw[de (h n.b (by simp))]
 rw[if_neg k3,if_neg k3]
 by_cases k4:n.kind=4
 ·rw[if_pos k4,if_pos k4]
  have hp:prem n=[n.b]:=(by unfold prem;rw[if_neg k2,if_pos (.inr k4)]);rw[hp]at h;unfold dS;rw[de (h n.b (by simp))]
 rw[if_neg k4,if_neg k4]
 by_cases k5:n.kind=5
 ·rw[if_pos k5,if_pos k5]
  have hp:prem n=[n.a,n.b,n.c]:=(by unfold prem;rw[if_neg k2,if_neg (by omega),if_pos k5]);rw[hp]at h;unfold cJ;rw[de (h n.a (by simp)),de (h n.b (by simp)),de (h n.c (by simp))]
 rw[if_neg k5,if_neg k5]
 by_cases k6:n.kind=6
 ·rw[if_pos k6,if_pos k6]
  have hp:prem n=[n.a,n.b]:=(by unfold prem;rw[if_neg k2,if_neg (by omega),if_neg k5,if_pos k6]);rw[hp]at h;unfold cJ;rw[de (h n.a (by simp)),de (h n.b (by simp))]
 rw[if_neg k6,if_neg k6]
 have hp:prem n=n.aU:=by unfold prem;rw[if_neg k2,if_neg (by omega),if_neg k5,if_neg k6,if_pos (by omega)]
 rw[hp]at h
 exact iY λk hk=>by rw[de (h k hk)]
def iK(p:aS)(ls:List Int)(ws:List ar):Prop:=
 ∀k,k<ws.length->(0<=(nth ws k).kind/\(nth ws k).kind<=7)/\follows p ls ws (nth ws k)=true/\∀i∈prem (nth ws k),0<=i/\i<(k:Int)
def iK.nil(p:aS)(ls:List Int):iK p ls []:=λk hk=>by simp at hk
def iK.push{p:aS}{ws:List ar}(h:iK p ls ws){n:ar}(hk:0<=n.kind/\n.kind<=7)(hf:follows p ls ws n=true)(hp:∀i∈prem n,0<=i/\i<(ws.length:Int)):iK p ls (ws++[n]):=λk b0=>by
 by_cases a0:k<ws.length
 ·rw[fE a0]
  obtain⟨h1,h2,h3⟩:=h k a0;exact⟨h1,by rw[gF h1 (λi hi=>by have:=h3 i hi;omega)];exact h2,h3⟩
 have c0:k=ws.length:=by simp at b0;omega
 subst c0
 have e:nth (ws++[n]) ws.length=n:=by unfold nth;simp[Qa]
 rw[e];exact⟨hk,by rw[gF hk hp];exact hf,hp⟩
structure kA(p:aS)(ls:List Int)(ws:List ar)(r:Int×List ar):Prop where
 gB:iK p ls r.2
 ext:∃t,r.2=ws++t
 hH:0<=r.1/\r.1<r.2.length
 new:r.2=ws\/r.1=(r.2.length:Int) - 1
def kA.len{p:aS}{ws:List ar}{r:Int×List ar}(h:kA p ls ws r):ws.length<=r.2.length:=by
 obtain⟨t,e⟩:=h.ext;rw[e];simp
def kA.nd{p:aS}{ls:List Int}{ws:List ar}{r:Int×List ar}(h:kA p ls ws r){k:Int}(hk:0<=k/\k<ws.length):nd r.2 k=nd ws k:=by
 obtain⟨t,e⟩:=h.ext;rw[e];exact de hk
def fd{p:aS}{ws:List ar}(h:iK p ls ws){n:ar}(hk:0<=n.kind/\n.kind<=7)(hf:follows p ls ws n=true)(hp:∀i∈prem n,0<=i/\i<(ws.length:Int)):kA p ls ws (cO ws n)/\nd (cO ws n).2 (cO ws n).1=n/\((cO ws n).2.length=ws.length->∀i∈prem n,i<(cO ws n).1):=by
 unfold cO
 split
 ·rename_i i hi
  have h1:dI (nth ws i) n=true:=List.find?_some (p:=λi=>dI (nth ws i) n) hi;have h2:i<ws.length:=(by have:=List.mem_of_find?_eq_some hi;simpa using this);have h3:=(dr _ _).1 h1;refine⟨⟨h,⟨[],by simp⟩,⟨by simp,by simp;omega⟩,.inl rfl⟩,?_,λ_ j hj=>?_⟩
  ·show nth ws (i:Int).toNat=n
   rw[Int.toNat_natCast];exact h3
  rw[<-h3]at hj;exact((h i h2).2.2 j hj).2
 refine⟨⟨h.push hk hf hp,⟨[n],rfl⟩,⟨by simp,by simp;omega⟩,.inr (by simp)⟩,?_,λe=>?_⟩
 ·show nth (ws++[n]) (ws.length:Int).toNat=n
  rw[Int.toNat_natCast];unfold nth;simp[Qa]
 simp at e
def kA.comp{p:aS}{ws:List ar}{r r':Int×List ar}(h:kA p ls ws r)(h':kA p ls r.2 r')(hn:r'.2.length=r.2.length->r.1<r'.1):kA p ls ws r':=by
 obtain⟨t,e⟩:=h.ext;obtain⟨t',e'⟩:=h'.ext;refine⟨h'.gB,⟨t++t',by rw[e',e,List.append_assoc]⟩,h'.hH,?_⟩;rcases h'.new with h1|h1
 ·have h2:=hn (by rw[h1])
  have h3:=h'.hH;rcases h.new with h4|h4
  ·exact .inl (h1.trans h4)
  rw[h1]at h3;omega
 exact .inr h1
def ez{p:aS}(lv:p.Lv)(ha:0<=a/\a<p.n):aL p a a=true:=lv.fT.refl _ (by omega)
def gY{p:aS}(lv:p.Lv)(ha:0<=a/\a<p.n)(hb:0<=b/\b<p.n):aL p a (jn p a b)=true/\aL p b (jn p a b)=true:=by
 obtain⟨k,h1,h2,h3,h4,-⟩:=lv.fT.ki a.toNat b.toNat (by omega) (by omega)
 have e:(jn p a b).toNat=k:=by unfold jn;rw[h2];simp
 unfold aL;rw[e];exact⟨h3,h4⟩
def aA{p:aS}(lv:p.Lv)(ha:0<=a/\a<p.n)(hb:0<=b/\b<p.n)(hc:0<=c/\c<p.n)(h1:aL p a b=true)(h2:aL p b c=true):aL p a c=true:=lv.fT.trans _ _ _ (by omega) (by omega) (by omega) h1 h2
def gq{ws t:List ar}{a:dM}(h:0<=k/\k<ws.length):da (ws++t) k a=da ws k a:=by unfold da;rw[de h]
def iK.prem{p:aS}{ls:List Int}{ws:List ar}(h:iK p ls ws){k:Int}(hk:0<=k/\k<ws.length):∀i∈Go.Proofs.YtfhpibppblbgcaaGreatDoor.prem (nd ws k),0<=i/\i<(ws.length:Int):=λi hi=>by
 have h1:=(h k.toNat (by omega)).2.2 i hi;omega
def ew{p:aS}{ws t:List ar}(h:iK p ls ws)(hk:0<=k/\k<ws.length)(e:dd):dv (ws++t) k e=dv ws k e:=by
 unfold dv
 by_cases h0:e.op<0
 ·rw[if_pos h0,if_pos h0,gq hk]
 rw[if_neg h0,if_neg h0,de hk]
 by_cases h2:(nd ws k).kind=2
 ·have hp:Go.Proofs.YtfhpibppblbgcaaGreatDoor.prem (nd ws k)=[(nd ws k).b,(nd ws k).c]:=by unfold Go.Proofs.YtfhpibppblbgcaaGreatDoor.prem;rw[if_pos h2]
  have h3:=h.prem hk;rw[hp]at h3;rw[gq (h3 _ (by simp)),gq (h3 _ (by simp))]
 rw[decide_eq_false h2,Bool.false_and,Bool.false_and]
section
variable{p:aS}
def iX(lv:p.Lv)(ok:dX p vs)(hv:bN p ls=vs){ws:List ar}(h:iK p ls ws){a:dM}(ho:zt5 vs a):
  kA p ls ws (bP p vs ws a)/\nd (bP p vs ws a).2 (bP p vs ws a).1=⟨if a.var then 1 else 0,bV p vs a,a.v,0,0,[]⟩:=by
 obtain⟨k,hk,ek⟩:=zy5 lv ok.2 ho;have h1:=fd (n:=⟨if a.var then 1 else 0,bV p vs a,a.v,0,0,[]⟩) h (by cases a.var<;>simp) ?_ ?_
 ·exact⟨h1.1,h1.2.1⟩
 ·unfold follows bS
  rw[Bool.and_eq_true];refine⟨by simp only[decide_eq_true_eq];omega,?_⟩
  cases a0:a.var
  ·simp
  have b0:=ho a0;have h3:=ok.2 a.v b0;have e:bV p vs a=vs.getD a.v 0:=(by unfold bV;rw[a0];rfl);rw[hv,e];simp only[if_true,show ¬(1:Int)=0 by omega,if_false,Bool.and_eq_true,decide_eq_true_eq,Int.toNat_natCast];exact⟨by omega,ez lv h3⟩
 intro i hi;unfold Go.Proofs.YtfhpibppblbgcaaGreatDoor.prem at hi
 cases a0:a.var<;>rw[a0]at hi<;>simp at hi
structure oV(p:aS)(ls vs:List Int)(ws:List ar)(e:dd)(r:Int×List ar):Prop where
 pu:kA p ls ws r
 ro:dw (nd r.2 r.1).kind=0
 le:(nd r.2 r.1).ag=br p vs e
 ex:dv r.2 r.1 e=true
def gR{ws:List ar}{a:dM}{l:Int}{li:List Int}(h:nd ws k=⟨if a.var then 1 else 0,l,a.v,b,c,li⟩):da ws k a=true:=by
 unfold da;rw[h]
 cases a.var<;>simp
def dm(lv:p.Lv)(ok:dX p vs){a:dM}(ho:zt5 vs a):0<=bV p vs a/\bV p vs a<p.n:=by
 obtain⟨k,hk,ek⟩:=zy5 lv ok.2 ho;omega
def eu(lv:p.Lv)(ok:dX p vs){e:dd}(ho:cX vs.length e):0<=br p vs e/\br p vs e<p.n:=by
 obtain⟨k,hk,ek⟩:=zv7 lv ok ho;omega
def mM(lv:p.Lv)(ok:dX p vs)(hv:bN p ls=vs){ws:List ar}(h:iK p ls ws){e:dd}(ho:cX vs.length e):oV p ls vs ws e (db p vs ws e):=by
 have hi:=ztw ho;unfold db
 by_cases h0:e.op<0
 ·rw[if_pos h0]
  obtain⟨h1,h2⟩:=iX lv ok hv h hi.1;refine⟨h1,by rw[h2];cases e.a.var<;>simp[dw],by rw[h2];unfold br;rw[if_pos h0],?_⟩;unfold dv;rw[if_pos h0];exact gR h2
 rw[if_neg h0];obtain⟨h1,h2⟩:=iX lv ok hv h hi.1;obtain⟨h3,h4⟩:=iX lv ok hv h1.gB (hi.2 (by omega));have ha:=dm lv ok hi.1;have hb:=dm lv ok (hi.2 (by omega));have hl:=h3.len;have c0:=h1.hH;have b0:=h3.hH;have ea:nd (bP p vs (bP p vs ws e.a).2 e.b).2 (bP p vs ws e.a).1=⟨if e.a.var then 1 else 0,bV p vs e.a,e.a.v,0,0,[]⟩:=(h3.nd c0).trans h2
 have ev:br p vs e=jn p (bV p vs e.a) (bV p vs e.b):=by unfold br;rw[if_neg h0]
 have hp:∀i∈Go.Proofs.YtfhpibppblbgcaaGreatDoor.prem (⟨2,br p vs e,e.op,(bP p vs ws e.a).1,(bP p vs (bP p vs ws e.a).2 e.b).1,[]⟩:ar),0<=i/\i<((bP p vs (bP p vs ws e.a).2 e.b).2.length:Int):=λi hi=>by
  simp only[Go.Proofs.YtfhpibppblbgcaaGreatDoor.prem,if_true,List.mem_cons,List.not_mem_nil,or_false]at hi;rcases hi with rfl|rfl
  ·omega
  exact b0
 have d0:=eu lv ok ho;have hj:=gY lv ha hb
 obtain⟨g1,g2,g3⟩:=fd (n:=⟨2,br p vs e,e.op,(bP p vs ws e.a).1,(bP p vs (bP p vs ws e.a).2 e.b).1,[]⟩) h3.gB (by simp) (by
  unfold follows bS;simp only[show ¬(2:Int)=0 by omega,show ¬(2:Int)=1 by omega,if_true,if_false,Bool.and_eq_true,decide_eq_true_eq];rw[ea,h4,ev];refine⟨by rw[<-ev];exact d0.2,by have:=ho.2.1;omega,?_,?_,hj.1,hj.2⟩
  ·cases e.a.var<;>simp[dw]
  cases e.b.var<;>simp[dw]) hp
 have g4:=g1.len;have a0:=h1.comp (h3.comp g1 (λhh=>g3 hh _ (by simp[Go.Proofs.YtfhpibppblbgcaaGreatDoor.prem]))) (λhh=>g3 (by omega) _ (by simp[Go.Proofs.YtfhpibppblbgcaaGreatDoor.prem]));refine⟨a0,by rw[g2];simp[dw],by rw[g2],?_⟩;unfold dv;rw[if_neg h0,g2];simp only[decide_true,Bool.true_and,Bool.and_eq_true];exact⟨gR ((g1.nd (by omega)).trans ea),gR ((g1.nd b0).trans h4)⟩
end
def gQ{p:aS}{ws t:List ar}{nv nc:Nat}(h:iK p ls ws)(hK:∀(k:Int) (l:List aa),(0<=k/\k<ws.length)->aT nv nc d l->cU d (ws++t) k l=cU d ws k l)(hk:0<=k/\k<ws.length){s:aa}(hs:eG nv nc s)(h1:aT nv nc d s.aX)(h2:aT nv nc d s.aJ):
  eY (cU d (ws++t)) (ws++t) k s=eY (cU d ws) ws k s:=by
 unfold eY;rw[de hk]
 by_cases a0:(nd ws k).kind=(s.kind:Int)
 ·have hp:=h.prem hk
  congr 1
  by_cases k5:s.kind=5
  ·simp only[k5,if_true]
   have hq:Go.Proofs.YtfhpibppblbgcaaGreatDoor.prem (nd ws k)=[(nd ws k).a,(nd ws k).b,(nd ws k).c]:=(by unfold Go.Proofs.YtfhpibppblbgcaaGreatDoor.prem;rw[if_neg (by omega),if_neg (by omega),if_pos (by omega)]);rw[hq]at hp;rw[ew h (hp _ (by simp)),hK _ _ (hp _ (by simp)) h1,hK _ _ (hp _ (by simp)) h2]
  by_cases k6:s.kind=6
  ·simp only[k6,show ¬(6:Nat)=5 by omega,if_true,if_false]
   have hq:Go.Proofs.YtfhpibppblbgcaaGreatDoor.prem (nd ws k)=[(nd ws k).a,(nd ws k).b]:=(by unfold Go.Proofs.YtfhpibppblbgcaaGreatDoor.prem;rw[if_neg (by omega),if_neg (by omega),if_neg (by omega),if_pos (by omega)]);rw[hq]at hp;rw[ew h (hp _ (by simp)),hK _ _ (hp _ (by simp)) h1]
  simp only[k5,k6,if_false];have hq:Go.Proofs.YtfhpibppblbgcaaGreatDoor.prem (nd ws k)=[(nd ws k).b]:=by
   unfold Go.Proofs.YtfhpibppblbgcaaGreatDoor.prem;rw[if_neg (by rcases hs with e|e|e|e<;>omega),if_pos (by rcases hs with e|e|e|e<;>omega)]
  rw[hq]at hp;rw[ew h (hp _ (by simp))]
 rw[decide_eq_false a0,Bool.false_and,Bool.false_and]
def nT{α:Type}{l:List α}{x:α}(h:i<l.length):l.getD i x∈l:=by
 rw[Qa,Qb h];exact List.getElem_mem h
def eS{p:aS}{ls:List Int}{ws t:List ar}{nv nc:Nat}(h:iK p ls ws):∀(d:Nat) (k:Int) (l:List aa),(0<=k/\k<ws.length)->aT nv nc d l->cU d (ws++t) k l=cU d ws k l
 |0,k,l,hk,_=>by unfold cU;rw[de hk]
 |d+1,k,l,hk,hs=>by
  unfold cU;rw[de hk]
  by_cases h7:(nd ws k).kind=7
  ·by_cases hl:(nd ws k).aU.length=l.length
   ·have hp:=h.prem hk
    have hq:Go.Proofs.YtfhpibppblbgcaaGreatDoor.prem (nd ws k)=(nd ws k).aU:=(by unfold Go.Proofs.YtfhpibppblbgcaaGreatDoor.prem;rw[if_neg (by omega),if_neg (by omega),if_neg (by omega),if_neg (by omega),if_pos h7]);rw[hq]at hp
    have e:((List.range l.length).all λi=>eY (cU d (ws++t)) (ws++t) ((nd ws k).aU.getD i 0) (l.getD i noS))=(List.range l.length).all λi=>eY (cU d ws) ws ((nd ws k).aU.getD i 0) (l.getD i noS):=iY λi hi=>by
     rw[List.mem_range]at hi;obtain⟨g1,-,g3,g4⟩:=hs _ (nT (x:=noS) hi);exact gQ h (λk l hk hs=>eS h d k l hk hs) (hp _ (nT (by omega))) g1 g3 g4
    rw[e]
   rw[decide_eq_false hl];simp
  rw[decide_eq_false h7];simp
section
variable{p:aS}
structure nJ(p:aS)(ls:List Int)(ws:List ar)(u:Int)(d:Nat)(s:aa)(r:Int×List ar):Prop where
 pu:kA p ls ws r
 kd:(nd r.2 r.1).kind=(s.kind:Int)
 le:(nd r.2 r.1).ag=u
 on:eY (cU d r.2) r.2 r.1 s=true
structure nI(p:aS)(ls:List Int)(ws:List ar)(u:Int)(d:Nat)(l:List aa)(r:Int×List ar):Prop where
 pu:kA p ls ws r
 kd:(nd r.2 r.1).kind=7
 le:(nd r.2 r.1).ag=u
 al:cU d r.2 r.1 l=true
def iW(lv:p.Lv)(hi:i<p.aj.length):0<=(p.aj.map λ(y:Nat)=>(y:Int)).getD i 0/\(p.aj.map λ(y:Nat)=>(y:Int)).getD i 0<p.n:=by
 obtain⟨k,hk,e⟩:=yz3 lv hi;omega
def mz(lv:p.Lv)(ok:dX p vs)(hv:bN p ls=vs)
  (IH:∀(ws:List ar) (l:List aa) (u:Int),iK p ls ws->aT vs.length p.aj.length d l->(0<=u/\u<p.n)->(∀m∈bz p vs d l u,bR p vs m=true)->nI p ls ws u d l (aF p vs d ws l u))
  {ws:List ar} (h:iK p ls ws) {u:Int} (hu:0<=u/\u<p.n) {s:aa} (hk:eG vs.length p.aj.length s) (he:cX vs.length s.e) (h1:aT vs.length p.aj.length d s.aX) (h2:aT vs.length p.aj.length d s.aJ)
  (hm:∀m∈aI (bz p vs d) p vs u s,bR p vs m=true):nJ p ls ws u d s (dt (aF p vs d) p vs u ws s):=by
 have a0:=mM lv ok hv h he;have d0:=eu lv ok he;have hj:=lv.jn hu d0;have b0:=gY lv hu d0;have vr:=a0.pu.hH;unfold dt;simp only;generalize db p vs ws s.e=v at*;generalize hL:jn p u (br p vs s.e)=L at*
 by_cases k5:s.kind=5
 ·rw[if_pos k5]
  have c0:aI (bz p vs d) p vs u s=bz p vs d s.aX L++bz p vs d s.aJ L:=(by unfold aI;rw[if_neg (by omega),if_pos (.inl k5),hL]);rw[c0]at hm;have b1:=IH v.2 s.aX L a0.pu.gB h1 hj (λm hm'=>hm m (List.mem_append_left _ hm'));generalize aF p vs d v.2 s.aX L=B1 at*;have b2:=IH B1.2 s.aJ L b1.pu.gB h2 hj (λm hm'=>hm m (List.mem_append_right _ hm'));generalize aF p vs d B1.2 s.aJ L=B2 at*;have r1:=b1.pu.hH;have r2:=b2.pu.hH;have l1:=b1.pu.len;have l2:=b2.pu.len;have e1:nd B2.2 v.1=nd v.2 v.1:=(b2.pu.nd (by omega)).trans (b1.pu.nd vr);have e2:nd B2.2 B1.1=nd B1.2 B1.1:=b2.pu.nd r1
  obtain⟨g1,g2,g3⟩:=fd (n:=⟨5,u,v.1,B1.1,B2.1,[]⟩) b2.pu.gB (by simp) (by
   unfold follows bS cJ;simp only[show ¬(5:Int)=0 by omega,show ¬(5:Int)=1 by omega,show ¬(5:Int)=2 by omega,show ¬(5:Int)=3 by omega,show ¬(5:Int)=4 by omega,if_true,if_false,Bool.and_eq_true,decide_eq_true_eq];rw[e1,e2,a0.ro,a0.le,b1.kd,b1.le,b2.kd,b2.le]
   exact⟨hu.2,⟨rfl,by simp[dw],b0.2,b0.1⟩,rfl,by simp[dw],b0.2,b0.1⟩) (λi hi=>by
   simp only[Go.Proofs.YtfhpibppblbgcaaGreatDoor.prem,show ¬(5:Int)=2 by omega,show ¬((5:Int)=3\/(5:Int)=4) by omega,if_true,if_false,List.mem_cons,List.not_mem_nil,or_false]at hi
   rcases hi with rfl|rfl|rfl<;>omega)
  have m1:v.1∈Go.Proofs.YtfhpibppblbgcaaGreatDoor.prem (⟨5,u,v.1,B1.1,B2.1,[]⟩:ar):=(by simp[Go.Proofs.YtfhpibppblbgcaaGreatDoor.prem]);have m2:B1.1∈Go.Proofs.YtfhpibppblbgcaaGreatDoor.prem (⟨5,u,v.1,B1.1,B2.1,[]⟩:ar):=(by simp[Go.Proofs.YtfhpibppblbgcaaGreatDoor.prem]);have m3:B2.1∈Go.Proofs.YtfhpibppblbgcaaGreatDoor.prem (⟨5,u,v.1,B1.1,B2.1,[]⟩:ar):=(by simp[Go.Proofs.YtfhpibppblbgcaaGreatDoor.prem]);have l3:=g1.len;have q2:=b2.pu.comp g1 (λhh=>g3 hh _ m3);have q1:=b1.pu.comp q2 (λhh=>g3 (by omega) _ m2);have q0:=a0.pu.comp q1 (λhh=>g3 (by omega) _ m1);generalize cO B2.2 ⟨5,u,v.1,B1.1,B2.1,[]⟩=r at*;refine⟨q0,by rw[g2,k5];rfl,by rw[g2],?_⟩;unfold eY;rw[g2];simp only[k5,if_true,Bool.and_eq_true,decide_eq_true_eq];obtain⟨t0,x0⟩:=q1.ext;obtain⟨t1,x1⟩:=q2.ext;obtain⟨t2,x2⟩:=g1.ext;refine⟨rfl,?_,?_,?_⟩
  ·rw[x0,ew a0.pu.gB vr];exact a0.ex
  ·rw[x1,eS b1.pu.gB d _ _ r1 h1];exact b1.al
  rw[x2,eS b2.pu.gB d _ _ r2 h2];exact b2.al
 by_cases k6:s.kind=6
 ·rw[if_neg k5,if_pos k6]
  have c0:aI (bz p vs d) p vs u s=bz p vs d s.aX L++bz p vs d s.aJ L:=(by unfold aI;rw[if_neg (by omega),if_pos (.inr k6),hL]);rw[c0]at hm;have b1:=IH v.2 s.aX L a0.pu.gB h1 hj (λm hm'=>hm m (List.mem_append_left _ hm'));generalize aF p vs d v.2 s.aX L=B1 at*;have r1:=b1.pu.hH;have l1:=b1.pu.len;have e1:nd B1.2 v.1=nd v.2 v.1:=b1.pu.nd vr
  obtain⟨g1,g2,g3⟩:=fd (n:=⟨6,u,v.1,B1.1,0,[]⟩) b1.pu.gB (by simp) (by
   unfold follows bS cJ;simp only[show ¬(6:Int)=0 by omega,show ¬(6:Int)=1 by omega,show ¬(6:Int)=2 by omega,show ¬(6:Int)=3 by omega,show ¬(6:Int)=4 by omega,show ¬(6:Int)=5 by omega,if_true,if_false,Bool.and_eq_true,decide_eq_true_eq];rw[e1,a0.ro,a0.le,b1.kd,b1.le]
   exact⟨hu.2,rfl,by simp[dw],b0.2,b0.1⟩) (λi hi=>by
   simp only[Go.Proofs.YtfhpibppblbgcaaGreatDoor.prem,show ¬(6:Int)=2 by omega,show ¬((6:Int)=3\/(6:Int)=4) by omega,show ¬(6:Int)=5 by omega,if_true,if_false,List.mem_cons,List.not_mem_nil,or_false]at hi
   rcases hi with rfl|rfl<;>omega)
  have m1:v.1∈Go.Proofs.YtfhpibppblbgcaaGreatDoor.prem (⟨6,u,v.1,B1.1,0,[]⟩:ar):=(by simp[Go.Proofs.YtfhpibppblbgcaaGreatDoor.prem]);have m2:B1.1∈Go.Proofs.YtfhpibppblbgcaaGreatDoor.prem (⟨6,u,v.1,B1.1,0,[]⟩:ar):=(by simp[Go.Proofs.YtfhpibppblbgcaaGreatDoor.prem]);have l3:=g1.len;have q1:=b1.pu.comp g1 (λhh=>g3 hh _ m2);have q0:=a0.pu.comp q1 (λhh=>g3 (by omega) _ m1);generalize cO B1.2 ⟨6,u,v.1,B1.1,0,[]⟩=r at*;refine⟨q0,by rw[g2,k6];rfl,by rw[g2],?_⟩;unfold eY;rw[g2];simp only[k6,show ¬(6:Nat)=5 by omega,if_true,if_false,Bool.and_eq_true,decide_eq_true_eq];obtain⟨t0,x0⟩:=q1.ext;obtain⟨t1,x1⟩:=g1.ext;refine⟨rfl,?_,?_⟩
  ·rw[x0,ew a0.pu.gB vr];exact a0.ex
  rw[x1,eS b1.pu.gB d _ _ r1 h1];exact b1.al
 rw[if_neg k5,if_neg k6]
 have e0:s.kind=3\/s.kind=4:=by rcases hk with e|e|e|e<;>omega
 have c0:aI (bz p vs d) p vs u s=[(s,L)]:=by unfold aI;rw[if_pos e0,hL]
 rw[c0]at hm;have hf:=hm (s,L) (by simp);unfold bR at hf;simp only at hf
 obtain⟨g1,g2,g3⟩:=fd (n:=⟨s.kind,u,s.x,v.1,0,[]⟩) a0.pu.gB (by simp only;omega) (by
  unfold follows bS;rcases e0 with k3|k4
  ·have hx:s.x<vs.length:=by rcases hk with e|e|e|e<;>omega
   have hr:=ok.2 s.x hx;rw[if_neg (by omega)]at hf;rw[show ((s.kind:Nat):Int)=3 by omega];simp only[dS,show ¬(3:Int)=0 by omega,show ¬(3:Int)=1 by omega,show ¬(3:Int)=2 by omega,if_true,if_false,Bool.and_eq_true,decide_eq_true_eq,Int.toNat_natCast];rw[hv,a0.ro,a0.le];exact⟨hu.2,by omega,rfl,aA lv d0 hj hr b0.2 hf,aA lv hu hj hr b0.1 hf⟩
  ·have hx:s.x<p.aj.length:=by rcases hk with e|e|e|e<;>omega
   have hr:=iW lv hx;rw[if_pos k4]at hf;rw[show ((s.kind:Nat):Int)=4 by omega];simp only[dS,show ¬(4:Int)=0 by omega,show ¬(4:Int)=1 by omega,show ¬(4:Int)=2 by omega,show ¬(4:Int)=3 by omega,if_true,if_false,Bool.and_eq_true,decide_eq_true_eq,Int.toNat_natCast];rw[a0.ro,a0.le]
   exact⟨hu.2,by simp;omega,rfl,aA lv d0 hj hr b0.2 hf,aA lv hu hj hr b0.1 hf⟩) (λi hi=>by
  have e:Go.Proofs.YtfhpibppblbgcaaGreatDoor.prem (⟨s.kind,u,s.x,v.1,0,[]⟩:ar)=[v.1]:=(by unfold Go.Proofs.YtfhpibppblbgcaaGreatDoor.prem;simp only;rw[if_neg (by omega),if_pos (by omega)]);rw[e]at hi;simp only[List.mem_singleton]at hi
  omega)
 have m1:v.1∈Go.Proofs.YtfhpibppblbgcaaGreatDoor.prem (⟨s.kind,u,s.x,v.1,0,[]⟩:ar):=by unfold Go.Proofs.YtfhpibppblbgcaaGreatDoor.prem;simp only;rw[if_neg (by omega),if_pos (by omega)];simp
 have q0:=a0.pu.comp g1 (λhh=>g3 hh _ m1);generalize cO v.2 ⟨s.kind,u,s.x,v.1,0,[]⟩=r at*;refine⟨q0,by rw[g2],by rw[g2],?_⟩;unfold eY;rw[g2];simp only[k5,k6,if_false,Bool.and_eq_true,decide_eq_true_eq];obtain⟨t0,x0⟩:=g1.ext;refine⟨trivial,trivial,?_⟩;rw[x0,ew a0.pu.gB vr];exact a0.ex
structure oU(p:aS)(ls:List Int)(ws:List ar)(u:Int)(d:Nat)(l:List aa)(r:List Int×List ar):Prop where
 gB:iK p ls r.2
 ext:∃t,r.2=ws++t
 len:r.1.length=l.length
 all:∀i,i<l.length->(0<=r.1.getD i 0/\r.1.getD i 0<r.2.length)/\(nd r.2 (r.1.getD i 0)).kind=((l.getD i noS).kind:Int)/\(nd r.2 (r.1.getD i 0)).ag=u/\eY (cU d r.2) r.2 (r.1.getD i 0) (l.getD i noS)=true
 new:r.2=ws\/((r.2.length:Int) - 1)∈r.1
def kW{nv nc d:Nat}{u:Int}{W:List ar->aa->Int×List ar}:∀(l:List aa) (ws:List ar),iK p ls ws->aT nv nc (d+1) l->(∀s∈l,∀ws,iK p ls ws->nJ p ls ws u d s (W ws s))->oU p ls ws u d l (bJ W ws l)
 |[],ws,h,_,_=>⟨h,⟨[],by simp[bJ]⟩,rfl,λi hi=>by simp at hi,.inl rfl⟩
 |s::l,ws,h,hs,hW=>by
  have h1:=hW s (by simp) ws h;have h2:=kW l (W ws s).2 h1.pu.gB (λs hs'=>hs s (by simp[hs'])) (λs hs'=>hW s (by simp[hs']));obtain⟨t1,e1⟩:=h1.pu.ext;obtain⟨t2,e2⟩:=h2.ext;have r1:=h1.pu.hH;have hl:(W ws s).2.length<=(bJ W (W ws s).2 l).2.length:=(by rw[e2];simp);refine⟨h2.gB,⟨t1++t2,by show (bJ W (W ws s).2 l).2=_;rw[e2,e1,List.append_assoc]⟩,by show ((W ws s).1::(bJ W (W ws s).2 l).1).length=_;rw[List.length_cons,List.length_cons,h2.len],λi hi=>?_,?_⟩
  ·cases i with
   |zero=>
    show (0<=(W ws s).1/\(W ws s).1<((bJ W (W ws s).2 l).2.length:Int))/\(nd (bJ W (W ws s).2 l).2 (W ws s).1).kind=(s.kind:Int)/\(nd (bJ W (W ws s).2 l).2 (W ws s).1).ag=u/\eY (cU d (bJ W (W ws s).2 l).2) (bJ W (W ws s).2 l).2 (W ws s).1 s=true;obtain⟨g1,-,g3,g4⟩:=hs s (by simp);refine⟨by omega,?_,?_,?_⟩
    ·rw[e2,de r1];exact h1.kd
    ·rw[e2,de r1];exact h1.le
    rw[e2,gQ h1.pu.gB (λk l hk hs=>eS h1.pu.gB d k l hk hs) r1 g1 g3 g4];exact h1.on
   |succ i=>exact h2.all i (by simpa using hi)
  rcases h2.new with n2|n2
  ·rcases h1.pu.new with n1|n1
   ·exact .inl (n2.trans n1)
   refine .inr ?_;show (((bJ W (W ws s).2 l).2.length:Int) - 1)∈(W ws s).1::(bJ W (W ws s).2 l).1;rw[n2,<-n1];simp
  exact .inr (List.mem_cons_of_mem _ n2)
def iC(lv:p.Lv)(ok:dX p vs)(hv:bN p ls=vs):∀(d:Nat) (ws:List ar) (l:List aa) (u:Int),iK p ls ws->aT vs.length p.aj.length d l->(0<=u/\u<p.n)->(∀m∈bz p vs d l u,bR p vs m=true)->nI p ls ws u d l (aF p vs d ws l u)
 |0,ws,l,u,h,hs,hu,_=>by
  have hs:l=[]:=hs
  obtain⟨g1,g2,g3⟩:=fd (n:=⟨7,u,0,0,0,[]⟩) h (by simp) (by
   unfold follows bS;simp only[show ¬(7:Int)=0 by omega,show ¬(7:Int)=1 by omega,show ¬(7:Int)=2 by omega,show ¬(7:Int)=3 by omega,show ¬(7:Int)=4 by omega,show ¬(7:Int)=5 by omega,show ¬(7:Int)=6 by omega,if_false,Bool.and_eq_true,decide_eq_true_eq,List.all_nil]
   exact⟨hu.2,trivial⟩) (λi hi=>by simp[Go.Proofs.YtfhpibppblbgcaaGreatDoor.prem]at hi)
  unfold aF;refine⟨g1,by rw[g2],by rw[g2],?_⟩;unfold cU;rw[g2,hs];simp
 |d+1,ws,l,u,h,hs,hu,hm=>by
  have hL:=kW (p:=p) (ls:=ls) (d:=d) (u:=u) (W:=dt (aF p vs d) p vs u) l ws h hs (λs hs' ws' h'=>by
   obtain⟨a1,a2,a3,a4⟩:=hs s hs'
   exact mz lv ok hv (iC lv ok hv d) h' hu a1 a2 a3 a4 (λm hm'=>hm m (List.mem_flatMap.2 ⟨s,hs',hm'⟩)))
  unfold aF;generalize bJ (dt (aF p vs d) p vs u) ws l=r at*
  have a0:∀i,i<l.length->dw ((l.getD i noS).kind:Int)=1:=λi hi=>by
   rcases(hs _ (nT (x:=noS) hi)).1 with e|e|e|e<;>unfold dw<;>rw[if_neg (by omega),if_pos (by omega)]
  have dW:∀k∈r.1,∃i,i<l.length/\k=r.1.getD i 0:=λk hk=>by
   obtain⟨i,hi,e⟩:=List.getElem_of_mem hk;exact⟨i,by rw[<-hL.len];exact hi,by rw[Qa,Qb hi];exact e.symm⟩
  have b0:Go.Proofs.YtfhpibppblbgcaaGreatDoor.prem (⟨7,u,0,0,0,r.1⟩:ar)=r.1:=(by simp[Go.Proofs.YtfhpibppblbgcaaGreatDoor.prem])
  obtain⟨g1,g2,g3⟩:=fd (n:=⟨7,u,0,0,0,r.1⟩) hL.gB (by simp) (by
   unfold follows bS;simp only[show ¬(7:Int)=0 by omega,show ¬(7:Int)=1 by omega,show ¬(7:Int)=2 by omega,show ¬(7:Int)=3 by omega,show ¬(7:Int)=4 by omega,show ¬(7:Int)=5 by omega,show ¬(7:Int)=6 by omega,if_false,Bool.and_eq_true,decide_eq_true_eq,List.all_eq_true];refine⟨hu.2,λk hk=>?_⟩;obtain⟨i,hi,rfl⟩:=dW k hk;obtain⟨a1,a2,a3,a4⟩:=hL.all i hi;rw[a2,a3]
   exact⟨a0 i hi,ez lv hu⟩) (λk hk=>by
   rw[b0]at hk;obtain⟨i,hi,rfl⟩:=dW k hk
   exact(hL.all i hi).1)
  rw[b0]at g3;obtain⟨t1,e1⟩:=hL.ext;obtain⟨t2,e2⟩:=g1.ext;have gr:=g1.hH;generalize cO r.2 ⟨7,u,0,0,0,r.1⟩=q at*;refine⟨⟨g1.gB,⟨t1++t2,by rw[e2,e1,List.append_assoc]⟩,gr,?_⟩,by rw[g2],by rw[g2],?_⟩
  ·rcases g1.new with n|n
   ·rcases hL.new with n2|n2
    ·exact .inl (n.trans n2)
    exfalso
    have h5:=g3 (by rw[n]) _ n2;rw[n]at gr;omega
   exact .inr n
  unfold cU;rw[g2];simp only[decide_true,Bool.true_and,Bool.and_eq_true,decide_eq_true_eq,List.all_eq_true,List.mem_range];refine⟨hL.len,λi hi=>?_⟩;obtain⟨a1,a2,a3,a4⟩:=hL.all i hi;obtain⟨b1,-,b3,b4⟩:=hs _ (nT (x:=noS) hi);rw[e2,gQ hL.gB (λk l hk hs=>eS hL.gB d k l hk hs) a1 b1 b3 b4];exact a4
end
end Fl
namespace Fl
structure RS.Lv(r:RS):Prop where
 le:r.au.length<=6
 ce:∀y∈r.aZ,y<r.au.length
 ch:∀y∈r.aY,y<r.au.length
def oq:RS.zero.Lv:=⟨by decide,λ_ h=>(by cases h),λ_ h=>(by cases h)⟩
def RS.Lv.same{r r':RS}(h:r.Lv)(e:r'.au=r.au/\r'.aZ=r.aZ/\r'.aY=r.aY):r'.Lv:=⟨by rw[e.1];exact h.le,by rw[e.1,e.2.1];exact h.ce,by rw[e.1,e.2.2];exact h.ch⟩
def RS.mw(r:RS)(s:aa):(r.put s).au=r.au/\(r.put s).aZ=r.aZ/\(r.put s).aY=r.aY:=by
 unfold RS.put;split<;>exact⟨rfl,rfl,rfl⟩
def RS.mL(r:RS):r.bE.au=r.au/\r.bE.aZ=r.aZ/\r.bE.aY=r.aY:=by
 unfold RS.bE;split<;>exact⟨rfl,rfl,rfl⟩
def RS.mu(r:RS):r.cd.au=r.au/\r.cd.aZ=r.aZ/\r.cd.aY=r.aY:=by
 unfold RS.cd;split<;>exact⟨rfl,rfl,rfl⟩
def RS.lx(r:RS)(n:List UInt8){r':RS}(h:r.bm n=some (x,r')):r'.au=r.au/\r'.aZ=r.aZ/\r'.aY=r.aY:=by
 unfold RS.bm at h
 split at h
 ·simp only[Option.some.injEq,Prod.mk.injEq]at h;rw[<-h.2];exact⟨rfl,rfl,rfl⟩
 split at h
 ·simp only[Option.some.injEq,Prod.mk.injEq]at h;rw[<-h.2];exact⟨rfl,rfl,rfl⟩
 split at h
 ·cases h
 simp only[Option.some.injEq,Prod.mk.injEq]at h;rw[<-h.2];exact⟨rfl,rfl,rfl⟩
def RS.mJ(r:RS)(a:Nat)(w:List (List UInt8)):(r.bQ a w).2.au=r.au/\(r.bQ a w).2.aZ=r.aZ/\(r.bQ a w).2.aY=r.aY:=by
 unfold RS.bQ
 split
 ·split
  ·exact⟨rfl,rfl,rfl⟩
  split
  ·split
   ·exact r.mu
   exact⟨rfl,rfl,rfl⟩
  exact r.mL
 ·split
  ·exact⟨rfl,rfl,rfl⟩
  split
  ·exact⟨rfl,rfl,rfl⟩
  exact⟨rfl,rfl,rfl⟩
 ·split
  ·exact⟨rfl,rfl,rfl⟩
  split
  ·split
   ·exact⟨rfl,rfl,rfl⟩
   split
   ·exact⟨rfl,rfl,rfl⟩
   exact r.mw _
  split
  ·exact⟨rfl,rfl,rfl⟩
  split
  ·exact⟨rfl,rfl,rfl⟩
  rename_i h
  split
  ·exact⟨rfl,rfl,rfl⟩
  have h1:=r.lx _ h;have h2:=RS.mw;exact⟨(h2 _ _).1.trans h1.1,(h2 _ _).2.1.trans h1.2.1,(h2 _ _).2.2.trans h1.2.2⟩
 exact⟨rfl,rfl,rfl⟩
def RS.Lv.head{r:RS}(h:r.Lv)(w:List (List UInt8)):(r.head w).2.Lv:=by
 unfold RS.head
 split
 ·split
  ·exact h.same ⟨rfl,rfl,rfl⟩
  exact h
 ·split
  ·exact h
  split
  ·exact h
  rename_i h6;have hl:=h.le;exact⟨by simp;omega,λy hy=>by have:=h.ce y hy;simp;omega,λy hy=>by have:=h.ch y hy;simp;omega⟩
 ·rename_i k n l
  have hp:=aR r.au l
  split
  ·split
   ·exact h
   exact h.same ⟨rfl,rfl,rfl⟩
  split
  ·exact h
  rename_i hn;have h0:¬ai r.au l<0:=λq=>hn (.inl q)
  split
  ·split
   ·exact h
   refine⟨h.le,λy hy=>?_,h.ch⟩;rcases List.mem_append.1 hy with h1|h1
   ·exact h.ce y h1
   simp only[List.mem_singleton]at h1;show y<r.au.length;omega
  split
  ·exact h
  refine⟨h.le,h.ce,λy hy=>?_⟩;rcases List.mem_append.1 hy with h1|h1
  ·exact h.ch y h1
  simp only[List.mem_singleton]at h1;show y<r.au.length;omega
 exact h
def RS.Lv.row{r:RS}(h:r.Lv)(w:List (List UInt8))(a:Nat):(r.row w a).2.Lv:=by
 unfold RS.row
 split
 ·exact h
 split
 ·exact h.head w
 exact h.same (r.mJ a w)
def kV:∀(ls:List (List UInt8)) (r:RS) (i:Nat),r.Lv->(rows r i ls).2.2.Lv
 |[],r,i,h=>h
 |[l],r,i,h=>by
  rw[rows]
  split
  ·split<;>exact h
  exact h
 |l::m::ls,r,i,h=>by
  rw[rows]
  split
  ·exact h
  split
  ·exact h
  exact kV (m::ls) _ (i+1) (h.row _ _)
def gE(s:List UInt8):(ak s).2.2.n<=6/\(∀y∈(ak s).2.2.cells,y<(ak s).2.2.n)/\∀y∈(ak s).2.2.aj,y<(ak s).2.2.n:=by
 unfold ak
 split
 ·exact⟨oq.le,oq.ce,oq.ch⟩
 have h:=kV (aE 10 s) RS.zero 0 oq;exact⟨h.le,h.ce,h.ch⟩
end Fl
namespace Fl
def RS.Tb(r' r:RS):Prop:=r'.au=r.au/\r'.aM=r.aM/\r'.aG=r.aG
def RS.mr(r:RS)(s:aa):(r.put s).Tb r:=by
 unfold RS.put;split<;>exact⟨rfl,rfl,rfl⟩
def RS.mH(r:RS):r.bE.Tb r:=by
 unfold RS.bE;split<;>exact⟨rfl,rfl,rfl⟩
def RS.mq(r:RS):r.cd.Tb r:=by
 unfold RS.cd;split<;>exact⟨rfl,rfl,rfl⟩
def RS.ly(r:RS)(n:List UInt8){r':RS}(h:r.bm n=some (x,r')):r'.Tb r:=by
 unfold RS.bm at h
 split at h
 ·simp only[Option.some.injEq,Prod.mk.injEq]at h;rw[<-h.2];exact⟨rfl,rfl,rfl⟩
 split at h
 ·simp only[Option.some.injEq,Prod.mk.injEq]at h;rw[<-h.2];exact⟨rfl,rfl,rfl⟩
 split at h
 ·cases h
 simp only[Option.some.injEq,Prod.mk.injEq]at h;rw[<-h.2];exact⟨rfl,rfl,rfl⟩
def RS.mG(r:RS)(a:Nat)(w:List (List UInt8)):(r.bQ a w).2.Tb r:=by
 unfold RS.bQ
 split
 ·split
  ·exact⟨rfl,rfl,rfl⟩
  split
  ·split
   ·exact r.mq
   exact⟨rfl,rfl,rfl⟩
  exact r.mH
 ·split
  ·exact⟨rfl,rfl,rfl⟩
  split
  ·exact⟨rfl,rfl,rfl⟩
  exact⟨rfl,rfl,rfl⟩
 ·split
  ·exact⟨rfl,rfl,rfl⟩
  split
  ·split
   ·exact⟨rfl,rfl,rfl⟩
   split
   ·exact⟨rfl,rfl,rfl⟩
   exact r.mr _
  split
  ·exact⟨rfl,rfl,rfl⟩
  split
  ·exact⟨rfl,rfl,rfl⟩
  rename_i h
  split
  ·exact⟨rfl,rfl,rfl⟩
  have h1:=r.ly _ h;have h2:=RS.mr;exact⟨(h2 _ _).1.trans h1.1,(h2 _ _).2.1.trans h1.2.1,(h2 _ _).2.2.trans h1.2.2⟩
 exact⟨rfl,rfl,rfl⟩
def RS.Lt(r:RS):Prop:=r.ae=true->bt r.au.length r.tab=true
def RS.Lt.head{r:RS}(h:r.ae=false)(w:List (List UInt8)):(r.head w).2.Lt:=by
 have h0:∀r':RS,r'.ae=r.ae->r'.Lt:=λr' e hb=>by rw[e,h]at hb;cases hb
 unfold RS.head
 split
 ·split
  ·rename_i hl
   exact λ_=>hl
  exact h0 _ rfl
 ·split
  ·exact h0 _ rfl
  split
  ·exact h0 _ rfl
  exact h0 _ rfl
 ·split
  ·split
   ·exact h0 _ rfl
   exact h0 _ rfl
  split
  ·exact h0 _ rfl
  split
  ·split
   ·exact h0 _ rfl
   exact h0 _ rfl
  split
  ·exact h0 _ rfl
  exact h0 _ rfl
 exact h0 _ rfl
def RS.Lt.row{r:RS}(h:r.Lt)(w:List (List UInt8))(a:Nat):(r.row w a).2.Lt:=by
 unfold RS.row
 split
 ·exact h
 rename_i a0
 split
 ·rename_i hh
  refine RS.Lt.head ?_ w
  cases hb:r.ae with
  |false=>rfl
  |true=>exact absurd (hh.trans hb.symm) a0
 rename_i hh;have hb:r.ae=true:=by
  cases hb:r.ae with
  |true=>rfl
  |false=>exact absurd ((Bool.eq_false_iff.2 hh).trans hb.symm) a0
 obtain⟨e1,e2,e3⟩:=r.mG a w;intro _;have h5:=h hb;unfold RS.tab at h5⊢;rw[e1,e2,e3];exact h5
def kU:∀(ls:List (List UInt8)) (r:RS) (i:Nat),r.Lt->(rows r i ls).2.2.Lt
 |[],r,i,h=>h
 |[l],r,i,h=>by
  rw[rows]
  split
  ·split<;>exact h
  exact h
 |l::m::ls,r,i,h=>by
  rw[rows]
  split
  ·exact h
  split
  ·exact h
  exact kU (m::ls) _ (i+1) (h.row _ _)
def eJ(s:List UInt8)(h0:(ak s).1=0):(ak s).2.2.Lv:=by
 obtain⟨h1,h2,h3⟩:=gE s;refine⟨h1,?_,h2,h3⟩;unfold ak at h0⊢
 by_cases hs:1200<s.length
 ·rw[if_pos hs]at h0;cases h0
 rw[if_neg hs]at h0⊢;obtain⟨-,hb,-,-⟩:=jq _ RS.zero 0 lL h0;exact RS.fT (kU (aE 10 s) RS.zero 0 (λh=>by cases h) hb)
end Fl
def zvx{p:Fl.aS}(h:p.Lv):Fl.dX p (Fl.start p):=by
 unfold Fl.start Fl.bN;refine⟨by simp,λi hi=>?_⟩;rw[Qa]
 by_cases hc:i<p.cells.length
 ·rw[List.getElem?_append_left (by simpa using hc),List.getElem?_map,Qb hc]
  have:=h.ce _ (List.getElem_mem hc);simp only[Option.map_some,Option.getD_some];omega
 rw[List.getElem?_append_right (by simp;omega),List.getElem?_replicate];have:=h.aM;simp at hi;rw[if_pos (by simp;omega)];exact this
namespace Fl
def jS{p:aS}(lv:p.Lv)(ho:p.Ok):∀(f:Nat) (vs:List Int),dX p vs->dX p (raise p f vs)/\(raise p f vs).take p.cells.length=vs.take p.cells.length
 |0,vs,h=>⟨h,rfl⟩
 |f+1,vs,h=>by
  unfold raise
  split
  ·rename_i vs' hr
   unfold js at hr
   split at hr
   ·rename_i m hm
    injection hr with hr;subst hr;have hp:=List.find?_some (p:=λm=>bU p m.1 && !bR p vs m) hm;have dW:=List.mem_of_find?_eq_some hm;rw[Bool.and_eq_true]at hp;have a0:=lv.aM;have b0:=zy6 lv h 4 p.aX (aM p).toNat (by rw[h.1];exact ho.aX) (by omega) m (by rw[show (((aM p).toNat:Nat):Int)=aM p by omega];exact dW);have h1:=(hZ lv h b0 hp.1 (by simpa using hp.2)).1;obtain⟨g1,g2⟩:=jS lv ho f _ h1;refine⟨g1,g2.trans ?_⟩;have hl:=hp.1;unfold bU at hl;rw[Bool.and_eq_true,decide_eq_true_eq,decide_eq_true_eq]at hl;rw[List.take_set,List.set_eq_of_length_le (by rw[List.length_take];omega)]
   cases hr
  exact⟨h,rfl⟩
def iV{p:aS}(lv:p.Lv)(ho:p.Ok):dX p (bI p)/\bN p ((bI p).drop p.cells.length)=bI p:=by
 obtain⟨h1,h2⟩:=jS lv ho 25 (start p) (zvx lv);refine⟨h1,?_⟩;have e:(start p).take p.cells.length=p.cells.map (λ(x:Nat)=>(x:Int)):=by
  unfold start bN;rw[List.take_append_of_le_length (by simp),List.take_of_length_le (by simp)]
 show p.cells.map (λ(x:Nat)=>(x:Int))++(bI p).drop p.cells.length=bI p;rw[<-e,<-h2];exact List.take_append_drop _ _
def aa.Fit(s:aa):Prop:=0<s.aq/\(s.kind=3\/s.kind=4->s.aX=[]/\s.aJ=[])
def dP:Nat->List aa->Prop
 |0,_=>True
 |d+1,l=>∀s∈l,s.Fit/\dP d s.aX/\dP d s.aJ
def gp{p:aS}{vs:List Int}:∀(d:Nat) (l:List aa) (u:Int),dP d l->∀m∈bz p vs d l u,0<m.1.aq
 |0,_,_,_,m,hm=>by cases hm
 |d+1,l,u,h,m,hm=>by
  obtain⟨s,hs,hm⟩:=List.mem_flatMap.1 (show m∈l.flatMap (aI (bz p vs d) p vs u) from hm);obtain⟨h1,h2,h3⟩:=h s hs;unfold aI at hm
  split at hm
  ·rw[List.mem_singleton]at hm
   rw[hm];exact h1.1
  split at hm
  ·rcases List.mem_append.1 hm with hm|hm
   ·exact gp d _ _ h2 m hm
   exact gp d _ _ h3 m hm
  cases hm
def mo{p:aS}(hl:dP 4 p.aX)(h:cf p vs=0):∀m∈bz p vs 4 p.aX (aM p),bR p vs m=true:=λm hm=>by
 unfold cf at h
 split at h
 ·rename_i m' hm'
  have:=gp 4 p.aX (aM p) hl m' (List.mem_of_find?_eq_some hm');omega
 rename_i hn;rw[List.find?_eq_none]at hn;have:=hn m hm;simpa using this
def jR{l:List Int}{v:Int}(h:v∈l):∃i,i<l.length/\l.getD i 0=v:=by
 obtain⟨i,hi,e⟩:=List.getElem_of_mem h;exact⟨i,hi,by rw[Qa,Qb hi];exact e⟩
def jQ{p:aS}(lv:p.Lv)(ho:p.Ok)(hl:dP 4 p.aX)(h0:(bH p).1=0):check p (bH p).2.1 (bH p).2.2=(0,-1)/\cU 4 (bH p).2.2 (((bH p).2.2.length:Int) - 1) p.aX=true:=by
 unfold bH at h0⊢
 by_cases hd:0<cf p (bI p)
 ·rw[if_pos hd]at h0;simp only at h0;omega
 rw[if_neg hd];obtain⟨hv,b0⟩:=iV lv ho;have hB:=iC lv hv b0 4 [] p.aX (aM p) (iK.nil _ _) (by rw[hv.1];exact ho.aX) lv.aM (mo hl (by omega));simp only;generalize aF p (bI p) 4 [] p.aX (aM p)=r at*;have hr:r.1=(r.2.length:Int) - 1:=by
  rcases hB.pu.new with n|n
  ·have:=hB.pu.hH
   rw[n]at this;simp at this;omega
  exact n
 have a0:cU 4 r.2 ((r.2.length:Int) - 1) p.aX=true:=by rw[<-hr];exact hB.al
 refine⟨?_,a0⟩;unfold check;rw[if_neg,dO _ _ (λj hj=>by rw[(hB.pu.gB j hj).2.1];rfl)]
 ·simp only
  rw[a0];rfl
 rintro(h|h)
 ·exact h (by rw[List.length_drop,hv.1];omega)
 obtain⟨v,hm,hc⟩:=List.any_eq_true.1 h;obtain⟨i,hi,e⟩:=jR (List.mem_of_mem_drop hm);have:=hv.2 i hi;have:=of_decide_eq_true hc;omega
structure RS.Pos(r:RS):Prop where
 bC:∀d,dP d r.bC
 fr:∀f∈r.fr,(0<f.aq/\(f.kind=5\/f.kind=6))/\(∀d,dP d f.first)/\∀d,dP d f.fm
def aB.fit{f:aB}(h:0<f.aq/\(f.kind=5\/f.kind=6)):f.done.Fit:=⟨h.1,λhk=>by have e:f.done.kind=f.kind:=rfl;omega⟩
def dP.snoc{l:List aa}(h:∀d,dP d l){s:aa}(hs:s.Fit)(h1:∀d,dP d s.aX)(h2:∀d,dP d s.aJ):∀d,dP d (l++[s])
 |0=>trivial
 |d+1=>λx hx=>by
  rcases List.mem_append.1 hx with hx|hx
  ·exact h (d+1) x hx
  rw[List.mem_singleton]at hx;rw[hx];exact⟨hs,h1 d,h2 d⟩
def dP.nil:∀d,dP d []
 |0=>trivial
 |d+1=>λx hx=>by cases hx
def nH:RS.zero.Pos:=⟨dP.nil,λf hf=>by cases hf⟩
def RS.Pos.put{r:RS}(h:r.Pos){s:aa}(hs:s.Fit)(h1:∀d,dP d s.aX)(h2:∀d,dP d s.aJ):(r.put s).Pos:=by
 unfold RS.put
 split
 ·exact⟨dP.snoc h.bC hs h1 h2,h.fr⟩
 rename_i f fs hf;have a0:=h.fr;rw[hf]at a0;have h0:=a0 f (by simp);refine⟨h.bC,λg hg=>?_⟩;rcases List.mem_cons.1 hg with rfl|hg
 ·split
  ·exact⟨h0.1,h0.2.1,dP.snoc h0.2.2 hs h1 h2⟩
  exact⟨h0.1,dP.snoc h0.2.1 hs h1 h2,h0.2.2⟩
 exact a0 g (by simp[hg])
def RS.Pos.bE{r:RS}(h:r.Pos):r.bE.Pos:=by
 unfold RS.bE
 split
 ·exact h
 ·rename_i f hf
  have a0:=h.fr;rw[hf]at a0;have h0:=a0 f (by simp);exact⟨dP.snoc (s:=f.done) h.bC (aB.fit h0.1) h0.2.1 h0.2.2,λg hg=>by cases hg⟩
 rename_i f g fs hf;have a0:=h.fr;rw[hf]at a0;have h0:=a0 f (by simp);have h9:=a0 g (by simp);refine⟨h.bC,λg' hg=>?_⟩;rcases List.mem_cons.1 hg with rfl|hg
 ·split
  ·exact⟨h9.1,h9.2.1,dP.snoc (s:=f.done) h9.2.2 (aB.fit h0.1) h0.2.1 h0.2.2⟩
  exact⟨h9.1,dP.snoc (s:=f.done) h9.2.1 (aB.fit h0.1) h0.2.1 h0.2.2,h9.2.2⟩
 exact a0 g' (by simp[hg])
def RS.Pos.cd{r:RS}(h:r.Pos):r.cd.Pos:=by
 unfold RS.cd
 split
 ·exact h
 rename_i f fs hf;have a0:=h.fr;rw[hf]at a0;have h0:=a0 f (by simp);refine⟨h.bC,λg hg=>?_⟩;rcases List.mem_cons.1 hg with rfl|hg
 ·exact h0
 exact a0 g (by simp[hg])
def RS.Pos.same{r r':RS}(h:r.Pos)(e:r'.bC=r.bC/\r'.fr=r.fr):r'.Pos:=⟨by rw[e.1];exact h.bC,by rw[e.2];exact h.fr⟩
def RS.lz(r:RS)(n:List UInt8){r':RS}(h:r.bm n=some (x,r')):r'.bC=r.bC/\r'.fr=r.fr/\r'.ae=r.ae:=by
 unfold RS.bm at h
 split at h
 ·simp only[Option.some.injEq,Prod.mk.injEq]at h;rw[<-h.2];exact⟨rfl,rfl,rfl⟩
 split at h
 ·simp only[Option.some.injEq,Prod.mk.injEq]at h;rw[<-h.2];exact⟨rfl,rfl,rfl⟩
 split at h
 ·cases h
 simp only[Option.some.injEq,Prod.mk.injEq]at h;rw[<-h.2];exact⟨rfl,rfl,rfl⟩
def RS.Pos.bQ{r:RS}(h:r.Pos){a:Nat}(ha:0<a)(w:List (List UInt8)):(r.bQ a w).2.Pos:=by
 unfold RS.bQ
 split
 ·split
  ·exact h
  split
  ·split
   ·exact h.cd
   exact h
  exact h.bE
 ·split
  ·exact h
  split
  ·exact h
  refine⟨h.bC,λg hg=>?_⟩;rcases List.mem_cons.1 hg with rfl|hg
  ·exact⟨⟨ha,by show (if _ then 5 else 6)=5\/(if _ then 5 else 6)=6;split<;>simp⟩,dP.nil,dP.nil⟩
  exact h.fr g hg
 ·split
  ·exact h
  split
  ·split
   ·exact h
   split
   ·exact h
   exact h.put ⟨ha,λ_=>⟨rfl,rfl⟩⟩ dP.nil dP.nil
  split
  ·exact h
  split
  ·exact h
  rename_i hh
  split
  ·exact h
  have h1:=r.lz _ hh;exact(h.same ⟨h1.1,h1.2.1⟩).put ⟨ha,λ_=>⟨rfl,rfl⟩⟩ dP.nil dP.nil
 exact h
def RS.gP(r:RS)(w:List (List UInt8)):(r.head w).2.bC=r.bC/\(r.head w).2.fr=r.fr:=by
 unfold RS.head
 repeat' split
 all_goals exact⟨rfl,rfl⟩
def RS.Pos.row{r:RS}(h:r.Pos)(w:List (List UInt8)){a:Nat}(ha:0<a):(r.row w a).2.Pos:=by
 unfold RS.row
 split
 ·exact h
 split
 ·exact h.same (r.gP w)
 exact h.bQ ha w
def jP:∀(ls:List (List UInt8)) (r:RS) (i:Nat),r.Pos->(rows r i ls).2.2.Pos
 |[],r,i,h=>h
 |[l],r,i,h=>by
  rw[rows]
  split
  ·split<;>exact h
  exact h
 |l::m::ls,r,i,h=>by
  rw[rows]
  split
  ·exact h
  split
  ·exact h
  exact jP (m::ls) _ (i+1) (h.row _ (by omega))
def jj(s:List UInt8)(d:Nat):dP d (ak s).2.2.aX:=by
 unfold ak
 split
 ·exact nH.bC d
 exact(jP (aE 10 s) RS.zero 0 nH).bC d
end Fl
open Go.RowKit
section
variable{n q1 q2:Nat}
def yx7(hh:Fl.dg s=3)(h3:3<=s.length)(hb:(Fl.dF s 3 0 4).2.1<0):Fl.decode s=(([],[]),false,(Fl.dF s 3 0 4).2.2):=by
 have a0:=Fl.dJ s 3 h3;unfold Fl.decode;rw[hh,if_neg (by decide)];simp only;unfold Fl.dF at*
 by_cases h1:(Fl.num s 3).2.1<0
 ·rw[if_pos h1,if_pos h1]
 rw[if_neg h1]at hb;rw[if_neg h1,if_neg h1]
 by_cases h2:(Fl.num s 3).1<0\/4<(Fl.num s 3).1
 ·rw[if_pos h2,if_pos (by omega)];rfl
 rw[if_neg h2]at hb;exact absurd hb h1
def zq4(hh:Fl.dg s=3)(hn:Fl.num s 3=((n:Int),(q1:Int),0))(a0:n<=4):
  Fl.decode s=(let l:=Fl.cZ s q1 n
   if l.2.1<0 then(([],[]),false,l.2.2) else
   let m:=Fl.num s l.2.1.toNat
   if m.2.1<0 then(([],[]),false,m.2.2) else
   if m.1<1\/200<m.1 then(([],[]),false,l.2.1) else
   let r:=Fl.cK s m.1.toNat 0 m.2.1.toNat [] []
   if 0<=r.2.2.2 then(([],[]),false,r.2.2.2) else
   if r.2.2.1<s.length then(([],[]),false,r.2.2.1) else
   if 0<=Fl.bh r.1 then(([],[]),false,r.2.1.getD (Fl.bh r.1).toNat 0) else((l.1,r.1),true,0)):=by
 unfold Fl.decode;rw[hh,if_neg (by decide)];simp only[hn];rw[if_neg (by omega),if_neg (by omega)];rfl
def yx8(hh:Fl.dg s=3)(hn:Fl.num s 3=((n:Int),(q1:Int),0))(a0:n<=4)(hl:(Fl.cZ s q1 n).2.1<0):Fl.decode s=(([],[]),false,(Fl.cZ s q1 n).2.2):=by
 rw[zq4 hh hn a0];simp only;rw[if_pos hl]
def yx9(hh:Fl.dg s=3)(hn:Fl.num s 3=((n:Int),(q1:Int),0))(a0:n<=4)(hl:Fl.cZ s q1 n=(ls,(q2:Int),z))(b0:q2<=s.length)(hm:(Fl.dF s q2 1 200).2.1<0):Fl.decode s=(([],[]),false,(Fl.dF s q2 1 200).2.2):=by
 rw[zq4 hh hn a0];simp only[hl,Int.toNat_natCast];rw[if_neg (by omega)];unfold Fl.dF at*
 by_cases h1:(Fl.num s q2).2.1<0
 ·rw[if_pos h1,if_pos h1]
 rw[if_neg h1]at hm;rw[if_neg h1,if_neg h1]
 by_cases h2:(Fl.num s q2).1<1\/200<(Fl.num s q2).1
 ·rw[if_pos h2,if_pos h2]
 rw[if_neg h2]at hm;exact absurd hm h1
def ztv(s:List UInt8)(ls:List Int)(M q0:Nat):(List Int×List Fl.ar)×Bool×Int:=
 let r:=Fl.cK s M 0 q0 [] []
 if 0<=r.2.2.2 then(([],[]),false,r.2.2.2) else
 if r.2.2.1<s.length then(([],[]),false,r.2.2.1) else
 if 0<=Fl.bh r.1 then(([],[]),false,r.2.1.getD (Fl.bh r.1).toNat 0) else((ls,r.1),true,0)
def yu2(hh:Fl.dg s=3)(hn:Fl.num s 3=((n:Int),(q1:Int),0))(a0:n<=4)(hl:Fl.cZ s q1 n=(ls,(q2:Int),z))(hm:Fl.num s q2=((M:Int),(q0:Int),0))(h1:1<=M)(h2:M<=200):Fl.decode s=ztv s ls M q0:=by
 rw[zq4 hh hn a0];simp only[hl,Int.toNat_natCast,hm];rw[if_neg (by omega),if_neg (by omega),if_neg (by omega)];rfl
end
section
variable{b:Nat}{lv:Value}{k:Nat}{nv:Value}
def PL.nG(h:PL s M q0 w b P0 lv ls wr k q sv nv st acc lvs)(hk:k<M)(hb:(Fl.one s q k).2.1<0):ztv s ls M q0=(([],[]),false,(Fl.one s q k).2.2):=by
 have a0:=Fl.jD s q k h.hq;have hr:Fl.cK s M 0 q0 [] []=(acc,st,(q:Int),(Fl.one s q k).2.2):=by
  rw[h.eP,show M - k=(M - (k+1))+1 from by omega];simp only[Fl.cK];rw[if_pos hb]
 unfold ztv;simp only[hr];rw[if_pos (by omega)]
def PL.bE(h:PL s M q0 w b P0 lv ls wr k q sv nv st acc lvs)(hk:¬k<M):ztv s ls M q0=if q<s.length then(([],[]),false,(q:Int)) else if 0<=Fl.bh acc then(([],[]),false,st.getD (Fl.bh acc).toNat 0) else((ls,acc),true,0):=by
 have a0:k=M:=by have:=h.hk;omega
 have hr:Fl.cK s M 0 q0 [] []=(acc,st,(q:Int),-1):=by
  rw[h.eP,a0,Nat.sub_self];rfl
 unfold ztv;simp only[hr];rw[if_neg (by decide)]
 by_cases h1:q<s.length
 ·rw[if_pos (by omega),if_pos h1]
 rw[if_neg (by omega),if_neg h1]
end
structure PC(w:World)(b P0:Nat)(lv:Value)(wr:World)(q:Nat)(s34 nc1:Value)(fam:List (Value×List Int))(sv nv:Value)(n1 n2:Nat)(xs ys:List Value):Prop where
 hl:Li (P0+1) wr fam sv nv n1 n2 xs ys
 c0:wr.cell? (Aq P0 0)=some lv
 c1:wr.cell? (Aq P0 1)=some nc1
 d0:wr.cell? (Aq w.heap.size 0)=some Zq
 d1:wr.cell? (Aq w.heap.size 1)=some Zq
 f0:∀j,wr.frozen? (Aq w.heap.size j)=false
 f1:∀j,wr.frozen? (Aq P0 j)=false
 fb:∀j,wr.frozen? (Aq b j)=false
 fr:Fr w wr b
 a1:wr.cell? (Aq b 1)=some (Iq (q:Int))
 jF:wr.cell? (Aq b 34)=some s34
 hR:w.heap.size<P0
 hP:P0<wr.heap.size
 hb:b<w.heap.size
section
variable{b:Nat}{lv:Value}{s34 nc1:Value}{fam:List (Value×List Int)}{nv:Value}{n1 n2:Nat}{xs ys:List Value}
def PC.own(h:PC w b P0 lv wr q s34 nc1 fam sv nv n1 n2 xs ys){row:Option Nat}(g:wr.grownBy w' row)(a0:∀k,row=some k->P0+1<=k){n1' n2':Nat}{xs' ys':List Value}{fam':List (Value×List Int)}(hl:Li (P0+1) w' fam' sv' nv' n1' n2' xs' ys'):PC w b P0 lv w' q s34 nc1 fam' sv' nv' n1' n2' xs' ys':=by
 have hR:=h.hR;have hb:=h.hb;have hP:=h.hP
 have ne:∀k,k<=P0->some k≠row:=λk hk e=>by have:=a0 k e.symm;omega
 have fz:∀(N j:Nat),N<wr.heap.size->N<=P0->w'.frozen? (Aq N j)=wr.frozen? (Aq N j):=λN j hN hk=>Qd (w:=wr) (a:=(Aq N j)) (g.block N hN (ne N hk));exact⟨hl,g.cell h.c0 (ne _ (Nat.le_refl _)),g.cell h.c1 (ne _ (Nat.le_refl _)),g.cell h.d0 (ne _ (by show w.heap.size<=P0;omega)),g.cell h.d1 (ne _ (by show w.heap.size<=P0;omega)),λj=>(fz _ j (by omega) (by omega)).trans (h.f0 j),λj=>(fz _ j hP (by omega)).trans (h.f1 j),λj=>(fz _ j (by omega) (by omega)).trans (h.fb j),h.fr.dT g hb (λk e=>by have:=a0 k e;omega),g.cell h.a1 (ne _ (by show b<=P0;omega)),g.cell h.jF (ne _ (by show b<=P0;omega)),hR,Qj hP g.size,hb⟩
def PC.alloc(h:PC w b P0 lv wr q s34 nc1 fam sv nv n1 n2 xs ys)(o:Obj):PC w b P0 lv (wr.alloc o) q s34 nc1 fam sv nv n1 n2 xs ys:=
 h.own (World.grownBy_alloc wr o none) (λk e=>by cases e) (h.hl.stay (Xa.alloc _ _ _))
def PC.drew(h:PC w b P0 lv wr q s34 nc1 fam sv nv n1 n2 xs ys):PC w b P0 lv wr.drew q s34 nc1 fam sv nv n1 n2 xs ys:=
 h.own (w':=wr.drew) (row:=none) ⟨rfl,rfl,rfl,Nat.le_refl _,λ_ _ _=>rfl⟩ (λk e=>by cases e) (h.hl.stay (w':=wr.drew) ⟨Nat.le_refl _,λ_ _ _=>rfl⟩)
def PC.below(h:PC w b P0 lv wr q s34 nc1 fam sv nv n1 n2 xs ys)(hb:Bq wr w'):PC w b P0 lv w' q s34 nc1 fam sv nv n1 n2 xs ys:=
 h.own (row:=none) ⟨hb.os,hb.tape,hb.output,hb.size,λk hk _=>hb.block k hk⟩ (λk e=>by cases e) (h.hl.stay (Xa.below hb))
def PC.first(h:PC w b P0 lv wr q s34 nc1 fam sv nv n1 n2 xs ys){sv':Value}{n1':Nat}{xs':List Value}(ho:w'.ownsRow (P0+1) 3 1 sv' n1' xs')(hg:wr.grownBy w' sv.ownBlock)(hw:sv'.ownBlock=sv.ownBlock\/sv'.ownBlock=some wr.heap.size):PC w b P0 lv w' q s34 nc1 fam sv' nv n1' n2 xs' ys:=
 h.own hg (λk e=>(h.hl.hs.lt k e).1) (h.hl.first ho hg hw)
def PC.second(h:PC w b P0 lv wr q s34 nc1 fam sv nv n1 n2 xs ys){nv':Value}{n2':Nat}{ys':List Value}(ho:w'.ownsRow (P0+1) 176 6 nv' n2' ys')(hg:wr.grownBy w' nv.ownBlock)(hw:nv'.ownBlock=nv.ownBlock\/nv'.ownBlock=some wr.heap.size):PC w b P0 lv w' q s34 nc1 fam sv nv' n1 n2' xs ys':=
 h.own hg (λk e=>(h.hl.hn.lt k e).1) (h.hl.second ho hg hw)
def PC.add(h:PC w b P0 lv wr q s34 nc1 fam sv nv n1 n2 xs ys){lvn:Value}{l:List Int}{N:Nat}(hi:Zv wr.heap.size wr lvn l)(hf:∀b,lvn.ownBlock=some b->N<=b)(a0:∀b,sv.ownBlock=some b->b<N)(b0:∀b,nv.ownBlock=some b->b<N)(hN:P0+1<=N):PC w b P0 lv wr q s34 nc1 (fam++[(lvn,l)]) sv nv n1 n2 xs ys:=
 ⟨h.hl.add hi hf a0 b0 hN,h.c0,h.c1,h.d0,h.d1,h.f0,h.f1,h.fb,h.fr,h.a1,h.jF,h.hR,h.hP,h.hb⟩
def PC.move(h:PC w b P0 lv wr q s34 nc1 fam sv nv n1 n2 xs ys)(m:Mv wr w' b){q':Nat}(c:w'.cell? (Aq b 1)=some (Iq (q':Int))):PC w b P0 lv w' q' s34 nc1 fam sv nv n1 n2 xs ys:=by
 have hR:=h.hR;have hb:=h.hb;have hP:=h.hP
 have n1:some P0≠some b:=by simp;omega
 have n2:some w.heap.size≠some b:=by simp;omega
 have fz:∀(N j:Nat),N<wr.heap.size->some N≠some b->w'.frozen? (Aq N j)=wr.frozen? (Aq N j):=λN j hN a0=>Qd (w:=wr) (a:=(Aq N j)) (m.g.block N hN a0);exact⟨h.hl.stay (Xa.grown m.g (λk e=>by injection e with e;omega)),m.g.cell h.c0 n1,m.g.cell h.c1 n1,m.g.cell h.d0 n2,m.g.cell h.d1 n2,λj=>(fz _ j (by omega) n2).trans (h.f0 j),λj=>(fz _ j hP n1).trans (h.f1 j),λj=>(m.f j).trans (h.fb j),h.fr.trans m.fr,c,(m.o 34 (by decide)).trans h.jF,hR,Qj hP m.g.size,hb⟩
def PC.lA(h:PC w b P0 lv wr q s34 nc1 fam sv nv n1 n2 xs ys)(u:Value):PC w b P0 lv (wr.setCell (Aq b 34) u) q u nc1 fam sv nv n1 n2 xs ys:=by
 have hR:=h.hR;have hb:=h.hb;have g:=Xo wr b 34 u
 have n1:some P0≠some b:=by simp;omega
 have n2:some w.heap.size≠some b:=by simp;omega
 exact⟨h.hl.stay (Xa.grown g (λk e=>by injection e with e;omega)),g.cell h.c0 n1,g.cell h.c1 n1,g.cell h.d0 n2,g.cell h.d1 n2,λj=>(World.frozen?_setCell _ _ _ _).trans (h.f0 j),λj=>(World.frozen?_setCell _ _ _ _).trans (h.f1 j),λj=>(World.frozen?_setCell _ _ _ _).trans (h.fb j),h.fr.trans (Fr.lA _ _ _),(Yf (by decide)).trans h.a1,Ud h.jF,hR,by simpa [World.setCell] using h.hP,hb⟩
def PC.ni(h:PC w b P0 lv wr q s34 nc1 fam sv nv n1 n2 xs ys)(u:Value):PC w b P0 lv (wr.setCell (Aq P0 1) u) q s34 u fam sv nv n1 n2 xs ys:=by
 have hR:=h.hR;have hb:=h.hb;have g:=Xo wr P0 1 u
 have n1:some b≠some P0:=by simp;omega
 have n2:some w.heap.size≠some P0:=by simp;omega
 exact⟨h.hl.stay (Xa.grown g (λk e=>by injection e with e;omega)),(Yf (by decide)).trans h.c0,Ud h.c1,g.cell h.d0 n2,g.cell h.d1 n2,λj=>(World.frozen?_setCell _ _ _ _).trans (h.f0 j),λj=>(World.frozen?_setCell _ _ _ _).trans (h.f1 j),λj=>(World.frozen?_setCell _ _ _ _).trans (h.fb j),h.fr.dT g hb (λk e=>by injection e with e;omega),g.cell h.a1 n1,g.cell h.jF n1,hR,by simpa [World.setCell] using h.hP,hb⟩
end
section
variable{b:Nat}{lv:Value}{k:Nat}{nv:Value}
def PL.pc(h:PL s M q0 w b P0 lv ls wr k q sv nv st acc lvs):PC w b P0 lv wr q sv nv ((lv,ls)::Vu acc lvs) sv nv k k (st.map (Value.int .i64)) (flat acc lvs):=
 ⟨h.hl,h.c0,h.c1,h.d0,h.d1,h.f0,h.f1,h.fb,h.fr,h.a1,h.jF,h.hR,h.hP,h.hb⟩
def PL.step(h:PL s M q0 w b P0 lv ls wr k q sv nv st acc lvs)(b0:k<M){nd:Fl.ar}{af:Nat}(ho:Fl.one s q k=(nd,(af:Int),z))(a0:af<=s.length){lvn:Value}
  (hc:PC w b P0 lv w' af sv' nv' (((lv,ls)::Vu acc lvs)++[(lvn,nd.aU)]) sv' nv' (k+1) (k+1) (st.map (Value.int .i64)++[Iq (q:Int)]) (flat acc lvs++Yh nd lvn)):
  PL s M q0 w b P0 lv ls w' (k+1) af sv' nv' (st++[(q:Int)]) (acc++[nd]) (lvs++[lvn]):=by
 have bj:lvs.length=acc.length:=by rw[h.eL,h.fN]
 have aQ:Fl.fS k nd:=by
  have:=Fl.kC s q k h.hq (by rw[ho];simp only;omega);rw[ho]at this;exact this
 refine⟨by omega,a0,by simp[h.cG],by simp[h.eL],by simp[h.fN],?_,Fl.jl h.aQ (by rw[h.eL];exact aQ),?_,hc.c0,hc.c1,hc.d0,hc.d1,hc.f0,hc.f1,hc.fb,hc.fr,hc.a1,hc.jF,hc.hR,hc.hP,hc.hb⟩
 ·rw[h.eP,show M - k=(M - (k+1))+1 from by omega];simp only[Fl.cK,ho,Int.toNat_natCast];rw[if_neg (by omega)]
 rw[zv1 _ _ _ _ bj,zr0 _ _ _ _ bj,List.map_append];exact hc.hl
end
def za1{o:Obj}{e:TypeId}{x:Value}:∀j u,[x][j]?=some u->((w.alloc o).alloc (.cells #[x] e)).cell? (((Aq (w.heap.size+1) 0):Addr).add j)=some u:=by
 intro j u hj;have:=zy7 (w:=w.alloc o) (e:=e) j u hj
 rwa [World.size_alloc]at this
def Tryz.infoNode:(Tryz.prog.info? 176).map (λi=>(i.zero,i.size,i.bytes))=some (some (.agg #[Iq 0,Iq 0,Iq 0,Iq 0,Iq 0,Zq]),6,64):=by kernel_rfl
end Go.Proofs.YtfhpibppblbgcaaGreatDoor
