import Derived.Test.YtjekbnmnjeoagaaGreatDoorM10
import Derived.Test.YtjekbnmnjeoagaaGreatDoorM16
set_option linter.all false
set_option maxRecDepth 100000
set_option maxHeartbeats 40000000
namespace Go.Proofs.YtjekbnmnjeoagaaGreatDoor
open Go.Proofs.Tryz
variable{ws t acc:List Fl.Node}{k c z:Int}{p:Fl.Prog}{ls vs st:List Int}{n:Fl.Node}{a:Fl.Atom}{b d i x M q0 P0 q:Nat}{e:Fl.Expr}{s:List UInt8}{w wr w':World}{lv sv sv' nv':Value}{lvs:List Value}
namespace Fl
def nth_ext{k:Nat}(h:k<ws.length):nth (ws++t) k=nth ws k:=by
 unfold nth;rw[Qa,Qa,List.getElem?_append_left h]
def nd_ext(h:0<=k/\k<ws.length):nd (ws++t) k=nd ws k:=nth_ext (by omega)
def all_same{α:Type}{f g:α->Bool}:∀{l:List α},(∀k∈l,f k=g k)->l.all f=l.all g
 |[],_=>rfl
 |a::l,h=>by rw[List.all_cons,List.all_cons,h a (by simp),all_same (λk hk=>h k (by simp[hk]))]
def follows_ext(hk:0<=n.kind/\n.kind<=7)(h:∀i∈prem n,0<=i/\i<(ws.length:Int)):follows p ls (ws++t) n=follows p ls ws n:=by
 unfold follows ruleOf
 congr 1
 by_cases k0:n.kind=0
 ·rw[if_pos k0,if_pos k0]
 rw[if_neg k0,if_neg k0]
 by_cases k1:n.kind=1
 ·rw[if_pos k1,if_pos k1]
 rw[if_neg k1,if_neg k1]
 by_cases k2:n.kind=2
 ·rw[if_pos k2,if_pos k2]
  have hp:prem n=[n.b,n.c]:=(by unfold prem;rw[if_pos k2]);rw[hp]at h;rw[nd_ext (h n.b (by simp)),nd_ext (h n.c (by simp))]
 rw[if_neg k2,if_neg k2]
 by_cases k3:n.kind=3
 ·rw[if_pos k3,if_pos k3]
  have hp:prem n=[n.b]:=(by unfold prem;rw[if_neg k2,if_pos (.inl k3)]);rw[hp]at h;unfold mayGo;rw[nd_ext (h n.b (by simp))]
 rw[if_neg k3,if_neg k3]
 by_cases k4:n.kind=4
 ·rw[if_pos k4,if_pos k4]
  have hp:prem n=[n.b]:=(by unfold prem;rw[if_neg k2,if_pos (.inr k4)]);rw[hp]at h;unfold mayGo;rw[nd_ext (h n.b (by simp))]
 rw[if_neg k4,if_neg k4]
 by_cases k5:n.kind=5
 ·rw[if_pos k5,if_pos k5]
  have hp:prem n=[n.a,n.b,n.c]:=(by unfold prem;rw[if_neg k2,if_neg (by omega),if_pos k5]);rw[hp]at h;unfold guards;rw[nd_ext (h n.a (by simp)),nd_ext (h n.b (by simp)),nd_ext (h n.c (by simp))]
 rw[if_neg k5,if_neg k5]
 by_cases k6:n.kind=6
 ·rw[if_pos k6,if_pos k6]
  have hp:prem n=[n.a,n.b]:=(by unfold prem;rw[if_neg k2,if_neg (by omega),if_neg k5,if_pos k6]);rw[hp]at h;unfold guards;rw[nd_ext (h n.a (by simp)),nd_ext (h n.b (by simp))]
 rw[if_neg k6,if_neg k6]
 have hp:prem n=n.list:=by unfold prem;rw[if_neg k2,if_neg (by omega),if_neg k5,if_neg k6,if_pos (by omega)]
 rw[hp]at h
 exact all_same λk hk=>by rw[nd_ext (h k hk)]
def Fol(p:Prog)(ls:List Int)(ws:List Node):Prop:=
 ∀k,k<ws.length->(0<=(nth ws k).kind/\(nth ws k).kind<=7)/\follows p ls ws (nth ws k)=true/\∀i∈prem (nth ws k),0<=i/\i<(k:Int)
def Fol.nil(p:Prog)(ls:List Int):Fol p ls []:=λk hk=>by simp at hk
def Fol.push(h:Fol p ls ws)(hk:0<=n.kind/\n.kind<=7)(hf:follows p ls ws n=true)(hp:∀i∈prem n,0<=i/\i<(ws.length:Int)):Fol p ls (ws++[n]):=λk b0=>by
 by_cases a0:k<ws.length
 ·rw[nth_ext a0]
  obtain⟨h1,h2,h3⟩:=h k a0;exact⟨h1,by rw[follows_ext h1 (λi hi=>by have:=h3 i hi;omega)];exact h2,h3⟩
 have c0:k=ws.length:=by simp at b0;omega
 subst c0
 have e:nth (ws++[n]) ws.length=n:=by unfold nth;simp[Qa]
 rw[e];exact⟨hk,by rw[follows_ext hk hp];exact hf,hp⟩
structure Put(p:Prog)(ls:List Int)(ws:List Node)(r:Int×List Node):Prop where
 fol:Fol p ls r.2
 ext:∃t,r.2=ws++t
 rng:0<=r.1/\r.1<r.2.length
 new:r.2=ws\/r.1=(r.2.length:Int) - 1
def Put.len{r:Int×List Node}(h:Put p ls ws r):ws.length<=r.2.length:=by
 obtain⟨t,e⟩:=h.ext;rw[e];simp
def Put.nd{p:Prog}{ls:List Int}{ws:List Node}{r:Int×List Node}(h:Put p ls ws r){k:Int}(hk:0<=k/\k<ws.length):nd r.2 k=nd ws k:=by
 obtain⟨t,e⟩:=h.ext;rw[e];exact nd_ext hk
def put1_ok(h:Fol p ls ws)(hk:0<=n.kind/\n.kind<=7)(hf:follows p ls ws n=true)(hp:∀i∈prem n,0<=i/\i<(ws.length:Int)):Put p ls ws (put1 ws n)/\nd (put1 ws n).2 (put1 ws n).1=n/\((put1 ws n).2.length=ws.length->∀i∈prem n,i<(put1 ws n).1):=by
 unfold put1
 split
 ·rename_i i hi
  have h1:eqNode (nth ws i) n=true:=List.find?_some (p:=λi=>eqNode (nth ws i) n) hi;have h2:i<ws.length:=(by have:=List.mem_of_find?_eq_some hi;simpa using this);have h3:=(eqNode_iff _ _).1 h1;refine⟨⟨h,⟨[],by simp⟩,⟨by simp,by simp;omega⟩,.inl rfl⟩,?_,λ_ j hj=>?_⟩
  ·show nth ws (i:Int).toNat=n
   rw[Int.toNat_natCast];exact h3
  rw[<-h3]at hj;exact((h i h2).2.2 j hj).2
 refine⟨⟨h.push hk hf hp,⟨[n],rfl⟩,⟨by simp,by simp;omega⟩,.inr (by simp)⟩,?_,λe=>?_⟩
 ·show nth (ws++[n]) (ws.length:Int).toNat=n
  rw[Int.toNat_natCast];unfold nth;simp[Qa]
 simp at e
def Put.comp{r r':Int×List Node}(h:Put p ls ws r)(h':Put p ls r.2 r')(hn:r'.2.length=r.2.length->r.1<r'.1):Put p ls ws r':=by
 obtain⟨t,e⟩:=h.ext;obtain⟨t',e'⟩:=h'.ext;refine⟨h'.fol,⟨t++t',by rw[e',e,List.append_assoc]⟩,h'.rng,?_⟩;rcases h'.new with h1|h1
 ·have h2:=hn (by rw[h1])
  have h3:=h'.rng;rcases h.new with h4|h4
  ·exact .inl (h1.trans h4)
  rw[h1]at h3;omega
 exact .inr h1
def under_refl(lv:p.Lv){a:Int}(ha:0<=a/\a<p.n):under p a a=true:=lv.lat.refl _ (by omega)
def under_jn(lv:p.Lv){a b:Int}(ha:0<=a/\a<p.n)(hb:0<=b/\b<p.n):under p a (jn p a b)=true/\under p b (jn p a b)=true:=by
 obtain⟨k,h1,h2,h3,h4,-⟩:=lv.lat.joins a.toNat b.toNat (by omega) (by omega)
 have e:(jn p a b).toNat=k:=by unfold jn;rw[h2];simp
 unfold under;rw[e];exact⟨h3,h4⟩
def under_trans(lv:p.Lv){a b:Int}(ha:0<=a/\a<p.n)(hb:0<=b/\b<p.n)(hc:0<=c/\c<p.n)(h1:under p a b=true)(h2:under p b c=true):under p a c=true:=lv.lat.trans _ _ _ (by omega) (by omega) (by omega) h1 h2
def ofAtom_ext(h:0<=k/\k<ws.length):ofAtom (ws++t) k a=ofAtom ws k a:=by unfold ofAtom;rw[nd_ext h]
def Fol.prem{p:Prog}{ls:List Int}{ws:List Node}(h:Fol p ls ws){k:Int}(hk:0<=k/\k<ws.length):∀i∈Go.Proofs.YtjekbnmnjeoagaaGreatDoor.prem (nd ws k),0<=i/\i<(ws.length:Int):=λi hi=>by
 have h1:=(h k.toNat (by omega)).2.2 i hi;omega
def ofExpr_ext(h:Fol p ls ws)(hk:0<=k/\k<ws.length)(e:Expr):ofExpr (ws++t) k e=ofExpr ws k e:=by
 unfold ofExpr
 by_cases h0:e.op<0
 ·rw[if_pos h0,if_pos h0,ofAtom_ext hk]
 rw[if_neg h0,if_neg h0,nd_ext hk]
 by_cases h2:(nd ws k).kind=2
 ·have hp:Go.Proofs.YtjekbnmnjeoagaaGreatDoor.prem (nd ws k)=[(nd ws k).b,(nd ws k).c]:=by unfold Go.Proofs.YtjekbnmnjeoagaaGreatDoor.prem;rw[if_pos h2]
  have h3:=h.prem hk;rw[hp]at h3;rw[ofAtom_ext (h3 _ (by simp)),ofAtom_ext (h3 _ (by simp))]
 rw[decide_eq_false h2,Bool.false_and,Bool.false_and]
section
def wAtom_ok(lv:p.Lv)(ok:LvOk p vs)(hv:vars p ls=vs)(h:Fol p ls ws)(ho:zy5 vs a):
  Put p ls ws (wAtom p vs ws a)/\nd (wAtom p vs ws a).2 (wAtom p vs ws a).1=⟨if a.var then 1 else 0,atomLv p vs a,a.v,0,0,[]⟩:=by
 obtain⟨k,hk,ek⟩:=zzy lv ok.2 ho;have h1:=put1_ok (n:=⟨if a.var then 1 else 0,atomLv p vs a,a.v,0,0,[]⟩) h (by cases a.var<;>simp) ?_ ?_
 ·exact⟨h1.1,h1.2.1⟩
 ·unfold follows ruleOf
  rw[Bool.and_eq_true];refine⟨by simp only[decide_eq_true_eq];omega,?_⟩
  cases a0:a.var
  ·simp
  have b0:=ho a0;have h3:=ok.2 a.v b0;have e:atomLv p vs a=vs.getD a.v 0:=(by unfold atomLv;rw[a0];rfl);rw[hv,e];simp only[if_true,show ¬(1:Int)=0 by omega,if_false,Bool.and_eq_true,decide_eq_true_eq,Int.toNat_natCast];exact⟨by omega,under_refl lv h3⟩
 intro i hi;unfold Go.Proofs.YtjekbnmnjeoagaaGreatDoor.prem at hi
 cases a0:a.var<;>rw[a0]at hi<;>simp at hi
structure PutV(p:Prog)(ls vs:List Int)(ws:List Node)(e:Expr)(r:Int×List Node):Prop where
 pu:Put p ls ws r
 ro:role (nd r.2 r.1).kind=0
 le:(nd r.2 r.1).level=valLv p vs e
 ex:ofExpr r.2 r.1 e=true
def ofAtom_of{l b:Int}{li:List Int}(h:nd ws k=⟨if a.var then 1 else 0,l,a.v,b,c,li⟩):ofAtom ws k a=true:=by
 unfold ofAtom;rw[h]
 cases a.var<;>simp
def atomLv_rng(lv:p.Lv)(ok:LvOk p vs)(ho:zy5 vs a):0<=atomLv p vs a/\atomLv p vs a<p.n:=by
 obtain⟨k,hk,ek⟩:=zzy lv ok.2 ho;omega
def valLv_rng(lv:p.Lv)(ok:LvOk p vs)(ho:ExprOk vs.length e):0<=valLv p vs e/\valLv p vs e<p.n:=by
 obtain⟨k,hk,ek⟩:=zwy lv ok ho;omega
def wVal_ok(lv:p.Lv)(ok:LvOk p vs)(hv:vars p ls=vs)(h:Fol p ls ws)(ho:ExprOk vs.length e):PutV p ls vs ws e (wVal p vs ws e):=by
 have hi:=zwz ho;unfold wVal
 by_cases h0:e.op<0
 ·rw[if_pos h0]
  obtain⟨h1,h2⟩:=wAtom_ok lv ok hv h hi.1;refine⟨h1,by rw[h2];cases e.a.var<;>simp[role],by rw[h2];unfold valLv;rw[if_pos h0],?_⟩;unfold ofExpr;rw[if_pos h0];exact ofAtom_of h2
 rw[if_neg h0];obtain⟨h1,h2⟩:=wAtom_ok lv ok hv h hi.1;obtain⟨h3,h4⟩:=wAtom_ok lv ok hv h1.fol (hi.2 (by omega));have ha:=atomLv_rng lv ok hi.1;have hb:=atomLv_rng lv ok (hi.2 (by omega));have hl:=h3.len;have c0:=h1.rng;have b0:=h3.rng;have ea:nd (wAtom p vs (wAtom p vs ws e.a).2 e.b).2 (wAtom p vs ws e.a).1=⟨if e.a.var then 1 else 0,atomLv p vs e.a,e.a.v,0,0,[]⟩:=(h3.nd c0).trans h2
 have ev:valLv p vs e=jn p (atomLv p vs e.a) (atomLv p vs e.b):=by unfold valLv;rw[if_neg h0]
 have hp:∀i∈Go.Proofs.YtjekbnmnjeoagaaGreatDoor.prem (⟨2,valLv p vs e,e.op,(wAtom p vs ws e.a).1,(wAtom p vs (wAtom p vs ws e.a).2 e.b).1,[]⟩:Node),0<=i/\i<((wAtom p vs (wAtom p vs ws e.a).2 e.b).2.length:Int):=λi hi=>by
  simp only[Go.Proofs.YtjekbnmnjeoagaaGreatDoor.prem,if_true,List.mem_cons,List.not_mem_nil,or_false]at hi;rcases hi with rfl|rfl
  ·omega
  exact b0
 have d0:=valLv_rng lv ok ho;have hj:=under_jn lv ha hb
 obtain⟨g1,g2,g3⟩:=put1_ok (n:=⟨2,valLv p vs e,e.op,(wAtom p vs ws e.a).1,(wAtom p vs (wAtom p vs ws e.a).2 e.b).1,[]⟩) h3.fol (by simp) (by
  unfold follows ruleOf;simp only[show ¬(2:Int)=0 by omega,show ¬(2:Int)=1 by omega,if_true,if_false,Bool.and_eq_true,decide_eq_true_eq];rw[ea,h4,ev];refine⟨by rw[<-ev];exact d0.2,by have:=ho.2.1;omega,?_,?_,hj.1,hj.2⟩
  ·cases e.a.var<;>simp[role]
  cases e.b.var<;>simp[role]) hp
 have g4:=g1.len;have a0:=h1.comp (h3.comp g1 (λhh=>g3 hh _ (by simp[Go.Proofs.YtjekbnmnjeoagaaGreatDoor.prem]))) (λhh=>g3 (by omega) _ (by simp[Go.Proofs.YtjekbnmnjeoagaaGreatDoor.prem]));refine⟨a0,by rw[g2];simp[role],by rw[g2],?_⟩;unfold ofExpr;rw[if_neg h0,g2];simp only[decide_true,Bool.true_and,Bool.and_eq_true];exact⟨ofAtom_of ((g1.nd (by omega)).trans ea),ofAtom_of ((g1.nd b0).trans h4)⟩
end
def ofOne_ext{nv nc:Nat}(h:Fol p ls ws)(hK:∀(k:Int) (l:List Stmt),(0<=k/\k<ws.length)->StmtsOk nv nc d l->ofAll d (ws++t) k l=ofAll d ws k l)(hk:0<=k/\k<ws.length){s:Stmt}(hs:KindOk nv nc s)(h1:StmtsOk nv nc d s.body)(h2:StmtsOk nv nc d s.other):
  ofOne (ofAll d (ws++t)) (ws++t) k s=ofOne (ofAll d ws) ws k s:=by
 unfold ofOne;rw[nd_ext hk]
 by_cases a0:(nd ws k).kind=(s.kind:Int)
 ·have hp:=h.prem hk
  congr 1
  by_cases k5:s.kind=5
  ·simp only[k5,if_true]
   have hq:Go.Proofs.YtjekbnmnjeoagaaGreatDoor.prem (nd ws k)=[(nd ws k).a,(nd ws k).b,(nd ws k).c]:=(by unfold Go.Proofs.YtjekbnmnjeoagaaGreatDoor.prem;rw[if_neg (by omega),if_neg (by omega),if_pos (by omega)]);rw[hq]at hp;rw[ofExpr_ext h (hp _ (by simp)),hK _ _ (hp _ (by simp)) h1,hK _ _ (hp _ (by simp)) h2]
  by_cases k6:s.kind=6
  ·simp only[k6,show ¬(6:Nat)=5 by omega,if_true,if_false]
   have hq:Go.Proofs.YtjekbnmnjeoagaaGreatDoor.prem (nd ws k)=[(nd ws k).a,(nd ws k).b]:=(by unfold Go.Proofs.YtjekbnmnjeoagaaGreatDoor.prem;rw[if_neg (by omega),if_neg (by omega),if_neg (by omega),if_pos (by omega)]);rw[hq]at hp;rw[ofExpr_ext h (hp _ (by simp)),hK _ _ (hp _ (by simp)) h1]
  simp only[k5,k6,if_false];have hq:Go.Proofs.YtjekbnmnjeoagaaGreatDoor.prem (nd ws k)=[(nd ws k).b]:=by
   unfold Go.Proofs.YtjekbnmnjeoagaaGreatDoor.prem;rw[if_neg (by rcases hs with e|e|e|e<;>omega),if_pos (by rcases hs with e|e|e|e<;>omega)]
  rw[hq]at hp;rw[ofExpr_ext h (hp _ (by simp))]
 rw[decide_eq_false a0,Bool.false_and,Bool.false_and]
def Ur{α:Type}{l:List α}{x:α}(h:i<l.length):l.getD i x∈l:=by
 rw[Qa,Qb h];exact List.getElem_mem h
def ofAll_ext{p:Prog}{ls:List Int}{ws t:List Node}{nv nc:Nat}(h:Fol p ls ws):∀(d:Nat) (k:Int) (l:List Stmt),(0<=k/\k<ws.length)->StmtsOk nv nc d l->ofAll d (ws++t) k l=ofAll d ws k l
 |0,k,l,hk,_=>by unfold ofAll;rw[nd_ext hk]
 |d+1,k,l,hk,hs=>by
  unfold ofAll;rw[nd_ext hk]
  by_cases h7:(nd ws k).kind=7
  ·by_cases hl:(nd ws k).list.length=l.length
   ·have hp:=h.prem hk
    have hq:Go.Proofs.YtjekbnmnjeoagaaGreatDoor.prem (nd ws k)=(nd ws k).list:=(by unfold Go.Proofs.YtjekbnmnjeoagaaGreatDoor.prem;rw[if_neg (by omega),if_neg (by omega),if_neg (by omega),if_neg (by omega),if_pos h7]);rw[hq]at hp
    have e:((List.range l.length).all λi=>ofOne (ofAll d (ws++t)) (ws++t) ((nd ws k).list.getD i 0) (l.getD i noS))=(List.range l.length).all λi=>ofOne (ofAll d ws) ws ((nd ws k).list.getD i 0) (l.getD i noS):=all_same λi hi=>by
     rw[List.mem_range]at hi;obtain⟨g1,-,g3,g4⟩:=hs _ (Ur (x:=noS) hi);exact ofOne_ext h (λk l hk hs=>ofAll_ext h d k l hk hs) (hp _ (Ur (by omega))) g1 g3 g4
    rw[e]
   rw[decide_eq_false hl];simp
  rw[decide_eq_false h7];simp
section
structure PutS(p:Prog)(ls:List Int)(ws:List Node)(u:Int)(d:Nat)(s:Stmt)(r:Int×List Node):Prop where
 pu:Put p ls ws r
 kd:(nd r.2 r.1).kind=(s.kind:Int)
 le:(nd r.2 r.1).level=u
 on:ofOne (ofAll d r.2) r.2 r.1 s=true
structure PutB(p:Prog)(ls:List Int)(ws:List Node)(u:Int)(d:Nat)(l:List Stmt)(r:Int×List Node):Prop where
 pu:Put p ls ws r
 kd:(nd r.2 r.1).kind=7
 le:(nd r.2 r.1).level=u
 al:ofAll d r.2 r.1 l=true
def chan_rng(lv:p.Lv)(hi:i<p.chans.length):0<=(p.chans.map λ(y:Nat)=>(y:Int)).getD i 0/\(p.chans.map λ(y:Nat)=>(y:Int)).getD i 0<p.n:=by
 obtain⟨k,hk,e⟩:=zdv lv hi;omega
def wStmt_ok(lv:p.Lv)(ok:LvOk p vs)(hv:vars p ls=vs)
  (IH:∀(ws:List Node) (l:List Stmt) (u:Int),Fol p ls ws->StmtsOk vs.length p.chans.length d l->(0<=u/\u<p.n)->(∀m∈moves p vs d l u,fitsM p vs m=true)->PutB p ls ws u d l (wBlock p vs d ws l u))
   (h:Fol p ls ws) {u:Int} (hu:0<=u/\u<p.n) {s:Stmt} (hk:KindOk vs.length p.chans.length s) (he:ExprOk vs.length s.e) (h1:StmtsOk vs.length p.chans.length d s.body) (h2:StmtsOk vs.length p.chans.length d s.other)
  (hm:∀m∈movesOne (moves p vs d) p vs u s,fitsM p vs m=true):PutS p ls ws u d s (wStmt (wBlock p vs d) p vs u ws s):=by
 have a0:=wVal_ok lv ok hv h he;have d0:=valLv_rng lv ok he;have hj:=lv.jn hu d0;have b0:=under_jn lv hu d0;have vr:=a0.pu.rng;unfold wStmt;simp only;generalize wVal p vs ws s.e=v at*;generalize hL:jn p u (valLv p vs s.e)=L at*
 by_cases k5:s.kind=5
 ·rw[if_pos k5]
  have c0:movesOne (moves p vs d) p vs u s=moves p vs d s.body L++moves p vs d s.other L:=(by unfold movesOne;rw[if_neg (by omega),if_pos (.inl k5),hL]);rw[c0]at hm;have b1:=IH v.2 s.body L a0.pu.fol h1 hj (λm hm'=>hm m (List.mem_append_left _ hm'));generalize wBlock p vs d v.2 s.body L=B1 at*;have b2:=IH B1.2 s.other L b1.pu.fol h2 hj (λm hm'=>hm m (List.mem_append_right _ hm'));generalize wBlock p vs d B1.2 s.other L=B2 at*;have r1:=b1.pu.rng;have r2:=b2.pu.rng;have l1:=b1.pu.len;have l2:=b2.pu.len;have e1:nd B2.2 v.1=nd v.2 v.1:=(b2.pu.nd (by omega)).trans (b1.pu.nd vr);have e2:nd B2.2 B1.1=nd B1.2 B1.1:=b2.pu.nd r1
  obtain⟨g1,g2,g3⟩:=put1_ok (n:=⟨5,u,v.1,B1.1,B2.1,[]⟩) b2.pu.fol (by simp) (by
   unfold follows ruleOf guards;simp only[show ¬(5:Int)=0 by omega,show ¬(5:Int)=1 by omega,show ¬(5:Int)=2 by omega,show ¬(5:Int)=3 by omega,show ¬(5:Int)=4 by omega,if_true,if_false,Bool.and_eq_true,decide_eq_true_eq];rw[e1,e2,a0.ro,a0.le,b1.kd,b1.le,b2.kd,b2.le]
   exact⟨hu.2,⟨rfl,by simp[role],b0.2,b0.1⟩,rfl,by simp[role],b0.2,b0.1⟩) (λi hi=>by
   simp only[Go.Proofs.YtjekbnmnjeoagaaGreatDoor.prem,show ¬(5:Int)=2 by omega,show ¬((5:Int)=3\/(5:Int)=4) by omega,if_true,if_false,List.mem_cons,List.not_mem_nil,or_false]at hi
   rcases hi with rfl|rfl|rfl<;>omega)
  have m1:v.1∈Go.Proofs.YtjekbnmnjeoagaaGreatDoor.prem (⟨5,u,v.1,B1.1,B2.1,[]⟩:Node):=(by simp[Go.Proofs.YtjekbnmnjeoagaaGreatDoor.prem]);have m2:B1.1∈Go.Proofs.YtjekbnmnjeoagaaGreatDoor.prem (⟨5,u,v.1,B1.1,B2.1,[]⟩:Node):=(by simp[Go.Proofs.YtjekbnmnjeoagaaGreatDoor.prem]);have m3:B2.1∈Go.Proofs.YtjekbnmnjeoagaaGreatDoor.prem (⟨5,u,v.1,B1.1,B2.1,[]⟩:Node):=(by simp[Go.Proofs.YtjekbnmnjeoagaaGreatDoor.prem]);have l3:=g1.len;have q2:=b2.pu.comp g1 (λhh=>g3 hh _ m3);have q1:=b1.pu.comp q2 (λhh=>g3 (by omega) _ m2);have q0:=a0.pu.comp q1 (λhh=>g3 (by omega) _ m1);generalize put1 B2.2 ⟨5,u,v.1,B1.1,B2.1,[]⟩=r at*;refine⟨q0,by rw[g2,k5];rfl,by rw[g2],?_⟩;unfold ofOne;rw[g2];simp only[k5,if_true,Bool.and_eq_true,decide_eq_true_eq];obtain⟨t0,x0⟩:=q1.ext;obtain⟨t1,x1⟩:=q2.ext;obtain⟨t2,x2⟩:=g1.ext;refine⟨rfl,?_,?_,?_⟩
  ·rw[x0,ofExpr_ext a0.pu.fol vr];exact a0.ex
  ·rw[x1,ofAll_ext b1.pu.fol d _ _ r1 h1];exact b1.al
  rw[x2,ofAll_ext b2.pu.fol d _ _ r2 h2];exact b2.al
 by_cases k6:s.kind=6
 ·rw[if_neg k5,if_pos k6]
  have c0:movesOne (moves p vs d) p vs u s=moves p vs d s.body L++moves p vs d s.other L:=(by unfold movesOne;rw[if_neg (by omega),if_pos (.inr k6),hL]);rw[c0]at hm;have b1:=IH v.2 s.body L a0.pu.fol h1 hj (λm hm'=>hm m (List.mem_append_left _ hm'));generalize wBlock p vs d v.2 s.body L=B1 at*;have r1:=b1.pu.rng;have l1:=b1.pu.len;have e1:nd B1.2 v.1=nd v.2 v.1:=b1.pu.nd vr
  obtain⟨g1,g2,g3⟩:=put1_ok (n:=⟨6,u,v.1,B1.1,0,[]⟩) b1.pu.fol (by simp) (by
   unfold follows ruleOf guards;simp only[show ¬(6:Int)=0 by omega,show ¬(6:Int)=1 by omega,show ¬(6:Int)=2 by omega,show ¬(6:Int)=3 by omega,show ¬(6:Int)=4 by omega,show ¬(6:Int)=5 by omega,if_true,if_false,Bool.and_eq_true,decide_eq_true_eq];rw[e1,a0.ro,a0.le,b1.kd,b1.le]
   exact⟨hu.2,rfl,by simp[role],b0.2,b0.1⟩) (λi hi=>by
   simp only[Go.Proofs.YtjekbnmnjeoagaaGreatDoor.prem,show ¬(6:Int)=2 by omega,show ¬((6:Int)=3\/(6:Int)=4) by omega,show ¬(6:Int)=5 by omega,if_true,if_false,List.mem_cons,List.not_mem_nil,or_false]at hi
   rcases hi with rfl|rfl<;>omega)
  have m1:v.1∈Go.Proofs.YtjekbnmnjeoagaaGreatDoor.prem (⟨6,u,v.1,B1.1,0,[]⟩:Node):=(by simp[Go.Proofs.YtjekbnmnjeoagaaGreatDoor.prem]);have m2:B1.1∈Go.Proofs.YtjekbnmnjeoagaaGreatDoor.prem (⟨6,u,v.1,B1.1,0,[]⟩:Node):=(by simp[Go.Proofs.YtjekbnmnjeoagaaGreatDoor.prem]);have l3:=g1.len;have q1:=b1.pu.comp g1 (λhh=>g3 hh _ m2);have q0:=a0.pu.comp q1 (λhh=>g3 (by omega) _ m1);generalize put1 B1.2 ⟨6,u,v.1,B1.1,0,[]⟩=r at*;refine⟨q0,by rw[g2,k6];rfl,by rw[g2],?_⟩;unfold ofOne;rw[g2];simp only[k6,show ¬(6:Nat)=5 by omega,if_true,if_false,Bool.and_eq_true,decide_eq_true_eq];obtain⟨t0,x0⟩:=q1.ext;obtain⟨t1,x1⟩:=g1.ext;refine⟨rfl,?_,?_⟩
  ·rw[x0,ofExpr_ext a0.pu.fol vr];exact a0.ex
  rw[x1,ofAll_ext b1.pu.fol d _ _ r1 h1];exact b1.al
 rw[if_neg k5,if_neg k6]
 have e0:s.kind=3\/s.kind=4:=by rcases hk with e|e|e|e<;>omega
 have c0:movesOne (moves p vs d) p vs u s=[(s,L)]:=by unfold movesOne;rw[if_pos e0,hL]
 rw[c0]at hm;have hf:=hm (s,L) (by simp);unfold fitsM at hf;simp only at hf
 obtain⟨g1,g2,g3⟩:=put1_ok (n:=⟨s.kind,u,s.x,v.1,0,[]⟩) a0.pu.fol (by simp only;omega) (by
  unfold follows ruleOf;rcases e0 with k3|k4
  ·have hx:s.x<vs.length:=by rcases hk with e|e|e|e<;>omega
   have hr:=ok.2 s.x hx;rw[if_neg (by omega)]at hf;rw[show ((s.kind:Nat):Int)=3 by omega];simp only[mayGo,show ¬(3:Int)=0 by omega,show ¬(3:Int)=1 by omega,show ¬(3:Int)=2 by omega,if_true,if_false,Bool.and_eq_true,decide_eq_true_eq,Int.toNat_natCast];rw[hv,a0.ro,a0.le];exact⟨hu.2,by omega,rfl,under_trans lv d0 hj hr b0.2 hf,under_trans lv hu hj hr b0.1 hf⟩
  ·have hx:s.x<p.chans.length:=by rcases hk with e|e|e|e<;>omega
   have hr:=chan_rng lv hx;rw[if_pos k4]at hf;rw[show ((s.kind:Nat):Int)=4 by omega];simp only[mayGo,show ¬(4:Int)=0 by omega,show ¬(4:Int)=1 by omega,show ¬(4:Int)=2 by omega,show ¬(4:Int)=3 by omega,if_true,if_false,Bool.and_eq_true,decide_eq_true_eq,Int.toNat_natCast];rw[a0.ro,a0.le]
   exact⟨hu.2,by simp;omega,rfl,under_trans lv d0 hj hr b0.2 hf,under_trans lv hu hj hr b0.1 hf⟩) (λi hi=>by
  have e:Go.Proofs.YtjekbnmnjeoagaaGreatDoor.prem (⟨s.kind,u,s.x,v.1,0,[]⟩:Node)=[v.1]:=(by unfold Go.Proofs.YtjekbnmnjeoagaaGreatDoor.prem;simp only;rw[if_neg (by omega),if_pos (by omega)]);rw[e]at hi;simp only[List.mem_singleton]at hi
  omega)
 have m1:v.1∈Go.Proofs.YtjekbnmnjeoagaaGreatDoor.prem (⟨s.kind,u,s.x,v.1,0,[]⟩:Node):=by unfold Go.Proofs.YtjekbnmnjeoagaaGreatDoor.prem;simp only;rw[if_neg (by omega),if_pos (by omega)];simp
 have q0:=a0.pu.comp g1 (λhh=>g3 hh _ m1);generalize put1 v.2 ⟨s.kind,u,s.x,v.1,0,[]⟩=r at*;refine⟨q0,by rw[g2],by rw[g2],?_⟩;unfold ofOne;rw[g2];simp only[k5,k6,if_false,Bool.and_eq_true,decide_eq_true_eq];obtain⟨t0,x0⟩:=g1.ext;refine⟨trivial,trivial,?_⟩;rw[x0,ofExpr_ext a0.pu.fol vr];exact a0.ex
structure PutL(p:Prog)(ls:List Int)(ws:List Node)(u:Int)(d:Nat)(l:List Stmt)(r:List Int×List Node):Prop where
 fol:Fol p ls r.2
 ext:∃t,r.2=ws++t
 len:r.1.length=l.length
 all:∀i,i<l.length->(0<=r.1.getD i 0/\r.1.getD i 0<r.2.length)/\(nd r.2 (r.1.getD i 0)).kind=((l.getD i noS).kind:Int)/\(nd r.2 (r.1.getD i 0)).level=u/\ofOne (ofAll d r.2) r.2 (r.1.getD i 0) (l.getD i noS)=true
 new:r.2=ws\/((r.2.length:Int) - 1)∈r.1
def wAll_ok{nv nc d:Nat}{u:Int}{W:List Node->Stmt->Int×List Node}:∀(l:List Stmt) (ws:List Node),Fol p ls ws->StmtsOk nv nc (d+1) l->(∀s∈l,∀ws,Fol p ls ws->PutS p ls ws u d s (W ws s))->PutL p ls ws u d l (wAll W ws l)
 |[],ws,h,_,_=>⟨h,⟨[],by simp[wAll]⟩,rfl,λi hi=>by simp at hi,.inl rfl⟩
 |s::l,ws,h,hs,hW=>by
  have h1:=hW s (by simp) ws h;have h2:=wAll_ok l (W ws s).2 h1.pu.fol (λs hs'=>hs s (by simp[hs'])) (λs hs'=>hW s (by simp[hs']));obtain⟨t1,e1⟩:=h1.pu.ext;obtain⟨t2,e2⟩:=h2.ext;have r1:=h1.pu.rng;have hl:(W ws s).2.length<=(wAll W (W ws s).2 l).2.length:=(by rw[e2];simp);refine⟨h2.fol,⟨t1++t2,by show (wAll W (W ws s).2 l).2=_;rw[e2,e1,List.append_assoc]⟩,by show ((W ws s).1::(wAll W (W ws s).2 l).1).length=_;rw[List.length_cons,List.length_cons,h2.len],λi hi=>?_,?_⟩
  ·cases i with
   |zero=>
    show (0<=(W ws s).1/\(W ws s).1<((wAll W (W ws s).2 l).2.length:Int))/\(nd (wAll W (W ws s).2 l).2 (W ws s).1).kind=(s.kind:Int)/\(nd (wAll W (W ws s).2 l).2 (W ws s).1).level=u/\ofOne (ofAll d (wAll W (W ws s).2 l).2) (wAll W (W ws s).2 l).2 (W ws s).1 s=true;obtain⟨g1,-,g3,g4⟩:=hs s (by simp);refine⟨by omega,?_,?_,?_⟩
    ·rw[e2,nd_ext r1];exact h1.kd
    ·rw[e2,nd_ext r1];exact h1.le
    rw[e2,ofOne_ext h1.pu.fol (λk l hk hs=>ofAll_ext h1.pu.fol d k l hk hs) r1 g1 g3 g4];exact h1.on
   |succ i=>exact h2.all i (by simpa using hi)
  rcases h2.new with n2|n2
  ·rcases h1.pu.new with n1|n1
   ·exact .inl (n2.trans n1)
   refine .inr ?_;show (((wAll W (W ws s).2 l).2.length:Int) - 1)∈(W ws s).1::(wAll W (W ws s).2 l).1;rw[n2,<-n1];simp
  exact .inr (List.mem_cons_of_mem _ n2)
def wBlock_ok(lv:p.Lv)(ok:LvOk p vs)(hv:vars p ls=vs):∀(d:Nat) (ws:List Node) (l:List Stmt) (u:Int),Fol p ls ws->StmtsOk vs.length p.chans.length d l->(0<=u/\u<p.n)->(∀m∈moves p vs d l u,fitsM p vs m=true)->PutB p ls ws u d l (wBlock p vs d ws l u)
 |0,ws,l,u,h,hs,hu,_=>by
  have hs:l=[]:=hs
  obtain⟨g1,g2,g3⟩:=put1_ok (n:=⟨7,u,0,0,0,[]⟩) h (by simp) (by
   unfold follows ruleOf;simp only[show ¬(7:Int)=0 by omega,show ¬(7:Int)=1 by omega,show ¬(7:Int)=2 by omega,show ¬(7:Int)=3 by omega,show ¬(7:Int)=4 by omega,show ¬(7:Int)=5 by omega,show ¬(7:Int)=6 by omega,if_false,Bool.and_eq_true,decide_eq_true_eq,List.all_nil]
   exact⟨hu.2,trivial⟩) (λi hi=>by simp[Go.Proofs.YtjekbnmnjeoagaaGreatDoor.prem]at hi)
  unfold wBlock;refine⟨g1,by rw[g2],by rw[g2],?_⟩;unfold ofAll;rw[g2,hs];simp
 |d+1,ws,l,u,h,hs,hu,hm=>by
  have hL:=wAll_ok (p:=p) (ls:=ls) (d:=d) (u:=u) (W:=wStmt (wBlock p vs d) p vs u) l ws h hs (λs hs' ws' h'=>by
   obtain⟨a1,a2,a3,a4⟩:=hs s hs'
   exact wStmt_ok lv ok hv (wBlock_ok lv ok hv d) h' hu a1 a2 a3 a4 (λm hm'=>hm m (List.mem_flatMap.2 ⟨s,hs',hm'⟩)))
  unfold wBlock;generalize wAll (wStmt (wBlock p vs d) p vs u) ws l=r at*
  have a0:∀i,i<l.length->role ((l.getD i noS).kind:Int)=1:=λi hi=>by
   rcases(hs _ (Ur (x:=noS) hi)).1 with e|e|e|e<;>unfold role<;>rw[if_neg (by omega),if_pos (by omega)]
  have hmem:∀k∈r.1,∃i,i<l.length/\k=r.1.getD i 0:=λk hk=>by
   obtain⟨i,hi,e⟩:=List.getElem_of_mem hk;exact⟨i,by rw[<-hL.len];exact hi,by rw[Qa,Qb hi];exact e.symm⟩
  have b0:Go.Proofs.YtjekbnmnjeoagaaGreatDoor.prem (⟨7,u,0,0,0,r.1⟩:Node)=r.1:=(by simp[Go.Proofs.YtjekbnmnjeoagaaGreatDoor.prem])
  obtain⟨g1,g2,g3⟩:=put1_ok (n:=⟨7,u,0,0,0,r.1⟩) hL.fol (by simp) (by
   unfold follows ruleOf;simp only[show ¬(7:Int)=0 by omega,show ¬(7:Int)=1 by omega,show ¬(7:Int)=2 by omega,show ¬(7:Int)=3 by omega,show ¬(7:Int)=4 by omega,show ¬(7:Int)=5 by omega,show ¬(7:Int)=6 by omega,if_false,Bool.and_eq_true,decide_eq_true_eq,List.all_eq_true];refine⟨hu.2,λk hk=>?_⟩;obtain⟨i,hi,rfl⟩:=hmem k hk;obtain⟨a1,a2,a3,a4⟩:=hL.all i hi;rw[a2,a3]
   exact⟨a0 i hi,under_refl lv hu⟩) (λk hk=>by
   rw[b0]at hk;obtain⟨i,hi,rfl⟩:=hmem k hk
   exact(hL.all i hi).1)
  rw[b0]at g3;obtain⟨t1,e1⟩:=hL.ext;obtain⟨t2,e2⟩:=g1.ext;have gr:=g1.rng;generalize put1 r.2 ⟨7,u,0,0,0,r.1⟩=q at*;refine⟨⟨g1.fol,⟨t1++t2,by rw[e2,e1,List.append_assoc]⟩,gr,?_⟩,by rw[g2],by rw[g2],?_⟩
  ·rcases g1.new with n|n
   ·rcases hL.new with n2|n2
    ·exact .inl (n.trans n2)
    exfalso
    have h5:=g3 (by rw[n]) _ n2;rw[n]at gr;omega
   exact .inr n
  unfold ofAll;rw[g2];simp only[decide_true,Bool.true_and,Bool.and_eq_true,decide_eq_true_eq,List.all_eq_true,List.mem_range];refine⟨hL.len,λi hi=>?_⟩;obtain⟨a1,a2,a3,a4⟩:=hL.all i hi;obtain⟨b1,-,b3,b4⟩:=hs _ (Ur (x:=noS) hi);rw[e2,ofOne_ext hL.fol (λk l hk hs=>ofAll_ext hL.fol d k l hk hs) a1 b1 b3 b4];exact a4
end
end Fl
namespace Fl
structure RS.Lv(r:RS):Prop where
 le:r.levels.length<=6
 ce:∀y∈r.cellLv,y<r.levels.length
 ch:∀y∈r.chanLv,y<r.levels.length
def lv0:RS.zero.Lv:=⟨by decide,λ_ h=>(by cases h),λ_ h=>(by cases h)⟩
def RS.Lv.same{r r':RS}(h:r.Lv)(e:r'.levels=r.levels/\r'.cellLv=r.cellLv/\r'.chanLv=r.chanLv):r'.Lv:=⟨by rw[e.1];exact h.le,by rw[e.1,e.2.1];exact h.ce,by rw[e.1,e.2.2];exact h.ch⟩
def RS.put_lv(r:RS)(s:Stmt):(r.put s).levels=r.levels/\(r.put s).cellLv=r.cellLv/\(r.put s).chanLv=r.chanLv:=by
 unfold RS.put;split<;>exact⟨rfl,rfl,rfl⟩
def RS.ends_lv(r:RS):r.ends.levels=r.levels/\r.ends.cellLv=r.cellLv/\r.ends.chanLv=r.chanLv:=by
 unfold RS.ends;split<;>exact⟨rfl,rfl,rfl⟩
def RS.elses_lv(r:RS):r.elses.levels=r.levels/\r.elses.cellLv=r.cellLv/\r.elses.chanLv=r.chanLv:=by
 unfold RS.elses;split<;>exact⟨rfl,rfl,rfl⟩
def RS.target_lv(r:RS)(n:List UInt8){r':RS}(h:r.target n=some (x,r')):r'.levels=r.levels/\r'.cellLv=r.cellLv/\r'.chanLv=r.chanLv:=by
 unfold RS.target at h
 split at h
 ·simp only[Option.some.injEq,Prod.mk.injEq]at h;rw[<-h.2];exact⟨rfl,rfl,rfl⟩
 split at h
 ·simp only[Option.some.injEq,Prod.mk.injEq]at h;rw[<-h.2];exact⟨rfl,rfl,rfl⟩
 split at h
 ·cases h
 simp only[Option.some.injEq,Prod.mk.injEq]at h;rw[<-h.2];exact⟨rfl,rfl,rfl⟩
def RS.stmt_lv(r:RS)(a:Nat)(w:List (List UInt8)):(r.stmt a w).2.levels=r.levels/\(r.stmt a w).2.cellLv=r.cellLv/\(r.stmt a w).2.chanLv=r.chanLv:=by
 unfold RS.stmt
 split
 ·split
  ·exact⟨rfl,rfl,rfl⟩
  split
  ·split
   ·exact r.elses_lv
   exact⟨rfl,rfl,rfl⟩
  exact r.ends_lv
 ·split
  ·exact⟨rfl,rfl,rfl⟩
  split
  ·exact⟨rfl,rfl,rfl⟩
  exact⟨rfl,rfl,rfl⟩
 ·split
  ·exact⟨rfl,rfl,rfl⟩
  split
  ·split
   ·exact⟨rfl,rfl,rfl⟩
   split
   ·exact⟨rfl,rfl,rfl⟩
   exact r.put_lv _
  split
  ·exact⟨rfl,rfl,rfl⟩
  split
  ·exact⟨rfl,rfl,rfl⟩
  rename_i h
  split
  ·exact⟨rfl,rfl,rfl⟩
  have h1:=r.target_lv _ h;have h2:=RS.put_lv;exact⟨(h2 _ _).1.trans h1.1,(h2 _ _).2.1.trans h1.2.1,(h2 _ _).2.2.trans h1.2.2⟩
 exact⟨rfl,rfl,rfl⟩
def RS.Lv.head{r:RS}(h:r.Lv)(w:List (List UInt8)):(r.head w).2.Lv:=by
 unfold RS.head
 split
 ·split
  ·exact h.same ⟨rfl,rfl,rfl⟩
  exact h
 ·split
  ·exact h
  split
  ·exact h
  rename_i h6;have hl:=h.le;exact⟨by simp;omega,λy hy=>by have:=h.ce y hy;simp;omega,λy hy=>by have:=h.ch y hy;simp;omega⟩
 ·rename_i k n l
  have hp:=place_cases r.levels l
  split
  ·split
   ·exact h
   exact h.same ⟨rfl,rfl,rfl⟩
  split
  ·exact h
  rename_i hn;have h0:¬place r.levels l<0:=λq=>hn (.inl q)
  split
  ·split
   ·exact h
   refine⟨h.le,λy hy=>?_,h.ch⟩;rcases List.mem_append.1 hy with h1|h1
   ·exact h.ce y h1
   simp only[List.mem_singleton]at h1;show y<r.levels.length;omega
  split
  ·exact h
  refine⟨h.le,h.ce,λy hy=>?_⟩;rcases List.mem_append.1 hy with h1|h1
  ·exact h.ch y h1
  simp only[List.mem_singleton]at h1;show y<r.levels.length;omega
 exact h
def RS.Lv.row{r:RS}(h:r.Lv)(w:List (List UInt8))(a:Nat):(r.row w a).2.Lv:=by
 unfold RS.row
 split
 ·exact h
 split
 ·exact h.head w
 exact h.same (r.stmt_lv a w)
def rows_lv:∀(ls:List (List UInt8)) (r:RS) (i:Nat),r.Lv->(rows r i ls).2.2.Lv
 |[],r,i,h=>h
 |[l],r,i,h=>by
  rw[rows]
  split
  ·split<;>exact h
  exact h
 |l::m::ls,r,i,h=>by
  rw[rows]
  split
  ·exact h
  split
  ·exact h
  exact rows_lv (m::ls) _ (i+1) (h.row _ _)
def readProg_lv(s:List UInt8):(readProg s).2.2.n<=6/\(∀y∈(readProg s).2.2.cells,y<(readProg s).2.2.n)/\∀y∈(readProg s).2.2.chans,y<(readProg s).2.2.n:=by
 unfold readProg
 split
 ·exact⟨lv0.le,lv0.ce,lv0.ch⟩
 have h:=rows_lv (cutR 10 s) RS.zero 0 lv0;exact⟨h.le,h.ce,h.ch⟩
end Fl
namespace Fl
def RS.Tb(r' r:RS):Prop:=r'.levels=r.levels/\r'.low=r.low/\r'.high=r.high
def RS.put_tb(r:RS)(s:Stmt):(r.put s).Tb r:=by
 unfold RS.put;split<;>exact⟨rfl,rfl,rfl⟩
def RS.ends_tb(r:RS):r.ends.Tb r:=by
 unfold RS.ends;split<;>exact⟨rfl,rfl,rfl⟩
def RS.elses_tb(r:RS):r.elses.Tb r:=by
 unfold RS.elses;split<;>exact⟨rfl,rfl,rfl⟩
def RS.target_tb(r:RS)(n:List UInt8){r':RS}(h:r.target n=some (x,r')):r'.Tb r:=by
 unfold RS.target at h
 split at h
 ·simp only[Option.some.injEq,Prod.mk.injEq]at h;rw[<-h.2];exact⟨rfl,rfl,rfl⟩
 split at h
 ·simp only[Option.some.injEq,Prod.mk.injEq]at h;rw[<-h.2];exact⟨rfl,rfl,rfl⟩
 split at h
 ·cases h
 simp only[Option.some.injEq,Prod.mk.injEq]at h;rw[<-h.2];exact⟨rfl,rfl,rfl⟩
def RS.stmt_tb(r:RS)(a:Nat)(w:List (List UInt8)):(r.stmt a w).2.Tb r:=by
 unfold RS.stmt
 split
 ·split
  ·exact⟨rfl,rfl,rfl⟩
  split
  ·split
   ·exact r.elses_tb
   exact⟨rfl,rfl,rfl⟩
  exact r.ends_tb
 ·split
  ·exact⟨rfl,rfl,rfl⟩
  split
  ·exact⟨rfl,rfl,rfl⟩
  exact⟨rfl,rfl,rfl⟩
 ·split
  ·exact⟨rfl,rfl,rfl⟩
  split
  ·split
   ·exact⟨rfl,rfl,rfl⟩
   split
   ·exact⟨rfl,rfl,rfl⟩
   exact r.put_tb _
  split
  ·exact⟨rfl,rfl,rfl⟩
  split
  ·exact⟨rfl,rfl,rfl⟩
  rename_i h
  split
  ·exact⟨rfl,rfl,rfl⟩
  have h1:=r.target_tb _ h;have h2:=RS.put_tb;exact⟨(h2 _ _).1.trans h1.1,(h2 _ _).2.1.trans h1.2.1,(h2 _ _).2.2.trans h1.2.2⟩
 exact⟨rfl,rfl,rfl⟩
def RS.Lt(r:RS):Prop:=r.begun=true->lattice r.levels.length r.tab=true
def RS.Lt.head{r:RS}(h:r.begun=false)(w:List (List UInt8)):(r.head w).2.Lt:=by
 have h0:∀r':RS,r'.begun=r.begun->r'.Lt:=λr' e hb=>by rw[e,h]at hb;cases hb
 unfold RS.head
 split
 ·split
  ·rename_i hl
   exact λ_=>hl
  exact h0 _ rfl
 ·split
  ·exact h0 _ rfl
  split
  ·exact h0 _ rfl
  exact h0 _ rfl
 ·split
  ·split
   ·exact h0 _ rfl
   exact h0 _ rfl
  split
  ·exact h0 _ rfl
  split
  ·split
   ·exact h0 _ rfl
   exact h0 _ rfl
  split
  ·exact h0 _ rfl
  exact h0 _ rfl
 exact h0 _ rfl
def RS.Lt.row{r:RS}(h:r.Lt)(w:List (List UInt8))(a:Nat):(r.row w a).2.Lt:=by
 unfold RS.row
 split
 ·exact h
 rename_i a0
 split
 ·rename_i hh
  refine RS.Lt.head ?_ w
  cases hb:r.begun with
  |false=>rfl
  |true=>exact absurd (hh.trans hb.symm) a0
 rename_i hh;have hb:r.begun=true:=by
  cases hb:r.begun with
  |true=>rfl
  |false=>exact absurd ((Bool.eq_false_iff.2 hh).trans hb.symm) a0
 obtain⟨e1,e2,e3⟩:=r.stmt_tb a w;intro _;have h5:=h hb;unfold RS.tab at h5⊢;rw[e1,e2,e3];exact h5
def rows_lt:∀(ls:List (List UInt8)) (r:RS) (i:Nat),r.Lt->(rows r i ls).2.2.Lt
 |[],r,i,h=>h
 |[l],r,i,h=>by
  rw[rows]
  split
  ·split<;>exact h
  exact h
 |l::m::ls,r,i,h=>by
  rw[rows]
  split
  ·exact h
  split
  ·exact h
  exact rows_lt (m::ls) _ (i+1) (h.row _ _)
def readProg_Lv(s:List UInt8)(h0:(readProg s).1=0):(readProg s).2.2.Lv:=by
 obtain⟨h1,h2,h3⟩:=readProg_lv s;refine⟨h1,?_,h2,h3⟩;unfold readProg at h0⊢
 by_cases hs:1200<s.length
 ·rw[if_pos hs]at h0;cases h0
 rw[if_neg hs]at h0⊢;obtain⟨-,hb,-,-⟩:=rows_ok _ RS.zero 0 fine0 h0;exact RS.lat (rows_lt (cutR 10 s) RS.zero 0 (λh=>by cases h) hb)
end Fl
def Jo(h:p.Lv):Fl.LvOk p (Fl.start p):=by
 unfold Fl.start Fl.vars;refine⟨by simp,λi hi=>?_⟩;rw[Qa]
 by_cases hc:i<p.cells.length
 ·rw[List.getElem?_append_left (by simpa using hc),List.getElem?_map,Qb hc]
  have:=h.ce _ (List.getElem_mem hc);simp only[Option.map_some,Option.getD_some];omega
 rw[List.getElem?_append_right (by simp;omega),List.getElem?_replicate];have:=h.low;simp at hi;rw[if_pos (by simp;omega)];exact this
namespace Fl
def raise_ok{p:Prog}(lv:p.Lv)(ho:p.Ok):∀(f:Nat) (vs:List Int),LvOk p vs->LvOk p (raise p f vs)/\(raise p f vs).take p.cells.length=vs.take p.cells.length
 |0,vs,h=>⟨h,rfl⟩
 |f+1,vs,h=>by
  unfold raise
  split
  ·rename_i vs' hr
   unfold rise at hr
   split at hr
   ·rename_i m hm
    injection hr with hr;subst hr;have hp:=List.find?_some (p:=λm=>ofLocal p m.1 && !fitsM p vs m) hm;have hmem:=List.mem_of_find?_eq_some hm;rw[Bool.and_eq_true]at hp;have a0:=lv.low;have b0:=zx9 lv h 4 p.body (low p).toNat (by rw[h.1];exact ho.body) (by omega) m (by rw[show (((low p).toNat:Nat):Int)=low p by omega];exact hmem);have h1:=(rise_ok lv h b0 hp.1 (by simpa using hp.2)).1;obtain⟨g1,g2⟩:=raise_ok lv ho f _ h1;refine⟨g1,g2.trans ?_⟩;have hl:=hp.1;unfold ofLocal at hl;rw[Bool.and_eq_true,decide_eq_true_eq,decide_eq_true_eq]at hl;rw[List.take_set,List.set_eq_of_length_le (by rw[List.length_take];omega)]
   cases hr
  exact⟨h,rfl⟩
def found_ok(lv:p.Lv)(ho:p.Ok):LvOk p (found p)/\vars p ((found p).drop p.cells.length)=found p:=by
 obtain⟨h1,h2⟩:=raise_ok lv ho 25 (start p) (Jo lv);refine⟨h1,?_⟩;have e:(start p).take p.cells.length=p.cells.map (λ(x:Nat)=>(x:Int)):=by
  unfold start vars;rw[List.take_append_of_le_length (by simp),List.take_of_length_le (by simp)]
 show p.cells.map (λ(x:Nat)=>(x:Int))++(found p).drop p.cells.length=found p;rw[<-e,<-h2];exact List.take_append_drop _ _
def Stmt.Fit(s:Stmt):Prop:=0<s.line/\(s.kind=3\/s.kind=4->s.body=[]/\s.other=[])
def LPos:Nat->List Stmt->Prop
 |0,_=>True
 |d+1,l=>∀s∈l,s.Fit/\LPos d s.body/\LPos d s.other
def moves_line{p:Prog}{vs:List Int}:∀(d:Nat) (l:List Stmt) (u:Int),LPos d l->∀m∈moves p vs d l u,0<m.1.line
 |0,_,_,_,m,hm=>by cases hm
 |d+1,l,u,h,m,hm=>by
  obtain⟨s,hs,hm⟩:=List.mem_flatMap.1 (show m∈l.flatMap (movesOne (moves p vs d) p vs u) from hm);obtain⟨h1,h2,h3⟩:=h s hs;unfold movesOne at hm
  split at hm
  ·rw[List.mem_singleton]at hm
   rw[hm];exact h1.1
  split at hm
  ·rcases List.mem_append.1 hm with hm|hm
   ·exact moves_line d _ _ h2 m hm
   exact moves_line d _ _ h3 m hm
  cases hm
def fits_all(hl:LPos 4 p.body)(h:firstDown p vs=0):∀m∈moves p vs 4 p.body (low p),fitsM p vs m=true:=λm hm=>by
 unfold firstDown at h
 split at h
 ·rename_i m' hm'
  have:=moves_line 4 p.body (low p) hl m' (List.mem_of_find?_eq_some hm');omega
 rename_i hn;rw[List.find?_eq_none]at hn;have:=hn m hm;simpa using this
def mem_getD{l:List Int}{v:Int}(h:v∈l):∃i,i<l.length/\l.getD i 0=v:=by
 obtain⟨i,hi,e⟩:=List.getElem_of_mem h;exact⟨i,hi,by rw[Qa,Qb hi];exact e⟩
def infer_check(lv:p.Lv)(ho:p.Ok)(hl:LPos 4 p.body)(h0:(infer p).1=0):check p (infer p).2.1 (infer p).2.2=(0,-1)/\ofAll 4 (infer p).2.2 (((infer p).2.2.length:Int) - 1) p.body=true:=by
 unfold infer at h0⊢
 by_cases hd:0<firstDown p (found p)
 ·rw[if_pos hd]at h0;simp only at h0;omega
 rw[if_neg hd];obtain⟨hv,b0⟩:=found_ok lv ho;have hB:=wBlock_ok lv hv b0 4 [] p.body (low p) (Fol.nil _ _) (by rw[hv.1];exact ho.body) lv.low (fits_all hl (by omega));simp only;generalize wBlock p (found p) 4 [] p.body (low p)=r at*;have hr:r.1=(r.2.length:Int) - 1:=by
  rcases hB.pu.new with n|n
  ·have:=hB.pu.rng
   rw[n]at this;simp at this;omega
  exact n
 have a0:ofAll 4 r.2 ((r.2.length:Int) - 1) p.body=true:=by rw[<-hr];exact hB.al
 refine⟨?_,a0⟩;unfold check;rw[if_neg,find_none _ _ (λj hj=>by rw[(hB.pu.fol j hj).2.1];rfl)]
 ·simp only
  rw[a0];rfl
 rintro(h|h)
 ·exact h (by rw[List.length_drop,hv.1];omega)
 obtain⟨v,hm,hc⟩:=List.any_eq_true.1 h;obtain⟨i,hi,e⟩:=mem_getD (List.mem_of_mem_drop hm);have:=hv.2 i hi;have:=of_decide_eq_true hc;omega
structure RS.Pos(r:RS):Prop where
 top:∀d,LPos d r.top
 fr:∀f∈r.fr,(0<f.line/\(f.kind=5\/f.kind=6))/\(∀d,LPos d f.first)/\∀d,LPos d f.els
def Frame.fit{f:Frame}(h:0<f.line/\(f.kind=5\/f.kind=6)):f.done.Fit:=⟨h.1,λhk=>by have e:f.done.kind=f.kind:=rfl;omega⟩
def LPos.snoc{l:List Stmt}(h:∀d,LPos d l){s:Stmt}(hs:s.Fit)(h1:∀d,LPos d s.body)(h2:∀d,LPos d s.other):∀d,LPos d (l++[s])
 |0=>trivial
 |d+1=>λx hx=>by
  rcases List.mem_append.1 hx with hx|hx
  ·exact h (d+1) x hx
  rw[List.mem_singleton]at hx;rw[hx];exact⟨hs,h1 d,h2 d⟩
def LPos.nil:∀d,LPos d []
 |0=>trivial
 |d+1=>λx hx=>by cases hx
def pos0:RS.zero.Pos:=⟨LPos.nil,λf hf=>by cases hf⟩
def RS.Pos.put{r:RS}(h:r.Pos){s:Stmt}(hs:s.Fit)(h1:∀d,LPos d s.body)(h2:∀d,LPos d s.other):(r.put s).Pos:=by
 unfold RS.put
 split
 ·exact⟨LPos.snoc h.top hs h1 h2,h.fr⟩
 rename_i f fs hf;have a0:=h.fr;rw[hf]at a0;have h0:=a0 f (by simp);refine⟨h.top,λg hg=>?_⟩;rcases List.mem_cons.1 hg with rfl|hg
 ·split
  ·exact⟨h0.1,h0.2.1,LPos.snoc h0.2.2 hs h1 h2⟩
  exact⟨h0.1,LPos.snoc h0.2.1 hs h1 h2,h0.2.2⟩
 exact a0 g (by simp[hg])
def RS.Pos.ends{r:RS}(h:r.Pos):r.ends.Pos:=by
 unfold RS.ends
 split
 ·exact h
 ·rename_i f hf
  have a0:=h.fr;rw[hf]at a0;have h0:=a0 f (by simp);exact⟨LPos.snoc (s:=f.done) h.top (Frame.fit h0.1) h0.2.1 h0.2.2,λg hg=>by cases hg⟩
 rename_i f g fs hf;have a0:=h.fr;rw[hf]at a0;have h0:=a0 f (by simp);have h9:=a0 g (by simp);refine⟨h.top,λg' hg=>?_⟩;rcases List.mem_cons.1 hg with rfl|hg
 ·split
  ·exact⟨h9.1,h9.2.1,LPos.snoc (s:=f.done) h9.2.2 (Frame.fit h0.1) h0.2.1 h0.2.2⟩
  exact⟨h9.1,LPos.snoc (s:=f.done) h9.2.1 (Frame.fit h0.1) h0.2.1 h0.2.2,h9.2.2⟩
 exact a0 g' (by simp[hg])
def RS.Pos.elses{r:RS}(h:r.Pos):r.elses.Pos:=by
 unfold RS.elses
 split
 ·exact h
 rename_i f fs hf;have a0:=h.fr;rw[hf]at a0;have h0:=a0 f (by simp);refine⟨h.top,λg hg=>?_⟩;rcases List.mem_cons.1 hg with rfl|hg
 ·exact h0
 exact a0 g (by simp[hg])
def RS.Pos.same{r r':RS}(h:r.Pos)(e:r'.top=r.top/\r'.fr=r.fr):r'.Pos:=⟨by rw[e.1];exact h.top,by rw[e.2];exact h.fr⟩
def RS.target_tf(r:RS)(n:List UInt8){r':RS}(h:r.target n=some (x,r')):r'.top=r.top/\r'.fr=r.fr/\r'.begun=r.begun:=by
 unfold RS.target at h
 split at h
 ·simp only[Option.some.injEq,Prod.mk.injEq]at h;rw[<-h.2];exact⟨rfl,rfl,rfl⟩
 split at h
 ·simp only[Option.some.injEq,Prod.mk.injEq]at h;rw[<-h.2];exact⟨rfl,rfl,rfl⟩
 split at h
 ·cases h
 simp only[Option.some.injEq,Prod.mk.injEq]at h;rw[<-h.2];exact⟨rfl,rfl,rfl⟩
def RS.Pos.stmt{r:RS}(h:r.Pos){a:Nat}(ha:0<a)(w:List (List UInt8)):(r.stmt a w).2.Pos:=by
 unfold RS.stmt
 split
 ·split
  ·exact h
  split
  ·split
   ·exact h.elses
   exact h
  exact h.ends
 ·split
  ·exact h
  split
  ·exact h
  refine⟨h.top,λg hg=>?_⟩;rcases List.mem_cons.1 hg with rfl|hg
  ·exact⟨⟨ha,by show (if _ then 5 else 6)=5\/(if _ then 5 else 6)=6;split<;>simp⟩,LPos.nil,LPos.nil⟩
  exact h.fr g hg
 ·split
  ·exact h
  split
  ·split
   ·exact h
   split
   ·exact h
   exact h.put ⟨ha,λ_=>⟨rfl,rfl⟩⟩ LPos.nil LPos.nil
  split
  ·exact h
  split
  ·exact h
  rename_i hh
  split
  ·exact h
  have h1:=r.target_tf _ hh;exact(h.same ⟨h1.1,h1.2.1⟩).put ⟨ha,λ_=>⟨rfl,rfl⟩⟩ LPos.nil LPos.nil
 exact h
def RS.head_same(r:RS)(w:List (List UInt8)):(r.head w).2.top=r.top/\(r.head w).2.fr=r.fr:=by
 unfold RS.head
 repeat' split
 all_goals exact⟨rfl,rfl⟩
def RS.Pos.row{r:RS}(h:r.Pos)(w:List (List UInt8)){a:Nat}(ha:0<a):(r.row w a).2.Pos:=by
 unfold RS.row
 split
 ·exact h
 split
 ·exact h.same (r.head_same w)
 exact h.stmt ha w
def rows_pos:∀(ls:List (List UInt8)) (r:RS) (i:Nat),r.Pos->(rows r i ls).2.2.Pos
 |[],r,i,h=>h
 |[l],r,i,h=>by
  rw[rows]
  split
  ·split<;>exact h
  exact h
 |l::m::ls,r,i,h=>by
  rw[rows]
  split
  ·exact h
  split
  ·exact h
  exact rows_pos (m::ls) _ (i+1) (h.row _ (by omega))
def readProg_pos(s:List UInt8)(d:Nat):LPos d (readProg s).2.2.body:=by
 unfold readProg
 split
 ·exact pos0.top d
 exact(rows_pos (cutR 10 s) RS.zero 0 pos0).top d
end Fl
open Go.RowKit
section
variable{n q1 q2:Nat}
def zny(s:List UInt8)(ls:List Int)(M q0:Nat):(List Int×List Fl.Node)×Bool×Int:=
 let r:=Fl.nodesA s M 0 q0 [] []
 if 0<=r.2.2.2 then(([],[]),false,r.2.2.2) else
 if r.2.2.1<s.length then(([],[]),false,r.2.2.1) else
 if 0<=Fl.shaped r.1 then(([],[]),false,r.2.1.getD (Fl.shaped r.1).toNat 0) else((ls,r.1),true,0)
end
section
variable{k:Nat}{nv:Value}
def PL.fails(h:PL s M q0 w b P0 lv ls wr k q sv nv st acc lvs)(hk:k<M)(hb:(Fl.one s q k).2.1<0):zny s ls M q0=(([],[]),false,(Fl.one s q k).2.2):=by
 have a0:=Fl.one_ok s q k h.hq;have hr:Fl.nodesA s M 0 q0 [] []=(acc,st,(q:Int),(Fl.one s q k).2.2):=by
  rw[h.hrun,show M - k=(M - (k+1))+1 from by omega];simp only[Fl.nodesA];rw[if_pos hb]
 unfold zny;simp only[hr];rw[if_pos (by omega)]
def PL.ends(h:PL s M q0 w b P0 lv ls wr k q sv nv st acc lvs)(hk:¬k<M):zny s ls M q0=if q<s.length then(([],[]),false,(q:Int)) else if 0<=Fl.shaped acc then(([],[]),false,st.getD (Fl.shaped acc).toNat 0) else((ls,acc),true,0):=by
 have a0:k=M:=by have:=h.hk;omega
 have hr:Fl.nodesA s M 0 q0 [] []=(acc,st,(q:Int),-1):=by
  rw[h.hrun,a0,Nat.sub_self];rfl
 unfold zny;simp only[hr];rw[if_neg (by decide)]
 by_cases h1:q<s.length
 ·rw[if_pos (by omega),if_pos h1]
 rw[if_neg (by omega),if_neg h1]
end
structure PC(w:World)(b P0:Nat)(lv:Value)(wr:World)(q:Nat)(s34 nc1:Value)(fam:List (Value×List Int))(sv nv:Value)(n1 n2:Nat)(xs ys:List Value):Prop where
 hl:Li (P0+1) wr fam sv nv n1 n2 xs ys
 c0:wr.cell? (Aq P0 0)=some lv
 c1:wr.cell? (Aq P0 1)=some nc1
 d0:wr.cell? (Aq w.heap.size 0)=some Zq
 d1:wr.cell? (Aq w.heap.size 1)=some Zq
 f0:∀j,wr.frozen? (Aq w.heap.size j)=false
 f1:∀j,wr.frozen? (Aq P0 j)=false
 fb:∀j,wr.frozen? (Aq b j)=false
 fr:Fr w wr b
 a1:wr.cell? (Aq b 1)=some (Iq (q:Int))
 a34:wr.cell? (Aq b 34)=some s34
 hR:w.heap.size<P0
 hP:P0<wr.heap.size
 hb:b<w.heap.size
section
variable{s34 nc1:Value}{fam:List (Value×List Int)}{nv:Value}{n1 n2:Nat}{xs ys:List Value}
def PC.own(h:PC w b P0 lv wr q s34 nc1 fam sv nv n1 n2 xs ys){row:Option Nat}(g:wr.grownBy w' row)(a0:∀k,row=some k->P0+1<=k){n1' n2':Nat}{xs' ys':List Value}{fam':List (Value×List Int)}(hl:Li (P0+1) w' fam' sv' nv' n1' n2' xs' ys'):PC w b P0 lv w' q s34 nc1 fam' sv' nv' n1' n2' xs' ys':=by
 have hR:=h.hR;have hb:=h.hb;have hP:=h.hP
 have ne:∀k,k<=P0->some k≠row:=λk hk e=>by have:=a0 k e.symm;omega
 have fz:∀(N j:Nat),N<wr.heap.size->N<=P0->w'.frozen? (Aq N j)=wr.frozen? (Aq N j):=λN j hN hk=>Qd (w:=wr) (a:=(Aq N j)) (g.block N hN (ne N hk));exact⟨hl,g.cell h.c0 (ne _ (Nat.le_refl _)),g.cell h.c1 (ne _ (Nat.le_refl _)),g.cell h.d0 (ne _ (by show w.heap.size<=P0;omega)),g.cell h.d1 (ne _ (by show w.heap.size<=P0;omega)),λj=>(fz _ j (by omega) (by omega)).trans (h.f0 j),λj=>(fz _ j hP (by omega)).trans (h.f1 j),λj=>(fz _ j (by omega) (by omega)).trans (h.fb j),h.fr.andGrown g hb (λk e=>by have:=a0 k e;omega),g.cell h.a1 (ne _ (by show b<=P0;omega)),g.cell h.a34 (ne _ (by show b<=P0;omega)),hR,Qj hP g.size,hb⟩
def PC.alloc(h:PC w b P0 lv wr q s34 nc1 fam sv nv n1 n2 xs ys)(o:Obj):PC w b P0 lv (wr.alloc o) q s34 nc1 fam sv nv n1 n2 xs ys:=
 h.own (World.grownBy_alloc wr o none) (λk e=>by cases e) (h.hl.stay (Vd.alloc _ _ _))
def PC.drew(h:PC w b P0 lv wr q s34 nc1 fam sv nv n1 n2 xs ys):PC w b P0 lv wr.drew q s34 nc1 fam sv nv n1 n2 xs ys:=
 h.own (w':=wr.drew) (row:=none) ⟨rfl,rfl,rfl,Nat.le_refl _,λ_ _ _=>rfl⟩ (λk e=>by cases e) (h.hl.stay (w':=wr.drew) ⟨Nat.le_refl _,λ_ _ _=>rfl⟩)
def PC.below(h:PC w b P0 lv wr q s34 nc1 fam sv nv n1 n2 xs ys)(hb:Bq wr w'):PC w b P0 lv w' q s34 nc1 fam sv nv n1 n2 xs ys:=
 h.own (row:=none) ⟨hb.os,hb.tape,hb.output,hb.size,λk hk _=>hb.block k hk⟩ (λk e=>by cases e) (h.hl.stay (Vd.below hb))
def PC.first(h:PC w b P0 lv wr q s34 nc1 fam sv nv n1 n2 xs ys){sv':Value}{n1':Nat}{xs':List Value}(ho:w'.ownsRow (P0+1) 3 1 sv' n1' xs')(hg:wr.grownBy w' sv.ownBlock)(hw:sv'.ownBlock=sv.ownBlock\/sv'.ownBlock=some wr.heap.size):PC w b P0 lv w' q s34 nc1 fam sv' nv n1' n2 xs' ys:=
 h.own hg (λk e=>(h.hl.hs.lt k e).1) (h.hl.first ho hg hw)
def PC.second(h:PC w b P0 lv wr q s34 nc1 fam sv nv n1 n2 xs ys){nv':Value}{n2':Nat}{ys':List Value}(ho:w'.ownsRow (P0+1) 92 6 nv' n2' ys')(hg:wr.grownBy w' nv.ownBlock)(hw:nv'.ownBlock=nv.ownBlock\/nv'.ownBlock=some wr.heap.size):PC w b P0 lv w' q s34 nc1 fam sv nv' n1 n2' xs ys':=
 h.own hg (λk e=>(h.hl.hn.lt k e).1) (h.hl.second ho hg hw)
def PC.add(h:PC w b P0 lv wr q s34 nc1 fam sv nv n1 n2 xs ys){lvn:Value}{l:List Int}{N:Nat}(hi:Zw wr.heap.size wr lvn l)(hf:∀b,lvn.ownBlock=some b->N<=b)(a0:∀b,sv.ownBlock=some b->b<N)(b0:∀b,nv.ownBlock=some b->b<N)(hN:P0+1<=N):PC w b P0 lv wr q s34 nc1 (fam++[(lvn,l)]) sv nv n1 n2 xs ys:=
 ⟨h.hl.add hi hf a0 b0 hN,h.c0,h.c1,h.d0,h.d1,h.f0,h.f1,h.fb,h.fr,h.a1,h.a34,h.hR,h.hP,h.hb⟩
def PC.move(h:PC w b P0 lv wr q s34 nc1 fam sv nv n1 n2 xs ys)(m:Mv wr w' b){q':Nat}(c:w'.cell? (Aq b 1)=some (Iq (q':Int))):PC w b P0 lv w' q' s34 nc1 fam sv nv n1 n2 xs ys:=by
 have hR:=h.hR;have hb:=h.hb;have hP:=h.hP
 have n1:some P0≠some b:=by simp;omega
 have n2:some w.heap.size≠some b:=by simp;omega
 have fz:∀(N j:Nat),N<wr.heap.size->some N≠some b->w'.frozen? (Aq N j)=wr.frozen? (Aq N j):=λN j hN a0=>Qd (w:=wr) (a:=(Aq N j)) (m.g.block N hN a0);exact⟨h.hl.stay (Vd.grown m.g (λk e=>by injection e with e;omega)),m.g.cell h.c0 n1,m.g.cell h.c1 n1,m.g.cell h.d0 n2,m.g.cell h.d1 n2,λj=>(fz _ j (by omega) n2).trans (h.f0 j),λj=>(fz _ j hP n1).trans (h.f1 j),λj=>(m.f j).trans (h.fb j),h.fr.trans m.fr,c,(m.o 34 (by decide)).trans h.a34,hR,Qj hP m.g.size,hb⟩
end
section
variable{k:Nat}{nv:Value}
def PL.pc(h:PL s M q0 w b P0 lv ls wr k q sv nv st acc lvs):PC w b P0 lv wr q sv nv ((lv,ls)::Xo acc lvs) sv nv k k (st.map (Value.int .i64)) (flat acc lvs):=
 ⟨h.hl,h.c0,h.c1,h.d0,h.d1,h.f0,h.f1,h.fb,h.fr,h.a1,h.a34,h.hR,h.hP,h.hb⟩
def PL.step(h:PL s M q0 w b P0 lv ls wr k q sv nv st acc lvs)(b0:k<M){nd:Fl.Node}{af:Nat}(ho:Fl.one s q k=(nd,(af:Int),z))(a0:af<=s.length){lvn:Value}
  (hc:PC w b P0 lv w' af sv' nv' (((lv,ls)::Xo acc lvs)++[(lvn,nd.list)]) sv' nv' (k+1) (k+1) (st.map (Value.int .i64)++[Iq (q:Int)]) (flat acc lvs++Yl nd lvn)):
  PL s M q0 w b P0 lv ls w' (k+1) af sv' nv' (st++[(q:Int)]) (acc++[nd]) (lvs++[lvn]):=by
 have hlen:lvs.length=acc.length:=by rw[h.hacc,h.hlvs]
 have hgood:Fl.good k nd:=by
  have:=Fl.one_good' s q k h.hq (by rw[ho];simp only;omega);rw[ho]at this;exact this
 refine⟨by omega,a0,by simp[h.hst],by simp[h.hacc],by simp[h.hlvs],?_,Fl.allGood_snoc h.hgood (by rw[h.hacc];exact hgood),?_,hc.c0,hc.c1,hc.d0,hc.d1,hc.f0,hc.f1,hc.fb,hc.fr,hc.a1,hc.a34,hc.hR,hc.hP,hc.hb⟩
 ·rw[h.hrun,show M - k=(M - (k+1))+1 from by omega];simp only[Fl.nodesA,ho,Int.toNat_natCast];rw[if_neg (by omega)]
 rw[Jt _ _ _ _ hlen,zv9 _ _ _ _ hlen,List.map_append];exact hc.hl
end
def zev{o:Obj}{e:TypeId}{x:Value}:∀j u,[x][j]?=some u->((w.alloc o).alloc (.cells #[x] e)).cell? (((Aq (w.heap.size+1) 0):Addr).add j)=some u:=by
 intro j u hj;have:=zt4 (w:=w.alloc o) (e:=e) j u hj
 rwa [World.size_alloc]at this
def Vd.mono{base base':Nat}(h:Vd base w w')(hb:base<=base'):Vd base' w w':=⟨h.size,λk hk a0=>h.block k (by omega) a0⟩
structure PB(w wr:World)(b P0:Nat)(lv:Value):Prop where
 c0:wr.cell? (Aq P0 0)=some lv
 c1:wr.cell? (Aq P0 1)=some Zq
 d0:wr.cell? (Aq w.heap.size 0)=some Zq
 d1:wr.cell? (Aq w.heap.size 1)=some Zq
 f0:∀j,wr.frozen? (Aq w.heap.size j)=false
 f1:∀j,wr.frozen? (Aq P0 j)=false
 fb:∀j,wr.frozen? (Aq b j)=false
 m:Mv w wr b
 a34:wr.cell? (Aq b 34)=some Zq
 hR:w.heap.size<P0
 hP:P0<wr.heap.size
 hb:b<w.heap.size
def PB.move(h:PB w wr b P0 lv)(m:Mv wr w' b):PB w w' b P0 lv:=by
 have hR:=h.hR;have hb:=h.hb;have hP:=h.hP
 have n1:some P0≠some b:=by simp;omega
 have n2:some w.heap.size≠some b:=by simp;omega
 have fz:∀(N j:Nat),N<wr.heap.size->some N≠some b->w'.frozen? (Aq N j)=wr.frozen? (Aq N j):=λN j hN a0=>Qd (w:=wr) (a:=(Aq N j)) (m.g.block N hN a0);exact⟨m.g.cell h.c0 n1,m.g.cell h.c1 n1,m.g.cell h.d0 n2,m.g.cell h.d1 n2,λj=>(fz _ j (by omega) n2).trans (h.f0 j),λj=>(fz _ j hP n1).trans (h.f1 j),λj=>(m.f j).trans (h.fb j),h.m.trans m,(m.o 34 (by decide)).trans h.a34,hR,Qj hP m.g.size,hb⟩
def PB.pl(h:PB w wr b P0 lv)(hq:q0<=s.length)(a1:wr.cell? (Aq b 1)=some (Iq (q0:Int)))(hi:Zw wr.heap.size wr lv ls)(a0:∀bb,lv.ownBlock=some bb->P0+1<=bb):
  PL s M q0 w b P0 lv ls wr 0 q0 Zq Zq [] [] []:=by
 refine⟨by omega,hq,rfl,rfl,rfl,rfl,λi hi=>by simp at hi,⟨World.ownsRow_nil _ _ _ _,World.ownsRow_nil _ _ _ _,λp hp=>?_⟩,h.c0,h.c1,h.d0,h.d1,h.f0,h.f1,h.fb,h.m.fr,a1,h.a34,h.hR,h.hP,h.hb⟩;simp only[Xo,List.mem_singleton]at hp;subst hp;refine⟨⟨hi,λhx=>?_⟩,λ_ bb hb=>a0 bb hb⟩;obtain⟨bb,hb,_⟩:=zuy hi hx;rw[hb];exact⟨by simp[Value.ownBlock],by simp[Value.ownBlock]⟩
def Vd.setCell(base:Nat)(w:World)(b i:Nat)(v:Value)(hb:b<base):Vd base w (w.setCell (Aq b i) v):=Vd.grown (zvw w b i v) (λk e=>by injection e with e;omega)
def decArr(bs:Value):Array Value:=#[bs,Iq 0]++Zb++ #[Zq]
def za0(w:World)(b j:Nat)(c:Array Value)(te:TypeId)(h:w.heap[b]?=some (.cells c te)):w.frozen? (Aq b j)=false:=by simp[World.frozen?,h]
def W5(w:World)(bs:Value):World:=((((w.alloc (.cells #[Zq,Zq] 30)).alloc (.cells Zb 210)).alloc (.cells (decArr bs) 213)).alloc (.cells #[.pointer (some (Aq (w.heap.size+2) 0))] 206)).alloc (.cells #[Zq,Zq] 30)
def yw5{wz:World}{N:Nat}{u0 u1:Value}(v0 v1:Value)(c0:wz.cell? (Aq N 0)=some u0)(c1:wz.cell? (Aq N 1)=some u1):
  ((wz.setCell (Aq N 0) v0).setCell (Aq N 1) v1).cell? (Aq N 0)=some v0/\((wz.setCell (Aq N 0) v0).setCell (Aq N 1) v1).cell? (Aq N 1)=some v1/\
  (∀k,k≠N->((wz.setCell (Aq N 0) v0).setCell (Aq N 1) v1).heap[k]?=wz.heap[k]?)/\((wz.setCell (Aq N 0) v0).setCell (Aq N 1) v1).heap.size=wz.heap.size/\
  (∀B w,Below B w wz->B<=N->Below B w ((wz.setCell (Aq N 0) v0).setCell (Aq N 1) v1)):=by
 refine⟨?_,?_,λk hk=>?_,by simp,λB w h hB=>(h.setCell (show B<=((Aq N 0):Addr).block from hB) _).setCell (show B<=((Aq N 1):Addr).block from hB) _⟩
 ·exact(Qg _ _ _ _ (by simp)).trans (World.cell?_setCell_same' _ _ _ (by simp[c0]))
 ·refine World.cell?_setCell_same' _ _ _ ((congrArg Option.isSome (Qg _ _ _ _ (by simp))).trans ?_)
  simp[c1]
 exact(Below.heap_setCell _ _ _ _ (by intro h;exact hk (by simpa using h))).trans (Below.heap_setCell _ _ _ _ (by intro h;exact hk (by simpa using h)))
end Go.Proofs.YtjekbnmnjeoagaaGreatDoor
