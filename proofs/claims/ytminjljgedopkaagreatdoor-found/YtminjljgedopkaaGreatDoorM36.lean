import Derived.Test.YtminjljgedopkaaGreatDoorM19
set_option linter.all false
set_option maxRecDepth 100000
set_option maxHeartbeats 40000000
namespace Go.Proofs.YtminjljgedopkaaGreatDoor
open Go.Proofs.Tryz
namespace Fl
def tM:List UInt8:=[115,101,116,32,122,122,122,122,122,122,32,49,10]
def cutR_app(c:UInt8)(t:List UInt8):∀(s:List UInt8),∃ls last,cutR c s=ls++[last]/\cutR c (s++t)=ls++onHead last (cutR c t)
 |[]=>by
  refine⟨[],[],rfl,?_⟩;have h:=cutR_ne c t;show cutR c t=[]++onHead [] (cutR c t)
  cases hc:cutR c t with
  |nil=>exact absurd hc h
  |cons x y=>simp[onHead]
 |x::s=>by
  obtain⟨ls,last,e1,e2⟩:=cutR_app c t s
  by_cases hx:(x==c)=true
  ·refine⟨[]::ls,last,by rw[cutR,if_pos hx,e1];rfl,?_⟩
   rw[List.cons_append,cutR,if_pos hx,e2];rfl
  ·cases ls with
   |nil=>
    refine⟨[],x::last,by rw[cutR,if_neg hx,e1];rfl,?_⟩;rw[List.cons_append,cutR,if_neg hx,e2]
    cases hc:cutR c t with
    |nil=>exact absurd hc (cutR_ne c t)
    |cons y z=>simp[onHead]
   |cons l ls=>
    refine⟨(x::l)::ls,last,by rw[cutR,if_neg hx,e1];rfl,?_⟩;rw[List.cons_append,cutR,if_neg hx,e2];rfl
def rows_more:∀(L:List (List UInt8)) (r:RS) (i:Nat),(rows r i L).1=0->∃ls,L=ls++[[]]/\∀m ms,rows r i (ls++m::ms)=rows (rows r i L).2.2 (i+ls.length) (m::ms)
 |[],r,i,h=>by rw[rows]at h;cases h
 |[l],r,i,h=>by
  rw[rows]at h⊢
  by_cases h1:l=[]/\0<i
  ·rw[if_pos h1]at h⊢
   refine⟨[],by rw[h1.1];rfl,λm ms=>?_⟩
   by_cases h2:r.begun=true/\r.fr=[]
   ·rw[if_pos h2];rfl
   ·rw[if_neg h2]at h;cases h
  ·rw[if_neg h1]at h;cases h
 |l::m'::L,r,i,h=>by
  rw[rows]at h⊢
  by_cases h1:line (cutR 32 l)=false
  ·rw[if_pos h1]at h;cases h
  rw[if_neg h1]at h⊢
  by_cases h2:(r.row (cutR 32 l) (i+1)).1≠0
  ·rw[if_pos h2]at h;exact absurd h h2
  rw[if_neg h2]at h⊢;obtain⟨ls,e,hq⟩:=rows_more (m'::L) _ (i+1) h;refine⟨l::ls,by rw[e];rfl,λm ms=>?_⟩;have hs:∃y z,ls++m::ms=y::z:=by
   cases ls with
   |nil=>exact⟨m,ms,rfl⟩
   |cons a b=>exact⟨a,b++m::ms,rfl⟩
  obtain⟨y,z,hyz⟩:=hs;have e2:=hq m ms;rw[List.cons_append,hyz,rows,if_neg h1,if_neg h2,<-hyz,e2,List.length_cons]
  congr 1
  omega
def wM:List (List UInt8):=[wSet,[122,122,122,122,122,122],[49]]
def row_more{r:RS}(hb:r.begun=true)(hf:r.fr=[])(a:Nat)(h:(r.row wM a).1=0):(r.row wM a).2.top.length=r.top.length+1:=by
 have e0:isHead (wM.getD 0 [])=false:=by decide
 unfold RS.row at h⊢;rw[e0,hb]at h⊢;rw[if_neg (by simp),if_neg (by simp)]at h⊢;unfold RS.stmt wM at h⊢;simp only at h⊢;have ev:r.value [[49]]=some ⟨-1,⟨false,1⟩,no0⟩:=by
  have ea:r.atom [49]=some ⟨false,1⟩:=by
   unfold RS.atom;rw[if_pos (by decide)];rfl
  show (r.atom [49]).map (λx=>(⟨-1,x,no0⟩:Expr))=_;rw[ea];rfl
 rw[ev]at h⊢;simp only at h⊢;rw[if_neg (by decide)]at h⊢
 by_cases h1:0<=place r.chans [122,122,122,122,122,122]
 ·rw[if_pos h1]at h;cases h
 rw[if_neg h1]at h⊢
 cases ht:r.target [122,122,122,122,122,122] with
 |none=>rw[ht]at h;cases h
 |some q=>
  obtain⟨x,r'⟩:=q;rw[ht]at h;simp only at h⊢
  by_cases h2:16<=r.stmts
  ·rw[if_pos h2]at h;cases h
  rw[if_neg h2];obtain⟨t1,t2,-⟩:=r.target_tf _ ht;unfold RS.put;rw[t2,hf];simp[t1]
def readProg_more{s:List UInt8}(h0:(readProg s).1=0)(h1:(readProg (s++tM)).1=0):(readProg (s++tM)).2.2.body.length=(readProg s).2.2.body.length+1:=by
 unfold readProg at h0 h1⊢
 by_cases hs:1200<s.length
 ·rw[if_pos hs]at h0;cases h0
 rw[if_neg hs]at h0⊢
 by_cases hs2:1200<(s++tM).length
 ·rw[if_pos hs2]at h1;cases h1
 rw[if_neg hs2]at h1⊢;simp only at h0 h1⊢;obtain⟨-,hb,hf,-⟩:=rows_ok _ RS.zero 0 fine0 h0;obtain⟨ls,e,hq⟩:=rows_more _ _ _ h0;obtain⟨ls',last,e1,e2⟩:=cutR_app 10 tM s;rw[e]at e1;obtain⟨e3,e4⟩:=List.append_inj' e1 rfl
 have e5:last=[]:=by injection e4 with e4;exact e4.symm
 have em:cutR 10 tM=[[115,101,116,32,122,122,122,122,122,122,32,49],[]]:=by decide
 have e6:cutR 10 (s++tM)=ls++[115,101,116,32,122,122,122,122,122,122,32,49]::[[]]:=by
  rw[e2,e5,em,e3];rfl
 rw[e6,hq]at h1⊢;generalize (rows RS.zero 0 (cutR 10 s)).2.2=r at*
 have ew:cutR 32 [115,101,116,32,122,122,122,122,122,122,32,49]=wM:=by decide
 rw[rows,ew]at h1⊢;rw[if_neg (by decide)]at h1⊢
 by_cases hr:(r.row wM (0+ls.length+1)).1≠0
 ·rw[if_pos hr]at h1;exact absurd h1 hr
 rw[if_neg hr]at h1⊢;have h5:=row_more hb hf (0+ls.length+1) (Decidable.of_not_not hr);rw[rows]at h1⊢
 by_cases h6:([]:List UInt8)=[]/\0<0+ls.length+1
 ·rw[if_pos h6]at h1⊢
  by_cases h7:(r.row wM (0+ls.length+1)).2.begun=true/\(r.row wM (0+ls.length+1)).2.fr=[]
  ·rw[if_pos h7]
   exact h5
  ·rw[if_neg h7]at h1;cases h1
 ·exact absurd ⟨rfl,by omega⟩ h6
def check_more{p:Prog}{ls:List Int}{x:List Node}{n:Nat}(hl:(nd x ((x.length:Int) - 1)).list.length=n)(hb:p.body.length=n+1):(check p ls x).1≠0:=by
 unfold check
 split
 ·simp
 ·split
  ·simp
  ·have e:ofAll 4 x ((x.length:Int) - 1) p.body=false:=by
    unfold ofAll;rw[show decide ((nd x ((x.length:Int) - 1)).list.length=p.body.length)=false from decide_eq_false (by omega)];simp
   rw[e];simp
def ofAll_len{d:Nat}{x:List Node}{k:Int}{l:List Stmt}(h:ofAll (d+1) x k l=true):(nd x k).list.length=l.length:=by
 unfold ofAll at h;simp only[Bool.and_eq_true,decide_eq_true_eq]at h;exact h.2.1
end Fl
end Go.Proofs.YtminjljgedopkaaGreatDoor
