import Derived.Test.YtminjljgedopkaaGreatDoorM39
set_option linter.all false
set_option maxRecDepth 100000
set_option maxHeartbeats 40000000
namespace Go.Proofs.YtminjljgedopkaaGreatDoor
open Go.RowKit Go.Proofs.Tryz
namespace Fl
def decode_more{ls:List Int}{ns:List Node}(h:(encode ls ns).2.1=true){r:List UInt8}(hr:r≠[]):decode ((encode ls ns).1++r)=(([],[]),false,((encode ls ns).1.length:Int)):=by
 unfold encode at h⊢
 by_cases h1:4<ls.length\/ns.length=0\/200<ns.length
 ·rw[if_pos h1]at h;simp at h
 rw[if_neg h1]at h⊢
 by_cases h2:ls.all inR=false
 ·rw[if_pos h2]at h;simp at h
 rw[if_neg h2]at h⊢
 by_cases h3:0<=shaped ns
 ·rw[if_pos h3]at h;simp at h
 rw[if_neg h3]
 have hall:ls.all inR=true:=by simpa using h2
 have hrl:0<r.length:=by cases r with
  |nil=>exact absurd rfl hr
  |cons _ _=>simp
 have hlen:(headBytes ls ns++allBytes ns).length=3+(coded ls.length).length+(codedAll ls).length+(coded ns.length).length+(allBytes ns).length:=by unfold headBytes;simp;omega
 simp only;rw[hlen];obtain⟨s,hs⟩:∃s,s=headBytes ls ns++allBytes ns++r:=⟨_,rfl⟩;rw[<-hs]
 have hs':s=[70,80,49]++(coded ls.length++(codedAll ls++(coded ns.length++(allBytes ns++r)))):=by rw[hs];unfold headBytes;simp[List.append_assoc]
 have e3:s.drop 3=coded ls.length++(codedAll ls++(coded ns.length++(allBytes ns++r))):=by rw[hs'];rfl
 have n3:=num_coded e3 (by omega);have e4:=drop_then e3;have n4:=nums_coded e4 hall;have e5:=drop_then e4;have n5:=num_coded e5 (by omega);have e6:=drop_then e5;have hgood:∀i,i<ns.length->sound (nth ns i)=true/\(prem (nth ns i)).any (λx=>decide (((0+i:Nat):Int)<=x))=false:=by
  intro i hi;have h4:shaped ns<0:=(by omega);refine⟨sound_of_shaped h4 i hi,?_⟩;unfold shaped at h4
  cases hf:(List.range ns.length).find? (bad ns) with
  |some j=>rw[hf]at h4;simp only at h4;omega
  |none=>
   rw[List.find?_eq_none]at hf;have:=hf i (by simpa using hi);simp only[bad,Bool.or_eq_true,not_or,Bool.not_eq_true]at this;rw[Nat.zero_add];exact this.2.1
 obtain⟨st',hn⟩:=nodesA_coded s r ns 0 _ [] [] e6 hgood
 have hend:s.length=3+(coded ls.length).length+(codedAll ls).length+(coded ns.length).length+(allBytes ns).length+r.length:=by rw[hs'];simp;omega
 unfold decode;rw[if_neg (by rw[hs',head_coded];omega)];simp only[n3];rw[if_neg (by omega),if_neg (by omega)];simp only[Int.toNat_natCast,n4];rw[if_neg (by omega)];simp only[n5];rw[if_neg (by omega),if_neg (by omega)];simp only[Int.toNat_natCast,hn];rw[if_neg (by omega),if_pos (by rw[hend];omega)]
def decode_cut{ls:List Int}{ns:List Node}(h:(encode ls ns).2.1=true){n:Nat}(hn:n<(encode ls ns).1.length):(decode ((encode ls ns).1.take n)).2.1=false:=by
 cases hd:(decode ((encode ls ns).1.take n)).2.1 with
 |false=>rfl
 |true=>
  exfalso
  have h1:=decode_encode hd
  have hne:(encode ls ns).1.drop n≠[]:=λhh=>by
   have:=congrArg List.length hh;rw[List.length_drop]at this;simp at this;omega
  have h2:=decode_more (ls:=(decode ((encode ls ns).1.take n)).1.1) (ns:=(decode ((encode ls ns).1.take n)).1.2) (by rw[h1]) hne;rw[h1]at h2;simp only[List.take_append_drop]at h2;have h3:=(encode_decode h).1;rw[h2]at h3;simp at h3
end Fl
end Go.Proofs.YtminjljgedopkaaGreatDoor
namespace Go.Proofs.YtminjljgedopkaaGreatDoor
open Go.Proofs.Tryz
namespace Fl
def tM:List UInt8:=[115,101,116,32,122,122,122,122,122,122,32,49,10]
def cutR_app(c:UInt8)(t:List UInt8):∀(s:List UInt8),∃ls last,cutR c s=ls++[last]/\cutR c (s++t)=ls++onHead last (cutR c t)
 |[]=>by
  refine⟨[],[],rfl,?_⟩;have h:=cutR_ne c t;show cutR c t=[]++onHead [] (cutR c t)
  cases hc:cutR c t with
  |nil=>exact absurd hc h
  |cons x y=>simp[onHead]
 |x::s=>by
  obtain⟨ls,last,e1,e2⟩:=cutR_app c t s
  by_cases hx:(x==c)=true
  ·refine⟨[]::ls,last,by rw[cutR,if_pos hx,e1];rfl,?_⟩
   rw[List.cons_append,cutR,if_pos hx,e2];rfl
  ·cases ls with
   |nil=>
    refine⟨[],x::last,by rw[cutR,if_neg hx,e1];rfl,?_⟩;rw[List.cons_append,cutR,if_neg hx,e2]
    cases hc:cutR c t with
    |nil=>exact absurd hc (cutR_ne c t)
    |cons y z=>simp[onHead]
   |cons l ls=>
    refine⟨(x::l)::ls,last,by rw[cutR,if_neg hx,e1];rfl,?_⟩;rw[List.cons_append,cutR,if_neg hx,e2];rfl
def rows_more:∀(L:List (List UInt8)) (r:RS) (i:Nat),(rows r i L).1=0->∃ls,L=ls++[[]]/\∀m ms,rows r i (ls++m::ms)=rows (rows r i L).2.2 (i+ls.length) (m::ms)
 |[],r,i,h=>by rw[rows]at h;cases h
 |[l],r,i,h=>by
  rw[rows]at h⊢
  by_cases h1:l=[]/\0<i
  ·rw[if_pos h1]at h⊢
   refine⟨[],by rw[h1.1];rfl,λm ms=>?_⟩
   by_cases h2:r.begun=true/\r.fr=[]
   ·rw[if_pos h2];rfl
   ·rw[if_neg h2]at h;cases h
  ·rw[if_neg h1]at h;cases h
 |l::m'::L,r,i,h=>by
  rw[rows]at h⊢
  by_cases h1:line (cutR 32 l)=false
  ·rw[if_pos h1]at h;cases h
  rw[if_neg h1]at h⊢
  by_cases h2:(r.row (cutR 32 l) (i+1)).1≠0
  ·rw[if_pos h2]at h;exact absurd h h2
  rw[if_neg h2]at h⊢;obtain⟨ls,e,hq⟩:=rows_more (m'::L) _ (i+1) h;refine⟨l::ls,by rw[e];rfl,λm ms=>?_⟩;have hs:∃y z,ls++m::ms=y::z:=by
   cases ls with
   |nil=>exact⟨m,ms,rfl⟩
   |cons a b=>exact⟨a,b++m::ms,rfl⟩
  obtain⟨y,z,hyz⟩:=hs;have e2:=hq m ms;rw[List.cons_append,hyz,rows,if_neg h1,if_neg h2,<-hyz,e2,List.length_cons]
  congr 1
  omega
def wM:List (List UInt8):=[wSet,[122,122,122,122,122,122],[49]]
def row_more{r:RS}(hb:r.begun=true)(hf:r.fr=[])(a:Nat)(h:(r.row wM a).1=0):(r.row wM a).2.top.length=r.top.length+1:=by
 have e0:isHead (wM.getD 0 [])=false:=by decide
 unfold RS.row at h⊢;rw[e0,hb]at h⊢;rw[if_neg (by simp),if_neg (by simp)]at h⊢;unfold RS.stmt wM at h⊢;simp only at h⊢;have ev:r.value [[49]]=some ⟨-1,⟨false,1⟩,no0⟩:=by
  have ea:r.atom [49]=some ⟨false,1⟩:=by
   unfold RS.atom;rw[if_pos (by decide)];rfl
  show (r.atom [49]).map (λx=>(⟨-1,x,no0⟩:Expr))=_;rw[ea];rfl
 rw[ev]at h⊢;simp only at h⊢;rw[if_neg (by decide)]at h⊢
 by_cases h1:0<=place r.chans [122,122,122,122,122,122]
 ·rw[if_pos h1]at h;cases h
 rw[if_neg h1]at h⊢
 cases ht:r.target [122,122,122,122,122,122] with
 |none=>rw[ht]at h;cases h
 |some q=>
  obtain⟨x,r'⟩:=q;rw[ht]at h;simp only at h⊢
  by_cases h2:16<=r.stmts
  ·rw[if_pos h2]at h;cases h
  rw[if_neg h2];obtain⟨t1,t2,-⟩:=r.target_tf _ ht;unfold RS.put;rw[t2,hf];simp[t1]
def readProg_more{s:List UInt8}(h0:(readProg s).1=0)(h1:(readProg (s++tM)).1=0):(readProg (s++tM)).2.2.body.length=(readProg s).2.2.body.length+1:=by
 unfold readProg at h0 h1⊢
 by_cases hs:1200<s.length
 ·rw[if_pos hs]at h0;cases h0
 rw[if_neg hs]at h0⊢
 by_cases hs2:1200<(s++tM).length
 ·rw[if_pos hs2]at h1;cases h1
 rw[if_neg hs2]at h1⊢;simp only at h0 h1⊢;obtain⟨-,hb,hf,-⟩:=rows_ok _ RS.zero 0 fine0 h0;obtain⟨ls,e,hq⟩:=rows_more _ _ _ h0;obtain⟨ls',last,e1,e2⟩:=cutR_app 10 tM s;rw[e]at e1;obtain⟨e3,e4⟩:=List.append_inj' e1 rfl
 have e5:last=[]:=by injection e4 with e4;exact e4.symm
 have em:cutR 10 tM=[[115,101,116,32,122,122,122,122,122,122,32,49],[]]:=by decide
 have e6:cutR 10 (s++tM)=ls++[115,101,116,32,122,122,122,122,122,122,32,49]::[[]]:=by
  rw[e2,e5,em,e3];rfl
 rw[e6,hq]at h1⊢;generalize (rows RS.zero 0 (cutR 10 s)).2.2=r at*
 have ew:cutR 32 [115,101,116,32,122,122,122,122,122,122,32,49]=wM:=by decide
 rw[rows,ew]at h1⊢;rw[if_neg (by decide)]at h1⊢
 by_cases hr:(r.row wM (0+ls.length+1)).1≠0
 ·rw[if_pos hr]at h1;exact absurd h1 hr
 rw[if_neg hr]at h1⊢;have h5:=row_more hb hf (0+ls.length+1) (Decidable.of_not_not hr);rw[rows]at h1⊢
 by_cases h6:([]:List UInt8)=[]/\0<0+ls.length+1
 ·rw[if_pos h6]at h1⊢
  by_cases h7:(r.row wM (0+ls.length+1)).2.begun=true/\(r.row wM (0+ls.length+1)).2.fr=[]
  ·rw[if_pos h7]
   exact h5
  ·rw[if_neg h7]at h1;cases h1
 ·exact absurd ⟨rfl,by omega⟩ h6
def check_more{p:Prog}{ls:List Int}{x:List Node}{n:Nat}(hl:(nd x ((x.length:Int) - 1)).list.length=n)(hb:p.body.length=n+1):(check p ls x).1≠0:=by
 unfold check
 split
 ·simp
 ·split
  ·simp
  ·have e:ofAll 4 x ((x.length:Int) - 1) p.body=false:=by
    unfold ofAll;rw[show decide ((nd x ((x.length:Int) - 1)).list.length=p.body.length)=false from decide_eq_false (by omega)];simp
   rw[e];simp
def ofAll_len{d:Nat}{x:List Node}{k:Int}{l:List Stmt}(h:ofAll (d+1) x k l=true):(nd x k).list.length=l.length:=by
 unfold ofAll at h;simp only[Bool.and_eq_true,decide_eq_true_eq]at h;exact h.2.1
end Fl
namespace Fl
def inferE_bad{q:Nat×Nat×Prog}(h:(inferE q).1≠0):(inferE q).2.2=[]:=by
 unfold inferE at h⊢
 split
 ·rfl
 ·split
  ·rfl
  ·split
   ·rfl
   ·rename_i h1 h2 h3
    rw[if_neg h1,if_neg h2,if_neg h3]at h;exact absurd rfl h
def inferE_ok{q:Nat×Nat×Prog}(h:(inferE q).1=0):q.1=0/\(infer q.2.2).1=0/\(encode (infer q.2.2).2.1 (infer q.2.2).2.2).2.1=true/\(inferE q).2.2=(encode (infer q.2.2).2.1 (infer q.2.2).2.2).1:=by
 unfold inferE at h⊢
 by_cases h1:q.1≠0
 ·rw[if_pos h1]at h;exact absurd h h1
 by_cases h2:0<(infer q.2.2).1
 ·rw[if_neg h1,if_pos h2]at h;cases h
 by_cases h3:(encode (infer q.2.2).2.1 (infer q.2.2).2.2).2.1=false
 ·rw[if_neg h1,if_neg h2,if_pos h3]at h;cases h
 rw[if_neg h1,if_neg h2,if_neg h3];exact⟨Decidable.of_not_not h1,by omega,by simpa using h3,rfl⟩
def found_dec{l:List UInt8}(h:(inferE (readProg l)).1=0):decode (inferE (readProg l)).2.2=(((infer (readProg l).2.2).2.1,(infer (readProg l).2.2).2.2),true,0):=by
 obtain⟨h1,h2,h3,h4⟩:=inferE_ok h;rw[h4];exact(encode_decode h3).1
def found_chk{l:List UInt8}(h:(inferE (readProg l)).1=0):checked (readProg l) (decode (inferE (readProg l)).2.2)=(0,-1):=by
 obtain⟨h1,h2,h3,h4⟩:=inferE_ok h;unfold checked;rw[if_neg (by rw[h1];simp),found_dec h,if_neg (by simp)];exact(infer_check (readProg_Lv l h1) (readProg_ok l h1).1 (readProg_pos l 4) h2).1
def found_more{l:List UInt8}(h:(inferE (readProg l)).1=0):(checked (readProg (l++tM)) (decode (inferE (readProg l)).2.2)).1≠0:=by
 obtain⟨h1,h2,h3,h4⟩:=inferE_ok h;unfold checked;rw[found_dec h]
 by_cases h5:(readProg (l++tM)).1≠0
 ·rw[if_pos h5];exact h5
 ·rw[if_neg h5,if_neg (by simp)]
  have h6:=readProg_more h1 (Decidable.of_not_not h5);exact check_more (ofAll_len (infer_check (readProg_Lv l h1) (readProg_ok l h1).1 (readProg_pos l 4) h2).2) h6
def cut_more{l:List UInt8}(h:(inferE (readProg l)).1=0)(c:UInt8):decode ((inferE (readProg l)).2.2++[c])=(([],[]),false,((inferE (readProg l)).2.2.length:Int)):=by
 obtain⟨h1,h2,h3,h4⟩:=inferE_ok h;rw[h4];exact decode_more h3 (by simp)
def cut_cut{l:List UInt8}(h:(inferE (readProg l)).1=0){n:Nat}(hn:n<(inferE (readProg l)).2.2.length):(decode ((inferE (readProg l)).2.2.take n)).2.1=false/\(checked (readProg l) (decode ((inferE (readProg l)).2.2.take n))).1=8:=by
 obtain⟨h1,h2,h3,h4⟩:=inferE_ok h;rw[h4]at hn⊢;have h5:=decode_cut h3 hn;refine⟨h5,?_⟩;unfold checked;rw[if_neg (by rw[h1];simp),if_pos h5]
def found_pos{l:List UInt8}(h:(inferE (readProg l)).1=0):3<=(inferE (readProg l)).2.2.length:=by
 have h1:=found_dec h;refine Classical.byContradiction λhn=>?_;have h2:=congrArg (λx=>x.2.1) h1;unfold decode at h2
 by_cases h0:headAt (inferE (readProg l)).2.2<3
 ·rw[if_pos h0]at h2;simp at h2
 ·have:=(head_back h0).2
  omega
def encode_len{ls:List Int}{ns:List Node}(h:(encode ls ns).2.1=true):(encode ls ns).1.length<=100000:=by
 unfold encode at h⊢
 by_cases h1:4<ls.length\/ns.length=0\/200<ns.length
 ·rw[if_pos h1]at h;simp at h
 rw[if_neg h1]at h⊢
 by_cases h2:ls.all inR=false
 ·rw[if_pos h2]at h;simp at h
 rw[if_neg h2]at h⊢
 by_cases h3:0<=shaped ns
 ·rw[if_pos h3]at h;simp at h
 rw[if_neg h3]
 have a1:=allBytes_len ns (λx hx=>by
  obtain⟨i,hi,e⟩:=List.getElem_of_mem hx;have h4:=sound_of_shaped (ns:=ns) (by omega) i hi;unfold nth at h4;rw[List.getD_eq_getElem?_getD,List.getElem?_eq_getElem hi]at h4;rw[<-e]
  exact h4)
 have a2:=coded_len ls.length;have a3:=codedAll_len ls;have a4:=coded_len ns.length;simp only[headBytes,List.length_append,List.length_cons,List.length_nil];omega
def found_len{l:List UInt8}(h:(inferE (readProg l)).1=0):(inferE (readProg l)).2.2.length<=100000:=by
 obtain⟨h1,h2,h3,h4⟩:=inferE_ok h;rw[h4];exact encode_len h3
end Fl
end Go.Proofs.YtminjljgedopkaaGreatDoor
