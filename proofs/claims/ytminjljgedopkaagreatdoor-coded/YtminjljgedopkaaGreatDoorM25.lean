import Derived.Test.YtminjljgedopkaaGreatDoorM13
set_option linter.all false
set_option maxRecDepth 100000
set_option maxHeartbeats 40000000
namespace Go.Proofs.YtminjljgedopkaaGreatDoor
open Go.RowKit Go.Proofs.Tryz
namespace Fl
def headAt_le(s:List UInt8):(headAt s:Int)<=s.length:=by
 unfold headAt
 split
 ·omega
 ·rename_i h0
  have:headOk s 0=true:=by simpa using h0
  unfold headOk at this;simp only[Bool.and_eq_true,decide_eq_true_eq]at this
  split
  ·omega
  ·rename_i h1
   have h1:headOk s 1=true:=(by simpa using h1);unfold headOk at h1;simp only[Bool.and_eq_true,decide_eq_true_eq]at h1
   split
   ·omega
   ·rename_i h2
    have h2:headOk s 2=true:=(by simpa using h2);unfold headOk at h2;simp only[Bool.and_eq_true,decide_eq_true_eq]at h2;omega
def nodesA_place(s:List UInt8):∀(m k p:Nat) (st:List Int) (acc:List Node),p<=s.length->(∀x∈st,0<=x/\x<=(s.length:Int))->
  (nodesA s m k p st acc).2.2.2<=s.length/\0<=(nodesA s m k p st acc).2.2.1/\(nodesA s m k p st acc).2.2.1<=s.length/\∀x∈(nodesA s m k p st acc).2.1,0<=x/\x<=(s.length:Int)
 |0,k,p,st,acc,hp,hs=>by
  refine⟨?_,?_,?_,hs⟩<;>simp only[nodesA]<;>omega
 |m+1,k,p,st,acc,hp,hs=>by
  have ho:=one_ok s p k hp;unfold nodesA
  by_cases h:(one s p k).2.1<0
  ·rw[if_pos h]
   refine⟨?_,?_,?_,hs⟩<;>simp only<;>omega
  ·rw[if_neg h]
   exact nodesA_place s m (k+1) _ _ _ (by omega) λx hx=>by
    rcases List.mem_append.1 hx with h1|h1
    ·exact hs x h1
    ·simp only[List.mem_singleton]at h1;omega
def getD_in{st:List Int}{n:Int}(hn:0<=n)(h:∀x∈st,0<=x/\x<=n)(k:Nat):0<=st.getD k 0/\st.getD k 0<=n:=by
 rw[List.getD_eq_getElem?_getD]
 cases hk:st[k]? with
 |none=>exact⟨Int.le_refl _,hn⟩
 |some y=>exact h y (List.mem_of_getElem? hk)
def decode_place{s:List UInt8}(h:(decode s).2.1=false):0<=(decode s).2.2/\(decode s).2.2<=s.length:=by
 unfold decode at h⊢
 by_cases h0:headAt s<3
 ·rw[if_pos h0]
  have:=headAt_le s;simp only;omega
 rw[if_neg h0]at h⊢;obtain⟨hs,h3⟩:=head_back h0;simp only at h⊢;have hno:=num_ok s 3 h3
 by_cases h1:(num s 3).2.1<0
 ·rw[if_pos h1];simp only;omega
 rw[if_neg h1]at h⊢
 by_cases h2:(4:Int)<(num s 3).1
 ·rw[if_pos h2];simp only;omega
 rw[if_neg h2]at h⊢;have hlo:=nums_ok s (num s 3).2.1.toNat (num s 3).1.toNat (by omega)
 by_cases h4:(nums s (num s 3).2.1.toNat (num s 3).1.toNat).2.1<0
 ·rw[if_pos h4];simp only;omega
 rw[if_neg h4]at h⊢;generalize nums s (num s 3).2.1.toNat (num s 3).1.toNat=l at*;have hmo:=num_ok s l.2.1.toNat (by omega)
 by_cases h5:(num s l.2.1.toNat).2.1<0
 ·rw[if_pos h5];simp only;omega
 rw[if_neg h5]at h⊢
 by_cases h6:(num s l.2.1.toNat).1<1\/200<(num s l.2.1.toNat).1
 ·rw[if_pos h6];simp only;omega
 rw[if_neg h6]at h⊢;have hr:=nodesA_place s (num s l.2.1.toNat).1.toNat 0 (num s l.2.1.toNat).2.1.toNat [] [] (by omega) (λ_ hx=>by cases hx);generalize nodesA s (num s l.2.1.toNat).1.toNat 0 (num s l.2.1.toNat).2.1.toNat [] []=r at*
 by_cases h7:0<=r.2.2.2
 ·rw[if_pos h7];simp only;omega
 rw[if_neg h7]at h⊢
 by_cases h8:r.2.2.1<(s.length:Int)
 ·rw[if_pos h8];simp only;omega
 rw[if_neg h8]at h⊢
 by_cases h9:0<=shaped r.1
 ·rw[if_pos h9];exact getD_in (by omega) hr.2.2.2 _
 rw[if_neg h9]at h
 cases h
def decode_more{ls:List Int}{ns:List Node}(h:(encode ls ns).2.1=true){r:List UInt8}(hr:r≠[]):decode ((encode ls ns).1++r)=(([],[]),false,((encode ls ns).1.length:Int)):=by
 unfold encode at h⊢
 by_cases h1:4<ls.length\/ns.length=0\/200<ns.length
 ·rw[if_pos h1]at h;simp at h
 rw[if_neg h1]at h⊢
 by_cases h2:ls.all inR=false
 ·rw[if_pos h2]at h;simp at h
 rw[if_neg h2]at h⊢
 by_cases h3:0<=shaped ns
 ·rw[if_pos h3]at h;simp at h
 rw[if_neg h3]
 have hall:ls.all inR=true:=by simpa using h2
 have hrl:0<r.length:=by cases r with
  |nil=>exact absurd rfl hr
  |cons _ _=>simp
 have hlen:(headBytes ls ns++allBytes ns).length=3+(coded ls.length).length+(codedAll ls).length+(coded ns.length).length+(allBytes ns).length:=by unfold headBytes;simp;omega
 simp only;rw[hlen];obtain⟨s,hs⟩:∃s,s=headBytes ls ns++allBytes ns++r:=⟨_,rfl⟩;rw[<-hs]
 have hs':s=[70,80,49]++(coded ls.length++(codedAll ls++(coded ns.length++(allBytes ns++r)))):=by rw[hs];unfold headBytes;simp[List.append_assoc]
 have e3:s.drop 3=coded ls.length++(codedAll ls++(coded ns.length++(allBytes ns++r))):=by rw[hs'];rfl
 have n3:=num_coded e3 (by omega);have e4:=drop_then e3;have n4:=nums_coded e4 hall;have e5:=drop_then e4;have n5:=num_coded e5 (by omega);have e6:=drop_then e5;have hgood:∀i,i<ns.length->sound (nth ns i)=true/\(prem (nth ns i)).any (λx=>decide (((0+i:Nat):Int)<=x))=false:=by
  intro i hi;have h4:shaped ns<0:=(by omega);refine⟨sound_of_shaped h4 i hi,?_⟩;unfold shaped at h4
  cases hf:(List.range ns.length).find? (bad ns) with
  |some j=>rw[hf]at h4;simp only at h4;omega
  |none=>
   rw[List.find?_eq_none]at hf;have:=hf i (by simpa using hi);simp only[bad,Bool.or_eq_true,not_or,Bool.not_eq_true]at this;rw[Nat.zero_add];exact this.2.1
 obtain⟨st',hn⟩:=nodesA_coded s r ns 0 _ [] [] e6 hgood
 have hend:s.length=3+(coded ls.length).length+(codedAll ls).length+(coded ns.length).length+(allBytes ns).length+r.length:=by rw[hs'];simp;omega
 unfold decode;rw[if_neg (by rw[hs',head_coded];omega)];simp only[n3];rw[if_neg (by omega),if_neg (by omega)];simp only[Int.toNat_natCast,n4];rw[if_neg (by omega)];simp only[n5];rw[if_neg (by omega),if_neg (by omega)];simp only[Int.toNat_natCast,hn];rw[if_neg (by omega),if_pos (by rw[hend];omega)]
def decode_cut{ls:List Int}{ns:List Node}(h:(encode ls ns).2.1=true){n:Nat}(hn:n<(encode ls ns).1.length):(decode ((encode ls ns).1.take n)).2.1=false:=by
 cases hd:(decode ((encode ls ns).1.take n)).2.1 with
 |false=>rfl
 |true=>
  exfalso
  have h1:=decode_encode hd
  have hne:(encode ls ns).1.drop n≠[]:=λhh=>by
   have:=congrArg List.length hh;rw[List.length_drop]at this;simp at this;omega
  have h2:=decode_more (ls:=(decode ((encode ls ns).1.take n)).1.1) (ns:=(decode ((encode ls ns).1.take n)).1.2) (by rw[h1]) hne;rw[h1]at h2;simp only[List.take_append_drop]at h2;have h3:=(encode_decode h).1;rw[h2]at h3;simp at h3
end Fl
end Go.Proofs.YtminjljgedopkaaGreatDoor
