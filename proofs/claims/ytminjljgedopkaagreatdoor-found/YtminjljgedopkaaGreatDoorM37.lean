import Derived.Test.YtminjljgedopkaaGreatDoorM21
import Derived.Test.YtminjljgedopkaaGreatDoorM25
import Derived.Test.YtminjljgedopkaaGreatDoorM36
set_option linter.all false
set_option maxRecDepth 100000
set_option maxHeartbeats 40000000
namespace Go.Proofs.YtminjljgedopkaaGreatDoor
open Go.Proofs.Tryz
namespace Fl
def inferE_bad{q:Nat×Nat×Prog}(h:(inferE q).1≠0):(inferE q).2.2=[]:=by
 unfold inferE at h⊢
 split
 ·rfl
 ·split
  ·rfl
  ·split
   ·rfl
   ·rename_i h1 h2 h3
    rw[if_neg h1,if_neg h2,if_neg h3]at h;exact absurd rfl h
def inferE_ok{q:Nat×Nat×Prog}(h:(inferE q).1=0):q.1=0/\(infer q.2.2).1=0/\(encode (infer q.2.2).2.1 (infer q.2.2).2.2).2.1=true/\(inferE q).2.2=(encode (infer q.2.2).2.1 (infer q.2.2).2.2).1:=by
 unfold inferE at h⊢
 by_cases h1:q.1≠0
 ·rw[if_pos h1]at h;exact absurd h h1
 by_cases h2:0<(infer q.2.2).1
 ·rw[if_neg h1,if_pos h2]at h;cases h
 by_cases h3:(encode (infer q.2.2).2.1 (infer q.2.2).2.2).2.1=false
 ·rw[if_neg h1,if_neg h2,if_pos h3]at h;cases h
 rw[if_neg h1,if_neg h2,if_neg h3];exact⟨Decidable.of_not_not h1,by omega,by simpa using h3,rfl⟩
def found_dec{l:List UInt8}(h:(inferE (readProg l)).1=0):decode (inferE (readProg l)).2.2=(((infer (readProg l).2.2).2.1,(infer (readProg l).2.2).2.2),true,0):=by
 obtain⟨h1,h2,h3,h4⟩:=inferE_ok h;rw[h4];exact(encode_decode h3).1
def found_chk{l:List UInt8}(h:(inferE (readProg l)).1=0):checked (readProg l) (decode (inferE (readProg l)).2.2)=(0,-1):=by
 obtain⟨h1,h2,h3,h4⟩:=inferE_ok h;unfold checked;rw[if_neg (by rw[h1];simp),found_dec h,if_neg (by simp)];exact(infer_check (readProg_Lv l h1) (readProg_ok l h1).1 (readProg_pos l 4) h2).1
def found_more{l:List UInt8}(h:(inferE (readProg l)).1=0):(checked (readProg (l++tM)) (decode (inferE (readProg l)).2.2)).1≠0:=by
 obtain⟨h1,h2,h3,h4⟩:=inferE_ok h;unfold checked;rw[found_dec h]
 by_cases h5:(readProg (l++tM)).1≠0
 ·rw[if_pos h5];exact h5
 ·rw[if_neg h5,if_neg (by simp)]
  have h6:=readProg_more h1 (Decidable.of_not_not h5);exact check_more (ofAll_len (infer_check (readProg_Lv l h1) (readProg_ok l h1).1 (readProg_pos l 4) h2).2) h6
def cut_more{l:List UInt8}(h:(inferE (readProg l)).1=0)(c:UInt8):decode ((inferE (readProg l)).2.2++[c])=(([],[]),false,((inferE (readProg l)).2.2.length:Int)):=by
 obtain⟨h1,h2,h3,h4⟩:=inferE_ok h;rw[h4];exact decode_more h3 (by simp)
def cut_cut{l:List UInt8}(h:(inferE (readProg l)).1=0){n:Nat}(hn:n<(inferE (readProg l)).2.2.length):(decode ((inferE (readProg l)).2.2.take n)).2.1=false/\(checked (readProg l) (decode ((inferE (readProg l)).2.2.take n))).1=8:=by
 obtain⟨h1,h2,h3,h4⟩:=inferE_ok h;rw[h4]at hn⊢;have h5:=decode_cut h3 hn;refine⟨h5,?_⟩;unfold checked;rw[if_neg (by rw[h1];simp),if_pos h5]
def found_pos{l:List UInt8}(h:(inferE (readProg l)).1=0):3<=(inferE (readProg l)).2.2.length:=by
 have h1:=found_dec h;refine Classical.byContradiction λhn=>?_;have h2:=congrArg (λx=>x.2.1) h1;unfold decode at h2
 by_cases h0:headAt (inferE (readProg l)).2.2<3
 ·rw[if_pos h0]at h2;simp at h2
 ·have:=(head_back h0).2
  omega
def encode_len{ls:List Int}{ns:List Node}(h:(encode ls ns).2.1=true):(encode ls ns).1.length<=100000:=by
 unfold encode at h⊢
 by_cases h1:4<ls.length\/ns.length=0\/200<ns.length
 ·rw[if_pos h1]at h;simp at h
 rw[if_neg h1]at h⊢
 by_cases h2:ls.all inR=false
 ·rw[if_pos h2]at h;simp at h
 rw[if_neg h2]at h⊢
 by_cases h3:0<=shaped ns
 ·rw[if_pos h3]at h;simp at h
 rw[if_neg h3]
 have a1:=allBytes_len ns (λx hx=>by
  obtain⟨i,hi,e⟩:=List.getElem_of_mem hx;have h4:=sound_of_shaped (ns:=ns) (by omega) i hi;unfold nth at h4;rw[List.getD_eq_getElem?_getD,List.getElem?_eq_getElem hi]at h4;rw[<-e]
  exact h4)
 have a2:=coded_len ls.length;have a3:=codedAll_len ls;have a4:=coded_len ns.length;simp only[headBytes,List.length_append,List.length_cons,List.length_nil];omega
def found_len{l:List UInt8}(h:(inferE (readProg l)).1=0):(inferE (readProg l)).2.2.length<=100000:=by
 obtain⟨h1,h2,h3,h4⟩:=inferE_ok h;rw[h4];exact encode_len h3
end Fl
end Go.Proofs.YtminjljgedopkaaGreatDoor
