import Derived.Test.YtfhpibppblbgcaaGreatDoorM21
import Derived.Test.YtfhpibppblbgcaaGreatDoorM31
set_option linter.all false
set_option maxRecDepth 100000
set_option maxHeartbeats 40000000
namespace Go.Proofs.YtfhpibppblbgcaaGreatDoor
open Go.RowKit Go.Proofs.Tryz
variable{w:World}{Pb k cap:Nat}{ls:List Int}{s l:List UInt8}{ao:Option Addr}{a b c:Int}
def yn0{Lb:Nat}{bD hv bv lv nv:Value}{p:Fl.aS}{S:Nat->Prop}{x:List Fl.ar}(h:CpIn w Pb Lb bD hv bv lv nv p S ls x)
  (v0:ls.length=p.am->(∀y∈ls,y<p.n)->∀k,k<x.length->(∀j,j<k->Fl.follows p ls x (Fl.nth x j)=true)->NdOk p x (Fl.nth x k)):
  Cq 25 #[Pq Pb,.agg #[lv,nv]] w (yj1 (Fl.check p ls x) w):=by
 obtain⟨la,lc,rfl⟩:=Vo h.li
 obtain⟨na,nc,rfl⟩:∃a c,nv=.slice a x.length c:=by obtain⟨a,c,e,-⟩:=h.no;exact⟨a,c,e⟩
 obtain⟨ba,bc,rfl⟩:∃a c,bv=.slice a p.aX.length c:=by obtain⟨a,c,e,-⟩:=h.bs;exact⟨a,c,e⟩
 have HH:=Zz h;have y0:=Zz v0;have c0:=h.x0;clear v0 h
 go_enter func25,ntmps25
 go_wp2_with fail
 obtain⟨W1,h0⟩:=nmE (w.alloc (.cells #[.slice la ls.length lc,.slice na x.length nc] 69));rw[<-h0]
 have z0:Bq w W1:=by rw[h0];exact bA
 have O0:W1.heap.size=w.heap.size+1:=by rw[h0];simp
 have hp:∀i,W1.cell? (Aq w.heap.size i)=#[Value.slice la ls.length lc,.slice na x.length nc][i]?:=λi=>by rw[h0];exact World.cell?_alloc_new _ _ _ _
 have p0:Cl W1 w.heap.size 0 (.slice la ls.length lc):=hp 0;have p1:Cl W1 w.heap.size 1 (.slice na x.length nc):=hp 1;have HP:Hid (∀W,Bq W1 W->Cl W w.heap.size 0 (.slice la ls.length lc)/\Cl W w.heap.size 1 (.slice na x.length nc)):=λW hW=>⟨(hW.cell (p:=(Aq w.heap.size 0)) (by simp only;omega)).trans p0,(hW.cell (p:=(Aq w.heap.size 1)) (by simp only;omega)).trans p1⟩;have d0:=Zz z0;obtain⟨fit,e0⟩:=nmE (decide (ls.length=p.am/\∀y∈ls,0<=y/\y<p.n));have A0:Hid (Cq 49 #[Pq Pb,.slice la ls.length lc] W1 λe w'=>e=.returned (.bool fit)/\w'=W1):=by
  have h2:=HH.below d0.out;rw[e0];exact za7 h2.la h2.p0 h2.p3 _ ls h2.li (by have:=h2.l0.1;omega)
 have i0:=Zz e0;clear h0 z0 hp e0
 go_wp2_with fail
 refine(A0.out).mono ?_;rintro e w2 ⟨rfl,rfl⟩
 cases fit with
 |false=>
  have HE:Hid (Fl.check p ls x=(10,-1)):=by
   show _=_;have h1:=of_decide_eq_false i0.symm;unfold Fl.check;rw[if_pos]
   by_cases h2:ls.length=p.am
   ·right
    refine Classical.byContradiction λh3=>h1 ⟨h2,λy hy=>⟨HH.l0.2 y hy,?_⟩⟩;refine Classical.byContradiction λh4=>h3 ?_;rw[List.any_eq_true];exact⟨y,hy,decide_eq_true (by omega)⟩
   exact .inl h2
  go_wp2;go_ret;refine⟨d0,.inr (.inl ⟨by rw[HE.out],rfl⟩)⟩
 |true=>
  have hf:=of_decide_eq_true i0.symm;have HF:=Zz hf
  have HV:Hid (∀W,Bq w2 W->Cq 33 #[Pq Pb,.slice la ls.length lc] W λe w'=>Bq W w'/\∃a c,e=.returned (.slice a (Fl.bN p ls).length c)/\Zv w'.heap.size w' (.slice a (Fl.bN p ls).length c) (Fl.bN p ls)):=λW hW=>by
   have h2:=(HH.below d0).below hW;exact za9 h2.hz.1 h2.p1 h2.ci h2.li ⟨by have:=h2.cl.1;simp;omega,by have:=h2.l0.1;omega⟩
  clear hf
  go_wp2_with fail
  refine Yj HP (dA) [(0,0),(0,1),(0,2),(0,3),(0,5),(0,6),(1,4),(1,7),(0,8),(1,9),(0,10)] [] [] (by kernel_rfl) (λc a d v w h=>by cases d<;>exact h) (λops hG=>?_);clear hG
  iterate 6 refine Zw rfl (by rintro _ ⟨_,_⟩;go_simp<;>rfl) (by go_simp<;>rfl) ?_
  refine Zt ?_
  go_wp2_with fail
  refine(HV _ dA).mono ?_;rintro e W2 ⟨B0,va,vc,rfl,C0⟩;have j0:Hid (Bq w2 W2):=dA.trans B0;have D0:=Zz C0;clear B0 C0
  go_wp2_with fail
  refine⟨HP _ j0,?_⟩;refine Zt ?_
  go_wp2_with fail
  refine(yow _).mono ?_;rintro e W3 ⟨rfl,q0⟩;have k0:Hid (Bq w2 W3):=(by rw[q0];exact j0.alloc j0.size _);have r0:=Zz q0;clear q0
  go_wp2_with fail
  refine⟨HP _ k0,?_⟩;refine Zw rfl (by rintro _ ⟨_,_⟩;go_simp<;>rfl) (by go_simp<;>rfl) ?_;refine Zt ?_
  go_wp2_with fail
  refine⟨HP _ (k0.alloc k0.size _),?_⟩;refine Zw rfl (by rintro _ ⟨_,_⟩;go_simp<;>rfl) (by go_simp<;>rfl) ?_;refine Zu ?_;obtain⟨W4,m0⟩:=nmE (W3.alloc (.cells #[Pq Pb,.slice va (Fl.bN p ls).length vc,.slice na x.length nc,.slice (some (Aq W2.heap.size 0)) 8 8] 139));rw[<-m0];have E0:Bq w W2:=d0.trans (j0.mono d0.size);have n0:Xy W4 (W2.heap.size+1) Pb Lb W2.heap.size (.slice va (Fl.bN p ls).length vc) (.slice na x.length nc) hv p (Fl.bN p ls) x:=by
   rw[m0,r0.out];exact HH.nu E0 D0.out
  have F0:W3.heap.size=W2.heap.size+1:=(by rw[r0.out];simp);rw[<-F0]at n0;have G0:Bq w W4:=by
   have h3:Bq w W3:=d0.trans (k0.mono d0.size);rw[m0];exact h3.alloc h3.size _
  have H0:∀y∈Fl.bN p ls,0<=y/\y<p.n:=λy hy=>by
   unfold Fl.bN at hy;rcases List.mem_append.1 hy with h1|h1
   ·obtain⟨z,hz,rfl⟩:=List.mem_map.1 h1
    have:=HH.cv.1 z hz;omega
   exact HF.2 y h1
  have I0:(Fl.bN p ls).length<=100:=by
   have h1:=HH.cl.1;have h2:=HH.l0.1;unfold Fl.bN;simp;omega
  have J0:Hid (Cq 51 #[Pq W3.heap.size] W4 λe w'=>e=.returned (Iq (Vp p ls x))/\Bq W4 w'):=
   zf3 n0 (y0 HF.1 λy hy=>(HF.2 y hy).2) (by omega) H0 I0 HH.cv.2 (by have:=HH.cl.2;omega)
  have K0:=Zz n0;have L0:=Zz G0
  have b0:Hid (Fl.check p ls x=match (List.range x.length).find? (λk=> !Fl.follows p ls x (Fl.nth x k)) with
   |some k=>(9,(k:Int))
   |none=>if Fl.cU 4 x ((x.length:Int) - 1) p.aX then(0,-1) else(10,-1)):=by
   show _=_;unfold Fl.check;rw[if_neg]
   ·rfl
   rintro(h1|h1)
   ·exact h1 HF.1
   obtain⟨y,hy,h2⟩:=List.any_eq_true.1 h1;have h3:=HF.2 y hy;have h4:=of_decide_eq_true h2;omega
  generalize W3.heap.size=Cb at*;clear n0 G0 m0 H0 I0 E0 F0
  go_wp2_with fail
  refine(J0.out).mono ?_;rintro e W5 ⟨rfl,s0⟩;have M0:=Zz s0;have a0:Hid (Bq w W5):=L0.trans (s0.mono L0.size)
  have o0:Hid (Vp p ls x=match (List.range x.length).find? (λk=> !Fl.follows p ls x (Fl.nth x k)) with
   |some k=>(k:Int)
   |none=> -1):=rfl
  clear s0 J0 HV A0 y0 D0 j0 k0 r0
  cases f0:(List.range x.length).find? (λk=> !Fl.follows p ls x (Fl.nth x k)) with
  |some k=>
   have HE:Hid (Fl.check p ls x=(9,(k:Int))):=(by show _=_;rw[b0.out,f0]);have HK:Hid (Vp p ls x=(k:Int)):=(by show _=_;rw[o0.out,f0]);have hk:k<x.length:=List.mem_range.1 (List.mem_of_find?_eq_some f0);rw[HK.out];clear f0 b0 o0 HK;have P0:((k:Int) ≥ 0)=True:=(by simp);go_wp2;go_ret;refine⟨?_,.inr (.inr ⟨by rw[HE.out],_,rfl,?_,?_⟩)⟩
   ·exact a0.alloc a0.size _
   ·rw[World.cell?_alloc_new];rfl
   rw[World.cell?_alloc_new,HE.out];rfl
  |none=>
   have HE:Hid (Fl.check p ls x=if Fl.cU 4 x ((x.length:Int) - 1) p.aX then(0,-1) else(10,-1)):=(by show _=_;rw[b0.out,f0]);have HK:Hid (Vp p ls x= -1):=(by show _=_;rw[o0.out,f0]);rw[HK.out];clear f0 b0 o0 HK
   have HQ:Hid (∀W,Bq W5 W->Cl W Cb 2 (.slice na x.length nc)/\Cl W Pb 4 (.slice ba p.aX.length bc)):=λW hW=>by
    have h1:=(K0.below M0).below hW;have h2:=(HH.below a0).below hW;exact⟨h1.c2,h2.p4⟩
   obtain⟨aV,g0⟩:=nmE (Fl.cU 4 x ((x.length:Int) - 1) p.aX);rw[<-g0]at HE
   have t0:Hid (∀W,Bq W5 W->Cq 52 #[Pq Cb,Iq ((x.length:Int) - 1),.slice ba p.aX.length bc] W λe w'=>e=.returned (.bool aV)/\Bq W w'):=λW hW=>by
    have h1:=(K0.below M0).below hW;have h2:=(HH.below a0).below hW;rw[g0];exact zky h2.xo 4 W _ _ _ h1 h2.hS ⟨by have:=c0.1;omega,by have:=c0.1;omega⟩ h2.bs h2.kd
   clear g0;have Q0:0<(x.length:Int)/\(x.length:Int)<=200:=(by omega)
   go_wp2_with fail
   refine Zp HQ (dA) [11] [] [] (by kernel_rfl) (λc a d v w h=>by cases d<;>exact h) (λops hG=>?_);clear hG
   iterate 11 refine Zw rfl (by rintro _ ⟨_,_⟩;go_simp<;>rfl) (by go_simp<;>rfl) ?_
   refine Zt ?_
   go_wp2_with fail
   refine(t0 _ dA).mono ?_;rintro e W6 ⟨rfl,N0⟩;have u0:Hid (Bq W5 W6):=dA.trans N0;clear N0
   go_wp2_with fail
   refine⟨HQ _ u0,?_⟩;refine Zw rfl (by rintro _ ⟨_,_⟩;go_simp<;>rfl) (by go_simp<;>rfl) ?_;refine Zu ?_
   cases aV with
   |true=>
    go_wp2;go_ret;exact⟨a0.trans (u0.mono a0.size),.inl ⟨by rw[HE.out];rfl,rfl⟩⟩
   |false=>
    go_wp2;go_ret;exact⟨a0.trans (u0.mono a0.size),.inr (.inl ⟨by rw[HE.out];rfl,rfl⟩)⟩
namespace Fl
def iA(h:¬dg s<3):s=[70,80,49]++s.drop 3/\3<=s.length:=by
 unfold dg at h
 cases h0:dq s 0 with
 |false=>rw[if_pos h0]at h;omega
 |true=>
  cases h1:dq s 1 with
  |false=>rw[if_neg (by rw[h0];simp),if_pos h1]at h;omega
  |true=>
   cases h2:dq s 2 with
   |false=>rw[if_neg (by rw[h0];simp),if_neg (by rw[h1];simp),if_pos h2]at h;omega
   |true=>
    simp only[dq,Bool.and_eq_true,decide_eq_true_eq,beq_iff_eq]at h0 h1 h2
    match s,h2.1 with
    |a::b::c::t,_=>
     have e0:=h0.2;have e1:=h1.2;have e2:=h2.2;simp at e0 e1 e2;subst e0 e1 e2;exact⟨rfl,by simp⟩
def kq(t:List UInt8):dg ([70,80,49]++t)=3:=by
 simp[dg,dq]
def iH(h:(decode s).2.1=true):bx (decode s).1.1 (decode s).1.2=(s,true,-1):=by
 unfold decode at h⊢
 by_cases h0:dg s<3
 ·rw[if_pos h0]at h;simp at h
 rw[if_neg h0]at h⊢;obtain⟨hs,h3⟩:=iA h0;simp only at h⊢;have du:=dJ s 3 h3
 by_cases h1:(num s 3).2.1<0
 ·rw[if_pos h1]at h;simp at h
 rw[if_neg h1]at h⊢;obtain⟨v,a1,a2,a3,a4⟩:=fK h3 (show 0<=(num s 3).2.1 by omega);rw[a3]at du;rw[a1,a3]at h⊢
 by_cases h2:(4:Int)<(v:Int)
 ·rw[if_pos h2]at h;simp at h
 rw[if_neg h2]at h⊢;simp only[Int.toNat_natCast]at h⊢
 by_cases h4:(cZ s (3+(aP v).length) v).2.1<0
 ·rw[if_pos h4]at h;simp at h
 rw[if_neg h4]at h⊢;have cV:=fj s (3+(aP v).length) v (by omega);obtain⟨ls,b1,b2,b3,b4,b5⟩:=gN (s:=s) (p:=3+(aP v).length) (n:=v) (by omega) (by omega);rw[b4]at cV;rw[b1,b4]at h⊢;simp only[Int.toNat_natCast]at h⊢;have b0:=dJ s (3+(aP v).length+(aW ls).length) (by omega)
 by_cases h5:(num s (3+(aP v).length+(aW ls).length)).2.1<0
 ·rw[if_pos h5]at h;simp at h
 rw[if_neg h5]at h⊢;obtain⟨m,c1,c2,c3,c4⟩:=fK (s:=s) (p:=3+(aP v).length+(aW ls).length) (by omega) (by omega);rw[c3]at b0;rw[c1,c3]at h⊢
 by_cases h6:(m:Int)<1\/200<(m:Int)
 ·rw[if_pos h6]at h;simp at h
 rw[if_neg h6]at h⊢;simp only[Int.toNat_natCast]at h⊢;generalize hr:cK s m 0 (3+(aP v).length+(aW ls).length+(aP m).length) [] []=r at h⊢
 by_cases h7:0<=r.2.2.2
 ·rw[if_pos h7]at h;simp at h
 rw[if_neg h7]at h⊢;obtain⟨ns,d1,d2,d3,d4⟩:=jM s m 0 (3+(aP v).length+(aW ls).length+(aP m).length) [] [] (by omega) (by rw[hr];omega);rw[hr]at d1 d3;rw[List.nil_append]at d1;rw[d1,d3]at h⊢
 by_cases h8:((3+(aP v).length+(aW ls).length+(aP m).length+(aH ns).length:Nat):Int)<(s.length:Int)
 ·rw[if_pos h8]at h;simp at h
 rw[if_neg h8]at h⊢
 by_cases h9:0<=bh ns
 ·rw[if_pos h9]at h;simp at h
 rw[if_neg h9];simp only;unfold bx;rw[if_neg (by omega),if_neg (by rw[b3];simp),if_neg h9];have a0:s.drop (3+(aP v).length+(aW ls).length+(aP m).length+(aH ns).length)=[]:=List.drop_eq_nil_of_le (by omega);have:bO ls ns++aH ns=s:=by
  conv=>rhs;rw[hs,a4,b5,c4,d4,a0]
  unfold bO;rw[b2,d2];simp[List.append_assoc]
 rw[this]
def iG{ns:List ar}(h:(bx ls ns).2.1=true):decode (bx ls ns).1=((ls,ns),true,0)/\(bx ls ns).2.2= -1:=by
 unfold bx at h⊢
 by_cases h1:4<ls.length\/ns.length=0\/200<ns.length
 ·rw[if_pos h1]at h;simp at h
 rw[if_neg h1]at h⊢
 by_cases h2:ls.all cq=false
 ·rw[if_pos h2]at h;simp at h
 rw[if_neg h2]at h⊢
 by_cases h3:0<=bh ns
 ·rw[if_pos h3]at h;simp at h
 rw[if_neg h3];simp only[and_true]
 have aK:ls.all cq=true:=by simpa using h2
 obtain⟨s,hs⟩:=nmE (bO ls ns++aH ns);rw[<-hs]
 have hs':s=[70,80,49]++(aP ls.length++(aW ls++(aP ns.length++aH ns))):=by rw[hs];unfold bO;simp[List.append_assoc]
 have e3:s.drop 3=aP ls.length++(aW ls++(aP ns.length++aH ns)):=by rw[hs'];rfl
 have n3:=fp e3 (by omega);have e4:=eq e3;have n4:=gn e4 aK;have e5:=eq e4;have n5:=fp e5 (by omega);have e6:=eq e5;have aQ:∀i,i<ns.length->bG (nth ns i)=true/\(prem (nth ns i)).any (λx=>decide (((0+i:Nat):Int)<=x))=false:=by
  intro i hi;have h4:bh ns<0:=(by omega);refine⟨fV h4 i hi,?_⟩;unfold bh at h4
  cases hf:(List.range ns.length).find? (eh ns) with
  |some j=>rw[hf]at h4;simp only at h4;omega
  |none=>
   rw[List.find?_eq_none]at hf;have:=hf i (by simpa using hi);simp only[eh,Bool.or_eq_true,not_or,Bool.not_eq_true]at this;rw[Nat.zero_add];exact this.2.1
 obtain⟨st',hn⟩:=jh s [] ns 0 _ [] [] (by rw[List.append_nil];exact e6) aQ
 have a0:s.length=3+(aP ls.length).length+(aW ls).length+(aP ns.length).length+(aH ns).length:=by rw[hs'];simp;omega
 unfold decode;rw[if_neg (by rw[hs',kq];omega)];simp only[n3];rw[if_neg (by omega),if_neg (by omega)];simp only[Int.toNat_natCast,n4];rw[if_neg (by omega)];simp only[n5];rw[if_neg (by omega),if_neg (by omega)];simp only[Int.toNat_natCast,hn];rw[if_neg (by omega),if_neg (by rw[a0];omega)];simp only[List.nil_append];rw[if_neg h3]
end Fl
structure zv6(ls:List Int)(x:List Fl.ar):Prop where
 l0:ls.length<=4/\∀y∈ls,0<=y
 x0:0<x.length/\x.length<=200
 ok:∀k,k<x.length->Fl.eh x k=false
def zb5(h:(Fl.decode s).2.1=true):zv6 (Fl.decode s).1.1 (Fl.decode s).1.2:=by
 have h1:=Fl.iH h;generalize (Fl.decode s).1.1=ls at h1⊢;generalize (Fl.decode s).1.2=x at h1⊢;unfold Fl.bx at h1
 split at h1
 ·simp at h1
 rename_i h2
 split at h1
 ·simp at h1
 rename_i h3
 split at h1
 ·simp at h1
 rename_i h4;refine⟨⟨by omega,λy hy=>?_⟩,by omega,λk hk=>?_⟩
 ·have h5:ls.all Fl.cq=true:=by simpa using h3
  have h6:=List.all_eq_true.1 h5 y hy;simp only[Fl.cq,Bool.and_eq_true,decide_eq_true_eq]at h6;exact h6.1
 cases hb:Fl.eh x k with
 |false=>rfl
 |true=>
  exfalso
  refine h4 ?_;unfold Fl.bh
  cases hf:(List.range x.length).find? (Fl.eh x) with
  |some j=>exact Int.natCast_nonneg j
  |none=>
   have h7:=List.find?_eq_none.1 hf k (List.mem_range.2 hk);exact absurd hb h7
def zuy{x:List Fl.ar}(h:Fl.eh x k=false):Fl.bG (Fl.nth x k)=true/\∀q∈prem (Fl.nth x k),q<(k:Int):=by
 unfold Fl.eh at h;simp only[Bool.or_eq_false_iff,Bool.not_eq_false']at h;refine⟨by simpa using h.1,λq hq=>?_⟩;have h2:=List.any_eq_false.1 h.2.1 q hq;simpa using h2
def zsx{n:Fl.ar}(h:Fl.bG n=true):(0<=n.kind/\n.kind<=7)/\0<=n.ag/\0<=n.a/\0<=n.b/\0<=n.c/\(∀y∈n.aU,0<=y)/\n.aU.length<=16:=by
 simp only[Fl.bG,Fl.jd,Fl.cq,Bool.and_eq_true,decide_eq_true_eq,List.all_eq_true]at h;obtain⟨h1,h2,h3,h4,h5,h6,h7,h8⟩:=h;refine⟨?_,h2.1,h4.1.1,h5.1.1,h6.1.1,λy hy=>(h7 y hy).1,h3⟩;refine Classical.byContradiction λhn=>h1 ?_;unfold Fl.aO;rw[if_neg (by omega),if_neg (by omega),if_neg (by omega),if_neg (by omega)]
def zv6.idx{x:List Fl.ar}(h:zv6 ls x)(hk:k<x.length){q:Int}(hq:q∈prem (Fl.nth x k))(h0:0<=q):zt1 x q/\q.toNat<k:=by
 have h1:=(zuy (h.ok k hk)).2 q hq;exact⟨⟨h0,by omega⟩,by omega⟩
def zv6.oG{x:List Fl.ar}(h:zv6 ls x):XOk x:=by
 refine⟨λk hk h2=>?_,λk hk h3=>?_,λk hk h5=>?_,λk hk h6=>?_,λk hk h7 j hj=>?_⟩
 all_goals obtain⟨-,-,s1,s2,s3,s4,-⟩:=zsx (zuy (h.ok k hk)).1
 ·exact⟨(h.idx hk (by simp[prem,h2]) s2).1,(h.idx hk (by simp[prem,h2]) s3).1⟩
 ·exact(h.idx hk (by rcases h3 with h3|h3<;>simp[prem,h3]) s2).1
 ·exact⟨(h.idx hk (by rcases h5 with h5|h5<;>simp[prem,h5]) s1).1,(h.idx hk (by rcases h5 with h5|h5<;>simp[prem,h5]) s2).1⟩
 ·exact(h.idx hk (by simp[prem,h6]) s3).1
 exact(h.idx hk (by simp[prem,h7,hj]) (s4 j hj)).1
def zv6.oQ{p:Fl.aS}{x:List Fl.ar}(h:zv6 ls x)(k:Nat)(hk:k<x.length)(ha:∀j,j<k->Fl.follows p ls x (Fl.nth x j)=true):NdOk p x (Fl.nth x k):=by
 obtain⟨s0,sl,s1,s2,s3,s4,s5⟩:=zsx (zuy (h.ok k hk)).1
 have hP:∀q,q∈prem (Fl.nth x k)->0<=q->POk p x q:=λq hq h0=>by
  obtain⟨h1,h2⟩:=h.idx hk hq h0;have h3:=ha q.toNat h2;obtain⟨t0,tl,-⟩:=zsx (zuy (h.ok q.toNat h1.2)).1;simp only[Fl.follows,Bool.and_eq_true,decide_eq_true_eq]at h3;exact⟨h0,h1.2,tl,h3.1,t0⟩
 refine⟨s0,sl,λ_=>s1,λh2=>?_,λh3=>⟨s1,?_⟩,λh5=>?_,λh6=>?_,λh7=>⟨λj hj=>?_,by omega⟩⟩
 ·exact⟨hP _ (by simp[prem,h2]) s2,hP _ (by simp[prem,h2]) s3⟩
 ·exact hP _ (by rcases h3 with h3|h3<;>simp[prem,h3]) s2
 ·exact⟨hP _ (by rcases h5 with h5|h5<;>simp[prem,h5]) s1,hP _ (by rcases h5 with h5|h5<;>simp[prem,h5]) s2⟩
 ·exact hP _ (by simp[prem,h6]) s3
 exact hP _ (by simp[prem,h7,hj]) (s4 j hj)
def zi7{nv nc:Nat}:∀(d:Nat) (l:List Fl.aa),Fl.aT nv nc d l->zww d l
 |0,_,_=>trivial
 |d+1,l,h=>λi hi=>by
  have hm:l.getD i noS∈l:=by
   rw[Qa,Qb hi];exact List.getElem_mem hi
  obtain⟨h1,-,h3,h4⟩:=h _ hm;refine⟨?_,zi7 d _ h3,zi7 d _ h4⟩;rcases h1 with h1|h1|h1|h1
  ·exact .inl h1.1
  ·exact .inr (.inl h1.1)
  ·exact .inr (.inr (.inl h1))
  exact .inr (.inr (.inr h1.1))
end Go.Proofs.YtfhpibppblbgcaaGreatDoor
namespace Go.Proofs.YtfhpibppblbgcaaGreatDoor
open Go.Proofs.Tryz
variable{w:World}{Pb k cap:Nat}{ls:List Int}{s l:List UInt8}{ao:Option Addr}{a b c:Int}
def Fl.checked(q:Nat×Nat×Fl.aS)(d:(List Int×List Fl.ar)×Bool×Int):Nat×Int:=
 if q.1≠0 then(q.1,(q.2.1:Int)) else if d.2.1=false then(8,d.2.2) else Fl.check q.2.2 d.1.1 d.1.2
open Go.RowKit
def Fl.jK(p:Fl.aS)(ls:List Int)(x:List Fl.ar):((Fl.check p ls x).1=0->Fl.check p ls x=(0,-1))/\((Fl.check p ls x).1=10->Fl.check p ls x=(10,-1)):=by
 unfold Fl.check
 split
 ·exact⟨λh=>by simp at h,λ_=>rfl⟩
 split
 ·exact⟨λh=>by simp at h,λh=>by simp at h⟩
 split
 ·exact⟨λ_=>rfl,λh=>by simp at h⟩
 exact⟨λh=>by simp at h,λ_=>rfl⟩
def Jp.oP{p:Fl.aS}{lv nv:Value}{x:List Fl.ar}(h:Jp (λb=>b<w.heap.size) w Pb p)(ho:p.Ok)(hv:p.n<=6/\(∀y∈p.cells,y<p.n)/\∀y∈p.aj,y<p.n)(hd:zv6 ls x)(hl:Zv w.heap.size w lv ls)(hn:Yv w.heap.size w nv x):
  ∃Lb bD hv bv,CpIn w Pb Lb bD hv bv lv nv p (λb=>b<w.heap.size) ls x:=by
 obtain⟨Lb,bD,bF,bv,h1,h2,h3,h4,h5,h6,h7⟩:=h;exact⟨Lb,bD,bF,bv,{hz:=⟨h1,h2⟩,p0:=h3.c 0 (by omega),p1:=h3.c 1 (by omega),p2:=h3.c 2 (by omega),p3:=h3.c 3 (by omega),p4:=h3.c 4 (by omega),la:=h4,ci:=h5.ints (λb hb=>hb),hi:=h6.ints (λb hb=>hb),bs:=h7,hS:=λb hb=>hb,li:=hl,no:=hn,n6:=hv.1,cl:=⟨ho.ce,ho.ch⟩,cv:=hv.2,kd:=zi7 4 _ ho.aX,l0:=hd.l0,x0:=hd.x0,xo:=hd.oG}⟩
def yj3(r:(List Int×List Fl.ar)×Bool×Int)(w:World)(e:Ending)(w':World):Prop:=
 Bq w w'/\
 (r.2.1=false->∃q,e=.returned (.tuple #[.agg #[Zq,Zq],.iface 73 (Pq q)])/\w'.cell? (Aq q 0)=some (Iq 8)/\w'.cell? (Aq q 1)=some (Iq r.2.2))/\
 (r.2.1=true->∃la n lc na n' nc,e=.returned (.tuple #[.agg #[.slice la n lc,.slice na n' nc],.nilIface])/\Zv w'.heap.size w' (.slice la n lc) r.1.1/\Yv w'.heap.size w' (.slice na n' nc) r.1.2)
def yj4(aV:Nat×Int)(w:World)(e:Ending)(w':World):Prop:=
 Bq w w'/\((aV=(0,-1)/\e=.returned .nilIface)\/(aV=(10,-1)/\e=.returned (.iface 23 (Iq 10)))\/∃a,e=.returned (.iface 73 (Pq a))/\w'.cell? (Aq a 0)=some (Iq aV.1)/\w'.cell? (Aq a 1)=some (Iq aV.2))
def yt3(hl:l.length<=100000)(hg:1<w.heap.size)(hm:Xs w)(c0:∀w1:World,Bq w w1->Cq 24 #[.slice ao s.length cap] w1 (yj3 (Fl.decode s) w1)):
  Cq 13 #[.string ⟨l.toArray⟩,.slice ao s.length cap] w (yj4 (Fl.checked (Fl.ak l) (Fl.decode s)) w):=by
 have j0:Hid (Cq 20 #[.string ⟨l.toArray⟩] w (zs8 (Fl.ak l) w)):=zc4 hl hg hm;have g0:=Zz c0;have k0:Hid ((Fl.ak l).1=0->(Fl.ak l).2.2.Ok):=λh=>(Fl.ee l h).1;have l0:Hid ((Fl.ak l).2.2.n<=6/\(∀y∈(Fl.ak l).2.2.cells,y<(Fl.ak l).2.2.n)/\∀y∈(Fl.ak l).2.2.aj,y<(Fl.ak l).2.2.n):=Fl.gE l;have m0:Hid ((Fl.decode s).2.1=true->zv6 (Fl.decode s).1.1 (Fl.decode s).1.2):=zb5;obtain⟨q,hq⟩:=nmE (Fl.ak l);obtain⟨d,hd⟩:=nmE (Fl.decode s);rw[<-hq]at j0 k0 l0⊢;rw[<-hd]at g0 m0⊢;clear hq hd hl hg hm c0
 go_enter func13,ntmps13
 go_wp2_with fail
 refine j0.mono ?_;rintro e w1 ⟨p0,d0⟩;have i0:=Zz p0;clear p0 j0;rcases d0 with⟨h0,Pb,rfl,hp⟩|⟨h0,a,rfl,a0,a1⟩
 ·have HP:Hid (Jp (λb=>b<w1.heap.size) w1 Pb q.2.2):=hp.kept (λb hb=>hb.2) (λ_ _=>rfl)
  have H0:=Zz h0;clear hp h0
  go_wp2_with fail
  refine(g0 _ i0).mono ?_;rintro e w2 ⟨n0,b0,aQ⟩;have q0:=Zz n0;have e0:Hid (Bq w w2):=i0.trans (n0.mono i0.size);clear n0
  cases hr:d.2.1 with
  |false=>
   obtain⟨a,rfl,a0,a1⟩:=b0 hr;have HE:Hid (Fl.checked q d=(8,d.2.2)):=(by show _=_;unfold Fl.checked;rw[if_neg (by rw[H0.out];simp),if_pos hr]);have ha:a<w2.heap.size:=Qe w2 _ a0;have A0:=Zz a0;have A1:=Zz a1;clear b0 aQ hr a0 a1
   go_wp2_with fail
   go_ret;refine⟨e0.alloc e0.size _,.inr (.inr ⟨a,rfl,?_,?_⟩)⟩
   ·rw[HE.out];exact(Qf _ _ _ ha).trans A0.out
   rw[HE.out];exact(Qf _ _ _ ha).trans A1.out
  |true=>
   obtain⟨la,n,lc,na,n',nc,rfl,hi,hn⟩:=aQ hr;have HE:Hid (Fl.checked q d=Fl.check q.2.2 d.1.1 d.1.2):=(by show _=_;unfold Fl.checked;rw[if_neg (by rw[H0.out];simp),if_neg (by rw[hr];simp)])
   have r0:Hid (∀W,Bq w2 W->Cq 25 #[Pq Pb,.agg #[.slice la n lc,.slice na n' nc]] W (yj1 (Fl.check q.2.2 d.1.1 d.1.2) W)):=λW hW=>by
    have s0:=m0 hr;have hw:=q0.trans (hW.mono q0.size);have u0:Jp (λb=>b<W.heap.size) W Pb q.2.2:=HP.kept (λb hb=>Qj hb hw.size) (λb hb=>hw.block b hb);obtain⟨Lb,bD,hv,bv,v0⟩:=u0.oP (k0 H0) l0 s0 ((hi.below hW).mono hW.size) ((hn.below hW).mono hW.size);exact yn0 v0 (λ_ _=>s0.oQ)
   clear b0 aQ hr hi hn m0 g0 HP k0 l0
   go_wp2_with fail
   refine(r0 _ (bA)).mono ?_;rintro e w3 ⟨t0,hc⟩;have o0:Hid (Bq w w3):=(e0.alloc e0.size _).trans (t0.mono (by have:=e0.size;simp;omega));have f0:Hid (((Fl.check q.2.2 d.1.1 d.1.2).1=0->Fl.check q.2.2 d.1.1 d.1.2=(0,-1))/\((Fl.check q.2.2 d.1.1 d.1.2).1=10->Fl.check q.2.2 d.1.1 d.1.2=(10,-1))):=Fl.jK _ _ _;clear t0 r0;rcases hc with⟨h0,rfl⟩|⟨h0,rfl⟩|⟨h0,a,rfl,a0,a1⟩
   ·have HZ:Hid (Fl.checked q d=(0,-1)):=HE.trans (f0.1 h0)
    clear h0 HE f0;go_wp2;go_ret;exact⟨o0,.inl ⟨HZ,rfl⟩⟩
   ·have HZ:Hid (Fl.checked q d=(10,-1)):=HE.trans (f0.2 h0)
    clear h0 HE f0;go_wp2;go_ret;exact⟨o0,.inr (.inl ⟨HZ,rfl⟩)⟩
   have A0:Hid (Cl w3 a 0 (Iq (Fl.checked q d).1)):=(by show _=_;rw[HE.out,h0];exact a0);have A1:Hid (Cl w3 a 1 (Iq (Fl.checked q d).2)):=(by show _=_;rw[HE.out];exact a1);clear h0 a0 a1 HE f0;go_wp2;go_ret;exact⟨o0,.inr (.inr ⟨a,rfl,A0,A1⟩)⟩
 have HE:Hid (Fl.checked q d=(q.1,(q.2.1:Int))):=by show _=_;unfold Fl.checked;rw[if_pos h0]
 clear h0 g0;go_wp2;go_ret;refine⟨i0,.inr (.inr ⟨a,rfl,?_,?_⟩)⟩
 ·rw[HE.out];exact a0
 rw[HE.out];exact a1
def yt4(hE:Jn w)(hl:l.length<=100000)(hg:1<w.heap.size)(hm:Xs w)(c0:∀w1:World,Bq w w1->Cq 24 #[.slice ao s.length cap] w1 (yj3 (Fl.decode s) w1)):
  Cq 6 #[.string ⟨l.toArray⟩,.slice ao s.length cap] w λe w'=>e=.returned (.tuple #[Iq (Fl.checked (Fl.ak l) (Fl.decode s)).1,Iq (Fl.checked (Fl.ak l) (Fl.decode s)).2])/\Bq w w':=by
 have HC:Hid (Cq 13 #[.string ⟨l.toArray⟩,.slice ao s.length cap] w (yj4 (Fl.checked (Fl.ak l) (Fl.decode s)) w)):=yt3 hl hg hm c0;have f0:Hid (∀o,Bq w o->Jn o):=λo ho=>(ho.cell (p:=⟨0,0,none⟩) (Qe w _ hE)).trans hE;obtain⟨aV,d0⟩:=nmE (Fl.checked (Fl.ak l) (Fl.decode s));rw[<-d0]at HC⊢;clear hl hg hm c0 hE d0
 go_enter func6,ntmps6
 go_wp2_with fail
 refine HC.mono ?_;rintro e w1 ⟨hB,hc⟩;have HB:=Zz hB;clear hB HC;rcases hc with⟨rfl,rfl⟩|⟨rfl,rfl⟩|⟨a,rfl,a0,a1⟩
 ·go_wp2_with fail
  refine(yxx _).mono ?_;rintro e w2 ⟨rfl,b0⟩;have e0:Hid (Bq w w2):=HB.trans (b0.mono HB.size);clear b0;go_wp2
  go_ret2
  exact⟨rfl,e0⟩
 ·go_wp2_with fail
  refine(zgw 10 _ (f0 _ HB)).mono ?_;rintro e w2 ⟨rfl,b0⟩;have e0:Hid (Bq w w2):=HB.trans (b0.mono HB.size);clear b0;go_wp2
  go_ret2
  exact⟨rfl,e0⟩
 obtain⟨n,p⟩:=aV;have A0:=Zz a0;have A1:=Zz a1;clear a0 a1
 go_wp2_with fail
 refine(ys4 a 0 (n:Int) p _ (f0 _ HB) A0 A1).mono ?_;rintro e w2 ⟨rfl,b0⟩;have e0:Hid (Bq w w2):=HB.trans (b0.mono HB.size);clear b0;go_wp2
 go_ret2
 exact⟨rfl,e0⟩
end Go.Proofs.YtfhpibppblbgcaaGreatDoor
namespace Go.Proofs.YtfhpibppblbgcaaGreatDoor
open Go.Proofs.Tryz
variable{w:World}{Pb k cap:Nat}{ls:List Int}{s l:List UInt8}{ao:Option Addr}{a b c:Int}
namespace Fl
def bA:List UInt8:=[70,80,49,0,6,1,0,0,3,0,1,0,1,1,1,4,0,1,2,4,0,0,0,7,0,3,1,3,4]
end Fl
open Go.RowKit
def zew(hE:Jn w)(hl:l.length<=100000)(hg:1<w.heap.size)(hm:Xs w)(hs:s.length<=1099511627776)(hb:zz0 w ao s):
  Cq 6 #[.string ⟨l.toArray⟩,.slice ao s.length cap] w λe w'=>e=.returned (.tuple #[Iq (Fl.checked (Fl.ak l) (Fl.decode s)).1,Iq (Fl.checked (Fl.ak l) (Fl.decode s)).2])/\Bq w w':=by
 refine yt4 hE hl hg hm (λw1 hw1=>?_);refine(yu3 (cap:=cap) (ao:=ao) (s:=s) (w:=w1) hs (hb.below hw1)).mono ?_;rintro e w' ⟨h1,h2,h3⟩;refine⟨h1,h2,λh=>?_⟩;obtain⟨la,n,lc,na,n',nc,e1,e2⟩:=h3 h;exact⟨la,n,lc,na,n',nc,e1,e2 w' ⟨Nat.le_refl _,λ_ _ _=>rfl⟩⟩
namespace Fl
end Fl
end Go.Proofs.YtfhpibppblbgcaaGreatDoor
namespace Go.Proofs.YtfhpibppblbgcaaGreatDoor
open Go.Proofs.Tryz
variable{w:World}{Pb k cap:Nat}{ls:List Int}{s l:List UInt8}{ao:Option Addr}{a b c:Int}
namespace Fl
end Fl
namespace Fl
def gM{q:Nat×Nat×aS}(h:(bf q).1=0):q.1=0/\(bH q.2.2).1=0/\(bx (bH q.2.2).2.1 (bH q.2.2).2.2).2.1=true/\(bf q).2.2=(bx (bH q.2.2).2.1 (bH q.2.2).2.2).1:=by
 unfold bf at h⊢
 by_cases h1:q.1≠0
 ·rw[if_pos h1]at h;exact absurd h h1
 by_cases h2:0<(bH q.2.2).1
 ·rw[if_neg h1,if_pos h2]at h;cases h
 by_cases h3:(bx (bH q.2.2).2.1 (bH q.2.2).2.2).2.1=false
 ·rw[if_neg h1,if_neg h2,if_pos h3]at h;cases h
 rw[if_neg h1,if_neg h2,if_neg h3];exact⟨Decidable.of_not_not h1,by omega,by simpa using h3,rfl⟩
def jx(h:(bf (ak l)).1=0):decode (bf (ak l)).2.2=(((bH (ak l).2.2).2.1,(bH (ak l).2.2).2.2),true,0):=by
 obtain⟨h1,h2,h3,h4⟩:=gM h;rw[h4];exact(iG h3).1
def lg(h:(bf (ak l)).1=0):checked (ak l) (decode (bf (ak l)).2.2)=(0,-1):=by
 obtain⟨h1,h2,h3,h4⟩:=gM h;unfold checked;rw[if_neg (by rw[h1];simp),jx h,if_neg (by simp)];exact(jQ (eJ l h1) (ee l h1).1 (jj l 4) h2).1
def lf(h:(bf (ak l)).1=0):3<=(bf (ak l)).2.2.length:=by
 have h1:=jx h;refine Classical.byContradiction λhn=>?_;have h2:=congrArg (λx=>x.2.1) h1;unfold decode at h2
 by_cases h0:dg (bf (ak l)).2.2<3
 ·rw[if_pos h0]at h2;simp at h2
 ·have:=(iA h0).2
  omega
def ko{ns:List ar}(h:(bx ls ns).2.1=true):(bx ls ns).1.length<=100000:=by
 unfold bx at h⊢
 by_cases h1:4<ls.length\/ns.length=0\/200<ns.length
 ·rw[if_pos h1]at h;simp at h
 rw[if_neg h1]at h⊢
 by_cases h2:ls.all cq=false
 ·rw[if_pos h2]at h;simp at h
 rw[if_neg h2]at h⊢
 by_cases h3:0<=bh ns
 ·rw[if_pos h3]at h;simp at h
 rw[if_neg h3]
 have a1:=gl ns (λx hx=>by
  obtain⟨i,hi,e⟩:=List.getElem_of_mem hx;have h4:=fV (ns:=ns) (by omega) i hi;unfold nth at h4;rw[List.getD_eq_getElem?_getD,List.getElem?_eq_getElem hi]at h4;rw[<-e]
  exact h4)
 have a2:=dx ls.length;have a3:=dY ls;have a4:=dx ns.length;simp only[bO,List.length_append,List.length_cons,List.length_nil];omega
def ld(h:(bf (ak l)).1=0):(bf (ak l)).2.2.length<=100000:=by
 obtain⟨h1,h2,h3,h4⟩:=gM h;rw[h4];exact ko h3
end Fl
namespace Fl
def eN{p:aS}(lv:p.Lv)(ha:0<=a/\a<p.n)(hb:0<=b/\b<p.n)(hc:0<=c/\c<p.n)(h1:aL p a c=true)(h2:aL p b c=true):aL p (jn p a b) c=true:=by
 obtain⟨k,h3,h4,-,-,h5⟩:=lv.fT.ki a.toNat b.toNat (by omega) (by omega)
 have e:(jn p a b).toNat=k:=by unfold jn;rw[h4];simp
 unfold aL;rw[e];exact h5 _ (by omega) h1 h2
def gL{p:aS}(lv:p.Lv)(hc:0<=c/\c<p.n):aL p (aM p) c=true:=by
 unfold aL aM;rw[Int.toNat_natCast];exact(iq lv.fT).2 _ (by omega)
def nN(p:aS)(a b:List Int):Prop:=∀i,i<p.cells.length+p.am->aL p (a.getD i 0) (b.getD i 0)=true
section
variable{p:aS}{va vb:List Int}
def jy(lv:p.Lv)(hl:nN p va vb)(oa:dX p va){a:dM}(ho:zt5 va a):aL p (bV p va a) (bV p vb a)=true:=by
 unfold bV
 cases hv:a.var
 ·exact ez lv lv.aM
 exact hl a.v (by rw[<-oa.1];exact ho hv)
def mZ(lv:p.Lv)(hl:nN p va vb)(oa:dX p va)(ob:dX p vb){e:dd}(ha:cX va.length e)(hb:cX vb.length e):aL p (br p va e) (br p vb e)=true:=by
 have ia:=ztw ha;have ib:=ztw hb;have h1:=jy lv hl oa ia.1;have r1:=dm lv oa ia.1;have r2:=dm lv ob ib.1;unfold br
 split
 ·exact h1
 rename_i h0;have h2:=jy lv hl oa (ia.2 (by omega));have r3:=dm lv oa (ia.2 (by omega));have r4:=dm lv ob (ib.2 (by omega));have r5:=lv.jn r2 r4;have u:=gY lv r2 r4;exact eN lv r1 r3 r5 (aA lv r1 r2 r5 h1 u.1) (aA lv r3 r4 r5 h2 u.2)
def nt(lv:p.Lv){d:Int}(ha:0<=a/\a<p.n)(hb:0<=b/\b<p.n)(hc:0<=c/\c<p.n)(hd:0<=d/\d<p.n)(h1:aL p a c=true)(h2:aL p b d=true):aL p (jn p a b) (jn p c d)=true:=by
 have r:=lv.jn hc hd;have u:=gY lv hc hd;exact eN lv ha hb r (aA lv ha hc r h1 u.1) (aA lv hb hd r h2 u.2)
def fY(lv:p.Lv)(hl:nN p va vb)(oa:dX p va)(ob:dX p vb):∀(d:Nat) (l:List aa) (u u':Int),aT va.length p.aj.length d l->(0<=u/\u<p.n)->(0<=u'/\u'<p.n)->aL p u u'=true->∀m∈bz p va d l u,∃m'∈bz p vb d l u',m'.1=m.1/\aL p m.2 m'.2=true/\(0<=m'.2/\m'.2<p.n)
 |0,_,_,_,_,_,_,_,m,hm=>by cases hm
 |d+1,l,u,u',hs,hu,hu',huu,m,hm=>by
  have bj:va.length=vb.length:=oa.1.trans ob.1.symm;obtain⟨s,b0,hm⟩:=List.mem_flatMap.1 (show m∈l.flatMap (aI (bz p va d) p va u) from hm);obtain⟨s1,s2,s3,s4⟩:=hs s b0;have s2':cX vb.length s.e:=(by rw[<-bj];exact s2);have hv:=mZ lv hl oa ob s2 s2';have ra:=eu lv oa s2;have rb:=eu lv ob s2';have hj:=nt lv hu ra hu' rb huu hv;have ja:=lv.jn hu ra;have jb:=lv.jn hu' rb
  suffices h:∃m'∈aI (bz p vb d) p vb u' s,m'.1=m.1/\aL p m.2 m'.2=true/\(0<=m'.2/\m'.2<p.n) by
   obtain⟨m',h1,h2⟩:=h;exact⟨m',List.mem_flatMap.2 ⟨s,b0,h1⟩,h2⟩
  unfold aI at hm⊢
  split at hm
  ·rename_i a0
   rw[List.mem_singleton]at hm;rw[if_pos a0];exact⟨_,List.mem_singleton.2 rfl,by rw[hm],by rw[hm];exact hj,jb⟩
  rename_i a0;rw[if_neg a0]
  split at hm
  ·rename_i c0
   rw[if_pos c0];rcases List.mem_append.1 hm with hm|hm
   ·obtain⟨m',h1,h2⟩:=fY lv hl oa ob d _ _ _ s3 ja jb hj m hm
    exact⟨m',List.mem_append_left _ h1,h2⟩
   obtain⟨m',h1,h2⟩:=fY lv hl oa ob d _ _ _ s4 ja jb hj m hm;exact⟨m',List.mem_append_right _ h1,h2⟩
  cases hm
def jz(lv:p.Lv)(ho:p.Ok)(ob:dX p vb)(hf:∀m∈bz p vb 4 p.aX (aM p),bU p m.1=true->bR p vb m=true):∀(f:Nat) (vs:List Int),dX p vs->nN p vs vb->nN p (raise p f vs) vb
 |0,vs,_,h=>h
 |f+1,vs,ok,h=>by
  unfold raise
  split
  ·rename_i vs' hr
   unfold js at hr
   split at hr
   ·rename_i m hm
    injection hr with hr;subst hr;have hp:=List.find?_some (p:=λm=>bU p m.1 && !bR p vs m) hm;have dW:=List.mem_of_find?_eq_some hm;rw[Bool.and_eq_true]at hp;have a0:=lv.aM;have b0:=zy6 lv ok 4 p.aX (aM p).toNat (by rw[ok.1];exact ho.aX) (by omega) m (by rw[show (((aM p).toNat:Nat):Int)=aM p by omega];exact dW);have h1:=(hZ lv ok b0 hp.1 (by simpa using hp.2)).1;refine jz lv ho ob hf f _ h1 (λi hi=>?_);obtain⟨m',g1,g2,g3,g4⟩:=fY lv h ok ob 4 p.aX (aM p) (aM p) (by rw[ok.1];exact ho.aX) a0 a0 (ez lv a0) m dW;have g5:=hf m' g1 (by rw[g2];exact hp.1);have hl:=hp.1;unfold bU at hl;rw[Bool.and_eq_true,decide_eq_true_eq,decide_eq_true_eq]at hl;unfold bR at g5;rw[if_neg (by rw[g2];omega),g2]at g5;obtain⟨-,k,hk,ek⟩:=b0;have hi':i<vs.length:=(by rw[ok.1];exact hi);have e0:=ok.2 i hi';have c0:=ob.2 i (by rw[ob.1];exact hi);rw[Qa,List.getElem?_set]
    by_cases d0:m.1.x=i
    ·rw[d0]at g5⊢
     rw[if_pos rfl,if_pos hi'];exact eN lv e0 (by omega) c0 (h i hi) (aA lv (by omega) g4 c0 g3 g5)
    rw[if_neg d0,<-Qa];exact h i hi
   cases hr
  exact h
def iU(lv:p.Lv)(ho:p.Ok):∀(f:Nat) (vs:List Int),dX p vs->ij p vs<f->js p (raise p f vs)=none
 |0,vs,_,h=>absurd h (by omega)
 |f+1,vs,ok,h=>by
  unfold raise
  cases hr:js p vs with
  |none=>exact hr
  |some vs'=>
   simp only;unfold js at hr
   split at hr
   ·rename_i m hm
    injection hr with hr;subst hr;have hp:=List.find?_some (p:=λm=>bU p m.1 && !bR p vs m) hm;have dW:=List.mem_of_find?_eq_some hm;rw[Bool.and_eq_true]at hp;have a0:=lv.aM;have b0:=zy6 lv ok 4 p.aX (aM p).toNat (by rw[ok.1];exact ho.aX) (by omega) m (by rw[show (((aM p).toNat:Nat):Int)=aM p by omega];exact dW);obtain⟨h1,h2⟩:=hZ lv ok b0 hp.1 (by simpa using hp.2);exact iU lv ho f _ h1 (by omega)
   cases hr
def lZ(lv:p.Lv)(ob:dX p (bN p ls)):nN p (start p) (bN p ls):=λi hi=>by
 have hb:=ob.2 i (by rw[ob.1];exact hi);unfold start
 by_cases hc:i<p.cells.length
 ·have e:(bN p (List.replicate p.am (aM p))).getD i 0=(bN p ls).getD i 0:=by
   unfold bN;rw[Qa,Qa,List.getElem?_append_left (by simpa using hc),List.getElem?_append_left (by simpa using hc)]
  rw[e];exact ez lv hb
 have e:(bN p (List.replicate p.am (aM p))).getD i 0=aM p:=by
  unfold bN;rw[Qa,List.getElem?_append_right (by simp;omega),List.getElem?_replicate,if_pos (by simp;omega)];rfl
 rw[e];exact gL lv hb
end
end Fl
namespace Fl
structure gK(p:aS)(ls:List Int)(x:List ar):Prop where
 ll:ls.length=p.am
 lr:∀y∈ls,0<=y/\y<(p.n:Int)
 fo:∀k,k<x.length->follows p ls x (nth x k)=true
 ok:zv6 ls x
 al:cU 4 x ((x.length:Int) - 1) p.aX=true
def km{p:aS}{x:List ar}(ok:zv6 ls x)(h:(check p ls x).1=0):gK p ls x:=by
 unfold check at h
 split at h
 ·cases h
 rename_i h1
 split at h
 ·cases h
 rename_i hn
 split at h
 ·rename_i ha
  refine⟨Decidable.of_not_not λhh=>h1 (.inl hh),λy hy=>⟨ok.l0.2 y hy,?_⟩,λk hk=>?_,ok,ha⟩
  ·refine Classical.byContradiction λhh=>h1 (.inr (List.any_eq_true.2 ⟨y,hy,decide_eq_true (by omega)⟩))
  have:=List.find?_eq_none.1 hn k (List.mem_range.2 hk);simpa using this
 cases h
def mY{n:ar}(h:bG n=true):∀q∈prem n,0<=q:=λq hq=>by
 obtain⟨-,-,s1,s2,s3,s4,-⟩:=zsx h;unfold prem at hq
 split at hq
 ·simp only[List.mem_cons,List.not_mem_nil,or_false]at hq;rcases hq with rfl|rfl<;>assumption
 split at hq
 ·simp only[List.mem_cons,List.not_mem_nil,or_false]at hq;subst hq;assumption
 split at hq
 ·simp only[List.mem_cons,List.not_mem_nil,or_false]at hq;rcases hq with rfl|rfl|rfl<;>assumption
 split at hq
 ·simp only[List.mem_cons,List.not_mem_nil,or_false]at hq;rcases hq with rfl|rfl<;>assumption
 split at hq
 ·exact s4 q hq
 cases hq
section
variable{p:aS}{x:List ar}
def gK.at(h:gK p ls x){k:Int}(hk:0<=k/\k<x.length):(0<=(nd x k).ag/\(nd x k).ag<p.n)/\bS p ls x (nd x k)=true/\(0<=(nd x k).a)/\∀q∈prem (nd x k),0<=q/\q<(x.length:Int):=by
 have h1:=h.fo k.toNat (by omega);have h2:=zuy (h.ok.ok k.toNat (by omega));obtain⟨-,s0,s1,-⟩:=zsx h2.1;simp only[follows,Bool.and_eq_true,decide_eq_true_eq]at h1;exact⟨⟨s0,h1.1⟩,h1.2,s1,λq hq=>⟨mY h2.1 q hq,by have:=h2.2 q hq;omega⟩⟩
def gK.lv(h:gK p ls x)(lv:p.Lv):dX p (bN p ls):=by
 unfold bN;refine⟨by simp[h.ll],λi hi=>?_⟩;rw[Qa]
 by_cases hc:i<p.cells.length
 ·rw[List.getElem?_append_left (by simpa using hc),List.getElem?_map,Qb hc]
  have:=lv.ce _ (List.getElem_mem hc);simp only[Option.map_some,Option.getD_some];omega
 simp only[List.length_append,List.length_map]at hi;rw[List.getElem?_append_right (by simp;omega),List.length_map,Qb (by omega)];exact h.lr _ (List.getElem_mem _)
def gK.atom(h:gK p ls x)(lv:p.Lv){k:Int}(hk:0<=k/\k<x.length){a:dM}(ho:da x k a=true):aL p (bV p (bN p ls) a) (nd x k).ag=true:=by
 obtain⟨h1,h2,h3,-⟩:=h.at hk;unfold da at ho;simp only[Bool.and_eq_true,decide_eq_true_eq]at ho;unfold bV
 cases hv:a.var
 ·rw[if_neg (by simp)]
  exact gL lv h1
 rw[hv]at ho;unfold bS at h2;rw[if_neg (by rw[ho.1];simp),if_pos (by rw[ho.1];simp)]at h2;rw[Bool.and_eq_true]at h2;have h5:=h2.2;rw[ho.2,Int.toNat_natCast]at h5;rw[if_pos rfl];exact h5
def gK.val(h:gK p ls x)(lv:p.Lv){k:Int}(hk:0<=k/\k<x.length){e:dd}(he:cX (bN p ls).length e)(ho:dv x k e=true):aL p (br p (bN p ls) e) (nd x k).ag=true:=by
 obtain⟨h1,h2,h3,h4⟩:=h.at hk;have hi:=ztw he;unfold dv at ho;unfold br
 split
 ·rename_i h0
  rw[if_pos h0]at ho;exact h.atom lv hk ho
 rename_i h0;rw[if_neg h0]at ho;simp only[Bool.and_eq_true,decide_eq_true_eq]at ho;obtain⟨k2,ka,kb,kc⟩:=ho
 have hp:prem (nd x k)=[(nd x k).b,(nd x k).c]:=by unfold prem;rw[if_pos k2]
 rw[hp]at h4;have rb:=h4 (nd x k).b (by simp);have rc:=h4 (nd x k).c (by simp);unfold bS at h2;rw[if_neg (by omega),if_neg (by omega),if_pos k2]at h2;simp only[Bool.and_eq_true,decide_eq_true_eq]at h2;have ab:=dm lv (h.lv lv) hi.1;have ac:=dm lv (h.lv lv) (hi.2 (by omega));exact eN lv ab ac h1 (aA lv ab (h.at rb).1 h1 (h.atom lv rb kb) h2.2.2.2.1) (aA lv ac (h.at rc).1 h1 (h.atom lv rc kc) h2.2.2.2.2)
def jJ{l:List aa}{s:aa}(h:s∈l):∃i,i<l.length/\l.getD i noS=s:=by
 obtain⟨i,hi,e⟩:=List.getElem_of_mem h;exact⟨i,hi,by rw[Qa,Qb hi];exact e⟩
def gK.fits(h:gK p ls x)(lv:p.Lv):∀(d:Nat) (k:Int) (l:List aa) (u:Int),(0<=k/\k<x.length)->cU d x k l=true->aT (bN p ls).length p.aj.length d l->(0<=u/\u<p.n)->aL p u (nd x k).ag=true->∀m∈bz p (bN p ls) d l u,bR p (bN p ls) m=true
 |0,_,_,_,_,_,_,_,_,m,hm=>by cases hm
 |d+1,k,l,u,hk,ho,hs,hu,huk,m,hm=>by
  obtain⟨s,h0,hm⟩:=List.mem_flatMap.1 (show m∈l.flatMap (aI (bz p (bN p ls) d) p (bN p ls) u) from hm);obtain⟨s1,s2,s3,s4⟩:=hs s h0;obtain⟨i,hi,es⟩:=jJ h0;obtain⟨k1,k2,-,k4⟩:=h.at hk;unfold cU at ho;simp only[Bool.and_eq_true,decide_eq_true_eq,List.all_eq_true,List.mem_range]at ho;obtain⟨o7,ol,oa⟩:=ho;have o1:=oa i hi;rw[es]at o1;have hp:prem (nd x k)=(nd x k).aU:=(by unfold prem;rw[if_neg (by omega),if_neg (by omega),if_neg (by omega),if_neg (by omega),if_pos o7]);have dW:(nd x k).aU.getD i 0∈(nd x k).aU:=by
   rw[Qa,Qb (by omega)];exact List.getElem_mem _
  have hq:=k4 ((nd x k).aU.getD i 0) (by rw[hp];exact dW);unfold bS at k2;rw[if_neg (by omega),if_neg (by omega),if_neg (by omega),if_neg (by omega),if_neg (by omega),if_neg (by omega),if_neg (by omega)]at k2;have k3:=List.all_eq_true.1 k2 _ dW;simp only[Bool.and_eq_true,decide_eq_true_eq]at k3;generalize (nd x k).aU.getD i 0=q at*;obtain⟨q1,q2,q3,q4⟩:=h.at hq;have d0:aL p u (nd x q).ag=true:=aA lv hu k1 q1 huk k3.2;have a0:=eu lv (h.lv lv) s2;have e0:=lv.jn hu a0;unfold eY at o1;simp only[Bool.and_eq_true,decide_eq_true_eq]at o1;obtain⟨ok,oo⟩:=o1;unfold aI at hm
  by_cases f0:s.kind=3\/s.kind=4
  ·rw[if_pos f0,List.mem_singleton]at hm
   rw[if_neg (by omega),if_neg (by omega)]at oo;simp only[Bool.and_eq_true,decide_eq_true_eq]at oo;have b0:prem (nd x q)=[(nd x q).b]:=(by unfold prem;rw[if_neg (by omega),if_pos (by omega)]);have hb:=q4 (nd x q).b (by rw[b0];simp);have c0:=h.val lv hb s2 oo.2;have i0:=(h.at hb).1;subst hm;unfold bR;unfold bS at q2;rcases f0 with h3|h4
   ·rw[if_neg (by omega),if_neg (by omega),if_neg (by omega),if_pos (by omega)]at q2
    unfold dS at q2;simp only[Bool.and_eq_true,decide_eq_true_eq]at q2;obtain⟨g1,-,g2,g3⟩:=q2;rw[oo.1,Int.toNat_natCast]at g2 g3;rw[if_neg (by simp only;omega)];have ht:=(h.lv lv).2 s.x (by omega);exact eN lv hu a0 ht (aA lv hu q1 ht d0 g3) (aA lv a0 i0 ht c0 g2)
   rw[if_neg (by omega),if_neg (by omega),if_neg (by omega),if_neg (by omega),if_pos (by omega)]at q2;unfold dS at q2;simp only[Bool.and_eq_true,decide_eq_true_eq]at q2;obtain⟨g1,-,g2,g3⟩:=q2;rw[oo.1,Int.toNat_natCast]at g2 g3;rw[if_pos (by simp only;omega)];have ht:=iW lv (i:=s.x) (by simp only[List.length_map]at g1;omega);exact eN lv hu a0 ht (aA lv hu q1 ht d0 g3) (aA lv a0 i0 ht c0 g2)
  rw[if_neg f0]at hm
  have j0:s.kind=5\/s.kind=6:=by rcases s1 with e|e|e|e<;>omega
  rw[if_pos j0]at hm
  have hG:∀(w:Int),w∈prem (nd x q)->cJ p x (nd x q) w=true->(nd x q).a∈prem (nd x q)->dv x (nd x q).a s.e=true->aL p (jn p u (br p (bN p ls) s.e)) (nd x w).ag=true/\(0<=w/\w<(x.length:Int)):=λw hw hg ha he=>by
   have k0:=q4 w hw;have l0:=q4 _ ha;have g0:=(h.at k0).1;have m0:=(h.at l0).1;unfold cJ at hg;simp only[Bool.and_eq_true,decide_eq_true_eq]at hg;exact⟨eN lv hu a0 g0 (aA lv hu q1 g0 d0 hg.2.2.2) (aA lv a0 m0 g0 (h.val lv l0 s2 he) hg.2.2.1),k0⟩
  unfold bS at q2;rcases j0 with h5|h6
  ·rw[if_pos h5]at oo
   simp only[Bool.and_eq_true]at oo;rw[if_neg (by omega),if_neg (by omega),if_neg (by omega),if_neg (by omega),if_neg (by omega),if_pos (by omega),Bool.and_eq_true]at q2;have b0:prem (nd x q)=[(nd x q).a,(nd x q).b,(nd x q).c]:=(by unfold prem;rw[if_neg (by omega),if_neg (by omega),if_pos (by omega)]);rw[b0]at hG;have g1:=hG (nd x q).b (by simp) q2.1 (by simp) oo.1;have g2:=hG (nd x q).c (by simp) q2.2 (by simp) oo.1;rcases List.mem_append.1 hm with hm|hm
   ·exact h.fits lv d _ _ _ g1.2 oo.2.1 s3 e0 g1.1 m hm
   exact h.fits lv d _ _ _ g2.2 oo.2.2 s4 e0 g2.1 m hm
  rw[if_neg (by omega),if_pos h6]at oo;simp only[Bool.and_eq_true]at oo;rw[if_neg (by omega),if_neg (by omega),if_neg (by omega),if_neg (by omega),if_neg (by omega),if_neg (by omega),if_pos (by omega)]at q2;have b0:prem (nd x q)=[(nd x q).a,(nd x q).b]:=(by unfold prem;rw[if_neg (by omega),if_neg (by omega),if_neg (by omega),if_pos (by omega)]);rw[b0]at hG;have g1:=hG (nd x q).b (by simp) q2 (by simp) oo.1
  have du:s.aJ=[]:=by rcases s1 with e|e|e|e<;>first|omega|exact e.2
  rcases List.mem_append.1 hm with hm|hm
  ·exact h.fits lv d _ _ _ g1.2 oo.2 s3 e0 g1.1 m hm
  rw[du]at hm
  cases d<;>cases hm
end
def whole{p:aS}(lv:p.Lv)(ho:p.Ok){x:List ar}(h:gK p ls x):(bH p).1=0:=by
 have ob:=h.lv lv
 have hb:aT (bN p ls).length p.aj.length 4 p.aX:=by rw[ob.1];exact ho.aX
 have hx:=h.ok.x0;have a0:=lv.aM;have hf:=h.fits lv 4 ((x.length:Int) - 1) p.aX (aM p) (by omega) h.al hb a0 (gL lv (h.at (by omega)).1);have e0:=jz lv ho ob (λm hm _=>hf m hm) 25 (start p) (zvx lv) (lZ lv ob);have hd:=iU lv ho 25 (start p) (zvx lv) (kZ lv ho (zvx lv));obtain⟨ok,f0⟩:=iV lv ho
 have aK:∀m∈bz p (bI p) 4 p.aX (aM p),bR p (bI p) m=true:=λm hm=>by
  have c0:aT (bI p).length p.aj.length 4 p.aX:=(by rw[ok.1];exact ho.aX)
  by_cases hl:bU p m.1=true
  ·unfold js at hd
   split at hd
   ·cases hd
   rename_i hn;have:=List.find?_eq_none.1 hn m hm;rw[hl]at this;have h9:bR p (raise p 25 (start p)) m=true:=(by simpa using this);exact h9
  obtain⟨m',g1,g2,g3,g4⟩:=fY lv e0 ok ob 4 p.aX (aM p) (aM p) c0 a0 a0 (ez lv a0) m hm;have g5:=hf m' g1;have g0:=zy6 lv ok 4 p.aX (aM p).toNat c0 (by omega) m (by rw[show (((aM p).toNat:Nat):Int)=aM p by omega];exact hm);obtain⟨d0,k,hk,ek⟩:=g0;unfold bR at g5⊢;rw[g2]at g5
  by_cases h4:m.1.kind=4
  ·rw[if_pos h4]at g5⊢
   have b0:m.1.x<p.aj.length:=by rcases d0 with h|h<;>omega
   exact aA lv (by omega) g4 (iW lv b0) g3 g5
  rw[if_neg h4]at g5⊢
  have i0:m.1.x<(bI p).length/\m.1.kind=3:=by rcases d0 with h|h<;>omega
  have b0:m.1.x<p.cells.length:=by
   refine Classical.byContradiction λhh=>hl ?_;unfold bU;rw[decide_eq_true i0.2,decide_eq_true (by omega)];rfl
  have e:(bI p).getD m.1.x 0=(bN p ls).getD m.1.x 0:=by
   rw[<-f0];unfold bN;rw[Qa,Qa,List.getElem?_append_left (by simpa using b0),List.getElem?_append_left (by simpa using b0)]
  rw[e];exact aA lv (by omega) g4 (ob.2 _ (by rw[ob.1];omega)) g3 g5
 unfold bH;have h0:cf p (bI p)=0:=by
  unfold cf
  split
  ·rename_i m hm
   have h1:=List.find?_some (p:=λm=> !bR p (bI p) m) hm;rw[aK m (List.mem_of_find?_eq_some hm)]at h1
   cases h1
  rfl
 rw[if_neg (by omega)]
end Fl
end Go.Proofs.YtfhpibppblbgcaaGreatDoor
