import Derived.Test.YtjmcibbdedlcoaaGreatDoorM14
import Derived.Test.YtjmcibbdedlcoaaGreatDoorM19
import Derived.Test.YtjmcibbdedlcoaaGreatDoorM20
import Derived.Test.YtjmcibbdedlcoaaGreatDoorM21
set_option linter.all false
set_option maxRecDepth 100000
set_option maxHeartbeats 40000000
namespace Go.Proofs.YtjmcibbdedlcoaaGreatDoor
open Go.RowKit Go.Proofs.Tryz List World Region Value Act
variable{w:World}{Pb k d n:Nat}{hv bv cv:Value}{ls vs:Is}{s l t:K}{L u c:Int}{cs ds:List Nat}
def ykx{Lb:Nat}{bC lv nv:Value}{p:Fl.aV}{S:Nat->Prop}{x:List Fl.ar}(h:CpIn w Pb Lb bC hv bv lv nv p S ls x)
  (v0:ls.length=p.ak->(∀y∈ls,y<p.n)->∀k,k<x.length->(∀j,j<k->Fl.follows p ls x (Fl.nth x j)=true)->NdOk p x (Fl.nth x k)):
  F 27 #[M Pb,.agg #[lv,nv]] w (yf1 (Fl.check p ls x) w):=by
 obtain⟨la,lc,rfl⟩:=Vv h.li
 obtain⟨na,nc,rfl⟩:∃a c,nv=J a x.length c:=by obtain⟨a,c,e,-⟩:=h.no;exact⟨a,c,e⟩
 obtain⟨ba,bc,rfl⟩:∃a c,bv=J a p.aZ.length c:=by obtain⟨a,c,e,-⟩:=h.bs;exact⟨a,c,e⟩
 have HH:=A h;have y0:=A v0;have c0:=h.x0;clear v0 h
 go_enter func27,ntmps27
 go_wp2_with fail
 obtain⟨W1,h0⟩:=U (w.alloc (.cells #[J la ls.length lc,J na x.length nc] 89));rw[<-h0]
 have z0:E w W1:=by rw[h0];exact bA
 have O0:W1.heap.size=w.heap.size+1:=by rw[h0];simp
 have hp:∀i,W1.cell? (Y w.heap.size i)=#[J la ls.length lc,J na x.length nc][i]?:=λi=>by rw[h0];exact cell?_alloc_new _ _ _ _
 have p0:D W1 w.heap.size 0 (J la ls.length lc):=hp 0;have p1:D W1 w.heap.size 1 (J na x.length nc):=hp 1;have HP:O (∀W,E W1 W->D W w.heap.size 0 (J la ls.length lc)/\D W w.heap.size 1 (J na x.length nc)):=λW hW=>⟨cT hW (by omega) p0,cT hW (by omega) p1⟩;have d0:=A z0;obtain⟨fit,e0⟩:=U (decide (ls.length=p.ak/\∀y∈ls,0<=y/\y<p.n));have A0:O (F 45 #[M Pb,J la ls.length lc] W1 (Rq (.bool fit) W1)):=by
  have h2:=HH.below d0.out;rw[e0];exact yx4 h2.la h2.p0 h2.p3 _ ls h2.li (by have:=h2.l0.1;omega)
 have i0:=A e0;clear h0 z0 hp e0
 go_wp2_with fail
 refine(A0.out).mono ?_;rintro e w2 ⟨rfl,rfl⟩
 cases fit with
 |false=>
  have HE:O (Fl.check p ls x=(10,-1)):=by
   show _=_;have h1:=of_decide_eq_false i0.symm;unfold Fl.check;rw[G]
   by_cases h2:ls.length=p.ak
   ·right
    refine Classical.byContradiction λh3=>h1 ⟨h2,λy hy=>⟨HH.l0.2 y hy,?_⟩⟩;refine Classical.byContradiction λh4=>h3 ?_;rw[any_eq_true];exact⟨y,hy,decide_eq_true (by omega)⟩
   exact .inl h2
  go_wp2;go_ret;refine⟨d0,.inr (.inl ⟨by rw[HE.out],rfl⟩)⟩
 |true=>
  have hf:=of_decide_eq_true i0.symm;have HF:=A hf
  have HV:O (∀W,E w2 W->F 46 #[M Pb,J la ls.length lc] W λe w'=>E W w'/\∃a c,e=.returned (J a (Fl.vars p ls).length c)/\Zw w'.heap.size w' (J a (Fl.vars p ls).length c) (Fl.vars p ls)):=λW hW=>by
   have h2:=(HH.below d0).below hW;exact yx6 h2.hz.1 h2.p1 h2.ci h2.li ⟨by have:=h2.cl.1;simp;omega,by have:=h2.l0.1;omega⟩
  clear hf
  go_wp2_with fail
  refine Vz HP (dA) [(0,0),(0,1),(0,2),(0,3),(0,5),(0,6),(1,4),(1,7),(0,8),(1,9),(0,10)] [] [] (by kernel_rfl) (λ_ _ _ _ h=>h) (λops hG=>?_);clear hG
  iterate 6 refine Zv rfl (by intros;go_simp<;>rfl) (by go_simp<;>rfl) ?_
  refine Zs ?_
  go_wp2_with fail
  refine(HV _ dA).mono ?_;rintro e W2 ⟨B0,va,vc,rfl,C0⟩;have j0:O (E w2 W2):=dA.trans B0;have D0:=A C0;clear B0 C0
  go_wp2_with fail
  refine⟨HP _ j0,?_⟩;refine Zs ?_
  go_wp2_with fail
  refine(ykz _).mono ?_;rintro e W3 ⟨rfl,q0⟩;have k0:O (E w2 W3):=(by rw[q0];exact j0.alloc j0.size _);have r0:=A q0;clear q0
  go_wp2_with fail
  refine⟨HP _ k0,?_⟩;refine Zv rfl (by intros;go_simp<;>rfl) (by go_simp<;>rfl) ?_;refine Zs ?_
  go_wp2_with fail
  refine⟨HP _ (k0.alloc k0.size _),?_⟩;refine Zv rfl (by intros;go_simp<;>rfl) (by go_simp<;>rfl) ?_;refine Zu ?_;obtain⟨W4,m0⟩:=U (W3.alloc (.cells #[M Pb,J va (Fl.vars p ls).length vc,J na x.length nc,Sq W2.heap.size 0 8 8] 145));rw[<-m0];have E0:E w W2:=d0.trans (j0.mono d0.size);have n0:Yb W4 (W2.heap.size+1) Pb Lb W2.heap.size (J va (Fl.vars p ls).length vc) (J na x.length nc) hv p (Fl.vars p ls) x:=by
   rw[m0,r0.out];exact HH.oX E0 D0.out
  have F0:W3.heap.size=W2.heap.size+1:=(by rw[r0.out];simp);rw[<-F0]at n0;have G0:E w W4:=by
   have h3:E w W3:=d0.trans (k0.mono d0.size);rw[m0];exact h3.alloc h3.size _
  have H0:∀y∈Fl.vars p ls,0<=y/\y<p.n:=λy hy=>by
   unfold Fl.vars at hy;rcases mem_append.1 hy with h1|h1
   ·obtain⟨z,hz,rfl⟩:=mem_map.1 h1
    have:=HH.cv.1 z hz;omega
   exact HF.2 y h1
  have I0:(Fl.vars p ls).length<=100:=by
   have h1:=HH.cl.1;have h2:=HH.l0.1;unfold Fl.vars;simp;omega
  have J0:O (F 48 #[M W3.heap.size] W4 (Rw (I (Vw p ls x)) W4)):=
   zd4 n0 (y0 HF.1 λy hy=>(HF.2 y hy).2) (by omega) H0 I0 HH.cv.2 (by have:=HH.cl.2;omega)
  have K0:=A n0;have L0:=A G0
  have b0:O (Fl.check p ls x=match (range x.length).find? (λk=> !Fl.follows p ls x (Fl.nth x k)) with
   |some k=>(9,(k:Int))
   |none=>if Fl.cO 4 x ((x.length:Int) - 1) p.aZ then(0,-1) else(10,-1)):=by
   show _=_;unfold Fl.check;rw[Z]
   ·rfl
   rintro(h1|h1)
   ·exact h1 HF.1
   obtain⟨y,hy,h2⟩:=any_eq_true.1 h1;have h3:=HF.2 y hy;have h4:=of_decide_eq_true h2;omega
  generalize W3.heap.size=Cb at*;clear n0 G0 m0 H0 I0 E0 F0
  go_wp2_with fail
  refine(J0.out).mono ?_;rintro e W5 ⟨rfl,s0⟩;have M0:=A s0;have a0:O (E w W5):=L0.trans (s0.mono L0.size)
  have o0:O (Vw p ls x=match (range x.length).find? (λk=> !Fl.follows p ls x (Fl.nth x k)) with
   |some k=>(k:Int)
   |none=> -1):=rfl
  clear s0 J0 HV A0 y0 D0 j0 k0 r0
  cases f0:(range x.length).find? (λk=> !Fl.follows p ls x (Fl.nth x k)) with
  |some k=>
   have HE:O (Fl.check p ls x=(9,(k:Int))):=(by show _=_;rw[b0.out,f0]);have HK:O (Vw p ls x=(k:Int)):=(by show _=_;rw[o0.out,f0]);have hk:k<x.length:=mem_range.1 (mem_of_find?_eq_some f0);rw[HK.out];clear f0 b0 o0 HK;have P0:((k:Int) ≥ 0)=True:=(by simp);go_wp2;go_ret;refine⟨?_,.inr (.inr ⟨by rw[HE.out],_,rfl,?_,?_⟩)⟩
   ·exact a0.alloc a0.size _
   ·rw[cell?_alloc_new];rfl
   rw[cell?_alloc_new,HE.out];rfl
  |none=>
   have HE:O (Fl.check p ls x=if Fl.cO 4 x ((x.length:Int) - 1) p.aZ then(0,-1) else(10,-1)):=(by show _=_;rw[b0.out,f0]);have HK:O (Vw p ls x= -1):=(by show _=_;rw[o0.out,f0]);rw[HK.out];clear f0 b0 o0 HK
   have HQ:O (∀W,E W5 W->D W Cb 2 (J na x.length nc)/\D W Pb 4 (J ba p.aZ.length bc)):=λW hW=>by
    have h1:=(K0.below M0).below hW;have h2:=(HH.below a0).below hW;exact⟨h1.c2,h2.p4⟩
   obtain⟨aX,g0⟩:=U (Fl.cO 4 x ((x.length:Int) - 1) p.aZ);rw[<-g0]at HE
   have t0:O (∀W,E W5 W->F 49 #[M Cb,I ((x.length:Int) - 1),J ba p.aZ.length bc] W (Rw (.bool aX) W)):=λW hW=>by
    have h1:=(K0.below M0).below hW;have h2:=(HH.below a0).below hW;rw[g0];exact ziv h2.xo 4 W _ _ _ h1 h2.hS ⟨by have:=c0.1;omega,by have:=c0.1;omega⟩ h2.bs h2.kd
   clear g0;have Q0:0<(x.length:Int)/\(x.length:Int)<=200:=(by omega)
   go_wp2_with fail
   refine Zm HQ (dA) [11] [] [] (by kernel_rfl) (λ_ _ _ _ h=>h) (λops hG=>?_);clear hG
   iterate 11 refine Zv rfl (by intros;go_simp<;>rfl) (by go_simp<;>rfl) ?_
   refine Zs ?_
   go_wp2_with fail
   refine(t0 _ dA).mono ?_;rintro e W6 ⟨rfl,N0⟩;have u0:O (E W5 W6):=dA.trans N0;clear N0
   go_wp2_with fail
   refine⟨HQ _ u0,?_⟩;refine Zv rfl (by intros;go_simp<;>rfl) (by go_simp<;>rfl) ?_;refine Zu ?_
   cases aX with
   |true=>
    go_wp2;go_ret;exact⟨a0.trans (u0.mono a0.size),.inl ⟨by rw[HE.out];rfl,rfl⟩⟩
   |false=>
    go_wp2;go_ret;exact⟨a0.trans (u0.mono a0.size),.inr (.inl ⟨by rw[HE.out];rfl,rfl⟩)⟩
namespace Fl
def jU(h:¬dV s<3):s=[70,80,49]++s.drop 3/\3<=s.length:=by
 unfold dV at h
 cases h0:dq s 0 with
 |false=>rw[G h0]at h;omega
 |true=>
  cases h1:dq s 1 with
  |false=>rw[Z (by rw[h0];simp),G h1]at h;omega
  |true=>
   cases h2:dq s 2 with
   |false=>rw[Z (by rw[h0];simp),Z (by rw[h1];simp),G h2]at h;omega
   |true=>
    simp only[dq,Qk,Qn,beq_iff_eq]at h0 h1 h2
    match s,h2.1 with
    |a::b::c::t,_=>
     have e0:=h0.2;have e1:=h1.2;have e2:=h2.2;simp at e0 e1 e2;subst e0 e1 e2;exact⟨rfl,by simp⟩
def lx(t:K):dV ([70,80,49]++t)=3:=by
 simp[dV,dq]
def jg(h:(decode s).2.1=true):bu (decode s).1.1 (decode s).1.2=(s,true,-1):=by
 unfold decode at h⊢
 by_cases h0:dV s<3
 ·rw[G h0]at h;simp at h
 rw[Z h0]at h⊢;obtain⟨hs,h3⟩:=jU h0;simp only at h⊢;have dS:=ei s 3 h3
 by_cases h1:(num s 3).2.1<0
 ·rw[G h1]at h;simp at h
 rw[Z h1]at h⊢;obtain⟨v,a1,a2,a3,a4⟩:=gp h3 (show 0<=(num s 3).2.1 by omega);rw[a3]at dS;rw[a1,a3]at h⊢
 by_cases h2:(4:Int)<(v:Int)
 ·rw[G h2]at h;simp at h
 rw[Z h2]at h⊢;simp only[Qm]at h⊢
 by_cases h4:(cW s (3+(aM v).length) v).2.1<0
 ·rw[G h4]at h;simp at h
 rw[Z h4]at h⊢;have cq:=fM s (3+(aM v).length) v (by omega);obtain⟨ls,b1,b2,b3,b4,b5⟩:=io (s:=s) (p:=3+(aM v).length) (n:=v) (by omega) (by omega);rw[b4]at cq;rw[b1,b4]at h⊢;simp only[Qm]at h⊢;have b0:=ei s (3+(aM v).length+(aW ls).length) (by omega)
 by_cases h5:(num s (3+(aM v).length+(aW ls).length)).2.1<0
 ·rw[G h5]at h;simp at h
 rw[Z h5]at h⊢;obtain⟨m,c1,c2,c3,c4⟩:=gp (s:=s) (p:=3+(aM v).length+(aW ls).length) (by omega) (by omega);rw[c3]at b0;rw[c1,c3]at h⊢
 by_cases h6:(m:Int)<1\/200<(m:Int)
 ·rw[G h6]at h;simp at h
 rw[Z h6]at h⊢;simp only[Qm]at h⊢;generalize hr:cF s m 0 (3+(aM v).length+(aW ls).length+(aM m).length) [] []=r at h⊢
 by_cases h7:0<=r.2.2.2
 ·rw[G h7]at h;simp at h
 rw[Z h7]at h⊢;obtain⟨ns,d1,d2,d3,d4⟩:=kY s m 0 (3+(aM v).length+(aW ls).length+(aM m).length) [] [] (by omega) (by rw[hr];omega);rw[hr]at d1 d3;rw[nil_append]at d1;rw[d1,d3]at h⊢
 by_cases h8:((3+(aM v).length+(aW ls).length+(aM m).length+(aG ns).length:Nat):Int)<(s.length:Int)
 ·rw[G h8]at h;simp at h
 rw[Z h8]at h⊢
 by_cases h9:0<=bf ns
 ·rw[G h9]at h;simp at h
 rw[Z h9];simp only;unfold bu;rw[Z (by omega),Z (by rw[b3];simp),Z h9];have a0:s.drop (3+(aM v).length+(aW ls).length+(aM m).length+(aG ns).length)=[]:=drop_eq_nil_of_le (by omega);have:bQ ls ns++aG ns=s:=by
  conv=>rhs;rw[hs,a4,b5,c4,d4,a0]
  unfold bQ;rw[b2,d2];simp[append_assoc]
 rw[this]
def jf{ns:List ar}(h:(bu ls ns).2.1=true):decode (bu ls ns).1=((ls,ns),true,0)/\(bu ls ns).2.2= -1:=by
 unfold bu at h⊢
 by_cases h1:4<ls.length\/ns.length=0\/200<ns.length
 ·rw[G h1]at h;simp at h
 rw[Z h1]at h⊢
 by_cases h2:ls.all cd=false
 ·rw[G h2]at h;simp at h
 rw[Z h2]at h⊢
 by_cases h3:0<=bf ns
 ·rw[G h3]at h;simp at h
 rw[Z h3];simp only[and_true]
 have aH:ls.all cd=true:=by simpa using h2
 obtain⟨s,hs⟩:=U (bQ ls ns++aG ns);rw[<-hs]
 have hs':s=[70,80,49]++(aM ls.length++(aW ls++(aM ns.length++aG ns))):=by rw[hs];unfold bQ;simp[append_assoc]
 have e3:s.drop 3=aM ls.length++(aW ls++(aM ns.length++aG ns)):=by rw[hs'];rfl
 have n3:=fS e3 (by omega);have e4:=eT e3;have n4:=gL e4 aH;have e5:=eT e4;have n5:=fS e5 (by omega);have e6:=eT e5;have aQ:∀i,i<ns.length->bD (nth ns i)=true/\(prem (nth ns i)).any (λx=>decide (((0+i:Nat):Int)<=x))=false:=by
  intro i hi;have h4:bf ns<0:=(by omega);refine⟨fC h4 i hi,?_⟩;unfold bf at h4
  cases hf:(range ns.length).find? (eQ ns) with
  |some j=>rw[hf]at h4;simp only at h4;omega
  |none=>
   rw[find?_eq_none]at hf;have:=hf i (by simpa using hi);simp only[eQ,Bool.or_eq_true,not_or,Bool.not_eq_true]at this;rw[Nat.zero_add];exact this.2.1
 obtain⟨st',hn⟩:=jH s [] ns 0 _ [] [] (by rw[append_nil];exact e6) aQ
 have a0:s.length=3+(aM ls.length).length+(aW ls).length+(aM ns.length).length+(aG ns).length:=by rw[hs'];simp;omega
 unfold decode;rw[Z (by rw[hs',lx];omega)];simp only[n3];rw[Z (by omega),Z (by omega)];simp only[Qm,n4];rw[Z (by omega)];simp only[n5];rw[Z (by omega),Z (by omega)];simp only[Qm,hn];rw[Z (by omega),Z (by rw[a0];omega)];simp only[nil_append];rw[Z h3]
end Fl
structure zu7(ls:Is)(x:List Fl.ar):Prop where
 l0:ls.length<=4/\∀y∈ls,0<=y
 x0:0<x.length/\x.length<=200
 ok:∀k,k<x.length->Fl.eQ x k=false
def yzv(h:(Fl.decode s).2.1=true):zu7 (Fl.decode s).1.1 (Fl.decode s).1.2:=by
 have h1:=Fl.jg h;generalize (Fl.decode s).1.1=ls at h1⊢;generalize (Fl.decode s).1.2=x at h1⊢;unfold Fl.bu at h1
 split at h1
 ·simp at h1
 rename_i h2
 split at h1
 ·simp at h1
 rename_i h3
 split at h1
 ·simp at h1
 rename_i h4;refine⟨⟨by omega,λy hy=>?_⟩,by omega,λk hk=>?_⟩
 ·have h5:ls.all Fl.cd=true:=by simpa using h3
  have h6:=all_eq_true.1 h5 y hy;simp only[Fl.cd,Qk,Qn]at h6;exact h6.1
 cases hb:Fl.eQ x k with
 |false=>rfl
 |true=>
  exfalso
  refine h4 ?_;unfold Fl.bf
  cases hf:(range x.length).find? (Fl.eQ x) with
  |some j=>exact Int.natCast_nonneg j
  |none=>
   have h7:=find?_eq_none.1 hf k (mem_range.2 hk);exact absurd hb h7
def zs3{x:List Fl.ar}(h:Fl.eQ x k=false):Fl.bD (Fl.nth x k)=true/\∀q∈prem (Fl.nth x k),q<(k:Int):=by
 unfold Fl.eQ at h;simp only[Bool.or_eq_false_iff,Bool.not_eq_false']at h;refine⟨by simpa using h.1,λq hq=>?_⟩;have h2:=any_eq_false.1 h.2.1 q hq;simpa using h2
def zq4{n:Fl.ar}(h:Fl.bD n=true):(0<=n.kind/\n.kind<=7)/\0<=n.ag/\0<=n.a/\0<=n.b/\0<=n.c/\(∀y∈n.aU,0<=y)/\n.aU.length<=16:=by
 simp only[Fl.bD,Fl.jB,Fl.cd,Qk,Qn,all_eq_true]at h;obtain⟨h1,h2,h3,h4,h5,h6,h7,h8⟩:=h;refine⟨?_,h2.1,h4.1.1,h5.1.1,h6.1.1,λy hy=>(h7 y hy).1,h3⟩;refine Classical.byContradiction λhn=>h1 ?_;unfold Fl.aJ;rw[Z (by omega),Z (by omega),Z (by omega),Z (by omega)]
def zu7.idx{x:List Fl.ar}(h:zu7 ls x)(hk:k<x.length){q:Int}(hq:q∈prem (Fl.nth x k))(h0:0<=q):zs8 x q/\q.toNat<k:=by
 have h1:=(zs3 (h.ok k hk)).2 q hq;exact⟨⟨h0,by omega⟩,by omega⟩
def zu7.qt{x:List Fl.ar}(h:zu7 ls x):XOk x:=by
 refine⟨λk hk h2=>?_,λk hk h3=>?_,λk hk h5=>?_,λk hk h6=>?_,λk hk h7 j hj=>?_⟩
 all_goals obtain⟨-,-,s1,s2,s3,s4,-⟩:=zq4 (zs3 (h.ok k hk)).1
 ·exact⟨(h.idx hk (by simp[prem,h2]) s2).1,(h.idx hk (by simp[prem,h2]) s3).1⟩
 ·exact(h.idx hk (by rcases h3 with h3|h3<;>simp[prem,h3]) s2).1
 ·exact⟨(h.idx hk (by rcases h5 with h5|h5<;>simp[prem,h5]) s1).1,(h.idx hk (by rcases h5 with h5|h5<;>simp[prem,h5]) s2).1⟩
 ·exact(h.idx hk (by simp[prem,h6]) s3).1
 exact(h.idx hk (by simp[prem,h7,hj]) (s4 j hj)).1
def zu7.pH{p:Fl.aV}{x:List Fl.ar}(h:zu7 ls x)(k:Nat)(hk:k<x.length)(ha:∀j,j<k->Fl.follows p ls x (Fl.nth x j)=true):NdOk p x (Fl.nth x k):=by
 obtain⟨s0,sl,s1,s2,s3,s4,s5⟩:=zq4 (zs3 (h.ok k hk)).1
 have hP:∀q,q∈prem (Fl.nth x k)->0<=q->POk p x q:=λq hq h0=>by
  obtain⟨h1,h2⟩:=h.idx hk hq h0;have h3:=ha q.toNat h2;obtain⟨t0,tl,-⟩:=zq4 (zs3 (h.ok q.toNat h1.2)).1;simp only[Fl.follows,Qk,Qn]at h3;exact⟨h0,h1.2,tl,h3.1,t0⟩
 refine⟨s0,sl,λ_=>s1,λh2=>?_,λh3=>⟨s1,?_⟩,λh5=>?_,λh6=>?_,λh7=>⟨λj hj=>?_,by omega⟩⟩
 ·exact⟨hP _ (by simp[prem,h2]) s2,hP _ (by simp[prem,h2]) s3⟩
 ·exact hP _ (by rcases h3 with h3|h3<;>simp[prem,h3]) s2
 ·exact⟨hP _ (by rcases h5 with h5|h5<;>simp[prem,h5]) s1,hP _ (by rcases h5 with h5|h5<;>simp[prem,h5]) s2⟩
 ·exact hP _ (by simp[prem,h6]) s3
 exact hP _ (by simp[prem,h7,hj]) (s4 j hj)
def zgx{nv nc:Nat}:∀(d:Nat) (l:List Fl.aa),Fl.aY nv nc d l->zvx d l
 |0,_,_=>trivial
 |d+1,l,h=>λi hi=>by
  have hm:l.getD i noS∈l:=by
   rw[Qa,Qb hi];exact getElem_mem hi
  obtain⟨h1,-,h3,h4⟩:=h _ hm;refine⟨?_,zgx d _ h3,zgx d _ h4⟩;rcases h1 with h1|h1|h1|h1
  ·exact .inl h1.1
  ·exact .inr (.inl h1.1)
  ·exact .inr (.inr (.inl h1))
  exact .inr (.inr (.inr h1.1))
end Go.Proofs.YtjmcibbdedlcoaaGreatDoor
namespace Go.Proofs.YtjmcibbdedlcoaaGreatDoor
open Go.Proofs.Tryz List World Region Value Act
variable{w:World}{Pb k d n:Nat}{hv bv cv:Value}{ls vs:Is}{s l t:K}{L u c:Int}{cs ds:List Nat}
namespace Fl
structure fO(p:aV)(ls:Is)(x:List ar):Prop where
 ll:ls.length=p.ak
 lr:∀y∈ls,0<=y/\y<(p.n:Int)
 fo:∀k,k<x.length->follows p ls x (nth x k)=true
 ok:zu7 ls x
 al:cO 4 x ((x.length:Int) - 1) p.aZ=true
def ly{p:aV}{x:List ar}(ok:zu7 ls x)(h:(check p ls x).1=0):fO p ls x:=by
 unfold check at h
 split at h
 ·cases h
 rename_i h1
 split at h
 ·cases h
 rename_i hn
 split at h
 ·rename_i ha
  refine⟨Decidable.of_not_not λhh=>h1 (.inl hh),λy hy=>⟨ok.l0.2 y hy,?_⟩,λk hk=>?_,ok,ha⟩
  ·refine Classical.byContradiction λhh=>h1 (.inr (any_eq_true.2 ⟨y,hy,decide_eq_true (by omega)⟩))
  have:=find?_eq_none.1 hn k (mem_range.2 hk);simpa using this
 cases h
def nV{n:ar}(h:bD n=true):∀q∈prem n,0<=q:=λq hq=>by
 obtain⟨-,-,s1,s2,s3,s4,-⟩:=zq4 h;unfold prem at hq
 split at hq
 ·simp only[mem_cons,not_mem_nil,or_false]at hq;rcases hq with rfl|rfl<;>assumption
 split at hq
 ·simp only[mem_cons,not_mem_nil,or_false]at hq;subst hq;assumption
 split at hq
 ·simp only[mem_cons,not_mem_nil,or_false]at hq;rcases hq with rfl|rfl|rfl<;>assumption
 split at hq
 ·simp only[mem_cons,not_mem_nil,or_false]at hq;rcases hq with rfl|rfl<;>assumption
 split at hq
 ·exact s4 q hq
 cases hq
section
variable{p:aV}{x:List ar}
def fO.at(h:fO p ls x){k:Int}(hk:0<=k/\k<x.length):(0<=(nd x k).ag/\(nd x k).ag<p.n)/\bT p ls x (nd x k)=true/\(0<=(nd x k).a)/\∀q∈prem (nd x k),0<=q/\q<(x.length:Int):=by
 have h1:=h.fo k.toNat (by omega);have h2:=zs3 (h.ok.ok k.toNat (by omega));obtain⟨-,s0,s1,-⟩:=zq4 h2.1;simp only[follows,Qk,Qn]at h1;exact⟨⟨s0,h1.1⟩,h1.2,s1,λq hq=>⟨nV h2.1 q hq,by have:=h2.2 q hq;omega⟩⟩
def fO.lv(h:fO p ls x)(lv:p.Lv):di p (vars p ls):=by
 unfold vars;refine⟨by simp[h.ll],λi hi=>?_⟩;rw[Qa]
 by_cases hc:i<p.cells.length
 ·rw[getElem?_append_left (by simpa using hc),getElem?_map,Qb hc]
  have:=lv.ce _ (getElem_mem hc);simp only[Option.map_some,Option.getD_some];omega
 simp only[length_append,length_map]at hi;rw[getElem?_append_right (by simp;omega),length_map,Qb (by omega)];exact h.lr _ (getElem_mem _)
def fO.atom(h:fO p ls x)(lv:p.Lv){k:Int}(hk:0<=k/\k<x.length){a:dI}(ho:dP x k a=true):aR p (bZ p (vars p ls) a) (nd x k).ag=true:=by
 obtain⟨h1,h2,h3,-⟩:=h.at hk;unfold dP at ho;simp only[Qk,Qn]at ho;unfold bZ
 cases hv:a.var
 ·rw[Z (by simp)]
  exact gg lv h1
 rw[hv]at ho;unfold bT at h2;rw[Z (by rw[ho.1];simp),G (by rw[ho.1];simp)]at h2;rw[Qk]at h2;have h5:=h2.2;rw[ho.2,Qm]at h5;rw[G rfl];exact h5
def fO.val(h:fO p ls x)(lv:p.Lv){k:Int}(hk:0<=k/\k<x.length){e:da}(he:bI (vars p ls).length e)(ho:dj x k e=true):aR p (aB p (vars p ls) e) (nd x k).ag=true:=by
 obtain⟨h1,h2,h3,h4⟩:=h.at hk;have hi:=zu8 he;unfold dj at ho;unfold aB
 split
 ·rename_i h0
  rw[G h0]at ho;exact h.atom lv hk ho
 rename_i h0;rw[Z h0]at ho;simp only[Qk,Qn]at ho;obtain⟨k2,ka,kb,kc⟩:=ho
 have hp:prem (nd x k)=[(nd x k).b,(nd x k).c]:=by unfold prem;rw[G k2]
 rw[hp]at h4;have rb:=h4 (nd x k).b (by simp);have rc:=h4 (nd x k).c (by simp);unfold bT at h2;rw[Z (by omega),Z (by omega),G k2]at h2;simp only[Qk,Qn]at h2;have ab:=cD lv (h.lv lv) hi.1;have ac:=cD lv (h.lv lv) (hi.2 (by omega));exact fj lv ab ac h1 (aL lv ab (h.at rb).1 h1 (h.atom lv rb kb) h2.2.2.2.1) (aL lv ac (h.at rc).1 h1 (h.atom lv rc kc) h2.2.2.2.2)
def kU{l:List aa}{s:aa}(h:s∈l):∃i,i<l.length/\l.getD i noS=s:=by
 obtain⟨i,hi,e⟩:=getElem_of_mem h;exact⟨i,hi,by rw[Qa,Qb hi];exact e⟩
def fO.fits(h:fO p ls x)(lv:p.Lv):∀(d:Nat) (k:Int) (l:List aa) (u:Int),(0<=k/\k<x.length)->cO d x k l=true->aY (vars p ls).length p.aj.length d l->(0<=u/\u<p.n)->aR p u (nd x k).ag=true->∀m∈bx p (vars p ls) d l u,bp p (vars p ls) m=true
 |0,_,_,_,_,_,_,_,_,m,hm=>by cases hm
 |d+1,k,l,u,hk,ho,hs,hu,huk,m,hm=>by
  obtain⟨s,h0,hm⟩:=mem_flatMap.1 (show m∈l.flatMap (aK (bx p (vars p ls) d) p (vars p ls) u) from hm);obtain⟨s1,s2,s3,s4⟩:=hs s h0;obtain⟨i,hi,es⟩:=kU h0;obtain⟨k1,k2,-,k4⟩:=h.at hk;unfold cO at ho;simp only[Qk,Qn,all_eq_true,mem_range]at ho;obtain⟨o7,ol,oa⟩:=ho;have o1:=oa i hi;rw[es]at o1;have hp:prem (nd x k)=(nd x k).aU:=(by unfold prem;rw[Z (by omega),Z (by omega),Z (by omega),Z (by omega),G o7]);have dK:(nd x k).aU.getD i 0∈(nd x k).aU:=by
   rw[Qa,Qb (by omega)];exact getElem_mem _
  have hq:=k4 ((nd x k).aU.getD i 0) (by rw[hp];exact dK);unfold bT at k2;rw[Z (by omega),Z (by omega),Z (by omega),Z (by omega),Z (by omega),Z (by omega),Z (by omega)]at k2;have k3:=all_eq_true.1 k2 _ dK;simp only[Qk,Qn]at k3;generalize (nd x k).aU.getD i 0=q at*;obtain⟨q1,q2,q3,q4⟩:=h.at hq;have d0:aR p u (nd x q).ag=true:=aL lv hu k1 q1 huk k3.2;have a0:=dW lv (h.lv lv) s2;have e0:=lv.jn hu a0;unfold eI at o1;simp only[Qk,Qn]at o1;obtain⟨ok,oo⟩:=o1;unfold aK at hm
  by_cases f0:s.kind=3\/s.kind=4
  ·rw[G f0,mem_singleton]at hm
   rw[Z (by omega),Z (by omega)]at oo;simp only[Qk,Qn]at oo;have b0:prem (nd x q)=[(nd x q).b]:=(by unfold prem;rw[Z (by omega),G (by omega)]);have hb:=q4 (nd x q).b (by rw[b0];simp);have c0:=h.val lv hb s2 oo.2;have i0:=(h.at hb).1;subst hm;unfold bp;unfold bT at q2;rcases f0 with h3|h4
   ·rw[Z (by omega),Z (by omega),Z (by omega),G (by omega)]at q2
    unfold dG at q2;simp only[Qk,Qn]at q2;obtain⟨g1,-,g2,g3⟩:=q2;rw[oo.1,Qm]at g2 g3;rw[Z (by simp only;omega)];have ht:=(h.lv lv).2 s.x (by omega);exact fj lv hu a0 ht (aL lv hu q1 ht d0 g3) (aL lv a0 i0 ht c0 g2)
   rw[Z (by omega),Z (by omega),Z (by omega),Z (by omega),G (by omega)]at q2;unfold dG at q2;simp only[Qk,Qn]at q2;obtain⟨g1,-,g2,g3⟩:=q2;rw[oo.1,Qm]at g2 g3;rw[G (by simp only;omega)];have ht:=gq lv (i:=s.x) (by simp only[length_map]at g1;omega);exact fj lv hu a0 ht (aL lv hu q1 ht d0 g3) (aL lv a0 i0 ht c0 g2)
  rw[Z f0]at hm
  have j0:s.kind=5\/s.kind=6:=by rcases s1 with e|e|e|e<;>omega
  rw[G j0]at hm
  have hG:∀(w:Int),w∈prem (nd x q)->cE p x (nd x q) w=true->(nd x q).a∈prem (nd x q)->dj x (nd x q).a s.e=true->aR p (jn p u (aB p (vars p ls) s.e)) (nd x w).ag=true/\(0<=w/\w<(x.length:Int)):=λw hw hg ha he=>by
   have k0:=q4 w hw;have l0:=q4 _ ha;have g0:=(h.at k0).1;have m0:=(h.at l0).1;unfold cE at hg;simp only[Qk,Qn]at hg;exact⟨fj lv hu a0 g0 (aL lv hu q1 g0 d0 hg.2.2.2) (aL lv a0 m0 g0 (h.val lv l0 s2 he) hg.2.2.1),k0⟩
  unfold bT at q2;rcases j0 with h5|h6
  ·rw[G h5]at oo
   simp only[Qk]at oo;rw[Z (by omega),Z (by omega),Z (by omega),Z (by omega),Z (by omega),G (by omega),Qk]at q2;have b0:prem (nd x q)=[(nd x q).a,(nd x q).b,(nd x q).c]:=(by unfold prem;rw[Z (by omega),Z (by omega),G (by omega)]);rw[b0]at hG;have g1:=hG (nd x q).b (by simp) q2.1 (by simp) oo.1;have g2:=hG (nd x q).c (by simp) q2.2 (by simp) oo.1;rcases mem_append.1 hm with hm|hm
   ·exact h.fits lv d _ _ _ g1.2 oo.2.1 s3 e0 g1.1 m hm
   exact h.fits lv d _ _ _ g2.2 oo.2.2 s4 e0 g2.1 m hm
  rw[Z (by omega),G h6]at oo;simp only[Qk]at oo;rw[Z (by omega),Z (by omega),Z (by omega),Z (by omega),Z (by omega),Z (by omega),G (by omega)]at q2;have b0:prem (nd x q)=[(nd x q).a,(nd x q).b]:=(by unfold prem;rw[Z (by omega),Z (by omega),Z (by omega),G (by omega)]);rw[b0]at hG;have g1:=hG (nd x q).b (by simp) q2 (by simp) oo.1
  have dS:s.aP=[]:=by rcases s1 with e|e|e|e<;>first|omega|exact e.2
  rcases mem_append.1 hm with hm|hm
  ·exact h.fits lv d _ _ _ g1.2 oo.2 s3 e0 g1.1 m hm
  rw[dS]at hm
  cases d<;>cases hm
end
def whole{p:aV}(lv:p.Lv)(ho:p.Ok){x:List ar}(h:fO p ls x):(bF p).1=0:=by
 have ob:=h.lv lv
 have hb:aY (vars p ls).length p.aj.length 4 p.aZ:=by rw[ob.1];exact ho.aZ
 have hx:=h.ok.x0;have a0:=lv.aI;have hf:=h.fits lv 4 ((x.length:Int) - 1) p.aZ (aI p) (by omega) h.al hb a0 (gg lv (h.at (by omega)).1);have e0:=jV lv ho ob (λm hm _=>hf m hm) 25 (start p) (zt1 lv) (mo lv ob);have hd:=js lv ho 25 (start p) (zt1 lv) (lf lv ho (zt1 lv));obtain⟨ok,f0⟩:=jt lv ho
 have aH:∀m∈bx p (bJ p) 4 p.aZ (aI p),bp p (bJ p) m=true:=λm hm=>by
  have c0:aY (bJ p).length p.aj.length 4 p.aZ:=(by rw[ok.1];exact ho.aZ)
  by_cases hl:bU p m.1=true
  ·unfold jR at hd
   split at hd
   ·cases hd
   rename_i hn;have:=find?_eq_none.1 hn m hm;rw[hl]at this;have h9:bp p (raise p 25 (start p)) m=true:=(by simpa using this);exact h9
  obtain⟨m',g1,g2,g3,g4⟩:=fF lv e0 ok ob 4 p.aZ (aI p) (aI p) c0 a0 a0 (eV lv a0) m hm;have g5:=hf m' g1;have g0:=zx3 lv ok 4 p.aZ (aI p).toNat c0 (by omega) m (by rw[show (((aI p).toNat:Nat):Int)=aI p by omega];exact hm);obtain⟨d0,k,hk,ek⟩:=g0;unfold bp at g5⊢;rw[g2]at g5
  by_cases h4:m.1.kind=4
  ·rw[G h4]at g5⊢
   have b0:m.1.x<p.aj.length:=by rcases d0 with h|h<;>omega
   exact aL lv (by omega) g4 (gq lv b0) g3 g5
  rw[Z h4]at g5⊢
  have i0:m.1.x<(bJ p).length/\m.1.kind=3:=by rcases d0 with h|h<;>omega
  have b0:m.1.x<p.cells.length:=by
   refine Classical.byContradiction λhh=>hl ?_;unfold bU;rw[decide_eq_true i0.2,decide_eq_true (by omega)];rfl
  have e:(bJ p).getD m.1.x 0=(vars p ls).getD m.1.x 0:=by
   rw[<-f0];unfold vars;rw[Qa,Qa,getElem?_append_left (by simpa using b0),getElem?_append_left (by simpa using b0)]
  rw[e];exact aL lv (by omega) g4 (ob.2 _ (by rw[ob.1];omega)) g3 g5
 unfold bF;have h0:cY p (bJ p)=0:=by
  unfold cY
  split
  ·rename_i m hm
   have h1:=find?_some (p:=λm=> !bp p (bJ p) m) hm;rw[aH m (mem_of_find?_eq_some hm)]at h1
   cases h1
  rfl
 rw[Z (by omega)]
end Fl
namespace Fl
def Ty(p:aV)(vs:Is)(d:Nat)(l:List aa)(u:Int):Prop:=∀m∈bx p vs d l u,bp p vs m=true
def dF(p:aV)(L:Int)(l:List (Nat×Nat)):List (Nat×Nat):=l.filter λq=>decide (q.1<p.aj.length) && aR p (p.aj.getD q.1 0:Nat) L
structure bL(p:aV)(vs:Is)(L:Int)(a b:MS):Prop where
 len:a.vars.length=b.vars.length
 var:∀i,i<vs.length->aR p (vs.getD i 0) L=true->a.vars.getD i 0=b.vars.getD i 0
 out:dF p L a.aE=dF p L b.aE
def bL.refl{p:aV}{a b:MS}(h1:a.vars=b.vars)(h2:a.aE=b.aE):bL p vs L a b:=⟨by rw[h1],λi _ _=>by rw[h1],by rw[h2]⟩
def bL.symm{p:aV}{vs:Is}{L:Int}{a b:MS}(h:bL p vs L a b):bL p vs L b a:=⟨h.len.symm,λi h1 h2=>(h.var i h1 h2).symm,h.out.symm⟩
def bL.trans{p:aV}{vs:Is}{L:Int}{a b c:MS}(h:bL p vs L a b)(h':bL p vs L b c):bL p vs L a c:=⟨h.len.trans h'.len,λi h1 h2=>(h.var i h1 h2).trans (h'.var i h1 h2),h.out.trans h'.out⟩
def bL.pX{p:aV}{a b:MS}(h:bL p vs L a b)(f g:Nat):bL p vs L ⟨a.vars,a.aE,f⟩ ⟨b.vars,b.aE,g⟩:=⟨h.len,h.var,h.out⟩
section
variable{p:aV}
def lR(lv:p.Lv)(ok:di p vs){a b:MS}(h:bL p vs L a b)(x x1 x2:Nat)(f g:Nat)(hx:aR p (vs.getD x 0) L=true->x1=x2):bL p vs L ⟨a.vars.set x x1,a.aE,f⟩ ⟨b.vars.set x x2,b.aE,g⟩:=by
 refine⟨by simp[h.len],λi hi hl=>?_,h.out⟩;have h1:=h.var i hi hl;have bt:=h.len;rw[Qa,Qa]at h1;rw[Qa,Qa,getElem?_set,getElem?_set]
 by_cases a0:x=i
 ·rw[G a0,G a0,bt]
  rw[<-a0]at hl;rw[hx hl]
 rw[Z a0,Z a0];exact h1
def oW{a b:MS}(h:bL p vs L a b)(x x1 x2:Nat)(f g:Nat)(hx:aR p (p.aj.getD x 0:Nat) L=true->x1=x2):bL p vs L ⟨a.vars,a.aE++[(x,x1)],f⟩ ⟨b.vars,b.aE++[(x,x2)],g⟩:=by
 refine⟨h.len,h.var,?_⟩;have h1:=h.out;unfold dF at h1⊢;rw[filter_append,filter_append,h1]
 congr 1
 by_cases hc:(decide (x<p.aj.length) && aR p (p.aj.getD x 0:Nat) L)=true
 ·have h2:x1=x2:=hx (by rw[Qk]at hc;exact hc.2)
  rw[h2]
 rw[filter_cons_of_neg (by simpa using hc),filter_cons_of_neg (by simpa using hc)]
def Ty.one{s:aa}{rest:List aa}(h:Ty p vs (d+1) (s::rest) u):(∀m∈aK (bx p vs d) p vs u s,bp p vs m=true)/\Ty p vs (d+1) rest u:=
 ⟨λm hm=>h m (mem_flatMap.2 ⟨s,by simp,hm⟩),λm hm=>by
  obtain⟨s',h1,h2⟩:=mem_flatMap.1 (show m∈rest.flatMap (aK (bx p vs d) p vs u) from hm)
  exact h m (mem_flatMap.2 ⟨s',by simp[h1],h2⟩)⟩
def Ty.simple{s:aa}(h:∀m∈aK (bx p vs d) p vs u s,bp p vs m=true)(hk:s.kind=3\/s.kind=4):bp p vs (s,jn p u (aB p vs s.e))=true:=
 h _ (by unfold aK;rw[G hk];simp)
def Ty.parts{s:aa}(h:∀m∈aK (bx p vs d) p vs u s,bp p vs m=true)(hk:s.kind=5\/s.kind=6):Ty p vs d s.aZ (jn p u (aB p vs s.e))/\Ty p vs d s.aP (jn p u (aB p vs s.e)):=by
 unfold aK at h;rw[Z (by omega),G hk]at h;exact⟨λm hm=>h m (mem_append_left _ hm),λm hm=>h m (mem_append_right _ hm)⟩
def jF(lv:p.Lv){a b:Int}(ha:0<=a/\a<p.n)(hb:0<=b/\b<p.n)(hL:0<=L/\L<p.n)(h:aR p a L=false\/aR p b L=false):aR p (jn p a b) L=false:=by
 have u:=eO lv ha hb;have r:=lv.jn ha hb
 cases hc:aR p (jn p a b) L with
 |false=>rfl
 |true=>
  rcases h with h|h
  ·rw[aL lv ha r hL u.1 hc]at h;cases h
  rw[aL lv hb r hL u.2 hc]at h;cases h
def eM(lv:p.Lv)(ok:di p vs)(hL:0<=L/\L<p.n):∀(n d:Nat) (l:List aa) (u:Int) (m:MS),aY vs.length p.aj.length d l->(0<=u/\u<p.n)->Ty p vs d l u->aR p u L=false->bL p vs L (run n l m).2 m
 |0,_,_,_,m,_,_,_,_=>bL.refl rfl rfl
 |_+1,_,[],_,m,_,_,_,_=>bL.refl rfl rfl
 |n+1,0,s::rest,u,m,hs,_,_,_=>by cases hs
 |n+1,d+1,s::rest,u,m,hs,hu,ht,hh=>by
  obtain⟨s1,s2,s3,s4⟩:=hs s (by simp);have d0:aY vs.length p.aj.length (d+1) rest:=λs' h'=>hs s' (by simp[h']);obtain⟨t1,t2⟩:=ht.one;have b0:=dW lv ok s2;have a0:=lv.jn hu b0;have hj:=jF lv hu b0 hL (.inl hh);have R:∀m',bL p vs L m' m->bL p vs L (run n rest m').2 m:=λm' h=>(eM lv ok hL n (d+1) rest u m' d0 hu t2 hh).trans h;rw[run]
  by_cases h0:m.fuel=0
  ·rw[G h0];exact bL.refl rfl rfl
  rw[Z h0];simp only
  by_cases k3:s.kind=3
  ·rw[G k3]
   have hf:=Ty.simple t1 (.inl k3);unfold bp at hf;rw[Z (by simp only;omega)]at hf
   have hx:s.x<vs.length:=by rcases s1 with e|e|e|e<;>omega
   refine R _ ?_
   have:=lR lv ok (bL.refl (p:=p) (vs:=vs) (L:=L) (a:=m) (b:=m) rfl rfl) s.x (bG m.vars s.e) (m.vars.getD s.x 0) (m.fuel - 1) m.fuel (λhl=>by
    have h9:=aL lv a0 (ok.2 s.x hx) hL hf hl;rw[hj]at h9
    cases h9)
   refine this.trans (bL.refl ?_ rfl);show m.vars.set s.x (m.vars.getD s.x 0)=m.vars;rw[Qa]
   by_cases hl:s.x<m.vars.length
   ·rw[Qb hl];simp
   exact set_eq_of_length_le (by omega)
  rw[Z k3]
  by_cases k4:s.kind=4
  ·rw[G k4]
   have hf:=Ty.simple t1 (.inr k4);unfold bp at hf;rw[G (by simp only;omega)]at hf
   have hx:s.x<p.aj.length:=by rcases s1 with e|e|e|e<;>omega
   refine R _ ⟨rfl,λ_ _ _=>rfl,?_⟩;unfold dF;rw[filter_append,filter_cons_of_neg,filter_nil,append_nil];intro hc;simp only[Qk,Qn]at hc;have e:(p.aj.map λ(y:Nat)=>(y:Int)).getD s.x 0=((p.aj.getD s.x 0:Nat):Int):=by
    rw[Qa,Qa,getElem?_map,Qb hx];rfl
   have c0:=gq lv hx;simp only at hf;rw[e]at hf c0;have h9:=aL lv a0 c0 hL hf hc.2;rw[hj]at h9
   cases h9
  rw[Z k4]
  have e0:s.kind=5\/s.kind=6:=by rcases s1 with e|e|e|e<;>omega
  obtain⟨tb,tz⟩:=Ty.parts t1 e0
  by_cases k5:s.kind=5
  ·rw[G k5]
   have hp:bL p vs L (run n (if bG m.vars s.e=0 then s.aP else s.aZ) ⟨m.vars,m.aE,m.fuel - 1⟩).2 m:=by
    refine bL.trans (b:=⟨m.vars,m.aE,m.fuel - 1⟩) ?_ (bL.refl rfl rfl)
    split
    ·exact eM lv ok hL n d _ _ _ s4 a0 tz hj
    exact eM lv ok hL n d _ _ _ s3 a0 tb hj
   generalize (if bG m.vars s.e=0 then s.aP else s.aZ)=part at hp⊢
   split
   ·exact R _ hp
   exact hp
  rw[Z k5]
  by_cases hv:bG m.vars s.e=0
  ·rw[G hv]
   exact R _ (bL.refl rfl rfl)
  rw[Z hv];have hp:bL p vs L (run n s.aZ ⟨m.vars,m.aE,m.fuel - 1⟩).2 m:=(eM lv ok hL n d _ _ _ s3 a0 tb hj).trans (bL.refl rfl rfl)
  split
  ·exact(eM lv ok hL n (d+1) (s::rest) u _ hs hu ht hh).trans hp
  exact hp
def il(lv:p.Lv)(ok:di p vs){a b:MS}(h:bL p vs L a b){x:dI}(ho:zt8 vs x)(hl:aR p (bZ p vs x) L=true):ew a.vars x=ew b.vars x:=by
 unfold ew;unfold bZ at hl
 cases hv:x.var
 ·rfl
 rw[hv,G rfl]at hl;exact h.var x.v (ho hv) hl
def gZ(lv:p.Lv)(ok:di p vs)(hL:0<=L/\L<p.n){a b:MS}(h:bL p vs L a b){e:da}(ho:bI vs.length e)(hl:aR p (aB p vs e) L=true):bG a.vars e=bG b.vars e:=by
 have hi:=zu8 ho;have o1:=ho.1;have r1:=cD lv ok hi.1;unfold bG;unfold aB at hl
 by_cases h0:e.op= -1
 ·rw[G h0,G h0]
  rw[G (by omega)]at hl;exact il lv ok h hi.1 hl
 rw[Z h0,Z h0];rw[Z (by omega)]at hl;have r2:=cD lv ok (hi.2 (by omega));have u:=eO lv r1 r2;have r:=lv.jn r1 r2;rw[il lv ok h hi.1 (aL lv r1 r hL u.1 hl),il lv ok h (hi.2 (by omega)) (aL lv r2 r hL u.2 hl)]
def ik(lv:p.Lv)(ok:di p vs)(hL:0<=L/\L<p.n){d:Nat}{s:aa}{rest:List aa}{u:Int}(hu:0<=u/\u<p.n)(k6:s.kind=6)(s2:bI vs.length s.e)(s3:aY vs.length p.aj.length d s.aZ)(tb:Ty p vs d s.aZ (jn p u (aB p vs s.e)))(hh:aR p (aB p vs s.e) L=false):
  ∀(n:Nat) (m:MS),(run n (s::rest) m).1=true->∃n' m',n'<n/\bL p vs L m' m/\run n (s::rest) m=run n' rest m'
 |0,m,h=>by cases h
 |n+1,m,h=>by
  have a0:=dW lv ok s2;have b0:=lv.jn hu a0;have hj:=jF lv hu a0 hL (.inr hh);rw[run]at h⊢
  by_cases h0:m.fuel=0
  ·rw[G h0]at h;cases h
  rw[Z h0]at h⊢;simp only at h⊢;rw[Z (by omega),Z (by omega),Z (by omega)]at h⊢
  by_cases hv:bG m.vars s.e=0
  ·rw[G hv]at h⊢
   exact⟨n,⟨m.vars,m.aE,m.fuel - 1⟩,by omega,bL.refl rfl rfl,rfl⟩
  rw[Z hv]at h⊢;have hp:bL p vs L (run n s.aZ ⟨m.vars,m.aE,m.fuel - 1⟩).2 m:=(eM lv ok hL n d _ _ _ s3 b0 tb hj).trans (bL.refl rfl rfl)
  by_cases hq:(run n s.aZ ⟨m.vars,m.aE,m.fuel - 1⟩).1=true
  ·rw[G hq]at h⊢
   obtain⟨n',m',h1,h2,h3⟩:=ik lv ok hL hu k6 s2 s3 tb hh n _ h;exact⟨n',m',by omega,h2.trans hp,h3⟩
  rw[Z hq]at h;exact absurd h hq
def py(lv:p.Lv)(ok:di p vs)(hL:0<=L/\L<p.n)(n1:Nat):∀(n2 d:Nat) (l:List aa) (u:Int) (a b:MS),aY vs.length p.aj.length d l->(0<=u/\u<p.n)->Ty p vs d l u->bL p vs L a b->(run n1 l a).1=true->(run n2 l b).1=true->bL p vs L (run n1 l a).2 (run n2 l b).2:=by
 induction n1 using Nat.strongRecOn with
 |_ n1 ih=>
  intro n2 d l u a b hs hu ht a0 h1 h2
  cases n1 with
  |zero=>cases h1
  |succ n1=>
  cases n2 with
  |zero=>cases h2
  |succ n2=>
  cases l with
  |nil=>exact a0
  |cons s rest=>
  cases d with
  |zero=>cases hs
  |succ d=>
  obtain⟨s1,s2,s3,s4⟩:=hs s (by simp);have e0:aY vs.length p.aj.length (d+1) rest:=λs' h'=>hs s' (by simp[h']);obtain⟨t1,t2⟩:=ht.one;have c0:=dW lv ok s2;have b0:=lv.jn hu c0
  by_cases h6:s.kind=6/\aR p (aB p vs s.e) L=false
  ·obtain⟨tb,-⟩:=Ty.parts t1 (.inr h6.1)
   obtain⟨n1',a',e1,e2,e3⟩:=ik (rest:=rest) lv ok hL hu h6.1 s2 s3 tb h6.2 _ a h1;obtain⟨n2',b',-,f2,f3⟩:=ik (rest:=rest) lv ok hL hu h6.1 s2 s3 tb h6.2 _ b h2;rw[e3]at h1⊢;rw[f3]at h2⊢;exact ih n1' e1 n2' (d+1) rest u a' b' e0 hu t2 (e2.trans (a0.trans f2.symm)) h1 h2
  have R:∀a' b',bL p vs L a' b'->(run n1 rest a').1=true->(run n2 rest b').1=true->bL p vs L (run n1 rest a').2 (run n2 rest b').2:=λa' b' h=>ih n1 (by omega) n2 (d+1) rest u a' b' e0 hu t2 h;rw[run]at h1 h2⊢;rw[run]at⊢
  by_cases g1:a.fuel=0
  ·rw[G g1]at h1;cases h1
  by_cases g2:b.fuel=0
  ·rw[G g2]at h2;cases h2
  rw[Z g1]at h1⊢;rw[Z g2]at h2⊢;simp only at h1 h2⊢
  by_cases k3:s.kind=3
  ·rw[G k3]at h1 h2⊢
   rw[G k3]at⊢;have hf:=Ty.simple t1 (.inl k3);unfold bp at hf;rw[Z (by simp only;omega)]at hf
   have hx:s.x<vs.length:=by rcases s1 with e|e|e|e<;>omega
   exact R _ _ (lR lv ok a0 _ _ _ _ _ (λhl=>gZ lv ok hL a0 s2 (aL lv c0 b0 hL (eO lv hu c0).2 (aL lv b0 (ok.2 s.x hx) hL hf hl)))) h1 h2
  rw[Z k3]at h1 h2⊢;rw[Z k3]at⊢
  by_cases k4:s.kind=4
  ·rw[G k4]at h1 h2⊢
   rw[G k4]at⊢;have hf:=Ty.simple t1 (.inr k4);unfold bp at hf;rw[G (by simp only;omega)]at hf
   have hx:s.x<p.aj.length:=by rcases s1 with e|e|e|e<;>omega
   have e:(p.aj.map λ(y:Nat)=>(y:Int)).getD s.x 0=((p.aj.getD s.x 0:Nat):Int):=by
    rw[Qa,Qa,getElem?_map,Qb hx];rfl
   have f0:=gq lv hx;simp only at hf;rw[e]at hf f0;exact R _ _ (oW a0 _ _ _ _ _ (λhl=>gZ lv ok hL a0 s2 (aL lv c0 b0 hL (eO lv hu c0).2 (aL lv b0 f0 hL hf hl)))) h1 h2
  rw[Z k4]at h1 h2⊢;rw[Z k4]at⊢
  have g0:s.kind=5\/s.kind=6:=by rcases s1 with e|e|e|e<;>omega
  obtain⟨tb,tz⟩:=Ty.parts t1 g0;have d0:=a0.pX (a.fuel - 1) (b.fuel - 1)
  by_cases k5:s.kind=5
  ·rw[G k5]at h1 h2⊢
   rw[G k5]at⊢
   have hp:(run n1 (if bG a.vars s.e=0 then s.aP else s.aZ) ⟨a.vars,a.aE,a.fuel - 1⟩).1=true->(run n2 (if bG b.vars s.e=0 then s.aP else s.aZ) ⟨b.vars,b.aE,b.fuel - 1⟩).1=true->bL p vs L (run n1 (if bG a.vars s.e=0 then s.aP else s.aZ) ⟨a.vars,a.aE,a.fuel - 1⟩).2 (run n2 (if bG b.vars s.e=0 then s.aP else s.aZ) ⟨b.vars,b.aE,b.fuel - 1⟩).2:=λq1 q2=>by
    cases hg:aR p (aB p vs s.e) L with
    |true=>
     rw[gZ lv ok hL a0 s2 hg]at q1⊢
     by_cases hv:bG b.vars s.e=0
     ·rw[G hv]at q1 q2⊢
      exact ih n1 (by omega) n2 d _ _ _ _ s4 b0 tz d0 q1 q2
     rw[Z hv]at q1 q2⊢;exact ih n1 (by omega) n2 d _ _ _ _ s3 b0 tb d0 q1 q2
    |false=>
     have hj:=jF lv hu c0 hL (.inr hg)
     have c1:∀n (m:MS) (c:Bool),bL p vs L (run n (if c=true then s.aP else s.aZ) m).2 m:=λn m c=>by
      cases c
      ·exact eM lv ok hL n d _ _ _ s3 b0 tb hj
      exact eM lv ok hL n d _ _ _ s4 b0 tz hj
     have e1:=c1 n1 ⟨a.vars,a.aE,a.fuel - 1⟩ (decide (bG a.vars s.e=0));have e2:=c1 n2 ⟨b.vars,b.aE,b.fuel - 1⟩ (decide (bG b.vars s.e=0));simp only[Qn]at e1 e2;exact e1.trans (d0.trans e2.symm)
   by_cases q1:(run n1 (if bG a.vars s.e=0 then s.aP else s.aZ) ⟨a.vars,a.aE,a.fuel - 1⟩).1=true
   ·rw[G q1]at h1⊢
    by_cases q2:(run n2 (if bG b.vars s.e=0 then s.aP else s.aZ) ⟨b.vars,b.aE,b.fuel - 1⟩).1=true
    ·rw[G q2]at h2⊢
     exact R _ _ (hp q1 q2) h1 h2
    rw[Z q2]at h2;exact absurd h2 q2
   rw[Z q1]at h1;exact absurd h1 q1
  rw[Z k5]at h1 h2⊢;rw[Z k5]at⊢;have k6:s.kind=6:=(by omega);have hg:aR p (aB p vs s.e) L=true:=by
   cases hc:aR p (aB p vs s.e) L with
   |true=>rfl
   |false=>exact absurd ⟨k6,hc⟩ h6
  have ev:=gZ lv ok hL a0 s2 hg;rw[ev]at h1⊢
  by_cases hv:bG b.vars s.e=0
  ·rw[G hv]at h1 h2⊢
   rw[G hv]at⊢;exact R _ _ d0 h1 h2
  rw[Z hv]at h1 h2⊢;rw[Z hv]at⊢
  by_cases q1:(run n1 s.aZ ⟨a.vars,a.aE,a.fuel - 1⟩).1=true
  ·rw[G q1]at h1⊢
   by_cases q2:(run n2 s.aZ ⟨b.vars,b.aE,b.fuel - 1⟩).1=true
   ·rw[G q2]at h2⊢
    exact ih n1 (by omega) n2 (d+1) (s::rest) u _ _ hs hu ht (ih n1 (by omega) n2 d _ _ _ _ s3 b0 tb d0 q1 q2) h1 h2
   rw[Z q2]at h2;exact absurd h2 q2
  rw[Z q1]at h1;exact absurd h1 q1
end
end Fl
open Go.RowKit
structure ScIn(w:World)(Pb Lq:Nat)(rb:Nat->Nat)(cv hv:Value)(p:Fl.aV):Prop where
 hz:Pb<w.heap.size
 p0:w.cell? (Y Pb 0)=some (I p.n)
 p1:w.cell? (Y Pb 1)=some (Sq Lq 0 p.n p.n)
 p2:w.cell? (Y Pb 2)=some cv
 p3:w.cell? (Y Pb 3)=some hv
 ci:Zw w.heap.size w cv (p.cells.map λ(y:Nat)=>(y:Int))
 hi:Zw w.heap.size w hv (p.aj.map λ(y:Nat)=>(y:Int))
 lq:Yl 0 w Lq rb p.n p.leq
 lv:p.Lv
def ScIn.below{w w':World}{Pb Lq:Nat}{rb:Nat->Nat}{cv hv:Value}{p:Fl.aV}(h:ScIn w Pb Lq rb cv hv p)(hb:E w w'):ScIn w' Pb Lq rb cv hv p:=by
 have hz:=hb.size;have q:∀i,w'.cell? (Y Pb i)=w.cell? (Y Pb i):=λi=>hb.cell (p:=(Y Pb i)) h.hz;exact{hz:=Qj h.hz hz,p0:=(q _).trans h.p0,p1:=(q _).trans h.p1,p2:=(q _).trans h.p2,p3:=(q _).trans h.p3,ci:=(h.ci.below hb).mono hz,hi:=(h.hi.below hb).mono hz,lq:=h.lq.kept (λb _ h2=>hb.block b h2),lv:=h.lv}
def Zw.nat{B:Nat}{a:Option Addr}{c:Nat}{xs:List Nat}(h:Zw B w (J a n c) (xs.map λ(y:Nat)=>(y:Int)))(hk:k<xs.length):n=xs.length/\(n:Int)<=(c:Int)/\∃b off,a=some (Y b off)/\w.cell? (Y b (off+k))=some (I (xs.getD k 0:Nat)):=by
 obtain⟨a',c',e,h1,h2,h6⟩:=h;simp only[slice.injEq,length_map]at e;obtain⟨rfl,rfl,rfl⟩:=e;obtain⟨b,off,h7,h8,h9⟩:=h6 (by intro hh;have:=congrArg length hh;simp at this;rw[this]at hk;simp at hk);refine⟨rfl,by simp at h1;omega,b,off,h7,?_⟩;have:=h9 k (by simpa using hk);rw[Qa,getElem?_map,Qb hk]at this;rw[Qa,Qb hk];exact this
def zmx(c:Int)(n:Nat):Nat:=(if c<0 then -(c+1) else c).toNat % n
def yf3(n:Nat)(h:c<0): -((c+1).tmod (n:Int))=((zmx c n:Nat):Int):=by
 unfold zmx;rw[G h];obtain⟨d,hd⟩:∃d:Nat,c+1= -(d:Int):=⟨(-(c+1)).toNat,by omega⟩;rw[hd,Int.neg_tmod,Int.neg_neg,Int.neg_neg,Qm];rfl
def yf4(n:Nat)(h:¬c<0):c % (n:Int)=((zmx c n:Nat):Int):=by
 unfold zmx;rw[Z h];obtain⟨d,rfl⟩:∃d:Nat,c=(d:Int):=⟨c.toNat,by omega⟩;rw[Qm];rfl
def yf5(c:Int)(n:Nat)(w:World)(hc: -9223372036854775808<=c/\c<=9223372036854775807)(hn:0<n/\n<=6):F 7 #[I c,I n] w (Rq (I (zmx c n:Nat)) w):=by
 have a0:((n:Int)==0)=false:=beq_eq_false_iff_ne.2 (by omega)
 have b0:0<(n:Int):=by omega
 by_cases h:c<0
 ·have HP:=A (yf3 n h)
  go_enter func7,ntmps7
  go_wp2;go_ret;refine⟨?_,rfl⟩;rw[<-HP.out];rfl
 have HP:=A (yf4 n h)
 go_enter func7,ntmps7
 go_wp2;go_ret;refine⟨?_,rfl⟩;rw[<-HP.out];rfl
def yf6{p:Fl.aV}{s:List (Nat×Nat)}(hk:k<s.length):Fl.dF p L (s.take (k+1))=Fl.dF p L (s.take k)++(if decide ((s.getD k (0,0)).1<p.aj.length) && Fl.aR p (p.aj.getD (s.getD k (0,0)).1 0:Nat) L then [s.getD k (0,0)] else []):=by
 have e:s[k]=s.getD k (0,0):=by rw[Qa,Qb hk];rfl
 rw[take_succ_eq_append_getElem hk,e];unfold Fl.dF;rw[filter_append];simp only[filter_cons,filter_nil]
def yo2{Lq:Nat}{rb:Nat->Nat}{p:Fl.aV}(hp:ScIn w Pb Lq rb cv hv p){L:Nat}(hL:L<p.n){sa:Option Addr}{sc:Nat}{s:List (Nat×Nat)}(hs:zz0 w sa n sc s):
  F 9 #[M Pb,J sa n sc,I L] w λe w'=>E w w'/\∃v,e=.returned v/\w'.ownsRow w.heap.size 47 2 v (Fl.dF p L s).length (Vh (Fl.dF p L s)):=by
 have I0:(n:Int)<=100000:=by have:=hs.2.2.2.1;omega
 have J0:(n:Int)<=(sc:Int):=by have:=hs.2.1;omega
 have HN:=A hs.1;have HP:O (∀W,E w W->ScIn W Pb Lq rb cv hv p):=λW hW=>hp.below hW;have HS:O (∀W,E w W->zz0 W sa n sc s):=λW hW=>hs.below hW
 have K0:(p.n:Int)<=6:=by have:=hp.lv.n6;omega
 have L0:(L:Int)<(p.n:Int):=by omega
 obtain⟨ha,hc,rfl⟩:∃ha hc,hv=J ha p.aj.length hc:=by
  obtain⟨a,c,e,-⟩:=hp.hi;exact⟨a,c,by rw[e];simp⟩
 obtain⟨i0,z0,A0,B0,C0⟩:=info_parts Tryz.infoSentP;clear hp hs
 go_enter func9,ntmps9
 go_wp2_with fail
 go_loopw [7,8,9] (λo i _ wr=>∃k:Nat,k<=n/\i=I k/\E w wr/\wr.ownsRow w.heap.size 47 2 o (Fl.dF p L (s.take k)).length (Vh (Fl.dF p L (s.take k)))) (λ_ i _ _=>n - (intOf i).toNat)
 case atStart=>exact⟨0,Nat.zero_le _,rfl,Below.refl _ _,ownsRow_nil _ _ _ _⟩
 case round=>
  rename_i u7 u8 u9;obtain⟨k,hk,rfl,q0,h0⟩:=hrel;have a0:=A h0;have f0:=A q0;have r0:O ((Fl.dF p L (s.take k)).length<=n):=by
   show _<=_;have h1:(Fl.dF p L (s.take k)).length<=(s.take k).length:=length_filter_le _ _;simp only[length_take]at h1;omega
  obtain⟨va,vc,rfl⟩:∃a c,u7=J a (Fl.dF p L (s.take k)).length c:=by
   rcases h0.2 with⟨h1,h2⟩|⟨g,cp,cur,h1,_⟩
   ·exact⟨none,0,by rw[h1,h2]⟩
   exact⟨_,cp,h1⟩
  clear h0 q0
  by_cases s0:k<n
  ·have D0:(k:Int)<(n:Int):=by omega
   obtain⟨b,rfl,ee,u0⟩:=(HS wr f0).2.2.2.2 (by omega);obtain⟨c0,c1⟩:=u0 k s0;clear u0;have b0:=A (yf6 (p:=p) (L:=L) (s:=s) (k:=k) (by rw[<-HN.out];exact s0));obtain⟨x,hx⟩:=U ((s.getD k (0,0)).1);obtain⟨y,hy⟩:=U ((s.getD k (0,0)).2);have v0:O (s.getD k (0,0)=(x,y)):=(by show _=_;rw[hx,hy]);rw[v0.out]at b0 c0 c1;obtain⟨m,hm⟩:=U ((Fl.dF p L (s.take k)).length);have j0:O ((Fl.dF p L (s.take k)).length=m):=hm.symm;rw[j0.out]at a0 r0;rw[j0.out];clear hm;simp only at c0 c1 b0;clear hx hy v0;have M0:b<wr.heap.size:=ee
   go_wp2_with fail
   by_cases n0:x<p.aj.length
   ·have E0:(x:Int)<(p.aj.length:Int):=by omega
    have hP:=HP wr f0.out;obtain⟨-,N0,hb,ho,rfl,e2⟩:=hP.hi.nat n0;have x0:=hP.lv.ch (p.aj.getD x 0) (by rw[Qa,Qb n0];exact getElem_mem _);have e3:=hP.lq.c _ x0;have e4:=hP.lq.r _ L x0 hL
    have HR:O (∀W,E wr W->D W Pb 1 (Sq Lq 0 p.n p.n)/\D W Pb 3 (Sq hb ho p.aj.length hc)/\D W hb (ho+x) (I (p.aj.getD x 0:Nat))/\D W Lq (p.aj.getD x 0) (Sq (rb (p.aj.getD x 0)) 0 p.n p.n)/\D W (rb (p.aj.getD x 0)) L (.bool (p.leq (p.aj.getD x 0) L))):=λW hW=>
     ⟨(hW.cell (Qe wr _ hP.p1)).trans hP.p1,(hW.cell (Qe wr _ hP.p3)).trans hP.p3,(hW.cell (Qe wr _ e2)).trans e2,(hW.cell (Qe wr _ e3)).trans e3,(hW.cell (Qe wr _ e4)).trans e4⟩
    have HU:O (Fl.aR p (p.aj.getD x 0:Nat) (L:Int)=p.leq (p.aj.getD x 0) L):=(by show _=_;simp[Fl.aR]);rw[HU.out,decide_eq_true n0,Bool.true_and]at b0;generalize p.aj.getD x 0=z at*;have O0:(z:Int)<(p.n:Int):=(by omega);clear hP e2 e3 e4 HU;refine Zm HR dA [] [] [(2,23),(11,32)] (by kernel_rfl) (λ_ _ _ _ h=>h) (λops ⟨g2,g11,_⟩=>?_)
    iterate 29 refine Zv (by first|rfl|simp[wanted,yielded,g2,g11,put]) (by intros;go_simp<;>rfl) (by go_simp<;>rfl) ?_
    refine Zu ?_;clear g2 g11 HR
    cases hq:p.leq z L
    ·rw[hq]at b0
     simp only[Z (show ¬(false=true) by simp),append_nil]at b0;have g0:O (E w wr.drew/\wr.drew.ownsRow w.heap.size 47 2 (J va m vc) (Fl.dF p L (s.take (k+1))).length (Vh (Fl.dF p L (s.take (k+1))))):=by
      rw[b0.out,j0.out];exact⟨f0.drew,Zj a0 (λb hb=>rfl)⟩
     go_wp2
     go_roundw
     case rel=>exact⟨k+1,by omega,by go_num,g0.1,g0.2⟩
     case measure=>simp[intOf];omega
    rw[hq]at b0;simp only[G]at b0;obtain⟨Wd,k0⟩:=U (wr.drew);have l0:O (E wr Wd):=(by rw[k0];exact dA);have d0:Wd.cell? (Y b (k*2))=some (I x):=(by rw[k0];exact c0);have d1:Wd.cell? (Y b (k*2+1))=some (.int .u32 y):=(by rw[k0];exact c1);rw[<-k0];clear k0 c0 c1;obtain⟨Wm,m0⟩:=U (Wd.alloc (.cells #[I x,.int .u32 y] 47));have o0:O (E Wd Wm):=(by rw[m0];exact bA);have HO:O (Wm.ownsRow w.heap.size 47 2 (J va m vc) m (Vh (Fl.dF p L (s.take k)))):=Zj a0 (λb hb=>(o0.block b (Qj (a0.lt b hb).2 l0.size)).trans (l0.block b (a0.lt b hb).2));have t0:∀i u,([I x,.int .u32 y]:Vs)[i]?=some u->Wm.cell? (((Y Wd.heap.size 0):Addr).add i)=some u:=by
     intro i u hu
     have h2:((Y Wd.heap.size 0):Addr).add i=(Y Wd.heap.size i):=by unfold Addr.add;split<;>simp_all
     rw[h2,m0,cell?_alloc_new];simpa using hu
    have P0:Wd.heap.size<Wm.heap.size:=(by rw[m0];simp);have F0:w.heap.size<=Wd.heap.size:=Nat.le_trans f0.size l0.size;have G0:O (E w Wm):=(f0.trans (l0.mono f0.size)).trans (o0.mono F0);have H0:O (Wd.alloc (.cells #[I x,.int .u32 y] 47)=Wm):=m0.symm;have Q0:m<=100000:=(by have:=r0.out;omega);clear m0 o0 l0
    go_wp2_with (at_builtin;rw[H0.out];refine Ap underlying40 z0 A0 B0 C0 rfl HO rfl [I x,.int .u32 y] rfl rfl t0 ?c2 ?c3 ?c4 ?c5 ?_)
    case c2=>intro u hu;simp only[mem_cons,not_mem_nil,or_false]at hu;rcases hu with rfl|rfl<;>rfl
    case c3=>unfold maxLen;omega
    case c4=>omega
    case c5=>omega
    intro v' W4 e0 y0 p0;have g0:O (E w W4/\W4.ownsRow w.heap.size 47 2 v' (Fl.dF p L (s.take (k+1))).length (Vh (Fl.dF p L (s.take (k+1))))):=by
     refine⟨G0.grown y0 (by omega) (λb hb=>(HO.lt b hb).1),?_⟩;rw[b0.out];unfold Vh at e0⊢;rw[length_append,flatMap_append,j0.out];exact e0
    clear e0 y0 p0 t0;go_wp2
    go_roundw
    case rel=>exact⟨k+1,by omega,by go_num,g0.1,g0.2⟩
    case measure=>simp[intOf];omega
   have E0:¬(x:Int)<(p.aj.length:Int):=(by omega);have hP:=HP wr f0.out;have HR:O (∀W,E wr W->D W Pb 3 (J ha p.aj.length hc)):=λW hW=>(hW.cell (Qe wr _ hP.p3)).trans hP.p3;rw[decide_eq_false n0,Bool.false_and]at b0;simp only[Z (show ¬(false=true) by simp),append_nil]at b0;clear hP;refine Zm HR dA [] [] [(2,23),(11,32)] (by kernel_rfl) (λ_ _ _ _ h=>h) (λops hG=>?_);obtain⟨g2,g11,-⟩:=hG
   iterate 12 refine Zv (by first|rfl|simp[wanted,yielded,g2,put]) (by intros;go_simp<;>rfl) (by go_simp<;>rfl) ?_
   iterate 16 refine Jn rfl (by simp[yielded,g11,put]) ?_
   refine Zv rfl (by intros;go_simp<;>rfl) (by go_simp<;>rfl) ?_;refine Zu ?_;clear g2 g11 HR;have g0:O (E w wr.drew/\wr.drew.ownsRow w.heap.size 47 2 (J va m vc) (Fl.dF p L (s.take (k+1))).length (Vh (Fl.dF p L (s.take (k+1))))):=by
    rw[b0.out,j0.out];exact⟨f0.drew,Zj a0 (λb hb=>rfl)⟩
   go_wp2
   go_roundw
   case rel=>exact⟨k+1,by omega,by go_num,g0.1,g0.2⟩
   case measure=>simp[intOf];omega
  have R0:¬(k:Int)<(n:Int):=(by omega)
  obtain rfl:k=n:=by omega
  have HE:O (wr.ownsRow w.heap.size 47 2 (J va (Fl.dF p L (s.take k)).length vc) (Fl.dF p L s).length (Vh (Fl.dF p L s))):=by
   have h2:s.take k=s:=take_of_length_le (by rw[<-HN.out];omega);have h1:=a0.out;rw[h2]at h1⊢;exact h1
  clear a0;go_wp2;go_ret;exact⟨f0,_,rfl,HE⟩
end Go.Proofs.YtjmcibbdedlcoaaGreatDoor
namespace Go.Proofs.YtjmcibbdedlcoaaGreatDoor
open Go.Proofs.Tryz List World Region Value Act
variable{w:World}{Pb k d n:Nat}{hv bv cv:Value}{ls vs:Is}{s l t:K}{L u c:Int}{cs ds:List Nat}
namespace Fl
def dy:Nat->List aa->Nat
 |0,_=>0
 |d+1,l=>(l.map λs=>1+dy d s.aZ+dy d s.aP).sum
def gY(d:Nat):dy d []=0:=by cases d<;>rfl
def eL(d:Nat)(s:aa)(l:List aa):dy (d+1) (s::l)=1+dy d s.aZ+dy d s.aP+dy (d+1) l:=by
 show ((s::l).map λs=>1+dy d s.aZ+dy d s.aP).sum=_;rw[map_cons,sum_cons];rfl
def kT(d:Nat)(s:aa):∀l,dy (d+1) (l++[s])=dy (d+1) l+(1+dy d s.aZ+dy d s.aP)
 |[]=>by show dy (d+1) [s]=_;rw[eL,gY];omega
 |x::l=>by rw[cons_append,eL,kT d s l,eL];omega
def gm:∀(d:Nat) (l:List aa),dy d l<=dy (d+1) l
 |0,l=>by rw[dy];exact Nat.zero_le _
 |d+1,[]=>by rw[gY];exact Nat.zero_le _
 |d+1,s::l=>by
  have h1:=gm d s.aZ;have h2:=gm d s.aP;have h3:=gm (d+1) l;rw[eL,eL];omega
def gK(d:Nat):List Frame->Nat
 |[]=>0
 |f::fs=>1+dy d f.first+dy d f.fN+gK d fs
def RS.Cn(r:RS):Prop:=r.am<=16/\∀d,dy d r.ct+gK d r.fr<=r.am
def eu(d:Nat)(l:List aa)(s:aa):dy d (l++[s])<=dy d l+(1+dy d s.aZ+dy d s.aP):=by
 cases d with
 |zero=>rw[dy,dy];omega
 |succ d=>
  rw[kT];have h1:=gm d s.aZ;have h2:=gm d s.aP;omega
def RS.Cn.put{r:RS}(h:r.Cn)(a0:¬16<=r.am){s:aa}(h1:s.aZ=[])(h2:s.aP=[]):(r.put s).Cn:=by
 unfold RS.put
 split
 ·rename_i hf
  refine⟨by show r.am+1<=16;omega,λd=>?_⟩;have h3:=h.2 d;have h4:=eu d r.ct s;rw[h1,h2,gY]at h4;rw[hf]at h3⊢;show dy d (r.ct++[s])+gK d []<=r.am+1;omega
 rename_i f fs hf;refine⟨by show r.am+1<=16;omega,λd=>?_⟩;have h3:=h.2 d;have h4:=eu d f.fN s;have h5:=eu d f.first s;rw[h1,h2,gY]at h4 h5;rw[hf]at h3;unfold gK at h3;show dy d r.ct+gK d ((if f.cA then{f with fN:=f.fN++[s]} else{f with first:=f.first++[s]})::fs)<=r.am+1
 cases f.cA
 ·simp only[Bool.false_eq_true,if_false]
  unfold gK;simp only;omega
 simp only[if_true];unfold gK;simp only;omega
def RS.Cn.bB{r:RS}(h:r.Cn):r.bB.Cn:=by
 unfold RS.bB
 split
 ·exact h
 ·rename_i f hf
  refine⟨h.1,λd=>?_⟩;have h3:=h.2 d;rw[hf]at h3;have h4:=eu d r.ct f.done;unfold gK at h3⊢;show dy d (r.ct++[f.done])+0<=r.am;unfold gK at h3;simp only[Frame.done]at h4⊢;omega
 rename_i f g fs hf;refine⟨h.1,λd=>?_⟩;have h3:=h.2 d;rw[hf]at h3;have h4:=eu d g.fN f.done;have h5:=eu d g.first f.done;unfold gK at h3;unfold gK at h3;show dy d r.ct+gK d ((if g.cA then{g with fN:=g.fN++[f.done]} else{g with first:=g.first++[f.done]})::fs)<=r.am;simp only[Frame.done]at h4 h5⊢
 cases g.cA
 ·simp only[Bool.false_eq_true,if_false]
  unfold gK;simp only;omega
 simp only[if_true];unfold gK;simp only;omega
def RS.Cn.cX{r:RS}(h:r.Cn):r.cX.Cn:=by
 unfold RS.cX
 split
 ·exact h
 rename_i f fs hf;refine⟨h.1,λd=>?_⟩;have h3:=h.2 d;rw[hf]at h3;exact h3
def RS.Cn.same{r r':RS}(h:r.Cn)(e:r'.ct=r.ct/\r'.fr=r.fr/\r'.am=r.am):r'.Cn:=⟨by rw[e.2.2];exact h.1,λd=>by rw[e.1,e.2.1,e.2.2];exact h.2 d⟩
def RS.mn(r:RS)(n:K){x:Nat}{r':RS}(h:r.bj n=some (x,r')):r'.ct=r.ct/\r'.fr=r.fr/\r'.am=r.am:=by
 unfold RS.bj at h
 split at h
 ·simp only[Ql,Prod.mk.injEq]at h;rw[<-h.2];exact⟨rfl,rfl,rfl⟩
 split at h
 ·simp only[Ql,Prod.mk.injEq]at h;rw[<-h.2];exact⟨rfl,rfl,rfl⟩
 split at h
 ·cases h
 simp only[Ql,Prod.mk.injEq]at h;rw[<-h.2];exact⟨rfl,rfl,rfl⟩
def RS.Cn.bS{r:RS}(h:r.Cn){a:Nat}(w:List K):(r.bS a w).2.Cn:=by
 unfold RS.bS
 split
 ·split
  ·exact h
  split
  ·split
   ·exact h.cX
   exact h
  exact h.bB
 ·split
  ·exact h
  split
  ·exact h
  rename_i hh;refine⟨by show r.am+1<=16;omega,λd=>?_⟩;have h3:=h.2 d;show dy d r.ct+(1+dy d []+dy d []+gK d r.fr)<=r.am+1;rw[gY];omega
 ·split
  ·exact h
  split
  ·split
   ·exact h
   split
   ·exact h
   exact h.put (by assumption) rfl rfl
  split
  ·exact h
  split
  ·exact h
  rename_i hh
  split
  ·exact h
  have h1:=r.mn _ hh;exact(h.same h1).put (by rw[h1.2.2];assumption) rfl rfl
 exact h
def RS.oV(r:RS)(w:List K):(r.head w).2.ct=r.ct/\(r.head w).2.fr=r.fr/\(r.head w).2.am=r.am:=by
 unfold RS.head
 repeat' split
 all_goals exact⟨rfl,rfl,rfl⟩
def RS.Cn.row{r:RS}(h:r.Cn)(w:List K)(a:Nat):(r.row w a).2.Cn:=by
 unfold RS.row
 split
 ·exact h
 split
 ·exact h.same (r.oV w)
 exact h.bS w
def lQ:∀(ls:List K) (r:RS) (i:Nat),r.Cn->(rows r i ls).2.2.Cn
 |[],r,i,h=>h
 |[l],r,i,h=>by
  rw[rows]
  split
  ·split<;>exact h
  exact h
 |l::m::ls,r,i,h=>by
  rw[rows]
  split
  ·exact h
  split
  ·exact h
  exact lQ (m::ls) _ (i+1) (h.row _ _)
def pG:RS.zero.Cn:=⟨by decide,λd=>by show dy d []+0<=0;rw[gY];omega⟩
def jE(s:K)(d:Nat):dy d (aq s).2.2.aZ<=16:=by
 unfold aq
 split
 ·have h:=pG.2 d
  have h1:=pG.1;show dy d RS.zero.ct<=16;omega
 have h:=lQ (aC 10 s) RS.zero 0 pG;have h1:=h.2 d;have h2:=h.1;show dy d (rows RS.zero 0 (aC 10 s)).2.2.ct<=16;omega
def lP:∀(d:Nat) (l:List aa),l.length<=dy (d+1) l
 |d,[]=>Nat.zero_le _
 |d,s::l=>by
  have:=lP d l;rw[eL,length_cons];omega
def lO{d:Nat}:∀{l:List aa} {s:aa},s∈l->dy d s.aZ+dy d s.aP<=dy (d+1) l
 |x::l,s,h=>by
  rw[eL];rcases mem_cons.1 h with rfl|h
  ·omega
  have:=lO (d:=d) h;omega
def ef(ws:List ar)(n:ar):(cI ws n).2.length<=ws.length+1:=by
 unfold cI
 split
 ·simp
 simp
def nU(p:aV)(vs:Is)(ws:List ar)(e:da):(dQ p vs ws e).2.length<=ws.length+3:=by
 unfold dQ bR
 split
 ·have:=ef ws ⟨if e.a.var then 1 else 0,bZ p vs e.a,e.a.v,0,0,[]⟩
  omega
 have h1:=ef ws ⟨if e.a.var then 1 else 0,bZ p vs e.a,e.a.v,0,0,[]⟩;generalize cI ws ⟨if e.a.var then 1 else 0,bZ p vs e.a,e.a.v,0,0,[]⟩=Qz at*;have h2:=ef Qz.2 ⟨if e.b.var then 1 else 0,bZ p vs e.b,e.b.v,0,0,[]⟩;generalize cI Qz.2 ⟨if e.b.var then 1 else 0,bZ p vs e.b,e.b.v,0,0,[]⟩=B at*;have h3:=ef B.2 ⟨2,aB p vs e,e.op,Qz.1,B.1,[]⟩;omega
def kS{W:List ar->aa->Int×List ar}{d:Nat}(hW:∀ws s,(W ws s).2.length<=ws.length+6*(1+dy d s.aZ+dy d s.aP)):∀(l:List aa) (ws:List ar),(bK W ws l).2.length<=ws.length+6*dy (d+1) l
 |[],ws=>by rw[bK];simp
 |s::l,ws=>by
  have h1:=hW ws s;have h2:=kS hW l (W ws s).2;rw[bK,eL];show (bK W (W ws s).2 l).2.length<=_;omega
def nT{p:aV}{Wx:List ar->List aa->Int->Int×List ar}(IH:∀(ws:List ar) (l:List aa) (u:Int),(Wx ws l u).2.length<=ws.length+6*dy d l+1)(u:Int)(ws:List ar)(s:aa):(dh Wx p vs u ws s).2.length<=ws.length+6*(1+dy d s.aZ+dy d s.aP):=by
 unfold dh;simp only;have h0:=nU p vs ws s.e;generalize dQ p vs ws s.e=v at*;generalize jn p u (aB p vs s.e)=L;have h1:=IH v.2 s.aZ L;generalize Wx v.2 s.aZ L=B1 at*
 split
 ·have h2:=IH B1.2 s.aP L
  generalize Wx B1.2 s.aP L=B2 at*;have h3:=ef B2.2 ⟨5,u,v.1,B1.1,B2.1,[]⟩;omega
 split
 ·have h3:=ef B1.2 ⟨6,u,v.1,B1.1,0,[]⟩
  omega
 have h3:=ef v.2 ⟨s.kind,u,s.x,v.1,0,[]⟩;omega
def jr(p:aV)(vs:Is):∀(d:Nat) (ws:List ar) (l:List aa) (u:Int),(aD p vs d ws l u).2.length<=ws.length+6*dy d l+1
 |0,ws,l,u=>by
  unfold aD;have:=ef ws ⟨7,u,0,0,0,[]⟩;omega
 |d+1,ws,l,u=>by
  unfold aD;have h1:=kS (W:=dh (aD p vs d) p vs u) (d:=d) (nT (jr p vs d) u) l ws;generalize bK (dh (aD p vs d) p vs u) ws l=r at*;have h2:=ef r.2 ⟨7,u,0,0,0,r.1⟩;omega
def Sh(n:ar):Prop:=(0<=n.ag/\n.ag<6)/\
  (((n.kind=0\/n.kind=1)/\(0<=n.a/\n.a<2147483648)/\n.b=0/\n.c=0/\n.aU=[])\/
   (n.kind=2/\(0<=n.a/\n.a<2147483648)/\n.aU=[])\/
   ((n.kind=3\/n.kind=4)/\(0<=n.a/\n.a<2147483648)/\n.c=0/\n.aU=[])\/
   (n.kind=5/\n.aU=[])\/(n.kind=6/\n.c=0/\n.aU=[])\/
   (n.kind=7/\n.a=0/\n.b=0/\n.c=0/\n.aU.length<=16))
def pW{x:Int}(h:0<=x/\x<2147483648):cd x=true:=by
 unfold cd;rw[decide_eq_true h.1,decide_eq_true h.2];rfl
def Sh.bD{n:ar}(h:Sh n)(hp:∀i∈prem n,0<=i/\i<2147483648):bD n=true:=by
 obtain⟨kind,ag,a,b,c,aU⟩:=n;obtain⟨hl,h⟩:=h;unfold Fl.bD jB;rcases h with⟨h0,ha,hb,hc,a0⟩|⟨h0,ha,a0⟩|⟨h0,ha,hc,a0⟩|⟨h0,a0⟩|⟨h0,hc,a0⟩|⟨h0,ha,hb,hc,a0⟩
 ·simp only at h0 ha hb hc a0 hl
  subst hb hc a0;rcases h0 with rfl|rfl<;>simp[aJ,cd]<;>omega
 ·simp only at h0 ha a0 hl
  subst h0 a0;have h1:=hp b (by simp[prem]);have h2:=hp c (by simp[prem]);simp[aJ,cd];omega
 ·simp only at h0 ha hc a0 hl
  subst hc a0;have h1:=hp b (by rcases h0 with rfl|rfl<;>simp[prem]);rcases h0 with rfl|rfl<;>simp[aJ,cd]<;>omega
 ·simp only at h0 a0 hl
  subst h0 a0;have h1:=hp a (by simp[prem]);have h2:=hp b (by simp[prem]);have h3:=hp c (by simp[prem]);simp[aJ,cd];omega
 ·simp only at h0 hc a0 hl
  subst h0 hc a0;have h1:=hp a (by simp[prem]);have h2:=hp b (by simp[prem]);simp[aJ,cd];omega
 simp only at h0 ha hb hc a0 hl;subst h0 ha hb hc;have h1:aU.all cd=true:=all_eq_true.2 (λx hx=>pW (hp x (by simpa [prem] using hx)));rw[h1];simp[aJ,cd];omega
def Ds(ws:List ar):Prop:=∀k,k<ws.length->Sh (nth ws k)/\(∀i∈prem (nth ws k),0<=i/\i<(k:Int))/\∀i,i<k->nth ws i≠nth ws k
def gl(l:List ar)(k:Int):Prop:=∃j,k<(j:Nat)/\j<l.length/\k∈prem (nth l j)
def gl.ext{l t:List ar}{k:Int}(h:gl l k):gl (l++t) k:=by
 obtain⟨j,h1,h2,h3⟩:=h;exact⟨j,h1,by simp;omega,by rw[gh h2];exact h3⟩
structure Kp(ws:List ar)(r:Int×List ar):Prop where
 ext:∃t,r.2=ws++t
 iT:0<=r.1/\r.1<r.2.length
 ds:Ds r.2
 us:∀k:Nat,ws.length<=k->k<r.2.length->(k:Int)=r.1\/gl r.2 k
def Kp.len{ws:List ar}{r:Int×List ar}(h:Kp ws r):ws.length<=r.2.length:=by
 obtain⟨t,e⟩:=h.ext;rw[e];simp
def fE{ws:List ar}(h:Ds ws){n:ar}(hs:Sh n)(hp:∀i∈prem n,0<=i/\i<(ws.length:Int)):Kp ws (cI ws n)/\∀i∈prem n,gl (cI ws n).2 i:=by
 unfold cI
 split
 ·rename_i i hi
  have h1:eh (nth ws i) n=true:=find?_some (p:=λi=>eh (nth ws i) n) hi;have h2:i<ws.length:=(by have:=mem_of_find?_eq_some hi;simpa using this);have h3:=(dg _ _).1 h1;refine⟨⟨⟨[],by simp⟩,⟨by simp,by simp;omega⟩,h,λk c0 a0=>by simp only at a0;omega⟩,λj hj=>?_⟩;rw[<-h3]at hj;exact⟨i,((h i h2).2.1 j hj).2,h2,hj⟩
 rename_i hn;rw[find?_eq_none]at hn
 have e:nth (ws++[n]) ws.length=n:=by unfold nth;simp[Qa]
 refine⟨⟨⟨[n],rfl⟩,⟨by simp,by simp;omega⟩,λk hk=>?_,λk c0 a0=> .inl (by simp only[length_append,length_cons,length_nil]at a0⊢;omega)⟩,λj hj=>⟨ws.length,(hp j hj).2,by simp,by rw[e];exact hj⟩⟩
 by_cases b0:k<ws.length
 ·rw[gh b0]
  obtain⟨a1,a2,a3⟩:=h k b0;exact⟨a1,a2,λi hi=>by rw[gh (by omega)];exact a3 i hi⟩
 have d0:k=ws.length:=by simp at hk;omega
 subst d0;rw[e];refine⟨hs,hp,λi hi=>?_⟩;rw[gh hi];intro hh;exact hn i (by simpa using hi) ((dg _ _).2 hh)
def Kp.comp{ws:List ar}{r r':Int×List ar}(h:Kp ws r)(h':Kp r.2 r')(hu:gl r'.2 r.1):Kp ws r':=by
 obtain⟨t,e⟩:=h.ext;obtain⟨t',e'⟩:=h'.ext;refine⟨⟨t++t',by rw[e',e,append_assoc]⟩,h'.iT,h'.ds,λk h1 h2=>?_⟩
 by_cases h3:r.2.length<=k
 ·exact h'.us k h3 h2
 rcases h.us k h1 (by omega) with h4|h4
 ·exact .inr (by rw[h4];exact hu)
 exact .inr (by rw[e'];exact h4.ext)
section
variable{p:aV}
def jq(lv:p.Lv)(ok:di p vs)(b0:vs.length<=10){ws:List ar}(h:Ds ws){a:dI}(ho:dU vs.length a):Kp ws (bR p vs ws a):=by
 have hi:zt8 vs a:=λhv=>by unfold dU at ho;rwa [G hv]at ho
 have h1:=cD lv ok hi;have h6:=lv.n6;have hv:a.v<=999999999:=by
  unfold dU at ho
  split at ho<;>omega
 unfold bR;refine(fE h ⟨⟨h1.1,by show bZ p vs a<6;omega⟩,.inl ⟨by cases a.var<;>simp,⟨by simp,by simp only;omega⟩,rfl,rfl,rfl⟩⟩ (λi hi=>?_)).1;unfold prem at hi
 cases a0:a.var<;>rw[a0]at hi<;>simp at hi
def oU(lv:p.Lv)(ok:di p vs)(a0:vs.length<=10){ws:List ar}(h:Ds ws){e:da}(ho:bI vs.length e):Kp ws (dQ p vs ws e):=by
 have h1:=dW lv ok ho;have h6:=lv.n6;obtain⟨o1,o2,o3,o4⟩:=ho;unfold dQ
 split
 ·exact jq lv ok a0 h o3
 rename_i h0;have ha:=jq lv ok a0 h o3;generalize bR p vs ws e.a=Qz at*;have hb:=jq lv ok a0 ha.ds o4;generalize bR p vs Qz.2 e.b=B at*;have ra:=ha.iT;have rb:=hb.iT;have lb:=hb.len
 have b0:prem (⟨2,aB p vs e,e.op,Qz.1,B.1,[]⟩:ar)=[Qz.1,B.1]:=by simp[prem]
 obtain⟨g1,g2⟩:=fE (n:=⟨2,aB p vs e,e.op,Qz.1,B.1,[]⟩) hb.ds ⟨⟨h1.1,by show aB p vs e<6;omega⟩,.inr (.inl ⟨rfl,⟨by simp only;omega,by simp only;omega⟩,rfl⟩)⟩ (λi hi=>by
  rw[b0]at hi;simp only[mem_cons,not_mem_nil,or_false]at hi
  rcases hi with rfl|rfl<;>omega)
 rw[b0]at g2;exact ha.comp (hb.comp g1 (g2 _ (by simp))) (g2 _ (by simp))
def nS(lv:p.Lv)(ok:di p vs)(c0:vs.length<=10)(e0:p.aj.length<=3)
  (IH:∀(ws:List ar) (l:List aa) (u:Int),Ds ws->aY vs.length p.aj.length d l->dy d l<=16->(0<=u/\u<p.n)->Kp ws (aD p vs d ws l u))
  {ws:List ar} (h:Ds ws)  (hu:0<=u/\u<p.n) {s:aa} (hk:eJ vs.length p.aj.length s) (he:bI vs.length s.e) (h1:aY vs.length p.aj.length d s.aZ) (h2:aY vs.length p.aj.length d s.aP) (hc:dy d s.aZ+dy d s.aP<=16):
  Kp ws (dh (aD p vs d) p vs u ws s):=by
 have b0:=oU lv ok c0 h he;have d0:=dW lv ok he;have hj:=lv.jn hu d0;have h6:=lv.n6;have vr:=b0.iT;unfold dh;simp only;generalize dQ p vs ws s.e=v at*;generalize jn p u (aB p vs s.e)=L at*;have b1:=IH v.2 s.aZ L b0.ds h1 (by omega) hj;generalize aD p vs d v.2 s.aZ L=B1 at*;have r1:=b1.iT;have l1:=b1.len
 split
 ·have b2:=IH B1.2 s.aP L b1.ds h2 (by omega) hj
  generalize aD p vs d B1.2 s.aP L=B2 at*;have r2:=b2.iT;have l2:=b2.len;have a0:prem (⟨5,u,v.1,B1.1,B2.1,[]⟩:ar)=[v.1,B1.1,B2.1]:=(by simp[prem])
  obtain⟨g1,g2⟩:=fE (n:=⟨5,u,v.1,B1.1,B2.1,[]⟩) b2.ds ⟨⟨hu.1,by show u<6;omega⟩,.inr (.inr (.inr (.inl ⟨rfl,rfl⟩)))⟩ (λi hi=>by
   rw[a0]at hi;simp only[mem_cons,not_mem_nil,or_false]at hi
   rcases hi with rfl|rfl|rfl<;>omega)
  rw[a0]at g2;exact b0.comp (b1.comp (b2.comp g1 (g2 _ (by simp))) (g2 _ (by simp))) (g2 _ (by simp))
 rename_i k5
 split
 ·have a0:prem (⟨6,u,v.1,B1.1,0,[]⟩:ar)=[v.1,B1.1]:=by simp[prem]
  obtain⟨g1,g2⟩:=fE (n:=⟨6,u,v.1,B1.1,0,[]⟩) b1.ds ⟨⟨hu.1,by show u<6;omega⟩,.inr (.inr (.inr (.inr (.inl ⟨rfl,rfl,rfl⟩))))⟩ (λi hi=>by
   rw[a0]at hi;simp only[mem_cons,not_mem_nil,or_false]at hi
   rcases hi with rfl|rfl<;>omega)
  rw[a0]at g2;exact b0.comp (b1.comp g1 (g2 _ (by simp))) (g2 _ (by simp))
 rename_i k6
 have f0:s.kind=3\/s.kind=4:=by rcases hk with e|e|e|e<;>omega
 have hx:s.x<10:=by rcases hk with e|e|e|e<;>omega
 have a0:prem (⟨s.kind,u,s.x,v.1,0,[]⟩:ar)=[v.1]:=by unfold prem;simp only;rw[Z (by omega),G (by omega)]
 obtain⟨g1,g2⟩:=fE (n:=⟨s.kind,u,s.x,v.1,0,[]⟩) b0.ds ⟨⟨hu.1,by show u<6;omega⟩,.inr (.inr (.inl ⟨by simp only;omega,⟨by simp,by simp only;omega⟩,rfl,rfl⟩))⟩ (λi hi=>by
  rw[a0]at hi;simp only[mem_singleton]at hi
  omega)
 rw[a0]at g2;exact b0.comp g1 (g2 _ (by simp))
structure qr(ws:List ar)(l:List aa)(r:Is×List ar):Prop where
 ext:∃t,r.2=ws++t
 len:r.1.length=l.length
 iT:∀k∈r.1,0<=k/\k<(r.2.length:Int)
 ds:Ds r.2
 us:∀k:Nat,ws.length<=k->k<r.2.length->(k:Int)∈r.1\/gl r.2 k
def lN{W:List ar->aa->Int×List ar}:∀(l:List aa) (ws:List ar),Ds ws->(∀s∈l,∀ws,Ds ws->Kp ws (W ws s))->qr ws l (bK W ws l)
 |[],ws,h,_=>⟨⟨[],by simp[bK]⟩,rfl,λk hk=>by simp[bK]at hk,h,λk h1 h2=>by simp only[bK]at h2;omega⟩
 |s::l,ws,h,hW=>by
  have h1:=hW s (by simp) ws h;have h2:=lN l (W ws s).2 h1.ds (λs hs'=>hW s (by simp[hs']));rw[bK];generalize bK W (W ws s).2 l=q at*;generalize W ws s=r at*;obtain⟨t1,e1⟩:=h1.ext;obtain⟨t2,e2⟩:=h2.ext;have r1:=h1.iT;have hl:r.2.length<=q.2.length:=(by rw[e2];simp);refine⟨⟨t1++t2,by rw[e2,e1,append_assoc]⟩,by simp[h2.len],λk hk=>?_,h2.ds,λk a1 a2=>?_⟩
  ·rcases mem_cons.1 hk with rfl|hk
   ·simp only;omega
   exact h2.iT k hk
  by_cases h3:r.2.length<=k
  ·rcases h2.us k h3 a2 with h4|h4
   ·exact .inl (mem_cons_of_mem _ h4)
   exact .inr h4
  rcases h1.us k a1 (by omega) with h4|h4
  ·exact .inl (by rw[h4];simp)
  exact .inr (by show gl q.2 k;rw[e2];exact h4.ext)
def jT(lv:p.Lv)(ok:di p vs)(a0:vs.length<=10)(b0:p.aj.length<=3):∀(d:Nat) (ws:List ar) (l:List aa) (u:Int),Ds ws->aY vs.length p.aj.length d l->dy d l<=16->(0<=u/\u<p.n)->Kp ws (aD p vs d ws l u)
 |0,ws,l,u,h,hs,hc,hu=>by
  have h6:=lv.n6;unfold aD;exact(fE (n:=⟨7,u,0,0,0,[]⟩) h ⟨⟨hu.1,by show u<6;omega⟩,.inr (.inr (.inr (.inr (.inr ⟨rfl,rfl,rfl,rfl,by simp⟩))))⟩ (λi hi=>by simp[prem]at hi)).1
 |d+1,ws,l,u,h,hs,hc,hu=>by
  have h6:=lv.n6
  have hL:=lN (W:=dh (aD p vs d) p vs u) l ws h (λs hs' ws' h'=>by
   obtain⟨a1,a2,a3,a4⟩:=hs s hs'
   exact nS lv ok a0 b0 (jT lv ok a0 b0 d) h' hu a1 a2 a3 a4 (by have:=lO (d:=d) hs';omega))
  unfold aD;generalize bK (dh (aD p vs d) p vs u) ws l=r at*;have c0:prem (⟨7,u,0,0,0,r.1⟩:ar)=r.1:=(by simp[prem])
  obtain⟨g1,g2⟩:=fE (n:=⟨7,u,0,0,0,r.1⟩) hL.ds ⟨⟨hu.1,by show u<6;omega⟩,.inr (.inr (.inr (.inr (.inr ⟨rfl,rfl,rfl,rfl,by have:=lP d l;have:=hL.len;simp only;omega⟩))))⟩ (λi hi=>by
   rw[c0]at hi
   exact hL.iT i hi)
  rw[c0]at g2;obtain⟨t1,e1⟩:=hL.ext;obtain⟨t2,e2⟩:=g1.ext;refine⟨⟨t1++t2,by rw[e2,e1,append_assoc]⟩,g1.iT,g1.ds,λk a1 a2=>?_⟩
  by_cases h3:r.2.length<=k
  ·exact g1.us k h3 a2
  rcases hL.us k a1 (by omega) with h4|h4
  ·exact .inr (g2 _ h4)
  exact .inr (by rw[e2];exact h4.ext)
end
def mm{p:aV}(lv:p.Lv)(ho:p.Ok)(hc:dy 4 p.aZ<=16)(h0:(bF p).1=0):(bu (bF p).2.1 (bF p).2.2).2.1=true:=by
 unfold bF at h0⊢
 by_cases hd:0<cY p (bJ p)
 ·rw[G hd]at h0;simp only at h0;omega
 rw[Z hd];obtain⟨hv,b0⟩:=jt lv ho;have c0:=ho.ce;have cq:=ho.lo;have h6:=lv.n6;have hB:=jT lv hv (by rw[hv.1];omega) ho.ch 4 [] p.aZ (aI p) (λk hk=>by simp at hk) (by rw[hv.1];exact ho.aZ) hc lv.aI;have hN:=jr p (bJ p) 4 [] p.aZ (aI p);simp only;generalize aD p (bJ p) 4 [] p.aZ (aI p)=r at*;simp only[length_nil,Nat.zero_add]at hN;have rr:=hB.iT;have a0:r.1=(r.2.length:Int) - 1:=by
  rcases hB.us (r.2.length - 1) (by simp) (by omega) with h|h
  ·omega
  obtain⟨j,j1,j2,-⟩:=h;omega
 have hD:=hB.ds;unfold bu;rw[Z (by rw[length_drop,hv.1];omega),Z,Z]
 ·have h1:bf r.2= -1:=by
   unfold bf
   rw[ey _ _ (λk hk=>by
    obtain⟨d1,d2,d3⟩:=hD k hk;unfold eQ;rw[d1.bD (λi hi=>by have:=d2 i hi;omega)];have e1:((prem (nth r.2 k)).any λp=>decide ((k:Int)<=p))=false:=by
     rw[any_eq_false];intro i hi;have:=d2 i hi;simp only[Qn];omega
    have e2:((range k).any λi=>eh (nth r.2 i) (nth r.2 k))=false:=by
     rw[any_eq_false];intro i hi;rw[mem_range]at hi;intro hh;exact d3 i hi ((dg _ _).1 hh)
    rw[e1,e2]
    rfl)]
   simp only
   rw[ey _ _ (λk hk=>by
    rcases hB.us k (by simp) (by omega) with h|h
    ·omega
    obtain⟨j,j1,j2,j3⟩:=h;have:used r.2 k=true:=by
     unfold used;rw[any_eq_true];refine⟨j,by rw[mem_range];exact j2,?_⟩;rw[Qk,Qn,any_eq_true];exact⟨by omega,_,j3,by simp⟩
    rw[this]
    rfl)]
  rw[h1]
  decide
 rw[Bool.not_eq_false,all_eq_true];intro x hx;obtain⟨i,hi,e⟩:=ki (mem_of_mem_drop hx);have:=hv.2 i hi;exact pW (by omega)
def jD(h:(aq s).1=0)(h0:(bF (aq s).2.2).1=0):(bu (bF (aq s).2.2).2.1 (bF (aq s).2.2).2.2).2.1=true:=
 mm (eN s h) (dO s h).1 (jE s 4) h0
end Fl
def Fl.checked(q:Nat×Nat×Fl.aV)(d:(Is×List Fl.ar)×Bool×Int):Nat×Int:=
 if q.1≠0 then(q.1,(q.2.1:Int)) else if d.2.1=false then(8,d.2.2) else Fl.check q.2.2 d.1.1 d.1.2
namespace Fl
def hZ(h:(aq l).1=0)(hc:(checked (aq l) (decode t)).1=0):fO (aq l).2.2 (decode t).1.1 (decode t).1.2:=by
 unfold checked at hc;rw[Z (by rw[h];simp)]at hc
 split at hc
 ·cases hc
 rename_i hd;exact ly (yzv (by simpa using hd)) hc
def kR(t:K)(h:(aq l).1=0):(bV (aq l)).1=0\/((bV (aq l)).1=7/\(checked (aq l) (decode t)).1≠0):=by
 by_cases h0:(bF (aq l).2.2).1=0
 ·refine .inl ?_
  unfold bV;rw[Z (by rw[h];simp),Z (by rw[h0];omega),Z (by rw[jD h h0];simp)]
 refine .inr ⟨?_,λhc=>h0 (whole (eN l h) (dO l h).1 (hZ h hc))⟩;unfold bV;rw[Z (by rw[h];simp),G (by omega)]
end Fl
namespace Fl
def kQ{p:aV}{x:List ar}(lv:p.Lv)(ok:p.Ok)(h:fO p ls x){L:Nat}(hL:L<p.n)(h1:cs.length=p.cells.length)(h2:ds.length=p.cells.length)(b0:∀i,i<p.cells.length->p.leq (p.cells.getD i 0) L=true->cs.getD i 0=ds.getD i 0)(Wj:Nat)(e1:(p.run cs Wj).1=true)(e2:(p.run ds Wj).1=true):
  (∀i,i<p.cells.length->p.leq (p.cells.getD i 0) L=true->(p.run cs Wj).2.vars.getD i 0=(p.run ds Wj).2.vars.getD i 0)/\dF p L (p.run cs Wj).2.aE=dF p L (p.run ds Wj).2.aE:=by
 have c0:(vars p ls).length=p.cells.length+p.ak:=(h.lv lv).1
 have hb:aY (vars p ls).length p.aj.length 4 p.aZ:=by rw[c0];exact ok.aZ
 have hx:=h.ok.x0;have a0:=lv.aI;have hT:Ty p (vars p ls) 4 p.aZ (aI p):=h.fits lv 4 ((x.length:Int) - 1) p.aZ (aI p) (by omega) h.al hb a0 (gg lv (h.at (by omega)).1)
 have hv:∀i,i<p.cells.length->(vars p ls).getD i 0=(p.cells.getD i 0:Nat):=λi hi=>by
  unfold vars;rw[Qa,getElem?_append_left (by simpa using hi),getElem?_map,Qb hi,Qa,Qb hi];rfl
 have hA:bL p (vars p ls) (L:Int) ⟨cs++replicate p.ak 0,[],Wj⟩ ⟨ds++replicate p.ak 0,[],Wj⟩:=by
  refine⟨by simp[h1,h2],λi hi hu=>?_,rfl⟩
  by_cases hc:i<p.cells.length
  ·rw[hv i hc]at hu
   have:=b0 i hc (by simpa [aR] using hu);rw[Qa,Qa]at this⊢;rw[getElem?_append_left (by omega),getElem?_append_left (by omega)];exact this
  rw[Qa,Qa,getElem?_append_right (by omega),getElem?_append_right (by omega),h1,h2]
 have hr:=py lv (h.lv lv) (L:=L) (by omega) (Wj+1) (Wj+1) 4 p.aZ (aI p) _ _ hb a0 hT hA e1 e2;refine⟨λi hi hu=>hr.var i (by omega) ?_,hr.out⟩;rw[hv i hi];simpa [aR] using hu
def oT(h:(aq l).1=0)(hc:(checked (aq l) (decode t)).1=0):∃ls x,fO (aq l).2.2 ls x:=⟨_,_,hZ h hc⟩
end Fl
open Go.RowKit
namespace Fl
end Fl
end Go.Proofs.YtjmcibbdedlcoaaGreatDoor
namespace Go.Proofs.YtjmcibbdedlcoaaGreatDoor
open Go.Proofs.Tryz List World Region Value Act
variable{w:World}{Pb k d n:Nat}{hv bv cv:Value}{ls vs:Is}{s l t:K}{L u c:Int}{cs ds:List Nat}
namespace Fl
end Fl
namespace Fl
def ij{q:Nat×Nat×aV}(h:(bV q).1=0):q.1=0/\(bF q.2.2).1=0/\(bu (bF q.2.2).2.1 (bF q.2.2).2.2).2.1=true/\(bV q).2.2=(bu (bF q.2.2).2.1 (bF q.2.2).2.2).1:=by
 unfold bV at h⊢
 by_cases h1:q.1≠0
 ·rw[G h1]at h;exact absurd h h1
 by_cases h2:0<(bF q.2.2).1
 ·rw[Z h1,G h2]at h;cases h
 by_cases h3:(bu (bF q.2.2).2.1 (bF q.2.2).2.2).2.1=false
 ·rw[Z h1,Z h2,G h3]at h;cases h
 rw[Z h1,Z h2,Z h3];exact⟨Decidable.of_not_not h1,by omega,by simpa using h3,rfl⟩
def jS(h:(bV (aq l)).1=0):decode (bV (aq l)).2.2=(((bF (aq l).2.2).2.1,(bF (aq l).2.2).2.2),true,0):=by
 obtain⟨h1,h2,h3,h4⟩:=ij h;rw[h4];exact(jf h3).1
def mj(h:(bV (aq l)).1=0):checked (aq l) (decode (bV (aq l)).2.2)=(0,-1):=by
 obtain⟨h1,h2,h3,h4⟩:=ij h;unfold checked;rw[Z (by rw[h1];simp),jS h,Z (by simp)];exact(kh (eN l h1) (dO l h1).1 (jJ l 4) h2).1
def mi(h:(bV (aq l)).1=0):3<=(bV (aq l)).2.2.length:=by
 have h1:=jS h;refine Classical.byContradiction λhn=>?_;have h2:=congrArg (λx=>x.2.1) h1;unfold decode at h2
 by_cases h0:dV (bV (aq l)).2.2<3
 ·rw[G h0]at h2;simp at h2
 ·have:=(jU h0).2
  omega
def lz{ns:List ar}(h:(bu ls ns).2.1=true):(bu ls ns).1.length<=100000:=by
 unfold bu at h⊢
 by_cases h1:4<ls.length\/ns.length=0\/200<ns.length
 ·rw[G h1]at h;simp at h
 rw[Z h1]at h⊢
 by_cases h2:ls.all cd=false
 ·rw[G h2]at h;simp at h
 rw[Z h2]at h⊢
 by_cases h3:0<=bf ns
 ·rw[G h3]at h;simp at h
 rw[Z h3]
 have a1:=gJ ns (λx hx=>by
  obtain⟨i,hi,e⟩:=getElem_of_mem hx;have h4:=fC (ns:=ns) (by omega) i hi;unfold nth at h4;rw[getD_eq_getElem?_getD,getElem?_eq_getElem hi]at h4;rw[<-e]
  exact h4)
 have a2:=dr ls.length;have a3:=dL ls;have a4:=dr ns.length;simp only[bQ,length_append,length_cons,length_nil];omega
def mh(h:(bV (aq l)).1=0):(bV (aq l)).2.2.length<=100000:=by
 obtain⟨h1,h2,h3,h4⟩:=ij h;rw[h4];exact lz h3
end Fl
open Go.RowKit
def ys3(q:Nat×Nat×Fl.aV)(cs:List Nat)(Wj:Nat)(w:World)(e:Ending)(w':World):Prop:=
  E w w'/\
  ((q.1≠0/\e=.returned (.tuple #[.agg #[Zq,Zq,.bool false],I q.1,I q.2.1]))\/
   (q.1=0/\cs.length≠q.2.2.cells.length/\e=.returned (.tuple #[.agg #[Zq,Zq,.bool false],I 11,I (-1)]))\/
   (q.1=0/\cs.length=q.2.2.cells.length/\∃Lb sa sn sc,e=.returned (.tuple #[.agg #[Sq Lb 0 cs.length cs.length,J sa sn sc,.bool (q.2.2.run cs Wj).1],I 0,I (-1)])/\zw6 w.heap.size w' cs.length (q.2.2.run cs Wj) Lb (J sa sn sc)))
def yf7(fuel:Int)(Wj:Nat)(hF:(Wj:Int)=min (max fuel 0) 2000)(hE:Um w)(hl:l.length<=100000)(hg:1<w.heap.size)(hm:Yg w)(hcs:zyv w cv cs)(hcl:cs.length<=100000):
  F 8 #[Tq l,cv,I fuel] w (ys3 (Fl.aq l) cs Wj w):=by
 have HC:O (∀W,E w W->F 17 #[Tq l,cv,I fuel] W (ytv (Fl.aq l) cs Wj W)):=λW hW=>ygw fuel Wj hF hl (by have:=hW.size;omega) (by
  obtain⟨x,hx⟩:=hm
  exact⟨x,(hW.cell (p:=⟨1,0,none⟩) hg).trans hx⟩) (hcs.below hW) hcl
 have hEB:∀o,E w o->Um o:=λo ho=>(ho.cell (p:=⟨0,0,none⟩) (block_lt_of_cell? w _ hE)).trans hE;have HEB:O (∀o,E w o->Um o):=hEB;obtain⟨ao,cap,rfl,g1,g2,g3,g4⟩:=hcs;obtain⟨aX,hres⟩:∃aX,aX=Fl.aq l:=⟨_,rfl⟩;rw[<-hres]at HC⊢;obtain⟨n,hn⟩:∃n,n=cs.length:=⟨_,rfl⟩;have HN:O (n=cs.length):=hn;rw[<-hn]at HC;rw[<-hn];clear hF hl hg hm g1 g2 g3 g4 hres hn hE hEB hcl
 go_enter func8,ntmps8
 go_wp2_with fail
 have hB1:E w (w.alloc (.cells #[Zq,Zq,.bool false] 42)):=(Below.refl _ w).alloc lE _;refine(HC _ hB1).mono ?_;rintro e wz ⟨hB,hcase⟩;have c0:D wz w.heap.size 0 Zq:=cT hB (by simp) (by simp);have c1:D wz w.heap.size 1 Zq:=cT hB (by simp) (by simp);have c2:D wz w.heap.size 2 (.bool false):=cT hB (by simp) (by simp);have fz:∀j,wz.frozen? (Y w.heap.size j)=false:=λj=>(hB.frozen (p:=(Y w.heap.size j)) (by simp)).trans (by simp);have HB:O (E w wz):=hB1.trans (hB.mono (by simp))
 have cH:w.heap.size+1<=wz.heap.size:=by have:=hB.size;simpa using this
 clear hB hB1 HC
 have hnew:∀(o:Obj) (w2:World),Below (wz.alloc o).heap.size (wz.alloc o) w2->(D w2 w.heap.size 0 Zq/\D w2 w.heap.size 1 Zq/\D w2 w.heap.size 2 (.bool false)/\(∀j,w2.frozen? (Y w.heap.size j)=false))/\E w w2/\(∀b,b<wz.heap.size->w2.heap[b]?=wz.heap[b]?)/\w2.heap[wz.heap.size]?=some o/\wz.heap.size+1<=w2.heap.size:=λo w2 hB2=>by
  have q:∀b,b<wz.heap.size->w2.heap[b]?=wz.heap[b]?:=λb hb=>(hB2.block b (by simp;omega)).trans (Xz _ _ _ hb);have r:w2.heap[w.heap.size]?=wz.heap[w.heap.size]?:=q _ (by omega);exact⟨⟨(cell?_of_block (a:=(Y w.heap.size 0)) r).trans c0,(cell?_of_block (a:=(Y w.heap.size 1)) r).trans c1,(cell?_of_block (a:=(Y w.heap.size 2)) r).trans c2,λj=>(frozen?_of_block (a:=(Y w.heap.size j)) r).trans (fz j)⟩,(HB.alloc (by omega) _).trans (hB2.mono (by simp;omega)),q,(hB2.block _ (by simp)).trans (Uk _ _ _ rfl),by have:=hB2.size;simpa using this⟩
 have HNEW:O (∀(o:Obj) (w2:World),Below (wz.alloc o).heap.size (wz.alloc o) w2->(D w2 w.heap.size 0 Zq/\D w2 w.heap.size 1 Zq/\D w2 w.heap.size 2 (.bool false)/\(∀j,w2.frozen? (Y w.heap.size j)=false))/\E w w2/\(∀b,b<wz.heap.size->w2.heap[b]?=wz.heap[b]?)/\w2.heap[wz.heap.size]?=some o/\wz.heap.size+1<=w2.heap.size):=hnew;clear hnew c0 c1 c2 fz;rcases hcase with⟨h0,a,rfl,a0,a1⟩|⟨h0,h1,rfl⟩|⟨h0,h1,Lb,sa,sn,sc,rfl,hEA⟩
 ·have H0:O (aX.1≠0):=h0
  have A0:O (D wz a 0 (I (aX.1:Int))):=a0;have A1:O (D wz a 1 (I (aX.2.1:Int))):=a1;clear h0 a0 a1
  go_wp2_with fail
  refine(zc5 a 0 (aX.1:Int) (aX.2.1:Int) _ (HEB _ (HB.alloc (by omega) _)) ((cell?_alloc_lt _ _ _ (block_lt_of_cell? wz _ A0)).trans A0) ((cell?_alloc_lt _ _ _ (block_lt_of_cell? wz _ A1)).trans A1)).mono ?_;rintro e w2 ⟨rfl,hB2⟩;obtain⟨⟨d0,d1,d2,dz⟩,hb2,hq2,hr2,hz2⟩:=HNEW _ _ hB2;have p0:D w2 wz.heap.size 0 Zq:=cR 0 hr2;have p1:D w2 wz.heap.size 1 Zq:=cR 1 hr2;have p2:D w2 wz.heap.size 2 (.bool false):=cR 2 hr2;have HB2:O (E w w2):=hb2;clear hB2 hb2 hq2 hr2 HNEW
  go_wp2_with fail
  obtain⟨f0,f1,f2,fk,fs⟩:=zxz Zq Zq (.bool false) d0 d1 d2;refine bodyPost_ret (v:=.tuple #[.agg #[Zq,Zq,.bool false],I (aX.1:Int),I (aX.2.1:Int)]) (by simp[results,results8,go_sem,f0,f1,f2]) rfl ?_;exact⟨((HB2.setCell lE _).setCell lE _).setCell lE _,.inl ⟨H0,rfl⟩⟩
 ·have H0:O (aX.1=0):=h0
  have H1:O (cs.length≠aX.2.2.cells.length):=h1;clear h0 h1
  go_wp2_with fail
  refine(zm6 11 _ (HEB _ (HB.alloc (by omega) _))).mono ?_;rintro e w2 ⟨rfl,hB2⟩;obtain⟨⟨d0,d1,d2,dz⟩,hb2,hq2,hr2,hz2⟩:=HNEW _ _ hB2;have p0:D w2 wz.heap.size 0 Zq:=cR 0 hr2;have p1:D w2 wz.heap.size 1 Zq:=cR 1 hr2;have p2:D w2 wz.heap.size 2 (.bool false):=cR 2 hr2;have HB2:O (E w w2):=hb2;clear hB2 hb2 hq2 hr2 HNEW
  go_wp2_with fail
  obtain⟨f0,f1,f2,fk,fs⟩:=zxz Zq Zq (.bool false) d0 d1 d2;refine bodyPost_ret (v:=.tuple #[.agg #[Zq,Zq,.bool false],I 11,I (-1)]) (by simp[results,results8,go_sem,f0,f1,f2]) rfl ?_;exact⟨((HB2.setCell lE _).setCell lE _).setCell lE _,.inr (.inl ⟨H0,H1,rfl⟩)⟩
 ·have H0:O (aX.1=0):=h0
  have H1:O (cs.length=aX.2.2.cells.length):=h1;obtain⟨q,hq⟩:∃q,q=aX.2.2.run cs Wj:=⟨_,rfl⟩;have HQ:O (q=aX.2.2.run cs Wj):=hq;rw[<-hq]at hEA⊢;have HEA:O (zw6 (w.heap.size+1) wz cs.length q Lb (J sa sn sc)):=by
   show zw6 _ _ _ _ _ _;have:=hEA;simpa using this
  clear h0 h1 hq hEA
  go_wp2_with fail
  refine(zhv _).mono ?_;rintro e w2 ⟨rfl,hB2⟩;obtain⟨⟨d0,d1,d2,dz⟩,hb2,hq2,hr2,hz2⟩:=HNEW _ _ hB2;have p0:D w2 wz.heap.size 0 (Sq Lb 0 cs.length cs.length):=cR 0 hr2;have p1:D w2 wz.heap.size 1 (J sa sn sc):=cR 1 hr2;have p2:D w2 wz.heap.size 2 (.bool q.1):=cR 2 hr2;have HB2:O (E w w2):=hb2;have HE2:O (zw6 (w.heap.size+1) w2 cs.length q Lb (J sa sn sc)):=HEA.kept lE (λb _ hb=>hq2 b hb);clear hB2 hb2 hq2 hr2 HNEW HEA
  go_wp2_with fail
  obtain⟨f0,f1,f2,fk,fs⟩:=zxz (Sq Lb 0 cs.length cs.length) (J sa sn sc) (.bool q.1) d0 d1 d2;refine bodyPost_ret (v:=.tuple #[.agg #[Sq Lb 0 cs.length cs.length,J sa sn sc,.bool q.1],I 0,I (-1)]) (by simp[results,results8,go_sem,f0,f1,f2]) rfl ?_;refine⟨((HB2.setCell lE _).setCell lE _).setCell lE _,.inr (.inr ⟨H0,H1,Lb,sa,sn,sc,?_,?_⟩)⟩
  ·rw[<-HQ.out]
  ·rw[<-HQ.out]
   exact HE2.kept (by omega) (λb hb _=>fk b (by omega))
structure Ue(W wr:World)(x y:Value)(cs ds:List Nat):Prop where
 be:E W wr
 ox:wr.ownsRow W.heap.size 38 1 x cs.length (Vr cs)
 oy:wr.ownsRow W.heap.size 38 1 y ds.length (Vr ds)
 ne:∀b,x.ownBlock=some b->y.ownBlock≠some b
section
variable{W wr wm w4:World}{x y v':Value}
def Ue.symm(h:Ue W wr x y cs ds):Ue W wr y x ds cs:=⟨h.be,h.oy,h.ox,λb h1 h2=>h.ne b h2 h1⟩
def Ue.below(h:Ue W wr x y cs ds)(hb:E wr wm):Ue W wm x y cs ds:=
 ⟨h.be.trans (hb.mono h.be.size),Zj h.ox (λb k=>hb.block b (h.ox.lt b k).2),Zj h.oy (λb k=>hb.block b (h.oy.lt b k).2),h.ne⟩
def Ue.add(h:Ue W wr x y cs ds){a:Nat}(ho:w4.ownsRow W.heap.size 38 1 v' (cs.length+1) (Vr cs++[.int .u32 a]))(hg:wr.grownBy w4 x.ownBlock)(hw:v'.ownBlock=x.ownBlock\/v'.ownBlock=some wr.heap.size):Ue W w4 v' y (cs++[a]) ds:=by
 refine⟨h.be.grown hg h.be.size (λb k=>(h.ox.lt b k).1),?_,Zj h.oy (λb k=>hg.block b (h.oy.lt b k).2 (λe=>h.ne b e.symm k)),λb h1 h2=>?_⟩
 ·have e:Vr (cs++[a])=Vr cs++[.int .u32 a]:=by unfold Vr;simp
  rw[e,length_append];exact ho
 rcases hw with e|e
 ·exact h.ne b (e.symm.trans h1) h2
 rw[e]at h1;have:=(h.oy.lt b h2).2;simp only[Ql]at h1;omega
def Ue.u32(h:Ue W wr x y cs ds)(hl:∀z∈cs,z<4294967296):zyv wr x cs:=zyv.dD h.ox hl
def Ue.shape(h:Ue W wr x y cs ds):∃a c,x=J a cs.length c:=by
 rcases h.ox.2 with⟨h1,h2⟩|⟨g,cp,cur,h1,_⟩
 ·exact⟨none,0,by rw[h1,h2]⟩
 exact⟨_,cp,h1⟩
end
def yy0{base:Nat}{e:TypeId}{v:Value}{xs:Vs}(h:w.ownsRow base e k v n xs):∃a m c,v=J a m c:=by
 rcases h.2 with⟨h1,-⟩|⟨g,cp,cur,h1,-⟩
 ·exact⟨_,_,_,h1⟩
 exact⟨_,_,_,h1⟩
def scin_of{w':World}{a b bH:Value}{ca:Option Addr}{cc:Nat}{p:Fl.aV}(hz:Pb<w'.heap.size)(hc:Zh w' Pb 6 (rw_ [a,b,J ca p.cells.length cc,bH,I (p.ak:Nat),bv]))(ht:RTab w' a b (J ca p.cells.length cc) bH p)(hl:p.Lv):∃Lq rb,ScIn w' Pb Lq rb (J ca p.cells.length cc) bH p:=by
 obtain⟨rfl,Lq,rb,rfl,h1,h2,h3⟩:=ht;exact⟨Lq,rb,{hz:=hz,p0:=hc.c 0 (by omega),p1:=hc.c 1 (by omega),p2:=hc.c 2 (by omega),p3:=hc.c 3 (by omega),ci:=h2,hi:=h3,lq:=h1,lv:=hl}⟩
def zs9(x:Int):Nat:=(x % 4294967296).toNat
def yo3(x:Int):zs9 x<4294967296:=by unfold zs9;omega
def yy1(x:Int):x % 4294967296=((zs9 x:Nat):Int):=by unfold zs9;omega
def zz1(p:Fl.aV)(one:Is):Nat->Nat:=λi=>zs9 (one.getD i 0)
def zzv(p:Fl.aV)(one two:Is)(L:Nat):Nat->Nat:=λi=>if p.leq (p.cells.getD i 0) L then zs9 (one.getD i 0) else zs9 (two.getD i 0)
def Vn(f:Nat->Nat)(k:Nat):List Nat:=(range k).map f
def zd6(f:Nat->Nat)(k:Nat):Vn f (k+1)=Vn f k++[f k]:=by unfold Vn;rw[range_succ,map_append];rfl
def zz2(f:Nat->Nat)(k:Nat):(Vn f k).length=k:=by unfold Vn;simp
def zd7(f:Nat->Nat){i:Nat}(h:i<k):(Vn f k).getD i 0=f i:=by unfold Vn;rw[Qa,getElem?_map,getElem?_range h];rfl
def ys4{f:Nat->Nat}(h:∀i,f i<4294967296)(k:Nat):∀z∈Vn f k,z<4294967296:=λz hz=>by obtain⟨i,-,rfl⟩:=mem_map.1 hz;exact h i
end Go.Proofs.YtjmcibbdedlcoaaGreatDoor
