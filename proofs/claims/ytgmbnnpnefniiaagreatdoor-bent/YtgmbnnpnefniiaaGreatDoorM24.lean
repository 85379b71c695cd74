import Derived.Test.YtgmbnnpnefniiaaGreatDoorM16
import Derived.Test.YtgmbnnpnefniiaaGreatDoorM23
set_option linter.all false
set_option maxRecDepth 100000
set_option maxHeartbeats 40000000
namespace Go.Proofs.YtgmbnnpnefniiaaGreatDoor
open Go.Proofs.Tryz List World Fl
variable{w:World}{Pb Lq k cap:Nat}{rb:Nat->Nat}{aB hv bv lv:Value}{ls:Is}{s l:L}{ao:Option Addr}
section
open Go.RowKit
def yty{nv:Value}{p:aY}{x:List ar}(h:zz6 w Pb Lq rb aB hv bv lv nv p ls x)(k:Nat)(hk:k<x.length)(ho:zt1 p x (nth x k))(a0:∀y∈vars p ls,0<=y/\y<p.n)(b0:∀y∈p.ai,y<p.n)(c0:(nth x k).a<2147483648):
  E 38 #[F Pb,.agg #[lv,nv],I k] w (Rw (.bool (follows p ls x (nth x k))) w):=by
 have h8:=ho.kd
 by_cases d0:(nth x k).ak<p.n
 ·rcases(show (nth x k).kind=0\/(nth x k).kind=1\/(nth x k).kind=2\/(nth x k).kind=3\/(nth x k).kind=4\/(nth x k).kind=5\/(nth x k).kind=6\/(nth x k).kind=7 by omega) with e|e|e|e|e|e|e|e
  ·exact yt7 h k hk ho a0 b0 d0 c0 e
  ·exact yt8 h k hk ho a0 b0 d0 c0 e
  ·exact yq8 h k hk ho a0 b0 d0 c0 e
  ·exact yt9 h k hk ho a0 b0 d0 c0 e
  ·exact ytz h k hk ho a0 b0 d0 c0 e
  ·exact zo0 h k hk ho a0 b0 d0 c0 (.inl ⟨e,rfl⟩)
  ·exact zo0 h k hk ho a0 b0 d0 c0 (.inr ⟨e,rfl⟩)
  exact zb4 h k hk ho a0 b0 d0 c0 e
 exact yx4 h k hk (by omega)
def yj2{Lb:Nat}{nv:Value}{p:aY}{S:Nat->Prop}{x:List ar}(h:CpIn w Pb Lb aB hv bv lv nv p S ls x)
  (v0:ls.length=p.ap->(∀y∈ls,y<p.n)->∀k,k<x.length->(∀j,j<k->follows p ls x (nth x j)=true)->zt1 p x (nth x k)):
  E 58 #[F Pb,.agg #[lv,nv]] w (yf0 (check p ls x) w):=by
 obtain⟨la,lc,rfl⟩:=Jv h.li
 obtain⟨na,nc,rfl⟩:∃a c,nv=A a x.length c:=by obtain⟨a,c,e,-⟩:=h.no;exact⟨a,c,e⟩
 obtain⟨ba,bc,rfl⟩:∃a c,bv=A a p.aZ.length c:=by obtain⟨a,c,e,-⟩:=h.bs;exact⟨a,c,e⟩
 have HH:=Z h;have y0:=Z v0;have c0:=h.x0;clear v0 h
 go_enter func58,ntmps58
 go_wp2_with fail
 obtain⟨W1,h0⟩:=J (w.alloc (.cells #[A la ls.length lc,A na x.length nc] 30));rw[<-h0]
 have z0:D w W1:=by rw[h0];exact bA
 have O0:W1.heap.size=w.heap.size+1:=by rw[h0];simp
 have hp:∀i,W1.cell? (O w.heap.size i)=#[A la ls.length lc,A na x.length nc][i]?:=λi=>by rw[h0];exact cell?_alloc_new _ _ _ _
 have p0:=hp 0;have p1:=hp 1;have HP:Y (∀W,D W1 W->M W w.heap.size 0 (A la ls.length lc)/\M W w.heap.size 1 (A na x.length nc)):=λW hW=>⟨cT hW (by omega) p0,cT hW (by omega) p1⟩;have d0:=Z z0;obtain⟨fit,e0⟩:=J (decide (ls.length=p.ap/\∀y∈ls,0<=y/\y<p.n));have A0:Y (E 75 #[F Pb,A la ls.length lc] W1 (Rq (.bool fit) W1)):=by
  have h2:=HH.below d0.out;rw[e0];exact yx3 h2.la h2.p0 h2.p3 _ ls h2.li (by have:=h2.l0.1;omega)
 have i0:=Z e0;clear h0 z0 hp e0
 go_wp2_with fail
 refine(A0.out).mono ?_;rintro e w2 ⟨rfl,rfl⟩
 cases fit with
 |false=>
  have HE:Y (check p ls x=(10,-1)):=by
   show _=_;have h1:=of_decide_eq_false i0.symm;unfold check;rw[G]
   by_cases h2:ls.length=p.ap
   ·right
    refine Classical.byContradiction λh3=>h1 ⟨h2,λy hy=>⟨HH.l0.2 y hy,?_⟩⟩;refine Classical.byContradiction λh4=>h3 ?_;rw[any_eq_true];exact⟨y,hy,decide_eq_true (by omega)⟩
   exact .inl h2
  go_wp2;go_ret;refine⟨d0,.inr (.inl ⟨by rw[HE.out],rfl⟩)⟩
 |true=>
  have hf:=of_decide_eq_true i0.symm;have HF:=Z hf
  have HV:Y (∀W,D w2 W->E 76 #[F Pb,A la ls.length lc] W λe w'=>D W w'/\∃a c,e=.returned (A a (vars p ls).length c)/\Zw w'.heap.size w' (A a (vars p ls).length c) (vars p ls)):=λW hW=>by
   have h2:=(HH.below d0).below hW;exact yx6 h2.hz.1 h2.p1 h2.ci h2.li ⟨by have:=h2.cl.1;simp;omega,by have:=h2.l0.1;omega⟩
  clear hf
  go_wp2_with fail
  refine Vq HP (dA) [(0,0),(0,1),(0,2),(0,3),(0,5),(0,6),(1,4),(1,7),(0,8),(1,9),(0,10)] [] [] (by kernel_rfl) (λ_ _ _ _ h=>h) (λops hG=>?_);clear hG
  iterate 6 refine Zv rfl (by intros;go_simp<;>rfl) (by go_simp<;>rfl) ?_
  refine Zm ?_
  go_wp2_with fail
  refine(HV _ dA).mono ?_;rintro e W2 ⟨B0,va,vc,rfl,C0⟩;have j0:=Z (dA.trans B0);have D0:=Z C0;clear B0 C0
  go_wp2_with fail
  refine⟨HP _ j0,?_⟩;refine Zm ?_
  go_wp2_with fail
  refine(yj0 _).mono ?_;rintro e W3 ⟨rfl,q0⟩;have k0:Y (D w2 W3):=(by rw[q0];exact j0.alloc j0.size _);have r0:=Z q0;clear q0
  go_wp2_with fail
  refine⟨HP _ k0,?_⟩;refine Zv rfl (by intros;go_simp<;>rfl) (by go_simp<;>rfl) ?_;refine Zm ?_
  go_wp2_with fail
  refine⟨HP _ (k0.alloc k0.size _),?_⟩;refine Zv rfl (by intros;go_simp<;>rfl) (by go_simp<;>rfl) ?_;refine Zs ?_;obtain⟨W4,m0⟩:=J (W3.alloc (.cells #[F Pb,A va (vars p ls).length vc,A na x.length nc,Sq W2.heap.size 0 8 8] 182));rw[<-m0];have E0:=d0.trans (j0.mono d0.size);have n0:Ye W4 (W2.heap.size+1) Pb Lb W2.heap.size (A va (vars p ls).length vc) (A na x.length nc) hv p (vars p ls) x:=by
   rw[m0,r0.out];exact HH.me E0 D0.out
  have F0:W3.heap.size=W2.heap.size+1:=(by rw[r0.out];simp);rw[<-F0]at n0;have G0:D w W4:=by
   have h3:=d0.trans (k0.mono d0.size);rw[m0];exact h3.alloc h3.size _
  have H0:∀y∈vars p ls,0<=y/\y<p.n:=λy hy=>by
   unfold vars at hy;rcases mem_append.1 hy with h1|h1
   ·obtain⟨z,hz,rfl⟩:=mem_map.1 h1
    have:=HH.cv.1 z hz;omega
   exact HF.2 y h1
  have I0:(vars p ls).length<=100:=by
   have h1:=HH.cl.1;have h2:=HH.l0.1;unfold vars;simp;omega
  have J0:Y (E 78 #[F W3.heap.size] W4 (Rw (I (Vz p ls x)) W4)):=
   zez n0 (y0 HF.1 λy hy=>(HF.2 y hy).2) (by omega) H0 I0 HH.cv.2 (by have:=HH.cl.2;omega)
  have K0:=Z n0;have L0:=Z G0
  have b0:Y (check p ls x=match (range x.length).find? (λk=> !Fl.follows p ls x (nth x k)) with
   |some k=>(9,(k:Int))
   |none=>if de 4 x ((x.length:Int) - 1) p.aZ then(0,-1) else(10,-1)):=by
   show _=_;unfold check;rw[U]
   ·rfl
   rintro(h1|h1)
   ·exact h1 HF.1
   obtain⟨y,hy,h2⟩:=any_eq_true.1 h1;have h3:=HF.2 y hy;have h4:=of_decide_eq_true h2;omega
  generalize W3.heap.size=Cb at*;clear n0 G0 m0 H0 I0 E0 F0
  go_wp2_with fail
  refine(J0.out).mono ?_;rintro e W5 ⟨rfl,s0⟩;have M0:=Z s0;have a0:=Z (L0.trans (s0.mono L0.size))
  have o0:Y (Vz p ls x=match (range x.length).find? (λk=> !Fl.follows p ls x (nth x k)) with
   |some k=>(k:Int)
   |none=> -1):=rfl
  clear s0 J0 HV A0 y0 D0 j0 k0 r0
  cases f0:(range x.length).find? (λk=> !Fl.follows p ls x (nth x k)) with
  |some k=>
   have HE:Y (check p ls x=(9,(k:Int))):=(by show _=_;rw[b0.out,f0]);have HK:Y (Vz p ls x=(k:Int)):=(by show _=_;rw[o0.out,f0]);have hk:=mem_range.1 (mem_of_find?_eq_some f0);rw[HK.out];clear f0 b0 o0 HK;have P0:((k:Int) ≥ 0)=True:=(by simp);go_wp2;go_ret;refine⟨?_,.inr (.inr ⟨by rw[HE.out],_,rfl,?_,?_⟩)⟩
   ·exact a0.alloc a0.size _
   ·rw[cell?_alloc_new];rfl
   rw[cell?_alloc_new,HE.out];rfl
  |none=>
   have HE:Y (check p ls x=if de 4 x ((x.length:Int) - 1) p.aZ then(0,-1) else(10,-1)):=(by show _=_;rw[b0.out,f0]);have HK:Y (Vz p ls x= -1):=(by show _=_;rw[o0.out,f0]);rw[HK.out];clear f0 b0 o0 HK
   have HQ:Y (∀W,D W5 W->M W Cb 2 (A na x.length nc)/\M W Pb 4 (A ba p.aZ.length bc)):=λW hW=>by
    have h1:=(K0.below M0).below hW;have h2:=(HH.below a0).below hW;exact⟨h1.c2,h2.p4⟩
   obtain⟨aX,g0⟩:=J (de 4 x ((x.length:Int) - 1) p.aZ);rw[<-g0]at HE
   have t0:Y (∀W,D W5 W->E 79 #[F Cb,I ((x.length:Int) - 1),A ba p.aZ.length bc] W (Rw (.bool aX) W)):=λW hW=>by
    have h1:=(K0.below M0).below hW;have h2:=(HH.below a0).below hW;rw[g0];exact zi1 h2.xo 4 W _ _ _ h1 h2.hS ⟨by have:=c0.1;omega,by have:=c0.1;omega⟩ h2.bs h2.kd
   clear g0;have Q0:0<(x.length:Int)/\(x.length:Int)<=200:=(by omega)
   go_wp2_with fail
   refine Zk HQ (dA) [11] [] [] (by kernel_rfl) (λ_ _ _ _ h=>h) (λops hG=>?_);clear hG
   iterate 11 refine Zv rfl (by intros;go_simp<;>rfl) (by go_simp<;>rfl) ?_
   refine Zm ?_
   go_wp2_with fail
   refine(t0 _ dA).mono ?_;rintro e W6 ⟨rfl,N0⟩;have u0:=Z (dA.trans N0);clear N0
   go_wp2_with fail
   refine⟨HQ _ u0,?_⟩;refine Zv rfl (by intros;go_simp<;>rfl) (by go_simp<;>rfl) ?_;refine Zs ?_
   cases aX with
   |true=>
    go_wp2;go_ret;exact⟨a0.trans (u0.mono a0.size),.inl ⟨by rw[HE.out];rfl,rfl⟩⟩
   |false=>
    go_wp2;go_ret;exact⟨a0.trans (u0.mono a0.size),.inr (.inl ⟨by rw[HE.out];rfl,rfl⟩)⟩
namespace Fl
def kT(h:¬dy s<3):s=[70,80,49]++s.drop 3/\3<=s.length:=by
 unfold dy at h
 cases h0:bN s 0 with
 |false=>rw[G h0]at h;omega
 |true=>
  cases h1:bN s 1 with
  |false=>rw[U (by rw[h0];simp),G h1]at h;omega
  |true=>
   cases h2:bN s 2 with
   |false=>rw[U (by rw[h0];simp),U (by rw[h1];simp),G h2]at h;omega
   |true=>
    simp only[bN,Qk,Qn,beq_iff_eq]at h0 h1 h2
    match s,h2.1 with
    |a::b::c::t,_=>
     have e0:=h0.2;have e1:=h1.2;have e2:=h2.2;simp at e0 e1 e2;subst e0 e1 e2;exact⟨rfl,by simp⟩
def iX(h:(decode s).2.1=true):aH (decode s).1.1 (decode s).1.2=(s,true,-1):=by
 unfold decode at h⊢
 by_cases h0:dy s<3
 ·rw[G h0]at h;simp at h
 rw[U h0]at h⊢;obtain⟨hs,h3⟩:=kT h0;simp only at h⊢;have dt:=cA s 3 h3
 by_cases h1:(num s 3).2.1<0
 ·rw[G h1]at h;simp at h
 rw[U h1]at h⊢;obtain⟨v,a1,a2,a3,a4⟩:=fN h3 (show 0<=(num s 3).2.1 by omega);rw[a3]at dt;rw[a1,a3]at h⊢
 by_cases h2:(4:Int)<(v:Int)
 ·rw[G h2]at h;simp at h
 rw[U h2]at h⊢;simp only[Qm]at h⊢
 by_cases h4:(bW s (3+(aG v).length) v).2.1<0
 ·rw[G h4]at h;simp at h
 rw[U h4]at h⊢;have bB:=ey s (3+(aG v).length) v (by omega);obtain⟨ls,b1,b2,b3,b4,b5⟩:=gN (s:=s) (p:=3+(aG v).length) (n:=v) (by omega) (by omega);rw[b4]at bB;rw[b1,b4]at h⊢;simp only[Qm]at h⊢;have b0:=cA s (3+(aG v).length+(aR ls).length) (by omega)
 by_cases h5:(num s (3+(aG v).length+(aR ls).length)).2.1<0
 ·rw[G h5]at h;simp at h
 rw[U h5]at h⊢;obtain⟨m,c1,c2,c3,c4⟩:=fN (s:=s) (p:=3+(aG v).length+(aR ls).length) (by omega) (by omega);rw[c3]at b0;rw[c1,c3]at h⊢
 by_cases h6:(m:Int)<1\/200<(m:Int)
 ·rw[G h6]at h;simp at h
 rw[U h6]at h⊢;simp only[Qm]at h⊢;generalize hr:bV s m 0 (3+(aG v).length+(aR ls).length+(aG m).length) [] []=r at h⊢
 by_cases h7:0<=r.2.2.2
 ·rw[G h7]at h;simp at h
 rw[U h7]at h⊢;obtain⟨ns,d1,d2,d3,d4⟩:=jh s m 0 (3+(aG v).length+(aR ls).length+(aG m).length) [] [] (by omega) (by rw[hr];omega);rw[hr]at d1 d3;rw[nil_append]at d1;rw[d1,d3]at h⊢
 by_cases h8:((3+(aG v).length+(aR ls).length+(aG m).length+(bj ns).length:Nat):Int)<(s.length:Int)
 ·rw[G h8]at h;simp at h
 rw[U h8]at h⊢
 by_cases h9:0<=aJ ns
 ·rw[G h9]at h;simp at h
 rw[U h9];simp only;unfold aH;rw[U (by omega),U (by rw[b3];simp),U h9];have a0:s.drop (3+(aG v).length+(aR ls).length+(aG m).length+(bj ns).length)=[]:=drop_eq_nil_of_le (by omega);have:dF ls ns++bj ns=s:=by
  conv=>rhs;rw[hs,a4,b5,c4,d4,a0]
  unfold dF;rw[b2,d2];simp[append_assoc]
 rw[this]
end Fl
structure zy5(ls:Is)(x:List ar):Prop where
 l0:ls.length<=4/\∀y∈ls,0<=y
 x0:0<x.length/\x.length<=200
 ok:∀k,k<x.length->dP x k=false
def yz5(h:(Fl.decode s).2.1=true):zy5 (Fl.decode s).1.1 (Fl.decode s).1.2:=by
 have h1:=Fl.iX h;generalize (Fl.decode s).1.1=ls at h1⊢;generalize (Fl.decode s).1.2=x at h1⊢;unfold Fl.aH at h1
 split at h1
 ·simp at h1
 rename_i h2
 split at h1
 ·simp at h1
 rename_i h3
 split at h1
 ·simp at h1
 rename_i h4;refine⟨⟨by omega,λy hy=>?_⟩,by omega,λk hk=>?_⟩
 ·have h5:ls.all cf=true:=by simpa using h3
  have h6:=all_eq_true.1 h5 y hy;simp only[cf,Qk,Qn]at h6;exact h6.1
 cases hb:dP x k with
 |false=>rfl
 |true=>
  exfalso
  refine h4 ?_;unfold Fl.aJ
  cases hf:(range x.length).find? (dP x) with
  |some j=>exact Int.natCast_nonneg j
  |none=>
   have h7:=find?_eq_none.1 hf k (mem_range.2 hk);exact absurd hb h7
def ztx{x:List ar}(h:dP x k=false):bT (nth x k)=true/\∀q∈prem (nth x k),q<(k:Int):=by
 unfold dP at h;simp only[Bool.or_eq_false_iff,Bool.not_eq_false']at h;refine⟨by simpa using h.1,λq hq=>?_⟩;have h2:=any_eq_false.1 h.2.1 q hq;simpa using h2
def zg1{n:ar}(h:bT n=true):(0<=n.kind/\n.kind<=7)/\0<=n.ak/\0<=n.a/\0<=n.b/\0<=n.c/\(∀y∈n.ae,0<=y)/\n.ae.length<=16:=by
 simp only[bT,dM,cf,Qk,Qn,all_eq_true]at h;obtain⟨h1,h2,h3,h4,h5,h6,h7,h8⟩:=h;refine⟨?_,h2.1,h4.1.1,h5.1.1,h6.1.1,λy hy=>(h7 y hy).1,h3⟩;refine Classical.byContradiction λhn=>h1 ?_;unfold aP;rw[U (by omega),U (by omega),U (by omega),U (by omega)]
def zy5.idx{x:List ar}(h:zy5 ls x)(hk:k<x.length){q:Int}(hq:q∈prem (nth x k))(h0:0<=q):zz7 x q/\q.toNat<k:=by
 have h1:=(ztx (h.ok k hk)).2 q hq;exact⟨⟨h0,by omega⟩,by omega⟩
def zy5.oq{x:List ar}(h:zy5 ls x):XOk x:=by
 refine⟨λk hk h2=>?_,λk hk h3=>?_,λk hk h5=>?_,λk hk h6=>?_,λk hk h7 j hj=>?_⟩
 all_goals obtain⟨-,-,s1,s2,s3,s4,-⟩:=zg1 (ztx (h.ok k hk)).1
 ·exact⟨(h.idx hk (by simp[prem,h2]) s2).1,(h.idx hk (by simp[prem,h2]) s3).1⟩
 ·exact(h.idx hk (by rcases h3 with h3|h3<;>simp[prem,h3]) s2).1
 ·exact⟨(h.idx hk (by rcases h5 with h5|h5<;>simp[prem,h5]) s1).1,(h.idx hk (by rcases h5 with h5|h5<;>simp[prem,h5]) s2).1⟩
 ·exact(h.idx hk (by simp[prem,h6]) s3).1
 exact(h.idx hk (by simp[prem,h7,hj]) (s4 j hj)).1
def zy5.nZ{p:aY}{x:List ar}(h:zy5 ls x)(k:Nat)(hk:k<x.length)(ha:∀j,j<k->follows p ls x (nth x j)=true):zt1 p x (nth x k):=by
 obtain⟨s0,sl,s1,s2,s3,s4,s5⟩:=zg1 (ztx (h.ok k hk)).1
 have hP:∀q,q∈prem (nth x k)->0<=q->POk p x q:=λq hq h0=>by
  obtain⟨h1,h2⟩:=h.idx hk hq h0;have h3:=ha q.toNat h2;obtain⟨t0,tl,-⟩:=zg1 (ztx (h.ok q.toNat h1.2)).1;simp only[follows,Qk,Qn]at h3;exact⟨h0,h1.2,tl,h3.1,t0⟩
 refine⟨s0,sl,λ_=>s1,λh2=>?_,λh3=>⟨s1,?_⟩,λh5=>?_,λh6=>?_,λh7=>⟨λj hj=>?_,by omega⟩⟩
 ·exact⟨hP _ (by simp[prem,h2]) s2,hP _ (by simp[prem,h2]) s3⟩
 ·exact hP _ (by rcases h3 with h3|h3<;>simp[prem,h3]) s2
 ·exact⟨hP _ (by rcases h5 with h5|h5<;>simp[prem,h5]) s1,hP _ (by rcases h5 with h5|h5<;>simp[prem,h5]) s2⟩
 ·exact hP _ (by simp[prem,h6]) s3
 exact hP _ (by simp[prem,h7,hj]) (s4 j hj)
def zny{nv nc:Nat}:∀(d:Nat) (l:List aa),aM nv nc d l->Ji d l
 |0,_,_=>trivial
 |d+1,l,h=>λi hi=>by
  have hm:l.getD i noS∈l:=by
   rw[Qa,Qb hi];exact getElem_mem hi
  obtain⟨h1,-,h3,h4⟩:=h _ hm;refine⟨?_,zny d _ h3,zny d _ h4⟩;rcases h1 with h1|h1|h1|h1
  ·exact .inl h1.1
  ·exact .inr (.inl h1.1)
  ·exact .inr (.inr (.inl h1))
  exact .inr (.inr (.inr h1.1))
def ytw{x:List ar}{nv:Value}{la:Option Addr}{ll lcp:Nat}(hx:XOk x):∀(d:Nat) (w:World),Zl w.heap.size w nv x->∀(k:Int),zz7 x k->∀(v:Value) (l:List aa),Zh d (λb=>b<w.heap.size) w v l->Ji d l->
  E 39 #[.agg #[A la ll lcp,nv],I k,v] w (Rw (.bool (de d x k l)) w)
 |0,w,h,k,hk,v,l,hv,_=>by
  obtain⟨rfl,rfl⟩:=hv;obtain⟨j,rfl⟩:∃j:Nat,k=(j:Int):=⟨k.toNat,by have:=hk.1;omega⟩;refine(yz4 hx h (λ_ _=>true) j (by have:=hk.2;omega) [] none 0 lE (by simp) (λi hi=>by simp at hi)).mono ?_;rintro e w' ⟨rfl,hb⟩;refine⟨?_,hb⟩;unfold de nd;rw[Qm]
  congr 3
  by_cases hl:(nth x j).ae=[]
  ·simp[hl]
  have:(nth x j).ae.length≠0:=λh=>hl (Qi h);simp[hl,this]
 |d+1,w,h,k,hk,v,l,hv,hkd=>by
  obtain⟨ao,cap,rfl,h1,-,f0,c0⟩:=hv;obtain⟨j,rfl⟩:∃j:Nat,k=(j:Int):=⟨k.toNat,by have:=hk.1;omega⟩;refine(yz4 hx h (de d x) j (by have:=hk.2;omega) l ao cap h1 f0 (λi hi=>?_)).mono ?_
  ·obtain⟨sb,e,a0,hc⟩:=c0 (by rintro rfl;simp at hi)
   obtain⟨bv,ov,b0,d0,e0⟩:=hc i hi;obtain⟨k1,k2,k3⟩:=hkd i hi;obtain⟨ba,bn,bc,e2⟩:=d0.slice;obtain⟨oa,on,oc,e3⟩:=e0.slice;have hC:∀(v:Value) (q:List aa),Zh d (λb=>b<w.heap.size) w v q->Ji d q->zk4 w x (.agg #[A la ll lcp,nv]) v (λk=>de d x k q):=λv q h3 h4 W hW k hk=>ytw hx d W ((h.below hW).mono hW.size) k hk v q (h3.kept (λb hb=>Qj hb hW.size) (λb hb=>hW.block b hb) d _ _) h4;have hb:=hC bv _ d0 k2;have ho:=hC ov _ e0 k3;subst e2 e3;exact⟨sb,ba,bn,bc,oa,on,oc,e,⟨⟨a0,b0 0 (by omega)⟩,⟨a0,b0 1 (by omega)⟩,⟨a0,b0 2 (by omega)⟩,⟨a0,b0 3 (by omega)⟩,⟨a0,b0 4 (by omega)⟩,⟨a0,b0 5 (by omega)⟩,⟨a0,b0 6 (by omega)⟩,⟨a0,b0 7 (by omega)⟩,⟨a0,b0 8 (by omega)⟩,⟨a0,b0 9 (by omega)⟩,trivial⟩,k1,hb,ho⟩
  rintro e w' ⟨rfl,hb⟩;refine⟨?_,hb⟩;unfold de nd;rw[Qm]
def zy5.small{x:List ar}(h:zy5 ls x)(k:Nat)(hk:k<x.length):(nth x k).a<2147483648:=by
 have h1:=(ztx (h.ok k hk)).1;simp only[bT,dM,cf,Qk,Qn]at h1;exact h1.2.2.2.1.1.2
def yj3{nv:Value}{p:aY}{x:List ar}(h:zz6 w Pb Lq rb aB hv bv lv nv p ls x)(hd:zy5 ls x)(H0:Ji 4 p.aZ)(I0:∀y∈p.cells,y<p.n)(J0:∀y∈p.ai,y<p.n)(bB:p.ap<=4):
  E 17 #[F Pb,.agg #[lv,nv]] w (Rw (.tuple #[I (check p ls x).1,I (check p ls x).2]) w):=by
 obtain⟨b,off,cap,rfl,-⟩:=zv6 h.no hd.x0.1;obtain⟨la,lcp,rfl,v0,-,K0⟩:=h.li;obtain⟨va,vn,vc,R0⟩:=h.bs.slice
 have L0:Y (∀W,D w W->(∀y∈ls,y<(p.n:Int))->∀k,k<x.length->(∀j,j<k->follows p ls x (nth x j)=true)->E 38 #[F Pb,.agg #[A la ls.length lcp,Sq b off x.length cap],I k] W (Rw (.bool (follows p ls x (nth x k))) W)):=λW hW r0 k hk ha=>by
  refine yty (h.below hW) k hk (hd.nZ k hk ha) (λy hy=>?_) J0 (hd.small k hk);unfold vars at hy;rcases mem_append.1 hy with h1|h1
  ·obtain⟨z,hz,rfl⟩:=mem_map.1 h1
   have:=I0 z hz;omega
  exact⟨hd.l0.2 y h1,r0 y h1⟩
 have y0:Y (∀W,D w W->E 39 #[.agg #[A la ls.length lcp,Sq b off x.length cap],I ((x.length:Int) - 1),bv] W (Rw (.bool (de 4 x ((x.length:Int) - 1) p.aZ)) W)):=λW hW=>by
  have h1:=h.below hW;exact ytw hd.oq 4 W h1.no _ ⟨by have:=hd.x0.1;omega,by have:=hd.x0.1;omega⟩ bv p.aZ h1.bs H0
 have hz:=h.hz;have p0:=h.p0;have p4:=h.p4;have p5:=h.p5
 have d1:(ls.length:Int)<=4:=by have:=hd.l0.1;omega
 have e1:(x.length:Int)<=200:=by have:=hd.x0.2;omega
 have g1:(0:Int)<(x.length:Int):=by have:=hd.x0.1;omega
 have i1:(p.ap:Int)<=4:=by omega
 have z0:Y (∀i,i<ls.length->∃cb co,la=some (O cb co)/\cb<w.heap.size/\M w cb (co+i) (I (ls.getD i 0))):=λi hi=>by
  obtain⟨cb,co,e,e2,e3⟩:=K0 (by rintro rfl;simp at hi);exact⟨cb,co,e,e2,e3 i hi⟩
 have S0:(ls.length:Int)<=(lcp:Int):=by omega
 have A0:Y (ls.length≠p.ap->check p ls x=(10,-1)):=λhh=>by unfold check;rw[G (.inl hh)]
 have s0:Y (∀i,i<ls.length->(p.n:Int)<=ls.getD i 0->check p ls x=(10,-1)):=λi hi hh=>by
  have ha:(ls.any λv=>decide ((p.n:Int)<=v))=true:=by
   rw[any_eq_true];refine⟨ls[i],getElem_mem hi,?_⟩;rw[Qa,Qb hi]at hh;simpa using hh
  unfold check;rw[G (.inr ha)]
 have B0:Y (ls.length=p.ap->(∀i,i<ls.length->ls.getD i 0<(p.n:Int))->(∀y∈ls,y<(p.n:Int))/\check p ls x=match (range x.length).find? (λk=> !Fl.follows p ls x (nth x k)) with|some k=>(9,(k:Int))|none=>if de 4 x ((x.length:Int) - 1) p.aZ then(0,-1) else(10,-1)):=λh1 h2=>by
  have h3:∀y∈ls,y<(p.n:Int):=λy hy=>by
   obtain⟨i,hi,rfl⟩:=getElem_of_mem hy;have:=h2 i hi;rw[Qa,Qb hi]at this;exact this
  refine⟨h3,?_⟩;have hn:¬(ls.length≠p.ap\/(ls.any λv=>decide ((p.n:Int)<=v))=true):=by
   rintro(h4|h4)
   ·exact h4 h1
   obtain⟨y,hy,h5⟩:=any_eq_true.1 h4;have:=h3 y hy;simp at h5;omega
  show (if _ then _ else _)=_;rw[U hn];rfl
 obtain⟨aX,m0⟩:=J (check p ls x);rw[<-m0]at A0 s0 B0⊢;subst R0;have C0:=Z p0;have D0:=Z p5;clear h hd H0 I0 J0 bB K0 v0 m0;have E0:Y (∀o,D w (w.alloc o).drew):=λo=>(bA).drew
 go_enter func17,ntmps17
 go_wp2_with fail
 by_cases t0:ls.length=p.ap
 rotate_left
 ·have bl:((ls.length:Int) !=(p.ap:Int))=true:=by rw[bne_iff_ne];omega
  have HR:=Z (A0 t0);clear t0 C0 D0;refine Zf [] (by kernel_rfl) (by kernel_rfl) rfl (λops hG=>?_);clear hG
  iterate 8 still_step
  refine wpStill_nil ?_;go_wp2;refine bodyPost_ret (v:=.tuple #[I 10,I (-1)]) (by simp[results,results17,go_sem]) rfl ?_;rw[HR.out];exact⟨rfl,E0 _⟩
 have bl:((ls.length:Int) !=(p.ap:Int))=false:=by simp;omega
 have F0:Y _:=B0 t0;clear t0;refine Zf [] (by kernel_rfl) (by kernel_rfl) rfl (λops hG=>?_);clear hG
 iterate 8 still_step
 refine wpStill_nil ?_
 go_wp2_with fail
 obtain⟨W0,e0⟩:=J ((w.alloc (.cells #[A la ls.length lcp,Sq b off x.length cap] 30)).drew)
 have j0:Y (D w W0):=by show Below _ _ _;rw[e0];exact E0 _
 have M0:Y (At W0 [((O w.heap.size 0),A la ls.length lcp),((O w.heap.size 1),Sq b off x.length cap),((O Pb 0),I (p.n:Int)),((O Pb 5),A va vn vc)]):=⟨⟨by rw[e0];simp,by rw[e0];simp⟩,⟨by rw[e0];simp,by rw[e0];simp⟩,⟨by have:=j0.size;show Pb<_;omega,cT j0 hz C0⟩,⟨by have:=j0.size;show Pb<_;omega,cT j0 hz D0⟩,trivial⟩;rw[<-e0];clear e0 E0 p0 p4 p5 C0 D0 A0 B0 bl hz
 go_loopw [6] (λi wr=>D w wr/\At wr [((O w.heap.size 0),A la ls.length lcp),((O w.heap.size 1),Sq b off x.length cap),((O Pb 0),I (p.n:Int)),((O Pb 5),A va vn vc)]/\∃j:Nat,j<=ls.length/\i=I j/\∀q,q<j->ls.getD q 0<(p.n:Int)) (λi _=>ls.length - (intOf i).toNat)
 case atStart=>exact⟨j0,M0,0,by omega,rfl,λq hq=>by omega⟩
 case round=>
  obtain⟨hB,n0,i,hi,rfl,aT⟩:=hrel;have HB:=Z hB;have k0:=Z n0;have a0:=Z aT;clear hB n0 aT j0 M0
  by_cases o0:i<ls.length
  ·obtain⟨cb,co,rfl,T0,k1⟩:=z0 i o0
   have U0:(i:Int)<(ls.length:Int):=(by omega);obtain⟨⟨-,f0⟩,-,⟨-,f2⟩,-⟩:=k0.out;have k2:=cT HB T0 k1;obtain⟨y,hy⟩:=J (ls.getD i 0);have V0:Y ((p.n:Int)<=y->aX=(10,-1)):=λhh=>s0 i o0 (by rw[<-hy];exact hh)
   have u0:Y (y<(p.n:Int)->∀q,q<i+1->ls.getD q 0<(p.n:Int)):=λh0 q hq=>by
    by_cases X0:q=i
    ·rw[X0,<-hy];exact h0
    exact a0 q (by omega)
   rw[<-hy]at k2;have Y0:Y (At wr.drew _):=k0.below dA;clear k1 hy a0 F0 k0 z0 s0
   go_wp2_with fail
   by_cases Z0:y<(p.n:Int)
   ·have HR:Y _:=u0 Z0
    refine Zf [] (by kernel_rfl) (by kernel_rfl) rfl (λops hG=>?_);clear hG
    iterate 10 still_step
    refine wpStill_nil ?_;go_wp2
    go_roundw
    case rel=>exact⟨HB.drew,Y0,i+1,by omega,by go_num,HR⟩
    case measure=>simp[intOf];omega
   have HR:Y (aX=(10,-1)):=V0 (by omega);refine Zf [] (by kernel_rfl) (by kernel_rfl) rfl (λops hG=>?_);clear hG
   iterate 10 still_step
   refine wpStill_nil ?_;go_wp2;refine bodyPost_ret (v:=.tuple #[I 10,I (-1)]) (by simp[results,results17,go_sem]) rfl ?_;rw[HR.out];exact⟨rfl,HB.drew⟩
  have U0:¬(i:Int)<(ls.length:Int):=(by omega);obtain⟨r0,hE⟩:=F0.out λq hq=>a0 q (by omega);have N0:=Z r0
  have b0:Y (∀k,k<x.length->(∀j,j<k->follows p ls x (nth x j)=true)->follows p ls x (nth x k)=false->aX=(9,(k:Int))):=λk hk ha h0=>by
   rw[hE,cI _ _ k (λj hj=>by rw[ha j hj];rfl) hk (by rw[h0];rfl)]
  have d0:Y ((∀j,j<x.length->follows p ls x (nth x j)=true)->aX=if de 4 x ((x.length:Int) - 1) p.aZ then(0,-1) else(10,-1)):=λha=>by
   rw[hE,dh _ _ (λj hj=>by rw[ha j hj];rfl)]
  obtain⟨⟨-,f0⟩,⟨-,f1⟩,-⟩:=k0.out;clear r0 hE F0 a0 s0 z0
  go_wp2_with fail
  obtain⟨wo,a1⟩:=J (wr);subst a1
  go_loopw [7] (λi wr=>D w wr/\At wr [((O w.heap.size 0),A la ls.length lcp),((O w.heap.size 1),Sq b off x.length cap),((O Pb 0),I (p.n:Int)),((O Pb 5),A va vn vc)]/\∃j:Nat,j<=x.length/\i=I j/\∀q,q<j->follows p ls x (nth x q)=true) (λi _=>x.length - (intOf i).toNat)
  case atStart=>exact⟨HB,k0,0,by omega,rfl,λq hq=>by omega⟩
  case round=>
   obtain⟨hB,n0,k,hk,rfl,aT⟩:=hrel;have g0:=Z hB;have c0:=Z n0;have a0:=Z aT;clear hB n0 aT HB k0 f0 f1;obtain⟨⟨-,f0⟩,⟨-,f1⟩,-⟩:=c0.out
   by_cases o0:k<x.length
   ·have b1:(k:Int)<(x.length:Int):=by omega
    have HC:=Z (L0 wr g0 N0 k o0 a0.out);have O0:Y (follows p ls x (nth x k)=false->aX=(9,(k:Int))):=λh0=>b0 k o0 a0 h0
    have u0:Y (follows p ls x (nth x k)=true->∀q,q<k+1->follows p ls x (nth x q)=true):=λh0 q hq=>by
     by_cases c1:q=k
     ·rw[c1];exact h0
     exact a0 q (by omega)
    generalize follows p ls x (nth x k)=fk at HC O0 u0
    go_wp2_with fail
    refine HC.mono ?_;rintro e w1 ⟨rfl,i0⟩;have q0:=Z (g0.trans (i0.mono g0.size));have G0:=Z (c0.below i0);clear i0 HC f0 f1
    cases fk
    ·have HR:=Z (O0 rfl)
     go_wp2;refine bodyPost_ret (v:=.tuple #[I 9,I (k:Int)]) (by simp[results,results17,go_sem]) rfl ?_;rw[HR.out];exact⟨rfl,q0⟩
    have HR:=u0 rfl;go_wp2
    go_roundw
    case rel=>exact⟨q0,G0,k+1,by omega,by go_num,HR⟩
    case measure=>simp[intOf];omega
   have b1:¬(k:Int)<(x.length:Int):=(by omega);have hE:=d0.out λj hj=>a0 j (by omega);obtain⟨sm,P0⟩:∃v,v=de 4 x ((x.length:Int) - 1) p.aZ:=⟨_,rfl⟩;rw[<-P0]at hE y0;have Q0:=Z hE;have HS:Y (∀W,D wr W->At W [((O w.heap.size 0),A la ls.length lcp),((O w.heap.size 1),Sq b off x.length cap),((O Pb 0),I (p.n:Int)),((O Pb 5),A va vn vc)]):=λW hW=>c0.below hW;clear hE P0 b0 d0 a0 L0 N0 c0
   go_wp2_with fail
   refine Zk HS (dA) [9] [] [] (by kernel_rfl) (λ_ _ _ _ h=>h) (λops hG=>?_);clear hG f0 f1
   iterate 9 refine Zv rfl (by rintro _ ⟨⟨-,_⟩,⟨-,_⟩,⟨-,_⟩,⟨-,_⟩,-⟩;go_simp<;>rfl) (by go_simp<;>rfl) ?_
   refine Zm ?_
   go_wp2_with fail
   refine(y0 _ g0.drew).mono ?_;rintro e w1 ⟨rfl,i0⟩;have q0:=Z (g0.trans ((show D wr w1 from(dA).trans i0).mono g0.size));have G0:=Z (HS _ ((dA).trans i0));clear i0 y0 g0 HS
   go_wp2_with fail
   refine⟨G0,?_⟩;refine Zv rfl (by rintro _ -;go_simp<;>rfl) (by go_simp<;>rfl) ?_;refine Zs ?_
   cases sm
   ·have HR:=Z Q0.out
    go_wp2;refine bodyPost_ret (v:=.tuple #[I 10,I (-1)]) (by simp[results,results17,go_sem]) rfl ?_;rw[HR.out];exact⟨rfl,q0⟩
   have HR:=Z Q0.out;go_wp2;refine bodyPost_ret (v:=.tuple #[I 0,I (-1)]) (by simp[results,results17,go_sem]) rfl ?_;rw[HR.out];exact⟨rfl,q0⟩
end
def Fl.checked(q:Nat×Nat×aY)(d:(Is×List ar)×Bool×Int):Nat×Int:=
 if q.1≠0 then(q.1,(q.2.1:Int)) else if d.2.1=false then(8,d.2.2) else check q.2.2 d.1.1 d.1.2
open Go.RowKit
def Fl.jg(p:aY)(ls:Is)(x:List ar):((check p ls x).1=0->check p ls x=(0,-1))/\((check p ls x).1=10->check p ls x=(10,-1)):=by
 unfold check
 split
 ·exact⟨λh=>by simp at h,λ_=>rfl⟩
 split
 ·exact⟨λh=>by simp at h,λh=>by simp at h⟩
 split
 ·exact⟨λ_=>rfl,λh=>by simp at h⟩
 exact⟨λh=>by simp at h,λ_=>rfl⟩
def zu3.nH{p:aY}{nv:Value}{x:List ar}(h:zu3 (λb=>b<w.heap.size) w Pb p)(ho:p.Ok)(hv:p.n<=6/\(∀y∈p.cells,y<p.n)/\∀y∈p.ai,y<p.n)(hd:zy5 ls x)(hl:Zw w.heap.size w lv ls)(hn:Zl w.heap.size w nv x):
  ∃Lb aB hv bv,CpIn w Pb Lb aB hv bv lv nv p (λb=>b<w.heap.size) ls x:=by
 obtain⟨Lb,aB,cS,bv,h1,h2,h3,h4,h5,h6,h7⟩:=h;exact⟨Lb,aB,cS,bv,{hz:=⟨h1,h2⟩,p0:=h3.c 0 (by omega),p1:=h3.c 1 (by omega),p2:=h3.c 2 (by omega),p3:=h3.c 3 (by omega),p4:=h3.c 4 (by omega),la:=h4,ci:=h5.ints (λb hb=>hb),hi:=h6.ints (λb hb=>hb),bs:=h7,hS:=λb hb=>hb,li:=hl,no:=hn,n6:=hv.1,cl:=⟨ho.ce,ho.ch⟩,cv:=hv.2,kd:=zny 4 _ ho.aZ,l0:=hd.l0,x0:=hd.x0,xo:=hd.oq}⟩
def ye0(r:(Is×List ar)×Bool×Int)(w:World)(e:Ending)(w':World):Prop:=
 D w w'/\
 (r.2.1=false->∃q,e=.returned (.tuple #[.agg #[K,K],.iface 124 (F q)])/\w'.cell? (O q 0)=some (I 8)/\w'.cell? (O q 1)=some (I r.2.2))/\
 (r.2.1=true->∃la n lc na n' nc,e=.returned (.tuple #[.agg #[A la n lc,A na n' nc],.nilIface])/\Zw w'.heap.size w' (A la n lc) r.1.1/\Zl w'.heap.size w' (A na n' nc) r.1.2)
def FcEnds(aX:Nat×Int)(w:World)(e:Ending)(w':World):Prop:=
 D w w'/\((aX=(0,-1)/\e=.returned .nilIface)\/(aX=(10,-1)/\e=.returned (.iface 23 (I 10)))\/∃a,e=.returned (.iface 124 (F a))/\w'.cell? (O a 0)=some (I aX.1)/\w'.cell? (O a 1)=some (I aX.2))
def yp0(hl:l.length<=100000)(hg:1<w.heap.size)(hm:Xw w)(c0:∀w1:World,D w w1->E 57 #[A ao s.length cap] w1 (ye0 (Fl.decode s) w1)):
  E 34 #[Tq l,A ao s.length cap] w (FcEnds (checked (ab l) (Fl.decode s)) w):=by
 have j0:=Z (yg1 hl hg hm);have g0:=Z c0;have k0:Y ((ab l).1=0->(ab l).2.2.Ok):=λh=>(fT l h).1;have l0:=Z (fO l);have m0:Y ((Fl.decode s).2.1=true->zy5 (Fl.decode s).1.1 (Fl.decode s).1.2):=yz5;obtain⟨q,hq⟩:=J (ab l);obtain⟨d,hd⟩:=J (Fl.decode s);rw[<-hq]at j0 k0 l0⊢;rw[<-hd]at g0 m0⊢;clear hq hd hl hg hm c0
 go_enter func34,ntmps34
 go_wp2_with fail
 refine j0.mono ?_;rintro e w1 ⟨p0,d0⟩;have i0:=Z p0;clear p0 j0;rcases d0 with⟨h0,Pb,rfl,hp⟩|⟨h0,a,rfl,a0,a1⟩
 ·have HP:=Z (hp.kept (λb hb=>hb.2) (λ_ _=>rfl))
  have H0:=Z h0;clear hp h0
  go_wp2_with fail
  refine(g0 _ i0).mono ?_;rintro e w2 ⟨n0,b0,aS⟩;have q0:=Z n0;have e0:=Z (i0.trans (n0.mono i0.size));clear n0
  cases hr:d.2.1 with
  |false=>
   obtain⟨a,rfl,a0,a1⟩:=b0 hr;have HE:Y (checked q d=(8,d.2.2)):=(by show _=_;unfold Fl.checked;rw[U (by rw[H0.out];simp),G hr]);have ha:=Qe w2 _ a0;have A0:=Z a0;have A1:=Z a1;clear b0 aS hr a0 a1
   go_wp2_with fail
   go_ret;refine⟨e0.alloc e0.size _,.inr (.inr ⟨a,rfl,?_,?_⟩)⟩
   ·rw[HE.out];exact(Qf _ _ _ ha).trans A0.out
   rw[HE.out];exact(Qf _ _ _ ha).trans A1.out
  |true=>
   obtain⟨la,n,lc,na,n',nc,rfl,hi,hn⟩:=aS hr;have HE:Y (checked q d=check q.2.2 d.1.1 d.1.2):=(by show _=_;unfold Fl.checked;rw[U (by rw[H0.out];simp),U (by rw[hr];simp)])
   have r0:Y (∀W,D w2 W->E 58 #[F Pb,.agg #[A la n lc,A na n' nc]] W (yf0 (check q.2.2 d.1.1 d.1.2) W)):=λW hW=>by
    have s0:=m0 hr;have hw:=q0.trans (hW.mono q0.size);have u0:=HP.kept (λb hb=>Qj hb hw.size) (λb hb=>hw.block b hb);obtain⟨Lb,aB,hv,bv,v0⟩:=u0.nH (k0 H0) l0 s0 ((hi.below hW).mono hW.size) ((hn.below hW).mono hW.size);exact yj2 v0 (λ_ _=>s0.nZ)
   clear b0 aS hr hi hn m0 g0 HP k0 l0
   go_wp2_with fail
   refine(r0 _ (bA)).mono ?_;rintro e w3 ⟨t0,hc⟩;have o0:=Z ((e0.alloc e0.size _).trans (t0.mono (by have:=e0.size;simp;omega)));have f0:Y (((check q.2.2 d.1.1 d.1.2).1=0->check q.2.2 d.1.1 d.1.2=(0,-1))/\((check q.2.2 d.1.1 d.1.2).1=10->check q.2.2 d.1.1 d.1.2=(10,-1))):=jg _ _ _;clear t0 r0;rcases hc with⟨h0,rfl⟩|⟨h0,rfl⟩|⟨h0,a,rfl,a0,a1⟩
   ·have HZ:=Z (HE.trans (f0.1 h0))
    clear h0 HE f0;go_wp2;go_ret;exact⟨o0,.inl ⟨HZ,rfl⟩⟩
   ·have HZ:=Z (HE.trans (f0.2 h0))
    clear h0 HE f0;go_wp2;go_ret;exact⟨o0,.inr (.inl ⟨HZ,rfl⟩)⟩
   have A0:Y (M w3 a 0 (I (checked q d).1)):=(by show _=_;rw[HE.out,h0];exact a0);have A1:Y (M w3 a 1 (I (checked q d).2)):=(by show _=_;rw[HE.out];exact a1);clear h0 a0 a1 HE f0;go_wp2;go_ret;exact⟨o0,.inr (.inr ⟨a,rfl,A0,A1⟩)⟩
 have HE:Y (checked q d=(q.1,(q.2.1:Int))):=by show _=_;unfold Fl.checked;rw[G h0]
 clear h0 g0;go_wp2;go_ret;refine⟨i0,.inr (.inr ⟨a,rfl,?_,?_⟩)⟩
 ·rw[HE.out];exact a0
 rw[HE.out];exact a1
def yp1(hE:Vd w)(hl:l.length<=100000)(hg:1<w.heap.size)(hm:Xw w)(c0:∀w1:World,D w w1->E 57 #[A ao s.length cap] w1 (ye0 (Fl.decode s) w1)):
  E 15 #[Tq l,A ao s.length cap] w (Rw (.tuple #[I (checked (ab l) (Fl.decode s)).1,I (checked (ab l) (Fl.decode s)).2]) w):=by
 have HC:=Z (yp0 hl hg hm c0);have f0:Y (∀o,D w o->Vd o):=λo ho=>(ho.cell (Qe w _ hE)).trans hE;obtain⟨aX,d0⟩:=J (checked (ab l) (Fl.decode s));rw[<-d0]at HC⊢;clear hl hg hm c0 hE d0
 go_enter func15,ntmps15
 go_wp2_with fail
 refine HC.mono ?_;rintro e w1 ⟨hB,hc⟩;have HB:=Z hB;clear hB HC;rcases hc with⟨rfl,rfl⟩|⟨rfl,rfl⟩|⟨a,rfl,a0,a1⟩
 ·go_wp2_with fail
  refine(ycv _).mono ?_;rintro e w2 ⟨rfl,b0⟩;have e0:=Z (HB.trans (b0.mono HB.size));clear b0;go_wp2
  go_ret2
  exact⟨rfl,e0⟩
 ·go_wp2_with fail
  refine(ze7 10 _ (f0 _ HB)).mono ?_;rintro e w2 ⟨rfl,b0⟩;have e0:=Z (HB.trans (b0.mono HB.size));clear b0;go_wp2
  go_ret2
  exact⟨rfl,e0⟩
 obtain⟨n,p⟩:=aX;have A0:=Z a0;have A1:=Z a1;clear a0 a1
 go_wp2_with fail
 refine(yo4 a 0 (n:Int) p _ (f0 _ HB) A0 A1).mono ?_;rintro e w2 ⟨rfl,b0⟩;have e0:=Z (HB.trans (b0.mono HB.size));clear b0;go_wp2
 go_ret2
 exact⟨rfl,e0⟩
end Go.Proofs.YtgmbnnpnefniiaaGreatDoor
