import Derived.Test.YtgmbnnpnefniiaaGreatDoorM15
set_option linter.all false
set_option maxRecDepth 100000
set_option maxHeartbeats 40000000
namespace Go.Proofs.YtgmbnnpnefniiaaGreatDoor
open Go.RowKit Go.Proofs.Tryz List Region Value Act Fl
variable{w W:World}{Pb Lq Cb Lb Rl d:Nat}{rb:Nat->Nat}{aB hv bv lv vv v:Value}{p:aY}{ls vs:Is}{x:List ar}{S:Nat->Prop}
section
variable{nv:Value}
def yt9(h:zz6 w Pb Lq rb aB hv bv lv nv p ls x)(k:Nat)(hk:k<x.length)(ho:zt1 p x (nth x k))(z0:∀y∈vars p ls,0<=y/\y<p.n)(J0:∀y∈p.ai,y<p.n)(b0:(nth x k).ak<p.n)(A0:(nth x k).a<2147483648)(e0:(nth x k).kind=3):
  E 38 #[F Pb,.agg #[lv,nv],I k] w (Rw (.bool (follows p ls x (nth x k))) w):=by
 have B0:Y (∀W,D w W->∀v:Nat,(v:Int)<2147483648->E 43 #[F Pb,.agg #[lv,nv],I v] W (Rw (I (Ui p ls v)) W)):=λW hW v hv2=>zey (h.below hW) v hv2;obtain⟨b,off,cap,lvl,la,ln,lcp,lc,hf⟩:=h.fw k hk ho.lv b0;obtain⟨rfl,rfl,hz,⟨m0,i0,R0⟩,⟨hbz,c0,c1,c2,c3,c4,c5,K0⟩,C0,L0,D0⟩:=hf;have p0:=h.p0;have p1:=h.p1;have q1:=h.lq.c lvl m0
 have S0:(p.n:Int)<=6:=by have:=h.n6;omega
 have T0:(k:Int)<(x.length:Int):=by omega
 rw[<-i0]at c1;have M0:=D0 lvl m0;obtain⟨N0,E0⟩:=ho.k3 (.inl e0);obtain⟨B,lB,lnB,lcB,eB,hB,U0,eNB,eLB,V0,O0,⟨-,d0,d1,d2,d3,d4,d5,-⟩,dq,dr,dz⟩:=h.cd C0 E0;obtain⟨an,f0⟩:∃an:Nat,(an:Int)=(nth x k).a:=⟨(nth x k).a.toNat,by omega⟩;obtain⟨Wz,hL⟩:=J (vars p ls)
 have F0:∀y∈Wz,0<=y/\y<p.n:=by rw[hL];exact z0
 have HE:Y (follows p ls x (nth x k)=(decide (an<Wz.length) && (decide ((nth x B).kind<=2) && (p.leq lB (Wz.getD an 0).toNat && p.leq lvl (Wz.getD an 0).toNat)))):=by
  show _=_;unfold follows bP eu;rw[decide_eq_true b0,U (by omega),U (by omega),U (by omega),G e0,eNB,zrx,eLB,<-f0,<-i0,<-hL];unfold aO;simp
 have n0:Y (an<Wz.length->∃y:Nat,Wz.getD an 0=(y:Int)/\y<p.n/\M w (rb lB) y (.bool (p.leq lB y))/\M w (rb lvl) y (.bool (p.leq lvl y))):=λb0=>by
  have h1:=F0 Wz[an] (getElem_mem b0);have e:Wz.getD an 0=Wz[an]:=(by rw[Qa,Qb b0];rfl);have hy:(Wz[an]).toNat<p.n:=(by omega);exact⟨(Wz[an]).toNat,by rw[e];omega,hy,dr _ hy,h.lq.r _ _ m0 hy⟩
 have j0:Y (Ui p ls an=if an<Wz.length then Wz.getD an 0 else -1):=by show _=_;unfold Ui;rw[Qm,hL]
 have G0:Y (∀W,D w W->_):=λW hW=>B0 W hW an (by rw[f0];exact A0);rw[eB]at c3;rw[<-f0]at c2;have HL:=Z i0;have HK:=Z e0;have HA:=Z eB.symm;have o0:=Z f0;rw[eLB]at d1;obtain⟨aX,g0⟩:=J (follows p ls x (nth x k));rw[<-g0]at HE⊢;rw[e0]at c0;clear C0 h ho z0 J0 b0 e0 K0 D0 i0 g0 A0 E0 eB eNB eLB dr f0 N0 F0 hL B0;generalize nth x k=n at*;generalize nth x B=nB at*
 go_enter func38,ntmps38
 go_wp2_with fail
 refine Zf [] (by kernel_rfl) (by kernel_rfl) rfl (λops hG=>?_);clear hG
 iterate 7 still_step
 refine wpStill_nil ?_
 go_wp2_with fail
 refine Zf [] (by kernel_rfl) (by kernel_rfl) rfl (λops hG=>?_);clear hG
 iterate 9 still_step
 refine wpStill_nil ?_
 go_upto_region 19 with fail
 obtain⟨W0,q0⟩:=J (((w.alloc (.cells #[A la ls.length lcp,Sq b off x.length cap] 30)).alloc (.cells #[I 3,I (lvl:Int),I (an:Int),I (B:Int),I n.c,A ln n.ae.length lc] 73)).drew.drew);have HF:Y (zyz w W0 (A la ls.length lcp) (Sq b off x.length cap) (A ln n.ae.length lc) n):=by
  have h9:=zyz.new w (A la ls.length lcp) (Sq b off x.length cap) (A ln n.ae.length lc) n;rw[HK.out,<-HL.out,<-o0.out,<-HA.out,<-q0]at h9;exact h9
 rw[<-q0]
 have H0:Y (At W0 [((O Pb 1),Sq Lq 0 p.n p.n),((O Lq lB),Sq (rb lB) 0 p.n p.n),((O w.heap.size 0),A la ls.length lcp),((O w.heap.size 1),Sq b off x.length cap),((O (w.heap.size+1) 0),I 3),((O (w.heap.size+1) 2),I (an:Int))]):=
  ⟨⟨by have:=HF.sz.1;show Pb<_;omega,cT HF.be hz p1⟩,⟨by have:=HF.sz.1;show Lq<_;omega,cT HF.be L0 dq⟩,⟨HF.sz.1,HF.s0⟩,⟨HF.sz.1,HF.s1⟩,⟨HF.sz.2,by rw[<-HK.out];exact HF.t0⟩,⟨HF.sz.2,by rw[o0.out];exact HF.t2⟩,trivial⟩
 have a0:=HF.be;have D0x:=cT a0 hbz d0;have D1x:=cT a0 hbz d1;have D2x:=cT a0 hbz d2;have D3x:=cT a0 hbz d3;have D4x:=cT a0 hbz d4;have D5x:=cT a0 hbz d5;obtain⟨s1,T3⟩:_/\_:=⟨HF.s1,HF.t3⟩;rw[<-HA.out]at T3;have X0:=HF.sz.1;have Y0:=HF.sz.2
 have P0:b<W0.heap.size:=by omega
 have r0:=Z a0;clear p0 p1 c0 c1 c2 c3 c4 c5 q1 q0 d0 d1 d2 d3 d4 d5 dq a0 HF hbz HA HL HK o0;have I0:=Z (H0.node nB.kind lB nB.a nB.b nB.c (A lnB nB.ae.length lcB) 73 W0.heap.size rfl);have u0:Y (∀o1,D w (W0.alloc o1)):=λo1=>r0.alloc r0.size _
 go_wp2_with fail
 refine(zx8 _ _ _ _ _ _ _ _ _).mono ?_;rintro e w1 ⟨rfl,v0⟩;have x0:=Z (I0.below v0);have k0:=Z ((u0 _).trans (v0.mono (u0 _).size));obtain⟨one,h1⟩:∃v,v=decide (nB.kind<=2):=⟨_,rfl⟩;rw[<-h1]at HE;rw[<-h1];obtain⟨-,⟨-,u1⟩,-,-,-,-,⟨-,v1⟩,⟨-,v2⟩,⟨-,v3⟩,⟨-,v4⟩,⟨-,v5⟩,⟨-,v6⟩,-⟩:=x0.out;clear h1 v0 D0x D1x D2x D3x D4x D5x s1 T3 I0 u0 H0 r0
 go_wp2_with fail
 refine(G0 w1 k0).mono ?_;rintro e w2 ⟨rfl,y0⟩;have l0:=Z (k0.trans (y0.mono k0.size));obtain⟨-,⟨-,u1⟩,-,-,-,-,⟨-,v1⟩,⟨-,v2⟩,-⟩:=x0.below y0;clear y0 x0 k0 G0 v3 v4 v5 v6
 by_cases h0:an<Wz.length
 ·obtain⟨y,hy,Z0,y1,y2⟩:=n0 h0
  rw[j0.out,G h0,hy];have z1:=cT l0 dz y1;have z2:=cT l0 M0 y2;have a1:(y:Int)<(p.n:Int):=(by omega);have HR:Y (aX=(one && (p.leq lB y && p.leq lvl y))):=(by show _=_;rw[HE.out,decide_eq_true h0,hy];rfl);generalize p.leq lB y=va at*;generalize p.leq lvl y=vb at*;clear y1 y2 HE j0 n0 hy
  have Q0:one=false\/(one=true/\va=false)\/(one=true/\va=true):=by cases one<;>cases va<;>simp
  rcases Q0 with rfl|⟨rfl,rfl⟩|⟨rfl,rfl⟩
  all_goals
   go_wp2_with fail
   refine Zf [(1,162),(5,166),(18,179)] (by kernel_rfl) (by kernel_rfl) rfl (λops hG=>?_);have g1:=hG (1,162) (by simp);have g2:=hG (5,166) (by simp);have g3:=hG (18,179) (by simp);simp only at g1 g2 g3;clear hG
   iterate 25 still_step
   refine wpStill_nil ?_;go_wp2;go_ret;exact⟨congrArg (λb=>Ending.returned (.bool b)) (by rw[HR.out];simp),l0.drew⟩
 rw[j0.out,U h0]
 have HR:Y (aX=false):=by show _=_;rw[HE.out,decide_eq_false h0];rfl
 clear HE j0 n0
 cases one
 all_goals
  go_wp2_with fail
  refine Zf [(1,162),(5,166),(18,179)] (by kernel_rfl) (by kernel_rfl) rfl (λops hG=>?_);have g1:=hG (1,162) (by simp);have g2:=hG (5,166) (by simp);have g3:=hG (18,179) (by simp);simp only at g1 g2 g3;clear hG
  iterate 25 still_step
  refine wpStill_nil ?_;go_wp2;go_ret;exact⟨cbE HR,l0.drew⟩
end
section
variable{nv:Value}
def ytz(h:zz6 w Pb Lq rb aB hv bv lv nv p ls x)(k:Nat)(hk:k<x.length)(ho:zt1 p x (nth x k))(G0:∀y∈vars p ls,0<=y/\y<p.n)(y0:∀y∈p.ai,y<p.n)(a0:(nth x k).ak<p.n)(H0:(nth x k).a<2147483648)(f0:(nth x k).kind=4):
  E 38 #[F Pb,.agg #[lv,nv],I k] w (Rw (.bool (follows p ls x (nth x k))) w):=by
 obtain⟨b,off,cap,lvl,la,ln,lcp,lc,hf⟩:=h.fw k hk ho.lv a0;obtain⟨rfl,rfl,hz,⟨l0,i0,Q0⟩,⟨hbz,c0,c1,c2,c3,c4,c5,I0⟩,z0,J0,A0⟩:=hf;have p0:=h.p0;have p1:=h.p1;have q1:=h.lq.c lvl l0
 have R0:(p.n:Int)<=6:=by have:=h.n6;omega
 have S0:(k:Int)<(x.length:Int):=by omega
 rw[<-i0]at c1;have K0:=A0 lvl l0;obtain⟨L0,B0⟩:=ho.k3 (.inr f0);obtain⟨B,lB,lnB,lcB,eB,hB,T0,eNB,eLB,U0,M0,⟨-,d0,d1,d2,d3,d4,d5,-⟩,dq,dr,dz⟩:=h.cd z0 B0;obtain⟨an,j0⟩:∃an:Nat,(an:Int)=(nth x k).a:=⟨(nth x k).a.toNat,by omega⟩;obtain⟨Wz,hL⟩:=J (p.ai.map λ(y:Nat)=>(y:Int))
 have C0:∀y∈Wz,0<=y/\y<p.n:=by rw[hL];exact λy hy=>by obtain⟨z,hz,rfl⟩:=mem_map.1 hy;have:=y0 z hz;omega
 have HE:Y (follows p ls x (nth x k)=(decide (an<Wz.length) && (decide ((nth x B).kind<=2) && (p.leq lB (Wz.getD an 0).toNat && p.leq lvl (Wz.getD an 0).toNat)))):=by
  show _=_;unfold follows bP eu;rw[decide_eq_true a0,U (by omega),U (by omega),U (by omega),U (by omega),G f0,eNB,zrx,eLB,<-j0,<-i0,<-hL];unfold aO;simp
 have m0:Y (an<Wz.length->∃y:Nat,Wz.getD an 0=(y:Int)/\y<p.n/\M w (rb lB) y (.bool (p.leq lB y))/\M w (rb lvl) y (.bool (p.leq lvl y))):=λa0=>by
  have h1:=C0 Wz[an] (getElem_mem a0);have e:Wz.getD an 0=Wz[an]:=(by rw[Qa,Qb a0];rfl);have hy:(Wz[an]).toNat<p.n:=(by omega);exact⟨(Wz[an]).toNat,by rw[e];omega,hy,dr _ hy,h.lq.r _ _ l0 hy⟩
 obtain⟨ha,hc,rfl,-,-,D0⟩:=h.hi
 have e0:∀a0:an<Wz.length,∃cb co,ha=some (O cb co)/\cb<w.heap.size/\M w cb (co+an) (I (Wz.getD an 0)):=λa0=>by
  rw[hL]at a0⊢;obtain⟨cb,co,e1,e2,e3⟩:=D0 (by intro hh;rw[hh]at a0;simp at a0);exact⟨cb,co,e1,e2,e3 an a0⟩
 have p3:=h.p3;rw[<-hL]at p3
 have V0:(Wz.length:Int)<=3:=by rw[hL];have:=h.ll.2.1;simp;omega
 rw[eB]at c3;rw[<-j0]at c2;have HL:=Z i0;have HK:=Z f0;have HA:=Z eB.symm;have n0:=Z j0;rw[eLB]at d1;obtain⟨aX,g0⟩:=J (follows p ls x (nth x k));rw[<-g0]at HE⊢;rw[f0]at c0;clear z0 h ho G0 y0 a0 f0 I0 A0 i0 g0 H0 B0 eB eNB eLB dr j0 L0 C0 hL D0;generalize nth x k=n at*;generalize nth x B=nB at*
 go_enter func38,ntmps38
 go_wp2_with fail
 refine Zf [] (by kernel_rfl) (by kernel_rfl) rfl (λops hG=>?_);clear hG
 iterate 7 still_step
 refine wpStill_nil ?_
 go_wp2_with fail
 refine Zf [] (by kernel_rfl) (by kernel_rfl) rfl (λops hG=>?_);clear hG
 iterate 9 still_step
 refine wpStill_nil ?_
 go_upto_region 19 with fail
 obtain⟨W0,o0⟩:=J (((w.alloc (.cells #[A la ls.length lcp,Sq b off x.length cap] 30)).alloc (.cells #[I 4,I (lvl:Int),I (an:Int),I (B:Int),I n.c,A ln n.ae.length lc] 73)).drew.drew);have HF:Y (zyz w W0 (A la ls.length lcp) (Sq b off x.length cap) (A ln n.ae.length lc) n):=by
  have h9:=zyz.new w (A la ls.length lcp) (Sq b off x.length cap) (A ln n.ae.length lc) n;rw[HK.out,<-HL.out,<-n0.out,<-HA.out,<-o0]at h9;exact h9
 rw[<-o0]
 have E0:Y (At W0 [((O Pb 1),Sq Lq 0 p.n p.n),((O Lq lB),Sq (rb lB) 0 p.n p.n),((O w.heap.size 0),A la ls.length lcp),((O w.heap.size 1),Sq b off x.length cap),((O (w.heap.size+1) 0),I 4),((O (w.heap.size+1) 2),I (an:Int)),((O Pb 3),A ha Wz.length hc)]):=
  ⟨⟨by have:=HF.sz.1;show Pb<_;omega,cT HF.be hz p1⟩,⟨by have:=HF.sz.1;show Lq<_;omega,cT HF.be J0 dq⟩,⟨HF.sz.1,HF.s0⟩,⟨HF.sz.1,HF.s1⟩,⟨HF.sz.2,by rw[<-HK.out];exact HF.t0⟩,⟨HF.sz.2,by rw[n0.out];exact HF.t2⟩,⟨by have:=HF.sz.1;show Pb<_;omega,cT HF.be hz p3⟩,trivial⟩
 have b0:=HF.be;have D0x:=cT b0 hbz d0;have D1x:=cT b0 hbz d1;have D2x:=cT b0 hbz d2;have D3x:=cT b0 hbz d3;have D4x:=cT b0 hbz d4;have D5x:=cT b0 hbz d5;obtain⟨s1,T3⟩:_/\_:=⟨HF.s1,HF.t3⟩;rw[<-HA.out]at T3;have X0:=HF.sz.1;have Y0:=HF.sz.2
 have N0:b<W0.heap.size:=by omega
 have q0:=Z b0;clear p0 p1 c0 c1 c2 c3 c4 c5 q1 o0 d0 d1 d2 d3 d4 d5 dq b0 HF hbz HA HL HK n0 p3;have F0:=Z (E0.node nB.kind lB nB.a nB.b nB.c (A lnB nB.ae.length lcB) 73 W0.heap.size rfl);have r0:Y (∀o1,D w (W0.alloc o1)):=λo1=>q0.alloc q0.size _
 go_wp2_with fail
 refine(zx8 _ _ _ _ _ _ _ _ _).mono ?_;rintro e w1 ⟨rfl,u0⟩;have v0:=Z (F0.below u0);have h0:=Z ((r0 _).trans (u0.mono (r0 _).size));obtain⟨one,h1⟩:∃v,v=decide (nB.kind<=2):=⟨_,rfl⟩;rw[<-h1]at HE;rw[<-h1];obtain⟨-,⟨-,u1⟩,-,-,-,-,⟨-,v1⟩,⟨-,v2⟩,⟨-,v3⟩,⟨-,v4⟩,⟨-,v5⟩,⟨-,v6⟩,⟨-,v7⟩,-⟩:=v0.out;clear h1 u0 D0x D1x D2x D3x D4x D5x s1 T3 F0 r0 E0 q0
 by_cases k0:an<Wz.length
 ·obtain⟨y,hy,Z0,y1,y2⟩:=m0 k0
  obtain⟨cb,co,rfl,O0,k1⟩:=e0 k0;rw[hy]at k1;have z1:=cT h0 dz y1;have z2:=cT h0 K0 y2;have z3:=cT h0 O0 k1;have a1:(y:Int)<(p.n:Int):=(by omega);have x0:(an:Int)<(Wz.length:Int):=(by omega);have HR:Y (aX=(one && (p.leq lB y && p.leq lvl y))):=(by show _=_;rw[HE.out,decide_eq_true k0,hy];rfl);generalize p.leq lB y=va at*;generalize p.leq lvl y=vb at*;clear y1 y2 HE m0 hy k1 e0 v0
  go_wp2_with fail
  refine Zf [] (by kernel_rfl) (by kernel_rfl) rfl (λops hG=>?_);clear hG
  iterate 8 still_step
  refine wpStill_nil ?_
  go_wp2_with fail
  refine Zf [] (by kernel_rfl) (by kernel_rfl) rfl (λops hG=>?_);clear hG
  iterate 9 still_step
  refine wpStill_nil ?_
  have P0:one=false\/(one=true/\va=false)\/(one=true/\va=true):=by cases one<;>cases va<;>simp
  rcases P0 with rfl|⟨rfl,rfl⟩|⟨rfl,rfl⟩
  all_goals
   go_wp2_with fail
   refine Zf [(1,162),(5,166),(18,179)] (by kernel_rfl) (by kernel_rfl) rfl (λops hG=>?_);have g1:=hG (1,162) (by simp);have g2:=hG (5,166) (by simp);have g3:=hG (18,179) (by simp);simp only at g1 g2 g3;clear hG
   iterate 25 still_step
   refine wpStill_nil ?_;go_wp2;go_ret;exact⟨congrArg (λb=>Ending.returned (.bool b)) (by rw[HR.out];simp),h0.drew.drew.drew⟩
 have x0:¬(an:Int)<(Wz.length:Int):=by omega
 have HR:Y (aX=false):=by show _=_;rw[HE.out,decide_eq_false k0];rfl
 clear HE m0 e0 v0
 go_wp2_with fail
 refine Zf [] (by kernel_rfl) (by kernel_rfl) rfl (λops hG=>?_);clear hG
 iterate 8 still_step
 refine wpStill_nil ?_
 cases one
 all_goals
  go_wp2_with fail
  refine Zf [(1,162),(5,166),(18,179)] (by kernel_rfl) (by kernel_rfl) rfl (λops hG=>?_);have g1:=hG (1,162) (by simp);have g2:=hG (5,166) (by simp);have g3:=hG (18,179) (by simp);simp only at g1 g2 g3;clear hG
  iterate 25 still_step
  refine wpStill_nil ?_;go_wp2;go_ret;exact⟨cbE HR,h0.drew.drew⟩
end
section
variable{nv:Value}
def ygw{k:Int}(h:0<=k/\k<=7):decide (cC k=1)=(!decide (k<=2) && !(k==7)):=by
 unfold cC
 by_cases h1:k<=2
 ·rw[G h1,decide_eq_true h1];rfl
 by_cases h2:k<=6
 ·rw[U h1,G h2,decide_eq_false h1];symm;simp;omega
 rw[U h1,U h2,decide_eq_false h1];symm;simp;omega
def zb4(h:zz6 w Pb Lq rb aB hv bv lv nv p ls x)(k:Nat)(hk:k<x.length)(ho:zt1 p x (nth x k))(J0:∀y∈vars p ls,0<=y/\y<p.n)(K0:∀y∈p.ai,y<p.n)(g0:(nth x k).ak<p.n)(L0:(nth x k).a<2147483648)(j0:(nth x k).kind=7):
  E 38 #[F Pb,.agg #[lv,nv],I k] w (Rw (.bool (follows p ls x (nth x k))) w):=by
 obtain⟨b,off,cap,lvl,la,ln,lcp,lc,hf⟩:=h.fw k hk ho.lv g0;obtain⟨rfl,rfl,hz,⟨m0,k0,X0⟩,⟨hbz,c0,c1,c2,c3,c4,c5,v0⟩,x0,Y0,y0⟩:=hf;have p0:=h.p0;have p1:=h.p1;have q1:=h.lq.c lvl m0
 have Z0:(p.n:Int)<=6:=by have:=h.n6;omega
 have a1:(k:Int)<(x.length:Int):=by omega
 rw[<-k0]at c1;have M0:=y0 lvl m0;obtain⟨z0,N0⟩:=ho.k7 j0;obtain⟨len,aL⟩:=J ((nth x k).ae.length);obtain⟨Wq,hG⟩:=J (λi=>decide (cC (nd x ((nth x k).ae.getD i 0)).kind=1) && p.leq lvl (nd x ((nth x k).ae.getD i 0)).ak.toNat);have HE:Y (follows p ls x (nth x k)=(range len).all Wq):=by
  show _=_;unfold follows bP;rw[decide_eq_true g0,U (by omega),U (by omega),U (by omega),U (by omega),U (by omega),U (by omega),U (by omega),Bool.true_and,<-k0,aL,hG,Bool.eq_iff_iff,all_eq_true,all_eq_true];unfold aO;simp only[Qm]
  constructor
  ·intro hh i hi
   have A0:=mem_range.1 hi;have e:(nth x k).ae.getD i 0=(nth x k).ae[i]:=(by rw[Qa,Qb A0];rfl);rw[e];exact hh _ (getElem_mem A0)
  intro hh q hq;obtain⟨i,hi,rfl⟩:=getElem_of_mem hq;have:=hh i (mem_range.2 hi);have e:(nth x k).ae.getD i 0=(nth x k).ae[i]:=(by rw[Qa,Qb hi];rfl);rw[e]at this;exact this
 have HN:Y (∀i,i<len->∃(lb lo j l:Nat) (lnj:Option Addr) (lcj:Nat) (nj:ar) (v1:Bool),ln=some (O lb lo)/\(j:Int)<(x.length:Int)/\l<p.n/\At w [((O lb (lo+i)),I (j:Int)),((O (rb lvl) l),.bool v1),((O b (off+j*6)),I nj.kind),((O b (off+j*6+1)),I (l:Int)),((O b (off+j*6+2)),I nj.a),((O b (off+j*6+3)),I nj.b),((O b (off+j*6+4)),I nj.c),((O b (off+j*6+5)),A lnj nj.ae.length lcj)]/\Wq i=(!decide (nj.kind<=2) && !(nj.kind==7) && v1)):=λi hi=>by
  rw[aL]at hi;obtain⟨la2,lc2,e0,-,-,O0⟩:=v0;simp only[slice.injEq]at e0;obtain⟨lb,lo,e8,hlb,P0⟩:=O0 (by intro hh;rw[hh]at hi;simp at hi);have e:(nth x k).ae.getD i 0=(nth x k).ae[i]:=(by rw[Qa,Qb hi];rfl);have hp:=z0 _ (getElem_mem hi);obtain⟨j,l,ln',lc',e1,e2,e3,e4,e5,e6,e7,⟨hb,t0,t1,t2,t3,t4,t5,-⟩,-,-,-⟩:=h.cd x0 hp;rw[e5]at t1;have c9:=P0 i hi;rw[e,e1]at c9;refine⟨lb,lo,j,l,ln',lc',nth x j,p.leq lvl l,e0.1.trans e8,e3,e6,⟨⟨hlb,c9⟩,⟨M0,h.lq.r _ _ m0 e6⟩,⟨hb,t0⟩,⟨hb,t1⟩,⟨hb,t2⟩,⟨hb,t3⟩,⟨hb,t4⟩,⟨hb,t5⟩,trivial⟩,?_⟩;have hr:=ygw hp.2.2.2.2;rw[e4]at hr;rw[hG];simp only;rw[e,e4,e5,hr,Qm]
 have B0:(len:Int)<=100000:=by omega
 have HL:=Z k0;have HK:=Z j0;have Q0:=Z aL;obtain⟨aX,i0⟩:=J (follows p ls x (nth x k));rw[<-i0]at HE⊢
 have a0:Y (∀i,i<len->Wq i=false->aX=false):=λi hi hg=>by rw[HE.out];exact all_eq_false.2 ⟨i,mem_range.2 hi,by rw[hg];simp⟩
 have b0:Y ((∀i,i<len->Wq i=true)->aX=true):=λhh=>by rw[HE.out];exact all_eq_true.2 λi hi=>hh i (mem_range.1 hi)
 rw[j0]at c0;rw[<-aL]at c5;clear x0 h ho J0 K0 g0 j0 v0 y0 k0 i0 L0 z0 N0 aL HE hG;generalize nth x k=n at*
 go_enter func38,ntmps38
 go_wp2_with fail
 refine Zf [] (by kernel_rfl) (by kernel_rfl) rfl (λops hG=>?_);clear hG
 iterate 7 still_step
 refine wpStill_nil ?_
 go_wp2_with fail
 refine Zf [] (by kernel_rfl) (by kernel_rfl) rfl (λops hG=>?_);clear hG
 iterate 9 still_step
 refine wpStill_nil ?_
 go_upto_region 40 with fail
 obtain⟨W0,n0⟩:=J (((w.alloc (.cells #[A la ls.length lcp,Sq b off x.length cap] 30)).alloc (.cells #[I 7,I (lvl:Int),I n.a,I n.b,I n.c,A ln len lc] 73)).drew.drew);have HF:Y (zyz w W0 (A la ls.length lcp) (Sq b off x.length cap) (A ln len lc) n):=by
  have h9:=zyz.new w (A la ls.length lcp) (Sq b off x.length cap) (A ln len lc) n;rw[HK.out,<-HL.out,<-n0]at h9;exact h9
 rw[<-n0];have C0:=Z HF.be;have D0:Y (At W0 [((O w.heap.size 1),Sq b off x.length cap),((O (w.heap.size+1) 5),A ln len lc)]):=⟨⟨HF.sz.1,HF.s1⟩,⟨HF.sz.2,HF.t5⟩,trivial⟩;clear p0 p1 c0 c1 c2 c3 c4 c5 q1 n0 HF HL HK Q0
 go_wp2_with fail
 go_loopw [22] (λi wr=>D w wr/\At wr [((O w.heap.size 1),Sq b off x.length cap),((O (w.heap.size+1) 5),A ln len lc)]/\∃j:Nat,j<=len/\i=I j/\∀q,q<j->Wq q=true) (λi _=>len - (intOf i).toNat)
 case atStart=>exact⟨C0,D0,0,by omega,rfl,λq hq=>by omega⟩
 case round=>
  obtain⟨hB,E0,i,hi,rfl,aT⟩:=hrel;have HB:=Z hB;have F0:=Z E0;have d0:=Z aT;clear hB E0 aT C0 D0;obtain⟨⟨m5,m4⟩,⟨m7,m6⟩,-⟩:=F0.out;have R0:=m5;have o0:=m7;clear m5 m7
  by_cases g0:i<len
  ·obtain⟨lb,lo,j,l,lnj,lcj,nj,v1,rfl,b1,hl,G0,hg⟩:=HN i g0
   have HG:=Z hg;have S0:(i:Int)<(len:Int):=(by omega);have d1:(l:Int)<(p.n:Int):=(by omega);have q0:=Z (a0 i g0)
   have T0:Y (Wq i=true->∀q,q<i+1->Wq q=true):=λh0 q hq=>by
    by_cases U0:q=i
    ·rw[U0];exact h0
    exact d0 q (by omega)
   have HS:Y (∀W,D wr W->At W [((O w.heap.size 1),Sq b off x.length cap),((O (w.heap.size+1) 5),Sq lb lo len lc),((O lb (lo+i)),I (j:Int)),((O (rb lvl) l),.bool v1),((O b (off+j*6)),I nj.kind),((O b (off+j*6+1)),I (l:Int)),((O b (off+j*6+2)),I nj.a),((O b (off+j*6+3)),I nj.b),((O b (off+j*6+4)),I nj.c),((O b (off+j*6+5)),A lnj nj.ae.length lcj)]):=λW hW=>At.below hW ⟨⟨R0,m4⟩,⟨o0,m6⟩,G0.below HB⟩;have r0:Y (∀o,D w (wr.alloc o).drew):=λo=>(HB.alloc HB.size _).drew;have H0:=Z (((HS wr (Below.refl _ _)).node nj.kind l nj.a nj.b nj.c (A lnj nj.ae.length lcj) 73 wr.heap.size rfl).below dA);clear hg G0 d0 a0 b0 HN F0
   go_wp2_with fail
   refine Zk HS (dA) [9] [10] [] (by kernel_rfl) (λ_ _ _ _ h=>h) (λops hG=>?_);clear hG
   iterate 9 refine Zv rfl (by rintro _ ⟨⟨-,_⟩,⟨-,_⟩,⟨-,_⟩,-,⟨-,_⟩,⟨-,_⟩,⟨-,_⟩,⟨-,_⟩,⟨-,_⟩,⟨-,_⟩,-⟩;go_simp<;>rfl) (by go_simp<;>rfl) ?_
   refine Zm ?_
   go_wp2_with fail
   refine⟨HS _ (bA).drew,?_⟩;refine Xx ?_
   go_wp2_with fail
   refine Zs ?_;clear m4 m6
   go_wp2_with fail
   refine(zx8 _ _ _ _ _ _ _ _ _).mono ?_;rintro e w1 ⟨rfl,s0⟩;have I0:=Z (H0.below s0);have l0:=Z ((r0 _).trans (s0.mono (r0 _).size));obtain⟨vd,u0⟩:∃v,v=decide (nj.kind<=2):=⟨_,rfl⟩;rw[<-u0]at HG;rw[<-u0];obtain⟨⟨-,f0⟩,⟨-,f1⟩,-,-,-,-,k1,k2,-,⟨-,f2⟩,-⟩:=I0.out;have V0:Y (At w1 [((O w.heap.size 1),Sq b off x.length cap),((O (w.heap.size+1) 5),Sq lb lo len lc)]):=⟨k1,k2,trivial⟩;clear u0 s0 H0 I0 r0 HS k1 k2;have hc:vd=true\/(vd=false/\(nj.kind==7)=true)\/(vd=false/\(nj.kind==7)=false/\v1=false)\/(vd=false/\(nj.kind==7)=false/\v1=true):=by
    cases vd<;>cases nj.kind==7<;>cases v1<;>simp
   rcases hc with rfl|⟨rfl,h7⟩|⟨rfl,h7,rfl⟩|⟨rfl,h7,rfl⟩
   ·have HR:=Z (q0 (by rw[HG.out];rfl))
    go_wp2;go_ret;exact⟨cbE HR,l0⟩
   ·have HR:=Z (q0 (by rw[HG.out,h7];rfl))
    go_wp2;go_ret;exact⟨cbE HR,l0⟩
   ·have HR:=Z (q0 (by rw[HG.out,h7];rfl))
    go_wp2;go_ret;exact⟨cbE HR,l0⟩
   have HR:=Z (T0 (by rw[HG.out,h7];rfl));go_wp2
   go_roundw
   case rel=>exact⟨l0,V0,i+1,by omega,by go_num,HR⟩
   case measure=>simp[intOf];omega
  have S0:¬(i:Int)<(len:Int):=(by omega);have HR:=Z (b0.out λq hq=>d0 q (by omega));go_wp2;go_ret;exact⟨cbE HR,HB⟩
end
section
variable{P:Program}{ops:Array Oper}{Q:Exit->Act->World->Prop}{S:World->Prop}
def ykv{o:Oper}{l:List (Nat×Oper)}{a:Act}{j:Nat}{b:Bool}(hg:o.guard=some (j,b))(hy:yielded ops a.tmps j=none)
  (h:Yo P ops S Q l (a.put o.dst undef) w):Yo P ops S Q ((0,o)::l) a w:=⟨undef,.inr ⟨by simp[wanted,hg,hy],rfl⟩,h⟩
end
section
variable{vb:Nat}{nv vx vy:Value}
def zo1(h:Ye w Cb Pb Lb Rl vv nv hv p vs x)(k:Nat)(hk:k<x.length)(vk va:Int)(e0:vb<w.heap.size)(v0:w.cell? (O vb 0)=some (I vk))(v1:w.cell? (O vb 1)=some (I va))(v2:w.cell? (O vb 2)=some vx)(v3:w.cell? (O vb 3)=some vy)(rb rc:Bool)
  (hb:vk=2->(nth x k).kind=2->∀W,D w W->E 149 #[F Cb,I (nth x k).b,vx] W (Rw (.bool rb) W))
  (hc:vk=2->(nth x k).kind=2->∀W,D w W->E 149 #[F Cb,I (nth x k).c,vy] W (Rw (.bool rc) W))
  (h0:∃a,vx=.pointer a) (i0:∃a,vy=.pointer a):
  E 149 #[F Cb,I k,F vb] w (Rw (.bool (decide ((nth x k).kind=vk) && (decide ((nth x k).a=va) && (decide (vk≠2)||(rb && rc))))) w):=by
 obtain⟨ax,rfl⟩:=h0;obtain⟨ay,rfl⟩:=i0;obtain⟨nb,ju,cap,lv,rfl,f0⟩:=h.gq k hk;obtain⟨no,dt⟩:=J (ju+k*6);obtain⟨n,hn⟩:=J (nth x k);rw[<-hn]at hb hc f0⊢;have c2:=h.c2
 have k0:(k:Int)<(x.length:Int):=by omega
 have HS:Y (∀W,D w W->M W nb no (I n.kind)/\M W nb (no+2) (I n.a)/\M W nb (no+3) (I n.b)/\M W nb (no+4) (I n.c)/\M W vb 0 (I vk)/\M W vb 1 (I va)/\M W vb 2 (.pointer ax)/\M W vb 3 (.pointer ay)):=λW hW=>by
  have h2:=f0.below hW;rw[<-dt]at h2;exact⟨h2.c0,h2.c2,h2.c3,h2.c4,cT hW e0 v0,cT hW e0 v1,cT hW e0 v2,cT hW e0 v3⟩
 obtain⟨aX,b0⟩:=J ((decide (n.kind=vk) && (decide (n.a=va) && (decide (vk≠2)||(rb && rc)))));rw[<-b0];have a0:=Z b0;have j0:=Z dt;clear h f0 v0 v1 v2 v3 b0 hn dt
 go_enter func149,ntmps149
 go_wp2_with fail
 rw[<-j0.out];refine Zk HS dA [] [] [(9,23)] (by kernel_rfl) (λ_ _ _ _ h=>h) (λops ⟨g1,_⟩=>?_)
 iterate 10 refine Zv rfl (by intros;go_simp<;>rfl) (by go_simp<;>rfl) ?_
 by_cases h1:n.kind=vk
 rotate_left
 ·have HE:Y (aX=false):=by show _=_;rw[a0.out,decide_eq_false h1];simp
  have e1:(n.kind !=vk)=true:=(by rw[bne_iff_ne];exact h1);clear hb hc h1 a0
  iterate 9 refine Un rfl (c:=true) (by simp[yielded,g1,e1,put]) (by decide) ?_
  refine Zv rfl (by intros;go_simp<;>rfl) (by go_simp<;>rfl) ?_;refine Zs ?_;go_wp2;go_ret;exact⟨cbE HE,dA⟩
 have e1:(n.kind !=vk)=false:=by simp[h1]
 have H1:=Z h1;clear h1
 iterate 10 refine Zv (by first|rfl|simp[wanted,yielded,g1,e1,put]) (by intros;go_simp<;>rfl) (by go_simp<;>rfl) ?_
 refine Zs ?_
 by_cases h2:n.a=va
 rotate_left
 ·have HE:Y (aX=false):=by show _=_;rw[a0.out,decide_eq_false h2];simp
  have e2:(n.a !=va)=true:=(by rw[bne_iff_ne];exact h2);clear hb hc H1 h2 a0;go_wp2;go_ret;exact⟨cbE HE,dA⟩
 have e2:(n.a !=va)=false:=by simp[h2]
 have H2:=Z h2;clear h2;clear g1
 go_wp2_with fail
 refine Zk HS dA.drew [15,26] [] [(5,39),(16,50)] (by kernel_rfl) (λ_ _ _ _ h=>h) (λops ⟨g1,g2,_⟩=>?_)
 iterate 6 refine Zv rfl (by intros;go_simp<;>rfl) (by go_simp<;>rfl) ?_
 by_cases h3:vk=2
 rotate_left
 ·have HE:Y (aX=true):=by show _=_;rw[a0.out,decide_eq_true H1.out,decide_eq_true H2.out,decide_eq_true (show vk≠2 from h3)];simp
  have e3:(n.kind !=2)=true:=(by rw[bne_iff_ne,H1.out];exact h3);clear hb hc H1 H2 h3 a0
  iterate 9 refine Un rfl (c:=true) (by simp[yielded,g1,e3,put]) (by decide) ?_
  refine zy9 rfl (c:=true) (by simp[yielded,g1,e3,put]) (by decide) (HS _ dA.drew) ?_;refine Un rfl (c:=true) (by simp[yielded,g1,e3,put]) (by decide) ?_
  iterate 9 refine ykv rfl (by simp[yielded,g2,put,undef]) ?_
  refine yt5 rfl (by simp[yielded,g2,put,undef]) (HS _ dA.drew) ?_;refine Un rfl (c:=true) (by simp[yielded,g1,e3,put]) (by decide) ?_
  iterate 2 refine Zv rfl (by intros;go_simp<;>rfl) (by go_simp<;>rfl) ?_
  refine Zs ?_;go_wp2;go_ret;exact⟨cbE HE,dA.drew⟩
 have HE:Y (aX=(rb && rc)):=by show _=_;rw[a0.out,decide_eq_true H1.out,decide_eq_true H2.out,decide_eq_false (by intro h;exact h h3)];simp
 have HB:=Z (hb h3 (H1.trans h3));have HC:=Z (hc h3 (H1.trans h3))
 have e3:(n.kind !=2)=false:=by rw[H1.out,h3];rfl
 clear hb hc H1 H2 h3 a0
 iterate 9 refine Zv (by first|rfl|simp[wanted,yielded,g1,e3,put]) (by intros;go_simp<;>rfl) (by go_simp<;>rfl) ?_
 refine Yv (by simp[wanted,yielded,g1,e3,put]) ?_
 go_wp2_with fail
 refine(HB _ dA.drew).mono ?_;rintro _ W1 ⟨rfl,hW⟩;have d0:=Z ((dA.drew).trans hW);clear hW
 go_wp2_with fail
 refine⟨HS _ d0,?_⟩
 cases rb
 ·refine Zv (by simp[wanted,yielded,g1,e3,put]) (by intros;go_simp<;>rfl) (by go_simp<;>rfl) ?_
  iterate 9 refine zzy rfl (by simp[yielded,g2,put]) ?_
  refine Jz rfl (by simp[yielded,g2,put]) (HS _ d0) ?_
  iterate 3 refine Zv (by first|rfl|simp[wanted,yielded,g1,e3,put]) (by intros;go_simp<;>rfl) (by go_simp<;>rfl) ?_
  refine Zs ?_;go_wp2;go_ret;exact⟨cbE HE,d0⟩
 iterate 10 refine Zv (by simp[wanted,yielded,g1,g2,e3,put]) (by intros;go_simp<;>rfl) (by go_simp<;>rfl) ?_
 refine Yv (by simp[wanted,yielded,g2,put]) ?_
 go_wp2_with fail
 refine(HC _ d0).mono ?_;rintro _ W2 ⟨rfl,hW⟩;have g0:=Z (d0.trans (hW.mono d0.size));clear hW
 go_wp2_with fail
 refine⟨HS _ g0,?_⟩
 iterate 3 refine Zv (by first|rfl|simp[wanted,yielded,g1,e3,put]) (by intros;go_simp<;>rfl) (by go_simp<;>rfl) ?_
 refine Zs ?_;go_wp2;go_ret;exact⟨cbE HE,g0⟩
end
section
variable{nv:Value}
def zrw(h:Ye w Cb Pb Lb Rl vv nv hv p vs x)(hS:∀b,S b->b<w.heap.size)(k:Int)(hk:0<=k/\k.toNat<x.length)(q:Value)(a:dK)(ha:Xn S w q a):
  E 149 #[F Cb,I k,q] w (Rw (.bool (cN x k a)) w):=by
 obtain⟨vb,rfl,hs,hc⟩:=ha;obtain⟨kn,b0⟩:∃kn:Nat,(kn:Int)=k:=⟨k.toNat,by omega⟩
 have e0:k.toNat=kn:=by omega
 have a0:(if a.var then(1:Int) else 0)≠2:=by cases a.var<;>decide
 have h1:=zo1 h kn (by omega) (if a.var then 1 else 0) a.v (hS _ hs) (hc.c 0 (by omega)) (hc.c 1 (by omega)) (hc.c 2 (by omega)) (hc.c 3 (by omega)) true true (λh2=>absurd h2 a0) (λh2=>absurd h2 a0) ⟨_,rfl⟩ ⟨_,rfl⟩;rw[b0]at h1;refine h1.mono ?_;rintro e w' ⟨rfl,hw⟩;refine⟨?_,hw⟩;unfold cN nd;rw[e0,decide_eq_true a0];simp
def yx5(h:Ye w Cb Pb Lb Rl vv nv hv p vs x)(hS:∀b,S b->b<w.heap.size)(k:Int)(hk:0<=k/\k.toNat<x.length)(b0:(nd x k).kind=2->(0<=(nd x k).b/\(nd x k).b.toNat<x.length)/\(0<=(nd x k).c/\(nd x k).c.toNat<x.length))(q:Value)(e:dZ)(g0:zs3 S w q e):
  E 149 #[F Cb,I k,q] w λr w'=>r=.returned (.bool (bM x k e))/\D w w':=by
 rcases g0 with⟨h1,h2⟩|⟨h1,vb,qx,qy,rfl,h3,h4,h5,h6⟩
 ·have e1:bM x k e=cN x k e.a:=by unfold bM;rw[G (by omega)]
  rw[e1];exact zrw h hS k hk q e.a h2
 have e1:bM x k e=(decide ((nd x k).kind=2) && (decide ((nd x k).a=e.op) && (cN x (nd x k).b e.a && cN x (nd x k).c e.b))):=by unfold bM;rw[U (by omega)]
 obtain⟨kn,h0⟩:∃kn:Nat,(kn:Int)=k:=⟨k.toNat,by omega⟩
 have e0:k.toNat=kn:=by omega
 have en:nd x k=nth x kn:=by unfold nd;rw[e0]
 rw[en]at b0 e1;have a0:∀W,D w W->Ye W Cb Pb Lb Rl vv nv hv p vs x:=λW hW=>h.below hW;have d0:∀W,D w W->∀q a,Xn S w q a->Xn S W q a:=λW hW q a ha=>ha.kept (λb hb=>hb) (λb hb=>hW.block b (hS b hb));have f0:∀W,D w W->∀b,S b->b<W.heap.size:=λW hW b hb=>Qj (hS b hb) hW.size
 have i0:∃a,qx=.pointer a:=by obtain⟨b,e,-⟩:=h5;exact⟨_,e⟩
 have j0:∃a,qy=.pointer a:=by obtain⟨b,e,-⟩:=h6;exact⟨_,e⟩
 have h7:=zo1 h kn (by omega) 2 e.op (hS _ h3) (h4.c 0 (by omega)) (h4.c 1 (by omega)) (h4.c 2 (by omega)) (h4.c 3 (by omega)) (cN x (nth x kn).b e.a) (cN x (nth x kn).c e.b)
  (λ_ c0 W hW=>zrw (a0 W hW) (f0 W hW) _ (b0 c0).1 qx e.a (d0 W hW _ _ h5)) (λ_ c0 W hW=>zrw (a0 W hW) (f0 W hW) _ (b0 c0).2 qy e.b (d0 W hW _ _ h6)) i0 j0
 rw[h0]at h7;refine h7.mono ?_;rintro r w' ⟨rfl,hw⟩;refine⟨?_,hw⟩;rw[e1];simp
end
section
variable{sb:Nat}{nv:Value}
def ytx(h:Ye w Cb Pb Lb Rl vv nv hv p vs x)(k:Nat)(hk:k<x.length)(sk sx:Int)(k0:sk=3\/sk=4\/sk=5\/sk=6)(av:Option Addr)(fa ea:Option Addr)(fn fc en ec:Nat)(cD:sb<w.heap.size)
  (m0:w.cell? (O sb 0)=some (I sk)/\w.cell? (O sb 2)=some (I sx)/\w.cell? (O sb 3)=some (.pointer av)/\w.cell? (O sb 4)=some (A fa fn fc)/\w.cell? (O sb 5)=some (A ea en ec)) (va vb rb rc:Bool)
  (f0:sk=5\/sk=6->(nth x k).kind=sk->∀W,D w W->E 149 #[F Cb,I (nth x k).a,.pointer av] W (Rw (.bool va) W))
  (i0:sk=3\/sk=4->(nth x k).kind=sk->∀W,D w W->E 149 #[F Cb,I (nth x k).b,.pointer av] W (Rw (.bool vb) W))
  (g0:sk=5\/sk=6->(nth x k).kind=sk->∀W,D w W->E 79 #[F Cb,I (nth x k).b,A fa fn fc] W (Rw (.bool rb) W))
  (j0:sk=5->(nth x k).kind=sk->∀W,D w W->E 79 #[F Cb,I (nth x k).c,A ea en ec] W (Rw (.bool rc) W)):
  E 118 #[F Cb,I k,F sb] w (Rw (.bool (decide ((nth x k).kind=sk) && (if sk=5 then va && (rb && rc) else if sk=6 then va && rb else decide ((nth x k).a=sx) && vb))) w):=by
 obtain⟨nb,ju,cap,lv,rfl,l0⟩:=h.gq k hk;obtain⟨no,dt⟩:=J (ju+k*6);obtain⟨n,hn⟩:=J (nth x k);rw[<-hn]at f0 i0 g0 j0 l0⊢;have c2:=h.c2
 have p0:(k:Int)<(x.length:Int):=by omega
 have HS:Y (∀W,D w W->M W nb no (I n.kind)/\M W nb (no+2) (I n.a)/\M W nb (no+3) (I n.b)/\M W nb (no+4) (I n.c)/\M W sb 0 (I sk)/\M W sb 2 (I sx)/\M W sb 3 (.pointer av)/\M W sb 4 (A fa fn fc)/\M W sb 5 (A ea en ec)):=λW hW=>by
  have h2:=l0.below hW;rw[<-dt]at h2;obtain⟨s0,s2,s3,s4,s5⟩:=m0;exact⟨h2.c0,h2.c2,h2.c3,h2.c4,cT hW cD s0,cT hW cD s2,cT hW cD s3,cT hW cD s4,cT hW cD s5⟩
 obtain⟨aX,h0⟩:=J ((decide (n.kind=sk) && (if sk=5 then va && (rb && rc) else if sk=6 then va && rb else decide (n.a=sx) && vb)));rw[<-h0];have a0:=Z h0;have o0:=Z dt;have q0:∀W,D w W->M W nb no (I n.kind):=λW hW=>(HS W hW).1;have d0:=q0 _ dA;clear h l0 m0 h0 hn dt
 go_enter func118,ntmps118
 go_wp2_with fail
 rw[<-o0.out];refine Zk HS dA [] [] [] (by kernel_rfl) (λ_ _ _ _ h=>h) (λops hG=>?_);clear hG
 iterate 9 refine Zv rfl (by intros;go_simp<;>rfl) (by go_simp<;>rfl) ?_
 refine Zs ?_
 by_cases h1:n.kind=sk
 rotate_left
 ·have HE:Y (aX=false):=by show _=_;rw[a0.out,decide_eq_false h1,Bool.false_and]
  have e1:(n.kind !=sk)=true:=(by rw[bne_iff_ne];exact h1);clear h1 a0 f0 i0 g0 j0 q0 k0;go_wp2;go_ret;exact⟨cbE HE,dA⟩
 have e1:(n.kind !=sk)=false:=by simp[h1]
 by_cases h5:sk=5
 ·have HV:=Z (f0 (.inl h5) h1)
  have HB:=Z (g0 (.inl h5) h1);have HC:=Z (j0 h5 h1);have HE:Y (aX=(va && (rb && rc))):=(by show _=_;rw[a0.out,decide_eq_true h1,G h5,Bool.true_and]);have e5:(n.kind==5)=true:=(by simp[h1,h5]);clear h1 h5 a0 f0 i0 g0 j0 q0 k0
  go_wp2_with fail
  refine Zk HS dA.drew [9,20,32] [] [(10,39),(22,51)] (by kernel_rfl) (λ_ _ _ _ h=>h) (λops ⟨g1,g2,_⟩=>?_)
  iterate 9 refine Zv rfl (by intros;go_simp<;>rfl) (by go_simp<;>rfl) ?_
  refine Zm ?_
  go_wp2_with fail
  refine(HV _ dA.drew).mono ?_;rintro _ W1 ⟨rfl,hW⟩;have b0:=Z ((dA.drew).trans hW);clear hW
  go_wp2_with fail
  refine⟨HS _ b0,?_⟩
  cases va
  ·repeat first|refine zzy rfl (by simp[yielded,g1,g2,put]) ?_|refine Jz rfl (by simp[yielded,g1,g2,put]) (HS _ b0) ?_|refine Zv rfl (by intros;go_simp<;>rfl) (by go_simp<;>rfl) ?_
   refine Zs ?_;go_wp2;go_ret;exact⟨cbE HE,b0⟩
  iterate 10 refine Zv (by first|rfl|simp[wanted,yielded,g1,put]) (by intros;go_simp<;>rfl) (by go_simp<;>rfl) ?_
  refine Yv (by simp[wanted,yielded,g1,put]) ?_
  go_wp2_with fail
  refine(HB _ b0).mono ?_;rintro _ W2 ⟨rfl,hW⟩;have e0:=Z (b0.trans (hW.mono b0.size));clear hW
  go_wp2_with fail
  refine⟨HS _ e0,?_⟩
  cases rb
  ·repeat first|refine zzy rfl (by simp[yielded,g2,put]) ?_|refine Jz rfl (by simp[yielded,g2,put]) (HS _ e0) ?_|refine Zv rfl (by intros;go_simp<;>rfl) (by go_simp<;>rfl) ?_
   refine Zs ?_;go_wp2;go_ret;exact⟨cbE HE,e0⟩
  iterate 11 refine Zv (by first|rfl|simp[wanted,yielded,g2,put]) (by intros;go_simp<;>rfl) (by go_simp<;>rfl) ?_
  refine Yv (by simp[wanted,yielded,g2,put]) ?_
  go_wp2_with fail
  refine(HC _ e0).mono ?_;rintro _ W3 ⟨rfl,hW⟩;have n0:=Z (e0.trans (hW.mono e0.size));clear hW
  go_wp2_with fail
  refine⟨HS _ n0,?_⟩
  iterate 2 refine Zv rfl (by intros;go_simp<;>rfl) (by go_simp<;>rfl) ?_
  refine Zs ?_;go_wp2;go_ret;exact⟨cbE HE,n0⟩
 by_cases h6:sk=6
 ·have HV:=Z (f0 (.inr h6) h1)
  have HB:=Z (g0 (.inr h6) h1);have HE:Y (aX=(va && rb)):=(by show _=_;rw[a0.out,decide_eq_true h1,U h5,G h6,Bool.true_and]);have e5:(n.kind==5)=false:=(by simp[h1,h6]);have e6:(n.kind==6)=true:=(by simp[h1,h6]);clear h1 h5 h6 a0 f0 i0 g0 j0 q0 k0
  go_wp2_with fail
  refine Zk HS dA.drew [9,20] [] [(10,75)] (by kernel_rfl) (λ_ _ _ _ h=>h) (λops ⟨g1,_⟩=>?_)
  iterate 9 refine Zv rfl (by intros;go_simp<;>rfl) (by go_simp<;>rfl) ?_
  refine Zm ?_
  go_wp2_with fail
  refine(HV _ dA.drew).mono ?_;rintro _ W1 ⟨rfl,hW⟩;have b0:=Z ((dA.drew).trans hW);clear hW
  go_wp2_with fail
  refine⟨HS _ b0,?_⟩
  cases va
  ·repeat first|refine zzy rfl (by simp[yielded,g1,put]) ?_|refine Jz rfl (by simp[yielded,g1,put]) (HS _ b0) ?_|refine Zv rfl (by intros;go_simp<;>rfl) (by go_simp<;>rfl) ?_
   refine Zs ?_;go_wp2;go_ret;exact⟨cbE HE,b0⟩
  iterate 10 refine Zv (by first|rfl|simp[wanted,yielded,g1,put]) (by intros;go_simp<;>rfl) (by go_simp<;>rfl) ?_
  refine Yv (by simp[wanted,yielded,g1,put]) ?_
  go_wp2_with fail
  refine(HB _ b0).mono ?_;rintro _ W2 ⟨rfl,hW⟩;have e0:=Z (b0.trans (hW.mono b0.size));clear hW
  go_wp2_with fail
  refine⟨HS _ e0,?_⟩
  iterate 2 refine Zv rfl (by intros;go_simp<;>rfl) (by go_simp<;>rfl) ?_
  refine Zs ?_;go_wp2;go_ret;exact⟨cbE HE,e0⟩
 have HV:=Z (i0 (by omega) h1)
 have e5:(n.kind==5)=false:=by rw[h1,Qh];exact h5
 have e6:(n.kind==6)=false:=by rw[h1,Qh];exact h6
 have HE:Y (aX=(decide (n.a=sx) && vb)):=by show _=_;rw[a0.out,decide_eq_true h1,U h5,U h6,Bool.true_and]
 clear h1 h5 h6 a0 f0 i0 g0 j0 q0 k0
 go_wp2_with fail
 refine Zk HS dA.drew [19] [] [(9,96)] (by kernel_rfl) (λ_ _ _ _ h=>h) (λops ⟨g1,_⟩=>?_)
 by_cases ha:n.a=sx
 rotate_left
 ·have ea2:(n.a==sx)=false:=by rw[Qh];exact ha
  rw[decide_eq_false ha]at HE;clear ha
  repeat first|refine zzy rfl (by simp[yielded,g1,ea2,put]) ?_|refine Jz rfl (by simp[yielded,g1,ea2,put]) (HS _ dA.drew) ?_|refine Zv rfl (by intros;go_simp<;>rfl) (by go_simp<;>rfl) ?_
  refine Zs ?_;go_wp2;go_ret;exact⟨cbE HE,dA.drew⟩
 have ea2:(n.a==sx)=true:=by simp[ha]
 rw[decide_eq_true ha]at HE;clear ha
 iterate 19 refine Zv (by first|rfl|simp[wanted,yielded,g1,put]) (by intros;go_simp<;>rfl) (by go_simp<;>rfl) ?_
 refine Yv (by simp[wanted,yielded,g1,put]) ?_
 go_wp2_with fail
 refine(HV _ dA.drew).mono ?_;rintro _ W1 ⟨rfl,hW⟩;have b0:=Z ((dA.drew).trans hW);clear hW
 go_wp2_with fail
 refine⟨HS _ b0,?_⟩
 iterate 2 refine Zv rfl (by intros;go_simp<;>rfl) (by go_simp<;>rfl) ?_
 refine Zs ?_;go_wp2;go_ret;exact⟨cbE HE,b0⟩
end
def zz7(x:List ar)(k:Int):Prop:=0<=k/\k.toNat<x.length
structure XOk(x:List ar):Prop where
 k2:∀k,k<x.length->(nth x k).kind=2->zz7 x (nth x k).b/\zz7 x (nth x k).c
 k3:∀k,k<x.length->(nth x k).kind=3\/(nth x k).kind=4->zz7 x (nth x k).b
 k5:∀k,k<x.length->(nth x k).kind=5\/(nth x k).kind=6->zz7 x (nth x k).a/\zz7 x (nth x k).b
 k6:∀k,k<x.length->(nth x k).kind=5->zz7 x (nth x k).c
 k7:∀k,k<x.length->(nth x k).kind=7->∀j∈(nth x k).ae,zz7 x j
def Ji:Nat->List aa->Prop
 |0,_=>True
 |d+1,l=>∀i,i<l.length->((l.getD i noS).kind=3\/(l.getD i noS).kind=4\/(l.getD i noS).kind=5\/(l.getD i noS).kind=6)/\Ji d (l.getD i noS).aZ/\Ji d (l.getD i noS).aU
def Yz.shape{l:List aa}(h:Yz d S w v l):∃a c,v=A a l.length c:=by
 cases d with
 |zero=>obtain⟨rfl,rfl⟩:=h;exact⟨none,0,rfl⟩
 |succ d=>obtain⟨a,c,e,-⟩:=h;exact⟨a,c,e⟩
def zs3.ptr{e:dZ}(h:zs3 S w v e):∃a,v=.pointer a:=by
 rcases h with⟨-,b,e,-⟩|⟨-,b,_,_,e,-⟩
 ·exact⟨_,e⟩
 exact⟨_,e⟩
def zex(Cb Pb Lb Rl:Nat)(vv nv hv:Value)(p:aY)(vs:Is)(x:List ar)(S:Nat->Prop)(d:Nat):Prop:=
 ∀(w:World) (k:Int) (v:Value) (l:List aa),Ye w Cb Pb Lb Rl vv nv hv p vs x->(∀b,S b->b<w.heap.size)->zz7 x k->Yz d S w v l->Ji d l->E 79 #[F Cb,I k,v] w (Rw (.bool (de d x k l)) w)
section
variable{nv:Value}
def yq9(hx:XOk x)(H:zex Cb Pb Lb Rl vv nv hv p vs x S d)(h:Ye w Cb Pb Lb Rl vv nv hv p vs x)(hS:∀b,S b->b<w.heap.size)(k:Int)(hk:zz7 x k)(q:Value)(s:aa)(hs:zxw (Yz d) S w q s)(j0:s.kind=3\/s.kind=4\/s.kind=5\/s.kind=6)(f0:Ji d s.aZ)(g0:Ji d s.aU):
  E 118 #[F Cb,I k,q] w (Rw (.bool (fU (de d x) x k s)) w):=by
 obtain⟨sb,vp,fv,ev,rfl,h0,hc,b0,hf,he⟩:=hs;obtain⟨av,rfl⟩:=b0.ptr;obtain⟨fa,fc,rfl⟩:=hf.shape;obtain⟨ea,ec,rfl⟩:=he.shape;obtain⟨kn,i0⟩:∃kn:Nat,(kn:Int)=k:=⟨k.toNat,by have:=hk.1;omega⟩
 have e0:k.toNat=kn:=by omega
 have c0:kn<x.length:=by have:=hk.2;omega
 have en:nd x k=nth x kn:=by unfold nd;rw[e0]
 have d0:∀W,D w W->∀b,S b->b<W.heap.size:=λW hW b hb=>Qj (hS b hb) hW.size
 have a0:∀(j:Int),zz7 x j->∀W,D w W->E 149 #[F Cb,I j,.pointer av] W (Rw (.bool (bM x j s.e)) W):=λj hj W hW=>
  yx5 (h.below hW) (d0 W hW) j hj (λh2=>by have:=hx.k2 j.toNat hj.2 h2;exact this) _ _ (b0.kept (λb hb=>hb) (λb hb=>hW.block b (hS b hb)))
 have aT:∀(j:Int) (v:Value) (l:List aa),zz7 x j->Yz d S w v l->Ji d l->∀W,D w W->E 79 #[F Cb,I j,v] W (Rw (.bool (de d x j l)) W):=λj v l hj hv hkk W hW=>
  H W j v l (h.below hW) (d0 W hW) hj (Yz.kept (λb hb=>hb) (λb hb=>hW.block b (hS b hb)) _ _ _ hv) hkk
 have h1:=ytx h kn c0 (s.kind:Nat) (s.x:Nat) (by omega) av fa ea s.aZ.length fc s.aU.length ec (hS _ h0) ⟨hc.c 0 (by omega),hc.c 2 (by omega),hc.c 3 (by omega),hc.c 4 (by omega),hc.c 5 (by omega)⟩ (bM x (nth x kn).a s.e) (bM x (nth x kn).b s.e) (de d x (nth x kn).b s.aZ) (de d x (nth x kn).c s.aU)
  (λh2 h3=>a0 _ (hx.k5 kn c0 (by omega)).1) (λh2 h3=>a0 _ (hx.k3 kn c0 (by omega))) (λh2 h3=>aT _ _ _ (hx.k5 kn c0 (by omega)).2 hf f0) (λh2 h3=>aT _ _ _ (hx.k6 kn c0 (by omega)) he g0)
 rw[i0]at h1;refine h1.mono ?_;rintro e w' ⟨rfl,hw⟩;refine⟨?_,hw⟩;unfold fU;rw[en]
 congr 2
 by_cases h5:s.kind=5
 ·rw[G h5,G (by omega)]
 by_cases h6:s.kind=6
 ·rw[U h5,G h6,U (by omega),G (by omega)]
 rw[U h5,U h6,U (by omega),U (by omega)]
end
def At.bh{l:List (Addr×Value)}(h:At W l)(c0 c1 c2 c3 c4 c5 c6 c7 c8 c9:Value)(T:TypeId)(N:Nat)(hN:W.heap.size=N):At (W.alloc (.cells #[c0,c1,c2,c3,c4,c5,c6,c7,c8,c9] T)) (((O N 0),c0)::((O N 1),c1)::((O N 2),c2)::((O N 3),c3)::((O N 4),c4)::((O N 5),c5)::((O N 6),c6)::((O N 7),c7)::((O N 8),c8)::((O N 9),c9)::l):=by
 subst hN;exact⟨⟨by simp,by simp⟩,⟨by simp,by simp⟩,⟨by simp,by simp⟩,⟨by simp,by simp⟩,⟨by simp,by simp⟩,⟨by simp,by simp⟩,⟨by simp,by simp⟩,⟨by simp,by simp⟩,⟨by simp,by simp⟩,⟨by simp,by simp⟩,h.below (bA)⟩
def zk4(w:World)(x:List ar)(pv:Value)(v:Value)(r:Int->Bool):Prop:=∀W,D w W->∀q,zz7 x q->E 39 #[pv,I q,v] W (Rw (.bool (r q)) W)
def ygv(w:World)(x:List ar)(pv:Value)(Wx:Int->List aa->Bool)(ao:Option Addr)(i:Nat)(s:aa):Prop:=
 ∃(sb:Nat) (ba:Option Addr) (bn bc:Nat) (oa:Option Addr) (on oc:Nat),ao=some (O sb 0)/\At w [((O sb (i*10)),I (s.kind:Int)),((O sb (i*10+1)),I (s.x:Int)),((O sb (i*10+2)),I (s.aq:Int)),((O sb (i*10+3)),I s.e.op),((O sb (i*10+4)),.bool s.e.a.var),((O sb (i*10+5)),I (s.e.a.v:Int)),((O sb (i*10+6)),.bool s.e.b.var),((O sb (i*10+7)),I (s.e.b.v:Int)),((O sb (i*10+8)),A ba bn bc),((O sb (i*10+9)),A oa on oc)]/\(s.kind=3\/s.kind=4\/s.kind=5\/s.kind=6)/\zk4 w x pv (A ba bn bc) (λq=>Wx q s.aZ)/\zk4 w x pv (A oa on oc) (λq=>Wx q s.aU)
def yb9(Wx:Int->List aa->Bool)(x:List ar)(j:Nat)(s:aa):
  (s.kind=3\/s.kind=4->fU Wx x (j:Int) s=((nth x j).kind==(s.kind:Int) && (bM x (nth x j).b s.e && (nth x j).a==(s.x:Int))))/\
  (s.kind=5->fU Wx x (j:Int) s=((nth x j).kind==(s.kind:Int) && (bM x (nth x j).a s.e && Wx (nth x j).b s.aZ && Wx (nth x j).c s.aU)))/\
  (s.kind=6->fU Wx x (j:Int) s=((nth x j).kind==(s.kind:Int) && (bM x (nth x j).a s.e && Wx (nth x j).b s.aZ))):=by
 have e:nd x (j:Int)=nth x j:=by unfold nd;rw[Qm]
 unfold fU;rw[e,zv7,zv7];refine⟨λh=>?_,λh=>?_,λh=>?_⟩
 ·rw[U (by omega),U (by omega),Bool.and_comm ((nth x j).a==_)]
 ·rw[G h,Bool.and_assoc]
 ·rw[U (by omega),G h]
def yz4{nv:Value}{la:Option Addr}{ll lcp:Nat}(hx:XOk x)(h:Zl w.heap.size w nv x)(Wx:Int->List aa->Bool)(k:Nat)(hk:k<x.length)(l:List aa)(ao:Option Addr)(cap:Nat)(b1:l.length<=cap)(L1:l.length<=16)
  (hl:∀i,i<l.length->ygv w x (.agg #[A la ll lcp,nv]) Wx ao i (l.getD i noS)):
  E 39 #[.agg #[A la ll lcp,nv],I k,A ao l.length cap] w (Rw (.bool (decide ((nth x k).kind=7) && (decide ((nth x k).ae.length=l.length) && (range l.length).all λi=>fU Wx x ((nth x k).ae.getD i 0) (l.getD i noS)))) w):=by
 obtain⟨b,off,cap2,rfl,d1⟩:=zv6 h (by omega);have A0:Y (∀W,D w W->∀q,zz7 x q->∀e:dZ,E 60 #[.agg #[A la ll lcp,Sq b off x.length cap2],I q,exV e] W λr w'=>r=.returned (.bool (bM x q e))/\D W w'):=λW hW q hq e=>yq7 ((h.below hW).mono hW.size) q hq (λh2=>hx.k2 q.toNat hq.2 h2) e;obtain⟨ln,lc,hbz,c0,c1,c2,c3,c4,c5,v1⟩:=d1 k hk
 have R1:(k:Int)<(x.length:Int):=by omega
 obtain⟨m,hm⟩:=J (l.length);obtain⟨Wq,hG⟩:=J (λi=>fU Wx x ((nth x k).ae.getD i 0) (l.getD i noS));rw[<-hm,<-hG]
 have S1:(m:Int)<=16:=by omega
 have T1:(m:Int)<=(cap:Int):=by omega
 have M0:Y (∀o o',D w ((w.alloc o).alloc o')):=λo o'=>(bA).alloc (by simp) _
 have HN:Y ((nth x k).kind=7->(nth x k).ae.length=m->∀i,i<m->∃(lb lo j:Nat) (lnj:Option Addr) (lcj:Nat),ln=some (O lb lo)/\(j:Int)<(x.length:Int)/\j<x.length/\(nth x k).ae.getD i 0=(j:Int)/\∃nj,nj=nth x j/\At w [((O lb (lo+i)),I (j:Int)),((O b (off+j*6)),I nj.kind),((O b (off+j*6+1)),I nj.ak),((O b (off+j*6+2)),I nj.a),((O b (off+j*6+3)),I nj.b),((O b (off+j*6+4)),I nj.c),((O b (off+j*6+5)),A lnj nj.ae.length lcj)]):=λh7 aL i hi=>by
  have C0:i<(nth x k).ae.length:=(by omega);obtain⟨la2,lc2,e0,-,-,M1⟩:=v1;simp only[slice.injEq]at e0;obtain⟨lb,lo,e8,hlb,O1⟩:=M1 (by intro hh;rw[hh]at C0;simp at C0);have e:(nth x k).ae.getD i 0=(nth x k).ae[i]:=(by rw[Qa,Qb C0];rfl);obtain⟨U1,x1⟩:=hx.k7 k hk h7 _ (getElem_mem C0);obtain⟨ln',lc',hb,t0,t1,t2,t3,t4,t5,-⟩:=d1 _ x1;have c9:=O1 i C0;have ej:(nth x k).ae[i]=(((nth x k).ae[i]).toNat:Int):=(by omega);rw[e,ej]at c9;exact⟨lb,lo,_,ln',lc',e0.1.trans e8,by omega,x1,e.trans ej,_,rfl,⟨hlb,c9⟩,⟨hb,t0⟩,⟨hb,t1⟩,⟨hb,t2⟩,⟨hb,t3⟩,⟨hb,t4⟩,⟨hb,t5⟩,trivial⟩
 have y1:Y (∀i,i<m->ygv w x (.agg #[A la ll lcp,Sq b off x.length cap2]) Wx ao i (l.getD i noS)):=by rw[hm];exact hl
 have D0:Y (∀i,Wq i=fU Wx x ((nth x k).ae.getD i 0) (l.getD i noS)):=λi=>by rw[hG]
 have HX:=Z hx;clear hl d1 h v1 hm hG b1 L1 hx
 cases h7:((nth x k).kind==7)
 ·have b7:((nth x k).kind !=7)=true:=by rw[bne,h7];rfl
  rw[zv7,h7,Bool.false_and];clear HN D0 h7;generalize nth x k=n at*
  go_enter func39,ntmps39
  go_wp2;go_ret;exact⟨rfl,M0 _ _⟩
 have b7:((nth x k).kind !=7)=false:=by rw[bne,h7];rfl
 rw[zv7,h7,Bool.true_and]
 by_cases aL:(nth x k).ae.length=m
 rotate_left
 ·have b8:(((nth x k).ae.length:Int) !=(m:Int))=true:=by rw[bne_iff_ne];omega
  rw[decide_eq_false aL,Bool.false_and];clear HN D0 h7 aL;generalize nth x k=n at*
  go_enter func39,ntmps39
  go_wp2;go_ret;exact⟨rfl,M0 _ _⟩
 rw[aL]at c5
 have b8:(((m:Nat):Int) !=(m:Int))=false:=by simp
 have e1:=HN (by simpa using h7) aL;rw[decide_eq_true aL,Bool.true_and];obtain⟨aX,m0⟩:=J ((range m).all Wq);rw[<-m0]
 have i0:Y (∀i,i<m->Wq i=false->aX=false):=λi hi hg=>by rw[m0];exact all_eq_false.2 ⟨i,mem_range.2 hi,by rw[hg];simp⟩
 have q0:Y ((∀i,i<m->Wq i=true)->aX=true):=λhh=>by rw[m0];exact all_eq_true.2 λi hi=>hh i (mem_range.1 hi)
 obtain⟨q,hq⟩:=J ((nth x k).ae);rw[<-hq]at e1 D0;clear HN h7 aL m0 hq;generalize nth x k=n at*
 go_enter func39,ntmps39
 go_wp2_with fail
 obtain⟨W0,N0⟩:=J ((w.alloc (.cells #[A la ll lcp,Sq b off x.length cap2] 30)).alloc (.cells #[I n.kind,I n.ak,I n.a,I n.b,I n.c,A ln m lc] 73))
 have A1:Y (D w W0):=by show Below _ _ _;rw[N0];exact M0 _ _
 have B1:Y (At W0 [((O w.heap.size 0),A la ll lcp),((O w.heap.size 1),Sq b off x.length cap2),((O (w.heap.size+1) 5),A ln m lc)]):=by rw[N0];exact⟨⟨by simp;omega,by simp⟩,⟨by simp;omega,by simp⟩,⟨by simp,by simp⟩,trivial⟩
 rw[<-N0];clear N0 c0 c1 c2 c3 c4 c5 M0 hbz
 go_loopw [8] (λi wr=>D w wr/\At wr [((O w.heap.size 0),A la ll lcp),((O w.heap.size 1),Sq b off x.length cap2),((O (w.heap.size+1) 5),A ln m lc)]/\∃j:Nat,j<=m/\i=I j/\∀q,q<j->Wq q=true) (λi _=>m - (intOf i).toNat)
 case atStart=>exact⟨A1,B1,0,by omega,rfl,λq hq=>by omega⟩
 case round=>
  obtain⟨hB,C1,i,hi,rfl,aT⟩:=hrel;have HB:=Z hB;have D1:=Z C1;have x0:=Z aT;clear hB C1 aT A1 B1
  by_cases g1:i<m
  ·obtain⟨lb,lo,j,lnj,lcj,rfl,V1,hj,E1,nj,E0,F1⟩:=e1 i g1
   obtain⟨sb,ba,bn,bc,oa,on,oc,rfl,O0,h1,i1,j1⟩:=y1 i g1;have P0:=D0 i;rw[E1]at P0;obtain⟨s,hs⟩:=J (l.getD i noS);rw[<-hs]at P0 O0 h1 i1 j1;obtain⟨g3,g5,g6⟩:=yb9 Wx x j s;rw[<-P0,<-E0]at g3 g5 g6;obtain⟨sk,G1⟩:=J ((s.kind:Int));rw[<-G1]at g3 g5 g6 O0;have B0:Y (sk=3\/sk=4->Wq i=(nj.kind==sk && (bM x nj.b s.e && nj.a==(s.x:Int)))):=λhh=>g3 (by omega);have F0:Y (sk=5->Wq i=(nj.kind==sk && (bM x nj.a s.e && Wx nj.b s.aZ && Wx nj.c s.aU))):=λhh=>g5 (by omega);have G0:Y (sk=6->Wq i=(nj.kind==sk && (bM x nj.a s.e && Wx nj.b s.aZ))):=λhh=>g6 (by omega)
   have Q0:Y ((nj.kind==sk)=false->Wq i=false):=λhh=>by
    rcases h1 with h9|h9|h9|h9
    ·rw[B0 (by omega),hh];rfl
    ·rw[B0 (by omega),hh];rfl
    ·rw[F0 (by omega),hh];rfl
    ·rw[G0 (by omega),hh];rfl
   have R0:Y (sk=3\/sk=4\/sk=5\/sk=6):=(by show _\/_;omega);have H0:=Z i1;have S0:=Z j1;have T0:Y (nj.kind=3\/nj.kind=4->zz7 x nj.b):=(by rw[E0];exact HX.k3 j hj);have I0:Y (nj.kind=5\/nj.kind=6->zz7 x nj.a/\zz7 x nj.b):=(by rw[E0];exact HX.k5 j hj);have U0:Y (nj.kind=5->zz7 x nj.c):=(by rw[E0];exact HX.k6 j hj);have P1:(i:Int)<(m:Int):=(by omega);have r0:=Z (i0 i g1)
   have l1:Y (Wq i=true->∀q,q<i+1->Wq q=true):=λh0 q hq=>by
    by_cases Q1:q=i
    ·rw[Q1];exact h0
    ·exact x0 q (by omega)
   obtain⟨⟨-,a0⟩,⟨-,a1⟩,⟨-,a2⟩,⟨-,a3⟩,⟨-,a4⟩,⟨-,a5⟩,⟨-,a6⟩,⟨-,a7⟩,⟨-,a8⟩,⟨-,a9⟩,-⟩:=O0.below HB.out;have H1:Y (At wr (((O lb (lo+i)),I (j:Int))::((O b (off+j*6)),I nj.kind)::((O b (off+j*6+1)),I nj.ak)::((O b (off+j*6+2)),I nj.a)::((O b (off+j*6+3)),I nj.b)::((O b (off+j*6+4)),I nj.c)::((O b (off+j*6+5)),A lnj nj.ae.length lcj)::[((O w.heap.size 0),A la ll lcp),((O w.heap.size 1),Sq b off x.length cap2),((O (w.heap.size+1) 5),Sq lb lo m lc)])):=by
    obtain⟨k0,k1,k2,k3,k4,k5,k6,-⟩:=F1.below HB.out;exact⟨k0,k1,k2,k3,k4,k5,k6,D1⟩
   have V0:=Z (H1.bh (I sk) (I (s.x:Int)) (I (s.aq:Int)) (I s.e.op) (.bool s.e.a.var) (I (s.e.a.v:Int)) (.bool s.e.b.var) (I (s.e.b.v:Int)) (A ba bn bc) (A oa on oc) 91 wr.heap.size rfl);clear F1 O0 P0 hs h1 i1 j1 g3 g5 g6 G1 E0 E1 x0 i0 q0 e1 y1 D0 HX hj
   go_upto_region 8 with fail
   obtain⟨W4,X0⟩:=J (wr.alloc (.cells #[I sk,I (s.x:Int),I (s.aq:Int),I s.e.op,.bool s.e.a.var,I (s.e.a.v:Int),.bool s.e.b.var,I (s.e.b.v:Int),A ba bn bc,A oa on oc] 91));obtain⟨N1,m1⟩:=J (wr.heap.size);have n1:Y (D w W4):=(by show Below _ _ _;rw[X0];exact HB.alloc HB.size _);rw[<-X0,<-m1]at V0;rw[<-X0,<-m1]
   have HS:Y (∀W,D W4 W->At W [((O lb (lo+i)),I (j:Int)),((O b (off+j*6)),I nj.kind),((O b (off+j*6+1)),I nj.ak),((O b (off+j*6+2)),I nj.a),((O b (off+j*6+3)),I nj.b),((O b (off+j*6+4)),I nj.c),((O b (off+j*6+5)),A lnj nj.ae.length lcj),((O w.heap.size 1),Sq b off x.length cap2),((O (w.heap.size+1) 5),Sq lb lo m lc)]):=λW hW=>by
    obtain⟨-,-,-,-,-,-,-,-,-,-,k0,k1,k2,k3,k4,k5,k6,-,k7,k8,-⟩:=V0.below hW;exact⟨k0,k1,k2,k3,k4,k5,k6,k7,k8,trivial⟩
   clear X0 m1 a0 a1 a2 a3 a4 a5 a6 a7 a8 a9 D1 HB H1;refine Zk HS (dA) [9] [10] [] (by kernel_rfl) (λ_ _ _ _ h=>h) (λops hG=>?_);clear hG
   iterate 9 refine Zv rfl (by rintro _ ⟨⟨-,_⟩,⟨-,_⟩,⟨-,_⟩,⟨-,_⟩,⟨-,_⟩,⟨-,_⟩,⟨-,_⟩,⟨-,_⟩,⟨-,_⟩,-⟩;go_simp<;>rfl) (by go_simp<;>rfl) ?_
   refine Zm ?_
   go_wp2_with fail
   refine⟨HS _ (bA).drew,?_⟩;refine Xx ?_
   go_wp2_with fail
   refine Zs ?_;clear HS;obtain⟨W5,Y0⟩:=J ((W4.alloc (.cells #[I nj.kind,I nj.ak,I nj.a,I nj.b,I nj.c,A lnj nj.ae.length lcj] 73)).drew);obtain⟨N2,o1⟩:=J (W4.heap.size);have l0:Y (D w W5):=(by show Below _ _ _;rw[Y0];exact(n1.alloc n1.size _).drew);have h5:=(V0.node nj.kind nj.ak nj.a nj.b nj.c (A lnj nj.ae.length lcj) 73 N2 o1.symm).below dA;rw[<-Y0]at h5;have Z0:=Z h5;clear h5;rw[<-Y0,<-o1];clear Y0 o1 V0 n1;obtain⟨⟨-,n0⟩,-,⟨-,n2⟩,⟨-,n3⟩,⟨-,n4⟩,-,⟨-,s0⟩,⟨-,s1⟩,-,⟨-,s3⟩,⟨-,s4⟩,⟨-,s5⟩,⟨-,s6⟩,⟨-,s7⟩,⟨-,s8⟩,⟨-,s9⟩,-,-,-,-,-,-,-,⟨-,f0⟩,⟨-,f1⟩,-⟩:=Z0.out
   cases hq:(nj.kind==sk)
   ·have HR:=Z (r0 (Q0 hq))
    go_wp2;go_ret;exact⟨cbE HR,l0⟩
   have p1:nj.kind=sk:=(by simpa using hq);rcases R0.out with h9|h9|h9|h9
   iterate 2
    ·have u0:=T0 (by omega)
     have HG:Y (Wq i=(bM x nj.b s.e && nj.a==(s.x:Int))):=(by show _=_;rw[B0 (by omega),hq,Bool.true_and]);have v0:Y (∀W,D w W->_):=λW hW=>A0 W hW nj.b u0 s.e;generalize bM x nj.b s.e=r1 at HG v0;subst h9;clear R0 Q0 B0 F0 G0 T0 I0 U0 H0 S0 u0 p1 A0
     go_wp2_with fail
     refine(v0 _ l0).mono ?_;rintro e w1 ⟨rfl,j0⟩;have d0:=Z (Z0.below j0);have b0:=Z (l0.trans (j0.mono l0.size));clear n0 n2 n3 n4 s0 s1 s3 s4 s5 s6 s7 s8 s9 f0 f1 j0;obtain⟨⟨-,n0⟩,-,⟨-,n2⟩,⟨-,n3⟩,⟨-,n4⟩,-,⟨-,s0⟩,⟨-,s1⟩,-,⟨-,s3⟩,⟨-,s4⟩,⟨-,s5⟩,⟨-,s6⟩,⟨-,s7⟩,⟨-,s8⟩,⟨-,s9⟩,-,-,-,-,-,-,-,z0,z1,z2,-⟩:=d0.out;have f0:=z0.2;have f1:=z1.2;have J0:Y (At w1 [((O w.heap.size 0),A la ll lcp),((O w.heap.size 1),Sq b off x.length cap2),((O (w.heap.size+1) 5),Sq lb lo m lc)]):=⟨z0,z1,z2,trivial⟩;clear z0 z1 z2
     cases r1
     ·have HR:=Z (r0 (by rw[HG.out];rfl))
      go_wp2;go_ret;exact⟨cbE HR,b0⟩
     cases I1:(nj.a==(s.x:Int))
     ·have HR:=Z (r0 (by rw[HG.out,I1];rfl))
      go_wp2;go_ret;exact⟨cbE HR,b0⟩
     ·have HR:=Z (l1 (by rw[HG.out,I1];rfl))
      go_wp2
      go_roundw
      case rel=>exact⟨b0,J0,i+1,by omega,by go_num,HR⟩
      case measure=>simp[intOf];omega
   ·obtain⟨K0,u0⟩:=I0 (by omega)
    have J1:=U0 (by omega);have HG:Y (Wq i=(bM x nj.a s.e && Wx nj.b s.aZ && Wx nj.c s.aU)):=(by show _=_;rw[F0 h9,hq,Bool.true_and]);have v0:Y (∀W,D w W->_):=λW hW=>A0 W hW nj.a K0 s.e;have L0:Y (∀W,D w W->E 39 #[.agg #[A la ll lcp,Sq b off x.length cap2],I nj.b,A ba bn bc] W (Rw (.bool (Wx nj.b s.aZ)) W)):=λW hW=>H0 W hW nj.b u0;have K1:Y (∀W,D w W->E 39 #[.agg #[A la ll lcp,Sq b off x.length cap2],I nj.c,A oa on oc] W (Rw (.bool (Wx nj.c s.aU)) W)):=λW hW=>S0 W hW nj.c J1;generalize bM x nj.a s.e=r1 at HG v0;generalize Wx nj.b s.aZ=r2 at HG L0;generalize Wx nj.c s.aU=r3 at HG K1;subst h9;clear R0 Q0 B0 F0 G0 T0 I0 U0 H0 S0 K0 u0 J1 p1 A0
    go_wp2_with fail
    refine(v0 _ l0).mono ?_;rintro e w1 ⟨rfl,j0⟩;have d0:=Z (Z0.below j0);have b0:=Z (l0.trans (j0.mono l0.size));clear n0 n2 n3 n4 s0 s1 s3 s4 s5 s6 s7 s8 s9 f0 f1 j0;obtain⟨⟨-,n0⟩,-,⟨-,n2⟩,⟨-,n3⟩,⟨-,n4⟩,-,⟨-,s0⟩,⟨-,s1⟩,-,⟨-,s3⟩,⟨-,s4⟩,⟨-,s5⟩,⟨-,s6⟩,⟨-,s7⟩,⟨-,s8⟩,⟨-,s9⟩,-,-,-,-,-,-,-,z0,z1,z2,-⟩:=d0.out;have f0:=z0.2;have f1:=z1.2
    go_wp2_with fail
    refine(L0 _ b0).mono ?_;rintro e w2 ⟨rfl,y0⟩;have o0:=Z (d0.below y0);have g0:=Z (b0.trans (y0.mono b0.size));clear n0 n2 n3 n4 s0 s1 s3 s4 s5 s6 s7 s8 s9 f0 f1 y0;obtain⟨⟨-,n0⟩,-,⟨-,n2⟩,⟨-,n3⟩,⟨-,n4⟩,-,⟨-,s0⟩,⟨-,s1⟩,-,⟨-,s3⟩,⟨-,s4⟩,⟨-,s5⟩,⟨-,s6⟩,⟨-,s7⟩,⟨-,s8⟩,⟨-,s9⟩,-,-,-,-,-,-,-,z0,z1,z2,-⟩:=o0.out;have f0:=z0.2;have f1:=z1.2
    go_wp2_with fail
    refine(K1 _ g0).mono ?_;rintro e w3 ⟨rfl,q1⟩;have u1:=Z (o0.below q1);have p0:=Z (g0.trans (q1.mono g0.size));clear n0 n2 n3 n4 s0 s1 s3 s4 s5 s6 s7 s8 s9 f0 f1 q1;obtain⟨⟨-,n0⟩,-,⟨-,n2⟩,⟨-,n3⟩,⟨-,n4⟩,-,⟨-,s0⟩,⟨-,s1⟩,-,⟨-,s3⟩,⟨-,s4⟩,⟨-,s5⟩,⟨-,s6⟩,⟨-,s7⟩,⟨-,s8⟩,⟨-,s9⟩,-,-,-,-,-,-,-,z0,z1,z2,-⟩:=u1.out;have f0:=z0.2;have f1:=z1.2;have J0:Y (At w3 [((O w.heap.size 0),A la ll lcp),((O w.heap.size 1),Sq b off x.length cap2),((O (w.heap.size+1) 5),Sq lb lo m lc)]):=⟨z0,z1,z2,trivial⟩;clear z0 z1 z2
    cases r1
    ·have HR:=Z (r0 (by rw[HG.out];rfl))
     go_wp2;go_ret;exact⟨cbE HR,p0⟩
    cases r2
    ·have HR:=Z (r0 (by rw[HG.out];rfl))
     go_wp2;go_ret;exact⟨cbE HR,p0⟩
    cases r3
    ·have HR:=Z (r0 (by rw[HG.out];rfl))
     go_wp2;go_ret;exact⟨cbE HR,p0⟩
    ·have HR:=Z (l1 (by rw[HG.out];rfl))
     go_wp2
     go_roundw
     case rel=>exact⟨p0,J0,i+1,by omega,by go_num,HR⟩
     case measure=>simp[intOf];omega
   ·obtain⟨K0,u0⟩:=I0 (by omega)
    have HG:Y (Wq i=(bM x nj.a s.e && Wx nj.b s.aZ)):=(by show _=_;rw[G0 h9,hq,Bool.true_and]);have v0:Y (∀W,D w W->_):=λW hW=>A0 W hW nj.a K0 s.e;have L0:Y (∀W,D w W->E 39 #[.agg #[A la ll lcp,Sq b off x.length cap2],I nj.b,A ba bn bc] W (Rw (.bool (Wx nj.b s.aZ)) W)):=λW hW=>H0 W hW nj.b u0;generalize bM x nj.a s.e=r1 at HG v0;generalize Wx nj.b s.aZ=r2 at HG L0;subst h9;clear R0 Q0 B0 F0 G0 T0 I0 U0 H0 S0 K0 u0 p1 A0
    go_wp2_with fail
    refine(v0 _ l0).mono ?_;rintro e w1 ⟨rfl,j0⟩;have d0:=Z (Z0.below j0);have b0:=Z (l0.trans (j0.mono l0.size));clear n0 n2 n3 n4 s0 s1 s3 s4 s5 s6 s7 s8 s9 f0 f1 j0;obtain⟨⟨-,n0⟩,-,⟨-,n2⟩,⟨-,n3⟩,⟨-,n4⟩,-,⟨-,s0⟩,⟨-,s1⟩,-,⟨-,s3⟩,⟨-,s4⟩,⟨-,s5⟩,⟨-,s6⟩,⟨-,s7⟩,⟨-,s8⟩,⟨-,s9⟩,-,-,-,-,-,-,-,z0,z1,z2,-⟩:=d0.out;have f0:=z0.2;have f1:=z1.2
    go_wp2_with fail
    refine(L0 _ b0).mono ?_;rintro e w2 ⟨rfl,y0⟩;have o0:=Z (d0.below y0);have g0:=Z (b0.trans (y0.mono b0.size));clear n0 n2 n3 n4 s0 s1 s3 s4 s5 s6 s7 s8 s9 f0 f1 y0;obtain⟨⟨-,n0⟩,-,⟨-,n2⟩,⟨-,n3⟩,⟨-,n4⟩,-,⟨-,s0⟩,⟨-,s1⟩,-,⟨-,s3⟩,⟨-,s4⟩,⟨-,s5⟩,⟨-,s6⟩,⟨-,s7⟩,⟨-,s8⟩,⟨-,s9⟩,-,-,-,-,-,-,-,z0,z1,z2,-⟩:=o0.out;have f0:=z0.2;have f1:=z1.2;have J0:Y (At w2 [((O w.heap.size 0),A la ll lcp),((O w.heap.size 1),Sq b off x.length cap2),((O (w.heap.size+1) 5),Sq lb lo m lc)]):=⟨z0,z1,z2,trivial⟩;clear z0 z1 z2
    cases r1
    ·have HR:=Z (r0 (by rw[HG.out];rfl))
     go_wp2;go_ret;exact⟨cbE HR,g0⟩
    cases r2
    ·have HR:=Z (r0 (by rw[HG.out];rfl))
     go_wp2;go_ret;exact⟨cbE HR,g0⟩
    ·have HR:=Z (l1 (by rw[HG.out];rfl))
     go_wp2
     go_roundw
     case rel=>exact⟨g0,J0,i+1,by omega,by go_num,HR⟩
     case measure=>simp[intOf];omega
  ·have P1:¬(i:Int)<(m:Int):=by omega
   have HR:=Z (q0.out λq hq=>x0 q (by omega));go_wp2;go_ret;exact⟨cbE HR,HB⟩
section
variable{nv:Value}
def zk5(h:Ye w Cb Pb Lb Rl vv nv hv p vs x)(kn:Nat)(hk:kn<x.length)(a:Option Addr)(c:Nat)(len:Nat)(hc:len<=c)(aL:len<=16)(f:Nat->Bool)
  (cZ:∀i,i<len->∃b off sp,a=some (O b off)/\(∀W,D w W->W.cell? (O b (off+i))=some (.pointer sp))/\((nth x kn).kind=7->(nth x kn).ae.length=len->∀W,D w W->E 118 #[F Cb,I ((nth x kn).ae.getD i 0),.pointer sp] W (Rw (.bool (f i)) W))):
  E 79 #[F Cb,I kn,A a len c] w (Rw (.bool (decide ((nth x kn).kind=7) && (decide ((nth x kn).ae.length=len) && (range len).all f))) w):=by
 obtain⟨nb,ju,cap,lv,rfl,e0⟩:=h.gq kn hk;obtain⟨no,dt⟩:=J (ju+kn*6);obtain⟨n,hn⟩:=J (nth x kn);rw[<-hn]at cZ e0⊢;rw[<-dt]at e0;obtain⟨la,lc,rfl,z0,-,j0⟩:=e0.li;have c2:=h.c2
 have A0:(kn:Int)<(x.length:Int):=by omega
 have hz:=e0.hz;have n0:=e0.c0;have n5:=e0.c5;have HN:Y (∀W,D w W->M W nb (no+5) (A la n.ae.length lc)):=λW hW=>cT hW hz n5
 have u0:Y (∀i,i<n.ae.length->∃b off,la=some (O b off)/\∀W,D w W->M W b (off+i) (I (n.ae.getD i 0))):=λi hi=>by
  obtain⟨b,off,e,hb,v0⟩:=j0 (by intro h;rw[h]at hi;simp at hi);exact⟨b,off,e,λW hW=>cT hW hb (v0 i hi)⟩
 obtain⟨aX,b0⟩:=J ((decide (n.kind=7) && (decide (n.ae.length=len) && (range len).all f)));rw[<-b0];have a0:=Z b0;have B0:=Z dt
 have o0:(len:Int)<=16:=by omega
 have C0:(len:Int)<=(c:Int):=by omega
 by_cases h7:n.kind=7
 ·have e7:(n.kind !=7)=false:=by simp[h7]
  by_cases hl:n.ae.length=len
  ·have el:((n.ae.length:Int) !=(len:Int))=false:=by simp[hl]
   have HE:Y (aX=(range len).all f):=(by show _=_;rw[a0.out,decide_eq_true h7,decide_eq_true hl];simp)
   have x0:Y (∀i,i<len->∃b off sp,a=some (O b off)/\(∀W,D w W->M W b (off+i) (.pointer sp))/\(∀W,D w W->E 118 #[F Cb,I (n.ae.getD i 0),.pointer sp] W (Rw (.bool (f i)) W))):=λi hi=>by
    obtain⟨b,off,sp,e1,e2,e3⟩:=cZ i hi;exact⟨b,off,sp,e1,e2,e3 h7 hl⟩
   have HL:=Z hl;clear h e0 cZ b0 hn a0 h7 hl j0;subst dt
   go_enter func79,ntmps79
   go_wp2_with fail
   go_loopw [33] (λi wr=>D w wr/\∃k:Nat,k<=len/\i=I k/\(range k).all f=true) (λi _=>len - (intOf i).toNat)
   case atStart=>exact⟨Below.refl _ _,0,Nat.zero_le _,rfl,rfl⟩
   case round=>
    obtain⟨p0,k,D0,rfl,aT⟩:=hrel;have g0:=Z p0;have i0:=Z aT;clear p0 aT
    by_cases k0:k<len
    ·have l0:(k:Int)<(len:Int):=by omega
     obtain⟨b,off,sp,rfl,q0,d0⟩:=x0 k k0;obtain⟨b2,off2,rfl,r0⟩:=u0 k (by rw[HL.out];exact k0);have d1:=q0 wr g0.out;have d2:=r0 wr g0.out;have d3:=HN wr g0.out;have E0:(k:Int)<(n.ae.length:Int):=(by have:=HL.out;omega);obtain⟨j,hj⟩:=J (n.ae.getD k 0);rw[<-hj]at d2 d0;have f0:=Z (d0 wr g0.out)
     have HF:Y (f k=false->(range len).all f=false):=λh0=>by
      rw[all_eq_false];exact⟨k,mem_range.2 k0,by rw[h0];simp⟩
     have HT:Y (f k=true->(range (k+1)).all f=true):=λh0=>by rw[range_succ,all_append,i0.out];simp[h0]
     generalize f k=fk at f0 HF HT;clear q0 r0 d0 hj
     go_wp2_with fail
     refine f0.mono ?_;rintro e w1 ⟨rfl,s0⟩;have t0:=Z (g0.trans (s0.mono g0.size));clear s0
     cases fk with
     |false=>
      have m0:Y (aX=false):=(by show _=_;rw[HE.out];exact HF rfl);go_wp2;go_ret;exact⟨cbE m0,t0⟩
     |true=>
      have y0:=Z (HT rfl);go_wp2
      go_roundw
      case rel=>exact⟨t0,k+1,by omega,by go_num,y0⟩
      case measure=>simp[intOf];omega
    have l0:¬(k:Int)<(len:Int):=(by omega);have m0:Y (aX=true):=by
     show _=_;rw[HE.out];have h1:=i0.out;rw[show k=len by omega]at h1;exact h1
    go_wp2;go_ret;exact⟨cbE m0,g0⟩
  have el:((n.ae.length:Int) !=(len:Int))=true:=(by rw[bne_iff_ne];omega);have HE:Y (aX=false):=(by show _=_;rw[a0.out,decide_eq_false hl];simp);clear h e0 cZ b0 hn a0 h7 hl j0;subst dt
  go_enter func79,ntmps79
  go_wp2;go_ret;exact⟨cbE HE,Below.refl _ _⟩
 have e7:(n.kind !=7)=true:=by rw[bne_iff_ne];exact h7
 have HE:Y (aX=false):=by show _=_;rw[a0.out,decide_eq_false h7];simp
 clear h e0 cZ b0 hn a0 h7 j0;subst dt
 go_enter func79,ntmps79
 go_wp2;go_ret;exact⟨cbE HE,Below.refl _ _⟩
end
section
variable{nv:Value}
def ybz:zex Cb Pb Lb Rl vv nv hv p vs x S 0:=by
 intro w k v l h hS hk a0 _;obtain⟨rfl,rfl⟩:=a0;obtain⟨kn,b0⟩:∃kn:Nat,(kn:Int)=k:=⟨k.toNat,by have:=hk.1;omega⟩
 have e0:k.toNat=kn:=by omega
 have h1:=zk5 h kn (by have:=hk.2;omega) none 0 0 lE (by omega) (λ_=>true) (λi hi=>by omega);rw[b0]at h1;refine h1.mono ?_;rintro e w' ⟨rfl,hw⟩;refine⟨?_,hw⟩;unfold de nd;rw[e0]
 congr 3
 by_cases hl:(nth x kn).ae=[]
 ·simp[hl]
 have:(nth x kn).ae.length≠0:=λh=>hl (Qi h);simp[hl,this]
def yby(hx:XOk x)(H:zex Cb Pb Lb Rl vv nv hv p vs x S d):zex Cb Pb Lb Rl vv nv hv p vs x S (d+1):=by
 intro w k v l h hS hk g0 h0;obtain⟨ao,cap,rfl,hc,-,i0,a0⟩:=g0;obtain⟨kn,j0⟩:∃kn:Nat,(kn:Int)=k:=⟨k.toNat,by have:=hk.1;omega⟩
 have e0:k.toNat=kn:=by omega
 have c0:kn<x.length:=by have:=hk.2;omega
 have h1:=zk5 h kn c0 ao cap l.length hc i0 (λi=>fU (de d x) x ((nth x kn).ae.getD i 0) (l.getD i noS)) (λi hi=>by
  obtain⟨b,off,e,hb,k0⟩:=a0 (by rintro rfl;simp at hi);obtain⟨q,hq,d0⟩:=k0 i hi;obtain⟨sb,vp,fv,ev,rfl,-⟩:=id d0;refine⟨b,off,some (O sb 0),e,λW hW=>cT hW (hS b hb) hq,λh7 aL W hW=>?_⟩;have b0:=h0 i hi;have fg:(nth x kn).ae.getD i 0∈(nth x kn).ae:=by
   have f0:i<(nth x kn).ae.length:=(by omega);rw[Qa,Qb f0];exact getElem_mem f0
  exact yq9 hx H (h.below hW) (λb hb=>Qj (hS b hb) hW.size) _ (hx.k7 kn c0 h7 _ fg) _ _ (d0.kept (λv l hh=>Yz.kept (λb hb=>hb) (λb hb=>hW.block b (hS b hb)) _ _ _ hh) (λb hb=>hb) (λb hb=>hW.block b (hS b hb))) b0.1 b0.2.1 b0.2.2)
 rw[j0]at h1;refine h1.mono ?_;rintro e w' ⟨rfl,hw⟩;refine⟨?_,hw⟩;unfold de nd;rw[e0]
def zi1(hx:XOk x):∀d,zex Cb Pb Lb Rl vv nv hv p vs x S d
 |0=>ybz
 |d+1=>yby hx (zi1 hx d)
end
def zv8:Array Value:=#[I 0,.func (.func 109) #[] #[],I 0,.func (.func 110) #[] #[],I 0,.func (.func 111) #[] #[],I 1,.func (.func 112) #[] #[],I 1,.func (.func 113) #[] #[],I 1,.func (.func 114) #[] #[],I 1,.func (.func 115) #[] #[],I 2,.func (.func 116) #[] #[]]
def yj0(w:World):E 77 #[] w λe w'=>e=.returned (Sq w.heap.size 0 8 8)/\w'=w.alloc (.cells zv8 221):=by
 go_enter func77,ntmps77
 go_wp2;go_ret;exact⟨rfl,rfl⟩
def yj1(h:w.heap[Rl]?=some (.cells zv8 221 (0,0))):∀k,k<8->w.cell? (O Rl (k*2))=some (I (zj5 k))/\w.cell? (O Rl (k*2+1))=some (.func (.func (ze9 k)) #[] #[]):=by
 intro k hk;rw[cell_of_row _ _ (k*2) _ _ (0,0) h,cell_of_row _ _ (k*2+1) _ _ (0,0) h];rcases(show k=0\/k=1\/k=2\/k=3\/k=4\/k=5\/k=6\/k=7 by omega) with rfl|rfl|rfl|rfl|rfl|rfl|rfl|rfl<;>exact⟨rfl,rfl⟩
def yx6{xs ys:Is}(hp:Pb<w.heap.size)(c1:w.cell? (O Pb 1)=some aB)(hx:Zw w.heap.size w aB xs)(hy:Zw w.heap.size w lv ys)(hl:xs.length<=10000/\ys.length<=10000):
  E 76 #[F Pb,lv] w λe w'=>D w w'/\∃a c,e=.returned (A a (xs++ys).length c)/\Zw w'.heap.size w' (A a (xs++ys).length c) (xs++ys):=by
 obtain⟨a0,k0,e0⟩:=Jv hx;obtain⟨a1,k1,e1⟩:=Jv hy;subst e0;subst e1;have hB:D w (w.alloc (.cells #[A a0 xs.length k0,A a1 ys.length k1] 27)):=bA;obtain⟨zs,b0⟩:=J (xs++ys);have HC:Y (E 108 #[Sq w.heap.size 0 2 2] (w.alloc (.cells #[A a0 xs.length k0,A a1 ys.length k1] 27)) λe w'=>D w w'/\∃a c,e=.returned (A a zs.length c)/\Zw w'.heap.size w' (A a zs.length c) zs):=by
  refine(ym6 (w.alloc (.cells #[A a0 xs.length k0,A a1 ys.length k1] 27)) w.heap.size _ _ xs ys (by simp) (by simp) (by simp) ((hx.below hB).mono hB.size) ((hy.below hB).mono hB.size) hl).mono ?_;rintro e w' ⟨hb,v,rfl,ho⟩;rw[<-b0]at ho;refine⟨hB.trans (hb.mono hB.size),?_⟩;have hi:=Zw.dp ho;obtain⟨a,c,e⟩:=Jv hi;subst e;exact⟨a,c,rfl,hi⟩
 rw[<-b0];clear hx hy b0 hB
 go_enter func76,ntmps76
 go_wp2_with fail
 refine HC.mono ?_;rintro e w1 ⟨hb,a,c,rfl,hi⟩;have HE:Y (D w w1/\Zw w1.heap.size w1 (A a zs.length c) zs):=⟨hb,hi⟩;clear hb hi;go_wp2;go_ret;exact⟨HE.1,a,c,rfl,HE.2⟩
def yf0(aX:Nat×Int)(w:World)(e:Ending)(w':World):Prop:=
 D w w'/\((aX.1=0/\e=.returned .nilIface)\/(aX.1=10/\e=.returned (.iface 23 (I 10)))\/(aX.1=9/\∃a,e=.returned (.iface 124 (F a))/\w'.cell? (O a 0)=some (I 9)/\w'.cell? (O a 1)=some (I aX.2)))
def yf1(u:World)(o:Obj)(k:Nat)(hk:u.heap.size=k):(u.alloc o).heap[k]?=some o:=by subst hk;exact heap_alloc_last u o
structure CpIn(w:World)(Pb Lb:Nat)(aB hv bv lv nv:Value)(p:aY)(S:Nat->Prop)(ls:Is)(x:List ar):Prop where
 hz:Pb<w.heap.size/\Lb<w.heap.size
 p0:w.cell? (O Pb 0)=some (F Lb)
 p1:w.cell? (O Pb 1)=some aB
 p2:w.cell? (O Pb 2)=some hv
 p3:w.cell? (O Pb 3)=some (I p.ap)
 p4:w.cell? (O Pb 4)=some bv
 la:Jo w Lb p.n p.leq
 ci:Zw w.heap.size w aB (p.cells.map λ(y:Nat)=>(y:Int))
 hi:Zw w.heap.size w hv (p.ai.map λ(y:Nat)=>(y:Int))
 bs:Yz 4 S w bv p.aZ
 hS:∀b,S b->b<w.heap.size
 li:Zw w.heap.size w lv ls
 no:Zl w.heap.size w nv x
 n6:p.n<=6
 cl:p.cells.length<=6/\p.ai.length<=3
 cv:(∀y∈p.cells,y<p.n)/\∀y∈p.ai,y<p.n
 kd:Ji 4 p.aZ
 l0:ls.length<=4/\∀y∈ls,0<=y
 x0:0<x.length/\x.length<=200
 xo:XOk x
def CpIn.below{w w':World}{Pb Lb:Nat}{aB hv bv lv nv:Value}{p:aY}{S:Nat->Prop}{ls:Is}{x:List ar}(h:CpIn w Pb Lb aB hv bv lv nv p S ls x)(hb:D w w'):CpIn w' Pb Lb aB hv bv lv nv p S ls x:=by
 have hz:=hb.size;have q:∀i,w'.cell? (O Pb i)=w.cell? (O Pb i):=λi=>hb.cell h.hz.1;exact{hz:=⟨by have:=h.hz.1;omega,by have:=h.hz.2;omega⟩,p0:=(q _).trans h.p0,p1:=(q _).trans h.p1,p2:=(q _).trans h.p2,p3:=(q _).trans h.p3,p4:=(q _).trans h.p4,la:=h.la.block (hb.block _ h.hz.2),ci:=(h.ci.below hb).mono hz,hi:=(h.hi.below hb).mono hz,bs:=Yz.kept (λb hb=>hb) (λb hs=>hb.block b (h.hS b hs)) _ _ _ h.bs,hS:=λb hs=>Qj (h.hS b hs) hz,li:=(h.li.below hb).mono hz,no:=(h.no.below hb).mono hz,n6:=h.n6,cl:=h.cl,cv:=h.cv,kd:=h.kd,l0:=h.l0,x0:=h.x0,xo:=h.xo}
def CpIn.me{nv:Value}(h:CpIn w Pb Lb aB hv bv lv nv p S ls x)(hb:D w W)(b0:Zw W.heap.size W vv (vars p ls)):
  Ye ((W.alloc (.cells zv8 221)).alloc (.cells #[F Pb,vv,nv,Sq W.heap.size 0 8 8] 182)) (W.heap.size+1) Pb Lb W.heap.size vv nv hv p (vars p ls) x:=by
 have hB:D W ((W.alloc (.cells zv8 221)).alloc (.cells #[F Pb,vv,nv,Sq W.heap.size 0 8 8] 182)):=(bA).alloc (by simp) _;have h2:=(h.below hb).below hB;obtain⟨W3,a0⟩:=J (((W.alloc (.cells zv8 221)).alloc (.cells #[F Pb,vv,nv,Sq W.heap.size 0 8 8] 182)))
 have rC:W3.heap[W.heap.size+1]?=some (.cells #[F Pb,vv,nv,Sq W.heap.size 0 8 8] 182 (0,0)):=by rw[a0];exact yf1 _ _ _ (by simp)
 have rR:W3.heap[W.heap.size]?=some (.cells zv8 221 (0,0)):=by rw[a0,Below.heap_alloc _ _ _ (by simp)];exact yf1 _ _ _ rfl
 have d0:W3.heap.size=W.heap.size+2:=by rw[a0];simp
 rw[<-a0]at h2 hB⊢;exact{hz:=⟨by omega,h2.hz.1,h2.hz.2,by omega⟩,c0:=cR 0 rC,c1:=cR 1 rC,c2:=cR 2 rC,c3:=cR 3 rC,p0:=h2.p0,p2:=h2.p2,la:=h2.la,vi:=(b0.below hB).mono hB.size,hi:=h2.hi,no:=h2.no,ru:=yj1 rR,n6:=h2.n6}
end Go.Proofs.YtgmbnnpnefniiaaGreatDoor
