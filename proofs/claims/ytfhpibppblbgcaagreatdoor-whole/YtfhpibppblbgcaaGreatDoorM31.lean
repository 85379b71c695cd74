import Derived.Test.YtfhpibppblbgcaaGreatDoorM30
set_option linter.all false
set_option maxRecDepth 100000
set_option maxHeartbeats 40000000
namespace Go.Proofs.YtfhpibppblbgcaaGreatDoor
open Go.RowKit Go.Proofs.Tryz
variable{w:World}{Cb Pb Lb Rl d:Nat}{vv hv v bD:Value}{p:Fl.aS}{ls vs:List Int}{x:List Fl.ar}{S:Nat->Prop}
structure NdOk(p:Fl.aS)(x:List Fl.ar)(n:Fl.ar):Prop where
 kd:0<=n.kind/\n.kind<=7
 lv:0<=n.ag
 k1:n.kind=1->0<=n.a
 k2:n.kind=2->POk p x n.b/\POk p x n.c
 k3:n.kind=3\/n.kind=4->0<=n.a/\POk p x n.b
 k5:n.kind=5\/n.kind=6->POk p x n.a/\POk p x n.b
 k6:n.kind=5->POk p x n.c
 k7:n.kind=7->(∀k∈n.aU,POk p x k)/\n.aU.length<=100
section
variable{nb no:Nat}{nv lv:Value}{n:Fl.ar}
def yg2(h:Xy w Cb Pb Lb Rl vv nv hv p (Fl.bN p ls) x)(hn:zw6 w nb no n lv)(ho:NdOk p x n)(hl:n.ag<p.n)(b0:∀y∈Fl.bN p ls,0<=y/\y<p.n)(c0:(Fl.bN p ls).length<=100)(d0:∀y∈p.aj,y<p.n)(e0:p.aj.length<=100)(kd:Nat)(f0:(kd:Int)=n.kind):
  Cq (zf2 kd) #[Pq Cb,.pointer (some (Aq nb no))] w λe w'=>e=.returned (.bool (Fl.bS p ls x n))/\Bq w w':=by
 have hk:=ho.kd;have a0:0<=n.ag/\n.ag<p.n:=⟨ho.lv,hl⟩;rcases(show kd=0\/kd=1\/kd=2\/kd=3\/kd=4\/kd=5\/kd=6\/kd=7 by omega) with rfl|rfl|rfl|rfl|rfl|rfl|rfl|rfl
 ·have e:Fl.bS p ls x n=true:=by unfold Fl.bS;rw[if_pos (by omega)]
  rw[e];exact zez _ _
 ·have e:Fl.bS p ls x n=(decide (n.a<(Fl.bN p ls).length) && Fl.aL p ((Fl.bN p ls).getD n.a.toNat 0) n.ag):=by unfold Fl.bS;rw[if_neg (by omega),if_pos (by omega)]
  rw[e];exact ze9 h hn (ho.k1 (by omega)) a0 b0 c0
 ·have e:Fl.bS p ls x n=(decide (n.a<5) && (decide (Fl.dw (Fl.nd x n.b).kind=0) && (decide (Fl.dw (Fl.nd x n.c).kind=0) && (Fl.aL p (Fl.nd x n.b).ag n.ag && Fl.aL p (Fl.nd x n.c).ag n.ag)))):=by unfold Fl.bS;rw[if_neg (by omega),if_neg (by omega),if_pos (by omega)]
  rw[e];exact za5 h hn (ho.k2 (by omega)).1 (ho.k2 (by omega)).2 a0
 ·have e:Fl.bS p ls x n=Fl.dS p x n (Fl.bN p ls):=by unfold Fl.bS;rw[if_neg (by omega),if_neg (by omega),if_neg (by omega),if_pos (by omega)]
  rw[e];exact zey h hn (ho.k3 (by omega)).1 (ho.k3 (by omega)).2 a0 b0 c0
 ·have e:Fl.bS p ls x n=Fl.dS p x n (p.aj.map λ(y:Nat)=>(y:Int)):=by unfold Fl.bS;rw[if_neg (by omega),if_neg (by omega),if_neg (by omega),if_neg (by omega),if_pos (by omega)]
  rw[e];exact zex h hn (ho.k3 (by omega)).1 (ho.k3 (by omega)).2 a0 d0 e0
 ·have e:Fl.bS p ls x n=(Fl.cJ p x n n.b && Fl.cJ p x n n.c):=by unfold Fl.bS;rw[if_neg (by omega),if_neg (by omega),if_neg (by omega),if_neg (by omega),if_neg (by omega),if_pos (by omega)]
  rw[e];exact za6 h hn (ho.k5 (by omega)).1 (ho.k5 (by omega)).2 (ho.k6 (by omega)) a0
 ·have e:Fl.bS p ls x n=Fl.cJ p x n n.b:=by unfold Fl.bS;rw[if_neg (by omega),if_neg (by omega),if_neg (by omega),if_neg (by omega),if_neg (by omega),if_neg (by omega),if_pos (by omega)]
  rw[e];exact zi5 h hn (ho.k5 (by omega)).1 (ho.k5 (by omega)).2 a0
 have e:Fl.bS p ls x n=n.aU.all (zu1 p x n):=by unfold Fl.bS;rw[if_neg (by omega),if_neg (by omega),if_neg (by omega),if_neg (by omega),if_neg (by omega),if_neg (by omega),if_neg (by omega)];rfl
 rw[e];exact zi6 h hn (ho.k7 (by omega)).1 (ho.k7 (by omega)).2 a0
def yt1(h:Xy w Cb Pb Lb Rl vv nv hv p (Fl.bN p ls) x)(hn:zw6 w nb no n lv)(ho:NdOk p x n)(f0:∀y∈Fl.bN p ls,0<=y/\y<p.n)(g0:(Fl.bN p ls).length<=100)(h0:∀y∈p.aj,y<p.n)(i0:p.aj.length<=100):
  Cq 102 #[Pq Cb,.pointer (some (Aq nb no))] w λe w'=>e=.returned (.bool (Fl.follows p ls x n))/\Bq w w':=by
 obtain⟨kd,e0⟩:∃kd:Nat,(kd:Int)=n.kind:=⟨n.kind.toNat,by have:=ho.kd;omega⟩
 have k0:kd<8:=by have:=ho.kd;omega
 have l0:(kd:Int)<8:=by omega
 obtain⟨f,hf⟩:=nmE (zf2 kd)
 have HS:Hid (∀W,Bq w W->Cl W Cb 0 (Pq Pb)/\Cl W Pb 0 (Pq Lb)/\Cl W Cb 3 (.slice (some (Aq Rl 0)) 8 8)/\Cl W nb no (Iq (kd:Nat))/\Cl W nb (no+1) (Iq n.ag)/\Cl W Rl (kd*2+1) (.func (.func f) #[] #[])):=λW hW=>by
  have h1:=h.below hW;have h2:=hn.below hW;exact⟨h1.c0,h1.p0,h1.c3,by rw[e0];exact h2.c0,h2.c1,by rw[hf];exact(h1.ru kd k0).2⟩
 have a0:Hid (∀W,Bq w W->Cq 93 #[Pq Lb,Iq n.ag] W λe w'=>e=.returned (.bool (decide (0<=n.ag/\n.ag<p.n)))/\w'=W):=λW hW=>ysz (h.below hW).la n.ag
 by_cases hl:n.ag<p.n
 ·have HR:Hid (∀W,Bq w W->Cq f #[Pq Cb,.pointer (some (Aq nb no))] W λe w'=>e=.returned (.bool (Fl.bS p ls x n))/\Bq W w'):=λW hW=>by rw[hf];exact yg2 (h.below hW) (hn.below hW) ho hl f0 g0 h0 i0 kd e0
  have d0:Hid (Fl.follows p ls x n=Fl.bS p ls x n):=(by show _=_;unfold Fl.follows;rw[decide_eq_true hl,Bool.true_and]);rw[decide_eq_true (show 0<=n.ag/\n.ag<p.n from⟨ho.lv,hl⟩)]at a0;generalize Fl.bS p ls x n=ru at*;clear h hn ho f0 g0 h0 i0 e0;rcases(show kd=0\/kd=1\/kd=2\/kd=3\/kd=4\/kd=5\/kd=6\/kd=7 by omega) with hk|hk|hk|hk|hk|hk|hk|hk
  all_goals
   rw[hk]at hf;simp[zf2]at hf;have HF:=Zz hf;clear hf hk
   go_enter func102,ntmps102
   go_wp2_with fail
   refine Zp HS (dA) [11,26] [] [(12,17)] (by kernel_rfl) (λc a d v w h=>by cases d<;>exact h) (λops ⟨g1,_⟩=>?_)
   iterate 11 refine Zw rfl (by rintro _ ⟨_,_,_,_,_,_⟩;go_simp<;>rfl) (by go_simp<;>rfl) ?_
   refine Zt ?_
   go_wp2_with fail
   refine(a0 _ dA).mono ?_;rintro e W1 ⟨rfl,b0⟩;rw[b0];clear b0 W1
   go_wp2_with fail
   refine⟨HS _ dA,?_⟩
   iterate 14 refine Zw (by first|rfl|simp[Region.wanted,yielded,g1,Act.put]) (by rintro _ ⟨_,_,_,_,_,_⟩;go_simp<;>rfl) (by go_simp<;>rfl) ?_
   refine Yz (by simp[Region.wanted,yielded,g1,Act.put]) ?_;have m0:=HF.out;subst m0
   go_wp2_with fail
   refine(HR _ dA).mono ?_;rintro e W1 ⟨rfl,b0⟩;have j0:Hid (Bq w W1):=dA.trans b0;clear b0
   go_wp2_with fail
   refine⟨HS _ j0,?_⟩
   iterate 2 refine Zw rfl (by rintro _ ⟨_,_,_,_,_,_⟩;go_simp<;>rfl) (by go_simp<;>rfl) ?_
   refine Zu ?_;go_wp2;go_ret;exact⟨cbE d0,j0⟩
 have d0:Hid (Fl.follows p ls x n=false):=by show _=_;unfold Fl.follows;rw[decide_eq_false hl,Bool.false_and]
 rw[decide_eq_false (show ¬(0<=n.ag/\n.ag<p.n) from λh=>hl h.2)]at a0;clear h hn ho f0 g0 h0 i0 e0 hf
 go_enter func102,ntmps102
 go_wp2_with fail
 refine Zp HS (dA) [11,26] [] [(12,17)] (by kernel_rfl) (λc a d v w h=>by cases d<;>exact h) (λops ⟨g1,_⟩=>?_)
 iterate 11 refine Zw rfl (by rintro _ ⟨_,_,_,_,_,_⟩;go_simp<;>rfl) (by go_simp<;>rfl) ?_
 refine Zt ?_
 go_wp2_with fail
 refine(a0 _ dA).mono ?_;rintro e W1 ⟨rfl,b0⟩;rw[b0];clear b0 W1
 go_wp2_with fail
 refine⟨HS _ dA,?_⟩;refine Zw rfl (by rintro _ ⟨_,_,_,_,_,_⟩;go_simp<;>rfl) (by go_simp<;>rfl) ?_
 iterate 13
  refine Ys rfl (c:=false) (by simp[yielded,g1,Act.put]) (by decide) ?_
 refine Zl rfl (c:=false) (by simp[yielded,g1,Act.put]) (by decide) (HS _ dA) ?_
 iterate 2 refine Zw rfl (by rintro _ ⟨_,_,_,_,_,_⟩;go_simp<;>rfl) (by go_simp<;>rfl) ?_
 refine Zu ?_;go_wp2;go_ret;exact⟨cbE d0,dA⟩
end
def Vp(p:Fl.aS)(ls:List Int)(x:List Fl.ar):Int:=match (List.range x.length).find? (λk=> !Fl.follows p ls x (Fl.nth x k)) with
 |some k=>(k:Int)
 |none=> -1
section
variable{nv:Value}
def Xy.gt(h:Xy w Cb Pb Lb Rl vv nv hv p vs x)(k:Nat)(hk:k<x.length):∃b off cap lv,nv=.slice (some (Aq b off)) x.length cap/\zw6 w b (off+k*6) (Fl.nth x k) lv:=by
 obtain⟨ao,cap,e,-,-,h4⟩:=h.no;obtain⟨b,off,e2,hb,hc⟩:=h4 (by rintro rfl;simp at hk);obtain⟨lv,h0,h1,h2,h3,h5,h6,h7⟩:=hc k hk;exact⟨b,off,cap,lv,by rw[e,e2],⟨hb,h1,h2,h3,h5,h6,h7,h0⟩⟩
def zf3(h:Xy w Cb Pb Lb Rl vv nv hv p (Fl.bN p ls) x)(hx:∀k,k<x.length->(∀j,j<k->Fl.follows p ls x (Fl.nth x j)=true)->NdOk p x (Fl.nth x k))(B0:x.length<=100000)(k0:∀y∈Fl.bN p ls,0<=y/\y<p.n)(l0:(Fl.bN p ls).length<=100)(m0:∀y∈p.aj,y<p.n)(n0:p.aj.length<=100):
  Cq 51 #[Pq Cb] w λe w'=>e=.returned (Iq (Vp p ls x))/\Bq w w':=by
 have HC:Hid (∀W,Bq w W->W.cell? (Aq Cb 2)=some nv):=λW hW=>(h.below hW).c2
 have HF:Hid (∀k,k<x.length->(∀j,j<k->Fl.follows p ls x (Fl.nth x j)=true)->∃b off cap,nv=.slice (some (Aq b off)) x.length cap/\∀W,Bq w W->Cq 102 #[Pq Cb,.pointer (some (Aq b (off+k*6)))] W λe w'=>e=.returned (.bool (Fl.follows p ls x (Fl.nth x k)))/\Bq W w'):=λk hk aK=>by
  obtain⟨b,off,cap,lv,e,v0⟩:=h.gt k hk;exact⟨b,off,cap,e,λW hW=>yt1 (h.below hW) (v0.below hW) (hx k hk aK) k0 l0 m0 n0⟩
 have x0:Hid (∃a c,nv=.slice a x.length c):=by obtain⟨a,c,e,-⟩:=h.no;exact⟨a,c,e⟩
 have b0:Hid (∀k,k<x.length->(∀j,j<k->Fl.follows p ls x (Fl.nth x j)=true)->Fl.follows p ls x (Fl.nth x k)=false->Vp p ls x=k):=λk hk aK h0=>by
  unfold Vp;rw[Fl.fh _ _ k (λj hj=>by rw[aK j hj];rfl) hk (by rw[h0];rfl)]
 have e0:Hid ((∀j,j<x.length->Fl.follows p ls x (Fl.nth x j)=true)->Vp p ls x= -1):=λaK=>by
  unfold Vp;rw[Fl.dO _ _ (λj hj=>by rw[aK j hj];rfl)]
 have y0:(x.length:Int)<=100000:=by omega
 obtain⟨a0,c0,j0⟩:=x0.out;have c2:=h.c2;rw[j0]at c2;obtain⟨fw,o0⟩:=nmE (Vp p ls x);rw[<-o0]at b0 e0⊢;have C0:=Zz j0;clear h hx k0 l0 m0 n0 j0 o0
 go_enter func51,ntmps51
 go_wp2_with fail
 go_loopw [9] (λi wr=>Bq w wr/\∃k:Nat,k<=x.length/\i=Iq k/\∀j,j<k->Fl.follows p ls x (Fl.nth x j)=true) (λi _=>x.length - (intOf i).toNat)
 case atStart=>exact⟨Below.refl _ _,0,Nat.zero_le _,rfl,λj hj=>by omega⟩
 case round=>
  obtain⟨p0,k,hk,rfl,aK⟩:=hrel;have i0:=Zz p0;have d0:=Zz aK;clear p0 aK
  by_cases q0:k<x.length
  ·have z0:(k:Int)<(x.length:Int):=by omega
   obtain⟨b,off,cap,e,f0⟩:=HF k q0 d0.out;have cw:=HC wr i0.out;rw[e]at cw;have g0:Hid (Cq 102 #[Pq Cb,.pointer (some (Aq b (off+k*6)))] wr λe w'=>e=.returned (.bool (Fl.follows p ls x (Fl.nth x k)))/\Bq wr w'):=f0 wr i0.out;have r0:Hid (Fl.follows p ls x (Fl.nth x k)=false->fw=(k:Int)):=λh0=>b0 k q0 d0 h0
   have s0:Hid (Fl.follows p ls x (Fl.nth x k)=true->∀j,j<k+1->Fl.follows p ls x (Fl.nth x j)=true):=λh0 j hj=>by
    by_cases A0:j=k
    ·rw[A0];exact h0
    exact d0 j (by omega)
   generalize Fl.follows p ls x (Fl.nth x k)=fk at g0 r0 s0;clear e f0
   go_wp2_with fail
   refine g0.mono ?_;rintro e w1 ⟨rfl,t0⟩;have u0:Hid (Bq w w1):=i0.trans (t0.mono i0.size);clear t0
   cases fk with
   |false=>
    have HE:Hid (fw=(k:Int)):=r0 rfl;go_wp2;go_ret;exact⟨congrArg (λb=>Ending.returned (Iq b)) HE.symm,u0⟩
   |true=>
    have HN:Hid (∀j,j<k+1->Fl.follows p ls x (Fl.nth x j)=true):=s0 rfl;go_wp2
    go_roundw
    case rel=>exact⟨u0,k+1,by omega,by go_num,HN⟩
    case measure=>simp[intOf];omega
  have z0:¬(k:Int)<(x.length:Int):=(by omega);have HE:Hid (fw= -1):=e0 (λj hj=>d0 j (by omega));go_wp2;go_ret;exact⟨congrArg (λb=>Ending.returned (Iq b)) HE.symm,i0⟩
end
section
def za7(i0:Ur w Lb p.n p.leq)(p0:w.cell? (Aq Pb 0)=some (Pq Lb))(p3:w.cell? (Aq Pb 3)=some (Iq p.am))(v:Value)(ls:List Int)(hl:Zv w.heap.size w v ls)(n0:ls.length<=100000):
  Cq 49 #[Pq Pb,v] w λe w'=>e=.returned (.bool (decide (ls.length=p.am/\∀y∈ls,0<=y/\y<p.n)))/\w'=w:=by
 obtain⟨ao,cap,rfl,hc,-,a0⟩:=hl;have g0:Hid (∀y:Int,Cq 93 #[Pq Lb,Iq y] w λe w'=>e=.returned (.bool (decide (0<=y/\y<p.n)))/\w'=w):=λy=>ysz i0 y
 have l0:Hid (∀i,(hi:i<ls.length)->∃b off,ao=some (Aq b off)/\w.cell? (Aq b (off+i))=some (Iq ls[i])):=λi hi=>by
  obtain⟨b,off,e,-,h1⟩:=a0 (by rintro rfl;simp at hi);exact⟨b,off,e,by rw[h1 i hi,Qa,Qb hi];rfl⟩
 have o0:(ls.length:Int)<=100000:=by omega
 have q0:(ls.length:Int)<=(cap:Int):=by omega
 obtain⟨m,hm⟩:=nmE (p.am);rw[<-hm]at p3⊢;obtain⟨aV,b0⟩:=nmE (decide (ls.length=m/\∀y∈ls,0<=y/\y<(p.n:Int)));rw[<-b0];have d0:=Zz b0;clear i0 a0 hm b0
 go_enter func49,ntmps49
 go_wp2_with fail
 go_loopw [9] (λi wr=>wr=w/\∃k:Nat,k<=ls.length/\i=Iq k/\∀y∈ls.take k,0<=y/\y<(p.n:Int)) (λi _=>ls.length - (intOf i).toNat)
 case atStart=>exact⟨rfl,0,Nat.zero_le _,rfl,λy hy=>by simp at hy⟩
 case round=>
  obtain⟨j0,k,hk,rfl,aK⟩:=hrel;have e0:=Zz aK;rw[j0];clear j0 aK wr
  by_cases h0:k<ls.length
  ·have m0:(k:Int)<(ls.length:Int):=by omega
   obtain⟨b,off,rfl,cy⟩:=l0 k h0;obtain⟨y,hy⟩:=nmE (ls[k]);rw[<-hy]at cy;have f0:Hid (y∈ls/\ls.take (k+1)=ls.take k++[y]):=(by rw[hy];exact⟨List.getElem_mem h0,List.take_succ_eq_append_getElem h0⟩);clear hy
   go_wp2_with fail
   refine(g0 y).mono ?_;rintro e w1 ⟨rfl,k0⟩;rw[k0];clear k0 w1
   by_cases c0:0<=y/\y<(p.n:Int)
   ·have HN:Hid (∀z∈ls.take (k+1),0<=z/\z<(p.n:Int)):=λz hz=>by
     rw[f0.2]at hz;rcases List.mem_append.1 hz with h1|h1
     ·exact e0 z h1
     simp at h1;subst h1;exact c0
    rw[decide_eq_true c0];clear c0;go_wp2
    go_roundw
    case rel=>exact⟨by first|rfl|trivial,k+1,by omega,by go_num,HN⟩
    case measure=>simp[intOf];omega
   have HE:Hid (aV=false):=(by show _=_;rw[d0.out];exact decide_eq_false (λh=>c0 (h.2 y f0.1)));rw[decide_eq_false c0];clear c0;go_wp2;go_ret;exact⟨cbE HE,rfl⟩
  have m0:¬(k:Int)<(ls.length:Int):=(by omega);have HE:Hid (aV=((ls.length:Int)==(m:Int))):=by
   have h1:=e0.out;rw[List.take_of_length_le (by omega)]at h1;show _=_;rw[d0.out,<-ysy]
   congr 1
   exact propext ⟨λh=>h.1,λh=>⟨h,h1⟩⟩
  go_wp2;go_ret;exact⟨cbE HE,rfl⟩
end
section
variable{P:Program}{ops:Array Oper}{Q:Exit->Act->World->Prop}{S:World->Prop}
def yox{o:Oper}{l:List (Nat×Oper)}{a:Act}{j:Nat}{b:Bool}(hg:o.guard=some (j,b))(hy:yielded ops a.tmps j=none)
  (h:Yg P ops S Q l (a.put o.dst undef) w):Yg P ops S Q ((0,o)::l) a w:=⟨undef,.inr ⟨by simp[Region.wanted,hg,hy],rfl⟩,h⟩
end
section
variable{vb:Nat}{nv vx vy:Value}
def zp4(h:Xy w Cb Pb Lb Rl vv nv hv p vs x)(k:Nat)(hk:k<x.length)(vk va:Int)(h0:vb<w.heap.size)(v0:w.cell? (Aq vb 0)=some (Iq vk))(v1:w.cell? (Aq vb 1)=some (Iq va))(v2:w.cell? (Aq vb 2)=some vx)(v3:w.cell? (Aq vb 3)=some vy)(rb rc:Bool)
  (hb:vk=2->(Fl.nth x k).kind=2->∀W,Bq w W->Cq 133 #[Pq Cb,Iq (Fl.nth x k).b,vx] W λe w'=>e=.returned (.bool rb)/\Bq W w')
  (hc:vk=2->(Fl.nth x k).kind=2->∀W,Bq w W->Cq 133 #[Pq Cb,Iq (Fl.nth x k).c,vy] W λe w'=>e=.returned (.bool rc)/\Bq W w')
  (k0:∃a,vx=.pointer a) (l0:∃a,vy=.pointer a):
  Cq 133 #[Pq Cb,Iq k,Pq vb] w λe w'=>e=.returned (.bool (decide ((Fl.nth x k).kind=vk) && (decide ((Fl.nth x k).a=va) && (decide (vk≠2)||(rb && rc)))))/\Bq w w':=by
 obtain⟨ax,rfl⟩:=k0;obtain⟨ay,rfl⟩:=l0;obtain⟨nb,ju,cap,lv,rfl,e0⟩:=h.gt k hk;obtain⟨no,du⟩:=nmE (ju+k*6);obtain⟨n,hn⟩:=nmE (Fl.nth x k);rw[<-hn]at hb hc e0⊢;have c2:=h.c2
 have m0:(k:Int)<(x.length:Int):=by omega
 have HS:Hid (∀W,Bq w W->Cl W nb no (Iq n.kind)/\Cl W nb (no+2) (Iq n.a)/\Cl W nb (no+3) (Iq n.b)/\Cl W nb (no+4) (Iq n.c)/\Cl W vb 0 (Iq vk)/\Cl W vb 1 (Iq va)/\Cl W vb 2 (.pointer ax)/\Cl W vb 3 (.pointer ay)):=λW hW=>by
  have h2:=e0.below hW;rw[<-du]at h2;exact⟨h2.c0,h2.c2,h2.c3,h2.c4,(hW.cell (p:=(Aq vb 0)) h0).trans v0,(hW.cell (p:=(Aq vb 1)) h0).trans v1,(hW.cell (p:=(Aq vb 2)) h0).trans v2,(hW.cell (p:=(Aq vb 3)) h0).trans v3⟩
 obtain⟨aV,b0⟩:=nmE ((decide (n.kind=vk) && (decide (n.a=va) && (decide (vk≠2)||(rb && rc)))));rw[<-b0];have a0:=Zz b0;have f0:=Zz du
 by_cases h1:n.kind=vk
 ·have e1:(n.kind !=vk)=false:=by simp[h1]
  by_cases h2:n.a=va
  ·have e2:(n.a !=va)=false:=by simp[h2]
   by_cases h3:vk=2
   ·have HE:Hid (aV=(rb && rc)):=by show _=_;rw[a0.out,decide_eq_true h1,decide_eq_true h2,decide_eq_false (by intro h;exact h h3)];simp
    have HB:Hid (∀W,Bq w W->Cq 133 #[Pq Cb,Iq n.b,.pointer ax] W λe w'=>e=.returned (.bool rb)/\Bq W w'):=hb h3 (h1.trans h3);have HC:Hid (∀W,Bq w W->Cq 133 #[Pq Cb,Iq n.c,.pointer ay] W λe w'=>e=.returned (.bool rc)/\Bq W w'):=hc h3 (h1.trans h3);have e3:(n.kind !=2)=false:=(by simp[h1,h3]);clear h e0 v0 v1 v2 v3 hb hc b0 h1 h2 h3 hn du a0
    cases rb with
    |true=>
     go_enter func133,ntmps133
     go_wp2_with fail
     rw[<-f0.out];refine Zp HS ((dA)) [] [] [(9,23)] (by kernel_rfl) (λc a d v w h=>by cases d<;>exact h) (λops ⟨g1,_⟩=>?_)
     iterate 20 refine Zw (by first|rfl|simp[Region.wanted,yielded,g1,Act.put]) (by rintro _ ⟨_,_,_,_,_,_,_,_⟩;go_simp<;>rfl) (by go_simp<;>rfl) ?_
     refine Zu ?_
     go_wp2_with fail
     refine Zp HS ((dA.drew)) [15,26] [] [(5,39),(16,50)] (by kernel_rfl) (λc a d v w h=>by cases d<;>exact h) (λops ⟨g1,g2,_⟩=>?_)
     iterate 15 refine Zw (by first|rfl|simp[Region.wanted,yielded,g1,Act.put]) (by rintro _ ⟨_,_,_,_,_,_,_,_⟩;go_simp<;>rfl) (by go_simp<;>rfl) ?_
     refine Yz (by simp[Region.wanted,yielded,g1,Act.put]) ?_
     go_wp2_with fail
     refine(HB _ (dA.drew)).mono ?_;rintro e W1 ⟨rfl,g0⟩;have d0:Hid (Bq w W1):=(dA.drew).trans g0;clear g0
     go_wp2_with fail
     refine⟨HS _ d0,?_⟩
     iterate 10 refine Zw (by simp[Region.wanted,yielded,g1,g2,Act.put]) (by rintro _ ⟨_,_,_,_,_,_,_,_⟩;go_simp<;>rfl) (by go_simp<;>rfl) ?_
     refine Yz (by simp[Region.wanted,yielded,g2,Act.put]) ?_
     go_wp2_with fail
     refine(HC _ d0).mono ?_;rintro e W2 ⟨rfl,i0⟩;have j0:Hid (Bq w W2):=d0.trans (i0.mono d0.size);clear i0
     go_wp2_with fail
     refine⟨HS _ j0,?_⟩
     iterate 3 refine Zw (by first|rfl|simp[Region.wanted,yielded,g1,Act.put]) (by rintro _ ⟨_,_,_,_,_,_,_,_⟩;go_simp<;>rfl) (by go_simp<;>rfl) ?_
     refine Zu ?_;go_wp2;go_ret;exact⟨cbE HE,j0⟩
    |false=>
     go_enter func133,ntmps133
     go_wp2_with fail
     rw[<-f0.out];refine Zp HS ((dA)) [] [] [(9,23)] (by kernel_rfl) (λc a d v w h=>by cases d<;>exact h) (λops ⟨g1,_⟩=>?_)
     iterate 20 refine Zw (by first|rfl|simp[Region.wanted,yielded,g1,Act.put]) (by rintro _ ⟨_,_,_,_,_,_,_,_⟩;go_simp<;>rfl) (by go_simp<;>rfl) ?_
     refine Zu ?_
     go_wp2_with fail
     refine Zp HS ((dA.drew)) [15,26] [] [(5,39),(16,50)] (by kernel_rfl) (λc a d v w h=>by cases d<;>exact h) (λops ⟨g1,g2,_⟩=>?_)
     iterate 15 refine Zw (by first|rfl|simp[Region.wanted,yielded,g1,Act.put]) (by rintro _ ⟨_,_,_,_,_,_,_,_⟩;go_simp<;>rfl) (by go_simp<;>rfl) ?_
     refine Yz (by simp[Region.wanted,yielded,g1,Act.put]) ?_
     go_wp2_with fail
     refine(HB _ (dA.drew)).mono ?_;rintro e W1 ⟨rfl,g0⟩;have d0:Hid (Bq w W1):=(dA.drew).trans g0;clear g0
     go_wp2_with fail
     refine⟨HS _ d0,?_⟩;refine Zw (by simp[Region.wanted,yielded,g1,Act.put]) (by rintro _ ⟨_,_,_,_,_,_,_,_⟩;go_simp<;>rfl) (by go_simp<;>rfl) ?_
     iterate 9
      refine Ys rfl (c:=false) (by simp[yielded,g2,Act.put]) (by decide) ?_
     refine Zl rfl (c:=false) (by simp[yielded,g2,Act.put]) (by decide) (HS _ d0) ?_
     iterate 3 refine Zw (by first|rfl|simp[Region.wanted,yielded,g1,Act.put]) (by rintro _ ⟨_,_,_,_,_,_,_,_⟩;go_simp<;>rfl) (by go_simp<;>rfl) ?_
     refine Zu ?_;go_wp2;go_ret;exact⟨cbE HE,d0⟩
   have HE:Hid (aV=true):=(by show _=_;rw[a0.out,decide_eq_true h1,decide_eq_true h2,decide_eq_true (show vk≠2 from h3)];simp);have e3:(n.kind !=2)=true:=(by rw[bne_iff_ne,h1];exact h3);clear h e0 v0 v1 v2 v3 hb hc b0 h1 h2 h3 hn du a0
   go_enter func133,ntmps133
   go_wp2_with fail
   rw[<-f0.out];refine Zp HS ((dA)) [] [] [(9,23)] (by kernel_rfl) (λc a d v w h=>by cases d<;>exact h) (λops ⟨g1,_⟩=>?_)
   iterate 20 refine Zw (by first|rfl|simp[Region.wanted,yielded,g1,Act.put]) (by rintro _ ⟨_,_,_,_,_,_,_,_⟩;go_simp<;>rfl) (by go_simp<;>rfl) ?_
   refine Zu ?_
   go_wp2_with fail
   refine Zp HS ((dA.drew)) [15,26] [] [(5,39),(16,50)] (by kernel_rfl) (λc a d v w h=>by cases d<;>exact h) (λops ⟨g1,g2,_⟩=>?_)
   iterate 6 refine Zw rfl (by rintro _ ⟨_,_,_,_,_,_,_,_⟩;go_simp<;>rfl) (by go_simp<;>rfl) ?_
   iterate 9
    refine Ys rfl (c:=true) (by simp[yielded,g1,Act.put]) (by decide) ?_
   refine Zl rfl (c:=true) (by simp[yielded,g1,Act.put]) (by decide) (HS _ (dA.drew)) ?_;refine Ys rfl (c:=true) (by simp[yielded,g1,Act.put]) (by decide) ?_
   iterate 9
    refine yox rfl (by simp[yielded,g2,Act.put,undef]) ?_
   refine yv1 rfl (by simp[yielded,g2,Act.put,undef]) (HS _ (dA.drew)) ?_;refine Ys rfl (c:=true) (by simp[yielded,g1,Act.put]) (by decide) ?_
   iterate 2 refine Zw rfl (by rintro _ ⟨_,_,_,_,_,_,_,_⟩;go_simp<;>rfl) (by go_simp<;>rfl) ?_
   refine Zu ?_;go_wp2;go_ret;exact⟨cbE HE,dA.drew⟩
  have HE:Hid (aV=false):=(by show _=_;rw[a0.out,decide_eq_false h2];simp);have e2:(n.a !=va)=true:=(by rw[bne_iff_ne];exact h2);clear h e0 v0 v1 v2 v3 hb hc b0 h1 h2 hn du a0
  go_enter func133,ntmps133
  go_wp2_with fail
  rw[<-f0.out];refine Zp HS ((dA)) [] [] [(9,23)] (by kernel_rfl) (λc a d v w h=>by cases d<;>exact h) (λops ⟨g1,_⟩=>?_)
  iterate 20 refine Zw (by first|rfl|simp[Region.wanted,yielded,g1,Act.put]) (by rintro _ ⟨_,_,_,_,_,_,_,_⟩;go_simp<;>rfl) (by go_simp<;>rfl) ?_
  refine Zu ?_;go_wp2;go_ret;exact⟨cbE HE,dA⟩
 have HE:Hid (aV=false):=by show _=_;rw[a0.out,decide_eq_false h1];simp
 have e1:(n.kind !=vk)=true:=by rw[bne_iff_ne];exact h1
 clear h e0 v0 v1 v2 v3 hb hc b0 h1 hn du a0
 go_enter func133,ntmps133
 go_wp2_with fail
 rw[<-f0.out];refine Zp HS ((dA)) [] [] [(9,23)] (by kernel_rfl) (λc a d v w h=>by cases d<;>exact h) (λops ⟨g1,_⟩=>?_)
 iterate 10 refine Zw rfl (by rintro _ ⟨_,_,_,_,_,_,_,_⟩;go_simp<;>rfl) (by go_simp<;>rfl) ?_
 iterate 9
  refine Ys rfl (c:=true) (by simp[yielded,g1,Act.put]) (by decide) ?_
 refine Zw rfl (by rintro _ ⟨_,_,_,_,_,_,_,_⟩;go_simp<;>rfl) (by go_simp<;>rfl) ?_;refine Zu ?_;go_wp2;go_ret;exact⟨cbE HE,dA⟩
end
section
variable{nv:Value}
def zsy(h:Xy w Cb Pb Lb Rl vv nv hv p vs x)(hS:∀b,S b->b<w.heap.size)(k:Int)(hk:0<=k/\k.toNat<x.length)(q:Value)(a:Fl.dM)(ha:Xu S w q a):
  Cq 133 #[Pq Cb,Iq k,q] w λe w'=>e=.returned (.bool (Fl.da x k a))/\Bq w w':=by
 obtain⟨vb,rfl,hs,hc⟩:=ha;obtain⟨kn,b0⟩:∃kn:Nat,(kn:Int)=k:=⟨k.toNat,by omega⟩
 have e0:k.toNat=kn:=by omega
 have a0:(if a.var then(1:Int) else 0)≠2:=by cases a.var<;>decide
 have h1:=zp4 (vx:=.pointer none) (vy:=.pointer none) h kn (by omega) (if a.var then 1 else 0) a.v (hS _ hs) (hc.c 0 (by omega)) (hc.c 1 (by omega)) (hc.c 2 (by omega)) (hc.c 3 (by omega)) true true (λh2=>absurd h2 a0) (λh2=>absurd h2 a0) ⟨_,rfl⟩ ⟨_,rfl⟩;rw[b0]at h1;refine h1.mono ?_;rintro e w' ⟨rfl,hw⟩;refine⟨?_,hw⟩;unfold Fl.da Fl.nd;rw[e0,decide_eq_true a0];simp
def za8(h:Xy w Cb Pb Lb Rl vv nv hv p vs x)(hS:∀b,S b->b<w.heap.size)(k:Int)(hk:0<=k/\k.toNat<x.length)(b0:(Fl.nd x k).kind=2->(0<=(Fl.nd x k).b/\(Fl.nd x k).b.toNat<x.length)/\(0<=(Fl.nd x k).c/\(Fl.nd x k).c.toNat<x.length))(q:Value)(e:Fl.dd)(g0:zxz S w q e):
  Cq 133 #[Pq Cb,Iq k,q] w λr w'=>r=.returned (.bool (Fl.dv x k e))/\Bq w w':=by
 rcases g0 with⟨h1,h2⟩|⟨h1,vb,qx,qy,rfl,h3,h4,h5,h6⟩
 ·have e1:Fl.dv x k e=Fl.da x k e.a:=by unfold Fl.dv;rw[if_pos (by omega)]
  rw[e1];exact zsy h hS k hk q e.a h2
 have e1:Fl.dv x k e=(decide ((Fl.nd x k).kind=2) && (decide ((Fl.nd x k).a=e.op) && (Fl.da x (Fl.nd x k).b e.a && Fl.da x (Fl.nd x k).c e.b))):=by unfold Fl.dv;rw[if_neg (by omega)]
 obtain⟨kn,h0⟩:∃kn:Nat,(kn:Int)=k:=⟨k.toNat,by omega⟩
 have e0:k.toNat=kn:=by omega
 have en:Fl.nd x k=Fl.nth x kn:=by unfold Fl.nd;rw[e0]
 rw[en]at b0 e1;have a0:∀W,Bq w W->Xy W Cb Pb Lb Rl vv nv hv p vs x:=λW hW=>h.below hW;have d0:∀W,Bq w W->∀q a,Xu S w q a->Xu S W q a:=λW hW q a ha=>ha.kept (λb hb=>hb) (λb hb=>hW.block b (hS b hb));have f0:∀W,Bq w W->∀b,S b->b<W.heap.size:=λW hW b hb=>Qj (hS b hb) hW.size
 have i0:∃a,qx=.pointer a:=by obtain⟨b,e,-⟩:=h5;exact⟨_,e⟩
 have j0:∃a,qy=.pointer a:=by obtain⟨b,e,-⟩:=h6;exact⟨_,e⟩
 have h7:=zp4 (vx:=qx) (vy:=qy) h kn (by omega) 2 e.op (hS _ h3) (h4.c 0 (by omega)) (h4.c 1 (by omega)) (h4.c 2 (by omega)) (h4.c 3 (by omega)) (Fl.da x (Fl.nth x kn).b e.a) (Fl.da x (Fl.nth x kn).c e.b)
  (λ_ c0 W hW=>zsy (a0 W hW) (f0 W hW) _ (b0 c0).1 qx e.a (d0 W hW _ _ h5)) (λ_ c0 W hW=>zsy (a0 W hW) (f0 W hW) _ (b0 c0).2 qy e.b (d0 W hW _ _ h6)) i0 j0
 rw[h0]at h7;refine h7.mono ?_;rintro r w' ⟨rfl,hw⟩;refine⟨?_,hw⟩;rw[e1];simp
end
section
variable{sb:Nat}{nv:Value}
def yv2(h:Xy w Cb Pb Lb Rl vv nv hv p vs x)(k:Nat)(hk:k<x.length)(sk sx:Int)(o0:sk=3\/sk=4\/sk=5\/sk=6)(av:Option Addr)(fa ea:Option Addr)(fn fc en ec:Nat)(cF:sb<w.heap.size)
  (n0:w.cell? (Aq sb 0)=some (Iq sk)/\w.cell? (Aq sb 2)=some (Iq sx)/\w.cell? (Aq sb 3)=some (.pointer av)/\w.cell? (Aq sb 4)=some (.slice fa fn fc)/\w.cell? (Aq sb 5)=some (.slice ea en ec)) (va vb rb rc:Bool)
  (h0:sk=5\/sk=6->(Fl.nth x k).kind=sk->∀W,Bq w W->Cq 133 #[Pq Cb,Iq (Fl.nth x k).a,.pointer av] W λe w'=>e=.returned (.bool va)/\Bq W w')
  (k0:sk=3\/sk=4->(Fl.nth x k).kind=sk->∀W,Bq w W->Cq 133 #[Pq Cb,Iq (Fl.nth x k).b,.pointer av] W λe w'=>e=.returned (.bool vb)/\Bq W w')
  (i0:sk=5\/sk=6->(Fl.nth x k).kind=sk->∀W,Bq w W->Cq 52 #[Pq Cb,Iq (Fl.nth x k).b,.slice fa fn fc] W λe w'=>e=.returned (.bool rb)/\Bq W w')
  (l0:sk=5->(Fl.nth x k).kind=sk->∀W,Bq w W->Cq 52 #[Pq Cb,Iq (Fl.nth x k).c,.slice ea en ec] W λe w'=>e=.returned (.bool rc)/\Bq W w'):
  Cq 103 #[Pq Cb,Iq k,Pq sb] w λe w'=>e=.returned (.bool (decide ((Fl.nth x k).kind=sk) && (if sk=5 then va && (rb && rc) else if sk=6 then va && rb else decide ((Fl.nth x k).a=sx) && vb)))/\Bq w w':=by
 obtain⟨nb,ju,cap,lv,rfl,m0⟩:=h.gt k hk;obtain⟨no,du⟩:=nmE (ju+k*6);obtain⟨n,hn⟩:=nmE (Fl.nth x k);rw[<-hn]at h0 k0 i0 l0 m0⊢;have c2:=h.c2
 have t0:(k:Int)<(x.length:Int):=by omega
 have HS:Hid (∀W,Bq w W->Cl W nb no (Iq n.kind)/\Cl W nb (no+2) (Iq n.a)/\Cl W nb (no+3) (Iq n.b)/\Cl W nb (no+4) (Iq n.c)/\Cl W sb 0 (Iq sk)/\Cl W sb 2 (Iq sx)/\Cl W sb 3 (.pointer av)/\Cl W sb 4 (.slice fa fn fc)/\Cl W sb 5 (.slice ea en ec)):=λW hW=>by
  have h2:=m0.below hW;rw[<-du]at h2;obtain⟨s0,s2,s3,s4,s5⟩:=n0;exact⟨h2.c0,h2.c2,h2.c3,h2.c4,(hW.cell (p:=(Aq sb 0)) cF).trans s0,(hW.cell (p:=(Aq sb 2)) cF).trans s2,(hW.cell (p:=(Aq sb 3)) cF).trans s3,(hW.cell (p:=(Aq sb 4)) cF).trans s4,(hW.cell (p:=(Aq sb 5)) cF).trans s5⟩
 obtain⟨aV,f0⟩:=nmE ((decide (n.kind=sk) && (if sk=5 then va && (rb && rc) else if sk=6 then va && rb else decide (n.a=sx) && vb)));rw[<-f0];have e0:=Zz f0;have j0:=Zz du;have q0:∀W,Bq w W->Cl W nb no (Iq n.kind):=λW hW=>(HS W hW).1
 by_cases h1:n.kind=sk
 ·have e1:(n.kind !=sk)=false:=by simp[h1]
  have d0:Cl w.drew nb no (Iq n.kind):=q0 _ dA
  by_cases h5:sk=5
  ·have HV:Hid (∀W,Bq w W->Cq 133 #[Pq Cb,Iq n.a,.pointer av] W λe w'=>e=.returned (.bool va)/\Bq W w'):=h0 (.inl h5) h1
   have HB:Hid (∀W,Bq w W->Cq 52 #[Pq Cb,Iq n.b,.slice fa fn fc] W λe w'=>e=.returned (.bool rb)/\Bq W w'):=i0 (.inl h5) h1;have HC:Hid (∀W,Bq w W->Cq 52 #[Pq Cb,Iq n.c,.slice ea en ec] W λe w'=>e=.returned (.bool rc)/\Bq W w'):=l0 h5 h1;have HE:Hid (aV=(va && (rb && rc))):=(by show _=_;rw[e0.out,decide_eq_true h1,if_pos h5,Bool.true_and]);have e5:(n.kind==5)=true:=(by simp[h1,h5]);clear h m0 n0 f0 h1 h5 hn du e0 h0 k0 i0 l0 q0 o0
   cases va with
   |false=>
    go_enter func103,ntmps103
    go_wp2_with fail
    rw[<-j0.out];refine Zp HS ((dA)) [] [] [] (by kernel_rfl) (λc a d v w h=>by cases d<;>exact h) (λops hG=>?_);clear hG
    iterate 9 refine Zw rfl (by rintro _ ⟨_,_,_,_,_,_,_,_,_⟩;go_simp<;>rfl) (by go_simp<;>rfl) ?_
    refine Zu ?_
    go_wp2_with fail
    refine Zp HS ((dA.drew)) [9,20,32] [] [(10,39),(22,51)] (by kernel_rfl) (λc a d v w h=>by cases d<;>exact h) (λops ⟨g1,g2,_⟩=>?_)
    iterate 9 refine Zw rfl (by rintro _ ⟨_,_,_,_,_,_,_,_,_⟩;go_simp<;>rfl) (by go_simp<;>rfl) ?_
    refine Zt ?_
    go_wp2_with fail
    refine(HV _ (dA.drew)).mono ?_;rintro e W1 ⟨rfl,a0⟩;have b0:Hid (Bq w W1):=((dA.drew)).trans a0;clear a0
    go_wp2_with fail
    refine⟨HS _ b0,?_⟩;refine Zw rfl (by rintro _ ⟨_,_,_,_,_,_,_,_,_⟩;go_simp<;>rfl) (by go_simp<;>rfl) ?_
    iterate 9
     refine Ys rfl (c:=false) (by simp[yielded,g1,Act.put]) (by decide) ?_
    refine Zl rfl (c:=false) (by simp[yielded,g1,Act.put]) (by decide) (HS _ b0) ?_
    iterate 2 refine Zw rfl (by rintro _ ⟨_,_,_,_,_,_,_,_,_⟩;go_simp<;>rfl) (by go_simp<;>rfl) ?_
    iterate 9
     refine Ys rfl (c:=false) (by simp[yielded,g2,Act.put]) (by decide) ?_
    refine Zl rfl (c:=false) (by simp[yielded,g2,Act.put]) (by decide) (HS _ b0) ?_
    iterate 2 refine Zw rfl (by rintro _ ⟨_,_,_,_,_,_,_,_,_⟩;go_simp<;>rfl) (by go_simp<;>rfl) ?_
    refine Zu ?_;go_wp2;go_ret;exact⟨cbE HE,b0⟩
   |true=>
    cases rb with
    |false=>
     go_enter func103,ntmps103
     go_wp2_with fail
     rw[<-j0.out];refine Zp HS ((dA)) [] [] [] (by kernel_rfl) (λc a d v w h=>by cases d<;>exact h) (λops hG=>?_);clear hG
     iterate 9 refine Zw rfl (by rintro _ ⟨_,_,_,_,_,_,_,_,_⟩;go_simp<;>rfl) (by go_simp<;>rfl) ?_
     refine Zu ?_
     go_wp2_with fail
     refine Zp HS ((dA.drew)) [9,20,32] [] [(10,39),(22,51)] (by kernel_rfl) (λc a d v w h=>by cases d<;>exact h) (λops ⟨g1,g2,_⟩=>?_)
     iterate 9 refine Zw rfl (by rintro _ ⟨_,_,_,_,_,_,_,_,_⟩;go_simp<;>rfl) (by go_simp<;>rfl) ?_
     refine Zt ?_
     go_wp2_with fail
     refine(HV _ (dA.drew)).mono ?_;rintro e W1 ⟨rfl,a0⟩;have b0:Hid (Bq w W1):=((dA.drew)).trans a0;clear a0
     go_wp2_with fail
     refine⟨HS _ b0,?_⟩
     iterate 10 refine Zw (by first|rfl|simp[Region.wanted,yielded,g1,Act.put]) (by rintro _ ⟨_,_,_,_,_,_,_,_,_⟩;go_simp<;>rfl) (by go_simp<;>rfl) ?_
     refine Yz (by simp[Region.wanted,yielded,g1,Act.put]) ?_
     go_wp2_with fail
     refine(HB _ b0).mono ?_;rintro e W2 ⟨rfl,a0⟩;have g0:Hid (Bq w W2):=(b0.out).trans (a0.mono (b0.out).size);clear a0
     go_wp2_with fail
     refine⟨HS _ g0,?_⟩
     iterate 2 refine Zw rfl (by rintro _ ⟨_,_,_,_,_,_,_,_,_⟩;go_simp<;>rfl) (by go_simp<;>rfl) ?_
     iterate 9
      refine Ys rfl (c:=false) (by simp[yielded,g2,Act.put]) (by decide) ?_
     refine Zl rfl (c:=false) (by simp[yielded,g2,Act.put]) (by decide) (HS _ g0) ?_
     iterate 2 refine Zw rfl (by rintro _ ⟨_,_,_,_,_,_,_,_,_⟩;go_simp<;>rfl) (by go_simp<;>rfl) ?_
     refine Zu ?_;go_wp2;go_ret;exact⟨cbE HE,g0⟩
    |true=>
     go_enter func103,ntmps103
     go_wp2_with fail
     rw[<-j0.out];refine Zp HS ((dA)) [] [] [] (by kernel_rfl) (λc a d v w h=>by cases d<;>exact h) (λops hG=>?_);clear hG
     iterate 9 refine Zw rfl (by rintro _ ⟨_,_,_,_,_,_,_,_,_⟩;go_simp<;>rfl) (by go_simp<;>rfl) ?_
     refine Zu ?_
     go_wp2_with fail
     refine Zp HS ((dA.drew)) [9,20,32] [] [(10,39),(22,51)] (by kernel_rfl) (λc a d v w h=>by cases d<;>exact h) (λops ⟨g1,g2,_⟩=>?_)
     iterate 9 refine Zw rfl (by rintro _ ⟨_,_,_,_,_,_,_,_,_⟩;go_simp<;>rfl) (by go_simp<;>rfl) ?_
     refine Zt ?_
     go_wp2_with fail
     refine(HV _ (dA.drew)).mono ?_;rintro e W1 ⟨rfl,a0⟩;have b0:Hid (Bq w W1):=((dA.drew)).trans a0;clear a0
     go_wp2_with fail
     refine⟨HS _ b0,?_⟩
     iterate 10 refine Zw (by first|rfl|simp[Region.wanted,yielded,g1,Act.put]) (by rintro _ ⟨_,_,_,_,_,_,_,_,_⟩;go_simp<;>rfl) (by go_simp<;>rfl) ?_
     refine Yz (by simp[Region.wanted,yielded,g1,Act.put]) ?_
     go_wp2_with fail
     refine(HB _ b0).mono ?_;rintro e W2 ⟨rfl,a0⟩;have g0:Hid (Bq w W2):=(b0.out).trans (a0.mono (b0.out).size);clear a0
     go_wp2_with fail
     refine⟨HS _ g0,?_⟩
     iterate 11 refine Zw (by first|rfl|simp[Region.wanted,yielded,g2,Act.put]) (by rintro _ ⟨_,_,_,_,_,_,_,_,_⟩;go_simp<;>rfl) (by go_simp<;>rfl) ?_
     refine Yz (by simp[Region.wanted,yielded,g2,Act.put]) ?_
     go_wp2_with fail
     refine(HC _ g0).mono ?_;rintro e W3 ⟨rfl,a0⟩;have r0:Hid (Bq w W3):=(g0.out).trans (a0.mono (g0.out).size);clear a0
     go_wp2_with fail
     refine⟨HS _ r0,?_⟩
     iterate 2 refine Zw rfl (by rintro _ ⟨_,_,_,_,_,_,_,_,_⟩;go_simp<;>rfl) (by go_simp<;>rfl) ?_
     refine Zu ?_;go_wp2;go_ret;exact⟨cbE HE,r0⟩
  by_cases h6:sk=6
  ·have HV:Hid (∀W,Bq w W->Cq 133 #[Pq Cb,Iq n.a,.pointer av] W λe w'=>e=.returned (.bool va)/\Bq W w'):=h0 (.inr h6) h1
   have HB:Hid (∀W,Bq w W->Cq 52 #[Pq Cb,Iq n.b,.slice fa fn fc] W λe w'=>e=.returned (.bool rb)/\Bq W w'):=i0 (.inr h6) h1;have HE:Hid (aV=(va && rb)):=(by show _=_;rw[e0.out,decide_eq_true h1,if_neg h5,if_pos h6,Bool.true_and]);have e5:(n.kind==5)=false:=(by simp[h1,h6]);have e6:(n.kind==6)=true:=(by simp[h1,h6]);clear h m0 n0 f0 h1 h5 h6 hn du e0 h0 k0 i0 l0 q0 o0
   cases va with
   |false=>
    go_enter func103,ntmps103
    go_wp2_with fail
    rw[<-j0.out];refine Zp HS ((dA)) [] [] [] (by kernel_rfl) (λc a d v w h=>by cases d<;>exact h) (λops hG=>?_);clear hG
    iterate 9 refine Zw rfl (by rintro _ ⟨_,_,_,_,_,_,_,_,_⟩;go_simp<;>rfl) (by go_simp<;>rfl) ?_
    refine Zu ?_
    go_wp2_with fail
    refine Zp HS ((dA.drew)) [9,20] [] [(10,75)] (by kernel_rfl) (λc a d v w h=>by cases d<;>exact h) (λops ⟨g1,_⟩=>?_)
    iterate 9 refine Zw rfl (by rintro _ ⟨_,_,_,_,_,_,_,_,_⟩;go_simp<;>rfl) (by go_simp<;>rfl) ?_
    refine Zt ?_
    go_wp2_with fail
    refine(HV _ (dA.drew)).mono ?_;rintro e W1 ⟨rfl,a0⟩;have b0:Hid (Bq w W1):=((dA.drew)).trans a0;clear a0
    go_wp2_with fail
    refine⟨HS _ b0,?_⟩;refine Zw rfl (by rintro _ ⟨_,_,_,_,_,_,_,_,_⟩;go_simp<;>rfl) (by go_simp<;>rfl) ?_
    iterate 9
     refine Ys rfl (c:=false) (by simp[yielded,g1,Act.put]) (by decide) ?_
    refine Zl rfl (c:=false) (by simp[yielded,g1,Act.put]) (by decide) (HS _ b0) ?_
    iterate 2 refine Zw rfl (by rintro _ ⟨_,_,_,_,_,_,_,_,_⟩;go_simp<;>rfl) (by go_simp<;>rfl) ?_
    refine Zu ?_;go_wp2;go_ret;exact⟨cbE HE,b0⟩
   |true=>
    go_enter func103,ntmps103
    go_wp2_with fail
    rw[<-j0.out];refine Zp HS ((dA)) [] [] [] (by kernel_rfl) (λc a d v w h=>by cases d<;>exact h) (λops hG=>?_);clear hG
    iterate 9 refine Zw rfl (by rintro _ ⟨_,_,_,_,_,_,_,_,_⟩;go_simp<;>rfl) (by go_simp<;>rfl) ?_
    refine Zu ?_
    go_wp2_with fail
    refine Zp HS ((dA.drew)) [9,20] [] [(10,75)] (by kernel_rfl) (λc a d v w h=>by cases d<;>exact h) (λops ⟨g1,_⟩=>?_)
    iterate 9 refine Zw rfl (by rintro _ ⟨_,_,_,_,_,_,_,_,_⟩;go_simp<;>rfl) (by go_simp<;>rfl) ?_
    refine Zt ?_
    go_wp2_with fail
    refine(HV _ (dA.drew)).mono ?_;rintro e W1 ⟨rfl,a0⟩;have b0:Hid (Bq w W1):=((dA.drew)).trans a0;clear a0
    go_wp2_with fail
    refine⟨HS _ b0,?_⟩
    iterate 10 refine Zw (by first|rfl|simp[Region.wanted,yielded,g1,Act.put]) (by rintro _ ⟨_,_,_,_,_,_,_,_,_⟩;go_simp<;>rfl) (by go_simp<;>rfl) ?_
    refine Yz (by simp[Region.wanted,yielded,g1,Act.put]) ?_
    go_wp2_with fail
    refine(HB _ b0).mono ?_;rintro e W2 ⟨rfl,a0⟩;have g0:Hid (Bq w W2):=(b0.out).trans (a0.mono (b0.out).size);clear a0
    go_wp2_with fail
    refine⟨HS _ g0,?_⟩
    iterate 2 refine Zw rfl (by rintro _ ⟨_,_,_,_,_,_,_,_,_⟩;go_simp<;>rfl) (by go_simp<;>rfl) ?_
    refine Zu ?_;go_wp2;go_ret;exact⟨cbE HE,g0⟩
  have p0:sk=3\/sk=4:=(by omega);have HV:Hid (∀W,Bq w W->Cq 133 #[Pq Cb,Iq n.b,.pointer av] W λe w'=>e=.returned (.bool vb)/\Bq W w'):=k0 p0 h1;have e5:(n.kind==5)=false:=(by rw[h1,Qh];exact h5);have e6:(n.kind==6)=false:=(by rw[h1,Qh];exact h6)
  by_cases ha:n.a=sx
  ·have HE:Hid (aV=vb):=by show _=_;rw[e0.out,decide_eq_true h1,if_neg h5,if_neg h6,Bool.true_and,decide_eq_true ha,Bool.true_and]
   have ea2:(n.a==sx)=true:=(by simp[ha]);clear h m0 n0 f0 h1 h5 h6 p0 ha hn du e0 h0 k0 i0 l0 q0 o0
   go_enter func103,ntmps103
   go_wp2_with fail
   rw[<-j0.out];refine Zp HS ((dA)) [] [] [] (by kernel_rfl) (λc a d v w h=>by cases d<;>exact h) (λops hG=>?_);clear hG
   iterate 9 refine Zw rfl (by rintro _ ⟨_,_,_,_,_,_,_,_,_⟩;go_simp<;>rfl) (by go_simp<;>rfl) ?_
   refine Zu ?_
   go_wp2_with fail
   refine Zp HS ((dA.drew)) [19] [] [(9,96)] (by kernel_rfl) (λc a d v w h=>by cases d<;>exact h) (λops ⟨g1,_⟩=>?_)
   iterate 19 refine Zw (by first|rfl|simp[Region.wanted,yielded,g1,Act.put]) (by rintro _ ⟨_,_,_,_,_,_,_,_,_⟩;go_simp<;>rfl) (by go_simp<;>rfl) ?_
   refine Yz (by simp[Region.wanted,yielded,g1,Act.put]) ?_
   go_wp2_with fail
   refine(HV _ (dA.drew)).mono ?_;rintro e W1 ⟨rfl,a0⟩;have b0:Hid (Bq w W1):=((dA.drew)).trans a0;clear a0
   go_wp2_with fail
   refine⟨HS _ b0,?_⟩
   iterate 2 refine Zw rfl (by rintro _ ⟨_,_,_,_,_,_,_,_,_⟩;go_simp<;>rfl) (by go_simp<;>rfl) ?_
   refine Zu ?_;go_wp2;go_ret;exact⟨cbE HE,b0⟩
  have HE:Hid (aV=false):=(by show _=_;rw[e0.out,decide_eq_true h1,if_neg h5,if_neg h6,Bool.true_and,decide_eq_false ha,Bool.false_and]);have ea2:(n.a==sx)=false:=(by rw[Qh];exact ha);clear h m0 n0 f0 h1 h5 h6 p0 ha hn du e0 h0 k0 i0 l0 q0 o0
  go_enter func103,ntmps103
  go_wp2_with fail
  rw[<-j0.out];refine Zp HS ((dA)) [] [] [] (by kernel_rfl) (λc a d v w h=>by cases d<;>exact h) (λops hG=>?_);clear hG
  iterate 9 refine Zw rfl (by rintro _ ⟨_,_,_,_,_,_,_,_,_⟩;go_simp<;>rfl) (by go_simp<;>rfl) ?_
  refine Zu ?_
  go_wp2_with fail
  refine Zp HS ((dA.drew)) [19] [] [(9,96)] (by kernel_rfl) (λc a d v w h=>by cases d<;>exact h) (λops ⟨g1,_⟩=>?_)
  iterate 10 refine Zw rfl (by rintro _ ⟨_,_,_,_,_,_,_,_,_⟩;go_simp<;>rfl) (by go_simp<;>rfl) ?_
  iterate 9
   refine Ys rfl (c:=false) (by simp[yielded,g1,Act.put]) (by decide) ?_
  refine Zl rfl (c:=false) (by simp[yielded,g1,Act.put]) (by decide) (HS _ (dA.drew)) ?_
  iterate 2 refine Zw rfl (by rintro _ ⟨_,_,_,_,_,_,_,_,_⟩;go_simp<;>rfl) (by go_simp<;>rfl) ?_
  refine Zu ?_;go_wp2;go_ret;exact⟨cbE HE,dA.drew⟩
 have HE:Hid (aV=false):=by show _=_;rw[e0.out,decide_eq_false h1,Bool.false_and]
 have e1:(n.kind !=sk)=true:=by rw[bne_iff_ne];exact h1
 clear h m0 n0 f0 h1 hn du e0 h0 k0 i0 l0 q0 o0
 go_enter func103,ntmps103
 go_wp2_with fail
 rw[<-j0.out];refine Zp HS ((dA)) [] [] [] (by kernel_rfl) (λc a d v w h=>by cases d<;>exact h) (λops hG=>?_);clear hG
 iterate 9 refine Zw rfl (by rintro _ ⟨_,_,_,_,_,_,_,_,_⟩;go_simp<;>rfl) (by go_simp<;>rfl) ?_
 refine Zu ?_;go_wp2;go_ret;exact⟨cbE HE,dA⟩
end
def zt1(x:List Fl.ar)(k:Int):Prop:=0<=k/\k.toNat<x.length
structure XOk(x:List Fl.ar):Prop where
 k2:∀k,k<x.length->(Fl.nth x k).kind=2->zt1 x (Fl.nth x k).b/\zt1 x (Fl.nth x k).c
 k3:∀k,k<x.length->(Fl.nth x k).kind=3\/(Fl.nth x k).kind=4->zt1 x (Fl.nth x k).b
 k5:∀k,k<x.length->(Fl.nth x k).kind=5\/(Fl.nth x k).kind=6->zt1 x (Fl.nth x k).a/\zt1 x (Fl.nth x k).b
 k6:∀k,k<x.length->(Fl.nth x k).kind=5->zt1 x (Fl.nth x k).c
 k7:∀k,k<x.length->(Fl.nth x k).kind=7->∀j∈(Fl.nth x k).aU,zt1 x j
def zww:Nat->List Fl.aa->Prop
 |0,_=>True
 |d+1,l=>∀i,i<l.length->((l.getD i noS).kind=3\/(l.getD i noS).kind=4\/(l.getD i noS).kind=5\/(l.getD i noS).kind=6)/\zww d (l.getD i noS).aX/\zww d (l.getD i noS).aJ
def Zh.shape{l:List Fl.aa}(h:Zh d S w v l):∃a c,v=.slice a l.length c:=by
 cases d with
 |zero=>obtain⟨rfl,rfl⟩:=h;exact⟨none,0,rfl⟩
 |succ d=>obtain⟨a,c,e,-⟩:=h;exact⟨a,c,e⟩
def zxz.ptr{e:Fl.dd}(h:zxz S w v e):∃a,v=.pointer a:=by
 rcases h with⟨-,b,e,-⟩|⟨-,b,_,_,e,-⟩
 ·exact⟨_,e⟩
 exact⟨_,e⟩
def zf4(Cb Pb Lb Rl:Nat)(vv nv hv:Value)(p:Fl.aS)(vs:List Int)(x:List Fl.ar)(S:Nat->Prop)(d:Nat):Prop:=
 ∀(w:World) (k:Int) (v:Value) (l:List Fl.aa),Xy w Cb Pb Lb Rl vv nv hv p vs x->(∀b,S b->b<w.heap.size)->zt1 x k->Zh d S w v l->zww d l->Cq 52 #[Pq Cb,Iq k,v] w λe w'=>e=.returned (.bool (Fl.cU d x k l))/\Bq w w'
section
variable{nv:Value}
def yt2(hx:XOk x)(H:zf4 Cb Pb Lb Rl vv nv hv p vs x S d)(h:Xy w Cb Pb Lb Rl vv nv hv p vs x)(hS:∀b,S b->b<w.heap.size)(k:Int)(hk:zt1 x k)(q:Value)(s:Fl.aa)(hs:zz6 (Zh d) S w q s)(j0:s.kind=3\/s.kind=4\/s.kind=5\/s.kind=6)(f0:zww d s.aX)(g0:zww d s.aJ):
  Cq 103 #[Pq Cb,Iq k,q] w λe w'=>e=.returned (.bool (Fl.eY (Fl.cU d x) x k s))/\Bq w w':=by
 obtain⟨sb,vp,fv,ev,rfl,h0,hc,b0,hf,he⟩:=hs;obtain⟨av,rfl⟩:=b0.ptr;obtain⟨fa,fc,rfl⟩:=hf.shape;obtain⟨ea,ec,rfl⟩:=he.shape;obtain⟨kn,i0⟩:∃kn:Nat,(kn:Int)=k:=⟨k.toNat,by have:=hk.1;omega⟩
 have e0:k.toNat=kn:=by omega
 have c0:kn<x.length:=by have:=hk.2;omega
 have en:Fl.nd x k=Fl.nth x kn:=by unfold Fl.nd;rw[e0]
 have d0:∀W,Bq w W->∀b,S b->b<W.heap.size:=λW hW b hb=>Qj (hS b hb) hW.size
 have a0:∀(j:Int),zt1 x j->∀W,Bq w W->Cq 133 #[Pq Cb,Iq j,.pointer av] W λe w'=>e=.returned (.bool (Fl.dv x j s.e))/\Bq W w':=λj hj W hW=>
  za8 (h.below hW) (d0 W hW) j hj (λh2=>by have:=hx.k2 j.toNat hj.2 h2;exact this) _ _ (b0.kept (λb hb=>hb) (λb hb=>hW.block b (hS b hb)))
 have aK:∀(j:Int) (v:Value) (l:List Fl.aa),zt1 x j->Zh d S w v l->zww d l->∀W,Bq w W->Cq 52 #[Pq Cb,Iq j,v] W λe w'=>e=.returned (.bool (Fl.cU d x j l))/\Bq W w':=λj v l hj hv hkk W hW=>
  H W j v l (h.below hW) (d0 W hW) hj (Zh.kept (λb hb=>hb) (λb hb=>hW.block b (hS b hb)) _ _ _ hv) hkk
 have h1:=yv2 h kn c0 (s.kind:Nat) (s.x:Nat) (by omega) av fa ea s.aX.length fc s.aJ.length ec (hS _ h0) ⟨hc.c 0 (by omega),hc.c 2 (by omega),hc.c 3 (by omega),hc.c 4 (by omega),hc.c 5 (by omega)⟩ (Fl.dv x (Fl.nth x kn).a s.e) (Fl.dv x (Fl.nth x kn).b s.e) (Fl.cU d x (Fl.nth x kn).b s.aX) (Fl.cU d x (Fl.nth x kn).c s.aJ)
  (λh2 h3=>a0 _ (hx.k5 kn c0 (by omega)).1) (λh2 h3=>a0 _ (hx.k3 kn c0 (by omega))) (λh2 h3=>aK _ _ _ (hx.k5 kn c0 (by omega)).2 hf f0) (λh2 h3=>aK _ _ _ (hx.k6 kn c0 (by omega)) he g0)
 rw[i0]at h1;refine h1.mono ?_;rintro e w' ⟨rfl,hw⟩;refine⟨?_,hw⟩;unfold Fl.eY;rw[en]
 congr 2
 by_cases h5:s.kind=5
 ·rw[if_pos h5,if_pos (by omega)]
 by_cases h6:s.kind=6
 ·rw[if_neg h5,if_pos h6,if_neg (by omega),if_pos (by omega)]
 rw[if_neg h5,if_neg h6,if_neg (by omega),if_neg (by omega)]
end
section
variable{nv:Value}
def zl5(h:Xy w Cb Pb Lb Rl vv nv hv p vs x)(kn:Nat)(hk:kn<x.length)(a:Option Addr)(c:Nat)(len:Nat)(hc:len<=c)(bj:len<=16)(f:Nat->Bool)
  (cG:∀i,i<len->∃b off sp,a=some (Aq b off)/\(∀W,Bq w W->W.cell? (Aq b (off+i))=some (.pointer sp))/\((Fl.nth x kn).kind=7->(Fl.nth x kn).aU.length=len->∀W,Bq w W->Cq 103 #[Pq Cb,Iq ((Fl.nth x kn).aU.getD i 0),.pointer sp] W λe w'=>e=.returned (.bool (f i))/\Bq W w')):
  Cq 52 #[Pq Cb,Iq kn,.slice a len c] w λe w'=>e=.returned (.bool (decide ((Fl.nth x kn).kind=7) && (decide ((Fl.nth x kn).aU.length=len) && (List.range len).all f)))/\Bq w w':=by
 obtain⟨nb,ju,cap,lv,rfl,e0⟩:=h.gt kn hk;obtain⟨no,du⟩:=nmE (ju+kn*6);obtain⟨n,hn⟩:=nmE (Fl.nth x kn);rw[<-hn]at cG e0⊢;rw[<-du]at e0;obtain⟨la,lc,rfl,z0,-,j0⟩:=e0.li;have c2:=h.c2
 have A0:(kn:Int)<(x.length:Int):=by omega
 have hz:=e0.hz;have n0:=e0.c0;have n5:=e0.c5;have HN:Hid (∀W,Bq w W->Cl W nb (no+5) (.slice la n.aU.length lc)):=λW hW=>(hW.cell (p:=(Aq nb (no+5))) hz).trans n5
 have u0:Hid (∀i,i<n.aU.length->∃b off,la=some (Aq b off)/\∀W,Bq w W->Cl W b (off+i) (Iq (n.aU.getD i 0))):=λi hi=>by
  obtain⟨b,off,e,hb,v0⟩:=j0 (by intro h;rw[h]at hi;simp at hi);exact⟨b,off,e,λW hW=>(hW.cell (p:=(Aq b (off+i))) hb).trans (v0 i hi)⟩
 obtain⟨aV,b0⟩:=nmE ((decide (n.kind=7) && (decide (n.aU.length=len) && (List.range len).all f)));rw[<-b0];have a0:=Zz b0;have B0:=Zz du
 have o0:(len:Int)<=16:=by omega
 have C0:(len:Int)<=(c:Int):=by omega
 by_cases h7:n.kind=7
 ·have e7:(n.kind !=7)=false:=by simp[h7]
  by_cases hl:n.aU.length=len
  ·have el:((n.aU.length:Int) !=(len:Int))=false:=by simp[hl]
   have HE:Hid (aV=(List.range len).all f):=(by show _=_;rw[a0.out,decide_eq_true h7,decide_eq_true hl];simp)
   have x0:Hid (∀i,i<len->∃b off sp,a=some (Aq b off)/\(∀W,Bq w W->Cl W b (off+i) (.pointer sp))/\(∀W,Bq w W->Cq 103 #[Pq Cb,Iq (n.aU.getD i 0),.pointer sp] W λe w'=>e=.returned (.bool (f i))/\Bq W w')):=λi hi=>by
    obtain⟨b,off,sp,e1,e2,e3⟩:=cG i hi;exact⟨b,off,sp,e1,e2,e3 h7 hl⟩
   have HL:=Zz hl;clear h e0 cG b0 hn a0 h7 hl j0;subst du
   go_enter func52,ntmps52
   go_wp2_with fail
   go_loopw [33] (λi wr=>Bq w wr/\∃k:Nat,k<=len/\i=Iq k/\(List.range k).all f=true) (λi _=>len - (intOf i).toNat)
   case atStart=>exact⟨Below.refl _ _,0,Nat.zero_le _,rfl,rfl⟩
   case round=>
    obtain⟨p0,k,D0,rfl,aK⟩:=hrel;have g0:=Zz p0;have i0:=Zz aK;clear p0 aK
    by_cases k0:k<len
    ·have l0:(k:Int)<(len:Int):=by omega
     obtain⟨b,off,sp,rfl,q0,d0⟩:=x0 k k0;obtain⟨b2,off2,rfl,r0⟩:=u0 k (by rw[HL.out];exact k0);have d1:=q0 wr g0.out;have d2:=r0 wr g0.out;have d3:=HN wr g0.out;have E0:(k:Int)<(n.aU.length:Int):=(by have:=HL.out;omega);obtain⟨j,hj⟩:=nmE (n.aU.getD k 0);rw[<-hj]at d2 d0;have f0:Hid (Cq 103 #[Pq Cb,Iq j,.pointer sp] wr λe w'=>e=.returned (.bool (f k))/\Bq wr w'):=d0 wr g0.out
     have HF:Hid (f k=false->(List.range len).all f=false):=λh0=>by
      rw[List.all_eq_false];exact⟨k,List.mem_range.2 k0,by rw[h0];simp⟩
     have HT:Hid (f k=true->(List.range (k+1)).all f=true):=λh0=>by rw[List.range_succ,List.all_append,i0.out];simp[h0]
     generalize f k=fk at f0 HF HT;clear q0 r0 d0 hj
     go_wp2_with fail
     refine f0.mono ?_;rintro e w1 ⟨rfl,s0⟩;have t0:Hid (Bq w w1):=g0.trans (s0.mono g0.size);clear s0
     cases fk with
     |false=>
      have m0:Hid (aV=false):=(by show _=_;rw[HE.out];exact HF rfl);go_wp2;go_ret;exact⟨cbE m0,t0⟩
     |true=>
      have y0:Hid ((List.range (k+1)).all f=true):=HT rfl;go_wp2
      go_roundw
      case rel=>exact⟨t0,k+1,by omega,by go_num,y0⟩
      case measure=>simp[intOf];omega
    have l0:¬(k:Int)<(len:Int):=(by omega);have m0:Hid (aV=true):=by
     show _=_;rw[HE.out];have h1:=i0.out;rw[show k=len by omega]at h1;exact h1
    go_wp2;go_ret;exact⟨cbE m0,g0⟩
  have el:((n.aU.length:Int) !=(len:Int))=true:=(by rw[bne_iff_ne];omega);have HE:Hid (aV=false):=(by show _=_;rw[a0.out,decide_eq_false hl];simp);clear h e0 cG b0 hn a0 h7 hl j0;subst du
  go_enter func52,ntmps52
  go_wp2;go_ret;exact⟨cbE HE,Below.refl _ _⟩
 have e7:(n.kind !=7)=true:=by rw[bne_iff_ne];exact h7
 have HE:Hid (aV=false):=by show _=_;rw[a0.out,decide_eq_false h7];simp
 clear h e0 cG b0 hn a0 h7 j0;subst du
 go_enter func52,ntmps52
 go_wp2;go_ret;exact⟨cbE HE,Below.refl _ _⟩
end
section
variable{nv:Value}
def yg3:zf4 Cb Pb Lb Rl vv nv hv p vs x S 0:=by
 intro w k v l h hS hk a0 _;obtain⟨rfl,rfl⟩:=a0;obtain⟨kn,b0⟩:∃kn:Nat,(kn:Int)=k:=⟨k.toNat,by have:=hk.1;omega⟩
 have e0:k.toNat=kn:=by omega
 have h1:=zl5 h kn (by have:=hk.2;omega) none 0 0 (Nat.le_refl _) (by omega) (λ_=>true) (λi hi=>by omega);rw[b0]at h1;refine h1.mono ?_;rintro e w' ⟨rfl,hw⟩;refine⟨?_,hw⟩;unfold Fl.cU Fl.nd;rw[e0]
 congr 3
 by_cases hl:(Fl.nth x kn).aU=[]
 ·simp[hl]
 have:(Fl.nth x kn).aU.length≠0:=λh=>hl (Qi h);simp[hl,this]
def yg4(hx:XOk x)(H:zf4 Cb Pb Lb Rl vv nv hv p vs x S d):zf4 Cb Pb Lb Rl vv nv hv p vs x S (d+1):=by
 intro w k v l h hS hk g0 h0;obtain⟨ao,cap,rfl,hc,-,i0,a0⟩:=g0;obtain⟨kn,j0⟩:∃kn:Nat,(kn:Int)=k:=⟨k.toNat,by have:=hk.1;omega⟩
 have e0:k.toNat=kn:=by omega
 have c0:kn<x.length:=by have:=hk.2;omega
 have h1:=zl5 h kn c0 ao cap l.length hc i0 (λi=>Fl.eY (Fl.cU d x) x ((Fl.nth x kn).aU.getD i 0) (l.getD i noS)) (λi hi=>by
  obtain⟨b,off,e,hb,k0⟩:=a0 (by rintro rfl;simp at hi);obtain⟨q,hq,d0⟩:=k0 i hi;obtain⟨sb,vp,fv,ev,rfl,-⟩:=id d0;refine⟨b,off,some (Aq sb 0),e,λW hW=>(hW.cell (p:=(Aq b (off+i))) (hS b hb)).trans hq,λh7 bj W hW=>?_⟩;have b0:=h0 i hi;have dW:(Fl.nth x kn).aU.getD i 0∈(Fl.nth x kn).aU:=by
   have f0:i<(Fl.nth x kn).aU.length:=(by omega);rw[Qa,Qb f0];exact List.getElem_mem f0
  exact yt2 hx H (h.below hW) (λb hb=>Qj (hS b hb) hW.size) _ (hx.k7 kn c0 h7 _ dW) _ _ (d0.kept (λv l hh=>Zh.kept (λb hb=>hb) (λb hb=>hW.block b (hS b hb)) _ _ _ hh) (λb hb=>hb) (λb hb=>hW.block b (hS b hb))) b0.1 b0.2.1 b0.2.2)
 rw[j0]at h1;refine h1.mono ?_;rintro e w' ⟨rfl,hw⟩;refine⟨?_,hw⟩;unfold Fl.cU Fl.nd;rw[e0]
def zky(hx:XOk x):∀d,zf4 Cb Pb Lb Rl vv nv hv p vs x S d
 |0=>yg3
 |d+1=>yg4 hx (zky hx d)
end
def zwv:Array Value:=#[Iq 0,.func (.func 94) #[] #[],Iq 0,.func (.func 95) #[] #[],Iq 0,.func (.func 96) #[] #[],Iq 1,.func (.func 97) #[] #[],Iq 1,.func (.func 98) #[] #[],Iq 1,.func (.func 99) #[] #[],Iq 1,.func (.func 100) #[] #[],Iq 2,.func (.func 101) #[] #[]]
def yow(w:World):Cq 50 #[] w λe w'=>e=.returned (.slice (some (Aq w.heap.size 0)) 8 8)/\w'=w.alloc (.cells zwv 211):=by
 go_enter func50,ntmps50
 go_wp2;go_ret;exact⟨rfl,rfl⟩
def yov(h:w.heap[Rl]?=some (.cells zwv 211 (0,0))):∀k,k<8->w.cell? (Aq Rl (k*2))=some (Iq (zoz k))/\w.cell? (Aq Rl (k*2+1))=some (.func (.func (zf2 k)) #[] #[]):=by
 intro k hk;rw[cell_of_row _ _ (k*2) _ _ (0,0) h,cell_of_row _ _ (k*2+1) _ _ (0,0) h];rcases(show k=0\/k=1\/k=2\/k=3\/k=4\/k=5\/k=6\/k=7 by omega) with rfl|rfl|rfl|rfl|rfl|rfl|rfl|rfl<;>exact⟨rfl,rfl⟩
def za9{lv:Value}{xs ys:List Int}(hp:Pb<w.heap.size)(c1:w.cell? (Aq Pb 1)=some bD)(hx:Zv w.heap.size w bD xs)(hy:Zv w.heap.size w lv ys)(hl:xs.length<=10000/\ys.length<=10000):
  Cq 33 #[Pq Pb,lv] w λe w'=>Bq w w'/\∃a c,e=.returned (.slice a (xs++ys).length c)/\Zv w'.heap.size w' (.slice a (xs++ys).length c) (xs++ys):=by
 obtain⟨a0,k0,e0⟩:=Vo hx;obtain⟨a1,k1,e1⟩:=Vo hy;subst e0;subst e1;have hB:Bq w (w.alloc (.cells #[.slice a0 xs.length k0,.slice a1 ys.length k1] 36)):=bA;obtain⟨zs,b0⟩:=nmE (xs++ys);have HC:Hid (Cq 62 #[.slice (some (Aq w.heap.size 0)) 2 2] (w.alloc (.cells #[.slice a0 xs.length k0,.slice a1 ys.length k1] 36)) λe w'=>Bq w w'/\∃a c,e=.returned (.slice a zs.length c)/\Zv w'.heap.size w' (.slice a zs.length c) zs):=by
  refine(zhv (w.alloc (.cells #[.slice a0 xs.length k0,.slice a1 ys.length k1] 36)) w.heap.size _ _ xs ys (by simp) (by simp) (by simp) ((hx.below hB).mono hB.size) ((hy.below hB).mono hB.size) hl).mono ?_;rintro e w' ⟨hb,v,rfl,ho⟩;rw[<-b0]at ho;refine⟨hB.trans (hb.mono hB.size),?_⟩;have hi:=Zv.dE ho;obtain⟨a,c,e⟩:=Vo hi;subst e;exact⟨a,c,rfl,hi⟩
 rw[<-b0];clear hx hy b0 hB
 go_enter func33,ntmps33
 go_wp2_with fail
 refine HC.mono ?_;rintro e w1 ⟨hb,a,c,rfl,hi⟩;have HE:Hid (Bq w w1/\Zv w1.heap.size w1 (.slice a zs.length c) zs):=⟨hb,hi⟩;clear hb hi;go_wp2;go_ret;exact⟨HE.1,a,c,rfl,HE.2⟩
def yj1(aV:Nat×Int)(w:World)(e:Ending)(w':World):Prop:=
 Bq w w'/\((aV.1=0/\e=.returned .nilIface)\/(aV.1=10/\e=.returned (.iface 23 (Iq 10)))\/(aV.1=9/\∃a,e=.returned (.iface 73 (Pq a))/\w'.cell? (Aq a 0)=some (Iq 9)/\w'.cell? (Aq a 1)=some (Iq aV.2)))
def yj2(u:World)(o:Obj)(k:Nat)(hk:u.heap.size=k):(u.alloc o).heap[k]?=some o:=by subst hk;exact heap_alloc_last u o
structure CpIn(w:World)(Pb Lb:Nat)(bD hv bv lv nv:Value)(p:Fl.aS)(S:Nat->Prop)(ls:List Int)(x:List Fl.ar):Prop where
 hz:Pb<w.heap.size/\Lb<w.heap.size
 p0:w.cell? (Aq Pb 0)=some (Pq Lb)
 p1:w.cell? (Aq Pb 1)=some bD
 p2:w.cell? (Aq Pb 2)=some hv
 p3:w.cell? (Aq Pb 3)=some (Iq p.am)
 p4:w.cell? (Aq Pb 4)=some bv
 la:Ur w Lb p.n p.leq
 ci:Zv w.heap.size w bD (p.cells.map λ(y:Nat)=>(y:Int))
 hi:Zv w.heap.size w hv (p.aj.map λ(y:Nat)=>(y:Int))
 bs:Zh 4 S w bv p.aX
 hS:∀b,S b->b<w.heap.size
 li:Zv w.heap.size w lv ls
 no:Yv w.heap.size w nv x
 n6:p.n<=6
 cl:p.cells.length<=6/\p.aj.length<=3
 cv:(∀y∈p.cells,y<p.n)/\∀y∈p.aj,y<p.n
 kd:zww 4 p.aX
 l0:ls.length<=4/\∀y∈ls,0<=y
 x0:0<x.length/\x.length<=200
 xo:XOk x
def CpIn.below{w w':World}{Pb Lb:Nat}{bD hv bv lv nv:Value}{p:Fl.aS}{S:Nat->Prop}{ls:List Int}{x:List Fl.ar}(h:CpIn w Pb Lb bD hv bv lv nv p S ls x)(hb:Bq w w'):CpIn w' Pb Lb bD hv bv lv nv p S ls x:=by
 have hz:=hb.size;have q:∀i,w'.cell? (Aq Pb i)=w.cell? (Aq Pb i):=λi=>hb.cell (p:=(Aq Pb i)) h.hz.1;exact{hz:=⟨by have:=h.hz.1;omega,by have:=h.hz.2;omega⟩,p0:=(q _).trans h.p0,p1:=(q _).trans h.p1,p2:=(q _).trans h.p2,p3:=(q _).trans h.p3,p4:=(q _).trans h.p4,la:=h.la.block (hb.block _ h.hz.2),ci:=(h.ci.below hb).mono hz,hi:=(h.hi.below hb).mono hz,bs:=Zh.kept (λb hb=>hb) (λb hs=>hb.block b (h.hS b hs)) _ _ _ h.bs,hS:=λb hs=>Qj (h.hS b hs) hz,li:=(h.li.below hb).mono hz,no:=(h.no.below hb).mono hz,n6:=h.n6,cl:=h.cl,cv:=h.cv,kd:=h.kd,l0:=h.l0,x0:=h.x0,xo:=h.xo}
def CpIn.nu{W:World}{bv lv nv:Value}(h:CpIn w Pb Lb bD hv bv lv nv p S ls x)(hb:Bq w W)(b0:Zv W.heap.size W vv (Fl.bN p ls)):
  Xy ((W.alloc (.cells zwv 211)).alloc (.cells #[Pq Pb,vv,nv,.slice (some (Aq W.heap.size 0)) 8 8] 139)) (W.heap.size+1) Pb Lb W.heap.size vv nv hv p (Fl.bN p ls) x:=by
 have hB:Bq W ((W.alloc (.cells zwv 211)).alloc (.cells #[Pq Pb,vv,nv,.slice (some (Aq W.heap.size 0)) 8 8] 139)):=(bA).alloc (by simp) _;have h2:=(h.below hb).below hB;obtain⟨W3,a0⟩:=nmE (((W.alloc (.cells zwv 211)).alloc (.cells #[Pq Pb,vv,nv,.slice (some (Aq W.heap.size 0)) 8 8] 139)))
 have rC:W3.heap[W.heap.size+1]?=some (.cells #[Pq Pb,vv,nv,.slice (some (Aq W.heap.size 0)) 8 8] 139 (0,0)):=by rw[a0];exact yj2 _ _ _ (by simp)
 have rR:W3.heap[W.heap.size]?=some (.cells zwv 211 (0,0)):=by rw[a0,Below.heap_alloc _ _ _ (by simp)];exact yj2 _ _ _ rfl
 have d0:W3.heap.size=W.heap.size+2:=by rw[a0];simp
 rw[<-a0]at h2 hB⊢;exact{hz:=⟨by omega,h2.hz.1,h2.hz.2,by omega⟩,c0:=cell_of_row _ _ 0 _ _ (0,0) rC,c1:=cell_of_row _ _ 1 _ _ (0,0) rC,c2:=cell_of_row _ _ 2 _ _ (0,0) rC,c3:=cell_of_row _ _ 3 _ _ (0,0) rC,p0:=h2.p0,p2:=h2.p2,la:=h2.la,vi:=(b0.below hB).mono hB.size,hi:=h2.hi,no:=h2.no,ru:=yov rR,n6:=h2.n6}
end Go.Proofs.YtfhpibppblbgcaaGreatDoor
