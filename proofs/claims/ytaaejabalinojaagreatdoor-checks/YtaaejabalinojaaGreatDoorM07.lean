import Derived.Test.YtaaejabalinojaaGreatDoorM06
set_option linter.all false
set_option maxRecDepth 100000
set_option maxHeartbeats 40000000
namespace Go.Proofs.YtaaejabalinojaaGreatDoor
open Go.RowKit Go.Proofs.Tryz
structure zw5(p:Fl.Prog)(x:List Fl.Node)(n:Fl.Node):Prop where
 kd:0<=n.kind/\n.kind<=7
 lv:0<=n.level
 k1:n.kind=1->0<=n.a
 k2:n.kind=2->POk p x n.b/\POk p x n.c
 k3:n.kind=3\/n.kind=4->0<=n.a/\POk p x n.b
 k5:n.kind=5\/n.kind=6->POk p x n.a/\POk p x n.b
 k6:n.kind=5->POk p x n.c
 k7:n.kind=7->(∀k∈n.list,POk p x k)/\n.list.length<=100
section
variable{w:World}{Cb Pb Lb Rl nb no:Nat}{vv nv hv lv:Value}{p:Fl.Prog}{ls:List Int}{x:List Fl.Node}{n:Fl.Node}
def yk3(h:Ya w Cb Pb Lb Rl vv nv hv p (Fl.vars p ls) x)(hn:Jy w nb no n lv)(ho:zw5 p x n)(hl:n.level<p.n)(b0:∀y∈Fl.vars p ls,0<=y/\y<p.n)(c0:(Fl.vars p ls).length<=100)(d0:∀y∈p.chans,y<p.n)(e0:p.chans.length<=100)(kd:Nat)(f0:(kd:Int)=n.kind):
  Calls prog (zj7 kd) #[.pointer (some ⟨Cb,0,none⟩),.pointer (some ⟨nb,no,none⟩)] w λe w'=>e=.returned (.bool (Fl.ruleOf p ls x n))/\Below w.heap.size w w':=by
 have hk:=ho.kd;have a0:0<=n.level/\n.level<p.n:=⟨ho.lv,hl⟩;rcases(show kd=0\/kd=1\/kd=2\/kd=3\/kd=4\/kd=5\/kd=6\/kd=7 by omega) with rfl|rfl|rfl|rfl|rfl|rfl|rfl|rfl
 ·have e:Fl.ruleOf p ls x n=true:=by unfold Fl.ruleOf;rw[if_pos (by omega)]
  rw[e];exact zh8 _ _
 ·have e:Fl.ruleOf p ls x n=(decide (n.a<(Fl.vars p ls).length) && Fl.under p ((Fl.vars p ls).getD n.a.toNat 0) n.level):=by unfold Fl.ruleOf;rw[if_neg (by omega),if_pos (by omega)]
  rw[e];exact zh7 h hn (ho.k1 (by omega)) a0 b0 c0
 ·have e:Fl.ruleOf p ls x n=(decide (n.a<5) && (decide (Fl.role (Fl.nd x n.b).kind=0) && (decide (Fl.role (Fl.nd x n.c).kind=0) && (Fl.under p (Fl.nd x n.b).level n.level && Fl.under p (Fl.nd x n.c).level n.level)))):=by unfold Fl.ruleOf;rw[if_neg (by omega),if_neg (by omega),if_pos (by omega)]
  rw[e];exact zdz h hn (ho.k2 (by omega)).1 (ho.k2 (by omega)).2 a0
 ·have e:Fl.ruleOf p ls x n=Fl.mayGo p x n (Fl.vars p ls):=by unfold Fl.ruleOf;rw[if_neg (by omega),if_neg (by omega),if_neg (by omega),if_pos (by omega)]
  rw[e];exact zh9 h hn (ho.k3 (by omega)).1 (ho.k3 (by omega)).2 a0 b0 c0
 ·have e:Fl.ruleOf p ls x n=Fl.mayGo p x n (p.chans.map λ(y:Nat)=>(y:Int)):=by unfold Fl.ruleOf;rw[if_neg (by omega),if_neg (by omega),if_neg (by omega),if_neg (by omega),if_pos (by omega)]
  rw[e];exact zhz h hn (ho.k3 (by omega)).1 (ho.k3 (by omega)).2 a0 d0 e0
 ·have e:Fl.ruleOf p ls x n=(Fl.guards p x n n.b && Fl.guards p x n n.c):=by unfold Fl.ruleOf;rw[if_neg (by omega),if_neg (by omega),if_neg (by omega),if_neg (by omega),if_neg (by omega),if_pos (by omega)]
  rw[e];exact zdy h hn (ho.k5 (by omega)).1 (ho.k5 (by omega)).2 (ho.k6 (by omega)) a0
 ·have e:Fl.ruleOf p ls x n=Fl.guards p x n n.b:=by unfold Fl.ruleOf;rw[if_neg (by omega),if_neg (by omega),if_neg (by omega),if_neg (by omega),if_neg (by omega),if_neg (by omega),if_pos (by omega)]
  rw[e];exact zl2 h hn (ho.k5 (by omega)).1 (ho.k5 (by omega)).2 a0
 have e:Fl.ruleOf p ls x n=n.list.all (zv0 p x n):=by unfold Fl.ruleOf;rw[if_neg (by omega),if_neg (by omega),if_neg (by omega),if_neg (by omega),if_neg (by omega),if_neg (by omega),if_neg (by omega)];rfl
 rw[e];exact zl3 h hn (ho.k7 (by omega)).1 (ho.k7 (by omega)).2 a0
def yx7(h:Ya w Cb Pb Lb Rl vv nv hv p (Fl.vars p ls) x)(hn:Jy w nb no n lv)(ho:zw5 p x n)(f0:∀y∈Fl.vars p ls,0<=y/\y<p.n)(g0:(Fl.vars p ls).length<=100)(h0:∀y∈p.chans,y<p.n)(i0:p.chans.length<=100):
  Calls prog 90 #[.pointer (some ⟨Cb,0,none⟩),.pointer (some ⟨nb,no,none⟩)] w λe w'=>e=.returned (.bool (Fl.follows p ls x n))/\Below w.heap.size w w':=by
 obtain⟨kd,e0⟩:∃kd:Nat,(kd:Int)=n.kind:=⟨n.kind.toNat,by have:=ho.kd;omega⟩
 have k0:kd<8:=by have:=ho.kd;omega
 have l0:(kd:Int)<8:=by omega
 obtain⟨f,hf⟩:=nmE (zj7 kd)
 have HS:Hid (∀W,Below w.heap.size w W->W.cell? ⟨Cb,0,none⟩=some (.pointer (some ⟨Pb,0,none⟩))/\W.cell? ⟨Pb,0,none⟩=some (.pointer (some ⟨Lb,0,none⟩))/\W.cell? ⟨Cb,3,none⟩=some (.slice (some ⟨Rl,0,none⟩) 8 8)/\W.cell? ⟨nb,no,none⟩=some (.int .i64 (kd:Nat))/\W.cell? ⟨nb,no+1,none⟩=some (.int .i64 n.level)/\W.cell? ⟨Rl,kd*2+1,none⟩=some (.func (.func f) #[] #[])):=λW hW=>by
  have h1:=h.below hW;have h2:=hn.below hW;exact⟨h1.c0,h1.p0,h1.c3,by rw[e0];exact h2.c0,h2.c1,by rw[hf];exact(h1.ru kd k0).2⟩
 have a0:Hid (∀W,Below w.heap.size w W->Calls prog 80 #[.pointer (some ⟨Lb,0,none⟩),.int .i64 n.level] W λe w'=>e=.returned (.bool (decide (0<=n.level/\n.level<p.n)))/\w'=W):=λW hW=>yvx (h.below hW).la n.level
 by_cases hl:n.level<p.n
 ·have HR:Hid (∀W,Below w.heap.size w W->Calls prog f #[.pointer (some ⟨Cb,0,none⟩),.pointer (some ⟨nb,no,none⟩)] W λe w'=>e=.returned (.bool (Fl.ruleOf p ls x n))/\Below W.heap.size W w'):=λW hW=>by rw[hf];exact yk3 (h.below hW) (hn.below hW) ho hl f0 g0 h0 i0 kd e0
  have d0:Hid (Fl.follows p ls x n=Fl.ruleOf p ls x n):=(by show _=_;unfold Fl.follows;rw[decide_eq_true hl,Bool.true_and]);rw[decide_eq_true (show 0<=n.level/\n.level<p.n from⟨ho.lv,hl⟩)]at a0;generalize Fl.ruleOf p ls x n=ru at*;clear h hn ho f0 g0 h0 i0 e0;rcases(show kd=0\/kd=1\/kd=2\/kd=3\/kd=4\/kd=5\/kd=6\/kd=7 by omega) with hk|hk|hk|hk|hk|hk|hk|hk
  all_goals
   rw[hk]at hf;simp[zj7]at hf;have HF:=Zz hf;clear hf hk
   go_enter func90,ntmps90
   go_wp2_with fail
   refine Zn HS ((Below.refl _ _).drew) [11,26] [] [(12,17)] (by kernel_rfl) (λc a d v w h=>by cases d<;>exact h) (λops ⟨g1,_⟩=>?_)
   iterate 11 refine Zw rfl (by rintro _ ⟨_,_,_,_,_,_⟩;go_simp<;>rfl) (by go_simp<;>rfl) ?_
   refine Zk ?_
   go_wp2_with fail
   refine(a0.out _ (Below.refl _ _).drew).mono ?_;rintro e W1 ⟨rfl,b0⟩;rw[b0];clear b0 W1
   go_wp2_with fail
   refine⟨HS.out _ (Below.refl _ _).drew,?_⟩
   iterate 14 refine Zw (by first|rfl|simp[Region.wanted,yielded,g1,Act.put]) (by rintro _ ⟨_,_,_,_,_,_⟩;go_simp<;>rfl) (by go_simp<;>rfl) ?_
   refine Zc (by simp[Region.wanted,yielded,g1,Act.put]) ?_;have m0:=HF.out;subst m0
   go_wp2_with fail
   refine(HR.out _ (Below.refl _ _).drew).mono ?_;rintro e W1 ⟨rfl,b0⟩;have j0:Hid (Below w.heap.size w W1):=(Below.refl _ _).drew.trans b0;clear b0
   go_wp2_with fail
   refine⟨HS.out _ j0.out,?_⟩
   iterate 2 refine Zw rfl (by rintro _ ⟨_,_,_,_,_,_⟩;go_simp<;>rfl) (by go_simp<;>rfl) ?_
   refine Zs ?_;go_wp2;go_ret;exact⟨cbE d0.out,j0.out⟩
 have d0:Hid (Fl.follows p ls x n=false):=by show _=_;unfold Fl.follows;rw[decide_eq_false hl,Bool.false_and]
 rw[decide_eq_false (show ¬(0<=n.level/\n.level<p.n) from λh=>hl h.2)]at a0;clear h hn ho f0 g0 h0 i0 e0 hf
 go_enter func90,ntmps90
 go_wp2_with fail
 refine Zn HS ((Below.refl _ _).drew) [11,26] [] [(12,17)] (by kernel_rfl) (λc a d v w h=>by cases d<;>exact h) (λops ⟨g1,_⟩=>?_)
 iterate 11 refine Zw rfl (by rintro _ ⟨_,_,_,_,_,_⟩;go_simp<;>rfl) (by go_simp<;>rfl) ?_
 refine Zk ?_
 go_wp2_with fail
 refine(a0.out _ (Below.refl _ _).drew).mono ?_;rintro e W1 ⟨rfl,b0⟩;rw[b0];clear b0 W1
 go_wp2_with fail
 refine⟨HS.out _ (Below.refl _ _).drew,?_⟩;refine Zw rfl (by rintro _ ⟨_,_,_,_,_,_⟩;go_simp<;>rfl) (by go_simp<;>rfl) ?_
 iterate 13
  refine Ys rfl (c:=false) (by simp[yielded,g1,Act.put]) (by decide) ?_
 refine Zp rfl (c:=false) (by simp[yielded,g1,Act.put]) (by decide) (HS.out _ (Below.refl _ _).drew) ?_
 iterate 2 refine Zw rfl (by rintro _ ⟨_,_,_,_,_,_⟩;go_simp<;>rfl) (by go_simp<;>rfl) ?_
 refine Zs ?_;go_wp2;go_ret;exact⟨cbE d0.out,(Below.refl _ _).drew⟩
end
def Vz(p:Fl.Prog)(ls:List Int)(x:List Fl.Node):Int:=match (List.range x.length).find? (λk=> !Fl.follows p ls x (Fl.nth x k)) with
 |some k=>(k:Int)
 |none=> -1
section
variable{w:World}{Cb Pb Lb Rl:Nat}{vv nv hv:Value}{p:Fl.Prog}{ls:List Int}{x:List Fl.Node}
def Ya.nodeAt{vs:List Int}(h:Ya w Cb Pb Lb Rl vv nv hv p vs x)(k:Nat)(hk:k<x.length):∃b off cap lv,nv=.slice (some ⟨b,off,none⟩) x.length cap/\Jy w b (off+k*6) (Fl.nth x k) lv:=by
 obtain⟨ao,cap,e,-,-,h4⟩:=h.no;obtain⟨b,off,e2,hb,hc⟩:=h4 (by rintro rfl;simp at hk);obtain⟨lv,h0,h1,h2,h3,h5,h6,h7⟩:=hc k hk;exact⟨b,off,cap,lv,by rw[e,e2],⟨hb,h1,h2,h3,h5,h6,h7,h0⟩⟩
def zj9(h:Ya w Cb Pb Lb Rl vv nv hv p (Fl.vars p ls) x)(hx:∀k,k<x.length->(∀j,j<k->Fl.follows p ls x (Fl.nth x j)=true)->zw5 p x (Fl.nth x k))(B0:x.length<=100000)(k0:∀y∈Fl.vars p ls,0<=y/\y<p.n)(l0:(Fl.vars p ls).length<=100)(m0:∀y∈p.chans,y<p.n)(n0:p.chans.length<=100):
  Calls prog 51 #[.pointer (some ⟨Cb,0,none⟩)] w λe w'=>e=.returned (.int .i64 (Vz p ls x))/\Below w.heap.size w w':=by
 have HC:Hid (∀W,Below w.heap.size w W->W.cell? ⟨Cb,2,none⟩=some nv):=λW hW=>(h.below hW).c2
 have HF:Hid (∀k,k<x.length->(∀j,j<k->Fl.follows p ls x (Fl.nth x j)=true)->∃b off cap,nv=.slice (some ⟨b,off,none⟩) x.length cap/\∀W,Below w.heap.size w W->Calls prog 90 #[.pointer (some ⟨Cb,0,none⟩),.pointer (some ⟨b,off+k*6,none⟩)] W λe w'=>e=.returned (.bool (Fl.follows p ls x (Fl.nth x k)))/\Below W.heap.size W w'):=λk hk hall=>by
  obtain⟨b,off,cap,lv,e,v0⟩:=h.nodeAt k hk;exact⟨b,off,cap,e,λW hW=>yx7 (h.below hW) (v0.below hW) (hx k hk hall) k0 l0 m0 n0⟩
 have x0:Hid (∃a c,nv=.slice a x.length c):=by obtain⟨a,c,e,-⟩:=h.no;exact⟨a,c,e⟩
 have b0:Hid (∀k,k<x.length->(∀j,j<k->Fl.follows p ls x (Fl.nth x j)=true)->Fl.follows p ls x (Fl.nth x k)=false->Vz p ls x=k):=λk hk hall h0=>by
  unfold Vz;rw[Fl.find_first _ _ k (λj hj=>by rw[hall j hj];rfl) hk (by rw[h0];rfl)]
 have e0:Hid ((∀j,j<x.length->Fl.follows p ls x (Fl.nth x j)=true)->Vz p ls x= -1):=λhall=>by
  unfold Vz;rw[Fl.find_none _ _ (λj hj=>by rw[hall j hj];rfl)]
 have y0:(x.length:Int)<=100000:=by omega
 obtain⟨a0,c0,j0⟩:=x0.out;have c2:=h.c2;rw[j0]at c2;obtain⟨fw,o0⟩:=nmE (Vz p ls x);rw[<-o0]at b0 e0⊢;have C0:=Zz j0;clear h hx k0 l0 m0 n0 j0 o0
 go_enter func51,ntmps51
 go_wp2_with fail
 go_loopw [9] (λi wr=>Below w.heap.size w wr/\∃k:Nat,k<=x.length/\i=.int .i64 k/\∀j,j<k->Fl.follows p ls x (Fl.nth x j)=true) (λi _=>x.length - (intOf i).toNat)
 case atStart=>exact⟨Below.refl _ _,0,Nat.zero_le _,rfl,λj hj=>by omega⟩
 case round=>
  obtain⟨p0,k,hk,rfl,hall⟩:=hrel;have i0:=Zz p0;have d0:=Zz hall;clear p0 hall
  by_cases q0:k<x.length
  ·have z0:(k:Int)<(x.length:Int):=by omega
   obtain⟨b,off,cap,e,f0⟩:=HF.out k q0 d0.out;have cw:=HC.out wr i0.out;rw[e]at cw;have g0:Hid (Calls prog 90 #[.pointer (some ⟨Cb,0,none⟩),.pointer (some ⟨b,off+k*6,none⟩)] wr λe w'=>e=.returned (.bool (Fl.follows p ls x (Fl.nth x k)))/\Below wr.heap.size wr w'):=f0 wr i0.out;have r0:Hid (Fl.follows p ls x (Fl.nth x k)=false->fw=(k:Int)):=λh0=>b0.out k q0 d0.out h0
   have s0:Hid (Fl.follows p ls x (Fl.nth x k)=true->∀j,j<k+1->Fl.follows p ls x (Fl.nth x j)=true):=λh0 j hj=>by
    by_cases A0:j=k
    ·rw[A0];exact h0
    exact d0.out j (by omega)
   generalize Fl.follows p ls x (Fl.nth x k)=fk at g0 r0 s0;clear e f0
   go_wp2_with fail
   refine g0.out.mono ?_;rintro e w1 ⟨rfl,t0⟩;have u0:Hid (Below w.heap.size w w1):=i0.out.trans (t0.mono i0.out.size);clear t0
   cases fk with
   |false=>
    have HE:Hid (fw=(k:Int)):=r0.out rfl;go_wp2;go_ret;exact⟨congrArg (λb=>Ending.returned (.int .i64 b)) HE.out.symm,u0.out⟩
   |true=>
    have HN:Hid (∀j,j<k+1->Fl.follows p ls x (Fl.nth x j)=true):=s0.out rfl;go_wp2
    go_roundw
    case rel=>exact⟨u0.out,k+1,by omega,by go_num,HN.out⟩
    case measure=>simp[intOf];omega
  have z0:¬(k:Int)<(x.length:Int):=(by omega);have HE:Hid (fw= -1):=e0.out (λj hj=>d0.out j (by omega));go_wp2;go_ret;exact⟨congrArg (λb=>Ending.returned (.int .i64 b)) HE.out.symm,i0.out⟩
end
section
variable{w:World}{Pb Lb:Nat}{p:Fl.Prog}
def zdx(i0:Jl w Lb p.n p.leq)(p0:w.cell? ⟨Pb,0,none⟩=some (.pointer (some ⟨Lb,0,none⟩)))(p3:w.cell? ⟨Pb,3,none⟩=some (.int .i64 p.locals))(v:Value)(ls:List Int)(hl:Zv w.heap.size w v ls)(n0:ls.length<=100000):
  Calls prog 48 #[.pointer (some ⟨Pb,0,none⟩),v] w λe w'=>e=.returned (.bool (decide (ls.length=p.locals/\∀y∈ls,0<=y/\y<p.n)))/\w'=w:=by
 obtain⟨ao,cap,rfl,hc,-,a0⟩:=hl;have g0:Hid (∀y:Int,Calls prog 80 #[.pointer (some ⟨Lb,0,none⟩),.int .i64 y] w λe w'=>e=.returned (.bool (decide (0<=y/\y<p.n)))/\w'=w):=λy=>yvx i0 y
 have l0:Hid (∀i,(hi:i<ls.length)->∃b off,ao=some ⟨b,off,none⟩/\w.cell? ⟨b,off+i,none⟩=some (.int .i64 ls[i])):=λi hi=>by
  obtain⟨b,off,e,-,h1⟩:=a0 (by rintro rfl;simp at hi);exact⟨b,off,e,by rw[h1 i hi,Qa,Qb hi];rfl⟩
 have o0:(ls.length:Int)<=100000:=by omega
 have q0:(ls.length:Int)<=(cap:Int):=by omega
 obtain⟨m,hm⟩:=nmE (p.locals);rw[<-hm]at p3⊢;obtain⟨res,b0⟩:=nmE (decide (ls.length=m/\∀y∈ls,0<=y/\y<(p.n:Int)));rw[<-b0];have d0:=Zz b0;clear i0 a0 hm b0
 go_enter func48,ntmps48
 go_wp2_with fail
 go_loopw [9] (λi wr=>wr=w/\∃k:Nat,k<=ls.length/\i=.int .i64 k/\∀y∈ls.take k,0<=y/\y<(p.n:Int)) (λi _=>ls.length - (intOf i).toNat)
 case atStart=>exact⟨rfl,0,Nat.zero_le _,rfl,λy hy=>by simp at hy⟩
 case round=>
  obtain⟨j0,k,hk,rfl,hall⟩:=hrel;have e0:=Zz hall;rw[j0];clear j0 hall wr
  by_cases h0:k<ls.length
  ·have m0:(k:Int)<(ls.length:Int):=by omega
   obtain⟨b,off,rfl,cy⟩:=l0.out k h0;obtain⟨y,hy⟩:=nmE (ls[k]);rw[<-hy]at cy;have f0:Hid (y∈ls/\ls.take (k+1)=ls.take k++[y]):=(by rw[hy];exact⟨List.getElem_mem h0,List.take_succ_eq_append_getElem h0⟩);clear hy
   go_wp2_with fail
   refine(g0.out y).mono ?_;rintro e w1 ⟨rfl,k0⟩;rw[k0];clear k0 w1
   by_cases c0:0<=y/\y<(p.n:Int)
   ·have HN:Hid (∀z∈ls.take (k+1),0<=z/\z<(p.n:Int)):=λz hz=>by
     rw[f0.out.2]at hz;rcases List.mem_append.1 hz with h1|h1
     ·exact e0.out z h1
     simp at h1;subst h1;exact c0
    rw[decide_eq_true c0];clear c0;go_wp2
    go_roundw
    case rel=>exact⟨by first|rfl|trivial,k+1,by omega,by go_num,HN.out⟩
    case measure=>simp[intOf];omega
   have HE:Hid (res=false):=(by show _=_;rw[d0.out];exact decide_eq_false (λh=>c0 (h.2 y f0.out.1)));rw[decide_eq_false c0];clear c0;go_wp2;go_ret;exact⟨cbE HE.out,rfl⟩
  have m0:¬(k:Int)<(ls.length:Int):=(by omega);have HE:Hid (res=((ls.length:Int)==(m:Int))):=by
   have h1:=e0.out;rw[List.take_of_length_le (by omega)]at h1;show _=_;rw[d0.out,<-yvw]
   congr 1
   exact propext ⟨λh=>h.1,λh=>⟨h,h1⟩⟩
  go_wp2;go_ret;exact⟨cbE HE.out,rfl⟩
end
end Go.Proofs.YtaaejabalinojaaGreatDoor
